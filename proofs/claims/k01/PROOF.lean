import PyProof.Rows.All
import Wide.All
import OpenK.AllK
import Wide.FinOn
import KE.KExcSuper
import HandS.ForMost
import HandS.ForExc
import HandS.ExcIs
import HandS.ExcField
import PySem.Challenge.RW_sawnsheets_k01_packets_validated
import HandS.IsInst
import HandS.Property
import HandS.Lambda
import HandS.EndOwn
import HandS.TupMul
import KE.KNestM
set_option Elab.async false
set_option linter.all false
set_option maxRecDepth 100000
set_option maxHeartbeats 8000000
/-! An own error over ValueError (through another own class) whose __init__ says super().__init__(f'..{part}') and keeps the field part. -/
namespace Xp
open PySem PySem.W PySem.Calls PyProof.Rows PySem.HandSPX
abbrev F1 : Str := "part"
/-- the __init__'s text -/
def pA (q1 q2 : Pos) : Arguments := { posonlyargs := [], args := [{ arg := "self", annotation := none, pos := q1 }, { arg := F1, annotation := none, pos := q2 }], vararg := none, kwonlyargs := [], kw_defaults := [], kwarg := none, defaults := [] }
def pB (lit : Str) (a1 a2 a3 a4 a5 a6 a7 a8 a9 b1 b2 b3 b4 : Pos) : List Stmt :=
  [.Expr (.Call (.Attribute (.Call (.Name "super" a1) [] [] a2) "__init__" a3) [.JoinedStr [.Constant (.str lit) 0 a4, .FormattedValue (.Name F1 a5) (-1) none a6] a7] [] a8) a9,
   .Assign [.Attribute (.Name "self" b1) F1 b2] (.Name F1 b3) b4]
def pS : Scope := { kind := .function, names := [(PySem.Str.ofString "self", .local), (PySem.Str.ofString "part", .local), (PySem.Str.ofString "__class__", .free), (PySem.Str.ofString "super", .globalImplicit)], isGenerator := false, isCoroutine := false, more := [] }
/-- what is known of the class at C and of its __init__ at fI -/
structure PTxt (prog : Program) (K : Frag) (mg : Str → Option Value) (cn : Str) (C fI : Addr) : Prop where
  gC : mg cn = some (.ref C)
  cls : ∃ nm q N bs bm sn sub ab col dd k0 k1 k2 k3 k5, K.lookup C = some (excClassObj nm q C N bs bm true sn sub ab col dd k0 k1 k2 k3 k5 "ValueError.__new__") ∧ refsVE bm = true
  sa : findIn K (.ref C) "__setattr__" = some (some (.builtin "object.__setattr__"))
  ga : findIn K (.ref C) "__getattribute__" = some (some (.builtin "BaseException.__getattribute__"))
  gg : findIn K (.ref C) "__getattr__" = some none
  noN : findIn K (.ref C) F1 = some none
  iC : findIn K (.ref C) "__init__" = some (some (.ref fI))
  tC : typeIn K (.ref fI) = some (.type "function")
  kC : keepIn K (.ref C) = true
  exC : subIn K (.ref C) (.type "BaseException") = some true
  veC : subIn K (.ref C) (.type "ValueError") = some true
  tyC : typeIn K (.ref C) = some (.type "type")
  hdC : hasDictIn K C = true
  mC : mroIn K C (.ref C) = some true
  su : ks_superIn K C C "__init__" = some (some (.builtin "ValueError.__init__"))
  op : nsIn K cStatics "thirdparty.any" = some none
  gs : mg "super" = none
  top : (prog.main.scope.names.lookup ("super" : Str)).isSome = false
  fn : ∃ (lit : Str) (oc : Value) (od : Option Addr) (kV doc pm : Value) (an : Option Addr) (cda cc : Addr) (ct : Value) (osl : Array (Option Value)) (qn : Str) (q1 q2 a1 a2 a3 a4 a5 a6 a7 a8 a9 b1 b2 b3 b4 : Pos),
    lit.length ≤ 100 ∧ (a3.endLine == a8.line) = true ∧ K.lookup fI = some ⟨oc, od, .func (ksFn "__init__" qn (pA q1 q2) (pB lit a1 a2 a3 a4 a5 a6 a7 a8 a9 b1 b2 b3 b4) pS .none kV doc pm an (.ref cda) ct cc), osl⟩ ∧ codeIn K (.ref cda) qn = true ∧
    (∃ (ccl : Value) (cdd : Option Addr) (vs : Array Value) (ccs : Array (Option Value)) (file : Str) (tf : Tok), K.lookup cda = some ⟨ccl, cdd, .fields vs, ccs⟩ ∧ vs[2]? = some (.str file tf) ∧ ((prog.main.file : Str) == file) = true) ∧
    ∃ (cl : Value) (cld : Option Addr) (csl : Array (Option Value)), K.lookup cc = some ⟨cl, cld, .cell (some (.ref C)), csl⟩
/-- a value that the message takes in -/
inductive Msg : Value → Prop where
  | str (y : Str) (t : Tok) (h : y.length ≤ 1000) : Msg (.str y t)
  | int (i : Int) (t : Tok) (h : i.natAbs.log2 < 1000) (h2 : (Str.ofString (toString i)).length ≤ 1000) : Msg (.int i t)
/-- what __init__ leaves -/
structure PEnd (h h' : Heap) (x C dx : Addr) (v : Value) : Prop where
  keep : ∀ b o, b ≠ x → h.get? b = some o → h'.get? b = some o
  obj : ∃ t1 : Addr, h'.get? x = some { cls := .ref C, dict := some dx, data := .fields #[.ref t1, .none, .none, .none, .bool false, .none] }
  dbig : h.objs.size ≤ dx
  dne : dx ≠ x
  ns : h'.Ns1 dx (fun y => if y = F1 then some v else none)
section
variable {prog : Program} {w : World} {A : Around} {E : Value → Shared → Prop} {R : Result → Shared → Prop} {s : Shared} {K : Frag} {mg : Str → Option Value} {cn : Str} {C fI : Addr} {base : Heap}
theorem call_form {o : Expr} {name : Str} {apos pos : Pos} {e : Expr} {env : Env} (h : (apos.endLine == pos.line) = true) (hp : (backTo pos (starEach [e] env)).all (!·.1) = true := by rfl) :
    eval (.Call (.Attribute o name apos) [e] [] pos) env = (do
      let ov ← attributeBase o name env (eval o env)
      standAt apos.atName
      let (f, first) ← holding [ov] (getMethod ov name (do return (← importBound o env).getD true))
      callWith pos f first (backTo pos (starEach [e] env)) []) := by
  have z : ∀ few, methodCallPos few o env apos pos = pure pos := fun few => by unfold methodCallPos; simp [h]
  have f : methodCallForm 1 (backTo pos (starEach [e] env)) (backToKw pos (keywordEach [] env)) = true := by
    unfold methodCallForm
    rw [hp]
    rfl
  rw [arm_eval_Call]
  unfold methodCall
  simp only [List.length_cons, List.length_nil, Nat.zero_add, Nat.add_zero, f, z, pure_bind, calleeOf, if_true]
  rfl
/-- the message -/
theorem p_msg {env : Env} {m : Str → Option Value} {lit : Str} {v : Value} {a4 a5 a6 a7 : Pos} {Q : Value → Shared → Prop} (hlit : lit.length ≤ 100) (hv : Msg v) (hk : env.scope.kind = .function) (hl : env.kindOf F1 = some .local) (hn : s.heap.Ns env.locals m) (hm : m F1 = some v)
    (h : ∀ y t tk, Q (.str y t) { s with toks := tk }) : wpAny (model prog w) A (eval (.JoinedStr [.Constant (.str lit) 0 a4, .FormattedValue (.Name F1 a5) (-1) none a6] a7) env) Q E s := by
  have hz : ∀ n : Nat, n ≤ 3000 → n ≤ sizeLine := fun n hn => Nat.le_trans hn (by decide)
  have le0 : (Str.empty ++ lit).length ≤ 100 := by rw [strLen_append]; exact (by show 0 + lit.length ≤ 100; omega)
  refine wpAny_JoinedStr ?_
  have e1 : evalEach [Expr.Constant (Const.str lit) 0 a4, Expr.FormattedValue (Expr.Name F1 a5) (-1) none a6] env = [eval (Expr.Constant (Const.str lit) 0 a4) env, eval (Expr.FormattedValue (Expr.Name F1 a5) (-1) none a6) env] := by first | rfl | simp [evalEach]
  rw [e1]
  refine wpAny_Constant_str ⟨lit, _, rfl, hz _ (by omega), ?_⟩
  refine wpAny_FormattedValue_plain (wpAny_Name (wpAny_loadName_local hk hl hn hm ?_))
  cases hv with
  | str y t hy =>
    have le1 : (Str.empty ++ lit ++ y).length ≤ 3000 := by rw [strLen_append]; omega
    exact wpAny_formatField_str ⟨y, t, rfl, hz _ le1, hz _ le1, h _ _ _⟩ ⟨y, _, rfl, hz _ le1, hz _ le1, h _ _ _⟩ (hz _ (by omega))
  | int i t hi h2 =>
    have le1 : (Str.empty ++ lit ++ toString i).length ≤ sizeLine := by
      rw [strLen_append]
      exact hz _ (by omega)
    exact wpAny_formatField_int (by omega) ⟨_, _, rfl, le1, le1, h _ _ _⟩
/-- ValueError.__init__, bound to e, called -/
theorem p_wrap {nm q : Str} {N : Addr} {bs bm : List Value} {hdct : Bool} {sn : List Str} {sub : List Value} {ab : Bool} {col : Option Bool} {dd : Option Addr} {k0 k1 k2 k3 k5 : Option Value} {u e t0 : Addr} {z : Value} {vs : List Value} {Q : Value → Shared → Prop}
    (hC : s.heap.get? C = some (excClassObj nm q C N bs bm hdct sn sub ab col dd k0 k1 k2 k3 k5 "ValueError.__new__")) (he : s.heap.get? e = some (excO C t0)) (hu : s.heap.get? u = some (kxs_mw "ValueError.__init__" e)) (hvs : vs = [z])
    (hq : ∀ h' t1, (∀ b o, b ≠ e → s.heap.get? b = some o → h'.get? b = some o) → h'.get? e = some (excO C t1) → Q .none { s with heap := h' }) :
    wpAny (model prog w) A (call (.ref u) vs) Q E s := by
  subst hvs
  have FB := F.excBase_ValueError
  obtain ⟨hh, g, d, tk, os⟩ := s
  refine wpAny_call (codeAny_of_tree ?_)
  show wpAny _ A.in1 (callAny (.ref u) ⟨[z], []⟩) _ _ _
  unfold callAny
  refine wpAny_bind (wpAny_load hu ?_)
  have m1 : (Value.type "method-wrapper" == Value.type "method" || Value.type "method-wrapper" == Value.type "builtin_function_or_method" || Value.type "method-wrapper" == Value.type "method-wrapper") = true := by decide
  simp only [kxs_mw, m1, if_true]
  refine KFB.if_so (by decide) (wpAny_bind (check_bound_init FB.toExcCallFacts hC he rfl ?_))
  refine wpAny_bind (wpAny_pure (wpAny_pure ⟨plainId_quiet FB.init.plain _, codeAny_builtin FB.initEntry ?_⟩))
  refine exc_init_tree (cls := .ref C) (t0 := t0) (dv := none) (c2 := .none) (c3 := .none) (b4 := .bool false) (rest := [z]) he (by show 1 ≤ sizeLine; decide) fun h' kk ee _ => ?_
  exact hq h' _ kk ee
theorem p_init (T : PTxt prog K mg cn C fI) {x t0 : Addr} {v : Value} (M : L2.Mod K mg base) (bk : ∀ b o, base.get? b = some o → s.heap.get? b = some o) (hx : s.heap.get? x = some (excO C t0)) (hnx : K.lookup x = none) (hroom : A.depth < recursionLimit) (hv : Msg v)
    (hq : ∀ h' tk dx, PEnd s.heap h' x C dx v → R (.ok (.ret .none)) { s with heap := h', toks := tk }) :
    codeAny (model prog w) A (.call (.ref fI) ⟨[.ref x, v], []⟩) R s := by
  obtain ⟨lit, oc, od, kV, doc, pm, an, cda, cc, ct, osl, qn, q1, q2, a1, a2, a3, a4, a5, a6, a7, a8, a9, b1, b2, b3, b4, hlit, hline, lk, hcd, ⟨ccl, cdd, vs, ccs, file, tf, hcda, hvs, hfile⟩, cl, cld, csl, hcc⟩ := T.fn
  obtain ⟨nm, q, N, bs, bm, sn, sub, ab, col, dd, k0, k1, k2, k3, k5, hC, hbm⟩ := T.cls
  have hcl : clsIn K C = some { name := nm, bases := bs, mro := .ref C :: bm, ns := N, qualname := q, hasDict := true, slotNames := sn, subclasses := sub, abstract := ab, collection := col, hasDel := false } := by unfold clsIn; rw [hC] <;> rfl
  obtain ⟨mb, hmb, hbb⟩ := M.blt
  have X : K.In s.heap := M.kin.keeps bk
  refine ks_codeAny_call_defAt (fd := ksFn "__init__" qn (pA q1 q2) (pB lit a1 a2 a3 a4 a5 a6 a7 a8 a9 b1 b2 b3 b4) pS .none kV doc pm an (.ref cda) ct cc) (binds := [("self", .ref x), (F1, v)]) hroom (X _ _ lk) rfl (M.nolimit.keeps bk) (codeRec_of X hcd) rfl (BindsTo.of_eq rfl) (show ∀ y ∈ pS.names, y.2 ≠ .cell by decide) (by intro y hy; simp only [List.mem_cons, List.not_mem_nil, or_false] at hy; rcases hy with rfl | rfl <;> rfl) (fun h₀ hns kp => ?_) rfl rfl rfl
  have X0 : K.In h₀ := X.keeps kp
  have bk0 : ∀ b o, base.get? b = some o → h₀.get? b = some o := fun b o e => kp b o (bk b o e)
  have hx0 := kp _ _ hx
  have hL : s.heap.objs.size ≠ x := Nat.ne_of_gt (Heap.lt_size hx)
  have lk0 := X0 _ _ lk
  refine ks_wpAt_execs_cons (ks_wpAt_Expr_any (ks_wpAt_MethodCall (pl := (do return (← importBound (.Call (.Name "super" a1) [] [] a2) (callEnv (ksFn "__init__" qn (pA q1 q2) (pB lit a1 a2 a3 a4 a5 a6 a7 a8 a9 b1 b2 b3 b4) pS .none kV doc pm an (.ref cda) ct cc) s.heap.objs.size fI)).getD true)) ?_ (call_form hline)))
  refine ks_wpAt_super_base (fd := ksFn "__init__" qn (pA q1 q2) (pB lit a1 a2 a3 a4 a5 a6 a7 a8 a9 b1 b2 b3 b4) pS .none kV doc pm an (.ref cda) ct cc) rfl rfl (by decide) rfl lk0 rfl rfl rfl (X0 _ _ hcda) rfl hvs hfile T.top ?_
  refine ks_loadName_global rfl rfl (loadGlobal_builtin (mg := mg) (mb := mb) (v := .type "super") (M.glob.keeps bk0) T.gs (hmb.keeps bk0) ((hbb _ (by decide +kernel)).trans (by decide +kernel)) ⟨rfl, ?_⟩)
  refine wpAny_loadName_free (c := cc) rfl rfl rfl ⟨_, X0 _ _ hcc, rfl⟩ ?_
  refine wpAny_loadName_local rfl rfl hns (v := .ref x) (by first | rfl | with_unfolding_all rfl | kernel_rfl) ?_
  refine ks_wpAny_isType_cls (X0 _ _ hC) rfl ⟨rfl, ?_⟩
  refine ks_wpAny_call_super (X0 _ _ hC) rfl hx0 rfl (fun c z => nomatch z) (looks_mroIn X0 T.mC) (fun h' e k => ?_)
  have X1 : K.In h' := X0.keeps k
  have hx1 := k _ _ hx0
  have hsu := T.su
  unfold ks_superIn at hsu
  rw [hcl] at hsu
  have I1 : InstAt h' x (excO C t0) C none := ⟨hx1, rfl, rfl, trivial⟩
  refine kxs_getMethod kxs_ValueError (l₀ := .ref C :: bm) e (looks_opaque X1 T.op) ?_ rfl X1 hsu (I1.type.andThen (looks_subIn X1 T.veC)) (ks_ne X1 I1 hcl) (by decide) ?_
  · exact fun A Q E s k q => wpAny_bind ((looks_clsIn X1 hcl) A _ E s k (wpAny_pure q))
  -- the wrapper at u, then the message
  have hu : (h'.push (kxs_mw "ValueError.__init__" x)).get? h'.objs.size = some (kxs_mw "ValueError.__init__" x) := Heap.get?_push_at rfl rfl
  have k2 : ∀ b o, h'.get? b = some o → (h'.push (kxs_mw "ValueError.__init__" x)).get? b = some o := fun b o e => Heap.get?_push_of_some _ e
  have hns2 : (h'.push (kxs_mw "ValueError.__init__" x)).Ns s.heap.objs.size fun z => List.lookup z [(Str.ofString "self", Value.ref x), (F1, v)].reverse := (hns.keeps k).keeps k2
  refine kxs_callWith (i := "ValueError.__init__") (x := x) rfl ?_
  refine evalArgs_plain (spliced_cons (p_msg (a7 := a7) hlit hv rfl rfl hns2 (by first | rfl | with_unfolding_all rfl | kernel_rfl) fun z tz tk => spliced_nil ⟨hu, ?_⟩))
  refine p_wrap (C := C) (k2 _ _ (X1.keeps (fun _ _ z => z) _ _ hC)) (k2 _ _ hx1) hu rfl fun h3 t1 k3 e3 => ?_
  have kx : ∀ b o, b ≠ x → s.heap.get? b = some o → h3.get? b = some o := fun b o hb z => k3 b o hb (k2 _ _ (k _ _ (kp _ _ z)))
  have hns3 : h3.Ns s.heap.objs.size fun z => List.lookup z [(Str.ofString "self", Value.ref x), (F1, v)].reverse := by
    obtain ⟨o, es, ep, z, r⟩ := hns2
    exact ⟨o, es, ep, k3 _ _ hL z, r⟩
  have nK : ∀ b o, K.lookup b = some o → b ≠ x := fun b o z y => by
    rw [y, hnx] at z
    cases z
  have X3 : K.In h3 := fun b o z => kx b o (nK b o z) (X _ _ z)
  -- self.part = part
  refine wpAt_of_wpAny (wpAny_execs_cons (plainObj_wpAny_Assign_Attribute ?_))
  refine wpAny_Name (wpAny_loadName_local rfl rfl hns3 (v := v) (by first | rfl | with_unfolding_all rfl | kernel_rfl) ?_)
  refine wpAny_Name (wpAny_loadName_local rfl rfl hns3 (v := .ref x) (by first | rfl | with_unfolding_all rfl | kernel_rfl) ?_)
  refine set_plain X3 (ox := excO C t1) (od := none) ⟨e3, rfl, rfl, trivial⟩ T.sa ?_
  refine exc_osa X3 e3 hcl (show refsVE (.ref C :: bm) = true from hbm) rfl T.noN (fun h5 tk5 dx k5 dn dne hx5 hn5 => ?_)
  have z : s.heap.objs.size ≤ h3.objs.size := by
    obtain ⟨o, es, ep, z, r⟩ := hns3
    exact Nat.le_of_lt (Heap.lt_size z)
  exact wpAny_execs_nil (hq h5 tk5 dx ⟨fun b o hb e => k5 b o hb (kx b o hb e), ⟨_, hx5⟩, Nat.le_trans z dn, dne, hn5⟩)
/-- a made error: e, its own dict d -/
structure PMade (h h' : Heap) (e C d : Addr) (v : Value) : Prop where
  keep : ∀ b o, h.get? b = some o → h'.get? b = some o
  new : h.objs.size ≤ e
  obj : ∃ oe vs, h'.get? e = some oe ∧ oe.cls = .ref C ∧ oe.dict = some d ∧ oe.data = .fields vs ∧ vs[1]? = some .none
  dbig : h.objs.size ≤ d
  dne : d ≠ e
  ns : h'.Ns1 d (fun y => if y = F1 then some v else none)
theorem p_made (T : PTxt prog K mg cn C fI) {v : Value} (M : L2.Mod K mg base) (bk : ∀ b o, base.get? b = some o → s.heap.get? b = some o) (hroom : A.depth + 1 < recursionLimit) (hv : Msg v)
    (hq : ∀ h' tk e d, PMade s.heap h' e C d v → R (.ok (.ret (.ref e))) { s with heap := h', toks := tk }) :
    codeAny (model prog w) A (.call (.ref C) ⟨[v], []⟩) R s := by
  have X : K.In s.heap := M.kin.keeps bk
  obtain ⟨nm, q, N, bs, bm, sn, sub, ab, col, dd, k0, k1, k2, k3, k5, hC, hbm⟩ := T.cls
  obtain ⟨hp, g, dr, tk, os⟩ := s
  have k : ∀ b o, hp.get? b = some o → ((hp.push (kdv_tup [v])).push (excO C hp.objs.size)).get? b = some o := fun b o e => Heap.get?_push_of_some _ (Heap.get?_push_of_some _ e)
  have hget : ((hp.push (kdv_tup [v])).push (excO C hp.objs.size)).get? (hp.objs.size + 1) = some (excO C hp.objs.size) := by heap_get
  have hnx : K.lookup (hp.objs.size + 1) = none := by
    cases e : K.lookup (hp.objs.size + 1) with
    | none => rfl
    | some o =>
      have z : hp.get? (hp.objs.size + 1) = some o := X _ _ e
      exact absurd (Nat.lt_of_succ_lt (Heap.lt_size z)) (Nat.lt_irrefl _)
  refine call_own F.excBase_ValueError (fun X => refsVE_contains X bm hbm) (X _ _ hC) (looks_findIn X T.iC) (fun self => bind_fn X self T.tC) (by show 1 ≤ sizeLine; decide) ?_
  refine p_init (s := ⟨(hp.push (kdv_tup [v])).push (excO C hp.objs.size), g, dr, tk, os⟩) T M (fun b o e => k b o (bk b o e)) hget hnx ?_ hv fun h' tk' dx ⟨k', ⟨t1, hx⟩, dn, dne, hns⟩ => ?_
  · show A.depth + 1 < recursionLimit
    exact hroom
  · have old : ∀ b o, hp.get? b = some o → h'.get? b = some o := fun b o e => k' b o (Nat.ne_of_lt (Nat.lt_succ_of_lt (Heap.lt_size e))) (k b o e)
    have z : hp.objs.size + 1 + 1 ≤ dx := by
      first
        | (simpa only [Heap.size_push] using dn)
        | exact dn
        | (have q := dn; rw [Heap.size_push, Heap.size_push] at q; exact q)
    exact ⟨rfl, hq h' tk' (hp.objs.size + 1) dx ⟨old, Nat.le_succ _, ⟨_, _, hx, rfl, rfl, rfl, rfl⟩, Nat.le_trans (Nat.le_trans (Nat.le_succ _) (Nat.le_succ _)) z, dne, hns⟩⟩
end
end Xp
namespace L2
open PySem PySem.Spec PyProof.Rows
theorem relO_part {v : V} {v' : Value} (r : RelV v v') (f : Str) : RelO (List.lookup f [(Xp.F1, v)]) (if f = Xp.F1 then some v' else none) := by
  by_cases hw : f = Xp.F1
  · subst hw
    rw [if_pos rfl]
    have q : List.lookup Xp.F1 [(Xp.F1, v)] = some v := by simp [List.lookup]
    rw [q]
    exact r
  · rw [if_neg hw]
    have qw : (f == Xp.F1) = false := by simpa using hw
    have q2 : List.lookup f [(Xp.F1, v)] = none := by simp [List.lookup, qw]
    rw [q2]
    trivial
/-- what the message may take in -/
def MsgV : V → Prop
  | .str y => y.length ≤ 1000
  | .int i => i.natAbs.log2 < 1000 ∧ (Str.ofString (toString i)).length ≤ 1000
  | _ => False
theorem MsgV.of {v : V} {u : Value} (h : MsgV v) (r : RelV v u) : Xp.Msg u := by
  cases v with
  | str y => obtain ⟨t, rfl⟩ := r; exact .str y t h
  | int i => obtain ⟨t, rfl⟩ := r; exact .int i t h.1 h.2
  | _ => exact h.elim
section
variable {X : Cx} {C fI : Addr} {cn : Str}
/-- the error's making -/
def tMkPart (C : Addr) (ta : TA) : St → Hp → XK → Prop := fun σ H Q => ta σ H fun vs H1 => ∃ v, vs = [v] ∧ MsgV v ∧ ∀ d, H1 d = none → Q (.ref C) (some d) (upd H1 d (.xd [(Xp.F1, v)]))
theorem pmk_part {a : Expr} {ta : TA} {p pos : Pos} {k : Nat} (T : Xp.PTxt X.prog X.K X.mg cn C fI) (hr : Room k X.A) (ha : PA X [a] ta) (hg : Gl X cn := by rfl) (hdb : (cn == ("__debug__" : Str)) = false := by decide)
    (he : starEach (a :: []) X.env = (false, eval a X.env) :: starEach [] X.env := by rfl) (hpl : (backTo pos (starEach [] X.env)).any (·.1) = false := by rfl) :
    PMk X (.Call (.Name cn p) [a] [] pos) (tMkPart C ta) := by
  intro pins s σ H Q I h
  refine wpAny_Call_Name_kw (ld_glob I hg T.gC ?_ hdb)
  refine PySem.W.callWith_K (h₀ := X.base) I.ok.mod.kin T.kC (thn (ha.run pos pins s σ H _ I h) fun us s1 hh => ?_) he hpl
  obtain ⟨vs, H1, I1, r1, v, ev, hm, q1⟩ := hh
  subst ev
  refine ⟨I1.kIn, ?_⟩
  cases r1 with
  | cons rv rn =>
    rename_i v' us'
    cases rn
    show wpAny _ _ (call (.ref C) [v']) _ _ _
    have hmod := I1.mod
    have hbk := I1.bk
    obtain ⟨hp, g, dr, tk, os⟩ := s1
    refine wpAny_call (Xp.p_made T hmod hbk (by have := hr.dp; omega) (hm.of rv) fun h' tk' e d M => ?_)
    show MkP X pins σ Q (.ref e) ⟨h', g, dr, tk', os⟩
    obtain ⟨oe, fv, hoe, hc, hd, hdat, h1⟩ := M.obj
    have hns := M.ns
    obtain ⟨G', g1, g2⟩ := restrict h' fun b => decide (b ≠ e)
    have gk : ∀ b, b ≠ e → G'.get? b = h'.get? b := fun b hb => g1 b (decide_eq_true hb)
    have ge : G'.get? e = none := g2 e (by simp)
    have old : ∀ b o, hp.get? b = some o → G'.get? b = some o := fun b o q => (gk b (Nat.ne_of_lt (Nat.lt_of_lt_of_le (Heap.lt_size q) M.new))).trans (M.keep b o q)
    have ob : ObjOk X.prog X.w (upd H1 d (.xd [(Xp.F1, v)])) G' d (.xd [(Xp.F1, v)]) :=
      ⟨_, hns.at (fun o q => (gk d M.dne).trans q), fun f => relO_part rv f⟩
    have J : Inv X pins σ (upd H1 d (.xd [(Xp.F1, v)])) ⟨G', g, dr, tk', os⟩ := I1.laid (t' := tk') old M.dbig ob
    refine ⟨e, oe, fv, ⟨G', g, dr, tk', os⟩, _, .ref C, some d, rfl, J, fun b o q => ?_, ge, hoe, ⟨hc, hd⟩, hdat, h1, ?_, rfl, I1.bare, raises_own T.exC T.tyC, q1 d (I1.hok.fresh M.dbig)⟩
    · by_cases hb : b = e
      · have q' : G'.get? b = some o := q
        rw [hb, ge] at q'; cases q'
      · exact (gk b hb).symm.trans q
    · rw [upd_ne (Ne.symm M.dne)]
      exact I1.hok.fresh M.new
/-- raise cn(e) -/
def tRaisePart (C : Addr) (W : WX) (ta : TA) : TS := fun _ σ H => tMkPart C ta σ H fun cls d H' => W cls d σ H'
theorem ps_raisePart {a : Expr} {ta : TA} {W : WX} {p pos pos2 : Pos} {k : Nat} (hc : X.calm = true) (T : Xp.PTxt X.prog X.K X.mg cn C fI) (hr : Room k X.A) (tk : Takes X W) (ha : PA X [a] ta) (hg : Gl X cn := by rfl) (hdb : (cn == ("__debug__" : Str)) = false := by decide)
    (he : starEach (a :: []) X.env = (false, eval a X.env) :: starEach [] X.env := by rfl) (hpl : (backTo pos (starEach [] X.env)).any (·.1) = false := by rfl) :
    PS X (.Raise (some (.Call (.Name cn p) [a] [] pos)) none pos2) (tRaisePart C W ta) := ps_raise hc tk (pmk_part T hr ha hg hdb he hpl)
end
end L2

/-! isinstance(e, C): e an own error that may have a dict of its own -/
namespace Xp
open PySem PySem.W PySem.Calls PyProof.Rows
section
variable {prog : Program} {w : World} {A : Around} {E : Value → Shared → Prop} {s : Shared} {K : Frag} {x D : Addr} {ox : Obj} {od : Option Obj}
theorem find_data {C : Addr} {name : Str} {a g : Value} (hc : (clsIn K C).isSome = true) (ha : findIn K (.ref C) name = some (some a)) (hg : specialIn K a "__get__" = some (some g)) (ht : takesIn K a = some true) : findObj K C od name = some (.bind g a) := by
  obtain ⟨cd, hcd⟩ := Option.isSome_iff_exists.mp hc
  unfold findObj
  rw [hcd, Option.bind_some, ha, Option.bind_some]
  simp [hg, ht]
theorem cls_attr {Q : Option Value → Shared → Prop} (T : L2.ExcC K D) (X : K.In s.heap) (I : InstAt s.heap x ox D od) (h : Q (some (.ref D)) { s with toks := s.toks + 1 }) :
    wpAny (model prog w) A (getAttr? (.ref x) "__class__") Q E s := by
  have hfo : findObj K D od "__class__" = some (.bind (.builtin "getset_descriptor.__get__") (.builtin "object.__class__")) := find_data (by obtain ⟨cd, z, _⟩ := any_some T.hd; rw [z]; rfl) T.ha T.hn T.ht
  obtain ⟨hp, g, d, t, os⟩ := s
  have La := I.type (M := model prog w)
  have Lb := looks_findIn (M := model prog w) X T.hg
  have Lc := looks_findIn (M := model prog w) X T.hk
  have Ld := looks_find (M := model prog w) X I hfo
  have isB : Looks (model prog w) hp (isInstance (.ref x) (.type "BaseException")) true := La.andThen (looks_subIn X T.hs)
  have g0 : (Value.builtin "BaseException.__getattribute__" == Value.builtin "object.__getattribute__") = false := by decide +kernel
  have g1 : (onTheHeap (Value.ref D) && Value.builtin "BaseException.__getattribute__" == Value.builtin "object.__getattribute__") = false := by rw [g0]; rfl
  have g2 : (false && onTheHeap (Value.builtin "BaseException.__getattribute__")) = false := rfl
  unfold getAttr? getAttrBy? getAttrBy
  refine wpAny_bind (wpAny_mkText (wpAny_bind (wpAny_attempt (wpAny_holding (wpAny_bind (La.at (wpAny_bind (Lb.at ?_))))))))
  show wpAny _ _ (if (onTheHeap (Value.ref D) && Value.builtin "BaseException.__getattribute__" == Value.builtin "object.__getattribute__") = true then _ else _) _ _ _
  rw [g1, if_neg Bool.false_ne_true]
  unfold getAttrByItsOwn hookBefore
  refine wpAny_bind ?_
  rw [if_pos (show onTheHeap (Value.ref D) = true from rfl)]
  refine Lc.at (wpAny_bind (wpAny_attempt (wpAny_holding ?_)))
  unfold callGetattribute
  rw [g2, if_neg Bool.false_ne_true]
  unfold boundAndCalled
  rw [PySem.F.excAttr_ValueError.ga.bind (.ref x)]
  refine wpAny_bind (wpAny_pure ?_)
  show wpAny _ _ (call (.builtin "BaseException.__getattribute__") [.ref x, .str "__class__" t]) _ _ _
  refine wpAny_call (codeAny_call_builtin PySem.F.excAttr_ValueError.ga.plain PySem.F.entry_bexc_ga ?_)
  refine @check_slot (model prog w) _ _ ⟨hp, g, d, t + 1, os⟩ "BaseException.__getattribute__" "BaseException" "__getattribute__" (.ref x) [.str "__class__" t] [] _ (by decide +kernel) (by decide +kernel) isB (PySem.F.args_bexc_ga (.ref x) (.str "__class__" t)) ?_
  unfold Builtin.«object.__getattribute__»
  refine wpAny_bind (wpAny_of_eq (a := ((Value.ref x : Value), [Value.str "__class__" t])) (by first | rfl | (simp only [slotArgs]; rfl)) ?_)
  refine wpAny_bind (wpAny_pure (wpAny_bind (La.at (wpAny_bind (Ld.at ?_)))))
  show wpAny _ _ (holding [Value.builtin "object.__class__"] (call (.builtin "getset_descriptor.__get__") [.builtin "object.__class__", .ref x, .ref D]) >>= ret) _ _ _
  refine wpAny_bind (wpAny_holding (wpAny_call (class_get (s := ⟨hp, g, d, t + 1, os⟩) (ox := ox) (od := od) X I T.hm (wpAny_pure ?_))))
  show wpAny _ _ (handedOut (.ref D)) _ _ _
  rw [handedOut_of (v := .ref D) rfl]
  first
    | exact wpAny_pure (wpAny_pure h)
    | exact wpAny_pure h
    | exact wpAny_pure (wpAny_bind (wpAny_pure (wpAny_pure h)))
theorem kitx_err (T : L2.ExcC K D) : KitX K (.ref x) (.ref D) (fun h => InstAt h x ox D od) where
  ty := fun _ _ _ I => I.type
  it := fun _ _ X _ => by
    obtain ⟨cdD, hcD, _⟩ := any_some T.hd
    unfold clsIn at hcD
    split at hcD
    · rename_i c' d' cd' sl' ho
      intro A' Q' E' s' k q
      unfold isType loadHead
      exact wpAny_bind (wpAny_loadPart (k _ _ (X _ _ ho)) (wpAny_pure q))
    · cases hcD
  ne := fun h tp dd its n sl X htp => by
    obtain ⟨cdD, hcD, _⟩ := any_some T.hd
    refine Bool.eq_false_iff.mpr fun q => ?_
    have e : D = tp := Value.ref.inj (beq_iff_eq.mp q)
    subst e
    unfold clsIn at hcD
    split at hcD
    · rename_i c' d' cd' sl' ho
      cases (X _ _ ho).symm.trans htp
    · cases hcD
  ca := fun X I k => cls_attr T X I k
end
end Xp
namespace L2
open PySem PySem.Spec PyProof.Rows
/-- isinstance(e, c) in a suite that holds the error at a, whose class is at D and whose dict is dd -/
def rIsX (K : PySem.W.Frag) (D a dd : Addr) : List V → Hp → VK → Prop := fun xs H Q => ∃ (c : V) (cv : Value) (b : Bool), xs = [.ref a, c] ∧ (∃ fs, H dd = some (.xd fs)) ∧ (∀ u, RelV c u → u = cv) ∧ PySem.W.kitOne K (.ref D) cv = some b ∧ Q (.bl b) H
theorem call_isX {X : Cx} {a D dd : Addr} {oe : Obj} {pn : List (Addr × Obj)} (T : ExcC X.K D) (hz : Zc (.ref D) (some dd) oe) (hf : ∃ vs, oe.data = .fields vs) : CallR (X.suite a ((a, oe) :: pn)) (.builtin "isinstance") (rIsX X.K D a dd) := by
  intro pins s σ H xs us Q I r h
  obtain ⟨c, cv, b, rfl, ⟨fs, hdd⟩, hcv, e, q⟩ := h
  obtain ⟨u1, u2, rfl, r1, r2⟩ := vals2 r
  cases (show u1 = Value.ref a from r1)
  obtain rfl := hcv _ r2
  obtain ⟨hget, _⟩ := I.pin (a, oe) (List.mem_append.mpr (.inl List.mem_cons_self))
  obtain ⟨vs, hv⟩ := hf
  have hx : ObjOk X.prog X.w H s.heap dd (.xd fs) := I.hok dd _ hdd
  obtain ⟨mA, ⟨o, es, ep, ho, _⟩, _⟩ := hx
  have J : PySem.W.InstAt s.heap a oe D (some o) := ⟨hget, hz.1, by unfold PySem.W.notCls; rw [hv], by rw [hz.2]; exact ho⟩
  exact PySem.W.kia_one (Xp.kitx_err T) I.kIn J e (fun z => nomatch z) fun tk => ⟨.bl b, H, I.kept (t' := tk) fun _ _ z => z, rfl, q⟩
end L2

namespace Kn
open PySem PySem.Spec L2
def topS (i : Nat) : Stmt := PySem.Challenge.pw_sawnsheets_k01_packets_validated.main.body.getD i (.Pass ⟨0, 0, 0, 0⟩)
abbrev sFromTo : Stmt := topS 5
abbrev sNum : Stmt := topS 4
abbrev sSide : Stmt := topS 6
abbrev sSize : Stmt := topS 7
abbrev sSheet : Stmt := topS 8
abbrev sSheets : Stmt := topS 9
abbrev sErrC : Stmt := topS 12
abbrev sPacket : Stmt := topS 24
abbrev sWrong : Stmt := topS 25
abbrev sTaken : Stmt := topS 27
abbrev sPick : Stmt := topS 28
abbrev sScheme : Stmt := topS 29
abbrev sMkP : Stmt := topS 30
abbrev sRaised : Stmt := topS 31
abbrev sLaw : Stmt := topS 32
abbrev sErrO : Stmt := topS 15
abbrev sInit : Stmt := inClass sPacket 0
abbrev sW : Stmt := inClass sPacket 1
abbrev sH : Stmt := inClass sPacket 2
abbrev sS : Stmt := inClass sPacket 3
abbrev sC : Stmt := inClass sPacket 4
abbrev sLen : Stmt := inClass sPacket 5
abbrev sEq : Stmt := inClass sPacket 6
end Kn

/-! Words of our own over the hand layer: what is walked as a list of values, comprehensions and loops by one invariant, a def by its promise. -/
namespace Kw
open PySem PySem.Spec L2
/-- J walks over the items xs, wherever P holds -/
def Over (J : It) (xs : List V) (P : Hp → Prop) : Prop := ∀ i H, P H → (i < xs.length → J.go i H) ∧ (xs.length ≤ i → J.stop i H) ∧ ∀ v H', i < xs.length → J.yld i H v H' → H' = H ∧ xs[i]? = some v
def signs (x : Str) : List V := x.cps.toList.map fun c => .str ⟨#[c]⟩
theorem signs_len (x : Str) : (signs x).length = x.length := by unfold signs; rw [List.length_map]; exact Array.length_toList
theorem over_str (x : Str) : Over (Its x) (signs x) fun _ => True := fun i H _ => by
  have e : (signs x).length = x.cps.size := signs_len x
  refine ⟨fun h => ?_, fun h => ?_, fun v H' hi y => ?_⟩
  · show i < x.cps.size
    omega
  · show x.cps.size ≤ i
    omega
  · obtain ⟨e1, c, hc, rfl⟩ := y
    refine ⟨e1, ?_⟩
    unfold signs
    rw [List.getElem?_map, Array.getElem?_toList, hc]
    rfl
def upto (n : Nat) : List V := (List.range n).map fun i => .int ((i : Nat) : Int)
theorem upto_len (n : Nat) : (upto n).length = n := by unfold upto; rw [List.length_map, List.length_range]
theorem upto_at {n i : Nat} {x : V} (h : (upto n)[i]? = some x) : i < n ∧ x = .int (i : Int) := by
  unfold upto at h
  rw [List.getElem?_map] at h
  by_cases hi : i < n
  · rw [List.getElem?_range hi] at h
    exact ⟨hi, (Option.some.inj h).symm⟩
  · rw [List.getElem?_eq_none (by rw [List.length_range]; omega)] at h
    cases h
theorem over_rng (n : Nat) : Over (Itr 0 n) (upto n) fun _ => True := fun i H _ => by
  have e := upto_len n
  refine ⟨fun h => ?_, fun h => ?_, fun v H' hi y => ?_⟩
  · show i < n
    omega
  · show n ≤ i
    omega
  · obtain ⟨e1, rfl⟩ := y
    refine ⟨e1, ?_⟩
    unfold upto
    rw [List.getElem?_map, List.getElem?_range (by omega)]
    show some (V.int ((i : Nat) : Int)) = some (V.int (0 + ((i : Nat) : Int)))
    rw [Int.zero_add]
theorem over_tup {K : PySem.W.Frag} (a : Addr) (xs : List V) : Over (Itt K a) xs fun H => SqT K H a xs := fun i H p => by
  refine ⟨fun h => ⟨xs, xs[i], p, by simp [h]⟩, fun h => ⟨xs, p, h⟩, fun v H' _ y => ⟨y.1, y.2 xs p⟩⟩
theorem over_lst {K : PySem.W.Frag} (a : Addr) (xs : List V) : Over (Itl K a) xs fun H => SqL K H a xs := fun i H p => by
  refine ⟨fun h => ⟨xs, xs[i], p, by simp [h]⟩, fun h => ⟨xs, p, h⟩, fun v H' _ y => ⟨y.1, y.2 xs p⟩⟩
/-- a comprehension, by an invariant over the turn, the list made so far, the heap -/
theorem lc_of {J : It} {xs : List V} {P : Hp → Prop} {g : TG} {tt : TT} {te : TE} {vs : List Nat} {σ : L2.St} {H1 : Hp} {D : Addr} {Q : Hp → Prop} (o : Over J xs P) (Pv : Nat → List V → Hp → Prop) (hx : xs.length ≤ 100000)
    (h0 : Pv 0 [] (upd H1 D (.lst []))) (hp : ∀ i acc H, Pv i acc H → P H)
    (hs : ∀ i x acc H (Nx : Hp → Prop), xs[i]? = some x → Pv i acc H → H D = some (.lst acc) →
      (∀ y H4, H4 D = some (.lst acc) → Pv (i + 1) (acc ++ [y]) (upd H4 D (.lst (acc ++ [y]))) → ∃ acc, H4 D = some (.lst acc) ∧ acc.length < sizeLine ∧ Nx (upd H4 D (.lst (acc ++ [y])))) →
      (∀ H3, H3 D = some (.lst acc) → Pv (i + 1) acc H3 → Nx H3) → g x (wipe σ vs) H fun σ2 H2 => wipe σ2 vs = wipe σ vs ∧ tt σ2 H2 fun b H3 =>
      if b = true then te σ2 H3 fun y H4 => ∃ acc, H4 D = some (.lst acc) ∧ acc.length < sizeLine ∧ Nx (upd H4 D (.lst (acc ++ [y]))) else Nx H3)
    (hd : ∀ acc H, acc.length ≤ xs.length → Pv xs.length acc H → H D = some (.lst acc) → Q H) :
    ∃ W : Nat → Nat → Hp → Prop, (∃ m, W 0 m (upd H1 D (.lst []))) ∧ ∀ i m H, W i m H →
      (J.stop i H ∧ Q H) ∨ (J.go i H ∧ ∃ Nx : Hp → Prop, (∀ H', Nx H' → ∃ m', m' < m ∧ W (i + 1) m' H') ∧ ∀ x H', J.yld i H x H' → g x (wipe σ vs) H' fun σ2 H2 => wipe σ2 vs = wipe σ vs ∧ tt σ2 H2 fun b H3 =>
        if b = true then te σ2 H3 fun y H4 => ∃ acc, H4 D = some (.lst acc) ∧ acc.length < sizeLine ∧ Nx (upd H4 D (.lst (acc ++ [y]))) else Nx H3) := by
  refine ⟨fun i m H => m = xs.length - i ∧ i ≤ xs.length ∧ ∃ acc, acc.length ≤ i ∧ H D = some (.lst acc) ∧ Pv i acc H, ⟨xs.length, by simp, Nat.zero_le _, [], Nat.zero_le _, upd_same, h0⟩, ?_⟩
  rintro i m H ⟨rfl, hi, acc, hl, hD, p⟩
  obtain ⟨h1, h2, h3⟩ := o i H (hp _ _ _ p)
  by_cases hlt : i < xs.length
  · refine .inr ⟨h1 hlt, fun H' => ∃ acc, acc.length ≤ i + 1 ∧ H' D = some (.lst acc) ∧ Pv (i + 1) acc H', fun H' p' => ⟨xs.length - (i + 1), by omega, rfl, hlt, p'⟩, fun x H' y => ?_⟩
    obtain ⟨rfl, hx'⟩ := h3 x H' hlt y
    exact hs i x acc _ _ hx' p hD (fun y H4 hD4 p4 => ⟨acc, hD4, Nat.lt_of_le_of_lt (show acc.length ≤ 100000 by omega) (by decide), acc ++ [y], by rw [List.length_append]; exact Nat.succ_le_succ hl, upd_same, p4⟩) fun H3 hD3 p3 => ⟨acc, by omega, hD3, p3⟩
  · have e : i = xs.length := by omega
    rw [e] at p hl
    exact .inl ⟨h2 (by omega), hd acc H hl p hD⟩
/-- a for, by an invariant over the turn, the slots, the heap -/
theorem for_of {J : It} {xs : List V} {P : Hp → Prop} {g : TG} {tb : TS} {D : Ends} {σ : L2.St} {H1 : Hp} (o : Over J xs P) (Pv : Nat → L2.St → Hp → Prop) (h0 : Pv 0 σ H1) (hp : ∀ i σ H, Pv i σ H → P H)
    (hs : ∀ i x σ H, xs[i]? = some x → Pv i σ H → g x σ H fun σ2 H2 => tb { D with nx := Pv (i + 1), ct := Pv (i + 1), bk := D.nx } σ2 H2) (hd : ∀ σ H, Pv xs.length σ H → D.nx σ H) :
    ∃ W : Nat → Nat → L2.St → Hp → Prop, (∃ m, W 0 m σ H1) ∧ ∀ i m σ H, W i m σ H →
      (J.stop i H ∧ D.nx σ H) ∨ (J.go i H ∧ ∃ N : L2.St → Hp → Prop, (∀ σ' H', N σ' H' → ∃ m', m' < m ∧ W (i + 1) m' σ' H') ∧ ∀ x H', J.yld i H x H' → g x σ H' fun σ2 H2 => tb { D with nx := N, ct := N, bk := D.nx } σ2 H2) := by
  refine ⟨fun i m σ H => m = xs.length - i ∧ i ≤ xs.length ∧ Pv i σ H, ⟨xs.length, by simp, Nat.zero_le _, h0⟩, ?_⟩
  rintro i m σ H ⟨rfl, hi, p⟩
  obtain ⟨h1, h2, h3⟩ := o i H (hp _ _ _ p)
  by_cases hlt : i < xs.length
  · refine .inr ⟨h1 hlt, Pv (i + 1), fun σ' H' p' => ⟨xs.length - (i + 1), by omega, rfl, hlt, p'⟩, fun x H' y => ?_⟩
    obtain ⟨rfl, hx'⟩ := h3 x H' hlt y
    exact hs i x σ _ hx' p
  · have e : i = xs.length := by omega
    rw [e] at p
    exact .inl ⟨h2 (by omega), hd σ H p⟩
/-- the module's name x holds a def that keeps sp -/
structure Has (P : Program) (w : World) (K : PySem.W.Frag) (mg : Str → Option Value) (base : Heap) (CX : CXT) (k : Nat) (x : Str) (ps : List Str) (sp : Sp) : Prop where
  ex : ∃ (f : Addr) (fd : FuncData), FnOk P w K mg base CX k f fd ps sp ∧ mg x = some (.ref f) ∧ PySem.W.keepIn K (.ref f) = true ∧ Binds K fd ps []
section
variable {X : Cx} {CX : CXT} {k j : Nat} {x : Str} {ps : List Str} {sp : Sp} {E : XK} {e : Expr} {es : List Expr} {t : TA} {p pos : Pos}
theorem pe_has (h : Has X.prog X.w X.K X.mg X.base CX k x ps sp) (hr : Room j X.A) (hk : k ≤ j) (hx : Passes CX X E) (ha : PA X (e :: es) t) (hg : Gl X x := by rfl) (hdb : (x == ("__debug__" : Str)) = false := by decide)
    (he : starEach (e :: es) X.env = (false, eval e X.env) :: starEach es X.env := by rfl) (hpl : (backTo pos (starEach es X.env)).any (·.1) = false := by rfl) :
    PE X (.Call (.Name x p) (e :: es) [] pos) (tCall sp [] E t) := by
  obtain ⟨f, fd, F, hm, kp, b⟩ := h.ex
  exact pe_call F (hr.mono hk) hg hm kp b .nil hx ha hdb he hpl
end
theorem same_new {H : Hp} {p : Addr} {o : HO} (h : H p = none) : Same H (upd H p o) := fun b x e => by
  rw [upd_ne (ne_of_none e h)]
  exact e
theorem Same.tup {K : PySem.W.Frag} {H H' : Hp} {a : Addr} {xs : List V} (e : Same H H') (h : SqT K H a xs) : SqT K H' a xs := by
  rcases h with (h | ⟨o, h⟩) | h
  · exact .inl (.inl (e _ _ h))
  · exact .inl (.inr ⟨o, e _ _ h⟩)
  · exact .inr h
end Kw

namespace Kn
open PySem PySem.Spec L2 Kw
theorem scNum : FnScope ["value"] ["value"] (defScope sNum) := ⟨rfl, rfl, rfl, by decide +kernel, rfl, by decide +kernel, by decide +kernel⟩
theorem scSide : FnScope ["value"] ["value"] (defScope sSide) := ⟨rfl, rfl, rfl, by decide +kernel, rfl, by decide +kernel, by decide +kernel⟩
theorem scFromTo : FnScope ["value", "least", "most"] ["value", "least", "most"] (defScope sFromTo) := ⟨rfl, rfl, rfl, by decide +kernel, rfl, by decide +kernel, by decide +kernel⟩
theorem scSize : FnScope ["width", "height"] ["width", "height"] (defScope sSize) := ⟨rfl, rfl, rfl, by decide +kernel, rfl, by decide +kernel, by decide +kernel⟩
theorem scSheet : FnScope ["value", "cells", "sign"] ["value", "cells"] (defScope sSheet) := ⟨rfl, rfl, rfl, by decide +kernel, rfl, by decide +kernel, by decide +kernel⟩
theorem scSheets : FnScope ["value", "cells", "sheet"] ["value", "cells"] (defScope sSheets) := ⟨rfl, rfl, rfl, by decide +kernel, rfl, by decide +kernel, by decide +kernel⟩
/-! ### the mathematics -/
def numV : V → Bool
  | .int _ => true
  | _ => false
def NumLike : V → Prop
  | .int _ => True
  | .bl _ => True
  | _ => False
def sideV : V → Bool
  | .int i => decide (1 ≤ i) && decide (i ≤ 4)
  | _ => false
def valI : V → Int
  | .int i => i
  | _ => 0
def sizeV (a b : V) : Bool := sideV a && (sideV b && decide (valI a * valI b ≤ 9))
def signOk (c : Nat) : Bool := decide (97 ≤ c) && decide (c ≤ 122)
def sheetOk (z : Str) (n : Int) : Bool := decide ((z.length : Int) = n) && z.cps.toList.all signOk
def sheetsOk (l : List Str) (n : Int) : Bool := decide (1 ≤ l.length) && (decide (l.length ≤ 4) && l.all fun z => sheetOk z n)
/-! ### the promises -/
def spNum : Sp := fun vs H Q _ => ∃ v, vs = [v] ∧ NumLike v ∧ Q (.bl (numV v)) H
def spFromTo : Sp := fun vs H Q _ => ∃ v lo hi, vs = [v, .int lo, .int hi] ∧ NumLike v ∧ Q (.bl (match v with | .int i => decide (lo ≤ i) && decide (i ≤ hi) | _ => false)) H
def spSide : Sp := fun vs H Q _ => ∃ v, vs = [v] ∧ NumLike v ∧ Q (.bl (sideV v)) H
def spSize : Sp := fun vs H Q _ => ∃ v u, vs = [v, u] ∧ NumLike v ∧ NumLike u ∧ Q (.bl (sizeV v u)) H
def spSheet : Sp := fun vs H Q _ => ∃ z n, vs = [.str z, .int n] ∧ z.length ≤ 1000 ∧ ∀ H', Same H H' → Q (.bl (sheetOk z n)) H'
def spSheets (K : PySem.W.Frag) : Sp := fun vs H Q _ => ∃ t l n, vs = [.ref t, .int n] ∧ H t = some (.tup (l.map V.str)) ∧ (∀ z ∈ l, z.length ≤ 1000) ∧ l.length ≤ 1000 ∧ ∀ H', Same H H' → Q (.bl (sheetsOk l n)) H'
/-- the built-in names that the text leaves as they are -/
structure Blt (mg : Str → Option Value) : Prop where
  isi : mg "isinstance" = none
  int : mg "int" = none
  bool : mg "bool" = none
  str : mg "str" = none
  tup : mg "tuple" = none
  len : mg "len" = none
  all : mg "all" = none
  range : mg "range" = none
structure Cst (mg : Str → Option Value) : Prop where
  side : ∃ t, mg "LONGEST_SIDE" = some (.int 4 t)
  cells : ∃ t, mg "MOST_CELLS" = some (.int 9 t)
  sheets : ∃ t, mg "MOST_SHEETS" = some (.int 4 t)
section
variable {P : Program} {w : World} {K : PySem.W.Frag} {mg : Str → Option Value} {base : Heap} {f : Addr} {fd : FuncData}
theorem ok_num (F : Fun K "is_number" "is_number" sNum f fd) (B : Blt mg) : FnOk P w K mg base CX0 1 f fd ["value"] spNum := by
  refine F.ok scNum (fun vs H Q E h => ?_) (fun cdv A outer s H vs Q E hr h => ?_)
  · obtain ⟨v, rfl, _⟩ := h
    rfl
  · obtain ⟨v, rfl, hv, q⟩ := h
    refine ⟨_, pss_one (ps_ret (pe_and (pe_callB call_isi (by rfl) B.isi (by decide +kernel) (pa_cons (pv 0) (pa_cons (pe_bltn (v := .ty "int") (by rfl) B.int (by decide +kernel) rfl) pa_nil)))
      (pe_one (pe_not (pe_callB call_isi (by rfl) B.isi (by decide +kernel) (pa_cons (pv 0) (pa_cons (pe_bltn (v := .ty "bool") (by rfl) B.bool (by decide +kernel) rfl) pa_nil))))))), ?_⟩
    cases v with
    | int i => exact ⟨_, rfl, _, _, _, _, _, rfl, .ty _, .base (.int i), kit_ty (b := "int") (r := true) (by decide +kernel), true, rfl, iteT ⟨_, rfl, _, _, _, _, _, rfl, .ty _, .base (.int i), kit_ty (b := "bool") (r := false) (by decide +kernel), false, rfl, q⟩⟩
    | bl i => exact ⟨_, rfl, _, _, _, _, _, rfl, .ty _, .base (.bl i), kit_ty (b := "int") (r := true) (by decide +kernel), true, rfl, iteT ⟨_, rfl, _, _, _, _, _, rfl, .ty _, .base (.bl i), kit_ty (b := "bool") (r := true) (by decide +kernel), true, rfl, q⟩⟩
    | _ => exact hv.elim
theorem ok_fromTo (F : Fun K "is_from_to" "is_from_to" sFromTo f fd) (G : Has P w K mg base CX0 1 "is_number" ["value"] spNum) : FnOk P w K mg base CX0 2 f fd ["value", "least", "most"] spFromTo := by
  refine F.ok scFromTo (fun vs H Q E h => ?_) (fun cdv A outer s H vs Q E hr h => ?_)
  · obtain ⟨v, lo, hi, rfl, _⟩ := h
    rfl
  · obtain ⟨v, lo, hi, rfl, hv, q⟩ := h
    refine ⟨_, pss_one (ps_ret (pe_and (pe_has G hr (by decide) pass0 (pa_cons (pv 0) pa_nil)) (pe_one (pe_chain op_le op_le (pv 1) (pv 0) (pv 2))))), ?_⟩
    refine ⟨v, rfl, v, rfl, hv, ?_⟩
    cases v with
    | int i =>
      refine ⟨true, rfl, iteT ?_⟩
      refine ⟨.int lo, rfl, .int i, rfl, lo, i, rfl, rfl, _, rfl, ite2 (fun h => ?_) fun h => ?_⟩
      · refine ⟨.int hi, rfl, i, hi, rfl, rfl, ?_⟩
        have q' : Q (.bl (decide (lo ≤ i) && decide (i ≤ hi))) H := q
        rw [h, Bool.true_and] at q'
        exact q'
      · have q' : Q (.bl (decide (lo ≤ i) && decide (i ≤ hi))) H := q
        rw [eq_false_of_ne_true h, Bool.false_and] at q'
        exact q'
    | bl i => exact ⟨false, rfl, iteF q⟩
    | _ => exact hv.elim
theorem ok_side (F : Fun K "is_side" "is_side" sSide f fd) (C : Cst mg) (G : Has P w K mg base CX0 2 "is_from_to" ["value", "least", "most"] spFromTo) : FnOk P w K mg base CX0 3 f fd ["value"] spSide := by
  refine F.ok scSide (fun vs H Q E h => ?_) (fun cdv A outer s H vs Q E hr h => ?_)
  · obtain ⟨v, rfl, _⟩ := h
    rfl
  · obtain ⟨v, rfl, hv, q⟩ := h
    obtain ⟨t, ht⟩ := C.side
    refine ⟨_, pss_one (ps_ret (pe_has G hr (by decide) pass0 (pa_cons (pv 0) (pa_cons pe_int (pa_cons (pe_glob (v := .int 4) (by rfl) ht ⟨_, rfl⟩) pa_nil))))), ?_⟩
    refine ⟨v, rfl, v, 1, 4, rfl, hv, ?_⟩
    cases v with
    | int i => exact q
    | bl i => exact q
    | _ => exact hv.elim
theorem ok_size (F : Fun K "is_size" "is_size" sSize f fd) (C : Cst mg) (G : Has P w K mg base CX0 3 "is_side" ["value"] spSide) : FnOk P w K mg base CX0 4 f fd ["width", "height"] spSize := by
  refine F.ok scSize (fun vs H Q E h => ?_) (fun cdv A outer s H vs Q E hr h => ?_)
  · obtain ⟨v, u, rfl, _⟩ := h
    rfl
  · obtain ⟨v, u, rfl, hv, hu, q⟩ := h
    obtain ⟨t, ht⟩ := C.cells
    refine ⟨_, pss_one (ps_ret (pe_and (pe_has G hr (by decide) pass0 (pa_cons (pv 0) pa_nil)) (pe_and (pe_has G hr (by decide) pass0 (pa_cons (pv 1) pa_nil))
      (pe_one (pe_cmpR op_le (pe_op op_mul (pv 0) (pv 1)) (pe_glob (v := .int 9) (by rfl) ht ⟨_, rfl⟩) (nomark _)))))), ?_⟩
    refine ⟨v, rfl, v, rfl, hv, _, rfl, ite2 (fun h => ?_) fun h => ?_⟩
    · refine ⟨u, rfl, u, rfl, hu, _, rfl, ite2 (fun h2 => ?_) fun h2 => ?_⟩
      · cases v with
        | int i =>
          cases u with
          | int j =>
            have h' := h
            unfold sideV at h'
            rw [Bool.and_eq_true, decide_eq_true_eq, decide_eq_true_eq] at h'
            refine ⟨.int i, rfl, .int j, rfl, i, j, rfl, rfl, .inl ⟨by omega, by omega⟩, i * j, 9, rfl, rfl, ?_⟩
            have e : sizeV (.int i) (.int j) = decide (i * j ≤ 9) := by unfold sizeV; rw [h, h2]; rfl
            rw [e] at q
            exact q
          | _ => cases h2
        | _ => cases h
      · have e : sizeV v u = false := by unfold sizeV; rw [eq_false_of_ne_true h2, Bool.false_and, Bool.and_false]
        rw [e] at q
        exact q
    · have e : sizeV v u = false := by unfold sizeV; rw [eq_false_of_ne_true h, Bool.false_and]
      rw [e] at q
      exact q
theorem lt_one (a b : Nat) : decide ([a] < [b]) = decide (a < b) := by
  refine decide_eq_decide.mpr ⟨fun q => ?_, fun h => List.Lex.rel h⟩
  cases q with
  | rel q => exact q
  | cons q => cases q
theorem sign_ok (c : Nat) : ((!decide ((⟨#[c]⟩ : Str).cps.toList < (Str.ofString "a").cps.toList)) && (!decide ((Str.ofString "z").cps.toList < (⟨#[c]⟩ : Str).cps.toList))) = signOk c := by
  have e1 : (Str.ofString "a").cps.toList = [97] := by decide +kernel
  have e2 : (Str.ofString "z").cps.toList = [122] := by decide +kernel
  rw [e1, e2]
  show ((!decide ([c] < [97])) && (!decide ([122] < [c]))) = signOk c
  rw [lt_one, lt_one]
  unfold signOk
  rw [← decide_not, ← decide_not]
  congr 1
  · exact decide_eq_decide.mpr Nat.not_lt
  · exact decide_eq_decide.mpr Nat.not_lt
theorem len_eq (z : Str) : z.cps.toList.length = z.length := Array.length_toList
theorem ok_sheet (F : Fun K "is_sheet" "is_sheet" sSheet f fd) (B : Blt mg) : FnOk P w K mg base CX0 1 f fd ["value", "cells"] spSheet := by
  refine F.ok scSheet (fun vs H Q E h => ?_) (fun cdv A outer s H vs Q E hr h => ?_)
  · obtain ⟨z, n, rfl, _⟩ := h
    rfl
  · obtain ⟨z, n, rfl, hz, q⟩ := h
    refine ⟨_, pss_cons (ps_if (PW.pt (pw_or (pt_not (pt_val (pe_callB call_isi (by rfl) B.isi (by decide +kernel) (pa_cons (pv 0) (pa_cons (pe_bltn (v := .ty "str") (by rfl) B.str (by decide +kernel) rfl) pa_nil)))))
        (pw_or1 (pt_cmpR op_ne (pe_callB call_len_str (by rfl) B.len PySem.boot_len (pa_cons (pv 0) pa_nil)) (pv 1) (nomark _))))) (pss_one (ps_ret pe_bl)) pss_nil)
      (pss_one (ps_ret (pe_callB (cr_all rfl) (by rfl) B.all (by decide +kernel) (pa_cons (pe_lc (own := [("sign", 2)]) (g := gName 2) (tt := tYes) rfl scSheet.nd (pi_str (pv 0)) (blkOk_by (N := ["value", "cells", "sign"]) (sc := defScope sSheet) (by decide +kernel))
        (fun _ _ _ _ _ => pg_name (i := 2) scSheet.nd rfl (Or.inl rfl)) (fun _ _ _ _ _ => pts_nil) (fun _ _ _ _ _ => pe_chain op_le_str op_le_str pe_str (pv 2) pe_str)) pa_nil)))), ?_⟩
    refine ⟨_, rfl, _, _, _, _, _, rfl, .ty _, .base (.str z), kit_ty (b := "str") (r := true) (by decide +kernel), true, rfl, iteF ?_⟩
    refine ⟨_, rfl, z, rfl, Nat.le_trans hz (by decide), .int n, rfl, rfl, _, rfl, ite2 (fun h => ?_) fun h => ?_⟩
    · have e : sheetOk z n = false := by
        unfold sheetOk
        rw [decide_eq_false, Bool.false_and]
        intro y
        rw [y] at h
        simp at h
      rw [e] at q
      exact q H (Same.refl H)
    · have hn : (z.length : Int) = n := by
        by_cases y : (z.length : Int) = n
        · exact y
        · exfalso
          apply h
          rw [decide_eq_false (fun w => y (V.int.inj w))]
          rfl
      refine ⟨_, rfl, z, rfl, fun D hD => lc_of (over_str z) (fun i acc H2 => acc = (z.cps.toList.take i).map (fun c => V.bl (signOk c)) ∧ Same H H2) (by rw [signs_len]; omega) ⟨rfl, same_new hD⟩ (fun _ _ _ _ => trivial) (fun i x acc H2 Nx hx hP hD2 kN kS => ?_) fun acc H2 _ hP hD2 => ?_⟩
      · obtain ⟨rfl, hs⟩ := hP
        obtain ⟨c, hc, rfl⟩ : ∃ c, z.cps.toList[i]? = some c ∧ x = .str ⟨#[c]⟩ := by
          unfold signs at hx
          rw [List.getElem?_map] at hx
          cases e : z.cps.toList[i]? with
          | none => rw [e] at hx; cases hx
          | some c => rw [e] at hx; exact ⟨c, rfl, (Option.some.inj hx).symm⟩
        have fin : ∃ acc, H2 D = some (.lst acc) ∧ acc.length < sizeLine ∧ Nx (upd H2 D (.lst (acc ++ [.bl (signOk c)]))) := by
          refine kN _ _ hD2 ⟨?_, fun b o e => ?_⟩
          · rw [List.take_add_one, hc, List.map_append]
            rfl
          · rw [upd_ne (ne_of_none e hD)]
            exact hs b o e
        have e := sign_ok c
        refine ⟨rfl, iteT (B := Nx H2) ⟨_, rfl, _, _, rfl, rfl, _, rfl, ite2 (fun h1 => ?_) fun h1 => ?_⟩⟩
        · refine ⟨_, _, rfl, rfl, ?_⟩
          rw [h1, Bool.true_and] at e
          rw [e]
          exact fin
        · rw [eq_false_of_ne_true h1, Bool.false_and] at e
          rw [e]
          exact fin
      · obtain ⟨rfl, hs⟩ := hP
        refine ⟨D, z.cps.toList.map signOk, rfl, .inl (.inl ?_), ?_⟩
        · rw [hD2, signs_len, ← len_eq, List.take_length, List.map_map]
          rfl
        · have e : sheetOk z n = (z.cps.toList.map signOk).all id := by
            unfold sheetOk
            rw [decide_eq_true hn, Bool.true_and, List.all_map]
            rfl
          rw [← e]
          exact q H2 hs
theorem ok_sheets (F : Fun K "are_sheets" "are_sheets" sSheets f fd) (B : Blt mg) (C : Cst mg) (G : Has P w K mg base CX0 1 "is_sheet" ["value", "cells"] spSheet) : FnOk P w K mg base CX0 2 f fd ["value", "cells"] (spSheets K) := by
  refine F.ok scSheets (fun vs H Q E h => ?_) (fun cdv A outer s H vs Q E hr h => ?_)
  · obtain ⟨t, l, n, rfl, _⟩ := h
    rfl
  · obtain ⟨t, l, n, rfl, hT, hz, hlen, q⟩ := h
    obtain ⟨tk, ht⟩ := C.sheets
    refine ⟨_, pss_cons (ps_if (PW.pt (pw_or (pt_not (pt_val (pe_callB call_isi (by rfl) B.isi (by decide +kernel) (pa_cons (pv 0) (pa_cons (pe_bltn (v := .ty "tuple") (by rfl) B.tup (by decide +kernel) rfl) pa_nil)))))
        (pw_or1 (pt_not (pt_chain op_le op_le pe_int (pe_callB call_len_seq (by rfl) B.len PySem.boot_len (pa_cons (pv 0) pa_nil)) (pe_glob (v := .int 4) (by rfl) ht ⟨_, rfl⟩)))))) (pss_one (ps_ret pe_bl)) pss_nil)
      (pss_one (ps_ret (pe_callB (cr_all rfl) (by rfl) B.all (by decide +kernel) (pa_cons (pe_lc (own := [("sheet", 2)]) (g := gName 2) (tt := tYes) rfl scSheets.nd (pi_tup (pv 0)) (blkOk_by (N := ["value", "cells", "sheet"]) (sc := defScope sSheets) (by decide +kernel))
        (fun _ _ _ _ _ => pg_name (i := 2) scSheets.nd rfl (Or.inl rfl)) (fun _ _ _ _ _ => pts_nil) (fun _ _ _ _ _ => pe_has G hr (by decide) pass0 (pa_cons (pv 2) (pa_cons (pv 1) pa_nil)))) pa_nil)))), ?_⟩
    refine ⟨_, rfl, _, _, _, _, _, rfl, .ty _, .base (.tup hT), kit_ty (b := "tuple") (r := true) (by decide +kernel), true, rfl, iteF ?_⟩
    have go : decide (1 ≤ l.length) = true → decide (l.length ≤ 4) = true → ∀ H' , Same H H' → Q (.bl (l.all fun z => sheetOk z n)) H' := fun a b H' hs => by
      have e : sheetsOk l n = l.all fun z => sheetOk z n := by
        unfold sheetsOk
        rw [a, b, Bool.true_and, Bool.true_and]
      rw [← e]
      exact q H' hs
    have no : ¬ (decide (1 ≤ l.length) = true ∧ decide (l.length ≤ 4) = true) → Q (.bl false) H := fun a => by
      have e : sheetsOk l n = false := by
        unfold sheetsOk
        cases c1 : decide (1 ≤ l.length) with
        | false => rfl
        | true =>
          cases c2 : decide (l.length ≤ 4) with
          | false => rfl
          | true => exact absurd ⟨c1, c2⟩ a
      rw [← e]
      exact q H (Same.refl H)
    have el : (l.map V.str).length = l.length := List.length_map ..
    refine ⟨_, rfl, t, l.map V.str, rfl, .inr (SqT.of hT), 1, ((l.map V.str).length : Int), rfl, rfl, _, rfl, ?_⟩
    rw [el]
    refine ite2 (fun h1 => ?_) fun h1 => ⟨false, rfl, iteT (no fun a => h1 (decide_eq_true (by have := of_decide_eq_true a.1; omega)))⟩
    refine ⟨(l.length : Int), 4, rfl, rfl, _, rfl, ?_⟩
    have h1' : decide (1 ≤ l.length) = true := decide_eq_true (by have := of_decide_eq_true h1; omega)
    show if (!decide ((l.length : Int) ≤ 4)) = true then _ else _
    cases h2 : decide ((l.length : Int) ≤ 4) with
    | false => exact iteT (no fun a => by
        have := of_decide_eq_false h2
        have := of_decide_eq_true a.2
        omega)
    | true =>
      have h2' : decide (l.length ≤ 4) = true := decide_eq_true (by have := of_decide_eq_true h2; omega)
      refine iteF ?_
      refine ⟨_, rfl, t, rfl, ⟨_, SqT.of hT⟩, fun D hD => lc_of (over_tup t (l.map V.str)) (fun i acc H2 => acc = (l.take i).map (fun z => V.bl (sheetOk z n)) ∧ Same H H2) (by omega) ⟨rfl, same_new hD⟩ (fun i acc H2 hP => SqT.of (hP.2 _ _ hT)) (fun i x acc H2 Nx hx hP hD2 kN kS => ?_) fun acc H2 _ hP hD2 => ?_⟩
      · obtain ⟨rfl, hs⟩ := hP
        obtain ⟨z, hc, rfl⟩ : ∃ z, l[i]? = some z ∧ x = .str z := by
          rw [List.getElem?_map] at hx
          cases e : l[i]? with
          | none => rw [e] at hx; cases hx
          | some c => rw [e] at hx; exact ⟨c, rfl, (Option.some.inj hx).symm⟩
        refine ⟨rfl, iteT (B := Nx H2) ⟨_, rfl, .int n, rfl, z, n, rfl, hz z (List.mem_of_getElem? hc), fun H3 s3 => kN _ _ (s3 _ _ hD2) ⟨?_, fun b o e => ?_⟩⟩⟩
        · rw [List.take_add_one, hc, List.map_append]
          rfl
        · rw [upd_ne (ne_of_none e hD)]
          exact s3 _ _ (hs b o e)
      · obtain ⟨rfl, hs⟩ := hP
        refine ⟨D, l.map fun z => sheetOk z n, rfl, .inl (.inl ?_), ?_⟩
        · rw [hD2, el, List.take_length, List.map_map]
          rfl
        · have e : (l.all fun z => sheetOk z n) = (l.map fun z => sheetOk z n).all id := by
            rw [List.all_map]
            rfl
          rw [← e]
          exact go h1' h2' H2 hs
end
end Kn

/-! != of instances whose class has an __eq__ and no __ne__ of its own; len of instances with an own __len__ -/
namespace Xo
open PySem PySem.W PySem.Calls PyProof.Rows
section
variable {prog : Program} {w : World} {M : Model} {A : Around} {E : Value → Shared → Prop} {s : Shared} {K : Frag} {x y C f : Addr} {ox oy : Obj} {od oe : Option Obj}
theorem bound_ne {more : List Value} {Q : Option Value → Shared → Prop} (X : K.In s.heap) (I : InstAt s.heap x ox C od) (hs : findIn K (.ref C) "__ne__" = some (some (.builtin "object.__ne__")))
    (h : wpAny M A (call (.builtin "object.__ne__") (.ref x :: more)) (fun v => Q (some v)) E s) : wpAny M A (callSpecialIfBound? (.ref x) "__ne__" more) Q E s := by
  have go : wpAny M A (call (.builtin "object.__ne__") ([.ref x] ++ more) >>= fun v => pure (some v)) Q E s := wpAny_bind (wpAny_mono h (fun v s' z => wpAny_pure z) fun _ _ z => z)
  simp only [callSpecialIfBound?, bindSpecialIfBound?]
  refine wpAny_holding (wpAny_bind (wpAny_bind (wpAny_bind (I.type.here ((looks_findIn X hs).here (wpAny_bind (wpAny_askSetting (wpAny_ite ?_))))))))
  split
  · exact wpAny_bind (wpAny_of_eq (F.cmp_object.ne.bind _) (wpAny_pure (by exact go)))
  · exact wpAny_tryCatch (wpAny_bind (wpAny_of_eq (F.cmp_object.ne.bind _) (wpAny_pure (by exact go))))
theorem call_ne {Q : Value → Shared → Prop} (hu : A.in1.units < cLine) (X : K.In s.heap) (I : InstAt s.heap x ox C od) (hm : mroIn K C (.type "object") = some true) (he : findIn K (.ref C) "__eq__" = some (some (.ref f))) (hf : isFn K (.ref f) = true)
    (h : wpAny (model prog w) A.in1 (call (.ref f) [.ref x, .ref y]) (fun v s' => ∃ b, v = .bool b ∧ Q (.bool (!b)) s') E s) : wpAny (model prog w) A (call (.builtin "object.__ne__") [.ref x, .ref y]) Q E s := by
  refine wpAny_call (codeAny_call_builtin F.cmp_object.ne.plain F.cmpEntry_ne (check_slot F.cmpKind_ne F.cmpSplit_ne (I.type.andThen (looks_mroIn X hm)) (F.cmpArgs_ne _ _) ?_))
  unfold Builtin.«object.__ne__»
  refine wpAny_bind (wpAny_of_eq (a := ((Value.ref x : Value), [Value.ref y])) (by first | rfl | (simp only [slotArgs]; rfl)) ?_)
  refine wpAny_bind (wpAny_cRoomFor hu ?_)
  refine wpAny_bind (ifBound_K X I he hf (wpAny_mono h (fun v s' z => ?_) fun _ _ z => z))
  obtain ⟨b, rfl, q⟩ := z
  exact wpAny_bind (wpAny_truthy_bool (wpAny_pure q))
theorem rich_ne {Q : Value → Shared → Prop} (hu : A.units < cLine) (hu1 : A.in1.units < cLine) (X : K.In s.heap) (I : InstAt s.heap x ox C od) (J : InstAt s.heap y oy C oe) (hm : mroIn K C (.type "object") = some true)
    (hn : findIn K (.ref C) "__ne__" = some (some (.builtin "object.__ne__"))) (he : findIn K (.ref C) "__eq__" = some (some (.ref f))) (hf : isFn K (.ref f) = true)
    (h : wpAny (model prog w) A.in1 (call (.ref f) [.ref x, .ref y]) (fun v s' => ∃ b, v = .bool b ∧ Q (.bool (!b)) s') E s) : wpAny (model prog w) A (compareOp .NotEq (.ref x) (.ref y)) Q E s := by
  refine cmp_ofNotEq ?_
  have one : wpAny (model prog w) A (tryCompare (.ref x) "__ne__" (.ref y)) (fun r s' => ∃ b, r = some (.bool b) ∧ Q (.bool b) s') E s := by
    unfold tryCompare
    refine wpAny_bind (bound_ne X I hn (call_ne hu1 X I hm he hf (wpAny_mono h (fun v s' z => ?_) fun _ _ z => z)))
    obtain ⟨b, rfl, q⟩ := z
    exact ⟨b, rfl, wpAny_pure ⟨!b, rfl, q⟩⟩
  have e0 : (Value.ref C != Value.ref C) = false := by simp
  unfold richCompare
  simp only [oneThing_ref, cmpInfo_NotEq]
  refine wpAny_holding (wpAny_bind (wpAny_cRoomFor hu ?_))
  refine wpAny_bind (I.type.here (wpAny_bind (J.type.here ?_)))
  rw [e0]
  refine wpAny_bind (wpAny_pure ?_)
  simp only [Bool.false_eq_true, if_false, Bool.not_false, if_true]
  refine wpAny_bind (wpAny_mono one (fun r s' z => ?_) fun _ _ z => z)
  obtain ⟨b, rfl, q⟩ := z
  exact wpAny_pure q
end
end Xo
namespace L2
open PySem PySem.Spec PyProof.Rows
structure NeC (K : PySem.W.Frag) (C f : Addr) : Prop where
  hm : PySem.W.mroIn K C (.type "object") = some true
  hn : PySem.W.findIn K (.ref C) "__ne__" = some (some (.builtin "object.__ne__"))
  he : PySem.W.findIn K (.ref C) "__eq__" = some (some (.ref f))
  hf : PySem.W.isFn K (.ref f) = true
def rNeO (C : Addr) (sp : Sp) : R2 := fun x y H Q => ∃ a b dx fs dy gs, x = .ref a ∧ y = .ref b ∧ H a = some (.ins C dx fs) ∧ H b = some (.ins C dy gs) ∧ sp [.ref a, .ref b] H (fun v H' => ∃ r, v = .bl r ∧ Q (.bl (!r)) H') (fun _ _ _ => False)
def rLenO (C : Addr) (sp : Sp) : List V → Hp → VK → Prop := fun vs H Q => ∃ a dx fs, vs = [.ref a] ∧ H a = some (.ins C dx fs) ∧ sp [.ref a] H (fun v H' => ∃ n : Int, v = .int n ∧ 0 ≤ n ∧ n < 2 ^ 63 ∧ Q (.int n) H') (fun _ _ _ => False)
section
variable {X : Cx} {C f : Addr} {k : Nat} {fd : FuncData} {ps : List Str} {sp : Sp}
/-- one of the own methods runs within a built-in -/
theorem run_in1 {pins : List (Addr × Obj)} {σ : St} {H : Hp} {s : Shared} {Q : VK} {E : Value → Shared → Prop} {us : List Value} {vs : List V} (F : FnOk X.prog X.w X.K X.mg X.base CX0 k f fd ps sp) (hr : Room (k + 1) X.A) (hb : Binds X.K fd ps [])
    (I : Inv X pins σ H s) (r : Vals vs us) (h : sp vs H Q (fun _ _ _ => False)) : wpAny (model X.prog X.w) X.A.in1 (call (.ref f) us) (EP X pins σ Q) E s := by
  have hl : us.length = ps.length := by rw [← r.length]; exact F.len _ _ _ _ h
  have b := hb s us I.kIn (by rw [List.append_nil]; exact hl)
  rw [List.append_nil] at b
  refine wpAny_call (codeAny_mono (F.run X.A.in1 X.stack s H ⟨us, []⟩ us vs Q (fun _ _ _ => False) hr.in1 I.env0.in1 b r h) fun z s' hq => ?_)
  cases z with
  | error e => exact (show False from hq).elim
  | ok fl =>
    cases fl with
    | ret u => exact I.after hq
    | next => exact False.elim hq
    | brk => exact False.elim hq
    | cont => exact False.elim hq
theorem op_neO (c : NeC X.K C f) (F : FnOk X.prog X.w X.K X.mg X.base CX0 k f fd ps sp) (hr : Room (k + 1) X.A) (hb : Binds X.K fd ps []) : OpR X (compareOp .NotEq) (rNeO C sp) := by
  intro pins s σ H x y v u Q I rx ry h
  obtain ⟨a, b, dx, fs, dy, gs, rfl, rfl, ha, hb', hs⟩ := h
  cases rx
  cases ry
  obtain ⟨mA, J, _⟩ := ins_get I.hok ha
  obtain ⟨mB, J', _⟩ := ins_get I.hok hb'
  obtain ⟨od, J, _⟩ := J.look
  obtain ⟨od', J', _⟩ := J'.look
  refine Xo.rich_ne hr.units0 hr.in1.units0 I.kIn J J' c.hm c.hn c.he c.hf ?_
  refine wpAny_mono (run_in1 (vs := [V.ref a, V.ref b]) F hr hb I (.cons rfl (.cons rfl .nil)) hs) (fun z s' q => ?_) fun _ _ e => e
  obtain ⟨v', H', I', rv, r, rfl, q⟩ := q
  obtain rfl : z = Value.bool r := rv
  exact ⟨r, rfl, .bl (!r), H', I', rfl, q⟩
theorem call_lenO (hs : PySem.W.findIn X.K (.ref C) "__len__" = some (some (.ref f))) (hf : PySem.W.isFn X.K (.ref f) = true) (F : FnOk X.prog X.w X.K X.mg X.base CX0 k f fd ps sp) (hr : Room (k + 1) X.A) (hb : Binds X.K fd ps []) :
    CallR X (.builtin "len") (rLenO C sp) := by
  intro pins s σ H xs us Q I r h
  obtain ⟨a, dx, fs, rfl, ha, hsp⟩ := h
  rw [Vals.ref1 r]
  obtain ⟨mA, J, _⟩ := ins_get I.hok ha
  obtain ⟨od, J, _⟩ := J.look
  obtain ⟨m, fr⟩ := I.fr
  refine PySem.W.len_K fr I.ok.mod.kin J hs hf (wpAny_mono (run_in1 (vs := [V.ref a]) F hr hb I (.cons rfl .nil) hsp) (fun z s' q => ?_) fun _ _ e => e)
  obtain ⟨v', H', I', rv, n, rfl, h0, h1, q⟩ := q
  obtain ⟨t, rfl⟩ : ∃ t, z = Value.int n t := rv
  exact ⟨⟨h0, h1⟩, .int n, H', I'.tok _, ⟨_, rfl⟩, q⟩
end
end L2

namespace Kn
open PySem PySem.Spec L2 Kw
theorem scWrong : FnScope ["width", "height", "sheets"] ["width", "height", "sheets"] (defScope sWrong) := ⟨rfl, rfl, rfl, by decide +kernel, rfl, by decide +kernel, by decide +kernel⟩
theorem scInit : FnScope ["self", "width", "height", "sheets", "part"] ["self", "width", "height", "sheets"] (defScope sInit) := ⟨rfl, rfl, rfl, by decide +kernel, rfl, by decide +kernel, by decide +kernel⟩
theorem scW : FnScope ["self"] ["self"] (defScope sW) := ⟨rfl, rfl, rfl, by decide +kernel, rfl, by decide +kernel, by decide +kernel⟩
theorem scH : FnScope ["self"] ["self"] (defScope sH) := ⟨rfl, rfl, rfl, by decide +kernel, rfl, by decide +kernel, by decide +kernel⟩
theorem scS : FnScope ["self"] ["self"] (defScope sS) := ⟨rfl, rfl, rfl, by decide +kernel, rfl, by decide +kernel, by decide +kernel⟩
theorem scC : FnScope ["self"] ["self"] (defScope sC) := ⟨rfl, rfl, rfl, by decide +kernel, rfl, by decide +kernel, by decide +kernel⟩
theorem scLen : FnScope ["self"] ["self"] (defScope sLen) := ⟨rfl, rfl, rfl, by decide +kernel, rfl, by decide +kernel, by decide +kernel⟩
theorem scEq : FnScope ["self", "other"] ["self", "other"] (defScope sEq) := ⟨rfl, rfl, rfl, by decide +kernel, rfl, by decide +kernel, by decide +kernel⟩
/-! ### what is wrong with the parts -/
def wrongV (v u : V) (l : List Str) : Option Str := if sideV v = true then (if sizeV v u = true then (if sheetsOk l (valI v * valI u) = true then none else some "sheets") else some "height") else some "width"
def optV : Option Str → V
  | none => .non
  | some z => .str z
/-- sheets as they are handed in -/
structure Given (H : Hp) (t : Addr) (l : List Str) : Prop where
  at_ : H t = some (.tup (l.map V.str))
  small : ∀ z ∈ l, z.length ≤ 1000
  few : l.length ≤ 1000
  okc : ∀ z ∈ l, PyData.strOk z = true
theorem Given.same {H H' : Hp} {t : Addr} {l : List Str} (g : Given H t l) (s : Same H H') : Given H' t l := ⟨s _ _ g.at_, g.small, g.few, g.okc⟩
def spWrong : Sp := fun vs H Q _ => ∃ v u t l, vs = [v, u, .ref t] ∧ NumLike v ∧ NumLike u ∧ Given H t l ∧ ∀ H', Same H H' → Q (optV (wrongV v u l)) H'
/-- the fields of a packet -/
def pf (v u : V) (t : Addr) : List (Str × V) := [("_width", v), ("_height", u), ("_sheets", .ref t)]
theorem pf_put (v u : V) (t : Addr) : putF "_sheets" (.ref t) (putF "_height" u (putF "_width" v [])) = pf v u t := by
  have n1 : ("_width" : Str) ≠ "_height" := by decide +kernel
  have n2 : ("_width" : Str) ≠ "_sheets" := by decide +kernel
  have n3 : ("_height" : Str) ≠ "_sheets" := by decide +kernel
  simp only [putF, if_neg n1, if_neg n2, if_neg n3]
  rfl
theorem pf_w (v u : V) (t : Addr) : List.lookup ("_width" : Str) (pf v u t) = some v := by unfold pf; simp [List.lookup]
theorem pf_h (v u : V) (t : Addr) : List.lookup ("_height" : Str) (pf v u t) = some u := by
  have e : (Str.ofString "_height" == Str.ofString "_width") = false := by decide +kernel
  unfold pf
  simp [List.lookup, e]
theorem pf_s (v u : V) (t : Addr) : List.lookup ("_sheets" : Str) (pf v u t) = some (V.ref t) := by
  have e : (Str.ofString "_sheets" == Str.ofString "_width") = false := by decide +kernel
  have e2 : (Str.ofString "_sheets" == Str.ofString "_height") = false := by decide +kernel
  unfold pf
  simp [List.lookup, e, e2]
structure Pk (H : Hp) (C a dx : Addr) (w h : Int) (t : Addr) (l : List Str) : Prop where
  at_ : H a = some (.ins C dx (pf (.int w) (.int h) t))
  giv : Given H t l
/-- what the written part says of the class Packet -/
structure PkC (K : PySem.W.Frag) (mg : Str → Option Value) (C : Addr) : Prop where
  g : mg "Packet" = some (.ref C)
  cl : Cls K C
  nw : NoAttr K C "_width"
  nh : NoAttr K C "_height"
  ns : NoAttr K C "_sheets"
  ca : PySem.W.findIn K (.ref C) "__class__" = some (some (.builtin "object.__class__"))
  cg : PySem.W.specialIn K (.builtin "object.__class__") "__get__" = some (some (.builtin "getset_descriptor.__get__"))
  ct : PySem.W.takesIn K (.builtin "object.__class__") = some true
  mo : PySem.W.mroIn K C (.type "object") = some true
  me : PySem.W.kitOne K (.ref C) (.ref C) = some true
section
variable {P : Program} {w : World} {K : PySem.W.Frag} {mg : Str → Option Value} {base : Heap} {f : Addr} {fd : FuncData}
theorem ok_wrong (F : Fun K "wrong_part" "wrong_part" sWrong f fd) (G1 : Has P w K mg base CX0 3 "is_side" ["value"] spSide) (G2 : Has P w K mg base CX0 4 "is_size" ["width", "height"] spSize)
    (G3 : Has P w K mg base CX0 2 "are_sheets" ["value", "cells"] (spSheets K)) : FnOk P w K mg base CX0 5 f fd ["width", "height", "sheets"] spWrong := by
  refine F.ok scWrong (fun vs H Q E h => ?_) (fun cdv A outer s H vs Q E hr h => ?_)
  · obtain ⟨v, u, t, l, rfl, _⟩ := h
    rfl
  · obtain ⟨v, u, t, l, rfl, hv, hu, g, q⟩ := h
    refine ⟨_, pss_cons (ps_if (pt_not (pt_val (pe_has G1 hr (by decide) pass0 (pa_cons (pv 0) pa_nil)))) (pss_one (ps_ret pe_str)) pss_nil)
      (pss_cons (ps_if (pt_not (pt_val (pe_has G2 hr (by decide) pass0 (pa_cons (pv 0) (pa_cons (pv 1) pa_nil))))) (pss_one (ps_ret pe_str)) pss_nil)
      (pss_cons (ps_if (pt_not (pt_val (pe_has G3 hr (by decide) pass0 (pa_cons (pv 2) (pa_cons (pe_op op_mul (pv 0) (pv 1)) pa_nil))))) (pss_one (ps_ret pe_str)) pss_nil)
      (pss_one (ps_ret pe_non)))), ?_⟩
    refine ⟨v, rfl, v, rfl, hv, _, rfl, ?_⟩
    cases c1 : sideV v with
    | false =>
      have e : wrongV v u l = some "width" := by unfold wrongV; rw [c1]; rfl
      rw [e] at q
      exact iteT (q H (Same.refl H))
    | true =>
      refine iteF ⟨v, rfl, u, rfl, v, u, rfl, hv, hu, _, rfl, ?_⟩
      cases c2 : sizeV v u with
      | false =>
        have e : wrongV v u l = some "height" := by unfold wrongV; rw [c1, c2]; rfl
        rw [e] at q
        exact iteT (q H (Same.refl H))
      | true =>
        cases v with
        | int i =>
          cases u with
          | int j =>
            have c1' : (decide (1 ≤ i) && decide (i ≤ 4)) = true := c1
            rw [Bool.and_eq_true, decide_eq_true_eq, decide_eq_true_eq] at c1'
            refine iteF ⟨.ref t, rfl, .int i, rfl, .int j, rfl, i, j, rfl, rfl, .inl ⟨by omega, by omega⟩, t, l, i * j, rfl, g.at_, g.small, g.few, fun H' s' => ⟨_, rfl, ?_⟩⟩
            cases c3 : sheetsOk l (i * j) with
            | false =>
              have e : wrongV (.int i) (.int j) l = some "sheets" := by unfold wrongV; rw [c1, c2]; show (if (sheetsOk l (i * j) = true) then _ else _) = _; rw [c3]; rfl
              rw [e] at q
              exact iteT (q H' s')
            | true =>
              have e : wrongV (.int i) (.int j) l = none := by unfold wrongV; rw [c1, c2]; show (if (sheetsOk l (i * j) = true) then _ else _) = _; rw [c3]; rfl
              rw [e] at q
              exact iteF (q H' s')
          | _ =>
            unfold sizeV sideV at c2
            simp at c2
        | _ =>
          unfold sideV at c1
          cases c1
/-- Packet(..): the new instance is filled, or InvalidPacket leaves -/
def spInit (C CP : Addr) : Sp := fun vs H Q E => ∃ x dx v u t l, vs = [.ref x, v, u, .ref t] ∧ H x = some (.ins C dx []) ∧ NumLike v ∧ NumLike u ∧ Given H t l ∧
  (wrongV v u l = none → ∀ H', (∀ b o, b ≠ x → H b = some o → H' b = some o) → H' x = some (.ins C dx (pf v u t)) → Q .non H') ∧
  ∀ z, wrongV v u l = some z → ∀ d H', Same H H' → H d = none → H' d = some (.xd [(Xp.F1, .str z)]) → E (.ref CP) (some d) H'
theorem wrong_small {v u : V} {l : List Str} {z : Str} (h : wrongV v u l = some z) : z.length ≤ 1000 := by
  unfold wrongV at h
  split at h
  · split at h
    · split at h
      · cases h
      · cases h
        decide +kernel
    · cases h
      decide +kernel
  · cases h
    decide +kernel
theorem ok_init {C CP fP : Addr} (F : Fun K "__init__" "Packet.__init__" sInit f fd) (T : PkC K mg C) (TP : Xp.PTxt P K mg "InvalidPacket" CP fP) (G : Has P w K mg base CX0 5 "wrong_part" ["width", "height", "sheets"] spWrong) :
    FnOk P w K mg base (L2.CX P w) 6 f fd ["self", "width", "height", "sheets"] (spInit C CP) := by
  refine F.okX scInit (fun vs H Q E h => ?_) (fun cdv A outer s H vs Q E hr h => ?_)
  · obtain ⟨x, dx, v, u, t, l, rfl, _⟩ := h
    rfl
  · obtain ⟨x, dx, v, u, t, l, rfl, hx, hv, hu, g, q, e⟩ := h
    refine ⟨_, pss_cons (ps_set (i := 4) scInit.nd rfl (Or.inl rfl) (pe_has G hr (by decide) pass0 (pa_cons (pv 1) (pa_cons (pv 2) (pa_cons (pv 3) pa_nil)))))
      (pss_cons (ps_if (pt_cmpR op_notN (pv 4) pe_non (nomark _)) (pss_one (ps_raisePart (W := fun cls d _ H => E cls d H) rfl TP hr (takes_of rfl rfl rfl rfl) (by exact (pa_cons (pv 4) pa_nil)))) pss_nil)
      (pss_cons (ps_fld (pv 0) (pv 1) rfl) (pss_cons (ps_fld (pv 0) (pv 2) rfl) (pss_one (ps_fld (pv 0) (pv 3) rfl))))), ?_⟩
    refine ⟨v, rfl, u, rfl, .ref t, rfl, v, u, t, l, rfl, hv, hu, g, fun H1 s1 => ?_⟩
    refine ⟨_, rfl, rfl, _, rfl, ?_⟩
    cases c : wrongV v u l with
    | some z =>
      refine iteT ⟨_, rfl, .str z, rfl, wrong_small c, fun d hd => e z c d _ (fun b o h => ?_) (s1.free hd) upd_same⟩
      rw [upd_ne (ne_of_none (s1 _ _ h) hd)]
      exact s1 _ _ h
    | none =>
      refine iteF ?_
      refine ⟨v, rfl, _, rfl, x, C, dx, [], rfl, s1 _ _ hx, T.cl, T.nw, by decide, ?_⟩
      refine ⟨u, rfl, _, rfl, x, C, dx, _, rfl, upd_same, T.cl, T.nh, by show 1 < 1000; decide, ?_⟩
      refine ⟨.ref t, rfl, _, rfl, x, C, dx, _, rfl, upd_same, T.cl, T.ns, ?_, ?_⟩
      · have n1 : ("_width" : Str) ≠ "_height" := by decide +kernel
        simp only [putF, if_neg n1]
        show 2 < 1000
        decide
      · refine q c _ (fun b o hb h => ?_) ?_
        · rw [upd_ne hb, upd_ne hb, upd_ne hb]
          exact s1 _ _ h
        · rw [upd_same, pf_put]
/-! ### what a packet tells -/
def spW (C : Addr) : Sp := fun vs H Q _ => ∃ a dx w h t l, vs = [.ref a] ∧ Pk H C a dx w h t l ∧ Q (.int w) H
def spH (C : Addr) : Sp := fun vs H Q _ => ∃ a dx w h t l, vs = [.ref a] ∧ Pk H C a dx w h t l ∧ Q (.int h) H
def spS (C : Addr) : Sp := fun vs H Q _ => ∃ a dx w h t l, vs = [.ref a] ∧ Pk H C a dx w h t l ∧ Q (.ref t) H
def spC (C : Addr) : Sp := fun vs H Q _ => ∃ a dx w h t l, vs = [.ref a] ∧ Pk H C a dx w h t l ∧ -100 < w ∧ w < 100 ∧ Q (.int (w * h)) H
def spLen (C : Addr) : Sp := fun vs H Q _ => ∃ a dx w h t l, vs = [.ref a] ∧ Pk H C a dx w h t l ∧ Q (.int l.length) H
def spEqP (C : Addr) : Sp := fun vs H Q _ => ∃ a dx w h t l b dy w' h' t' l', vs = [.ref a, .ref b] ∧ Pk H C a dx w h t l ∧ Pk H C b dy w' h' t' l' ∧ Q (.bl (decide (w = w') && (decide (h = h') && decide (l = l')))) H
theorem ok_w {C : Addr} (F : Fun K "width" "Packet.width" sW f fd) (T : PkC K mg C) : FnOk P w K mg base CX0 1 f fd ["self"] (spW C) := by
  refine F.ok scW (fun vs H Q E h => ?_) (fun cdv A outer s H vs Q E hr h => ?_)
  · obtain ⟨a, dx, w, h, t, l, rfl, _⟩ := h
    rfl
  · obtain ⟨a, dx, w, h, t, l, rfl, p, q⟩ := h
    exact ⟨_, pss_one (ps_ret (pe_fld (pv 0) rfl)), _, rfl, a, C, dx, _, _, rfl, p.at_, T.cl, T.nw, pf_w _ _ _, q⟩
theorem ok_h {C : Addr} (F : Fun K "height" "Packet.height" sH f fd) (T : PkC K mg C) : FnOk P w K mg base CX0 1 f fd ["self"] (spH C) := by
  refine F.ok scH (fun vs H Q E h => ?_) (fun cdv A outer s H vs Q E hr h => ?_)
  · obtain ⟨a, dx, w, h, t, l, rfl, _⟩ := h
    rfl
  · obtain ⟨a, dx, w, h, t, l, rfl, p, q⟩ := h
    exact ⟨_, pss_one (ps_ret (pe_fld (pv 0) rfl)), _, rfl, a, C, dx, _, _, rfl, p.at_, T.cl, T.nh, pf_h _ _ _, q⟩
theorem ok_s {C : Addr} (F : Fun K "sheets" "Packet.sheets" sS f fd) (T : PkC K mg C) : FnOk P w K mg base CX0 1 f fd ["self"] (spS C) := by
  refine F.ok scS (fun vs H Q E h => ?_) (fun cdv A outer s H vs Q E hr h => ?_)
  · obtain ⟨a, dx, w, h, t, l, rfl, _⟩ := h
    rfl
  · obtain ⟨a, dx, w, h, t, l, rfl, p, q⟩ := h
    exact ⟨_, pss_one (ps_ret (pe_fld (pv 0) rfl)), _, rfl, a, C, dx, _, _, rfl, p.at_, T.cl, T.ns, pf_s _ _ _, q⟩
theorem ok_c {C : Addr} (F : Fun K "cells" "Packet.cells" sC f fd) (T : PkC K mg C) : FnOk P w K mg base CX0 1 f fd ["self"] (spC C) := by
  refine F.ok scC (fun vs H Q E h => ?_) (fun cdv A outer s H vs Q E hr h => ?_)
  · obtain ⟨a, dx, w, h, t, l, rfl, _⟩ := h
    rfl
  · obtain ⟨a, dx, w, h, t, l, rfl, p, h0, h1, q⟩ := h
    exact ⟨_, pss_one (ps_ret (pe_op op_mul (pe_fld (pv 0) rfl) (pe_fld (pv 0) rfl))), _, rfl, a, C, dx, _, _, rfl, p.at_, T.cl, T.nw, pf_w _ _ _, _, rfl, a, C, dx, _, _, rfl, p.at_, T.cl, T.nh, pf_h _ _ _, w, h, rfl, rfl, .inl ⟨by omega, by omega⟩, q⟩
theorem ok_len {C : Addr} (F : Fun K "__len__" "Packet.__len__" sLen f fd) (T : PkC K mg C) (B : Blt mg) : FnOk P w K mg base CX0 1 f fd ["self"] (spLen C) := by
  refine F.ok scLen (fun vs H Q E h => ?_) (fun cdv A outer s H vs Q E hr h => ?_)
  · obtain ⟨a, dx, w, h, t, l, rfl, _⟩ := h
    rfl
  · obtain ⟨a, dx, w, h, t, l, rfl, p, q⟩ := h
    refine ⟨_, pss_one (ps_ret (pe_callB call_len_seq (by rfl) B.len PySem.boot_len (pa_cons (pe_fld (pv 0) rfl) pa_nil))), _, rfl, a, C, dx, _, _, rfl, p.at_, T.cl, T.ns, pf_s _ _ _, t, l.map V.str, rfl, .inr (SqT.of p.giv.at_), ?_⟩
    rw [List.length_map]
    exact q
/-! ### data -/
theorem lay_texts : ∀ l : List Str, (∀ z ∈ l, PyData.strOk z = true) → PyData.canLayAll0 (l.map PyData.str) = true ∧ PyData.depthAll (l.map PyData.str) = 0
  | [], _ => by simp [PyData.canLayAll0, PyData.depthAll]
  | z :: l, k => by
    have h := lay_texts l fun y hy => k y (List.mem_cons_of_mem _ hy)
    simp [PyData.canLayAll0, PyData.canLay0, PyData.depthAll, PyData.depth, h.1, h.2, k z List.mem_cons_self]
theorem shaped_texts (l : List Str) (k : ∀ z ∈ l, PyData.strOk z = true) : SeqAt.shaped (.tuple (l.map PyData.str)) = true := by
  have h := lay_texts l k
  simp [SeqAt.shaped, PyData.canLay0, PyData.depth, h.1, h.2]
theorem dp_texts {K : PySem.W.Frag} {H : Hp} : ∀ l : List Str, DpAll K H (l.map V.str) (l.map PyData.str)
  | [] => .nil
  | z :: l => .cons (.str z) (dp_texts l)
theorem eqv_texts : ∀ l l' : List Str, PyData.eqvAll (l.map PyData.str) (l'.map PyData.str) = decide (l = l')
  | [], [] => by simp [PyData.eqvAll]
  | [], _ :: _ => by simp [PyData.eqvAll]
  | _ :: _, [] => by simp [PyData.eqvAll]
  | z :: l, z' :: l' => by
    have h := eqv_texts l l'
    simp only [List.map_cons, PyData.eqvAll, PyData.eqv, h]
    by_cases e : z = z'
    · subst e
      simp
    · simp [e]
theorem eqv_tuple (l l' : List Str) : PyData.eqv (.tuple (l.map PyData.str)) (.tuple (l'.map PyData.str)) = decide (l = l') := by
  rw [← eqv_texts]
  simp [PyData.eqv]
theorem ok_eq {C : Addr} (F : Fun K "__eq__" "Packet.__eq__" sEq f fd) (T : PkC K mg C) (B : Blt mg) : FnOk P w K mg base CX0 1 f fd ["self", "other"] (spEqP C) := by
  refine F.ok scEq (fun vs H Q E h => ?_) (fun cdv A outer s H vs Q E hr h => ?_)
  · obtain ⟨a, dx, w, h, t, l, b, dy, w', h', t', l', rfl, _⟩ := h
    rfl
  · obtain ⟨a, dx, w, h, t, l, b, dy, w', h', t', l', rfl, p, p', q⟩ := h
    refine ⟨_, pss_one (ps_ret (pe_and (pe_callB call_isi (by rfl) B.isi (by decide +kernel) (pa_cons (pv 1) (pa_cons (pe_glob (v := .ref C) (by rfl) T.g rfl) pa_nil)))
      (pe_and (pe_cmpR op_eq (pe_fld (pv 0) rfl) (pe_fld (pv 1) rfl) (nomark _)) (pe_and (pe_cmpR op_eq (pe_fld (pv 0) rfl) (pe_fld (pv 1) rfl) (nomark _))
      (pe_one (pe_cmpR (op_eqD hr.units) (pe_fld (pv 0) rfl) (pe_fld (pv 1) rfl) (nomark _))))))), ?_⟩
    refine ⟨_, rfl, .ref b, .ref C, _, _, true, rfl, .own C, .base (.ins p'.at_ T.cl T.ca T.cg T.ct T.mo), T.me, true, rfl, iteT ?_⟩
    refine ⟨_, rfl, a, C, dx, _, _, rfl, p.at_, T.cl, T.nw, pf_w _ _ _, _, rfl, b, C, dy, _, _, rfl, p'.at_, T.cl, T.nw, pf_w _ _ _, rfl, _, rfl, ?_⟩
    have e1 : decide (V.int w = V.int w') = decide (w = w') := by simp
    have e2 : decide (V.int h = V.int h') = decide (h = h') := by simp
    rw [e1]
    cases c1 : decide (w = w') with
    | false =>
      rw [c1] at q
      exact iteF q
    | true =>
      rw [c1, Bool.true_and] at q
      refine iteT ⟨_, rfl, a, C, dx, _, _, rfl, p.at_, T.cl, T.nh, pf_h _ _ _, _, rfl, b, C, dy, _, _, rfl, p'.at_, T.cl, T.nh, pf_h _ _ _, rfl, _, rfl, ?_⟩
      rw [e2]
      cases c2 : decide (h = h') with
      | false =>
        rw [c2] at q
        exact iteF q
      | true =>
        rw [c2, Bool.true_and] at q
        refine iteT ⟨_, rfl, a, C, dx, _, _, rfl, p.at_, T.cl, T.ns, pf_s _ _ _, _, rfl, b, C, dy, _, _, rfl, p'.at_, T.cl, T.ns, pf_s _ _ _,
          .tuple (l.map PyData.str), .tuple (l'.map PyData.str), .tup (SqT.of p.giv.at_) (dp_texts l), .tup (SqT.of p'.giv.at_) (dp_texts l'), shaped_texts l p.giv.okc, shaped_texts l' p'.giv.okc, ?_⟩
        rw [eqv_tuple]
        exact q
end
end Kn

namespace Kn
open PySem PySem.Spec L2 Kw
theorem scTaken : FnScope ["_law_row", "_law_many", "_law_found", "_law_cell"] ["_law_row", "_law_many"] (defScope sTaken) := ⟨rfl, rfl, rfl, by decide +kernel, rfl, by decide +kernel, by decide +kernel⟩
theorem scPick : FnScope ["_law_row", "_law_some"] ["_law_row", "_law_some"] (defScope sPick) := ⟨rfl, rfl, rfl, by decide +kernel, rfl, by decide +kernel, by decide +kernel⟩
/-- the list at scr is a part of the text's own state -/
def Wr (K : PySem.W.Frag) (scr : Addr) (xs : List V) : Prop := ∃ (o : Obj) (its : Array Value) (n : Nat), K.lookup scr = some o ∧ o.cls = .type "list" ∧ o.dict = none ∧ o.data = .seq its n ∧ its.size ≤ sizeLine ∧ Vals xs its.toList
/-- the reader at r of the script at scr -/
structure RowAt (K : PySem.W.Frag) (H : Hp) (r scr : Addr) (ns : List Int) : Prop where
  ex : ∃ i seed rest : Int, H r = some (.lst [.ref scr, .int i, .int seed, .int rest]) ∧ 0 ≤ i ∧ 0 ≤ seed ∧ seed < 2147483647 ∧ 0 ≤ rest
  src : (scr ≠ r ∧ Rd H scr (.lst (ns.map V.int))) ∨ Wr K scr (ns.map V.int)
  few : ns.length ≤ 63
theorem RowAt.scr {K : PySem.W.Frag} {H : Hp} {r scr : Addr} {ns : List Int} (a : RowAt K H r scr ns) : SqL K H scr (ns.map V.int) := a.src.elim (fun h => .inl h.2) .inr
/-- all that was tracked is as it was, but what stands at r -/
def But (r : Addr) (H H' : Hp) : Prop := ∀ b o, b ≠ r → H b = some o → H' b = some o
theorem But.refl (r : Addr) (H : Hp) : But r H H := fun _ _ _ h => h
theorem But.trans {r : Addr} {H H1 H2 : Hp} (a : But r H H1) (b : But r H1 H2) : But r H H2 := fun c o n h => b c o n (a c o n h)
theorem But.of {r : Addr} {H H' : Hp} (s : Same H H') : But r H H' := fun c o _ h => s c o h
theorem But.upd {r : Addr} {H H' : Hp} {o : HO} (b : But r H H') : But r H (upd H' r o) := fun c u n h => by
  rw [upd_ne n]
  exact b c u n h
theorem But.new {r p : Addr} {H H' : Hp} {o : HO} (b : But r H H') (hp : H p = none) : But r H (L2.upd H' p o) := fun c u n h => by
  rw [upd_ne (ne_of_none h hp)]
  exact b c u n h
theorem But.seq {K : PySem.W.Frag} {r a : Addr} {H H' : Hp} {xs : List V} (b : But r H H') (n : a ≠ r) (h : SqL K H a xs) : SqL K H' a xs := by
  rcases h with (h | ⟨o, h⟩) | h
  · exact .inl (.inl (b _ _ n h))
  · exact .inl (.inr ⟨o, b _ _ n h⟩)
  · exact .inr h
theorem But.tup {K : PySem.W.Frag} {r a : Addr} {H H' : Hp} {xs : List V} (b : But r H H') (n : a ≠ r) (h : SqT K H a xs) : SqT K H' a xs := by
  rcases h with (h | ⟨o, h⟩) | h
  · exact .inl (.inl (b _ _ n h))
  · exact .inl (.inr ⟨o, b _ _ n h⟩)
  · exact .inr h
theorem RowAt.srcB {K : PySem.W.Frag} {H H' : Hp} {r scr : Addr} {ns : List Int} (a : RowAt K H r scr ns) (b : But r H H') : (scr ≠ r ∧ Rd H' scr (.lst (ns.map V.int))) ∨ Wr K scr (ns.map V.int) :=
  a.src.elim (fun h => .inl ⟨h.1, h.2.elim (fun x => .inl (b _ _ h.1 x)) fun ⟨o, x⟩ => .inr ⟨o, b _ _ h.1 x⟩⟩) .inr
theorem RowAt.same {K : PySem.W.Frag} {H H' : Hp} {r scr : Addr} {ns : List Int} (a : RowAt K H r scr ns) (s : Same H H') : RowAt K H' r scr ns := by
  obtain ⟨i, seed, rest, h, b⟩ := a.ex
  exact ⟨⟨i, seed, rest, s _ _ h, b⟩, a.srcB (But.of s), a.few⟩
theorem RowAt.put {K : PySem.W.Frag} {H : Hp} {r scr : Addr} {ns : List Int} {i seed rest : Int} (a : RowAt K H r scr ns) (h0 : 0 ≤ i) (h1 : 0 ≤ seed) (h2 : seed < 2147483647) (h3 : 0 ≤ rest) :
    RowAt K (upd H r (.lst [.ref scr, .int i, .int seed, .int rest])) r scr ns :=
  ⟨⟨i, seed, rest, upd_same, h0, h1, h2, h3⟩, a.srcB (But.upd (But.refl r H)), a.few⟩
/-- what came behind the reader may change -/
theorem RowAt.late {K : PySem.W.Frag} {H0 H : Hp} {r scr D : Addr} {ns : List Int} {o : HO} (a0 : RowAt K H0 r scr ns) (hD : H0 D = none) (n : D ≠ r) (a : RowAt K H r scr ns) : RowAt K (upd H D o) r scr ns := by
  obtain ⟨i, seed, rest, hr, b⟩ := a.ex
  refine ⟨⟨i, seed, rest, by rw [upd_ne n.symm]; exact hr, b⟩, ?_, a.few⟩
  by_cases e : scr = D
  · rcases a0.src with ⟨_, h | ⟨u, h⟩⟩ | h
    · rw [e, hD] at h
      cases h
    · rw [e, hD] at h
      cases h
    · exact .inr h
  · rcases a.src with ⟨h0, h | ⟨u, h⟩⟩ | h
    · exact .inl ⟨h0, .inl (by rw [upd_ne e]; exact h)⟩
    · exact .inl ⟨h0, .inr ⟨u, by rw [upd_ne e]; exact h⟩⟩
    · exact .inr h
def spTaken (K : PySem.W.Frag) : Sp := fun vs H Q _ => ∃ r scr ns n, vs = [.ref r, .int n] ∧ RowAt K H r scr ns ∧ 1 ≤ n ∧ n ≤ 1000000 ∧ ∀ (x : Int) H', 0 ≤ x → x < n → RowAt K H' r scr ns → But r H H' → Q (.int x) H'
section
variable {P : Program} {w : World} {K : PySem.W.Frag} {mg : Str → Option Value} {base : Heap} {f : Addr} {fd : FuncData}
theorem ok_taken (F : Fun K "_law_taken" "_law_taken" sTaken f fd) (B : Blt mg) : FnOk P w K mg base CX0 1 f fd ["_law_row", "_law_many"] (spTaken K) := by
  refine F.ok scTaken (fun vs H Q E h => ?_) (fun cdv A outer s H vs Q E hr h => ?_)
  · obtain ⟨r, scr, ns, n, rfl, _⟩ := h
    rfl
  · obtain ⟨r, scr, ns, n, rfl, a, n1, n2, q⟩ := h
    obtain ⟨i, seed, rest, hR, i0, s0, s1, r0⟩ := a.ex
    refine ⟨_, pss_cons (ps_if (pt_cmpR op_gt (pe_ix ix_list (pv 0) pe_int (fun _ _ => rfl)) pe_int (nomark _))
        (pss_cons (ps_set (i := 2) scTaken.nd rfl (Or.inl rfl) (pe_op op_mod (pe_callTy call_int1 (by rfl) B.int (by decide +kernel) (pa_cons (pe_ix ix_list (pv 0) pe_int (fun _ _ => rfl)) pa_nil)) (pv 1)))
        (pss_cons (ps_asg (pe_op op_fdiv (pe_ix ix_list (pv 0) pe_int (fun _ _ => rfl)) (pv 1)) (pg_sub (pv 0) pe_int set_list))
        (pss_one (ps_ret (pv 2))))) pss_nil)
      (pss_cons (ps_asg (pe_op op_add (pe_ix ix_list (pv 0) pe_int (fun _ _ => rfl)) pe_int) (pg_sub (pv 0) pe_int set_list))
      (pss_cons (ps_if (pt_cmpR op_gt (pe_ix ix_list (pv 0) pe_int (fun _ _ => rfl)) (pe_callB call_len_seq (by rfl) B.len PySem.boot_len (pa_cons (pe_ix ix_list (pv 0) pe_int (fun _ _ => rfl)) pa_nil)) (nomark _))
        (pss_cons (ps_asg (pe_op op_mod (pe_callTy call_int1 (by rfl) B.int (by decide +kernel) (pa_cons (pe_op op_add (pe_op op_mul (pe_ix ix_list (pv 0) pe_int (fun _ _ => rfl)) pe_int) pe_int) pa_nil)) pe_int) (pg_sub (pv 0) pe_int set_list))
        (pss_one (ps_ret (pe_op op_mod (pe_callTy call_int1 (by rfl) B.int (by decide +kernel) (pa_cons (pe_op op_fdiv (pe_ix ix_list (pv 0) pe_int (fun _ _ => rfl)) pe_int) pa_nil)) (pv 1))))) pss_nil)
      (pss_cons (ps_set (i := 3) scTaken.nd rfl (Or.inl rfl) (pe_ix ix_list (pe_ix ix_list (pv 0) pe_int (fun _ _ => rfl)) (pe_op op_sub (pe_ix ix_list (pv 0) pe_int (fun _ _ => rfl)) pe_int) (fun _ _ => rfl)))
      (pss_cons (ps_asg (pe_op op_mod (pe_callTy call_int1 (by rfl) B.int (by decide +kernel) (pa_cons (pe_op op_add (pe_op op_add (pe_op op_mul (pe_ix ix_list (pv 0) pe_int (fun _ _ => rfl)) pe_int) (pv 3)) pe_int) pa_nil)) pe_int) (pg_sub (pv 0) pe_int set_list))
      (pss_cons (ps_asg (pe_ifExp (pt_cmpR op_ge (pv 3) (pe_op op_pow pe_int pe_int) (nomark _)) (pe_op op_fdiv (pv 3) (pv 1)) pe_int) (pg_sub (pv 0) pe_int set_list))
      (pss_one (ps_ret (pe_op op_mod (pe_callTy call_int1 (by rfl) B.int (by decide +kernel) (pa_cons (pv 3) pa_nil)) (pv 1))))))))), ?_⟩
    refine ⟨.ref r, rfl, r, _, 3, .int rest, rfl, rfl, SqL.of hR, atI_nat (j := 3) rfl, rest, 0, rfl, rfl, _, rfl, ite2 (fun c => ?_) fun c => ?_⟩
    · refine ⟨.ref r, rfl, r, _, 3, .int rest, rfl, rfl, SqL.of hR, atI_nat (j := 3) rfl, .inl ⟨rest, rfl, .int n, rfl, rest, n, rfl, rfl, by omega, ?_⟩⟩
      refine ⟨.ref r, rfl, r, _, 3, .int rest, rfl, rfl, SqL.of hR, atI_nat (j := 3) rfl, .int n, rfl, rest, n, rfl, rfl, ⟨by omega, by omega⟩, ?_⟩
      refine ⟨.ref r, rfl, r, _, 3, 3, rfl, rfl, hR, rfl, ?_⟩
      exact ⟨_, rfl, q _ _ (Int.emod_nonneg _ (by omega)) (Int.emod_lt_of_pos _ (by omega)) (a.put i0 s0 s1 (Int.ediv_nonneg r0 (by omega))) (But.upd (But.refl r H))⟩
    · -- the place one on
      refine ⟨.ref r, rfl, r, _, 1, .int i, rfl, rfl, SqL.of hR, atI_nat (j := 1) rfl, i, 1, rfl, rfl, .ref r, rfl, r, _, 1, 1, rfl, rfl, hR, rfl, ?_⟩
      have a1 : RowAt K (upd H r (.lst [.ref scr, .int (i + 1), .int seed, .int rest])) r scr ns := a.put (by omega) s0 s1 r0
      have b1 : But r H (upd H r (.lst [.ref scr, .int (i + 1), .int seed, .int rest])) := But.upd (But.refl r H)
      refine ⟨.ref r, rfl, r, _, 1, .int (i + 1), rfl, rfl, SqL.of upd_same, atI_nat (j := 1) rfl, .ref r, rfl, r, _, 0, .ref scr, rfl, rfl, SqL.of upd_same, atI_nat (j := 0) rfl, scr, _, rfl, .inl a1.scr, i + 1, _, rfl, rfl, _, rfl, ?_⟩
      rw [List.length_map]
      refine ite2 (fun c2 => ?_) fun c2 => ?_
      · -- the script is used up
        refine ⟨.ref r, rfl, r, _, 2, .int seed, rfl, rfl, SqL.of upd_same, atI_nat (j := 2) rfl, seed, 48271, rfl, rfl, .inl ⟨by omega, by omega⟩, seed * 48271, 11, rfl, rfl, .inl ⟨_, rfl, _, 2147483647, rfl, rfl, (by show (0 : Int) < 2147483647; decide), .ref r, rfl, r, _, 2, 2, rfl, rfl, upd_same, rfl, ?_⟩⟩
        have e0 : 0 ≤ (seed * 48271 + 11) % 2147483647 := Int.emod_nonneg _ (by decide)
        have e1 : (seed * 48271 + 11) % 2147483647 < 2147483647 := Int.emod_lt_of_pos _ (by decide)
        refine ⟨.ref r, rfl, r, _, 2, _, rfl, rfl, SqL.of upd_same, atI_nat (j := 2) rfl, _, 7, rfl, rfl, ⟨by decide, by decide⟩, .inl ⟨_, rfl, .int n, rfl, _, n, rfl, rfl, by omega, ?_⟩⟩
        exact q _ _ (Int.emod_nonneg _ (by omega)) (Int.emod_lt_of_pos _ (by omega)) (a1.put (i := i + 1) (rest := rest) (by omega) e0 e1 r0) b1.upd
      · have hi : i < ns.length := by
          have := of_decide_eq_false (eq_false_of_ne_true c2)
          omega
        obtain ⟨z, hz⟩ : ∃ z, ns[i.toNat]? = some z := ⟨_, List.getElem?_eq_getElem (by omega)⟩
        have hz2 : (ns.map V.int)[i.toNat]? = some (.int z) := by rw [List.getElem?_map, hz] <;> rfl
        have ei : i + 1 - 1 = ((i.toNat : Nat) : Int) := by omega
        refine ⟨.ref r, rfl, r, _, 0, .ref scr, rfl, rfl, SqL.of upd_same, atI_nat (j := 0) rfl, .ref r, rfl, r, _, 1, .int (i + 1), rfl, rfl, SqL.of upd_same, atI_nat (j := 1) rfl, i + 1, 1, rfl, rfl, scr, _, _, .int z, rfl, rfl, a1.scr, at_of ei hz2, ?_⟩
        refine ⟨.ref r, rfl, r, _, 2, .int seed, rfl, rfl, SqL.of upd_same, atI_nat (j := 2) rfl, seed, 48271, rfl, rfl, .inl ⟨by omega, by omega⟩, .int z, rfl, seed * 48271, z, rfl, rfl, seed * 48271 + z, 11, rfl, rfl, .inl ⟨_, rfl, _, 2147483647, rfl, rfl, (by show (0 : Int) < 2147483647; decide), .ref r, rfl, r, _, 2, 2, rfl, rfl, upd_same, rfl, ?_⟩⟩
        have e0 : 0 ≤ (seed * 48271 + z + 11) % 2147483647 := Int.emod_nonneg _ (by decide)
        have e1 : (seed * 48271 + z + 11) % 2147483647 < 2147483647 := Int.emod_lt_of_pos _ (by decide)
        have a2 := a1.put (i := i + 1) (seed := (seed * 48271 + z + 11) % 2147483647) (rest := rest) (by omega) e0 e1 r0
        refine ⟨.int z, rfl, 10, 18, rfl, rfl, ⟨by decide, by decide, by decide⟩, z, _, rfl, rfl, _, rfl, ite2 (fun c3 => ?_) fun c3 => ?_⟩
        · have z0 : 0 ≤ z := Int.le_trans (by decide) (of_decide_eq_true c3)
          refine ⟨.int z, rfl, .int n, rfl, z, n, rfl, rfl, ⟨by omega, by omega⟩, .ref r, rfl, r, _, 3, 3, rfl, rfl, upd_same, rfl, ?_⟩
          exact ⟨.int z, rfl, .inl ⟨z, rfl, .int n, rfl, z, n, rfl, rfl, by omega, q _ _ (Int.emod_nonneg _ (by omega)) (Int.emod_lt_of_pos _ (by omega)) (a2.put (rest := z / n) (by omega) e0 e1 (Int.ediv_nonneg z0 (by omega))) b1.upd.upd⟩⟩
        · refine ⟨.ref r, rfl, r, _, 3, 3, rfl, rfl, upd_same, rfl, ?_⟩
          exact ⟨.int z, rfl, .inl ⟨z, rfl, .int n, rfl, z, n, rfl, rfl, by omega, q _ _ (Int.emod_nonneg _ (by omega)) (Int.emod_lt_of_pos _ (by omega)) (a2.put (rest := 0) (by omega) e0 e1 (by decide)) b1.upd.upd⟩⟩
/-- one of some items, one of a text's signs -/
def spPick (K : PySem.W.Frag) : Sp := fun vs H Q _ => ∃ r scr ns, RowAt K H r scr ns ∧
  ((∃ p items, vs = [.ref r, .ref p] ∧ p ≠ r ∧ (SqL K H p items ∨ SqT K H p items) ∧ 1 ≤ items.length ∧ items.length ≤ 1000 ∧ ∀ (j : Nat) v H', items[j]? = some v → RowAt K H' r scr ns → But r H H' → Q v H') ∨
   ∃ z : Str, vs = [.ref r, .str z] ∧ 1 ≤ z.length ∧ z.length ≤ 1000 ∧ ∀ c H', c ∈ z.cps.toList → RowAt K H' r scr ns → But r H H' → Q (.str ⟨#[c]⟩) H')
theorem ok_pick (F : Fun K "_law_pick" "_law_pick" sPick f fd) (B : Blt mg) (G : Has P w K mg base CX0 1 "_law_taken" ["_law_row", "_law_many"] (spTaken K)) : FnOk P w K mg base CX0 2 f fd ["_law_row", "_law_some"] (spPick K) := by
  refine F.ok scPick (fun vs H Q E h => ?_) (fun cdv A outer s H vs Q E hr h => ?_)
  · obtain ⟨r, scr, ns, a, ⟨p, items, rfl, _⟩ | ⟨z, rfl, _⟩⟩ := h
    · rfl
    · rfl
  · obtain ⟨r, scr, ns, a, h⟩ := h
    refine ⟨_, pss_one (ps_ret (pe_ix ix_seq (pv 1) (pe_has G hr (by decide) pass0 (pa_cons (pv 0) (pa_cons (pe_callB call_len (by rfl) B.len PySem.boot_len (pa_cons (pv 1) pa_nil)) pa_nil))) (fun _ _ => rfl))), ?_⟩
    rcases h with ⟨p, items, rfl, np, hp, h1, h2, q⟩ | ⟨z, rfl, h1, h2, q⟩
    · have hl : LenV K (.ref p) H items.length := hp.elim (fun h => .inl ⟨items, h, rfl⟩) (fun h => .inr ⟨items, h, rfl⟩)
      refine ⟨.ref p, rfl, .ref r, rfl, .ref p, rfl, .ref p, _, rfl, hl, r, scr, ns, _, rfl, a, by omega, by omega, fun x H' x0 x1 a' b' => ?_⟩
      obtain ⟨v, hv⟩ : ∃ v, items[x.toNat]? = some v := ⟨_, List.getElem?_eq_getElem (by omega)⟩
      have ex : x = ((x.toNat : Nat) : Int) := by omega
      rcases hp with hp | hp
      · exact .inl ⟨p, items, x, v, rfl, rfl, b'.seq np hp, at_of ex hv, q _ v H' hv a' b'⟩
      · exact .inr (.inl ⟨p, items, x, v, rfl, rfl, b'.tup np hp, at_of ex hv, q _ v H' hv a' b'⟩)
    · have hl : LenV K (.str z) H z.length := ⟨Nat.le_trans h2 (by decide), rfl⟩
      refine ⟨.str z, rfl, .ref r, rfl, .str z, rfl, .str z, _, rfl, hl, r, scr, ns, _, rfl, a, by omega, by omega, fun x H' x0 x1 a' b' => ?_⟩
      have hlen := len_eq z
      obtain ⟨c, hc⟩ : ∃ c, z.cps.toList[x.toNat]? = some c := ⟨_, List.getElem?_eq_getElem (by omega)⟩
      have ex : x = ((x.toNat : Nat) : Int) := by omega
      refine .inr (.inr ⟨z, x, c, rfl, rfl, Nat.le_trans h2 (by decide), ?_, q c H' (List.mem_of_getElem? hc) a' b'⟩)
      rw [ex]
      exact atI_nat hc
end
end Kn

namespace Kn
open PySem PySem.Spec L2 Kw
abbrev nScheme : List Str := ["_law_row", "_law_cells", "_law_many", "_law_some", "_law_w", "_law_h", "_law_kinds", "_law_sheets", "_law_k", "_law_plain", "_law_part", "_law_cell"]
theorem scScheme : FnScope nScheme ["_law_row", "_law_cells", "_law_many"] (defScope sScheme) := ⟨rfl, rfl, rfl, by decide +kernel, rfl, by decide +kernel, by decide +kernel⟩
theorem join_signs (cs : List Nat) : (Txt.join (Str.ofString "") (cs.map fun c => (⟨#[c]⟩ : Str))).cps.toList = cs := by
  have e0 : ∀ cs : List Nat, TL.joinL [] (cs.map fun c => [c]) = cs := by
    intro cs
    induction cs with
    | nil => rfl
    | cons c r ih =>
      cases r with
      | nil => rfl
      | cons d r =>
        show [c] ++ ([] ++ TL.joinL [] ((d :: r).map fun c => [c])) = c :: d :: r
        rw [ih]
        rfl
  rw [TL.join_eq]
  have e1 := TL.tl_join (Str.ofString "") (cs.map fun c => (⟨#[c]⟩ : Str))
  have e2 : (cs.map fun c => (⟨#[c]⟩ : Str)).map TL.tl = cs.map fun c => [c] := by
    rw [List.map_map]
    rfl
  rw [e2] at e1
  exact e1.trans (e0 cs)
/-- a text of n signs among a, b, c -/
def Abc (n : Int) (z : Str) : Prop := (z.length : Int) = n ∧ ∀ c ∈ z.cps.toList, 97 ≤ c ∧ c ≤ 99
def spScheme (K : PySem.W.Frag) : Sp := fun vs H Q _ => ∃ r scr ns c m, vs = [.ref r, .int c, .int m] ∧ RowAt K H r scr ns ∧ 1 ≤ c ∧ c ≤ 16 ∧ 1 ≤ m ∧ m ≤ 100 ∧
  ∀ (p t : Addr) (w h : Int) (l : List Str) (H' : Hp), RowAt K H' r scr ns → But r H H' → p ≠ r → t ≠ r → H' p = some (.tup [.int w, .int h, .ref t]) → H' t = some (.tup (l.map V.str)) → 1 ≤ w → w ≤ 4 → 1 ≤ h → h ≤ 4 → w * h ≤ c → 1 ≤ l.length → (l.length : Int) ≤ m → (∀ z ∈ l, Abc (w * h) z) → Q (.ref p) H'
/-- pairs of a width and a height -/
def Szs (c : Int) (H : Hp) (items : List V) : Prop := ∀ v ∈ items, ∃ (t : Addr) (w h : Int), v = .ref t ∧ H t = some (.tup [.int w, .int h]) ∧ 1 ≤ w ∧ w ≤ 4 ∧ 1 ≤ h ∧ h ≤ 4 ∧ w * h ≤ c
theorem Szs.same {c : Int} {H H' : Hp} {items : List V} (z : Szs c H items) (s : Same H H') : Szs c H' items := fun v hv => by
  obtain ⟨t, w, h, e, ht, r⟩ := z v hv
  exact ⟨t, w, h, e, s _ _ ht, r⟩
/-- a, ab, or abc -/
def Kz (z : Str) : Prop := z = "a" ∨ z = "ab" ∨ z = "abc"
theorem Kz.len {z : Str} (h : Kz z) : 1 ≤ z.length ∧ z.length ≤ 3 := by
  rcases h with rfl | rfl | rfl <;> decide +kernel
theorem Kz.mem {z : Str} (h : Kz z) {c : Nat} (hc : c ∈ z.cps.toList) : 97 ≤ c ∧ c ≤ 99 := by
  have k : ∀ z : Str, z = "a" ∨ z = "ab" ∨ z = "abc" → z.cps.toList = [97] ∨ z.cps.toList = [97, 98] ∨ z.cps.toList = [97, 98, 99] := by
    intro z h
    rcases h with rfl | rfl | rfl
    · exact .inl (by decide +kernel)
    · exact .inr (.inl (by decide +kernel))
    · exact .inr (.inr (by decide +kernel))
  rcases k z h with e | e | e <;> rw [e] at hc <;> simp at hc <;> omega
theorem Kz.cut {x : Int} (h0 : 0 ≤ x) (h1 : x < 3) : Kz (cutS "abc" none (some (1 + x))) := by
  have : x = 0 ∨ x = 1 ∨ x = 2 := by omega
  rcases this with rfl | rfl | rfl
  · exact .inl (by decide +kernel)
  · exact .inr (.inl (by decide +kernel))
  · exact .inr (.inr (by decide +kernel))
theorem Kz.one {z : Str} (h : Kz z) : Kz (cutS z none (some 1)) := by
  rcases h with rfl | rfl | rfl
  · exact .inl (by decide +kernel)
  · exact .inl (by decide +kernel)
  · exact .inl (by decide +kernel)
theorem four {i : Nat} {x : V} (h : ([V.int 1, V.int 2, V.int 3, V.int 4] : List V)[i]? = some x) : ∃ k : Int, x = .int k ∧ k = (i : Int) + 1 ∧ 1 ≤ k ∧ k ≤ 4 := by
  match i, h with
  | 0, h => exact ⟨1, (Option.some.inj h).symm, rfl, by decide, by decide⟩
  | 1, h => exact ⟨2, (Option.some.inj h).symm, rfl, by decide, by decide⟩
  | 2, h => exact ⟨3, (Option.some.inj h).symm, rfl, by decide, by decide⟩
  | 3, h => exact ⟨4, (Option.some.inj h).symm, rfl, by decide, by decide⟩
  | n + 4, h => simp at h
section
variable {P : Program} {w : World} {K : PySem.W.Frag} {mg : Str → Option Value} {base : Heap} {f : Addr} {fd : FuncData}
theorem ok_scheme (F : Fun K "_law_scheme" "_law_scheme" sScheme f fd) (B : Blt mg) (GT : Has P w K mg base CX0 1 "_law_taken" ["_law_row", "_law_many"] (spTaken K)) (GP : Has P w K mg base CX0 2 "_law_pick" ["_law_row", "_law_some"] (spPick K)) :
    FnOk P w K mg base CX0 3 f fd ["_law_row", "_law_cells", "_law_many"] (spScheme K) := by
  refine F.ok scScheme (fun vs H Q E h => ?_) (fun cdv A outer s H vs Q E hr h => ?_)
  · obtain ⟨r, scr, ns, c, m, rfl, _⟩ := h
    rfl
  · obtain ⟨r, scr, ns, c, m, rfl, a, c1, c2, m1, m2, q⟩ := h
    refine ⟨_, pss_cons (ps_set (i := 3) scScheme.nd rfl (Or.inl rfl) (pe_lst pa_nil))
      (pss_cons (ps_for PassesOwn.never rfl (pi_tup (pe_tup (pa_cons pe_int (pa_cons pe_int (pa_cons pe_int (pa_cons pe_int pa_nil)))))) (pg_name (i := 4) scScheme.nd rfl (Or.inr rfl))
        (pss_one (ps_set (i := 3) scScheme.nd rfl (Or.inl rfl) (pe_op op_cat (pv 3)
          (pe_lc (own := [("_law_h", 5)]) (g := gName 5) (tt := tTest (tOp (rI0 fun i j => .bl (decide (i ≤ j))) (tOp (rI CMul fun i j => .int (i * j)) (tVar 4) (tVar 5)) (tVar 1))) rfl scScheme.nd (pi_tup (pe_tup (pa_cons pe_int (pa_cons pe_int (pa_cons pe_int (pa_cons pe_int pa_nil)))))) (blkOk_by (N := nScheme) (sc := defScope sScheme) (by decide +kernel))
            (fun _ _ _ _ _ => pg_name (i := 5) scScheme.nd rfl (Or.inl rfl)) (fun _ _ _ _ _ => pts_one (pt_cmpR op_le (pe_op op_mul (pv 4) (pv 5)) (pv 1) (nomark _))) (fun _ _ _ _ _ => pe_tup (pa_cons (pv 4) (pa_cons (pv 5) pa_nil))))))))
      (pss_cons (ps_asg (pe_has GP hr (by decide) pass0 (pa_cons (pv 0) (pa_cons (pe_op op_cat (pv 3)
          (pe_lc (own := [("_law_part", 10)]) (g := gName 10) (tt := tTest (tOp (rI0 fun i j => .bl (decide (j < i))) (tOp (rI CMul fun i j => .int (i * j)) (tOp (rIxT K) (tVar 10) (tC (.int 0))) (tOp (rIxT K) (tVar 10) (tC (.int 1)))) (tC (.int 3)))) rfl scScheme.nd (pi_list (pv 3)) (blkOk_by (N := nScheme) (sc := defScope sScheme) (by decide +kernel))
            (fun _ _ _ _ _ => pg_name (i := 10) scScheme.nd rfl (Or.inl rfl)) (fun _ _ _ _ _ => pts_one (pt_cmpR op_gt (pe_op op_mul (pe_ix ix_tup (pv 10) pe_int (fun _ _ => rfl)) (pe_ix ix_tup (pv 10) pe_int (fun _ _ => rfl))) pe_int (nomark _))) (fun _ _ _ _ _ => pv 10))) pa_nil)))
          (pg_tup (by rfl) (pgs_cons (pg_name (i := 4) scScheme.nd rfl (Or.inr rfl)) (pgs_cons (pg_name (i := 5) scScheme.nd rfl (Or.inl rfl)) pgs_nil))))
      (pss_cons (ps_set (i := 6) scScheme.nd rfl (Or.inl rfl) (pe_slice sl_str pe_str po_none (po_some (pe_op op_add pe_int (pe_has GT hr (by decide) pass0 (pa_cons (pv 0) (pa_cons pe_int pa_nil)))))))
      (pss_cons (ps_set (i := 7) scScheme.nd rfl (Or.inl rfl) (pe_lst pa_nil))
      (pss_cons (ps_for PassesOwn.never rfl (pi_range1 (by rfl) B.range (pa_cons (pe_op op_add pe_int (pe_has GT hr (by decide) pass0 (pa_cons (pv 0) (pa_cons (pv 2) pa_nil)))) pa_nil)) (pg_name (i := 8) scScheme.nd rfl (Or.inl rfl))
        (pss_cons (ps_set (i := 9) scScheme.nd rfl (Or.inr rfl) (pe_has GP hr (by decide) pass0 (pa_cons (pv 0) (pa_cons (pe_lst (pa_cons (pv 6) (pa_cons (pv 6) (pa_cons (pe_slice sl_str (pv 6) po_none (po_some pe_int)) pa_nil)))) pa_nil))))
        (pss_one (ps_expr (pe_bm PySem.F.plainAttrs_list PySem.F.slot_list_append PySem.F.type_list_append mt_append (pv 7) (pa_cons (pe_join pe_str
          (pe_lc (own := [("_law_cell", 11)]) (g := gName 11) (tt := tYes) rfl scScheme.nd (pi_range1 (by rfl) B.range (pa_cons (pe_op op_mul (pv 4) (pv 5)) pa_nil)) (blkOk_by (N := nScheme) (sc := defScope sScheme) (by decide +kernel))
            (fun _ _ _ _ _ => pg_name (i := 11) scScheme.nd rfl (Or.inl rfl)) (fun _ _ _ _ _ => pts_nil) (fun _ _ _ _ _ => pe_has GP hr (by decide) pass0 (pa_cons (pv 0) (pa_cons (pv 9) pa_nil))))) pa_nil))))))
      (pss_one (ps_ret (pe_tup (pa_cons (pv 4) (pa_cons (pv 5) (pa_cons (pe_callTy call_tuple_of (by rfl) B.tup (by decide +kernel) (pa_cons (pv 7) pa_nil)) pa_nil))))))))))), ?_⟩
    -- the sizes
    refine ⟨Nat.zero_le _, fun p0 hp0 => ⟨by show 4 ≤ sizeLine; decide, fun t1 ht1 => ⟨t1, rfl, ⟨_, SqT.of upd_same⟩, ?_⟩⟩⟩
    have s0 : Same H (upd (upd H p0 (.lst [])) t1 (.tup [.int 1, .int 2, .int 3, .int 4])) := (same_new hp0).trans (same_new ht1)
    have hp1 : (upd (upd H p0 (.lst [])) t1 (.tup [.int 1, .int 2, .int 3, .int 4])) p0 = some (.lst []) := same_new ht1 _ _ upd_same
    have hT1 : (upd (upd H p0 (.lst [])) t1 (.tup [.int 1, .int 2, .int 3, .int 4])) t1 = some (.tup [.int 1, .int 2, .int 3, .int 4]) := upd_same
    generalize (upd (upd H p0 (.lst [])) t1 (.tup [.int 1, .int 2, .int 3, .int 4])) = H1 at s0 hp1 hT1
    refine for_of (over_tup t1 [.int 1, .int 2, .int 3, .int 4]) (fun i σ H2 => ∃ (p : Addr) (items : List V) (w5 : Option V), σ = [some (.ref r), some (.int c), some (.int m), some (.ref p), w5, none, none, none, none, none, none, none] ∧ H2 p = some (.lst items) ∧ Szs c H2 items ∧ items.length ≤ 4 * i ∧ (1 ≤ i → 1 ≤ items.length) ∧ Same H1 H2)
      ⟨p0, [], none, rfl, hp1, (fun v hv => by cases hv), Nat.zero_le _, (fun z => by omega), Same.refl _⟩ (fun i σ H2 ⟨_, _, _, _, _, _, _, _, s2⟩ => SqT.of (s2 _ _ hT1)) (fun i x σ H2 hx hP => ?_) fun σ H2 hP => ?_
    · obtain ⟨p, items, w5, rfl, hp, hz, hl, hn, s2⟩ := hP
      obtain ⟨wv, rfl, ew, w1, w4⟩ := four hx
      have i4 : i < 4 := by omega
      refine ⟨.ref p, rfl, by show 4 ≤ sizeLine; decide, fun t2 ht2 => ⟨t2, rfl, ⟨_, SqT.of upd_same⟩, fun D hD => ?_⟩⟩
      have hT2 : (upd H2 t2 (.tup [.int 1, .int 2, .int 3, .int 4])) t2 = some (.tup [.int 1, .int 2, .int 3, .int 4]) := upd_same
      have s3 : Same H2 (upd H2 t2 (.tup [.int 1, .int 2, .int 3, .int 4])) := same_new ht2
      generalize (upd H2 t2 (.tup [.int 1, .int 2, .int 3, .int 4])) = H3 at hT2 s3 hD
      refine lc_of (over_tup t2 [.int 1, .int 2, .int 3, .int 4]) (fun j acc H4 => Szs c H4 acc ∧ acc.length ≤ j ∧ (wv = 1 → 1 ≤ j → 1 ≤ acc.length) ∧ Same H3 H4) (by show 4 ≤ 100000; decide)
        ⟨(fun v hv => by cases hv), Nat.zero_le _, (fun _ z => by omega), same_new hD⟩ (fun j acc H4 hP => SqT.of (hP.2.2.2 _ _ hT2)) (fun j y acc H4 Nx hy hP hD4 kN kS => ?_) fun acc H4 hlen hP hD4 => ?_
      · obtain ⟨ha, hl4, hn4, s4⟩ := hP
        obtain ⟨hv, rfl, eh, v1, v4⟩ := four hy
        refine ⟨rfl, .int wv, rfl, .int hv, rfl, wv, hv, rfl, rfl, .inl ⟨by omega, by omega⟩, .int c, rfl, wv * hv, c, rfl, rfl, _, rfl, ite2 (fun ok => ?_) fun no => ?_⟩
        · refine ⟨.int wv, rfl, .int hv, rfl, by show 2 ≤ sizeLine; decide, fun t3 ht3 => ?_⟩
          have n3 : t3 ≠ D := fun e => by rw [e, hD4] at ht3; cases ht3
          have hD5 : upd H4 t3 (.tup [.int wv, .int hv]) D = some (.lst acc) := same_new ht3 _ _ hD4
          refine kN _ _ hD5 ⟨?_, ?_, ?_, ?_⟩
          · intro v hm
            rcases List.mem_append.mp hm with hm | hm
            · obtain ⟨t, w', h', e, ht, b⟩ := ha v hm
              refine ⟨t, w', h', e, ?_, b⟩
              rw [upd_ne (ne_of (same_new ht3 _ _ ht) hD5 (by intro z; cases z))]
              exact same_new ht3 _ _ ht
            · rw [List.mem_singleton] at hm
              refine ⟨t3, wv, hv, hm, ?_, w1, w4, v1, v4, of_decide_eq_true ok⟩
              rw [upd_ne n3]
              exact upd_same
          · rw [List.length_append]
            exact Nat.succ_le_succ hl4
          · intro _ _
            rw [List.length_append]
            exact Nat.le_add_left _ _
          · intro b o e
            rw [upd_ne (ne_of_none e hD)]
            exact same_new ht3 _ _ (s4 b o e)
        · refine kS H4 hD4 ⟨ha, by omega, fun e1 z => ?_, s4⟩
          by_cases j0 : 1 ≤ j
          · exact hn4 e1 j0
          · exfalso
            have ej : j = 0 := by omega
            subst ej
            have : hv = 1 := by omega
            subst this
            subst e1
            exact no (decide_eq_true (by omega))
      · obtain ⟨ha, hl4, hn4, s4⟩ := hP
        have s24 : Same H2 H4 := s3.trans s4
        refine ⟨p, D, items, acc, rfl, rfl, s24 _ _ hp, hD4, Nat.le_trans (show items.length + acc.length ≤ 100 by have : acc.length ≤ 4 := hlen; omega) (by decide), fun l hl' => ?_⟩
        refine ⟨l, items ++ acc, _, rfl, upd_same, ?_, ?_, fun _ => ?_, (s2.trans s24).trans (same_new hl')⟩
        · intro v hm
          rcases List.mem_append.mp hm with hm | hm
          · exact ((hz.same s24).same (same_new hl')) v hm
          · exact (ha.same (same_new hl')) v hm
        · rw [List.length_append]
          have : acc.length ≤ 4 := hlen
          omega
        · rw [List.length_append]
          by_cases i0 : 1 ≤ i
          · have := hn i0
            omega
          · have := hn4 (by omega) (by show 1 ≤ 4; decide)
            omega
    · obtain ⟨p, items, w5, rfl, hp, hz, hl, hn, s2⟩ := hP
      have hl16 : items.length ≤ 16 := hl
      have hn1 : 1 ≤ items.length := hn (by show 1 ≤ 4; decide)
      have sH2 : Same H H2 := s0.trans s2
      have a2 : RowAt K H2 r scr ns := a.same sH2
      have npr : ∀ {l : Addr}, H2 l = none → l ≠ r := fun {l} e z => by
        obtain ⟨_, _, _, hr2, _⟩ := a2.ex
        rw [z, hr2] at e
        cases e
      -- one of them
      refine ⟨.ref r, rfl, .ref p, rfl, .ref p, rfl, p, rfl, ⟨_, SqL.of hp⟩, fun D hD => ?_⟩
      refine lc_of (over_lst p items) (fun j acc H4 => (∀ v ∈ acc, v ∈ items) ∧ acc.length ≤ j ∧ Same H2 H4) (by omega)
        ⟨(fun v hv => by cases hv), Nat.zero_le _, same_new hD⟩ (fun j acc H4 hP => SqL.of (hP.2.2 _ _ hp)) (fun j y acc H4 Nx hy hP hD4 kN kS => ?_) fun acc H4 hlen hP hD4 => ?_
      · obtain ⟨ha, hl4, s4⟩ := hP
        obtain ⟨t, w', h', rfl, ht, b1, b2, b3, b4, b5⟩ := hz y (List.mem_of_getElem? hy)
        refine ⟨rfl, .ref t, rfl, t, _, 0, .int w', rfl, rfl, SqT.of (s4 _ _ ht), atI_nat (j := 0) rfl, .ref t, rfl, t, _, 1, .int h', rfl, rfl, SqT.of (s4 _ _ ht), atI_nat (j := 1) rfl, w', h', rfl, rfl, .inl ⟨by omega, by omega⟩, w' * h', 3, rfl, rfl, _, rfl, ite2 (fun ok => ?_) fun no => ?_⟩
        · refine ⟨.ref t, rfl, kN _ _ hD4 ⟨fun v hm => ?_, ?_, fun b o e => ?_⟩⟩
          · rcases List.mem_append.mp hm with hm | hm
            · exact ha v hm
            · rw [List.mem_singleton] at hm
              rw [hm]
              exact List.mem_of_getElem? hy
          · rw [List.length_append]
            exact Nat.succ_le_succ hl4
          · rw [upd_ne (ne_of_none e hD)]
            exact s4 b o e
        · exact kS H4 hD4 ⟨ha, by omega, s4⟩
      · obtain ⟨ha, hl4, s4⟩ := hP
        refine ⟨p, D, items, acc, rfl, rfl, s4 _ _ hp, hD4, Nat.le_trans (show items.length + acc.length ≤ 100 by omega) (by decide), fun l hl' => ?_⟩
        have s5 : Same H2 (upd H4 l (.lst (items ++ acc))) := s4.trans (same_new hl')
        refine ⟨r, scr, ns, a2.same s5, .inl ⟨l, items ++ acc, rfl, npr (s4.free hl'), .inl (SqL.of upd_same), by rw [List.length_append]; omega, by rw [List.length_append]; omega, fun j v H5 hv a5 b5 => ?_⟩⟩
        have hvi : v ∈ items := by
          rcases List.mem_append.mp (List.mem_of_getElem? hv) with hm | hm
          · exact hm
          · exact ha v hm
        obtain ⟨t, wv, hv', rfl, ht, w1, w4, h1, h4, wh⟩ := hz v hvi
        have ntr : t ≠ r := fun z => by
          obtain ⟨_, _, _, hr2, _⟩ := a2.ex
          rw [z, hr2] at ht
          cases ht
        refine ⟨t, [.int wv, .int hv'], rfl, SqT.of (b5 _ _ ntr (s5 _ _ ht)), rfl, .int wv, [.int hv'], rfl, .int hv', [], rfl, rfl, ?_⟩
        have bH5 : But r H H5 := (But.of (sH2.trans s5)).trans b5
        -- the kinds
        refine ⟨.ref r, rfl, r, scr, ns, 3, rfl, a5, by decide, by decide, fun x H6 x0 x1 a6 b6 => ⟨1, x, rfl, rfl, 1 + x, rfl, "abc", rfl, by decide +kernel, ?_⟩⟩
        have kz := Kz.cut x0 x1
        generalize cutS "abc" none (some (1 + x)) = kd at kz
        have bH6 := bH5.trans b6
        refine ⟨Nat.zero_le _, fun S hS => ?_⟩
        have nSr : S ≠ r := fun z => by
          obtain ⟨_, _, _, hr2, _⟩ := a6.ex
          rw [z, hr2] at hS
          cases hS
        refine ⟨.ref r, rfl, .int m, rfl, r, scr, ns, m, rfl, a6.same (same_new hS), by omega, by omega, fun x' H7 x0' x1' a7 b7 => ⟨1, x', rfl, rfl, 1 + x', rfl, by omega, by omega, ?_⟩⟩
        have bH7 : But r H H7 := (bH6.trans (But.of (same_new hS))).trans b7
        have hS7 : H7 S = some (.lst []) := b7 _ _ nSr upd_same
        refine for_of (over_rng (1 + x').toNat) (fun i σ H8 => ∃ (v8 v9 : Option V) (l : List Str), σ = [some (.ref r), some (.int c), some (.int m), some (.ref p), some (.int wv), some (.int hv'), some (.str kd), some (.ref S), v8, v9, none, none] ∧ H8 S = some (.lst (l.map V.str)) ∧ l.length = i ∧ (∀ z ∈ l, Abc (wv * hv') z) ∧ RowAt K H8 r scr ns ∧ But r H H8 ∧ i ≤ 100)
          ⟨none, none, [], rfl, hS7, rfl, (fun z hz => by cases hz), a7, bH7, by decide⟩ (fun _ _ _ _ => trivial) (fun i y σ H8 hy hP => ?_) fun σ H8 hP => ?_
        · obtain ⟨v8, v9, l8, rfl, hS8, hl8, hz8, a8, b8, i8⟩ := hP
          obtain ⟨hi8, rfl⟩ := upto_at hy
          have nr8 : ∀ {b : Addr}, H8 b = none → b ≠ r := fun {b} e z => by
            obtain ⟨_, _, _, hr2, _⟩ := a8.ex
            rw [z, hr2] at e
            cases e
          have sl : kd.length ≤ sizeLine := Nat.le_trans kz.len.2 (by decide)
          refine ⟨.ref r, rfl, .str kd, rfl, .str kd, rfl, .str kd, rfl, 1, rfl, kd, rfl, sl, by show 3 ≤ sizeLine; decide, fun q9 hq9 => ?_⟩
          refine ⟨r, scr, ns, a8.same (same_new hq9), .inl ⟨q9, _, rfl, nr8 hq9, .inl (SqL.of upd_same), by show 1 ≤ 3; decide, by show 3 ≤ 1000; decide, fun j v H9 hv a9 b9 => ?_⟩⟩
          have kv : ∃ z9, v = .str z9 ∧ Kz z9 := by
            match j, hv with
            | 0, hv => exact ⟨kd, (Option.some.inj hv).symm, kz⟩
            | 1, hv => exact ⟨kd, (Option.some.inj hv).symm, kz⟩
            | 2, hv => exact ⟨_, (Option.some.inj hv).symm, kz.one⟩
            | n + 3, hv => simp at hv
          obtain ⟨z9, rfl, kz9⟩ := kv
          have bH9 : But r H H9 := (b8.trans (But.of (same_new hq9))).trans b9
          have hS9 : H9 S = some (.lst (l8.map V.str)) := b9 _ _ nSr (same_new hq9 _ _ hS8)
          -- the sheet
          have mb : 0 ≤ wv * hv' ∧ wv * hv' ≤ 16 := ⟨Int.mul_nonneg (by omega) (by omega), by omega⟩
          refine ⟨.ref S, rfl, .inl ⟨rfl, _, SqL.of hS9⟩, ⟨_, rfl⟩, .int wv, rfl, .int hv', rfl, wv, hv', rfl, rfl, .inl ⟨by omega, by omega⟩, wv * hv', rfl, by omega, by omega, fun D hD => ?_⟩
          have nDr : D ≠ r := fun z => by
            obtain ⟨_, _, _, hr2, _⟩ := a9.ex
            rw [z, hr2] at hD
            cases hD
          refine lc_of (over_rng (wv * hv').toNat) (fun j acc H10 => ∃ cs : List Nat, acc = cs.map (fun c => V.str ⟨#[c]⟩) ∧ cs.length = j ∧ (∀ c ∈ cs, 97 ≤ c ∧ c ≤ 99) ∧ RowAt K H10 r scr ns ∧ But r H9 H10) (by rw [upto_len]; omega)
            ⟨[], rfl, rfl, (fun c hc => by cases hc), a9.same (same_new hD), But.of (same_new hD)⟩ (fun _ _ _ _ => trivial) (fun j y acc H10 Nx hy hP hD10 kN kS => ?_) fun acc H10 hlen hP hD10 => ?_
          · obtain ⟨cs, rfl, lcs, mcs, a10, b10⟩ := hP
            refine ⟨rfl, iteT (B := Nx H10) ⟨.ref r, rfl, .str z9, rfl, r, scr, ns, a10, .inr ⟨z9, rfl, kz9.len.1, Nat.le_trans kz9.len.2 (by decide), fun c' H11 hc a11 b11 => ?_⟩⟩⟩
            have hD11 := b11 _ _ nDr hD10
            refine kN _ _ hD11 ⟨cs ++ [c'], ?_, ?_, ?_, ?_, ?_⟩
            · rw [List.map_append]
              rfl
            · rw [List.length_append, lcs]
              rfl
            · intro d hd
              rcases List.mem_append.mp hd with hd | hd
              · exact mcs d hd
              · rw [List.mem_singleton] at hd
                rw [hd]
                exact kz9.mem hc
            · exact a9.late hD nDr a11
            · intro b o nb e
              rw [upd_ne (ne_of_none e hD)]
              exact b11 b o nb (b10 b o nb e)
          · obtain ⟨cs, rfl, lcs, mcs, a10, b10⟩ := hP
            rw [upto_len] at lcs
            have hS10 := b10 _ _ nSr hS9
            have el : ((cs.map fun c => (⟨#[c]⟩ : Str)).map (·.length)).sum = cs.length := by
              rw [List.map_map]
              clear lcs mcs a10 b10 hS10 hD10 hlen
              induction cs with
              | nil => rfl
              | cons d r ih =>
                rw [List.map_cons, List.sum_cons, ih]
                show 1 + r.length = r.length + 1
                omega
            refine ⟨Str.ofString "", D, cs.map fun c => (⟨#[c]⟩ : Str), rfl, rfl, .inl (SqL.of (hD10.trans (by rw [List.map_map] <;> rfl))), ?_, ?_⟩
            · rw [el]
              have e0 : (Str.ofString "").length = 0 := by decide +kernel
              rw [e0]
              omega
            · have ej := join_signs cs
              generalize Txt.join (Str.ofString "") (cs.map fun c => (⟨#[c]⟩ : Str)) = jz at ej
              refine ⟨S, _, _, rfl, rfl, hS10, Nat.lt_of_le_of_lt (show (l8.map V.str).length ≤ 1000 by rw [List.length_map]; omega) (by decide), ?_⟩
              refine ⟨_, _, l8 ++ [jz], rfl, ?_, ?_, ?_, ?_, ?_, ?_⟩
              · rw [upd_same, List.map_append]
                rfl
              · rw [List.length_append, hl8]
                rfl
              · intro z hz
                rcases List.mem_append.mp hz with hz | hz
                · exact hz8 z hz
                · rw [List.mem_singleton] at hz
                  rw [hz]
                  refine ⟨?_, fun c hc => ?_⟩
                  · rw [← len_eq, ej, lcs]
                    omega
                  · rw [ej] at hc
                    exact mcs c hc
              · exact a6.late hS nSr a10
              · intro b o nb e
                rw [upd_ne (ne_of_none (bH6 b o nb e) hS)]
                exact b10 b o nb (bH9 b o nb e)
              · omega
        · obtain ⟨v8, v9, l8, rfl, hS8, hl8, hz8, a8, b8, i8⟩ := hP
          rw [upto_len] at hl8
          refine ⟨.int wv, rfl, .int hv', rfl, .ref S, rfl, S, _, rfl, .inl ⟨SqL.of hS8, fun t9 ht9 => ⟨by show 3 ≤ sizeLine; decide, fun p9 hp9 => ?_⟩⟩⟩
          have n9 : ∀ {b : Addr}, H8 b = none → b ≠ r := fun {b} e z => by
            obtain ⟨_, _, _, hr2, _⟩ := a8.ex
            rw [z, hr2] at e
            cases e
          have s9 : Same H8 (upd H8 t9 (.tup (l8.map V.str))) := same_new ht9
          exact q p9 t9 wv hv' l8 _ ((a8.same s9).same (same_new hp9)) (b8.trans (But.of (s9.trans (same_new hp9)))) (n9 (s9.free hp9)) (n9 ht9) upd_same (same_new hp9 _ _ upd_same) w1 w4 h1 h4 wh (by omega) (by omega) hz8
end
end Kn

namespace L2
open PySem PySem.Spec PyProof.Rows
/-- isinstance(e, c) in the suite that holds the error at a, its class and dict as the clause has them -/
def rIsY (K : PySem.W.Frag) (a : Addr) (cls : Value) (d : Option Addr) : List V → Hp → VK → Prop := fun xs H Q => ∃ (c : V) (cv : Value) (b : Bool) (D dd : Addr), xs = [.ref a, c] ∧ cls = .ref D ∧ d = some dd ∧ ExcC K D ∧ (∃ fs, H dd = some (.xd fs)) ∧ (∀ u, RelV c u → u = cv) ∧ PySem.W.kitOne K (.ref D) cv = some b ∧ Q (.bl b) H
theorem call_isY {X : Cx} {a : Addr} {cls : Value} {d : Option Addr} {oe : Obj} {pn : List (Addr × Obj)} (hz : Zc cls d oe) (hf : ∃ vs, oe.data = .fields vs) : CallR (X.suite a ((a, oe) :: pn)) (.builtin "isinstance") (rIsY X.K a cls d) := by
  intro pins s σ H xs us Q I r h
  obtain ⟨c, cv, b, D, dd, e1, rfl, rfl, T, hd, hcv, e, q⟩ := h
  exact call_isX (X := X) T hz hf pins s σ H xs us Q I r ⟨c, cv, b, e1, hd, hcv, e, q⟩
/-- list.count of truth values -/
def isT (v : Value) : Bool := match v with
  | .bool b => b
  | _ => false
theorem isT_eq {A : Around} {s : Shared} : ∀ {us : List Value} {bs : List Bool}, Vals (bs.map V.bl) us → ∀ y ∈ us, SeqAt.EqAt A s y (.bool true) (isT y) := by
  intro us
  induction us with
  | nil => intro bs _ y hy; cases hy
  | cons u us ih =>
    intro bs h y hy
    cases bs with
    | nil => cases h
    | cons b bs =>
      cases h with
      | cons r t =>
        rcases List.mem_cons.mp hy with e | e
        · subst e
          obtain rfl : y = Value.bool b := r
          have z : SeqAt.EqAt A s (Value.bool b) (Value.bool true) (eqV (.bl b) (.bl true)) := eqAt_V rfl rfl rfl rfl
          have e2 : eqV (.bl b) (.bl true) = isT (.bool b) := by cases b <;> rfl
          rw [e2] at z
          exact z
        · exact ih t y e
theorem isT_count : ∀ {us : List Value} {bs : List Bool}, Vals (bs.map V.bl) us → us.countP isT = bs.count true := by
  intro us
  induction us with
  | nil =>
    intro bs h
    cases bs with
    | nil => rfl
    | cons b bs => cases h
  | cons u us ih =>
    intro bs h
    cases bs with
    | nil => cases h
    | cons b bs =>
      cases h with
      | cons r t =>
        obtain rfl : u = Value.bool b := r
        rw [List.countP_cons, List.count_cons, ih t]
        cases b <;> rfl
def rCntB (K : PySem.W.Frag) : V → List V → Hp → VK → Prop := fun x xs H Q => ∃ (p : Addr) (bs : List Bool), x = .ref p ∧ xs = [.bl true] ∧ SqL K H p (bs.map V.bl) ∧ Q (.int (bs.count true : Nat)) H
theorem mt_countB {X : Cx} : MtR X "list.count" (rCntB X.K) := by
  intro pins s σ H x xs v us Q I rx rxs h
  obtain ⟨p, bs, rfl, rfl, hs, q⟩ := h
  cases rx
  obtain ⟨u, rfl, ru⟩ := rxs.one
  obtain rfl : u = Value.bool true := ru
  obtain ⟨its, rv, ⟨⟨cls, dd, data, sl⟩, n, ho, hc, hdn, hd⟩, hlen⟩ := I.list hs
  simp only at hc hd
  subst hc hd
  refine call_meets PySem.F.slot_list_count ⟨_, ho, rfl⟩ PySem.F.entry_list_count (PySem.F.args_list_count_2 _ _)
    (SeqAt.list_countAt p its.toArray n dd sl (.bool true) isT) ⟨ho, fun y hy => isT_eq rv y (by simpa using hy), ?_⟩
  have ec : its.toArray.toList.countP isT = bs.count true := isT_count rv
  refine ⟨.int (bs.count true : Nat), H, I.tok _, ⟨s.toks, ?_⟩, q⟩
  show Value.int ((its.toArray.toList.countP isT : Nat) : Int) s.toks = Value.int ((bs.count true : Nat) : Int) s.toks
  rw [ec]
end L2

namespace Kn
open PySem PySem.Spec L2 Kw
abbrev nRaised : List Str := ["_law_work", "e", "_law_marks", "_law_at"]
theorem scMkP : FnScope ["_law_s"] ["_law_s"] (defScope sMkP) := ⟨rfl, rfl, rfl, by decide +kernel, rfl, by decide +kernel, by decide +kernel⟩
theorem scRaised : FnScope nRaised ["_law_work"] (defScope sRaised) := ⟨rfl, rfl, rfl, by decide +kernel, rfl, by decide +kernel, by decide +kernel⟩
/-- Packet can be made -/
structure PkMk (P : Program) (w : World) (K : PySem.W.Frag) (mg : Str → Option Value) (base : Heap) (C CP : Addr) : Prop where
  ex : ∃ (f : Addr) (fd : FuncData), Mk K C f ∧ FnOk P w K mg base (L2.CX P w) 6 f fd ["self", "width", "height", "sheets"] (spInit C CP) ∧ Binds K fd ["self", "width", "height", "sheets"] []
def tMkP (C CP : Addr) (E : XK) (t : TA) : TE := tMake C (spInit C CP) [] E t
section
variable {X : Cx} {C CP : Addr} {E : XK} {e : Expr} {es : List Expr} {t : TA} {p pos : Pos} {j : Nat}
theorem pe_mkP (h : PkMk X.prog X.w X.K X.mg X.base C CP) (hr : Room j X.A) (hj : 7 ≤ j) (hx : Passes (L2.CX X.prog X.w) X E) (hm : X.mg "Packet" = some (.ref C)) (ha : PA X (e :: es) t) (hg : Gl X "Packet" := by rfl)
    (he : starEach (e :: es) X.env = (false, eval e X.env) :: starEach es X.env := by rfl) (hpl : (backTo pos (starEach es X.env)).any (·.1) = false := by rfl) :
    PE X (.Call (.Name "Packet" p) (e :: es) [] pos) (tMkP C CP E t) := by
  obtain ⟨f, fd, M, F, b⟩ := h.ex
  exact pe_make M F (hr.mono hj) hg hm b .nil hx ha (by decide) he hpl
end
/-- a scheme of a packet -/
structure Sch (H : Hp) (p t : Addr) (w h : Int) (l : List Str) : Prop where
  at_ : H p = some (.tup [.int w, .int h, .ref t])
  giv : Given H t l
theorem Sch.same {H H' : Hp} {p t : Addr} {w h : Int} {l : List Str} (a : Sch H p t w h l) (s : Same H H') : Sch H' p t w h l := ⟨s _ _ a.at_, a.giv.same s⟩
def spMkP (C : Addr) : Sp := fun vs H Q _ => ∃ p t w h l, vs = [.ref p] ∧ Sch H p t w h l ∧ wrongV (.int w) (.int h) l = none ∧ ∀ x dx H', Same H H' → H x = none → Pk H' C x dx w h t l → Q (.ref x) H'
section
variable {P : Program} {w : World} {K : PySem.W.Frag} {mg : Str → Option Value} {base : Heap} {f : Addr} {fd : FuncData}
theorem ok_mkp {C CP : Addr} (F : Fun K "_law_packet" "_law_packet" sMkP f fd) (T : PkC K mg C) (G : PkMk P w K mg base C CP) : FnOk P w K mg base (L2.CX P w) 8 f fd ["_law_s"] (spMkP C) := by
  refine F.okX scMkP (fun vs H Q E h => ?_) (fun cdv A outer s H vs Q E hr h => ?_)
  · obtain ⟨p, t, w, h, l, rfl, _⟩ := h
    rfl
  · obtain ⟨p, t, w, h, l, rfl, sch, hw, q⟩ := h
    refine ⟨_, pss_one (ps_ret (pe_mkP (CP := CP) G hr (by decide) passL T.g (by exact (pa_cons (pe_ix ix_tup (pv 0) pe_int (fun _ _ => rfl)) (pa_cons (pe_ix ix_tup (pv 0) pe_int (fun _ _ => rfl)) (pa_cons (pe_ix ix_tup (pv 0) pe_int (fun _ _ => rfl)) pa_nil)))))), ?_⟩
    refine ⟨.ref p, rfl, p, _, 0, .int w, rfl, rfl, SqT.of sch.at_, atI_nat (j := 0) rfl, .ref p, rfl, p, _, 1, .int h, rfl, rfl, SqT.of sch.at_, atI_nat (j := 1) rfl, .ref p, rfl, p, _, 2, .ref t, rfl, rfl, SqT.of sch.at_, atI_nat (j := 2) rfl, fun x dx nx ndx ne => ?_⟩
    have s1 : Same H (upd (upd H dx (.own x)) x (.ins C dx [])) := fun b o e => by
      rw [upd_ne (ne_of_none e nx), upd_ne (ne_of_none e ndx)]
      exact e
    refine ⟨x, dx, .int w, .int h, t, l, rfl, upd_same, trivial, trivial, sch.giv.same s1, fun _ H' kp hx' => ⟨rfl, ?_⟩, fun z hz => ?_⟩
    · have s2 : Same H H' := fun b o e => kp b o (ne_of_none e nx) (s1 b o e)
      exact q x dx H' s2 nx ⟨hx', sch.giv.same s2⟩
    · rw [hw] at hz
      cases hz
/-- what is known of the error classes: InvalidPacket at CP, SheetError at SE -/
structure ErrC (K : PySem.W.Frag) (mg : Str → Option Value) (CP SE : Addr) : Prop where
  ex : ExcC K CP
  xf : XfC K CP
  noP : PySem.W.findIn K (.ref CP) Xp.F1 = some none
  noI : PySem.W.findIn K (.ref CP) "index" = some none
  gSE : mg "SheetError" = some (.ref SE)
  te : PySem.W.exmOne K (.ref CP) (.ref SE) = some true
  gCP : mg "InvalidPacket" = some (.ref CP)
  k0 : PySem.W.kitOne K (.ref CP) (.ref CP) = some true
  oth : ∀ x ∈ (["InvalidOrders", "InvalidPictures", "InvalidSize", "InvalidPattern", "InvalidPicture", "InvalidGoals", "InvalidNumber", "TooMany", "InvalidPieces", "InvalidKinds"] : List Str), ∃ D, mg x = some (.ref D) ∧ PySem.W.kitOne K (.ref CP) (.ref D) = some false
  gVE : mg "ValueError" = none
  kVE : PySem.W.kitOne K (.ref CP) (.type "ValueError") = some true
theorem mtC {Y : Cx} {K : PySem.W.Frag} (h : Y.K = K) : MtR Y "list.count" (rCntB K) := h ▸ mt_countB
theorem mtI {Y : Cx} {K : PySem.W.Frag} (h : Y.K = K) : MtR Y "list.index" (rIndex K) := h ▸ mt_index
theorem ixL {Y : Cx} {K : PySem.W.Frag} (h : Y.K = K) : IxR Y (rIxL K) := h ▸ ix_list
theorem pe_bmK {Y : Cx} {K : PySem.W.Frag} {o e : Expr} {to : TE} {u : TA} {name : Str} {apos cpos : Pos} {T id : String} {r : V → List V → Hp → VK → Prop} (pa : PlainAttrs T) (slot : Slot T name id) (hty : typeOf (.builtin id) = pure (.type "method_descriptor")) (hm : MtR Y id r) (ho : PE Y o to) (ha : PA Y [e] u)
    (hK : Y.K = K := by rfl) (hbase : attributeBase o name Y.env (eval o Y.env) = eval o Y.env := by rfl) (hline : (apos.endLine == cpos.line) = true := by rfl)
    (hfew : ((backTo cpos (starEach [e] Y.env)).all (fun x => !x.1) && (backToKw cpos (keywordEach [] Y.env)).all (fun x => x.1.isSome) && decide (([e] : List Expr).length + ([] : List Keyword).length + (if ([] : List Keyword).isEmpty then 0 else 1) < 30)) = true := by rfl)
    (hs : starEach [e] Y.env = (false, eval e Y.env) :: starEach [] Y.env := by rfl) (hplain : (backTo cpos (starEach [] Y.env)).any (·.1) = false := by rfl) :
    PE Y (.Call (.Attribute o name apos) [e] [] cpos) (tBM K T r to u) := hK ▸ pe_bm pa slot hty hm ho ha hbase hfew hline hs hplain
theorem takes_len {Y : Cx} {W : WX} (t : Takes Y W) : Takes Y (fun c d σ H => σ.length = Y.N.length → W c d σ H) := fun u s' ⟨a, B, sI, pins, σ, H, cls, d, e, I, nb, up, sky, na, os, ag, w⟩ =>
  t u s' ⟨a, B, sI, pins, σ, H, cls, d, e, I, nb, up, sky, na, os, ag, w I.len⟩
/-- told: None, or ("packet", part) -/
def TTr (CP : Addr) : (XK → Hp → VK → Prop) → Hp → VK → Prop := fun tl H Q =>
  tl (fun cls d H' => cls = .ref CP ∧ ∃ dd z, d = some dd ∧ H' dd = some (.xd [(Xp.F1, .str z)]) ∧ ∀ p H'', Same H' H'' → H'' p = some (.tup [.str "packet", .str z]) → Q (.ref p) H'') H (fun _ H' => Q .non H')
theorem raised_gives {X : Cx} {CP SE g : Addr} {cdg : Value} (T : ErrC X.K X.mg CP SE) (B : Blt X.mg) (q : Str) : LamX.GivesTo X nRaised "_law_raised" (defScope sRaised) g cdg (defBody sRaised) "_law_work" q (TTr CP) := by
  intro f c' s H Q tl act hc h
  obtain ⟨D1, g1, k1⟩ := T.oth "InvalidOrders" (by decide +kernel)
  obtain ⟨D2, g2, k2⟩ := T.oth "InvalidPictures" (by decide +kernel)
  obtain ⟨D3, g3, k3⟩ := T.oth "InvalidSize" (by decide +kernel)
  obtain ⟨D4, g4, k4⟩ := T.oth "InvalidPattern" (by decide +kernel)
  obtain ⟨D5, g5, k5⟩ := T.oth "InvalidPicture" (by decide +kernel)
  obtain ⟨D6, g6, k6⟩ := T.oth "InvalidGoals" (by decide +kernel)
  obtain ⟨D7, g7, k7⟩ := T.oth "InvalidNumber" (by decide +kernel)
  obtain ⟨D8, g8, k8⟩ := T.oth "TooMany" (by decide +kernel)
  obtain ⟨D9, g9, k9⟩ := T.oth "InvalidPieces" (by decide +kernel)
  obtain ⟨D10, g10, k10⟩ := T.oth "InvalidKinds" (by decide +kernel)
  refine ⟨_, pss_cons (ps_try_as (X := (cxOf C8.CX0 X.prog X.w X.K X.mg X.base nRaised "_law_raised" (defScope sRaised) g cdg X.A X.stack s H C8.E0).nox) (i := 1) (c := .ref SE) (Wout := fun _ _ _ _ => False)
      (tb := fun W D σ H => ∃ Ech : XK, (∀ cls d σ' H', Ech cls d H' → σ'.length = 4 → W cls d σ' H') ∧ σ[0]? = some (some (.ref f)) ∧ H c' = some (LamX.CodeO c' q) ∧ tl Ech H (fun _ H' => D.nx σ H'))
      rfl rfl scRaised.nd rfl rfl ⟨rfl, by decide, .inl T.gSE⟩ L2.takes0 (fun W pn xe tk _ => ?_)
      (fun a oe cls d pn hz hf => pss_cons (ps_set (i := 2) scRaised.nd rfl (Or.inl rfl) (pe_lst (pa_cons (pe_callB (call_isY hz hf) (by rfl) B.isi (by decide +kernel) (pa_cons (pv 1) (pa_cons (pe_glob (v := .ref CP) (by rfl) T.gCP rfl) pa_nil)))
          (pa_cons (pe_callB (call_isY hz hf) (by rfl) B.isi (by decide +kernel) (pa_cons (pv 1) (pa_cons (pe_glob (v := .ref D1) (by rfl) g1 rfl) pa_nil)))
          (pa_cons (pe_callB (call_isY hz hf) (by rfl) B.isi (by decide +kernel) (pa_cons (pv 1) (pa_cons (pe_glob (v := .ref D2) (by rfl) g2 rfl) pa_nil))) pa_nil)))))
        (pss_cons (ps_set (i := 2) scRaised.nd rfl (Or.inl rfl) (pe_op op_cat (pv 2) (pe_lst (pa_cons (pe_callB (call_isY hz hf) (by rfl) B.isi (by decide +kernel) (pa_cons (pv 1) (pa_cons (pe_glob (v := .ref D3) (by rfl) g3 rfl) pa_nil)))
          (pa_cons (pe_callB (call_isY hz hf) (by rfl) B.isi (by decide +kernel) (pa_cons (pv 1) (pa_cons (pe_glob (v := .ref D4) (by rfl) g4 rfl) pa_nil)))
          (pa_cons (pe_callB (call_isY hz hf) (by rfl) B.isi (by decide +kernel) (pa_cons (pv 1) (pa_cons (pe_glob (v := .ref D5) (by rfl) g5 rfl) pa_nil))) pa_nil))))))
        (pss_cons (ps_set (i := 2) scRaised.nd rfl (Or.inl rfl) (pe_op op_cat (pv 2) (pe_lst (pa_cons (pe_callB (call_isY hz hf) (by rfl) B.isi (by decide +kernel) (pa_cons (pv 1) (pa_cons (pe_glob (v := .ref D6) (by rfl) g6 rfl) pa_nil)))
          (pa_cons (pe_callB (call_isY hz hf) (by rfl) B.isi (by decide +kernel) (pa_cons (pv 1) (pa_cons (pe_glob (v := .ref D7) (by rfl) g7 rfl) pa_nil)))
          (pa_cons (pe_callB (call_isY hz hf) (by rfl) B.isi (by decide +kernel) (pa_cons (pv 1) (pa_cons (pe_glob (v := .ref D8) (by rfl) g8 rfl) pa_nil))) pa_nil))))))
        (pss_cons (ps_set (i := 2) scRaised.nd rfl (Or.inl rfl) (pe_op op_cat (pv 2) (pe_lst (pa_cons (pe_callB (call_isY hz hf) (by rfl) B.isi (by decide +kernel) (pa_cons (pv 1) (pa_cons (pe_glob (v := .ref D9) (by rfl) g9 rfl) pa_nil)))
          (pa_cons (pe_callB (call_isY hz hf) (by rfl) B.isi (by decide +kernel) (pa_cons (pv 1) (pa_cons (pe_glob (v := .ref D10) (by rfl) g10 rfl) pa_nil))) pa_nil)))))
        (pss_cons (ps_if (PW.pt (pw_or (pt_cmpR op_ne (by exact (pe_bmK (K := X.K) PySem.F.plainAttrs_list PySem.F.slot_list_count PySem.F.type_list_count (mtC (K := X.K) (by rfl)) (pv 2) (pa_cons pe_bl pa_nil))) pe_int (nomark _))
            (pw_or1 (pt_not (pt_val (pe_callB (call_isY hz hf) (by rfl) B.isi (by decide +kernel) (pa_cons (pv 1) (pa_cons (pe_bltn (v := .ty "ValueError") (by rfl) T.gVE (by decide +kernel) rfl) pa_nil)))))))) (pss_one ps_never) pss_nil)
        (pss_cons (ps_set (i := 3) scRaised.nd rfl (Or.inl rfl) (by exact (pe_bmK (K := X.K) PySem.F.plainAttrs_list PySem.F.slot_list_index PySem.F.type_list_index (mtI (K := X.K) (by rfl)) (pv 2) (pa_cons pe_bl pa_nil))))
        (pss_cons (ps_if (pt_cmpR op_lt (pv 3) pe_int (nomark _)) (pss_one (ps_ret (pe_ifExp (pt_cmpR op_eq (pv 3) pe_int (nomark _)) (pe_tup (pa_cons pe_str (pa_cons (pe_xf T.xf T.noP hz hf (pv 1)) pa_nil)))
            (pe_tup (pa_cons (pe_ix (ixL (K := X.K) (by rfl)) (pe_lst (pa_cons pe_str (pa_cons pe_str (pa_cons pe_str pa_nil)))) (pv 3) (fun _ _ => rfl)) (pa_cons (pe_xf T.xf T.noI hz hf (pv 1)) pa_nil)))))) pss_nil)
        (pss_one ps_never)))))))))
    (pss_one (ps_ret pe_non)), ?_⟩
  · refine ⟨fun pins s' σ' H' D I h' => ?_⟩
    obtain ⟨Ech, hW, h1, h2, h3⟩ := h'
    have hp := fun p1 p2 => act _ pn xe Ech p1 p2 (takes_len tk) (fun cls d σ2 H2 e => hW cls d σ2 H2 e)
    exact (pss_one (ps_expr (hp _ _))).run pins s' σ' H' D I ⟨h1, h2, h3⟩
  · refine ⟨_, fun cls d σ' H' hE hl => ?_, rfl, hc, h⟩
    obtain ⟨rfl, dd, z, rfl, hdd, k⟩ := hE
    match σ', hl with
    | [x0, x1, x2, x3], _ =>
      refine ⟨true, T.te, fun _ a na => ?_, fun w => by cases w⟩
      refine ⟨_, rfl, .ref CP, .ref CP, true, CP, dd, rfl, rfl, rfl, T.ex, ⟨_, hdd⟩, fun u r => r, T.k0, _, rfl, .ref D1, .ref D1, false, CP, dd, rfl, rfl, rfl, T.ex, ⟨_, hdd⟩, fun u r => r, k1, _, rfl, .ref D2, .ref D2, false, CP, dd, rfl, rfl, rfl, T.ex, ⟨_, hdd⟩, fun u r => r, k2, by show 3 ≤ sizeLine; decide, fun p1 hp1 => ?_⟩
      have s1 : Same H' (upd H' p1 (.lst [.bl true, .bl false, .bl false])) := same_new hp1
      have hP1 : (upd H' p1 (.lst [.bl true, .bl false, .bl false])) p1 = some (.lst [.bl true, .bl false, .bl false]) := upd_same
      have d1 := s1 _ _ hdd
      refine ⟨_, rfl, _, rfl, .ref D3, .ref D3, false, CP, dd, rfl, rfl, rfl, T.ex, ⟨_, d1⟩, fun u r => r, k3, _, rfl, .ref D4, .ref D4, false, CP, dd, rfl, rfl, rfl, T.ex, ⟨_, d1⟩, fun u r => r, k4, _, rfl, .ref D5, .ref D5, false, CP, dd, rfl, rfl, rfl, T.ex, ⟨_, d1⟩, fun u r => r, k5, by show 3 ≤ sizeLine; decide, fun p2 hp2 => ⟨p1, p2, _, _, rfl, rfl, same_new hp2 _ _ hP1, upd_same, by show 6 ≤ sizeLine; decide, fun p3 hp3 => ?_⟩⟩
      have s3 := s1.trans ((same_new (o := .lst [.bl false, .bl false, .bl false]) hp2).trans (same_new (o := .lst [.bl true, .bl false, .bl false, .bl false, .bl false, .bl false]) hp3))
      have d3 := s3 _ _ hdd
      refine ⟨_, rfl, _, rfl, .ref D6, .ref D6, false, CP, dd, rfl, rfl, rfl, T.ex, ⟨_, d3⟩, fun u r => r, k6, _, rfl, .ref D7, .ref D7, false, CP, dd, rfl, rfl, rfl, T.ex, ⟨_, d3⟩, fun u r => r, k7, _, rfl, .ref D8, .ref D8, false, CP, dd, rfl, rfl, rfl, T.ex, ⟨_, d3⟩, fun u r => r, k8, by show 3 ≤ sizeLine; decide, fun p4 hp4 => ⟨p3, p4, _, _, rfl, rfl, same_new hp4 _ _ upd_same, upd_same, by show 9 ≤ sizeLine; decide, fun p5 hp5 => ?_⟩⟩
      have s5 := s3.trans ((same_new (o := .lst [.bl false, .bl false, .bl false]) hp4).trans (same_new (o := .lst [.bl true, .bl false, .bl false, .bl false, .bl false, .bl false, .bl false, .bl false, .bl false]) hp5))
      have d5 := s5 _ _ hdd
      refine ⟨_, rfl, _, rfl, .ref D9, .ref D9, false, CP, dd, rfl, rfl, rfl, T.ex, ⟨_, d5⟩, fun u r => r, k9, _, rfl, .ref D10, .ref D10, false, CP, dd, rfl, rfl, rfl, T.ex, ⟨_, d5⟩, fun u r => r, k10, by show 2 ≤ sizeLine; decide, fun p6 hp6 => ⟨p5, p6, _, _, rfl, rfl, same_new hp6 _ _ upd_same, upd_same, by show 11 ≤ sizeLine; decide, fun p7 hp7 => ?_⟩⟩
      have s7 := s5.trans ((same_new (o := .lst [.bl false, .bl false]) hp6).trans (same_new (o := .lst [.bl true, .bl false, .bl false, .bl false, .bl false, .bl false, .bl false, .bl false, .bl false, .bl false, .bl false]) hp7))
      have d7 := s7 _ _ hdd
      have l7 : SqL X.K (upd (upd (upd (upd (upd (upd (upd H' p1 (.lst [.bl true, .bl false, .bl false])) p2 (.lst [.bl false, .bl false, .bl false])) p3 (.lst [.bl true, .bl false, .bl false, .bl false, .bl false, .bl false])) p4 (.lst [.bl false, .bl false, .bl false])) p5
        (.lst [.bl true, .bl false, .bl false, .bl false, .bl false, .bl false, .bl false, .bl false, .bl false])) p6 (.lst [.bl false, .bl false])) p7 (.lst [.bl true, .bl false, .bl false, .bl false, .bl false, .bl false, .bl false, .bl false, .bl false, .bl false, .bl false])) p7
        (([true, false, false, false, false, false, false, false, false, false, false] : List Bool).map V.bl) := SqL.of upd_same
      refine ⟨.ref p7, rfl, .inl ⟨rfl, _, l7⟩, p7, _, rfl, rfl, l7, rfl, _, rfl, iteF ?_⟩
      refine ⟨_, rfl, .ty "ValueError", .type "ValueError", true, CP, dd, rfl, rfl, rfl, T.ex, ⟨_, d7⟩, fun u r => r, T.kVE, true, rfl, iteF ?_⟩
      refine ⟨.ref p7, rfl, .inl ⟨rfl, _, l7⟩, p7, _, .bl true, 0, .bl true, rfl, rfl, l7, rfl, by decide, rfl, rfl, fun m z' hm => absurd hm (Nat.not_lt_zero _), ?_⟩
      refine ⟨_, rfl, 0, 3, rfl, rfl, true, rfl, iteT ?_⟩
      refine ⟨_, rfl, rfl, true, rfl, iteT ?_⟩
      refine ⟨.ref a, rfl, rfl, rfl, dd, _, .str z, rfl, d7, by simp [List.lookup], by show 2 ≤ sizeLine; decide, fun p8 hp8 => ?_⟩
      exact k p8 _ (s7.trans (same_new hp8)) upd_same
end
end Kn

namespace Kn
open PySem PySem.Spec L2 Kw
/-- a text without its first sign -/
theorem tail_cps (z : Str) : (cutS z (some 1) none).cps.toList = z.cps.toList.drop 1 := by
  unfold cutS
  rw [List.toList_toArray]
  have hl : z.cps.toList.length = z.length := len_eq z
  cases hz : z.length with
  | zero =>
    rw [hz] at hl
    have e : z.cps.toList = [] := List.length_eq_zero_iff.mp hl
    rw [e]
    simp
  | succ n =>
    have e1 : HT.sIx (n + 1) 0 (some 1) = 1 := by
      unfold HT.sIx
      simp
    have e2 : HT.sIx (n + 1) (n + 1) none = n + 1 := rfl
    rw [e1, e2]
    refine List.take_of_length_le ?_
    rw [List.length_drop, hl, hz]
    omega
theorem tail_len (z : Str) (h : 1 ≤ z.length) : (cutS z (some 1) none).length + 1 = z.length := by
  have e := congrArg List.length (tail_cps z)
  rw [len_eq, List.length_drop, len_eq] at e
  omega
/-! ### what the reader draws -/
theorem Abc.ok {n : Int} {z : Str} (h : Abc n z) : sheetOk z n = true := by
  unfold sheetOk
  rw [Bool.and_eq_true]
  refine ⟨decide_eq_true h.1, List.all_eq_true.mpr fun c hc => ?_⟩
  have := h.2 c hc
  unfold signOk
  rw [Bool.and_eq_true]
  exact ⟨decide_eq_true this.1, decide_eq_true (by omega)⟩
theorem Abc.strOk {n : Int} {z : Str} (h : Abc n z) : PyData.strOk z = true := by
  unfold PyData.strOk
  rw [← Array.all_toList, List.all_eq_true]
  intro c hc
  have := h.2 c hc
  exact decide_eq_true (by omega)
theorem Abc.small {n : Int} {z : Str} (h : Abc n z) (hn : n ≤ 16) : z.length ≤ 16 := by
  have := h.1
  omega
theorem side_ok {w : Int} (w1 : 1 ≤ w) (w4 : w ≤ 4) : sideV (.int w) = true := by
  unfold sideV
  rw [Bool.and_eq_true]
  exact ⟨decide_eq_true w1, decide_eq_true w4⟩
theorem size_ok {w h : Int} (w1 : 1 ≤ w) (w4 : w ≤ 4) (h1 : 1 ≤ h) (h4 : h ≤ 4) (wh : w * h ≤ 9) : sizeV (.int w) (.int h) = true := by
  unfold sizeV
  rw [side_ok w1 w4, side_ok h1 h4, Bool.true_and, Bool.true_and]
  exact decide_eq_true wh
theorem sheets_ok {n : Int} {l : List Str} (l1 : 1 ≤ l.length) (l4 : l.length ≤ 4) (hz : ∀ z ∈ l, Abc n z) : sheetsOk l n = true := by
  unfold sheetsOk
  rw [decide_eq_true l1, decide_eq_true l4, Bool.true_and, Bool.true_and]
  exact List.all_eq_true.mpr fun z h => (hz z h).ok
theorem wrong_none {w h : Int} {l : List Str} (w1 : 1 ≤ w) (w4 : w ≤ 4) (h1 : 1 ≤ h) (h4 : h ≤ 4) (wh : w * h ≤ 9) (l1 : 1 ≤ l.length) (l4 : l.length ≤ 4) (hz : ∀ z ∈ l, Abc (w * h) z) : wrongV (.int w) (.int h) l = none := by
  unfold wrongV
  rw [if_pos (side_ok w1 w4), if_pos (size_ok w1 w4 h1 h4 wh)]
  exact if_pos (sheets_ok l1 l4 hz)
theorem given_of {H : Hp} {t : Addr} {n : Int} {l : List Str} (ht : H t = some (.tup (l.map V.str))) (hn : n ≤ 16) (l4 : l.length ≤ 4) (hz : ∀ z ∈ l, Abc n z) : Given H t l :=
  ⟨ht, fun z h => Nat.le_trans ((hz z h).small hn) (by decide), Nat.le_trans l4 (by decide), fun z h => (hz z h).strOk⟩
/-! ### what is odd -/
theorem sheets_no {z : Str} {l : List Str} {n : Int} (hz : z ∈ l) (h : sheetOk z n = false) : sheetsOk l n = false := by
  unfold sheetsOk
  have e : (l.all fun z => sheetOk z n) = false := by
    rw [List.all_eq_false]
    exact ⟨z, hz, by rw [h]; decide⟩
  rw [e, Bool.and_false, Bool.and_false]
theorem sheet_len {z : Str} {n : Int} (h : (z.length : Int) ≠ n) : sheetOk z n = false := by
  unfold sheetOk
  rw [decide_eq_false h, Bool.false_and]
theorem sheet_sign {z : Str} {n : Int} {c : Nat} (hc : c ∈ z.cps.toList) (h : signOk c = false) : sheetOk z n = false := by
  unfold sheetOk
  have e : (z.cps.toList.all signOk) = false := by
    rw [List.all_eq_false]
    exact ⟨c, hc, by rw [h]; decide⟩
  rw [e, Bool.and_false]
theorem app_cps (x y : Str) : (x ++ y).cps.toList = x.cps.toList ++ y.cps.toList := by
  show (x.cps ++ y.cps).toList = _
  rw [Array.toList_append]
theorem app_len (x y : Str) : (x ++ y).length = x.length + y.length := by
  rw [← len_eq, app_cps, List.length_append, len_eq, len_eq]
theorem strOk_of {z : Str} (h : ∀ c ∈ z.cps.toList, c < 0x110000) : PyData.strOk z = true := by
  unfold PyData.strOk
  rw [← Array.all_toList, List.all_eq_true]
  exact fun c hc => decide_eq_true (h c hc)
/-- a text that may be handed in -/
structure Tame (z : Str) : Prop where
  len : z.length ≤ 100
  cp : ∀ c ∈ z.cps.toList, c ≤ 122
theorem Abc.tame {n : Int} {z : Str} (h : Abc n z) (hn : n ≤ 16) : Tame z := ⟨Nat.le_trans (h.small hn) (by decide), fun c hc => by have := h.2 c hc; omega⟩
theorem given_tame {H : Hp} {t : Addr} {l : List Str} (ht : H t = some (.tup (l.map V.str))) (l4 : l.length ≤ 10) (hz : ∀ z ∈ l, Tame z) : Given H t l :=
  ⟨ht, fun z h => Nat.le_trans (hz z h).len (by decide), Nat.le_trans l4 (by decide), fun z h => strOk_of fun c hc => Nat.lt_of_le_of_lt ((hz z h).cp c hc) (by decide)⟩
theorem Tame.app {x y : Str} (a : Tame x) (hx : x.length ≤ 50) (b : Tame y) (hy : y.length ≤ 50) : Tame (x ++ y) := ⟨by rw [app_len]; omega, fun c hc => by
  rw [app_cps] at hc
  rcases List.mem_append.mp hc with h | h
  · exact a.cp c h
  · exact b.cp c h⟩
theorem Tame.tail {x : Str} (a : Tame x) : Tame (cutS x (some 1) none) := ⟨Nat.le_trans (cutS_length _ _ _) a.len, fun c hc => by
  rw [tail_cps] at hc
  exact a.cp c (List.mem_of_mem_drop hc)⟩
theorem size_zero {w : Int} : sizeV (.int w) (.int 0) = false := by
  unfold sizeV
  have e : sideV (.int 0) = false := by decide
  rw [e, Bool.false_and, Bool.and_false]
theorem size_five {w : Int} : sizeV (.int w) (.int 5) = false := by
  unfold sizeV
  have e : sideV (.int 5) = false := by decide
  rw [e, Bool.false_and, Bool.and_false]
theorem size_over {w : Int} (w1 : 1 ≤ w) : sizeV (.int w) (.int (9 / w + 1)) = false := by
  unfold sizeV
  have e : decide (valI (.int w) * valI (.int (9 / w + 1)) ≤ 9) = false := by
    refine decide_eq_false ?_
    show ¬ (w * (9 / w + 1) ≤ 9)
    have h1 := Int.emod_add_mul_ediv 9 w
    have h2 := Int.emod_lt_of_pos 9 (show 0 < w by omega)
    rw [Int.mul_add, Int.mul_one]
    omega
  rw [e, Bool.and_false, Bool.and_false]
theorem size_true {w : Int} : sizeV (.int w) (.bl true) = false := by
  unfold sizeV
  have e : sideV (.bl true) = false := rfl
  rw [e, Bool.false_and, Bool.and_false]
/-- the odd parts at od -/
structure OddAt (H : Hp) (r od : Addr) (w h : Int) : Prop where
  ex : ∃ (o1 o2 o3 : Addr) (xs1 xs2 xs3 : List V), od ≠ r ∧ o1 ≠ r ∧ o2 ≠ r ∧ o3 ≠ r ∧ H od = some (.lst [.ref o1, .ref o2, .ref o3]) ∧ H o1 = some (.lst xs1) ∧ H o2 = some (.lst xs2) ∧ H o3 = some (.lst xs3) ∧
    (1 ≤ xs1.length ∧ xs1.length ≤ 10) ∧ (1 ≤ xs2.length ∧ xs2.length ≤ 10) ∧ (1 ≤ xs3.length ∧ xs3.length ≤ 10) ∧
    (∀ v ∈ xs1, NumLike v ∧ sideV v = false) ∧ (∀ v ∈ xs2, NumLike v ∧ sizeV (.int w) v = false) ∧ ∀ v ∈ xs3, ∃ t l, v = .ref t ∧ t ≠ r ∧ Given H t l ∧ sheetsOk l (w * h) = false
theorem Given.but {r : Addr} {H H' : Hp} {t : Addr} {l : List Str} (g : Given H t l) (n : t ≠ r) (b : But r H H') : Given H' t l := ⟨b _ _ n g.at_, g.small, g.few, g.okc⟩
theorem OddAt.but {r od : Addr} {H H' : Hp} {w h : Int} (a : OddAt H r od w h) (b : But r H H') : OddAt H' r od w h := by
  obtain ⟨o1, o2, o3, xs1, xs2, xs3, n, n1, n2, n3, e, e1, e2, e3, k1, k2, k3, p1, p2, p3⟩ := a.ex
  exact ⟨o1, o2, o3, xs1, xs2, xs3, n, n1, n2, n3, b _ _ n e, b _ _ n1 e1, b _ _ n2 e2, b _ _ n3 e3, k1, k2, k3, p1, p2, fun v hv => by
    obtain ⟨t, l, ev, nt, g, hs⟩ := p3 v hv
    exact ⟨t, l, ev, nt, g.but nt b, hs⟩⟩
/-! ### which parts are odd -/
def wr (bs : List Bool) : List V := (bs.zipIdx.filter (·.1)).map fun p => .int ((p.2 : Nat) : Int)
theorem wr_app (bs : List Bool) (b : Bool) : wr (bs ++ [b]) = wr bs ++ if b = true then [.int ((bs.length : Nat) : Int)] else [] := by
  unfold wr
  rw [List.zipIdx_append, List.filter_append, List.map_append]
  congr 1
  cases b with
  | true => simp
  | false => simp
theorem wr_len (bs : List Bool) : (wr bs).length ≤ bs.length := by
  unfold wr
  rw [List.length_map]
  refine Nat.le_trans (List.length_filter_le _ _) ?_
  rw [List.length_zipIdx]
  exact Nat.le_refl _
/-- the part at j: odd, or as drawn -/
def PartOk (H : Hp) (r : Addr) (w h : Int) (t : Addr) (b0 b1 b2 : Bool) : Nat → V → Prop
  | 0, v => NumLike v ∧ if b0 = true then sideV v = false else v = .int w
  | 1, v => NumLike v ∧ if b1 = true then sizeV (.int w) v = false else v = .int h
  | 2, v => if b2 = true then ∃ u l, v = .ref u ∧ u ≠ r ∧ Given H u l ∧ sheetsOk l (w * h) = false else v = .ref t
  | _, _ => True
theorem PartOk.but {r : Addr} {H H' : Hp} {w h : Int} {t : Addr} {b0 b1 b2 : Bool} {j : Nat} {v : V} (p : PartOk H r w h t b0 b1 b2 j v) (b : But r H H') : PartOk H' r w h t b0 b1 b2 j v := by
  match j, p with
  | 0, p => exact p
  | 1, p => exact p
  | 2, p =>
    cases b2 with
    | true =>
      obtain ⟨u, l, e, n, g, hs⟩ := p
      exact ⟨u, l, e, n, g.but n b, hs⟩
    | false => exact p
  | n + 3, _ => trivial
def firstN (b0 b1 b2 : Bool) : Option Str := if b0 = true then some "width" else if b1 = true then some "height" else if b2 = true then some "sheets" else none
theorem wrong_first {H : Hp} {r t : Addr} {w h : Int} {l : List Str} {b0 b1 b2 : Bool} {v u s : V} (w1 : 1 ≤ w) (w4 : w ≤ 4) (h1 : 1 ≤ h) (h4 : h ≤ 4) (wh : w * h ≤ 9) (l1 : 1 ≤ l.length) (l4 : l.length ≤ 4) (hz : ∀ z ∈ l, Abc (w * h) z)
    (ht : Given H t l) (p0 : PartOk H r w h t b0 b1 b2 0 v) (p1 : PartOk H r w h t b0 b1 b2 1 u) (p2 : PartOk H r w h t b0 b1 b2 2 s) : ∃ t' l', s = .ref t' ∧ Given H t' l' ∧ wrongV v u l' = firstN b0 b1 b2 := by
  obtain ⟨t', l', e, g, hl⟩ : ∃ t' l', s = .ref t' ∧ Given H t' l' ∧ (if b2 = true then sheetsOk l' (w * h) = false else l' = l) := by
    cases b2 with
    | true =>
      obtain ⟨u, l', e, n, g, hs⟩ := p2
      exact ⟨u, l', e, g, hs⟩
    | false => exact ⟨t, l, p2, ht, rfl⟩
  refine ⟨t', l', e, g, ?_⟩
  obtain ⟨_, q0⟩ := p0
  obtain ⟨_, q1⟩ := p1
  cases b0 with
  | true =>
    have q0 : sideV v = false := q0
    unfold wrongV firstN
    rw [q0]
    rfl
  | false =>
    have q0 : v = .int w := q0
    subst q0
    cases b1 with
    | true =>
      have q1 : sizeV (.int w) u = false := q1
      unfold wrongV firstN
      rw [side_ok w1 w4, q1]
      rfl
    | false =>
      have q1 : u = .int h := q1
      subst q1
      cases b2 with
      | true =>
        have hl : sheetsOk l' (w * h) = false := hl
        unfold wrongV firstN
        rw [side_ok w1 w4, size_ok w1 w4 h1 h4 wh]
        show (if sheetsOk l' (w * h) = true then none else some (Str.ofString "sheets")) = _
        rw [hl]
        rfl
      | false =>
        have hl : l' = l := hl
        subst hl
        exact wrong_none w1 w4 h1 h4 wh l1 l4 hz
/-- the names in their order -/
def names3 : List V := [.str "width", .str "height", .str "sheets"]
theorem wr_cases (b0 b1 b2 : Bool) : (firstN b0 b1 b2 = none ∧ wr [b0, b1, b2] = []) ∨ ∃ (k : Nat) (z : Str) (rest : List V), firstN b0 b1 b2 = some z ∧ wr [b0, b1, b2] = .int ((k : Nat) : Int) :: rest ∧ names3[k]? = some (.str z) := by
  cases b0 with
  | true => exact .inr ⟨0, "width", _, rfl, rfl, rfl⟩
  | false =>
    cases b1 with
    | true => exact .inr ⟨1, "height", _, rfl, rfl, rfl⟩
    | false =>
      cases b2 with
      | true => exact .inr ⟨2, "sheets", _, rfl, rfl, rfl⟩
      | false => exact .inl ⟨rfl, rfl⟩
theorem wr_in (b0 b1 b2 : Bool) : inV (.int 0) (wr [b0, b1, b2]) = b0 ∧ inV (.int 1) (wr [b0, b1, b2]) = b1 ∧ inV (.int 2) (wr [b0, b1, b2]) = b2 := by
  cases b0 <;> cases b1 <;> cases b2 <;> exact ⟨by decide +kernel, by decide +kernel, by decide +kernel⟩
theorem wr_flat (bs : List Bool) : (wr bs).all flatV = true := by
  unfold wr
  rw [List.all_map, List.all_eq_true]
  intro p hp
  rfl
def wrD (bs : List Bool) : List PyData := (bs.zipIdx.filter (·.1)).map fun p => .int ((p.2 : Nat) : Int)
theorem wr_dp {K : PySem.W.Frag} {H : Hp} (bs : List Bool) : DpAll K H (wr bs) (wrD bs) := by
  unfold wr wrD
  generalize bs.zipIdx.filter (·.1) = ps
  induction ps with
  | nil => exact .nil
  | cons p ps ih => exact .cons (.int _) ih
theorem wrD_ok (b0 b1 b2 : Bool) : SeqAt.shaped (.list (wrD [b0, b1, b2])) = true := by
  cases b0 <;> cases b1 <;> cases b2 <;> decide +kernel
theorem wrD_eq (b0 b1 b2 : Bool) : PyData.eqv (.list (wrD [b0, b1, b2])) (.list []) = (firstN b0 b1 b2).isNone := by
  cases b0 <;> cases b1 <;> cases b2 <;> decide +kernel
theorem OddAt.part {H : Hp} {r od t : Addr} {w h : Int} {b0 b1 b2 : Bool} {i : Nat} (a : OddAt H r od w h) (hi : i < 3) (hin : inV (.int ((i : Nat) : Int)) (wr [b0, b1, b2]) = true) :
    ∃ (items : List V) (oi : Addr) (xs : List V), H od = some (.lst items) ∧ items[i]? = some (.ref oi) ∧ od ≠ r ∧ oi ≠ r ∧ H oi = some (.lst xs) ∧ 1 ≤ xs.length ∧ xs.length ≤ 10 ∧ ∀ v ∈ xs, PartOk H r w h t b0 b1 b2 i v := by
  obtain ⟨o1, o2, o3, xs1, xs2, xs3, n, n1, n2, n3, e, e1, e2, e3, k1, k2, k3, p1, p2, p3⟩ := a.ex
  have k := wr_in b0 b1 b2
  match i, hi, hin with
  | 0, _, hin =>
    have hb : b0 = true := k.1.symm.trans hin
    refine ⟨_, o1, xs1, e, rfl, n, n1, e1, k1.1, k1.2, fun v hv => ⟨(p1 v hv).1, ?_⟩⟩
    rw [if_pos hb]
    exact (p1 v hv).2
  | 1, _, hin =>
    have hb : b1 = true := k.2.1.symm.trans hin
    refine ⟨_, o2, xs2, e, rfl, n, n2, e2, k2.1, k2.2, fun v hv => ⟨(p2 v hv).1, ?_⟩⟩
    rw [if_pos hb]
    exact (p2 v hv).2
  | 2, _, hin =>
    have hb : b2 = true := k.2.2.symm.trans hin
    refine ⟨_, o3, xs3, e, rfl, n, n3, e3, k3.1, k3.2, fun v hv => ?_⟩
    show (if b2 = true then _ else _)
    rw [if_pos hb]
    exact p3 v hv
theorem sch_part {H : Hp} {r t : Addr} {w h : Int} {b0 b1 b2 : Bool} {i : Nat} (hi : i < 3) (hin : ¬ inV (.int ((i : Nat) : Int)) (wr [b0, b1, b2]) = true) :
    ∃ v, ([.int w, .int h, .ref t] : List V)[i]? = some v ∧ PartOk H r w h t b0 b1 b2 i v := by
  have k := wr_in b0 b1 b2
  match i, hi, hin with
  | 0, _, hin =>
    have hb : ¬ b0 = true := fun y => hin (k.1.trans y)
    exact ⟨_, rfl, trivial, by rw [if_neg hb]⟩
  | 1, _, hin =>
    have hb : ¬ b1 = true := fun y => hin (k.2.1.trans y)
    exact ⟨_, rfl, trivial, by rw [if_neg hb]⟩
  | 2, _, hin =>
    have hb : ¬ b2 = true := fun y => hin (k.2.2.trans y)
    refine ⟨_, rfl, ?_⟩
    show (if b2 = true then _ else _)
    rw [if_neg hb]
/-- what is due -/
def DueOk (H : Hp) : Option Str → V → Prop
  | none, v => v = .non
  | some z, v => ∃ q, v = .ref q ∧ H q = some (.tup [.str "packet", .str z])
theorem PartOk.put {r E : Addr} {H : Hp} {w h : Int} {t : Addr} {b0 b1 b2 : Bool} {j : Nat} {v : V} {xs ys : List V} (p : PartOk H r w h t b0 b1 b2 j v) (hE : H E = some (.lst xs)) : PartOk (upd H E (.lst ys)) r w h t b0 b1 b2 j v := by
  match j, p with
  | 0, p => exact p
  | 1, p => exact p
  | 2, p =>
    cases b2 with
    | true =>
      obtain ⟨u, l, e, n, g, hs⟩ := p
      refine ⟨u, l, e, n, ⟨?_, g.small, g.few, g.okc⟩, hs⟩
      rw [upd_ne]
      · exact g.at_
      · intro y
        have z := g.at_
        rw [y, hE] at z
        cases z
    | false => exact p
  | n + 3, _ => trivial
theorem due_te {K : PySem.W.Frag} {σ : L2.St} {H : Hp} {b0 b1 b2 : Bool} {D : Addr} {Q : VK} (hD : σ[7]? = some (some (.ref D))) (hH : H D = some (.lst (wr [b0, b1, b2]))) (q : ∀ v H', Same H H' → DueOk H' (firstN b0 b1 b2) v → Q v H') :
    tIf (tTest (tOp (rNeD K) (tVar 7) (tLst tNil))) (tTup (tCons (tC (.str "packet")) (tCons (tOp (rIxL K) (tLst (tCons (tC (.str "width")) (tCons (tC (.str "height")) (tCons (tC (.str "sheets")) tNil)))) (tOp (rIxL K) (tVar 7) (tC (.int 0)))) tNil))) (tC .non) σ H Q := by
  refine ⟨.ref D, hD, by show 0 ≤ sizeLine; decide, fun n1 hn1 => ?_⟩
  have s1 : Same H (upd H n1 (.lst [])) := same_new hn1
  have e1 : (upd H n1 (.lst [])) n1 = some (.lst []) := upd_same
  generalize upd H n1 (.lst []) = H1 at s1 e1
  refine ⟨_, _, .lst (SqL.of (s1 _ _ hH)) (wr_dp _), .lst (SqL.of e1) .nil, wrD_ok b0 b1 b2, (by decide +kernel), _, rfl, ?_⟩
  rw [wrD_eq]
  rcases wr_cases b0 b1 b2 with ⟨h1, h2⟩ | ⟨k, z, rest, h1, h2, h3⟩
  · rw [h1] at q ⊢
    exact iteF (q .non H1 s1 rfl)
  · rw [h1] at q ⊢
    rw [h2] at hH
    refine iteT ⟨by show 3 ≤ sizeLine; decide, fun n2 hn2 => ?_⟩
    have s2 : Same H1 (upd H1 n2 (.lst names3)) := same_new hn2
    have e2 : (upd H1 n2 (.lst names3)) n2 = some (.lst names3) := upd_same
    show (tOp (rIxL K) (tVar 7) (tC (.int 0))) σ (upd H1 n2 (.lst names3)) _
    generalize upd H1 n2 (.lst names3) = H2 at s2 e2
    refine ⟨.ref D, hD, D, _, 0, .int ((k : Nat) : Int), rfl, rfl, SqL.of (s2 _ _ (s1 _ _ hH)), atI_nat (j := 0) rfl, n2, names3, ((k : Nat) : Int), .str z, rfl, rfl, SqL.of e2, atI_nat h3, by show 2 ≤ sizeLine; decide, fun n3 hn3 => ?_⟩
    exact q _ _ (s1.trans (s2.trans (same_new hn3))) ⟨n3, rfl, upd_same⟩
theorem first_ok {b0 b1 b2 : Bool} {z : Str} (e : firstN b0 b1 b2 = some z) : ∀ y ∈ [Str.ofString "packet", z], PyData.strOk y = true := by
  have hz : PyData.strOk z = true := by
    cases b0 with
    | true =>
      cases e
      decide +kernel
    | false =>
      cases b1 with
      | true =>
        cases e
        decide +kernel
      | false =>
        cases b2 with
        | true =>
          cases e
          decide +kernel
        | false => cases e
  intro y hy
  rcases List.mem_cons.mp hy with rfl | hy
  · decide +kernel
  · rw [List.mem_singleton.mp hy]
    exact hz
end Kn

namespace Kn
open PySem PySem.Spec L2 Kw
abbrev nLaw : List Str := ["_law_script", "_law_row", "_law_s", "_law_one", "_law_size", "_law_text", "_law_odd", "_law_wrong", "_law_due", "_law_parts", "_law_part", "_law_k"]
theorem scLaw : FnScope nLaw ["_law_script"] (defScope sLaw) := ⟨rfl, rfl, rfl, by decide +kernel, rfl, by decide +kernel, by decide +kernel⟩
theorem ixT {Y : Cx} {K : PySem.W.Frag} (h : Y.K = K) : IxR Y (rIxT K) := h ▸ ix_tup
theorem inS {Y : Cx} {K : PySem.W.Frag} (h : Y.K = K) : OpR Y (compareOp .In) (rIn K false) := h ▸ op_in_seq
/-- a property of the class at C -/
structure Prp (P : Program) (w : World) (K : PySem.W.Frag) (mg : Str → Option Value) (base : Heap) (C : Addr) (f : Str) (sp : Sp) : Prop where
  ex : ∃ (p g : Addr) (fd : FuncData), PropOf K C f p g ∧ FnOk P w K mg base CX0 1 g fd ["self"] sp ∧ Binds K fd ["self"] []
structure Lnn (P : Program) (w : World) (K : PySem.W.Frag) (mg : Str → Option Value) (base : Heap) (C : Addr) (sp : Sp) : Prop where
  ex : ∃ (g : Addr) (fd : FuncData), PySem.W.findIn K (.ref C) "__len__" = some (some (.ref g)) ∧ PySem.W.isFn K (.ref g) = true ∧ FnOk P w K mg base CX0 1 g fd ["self"] sp ∧ Binds K fd ["self"] []
structure Eqq (P : Program) (w : World) (K : PySem.W.Frag) (mg : Str → Option Value) (base : Heap) (C : Addr) (sp : Sp) : Prop where
  ex : ∃ (g : Addr) (fd : FuncData), NeC K C g ∧ FnOk P w K mg base CX0 1 g fd ["self", "other"] sp ∧ Binds K fd ["self", "other"] []
section
variable {X : Cx} {C : Addr} {f : Str} {sp : Sp} {e : Expr} {ta : TE} {pos : Pos} {j : Nat}
theorem pe_prp (h : Prp X.prog X.w X.K X.mg X.base C f sp) (c : Cls X.K C) (hr : Room j X.A) (hj : 2 ≤ j) (he : PE X e ta) (hab : attributeBase e f X.env (eval e X.env) = eval e X.env := by rfl) : PE X (.Attribute e f pos) (tProp C sp [] E0 ta) := by
  obtain ⟨p, g, fd, hp, F, b⟩ := h.ex
  exact pe_prop he c hp F (hr.mono hj) b .nil pass0 hab
theorem call_lnn (h : Lnn X.prog X.w X.K X.mg X.base C sp) (hr : Room j X.A) (hj : 2 ≤ j) : CallR X (.builtin "len") (rLenO C sp) := by
  obtain ⟨g, fd, h1, h2, F, b⟩ := h.ex
  exact call_lenO h1 h2 F (hr.mono hj) b
theorem op_eqq (h : Eqq X.prog X.w X.K X.mg X.base C sp) (hr : Room j X.A) (hj : 2 ≤ j) : OpR X (compareOp .NotEq) (rNeO C sp) := by
  obtain ⟨g, fd, n, F, b⟩ := h.ex
  exact op_neO n F (hr.mono hj) b
end
/-- all that the law leans on -/
structure All (P : Program) (w : World) (K : PySem.W.Frag) (mg : Str → Option Value) (base : Heap) (C CP SE : Addr) : Prop where
  B : Blt mg
  T : PkC K mg C
  GT : Has P w K mg base CX0 1 "_law_taken" ["_law_row", "_law_many"] (spTaken K)
  GP : Has P w K mg base CX0 2 "_law_pick" ["_law_row", "_law_some"] (spPick K)
  GS : Has P w K mg base CX0 3 "_law_scheme" ["_law_row", "_law_cells", "_law_many"] (spScheme K)
  GM : Has P w K mg base (L2.CX P w) 8 "_law_packet" ["_law_s"] (spMkP C)
  MP : PkMk P w K mg base C CP
  pw : Prp P w K mg base C "width" (spW C)
  ph : Prp P w K mg base C "height" (spH C)
  ps : Prp P w K mg base C "sheets" (spS C)
  pc : Prp P w K mg base C "cells" (spC C)
  ln : Lnn P w K mg base C (spLen C)
  eq : Eqq P w K mg base C (spEqP C)
  er : ErrC K mg CP SE
  rs : ∃ (g : Addr) (fd : FuncData), Fun K "_law_raised" "_law_raised" sRaised g fd ∧ mg "_law_raised" = some (.ref g) ∧ Binds K fd ["_law_work"] []
def spLaw (K : PySem.W.Frag) (tb : Addr) : Sp := fun vs H Q _ => ∃ (a : Addr) (ns : List Int), vs = [.ref a] ∧ SqL K H a (ns.map V.int) ∧ ns.length ≤ 63 ∧ H tb = some (.tbl #[]) ∧ ∀ H', Q (.bl true) H'
section
variable {P : Program} {w : World} {K : PySem.W.Frag} {mg : Str → Option Value} {base : Heap} {f : Addr} {fd : FuncData}
theorem ok_law {C CP SE cd tb : Addr} {kV doc pm ct oc : Value} {an od : Option Addr} {osl : Array (Option Value)} (lk : K.lookup f = some ⟨oc, od, .func (PySem.W.fnOf "law" "law" (defArgs sLaw) (defBody sLaw) (defScope sLaw) .none kV doc pm an (.ref cd) ct), osl⟩) (hcd : PySem.W.codeIn K (.ref cd) "law" = true)
    (A : All P w K mg base C CP SE) (TB : LamX.TabB base mg cd tb) : FnOk P w K mg base CX0 20 f (PySem.W.fnOf "law" "law" (defArgs sLaw) (defBody sLaw) (defScope sLaw) .none kV doc pm an (.ref cd) ct) ["_law_script"] (spLaw K tb) := by
  refine fn_of lk hcd scLaw (fun vs H Q E h => ?_) (fun A' outer s H vs Q E hr h => ?_)
  · obtain ⟨a, ns, rfl, _⟩ := h
    rfl
  · obtain ⟨a, ns, rfl, hS, hlen, htb, q⟩ := h
    obtain ⟨g, fdR, FR, gR, bR⟩ := A.rs
    obtain ⟨ocR, odR, kVR, docR, pmR, anR, cdvR, ctR, oslR, eR, lkR, cdR⟩ := FR.ex
    have B := A.B
    subst eR
    refine ⟨_, pss_cons (ps_set (i := 1) scLaw.nd rfl (Or.inr rfl) (pe_lst (pa_cons (pv 0) (pa_cons pe_int (pa_cons pe_int (pa_cons pe_int pa_nil))))))
      (pss_cons (ps_set (i := 2) scLaw.nd rfl (Or.inr rfl) (pe_has A.GS hr (by decide) pass0 (pa_cons (pv 1) (pa_cons pe_int (pa_cons pe_int pa_nil)))))
      (pss_cons (ps_par (i := 3) (j := 4) (by rfl) scLaw.nd rfl rfl (by decide) rfl rfl (pa_cons (pe_has A.GM hr (by decide) passL (pa_cons (pv 2) pa_nil)) (pa_cons (pe_op op_mul (pe_ix ix_tup (pv 2) pe_int (fun _ _ => rfl)) (pe_ix ix_tup (pv 2) pe_int (fun _ _ => rfl))) pa_nil)) (by rfl))
      (pss_cons (ps_if (pt_cmpR (op_neD hr.units) (pe_tup (pa_cons (pe_prp A.pw A.T.cl hr (by decide) (pv 3)) (pa_cons (pe_prp A.ph A.T.cl hr (by decide) (pv 3)) (pa_cons (pe_prp A.ps A.T.cl hr (by decide) (pv 3)) (pa_cons (pe_prp A.pc A.T.cl hr (by decide) (pv 3)) (pa_cons (pe_callB (call_lnn A.ln hr (by decide)) (by rfl) B.len PySem.boot_len (pa_cons (pv 3) pa_nil)) pa_nil))))))
          (pe_op op_catT (pv 2) (pe_tup (pa_cons (pv 4) (pa_cons (pe_callB call_len_seq (by rfl) B.len PySem.boot_len (pa_cons (pe_ix ix_tup (pv 2) pe_int (fun _ _ => rfl)) pa_nil)) pa_nil)))) (nomark _)) (pss_one (ps_ret pe_bl)) pss_nil)
      (pss_cons (ps_if (pt_cmpR (op_eqq A.eq hr (by decide)) (pv 3) (pe_has A.GM hr (by decide) passL (pa_cons (pv 2) pa_nil)) (nomark _)) (pss_one (ps_ret pe_bl)) pss_nil)
      (pss_cons (ps_set (i := 5) scLaw.nd rfl (Or.inl rfl) (pe_ix ix_tup (pe_ix ix_tup (pv 2) pe_int (fun _ _ => rfl)) pe_int (fun _ _ => rfl)))
      (pss_cons (ps_set (i := 6) scLaw.nd rfl (Or.inr rfl) (pe_lst (pa_cons (pe_lst (pa_cons pe_int (pa_cons pe_int (pa_cons pe_bl pa_nil))))
          (pa_cons (pe_lst (pa_cons pe_int (pa_cons pe_int (pa_cons (pe_op op_add (pe_op op_fdiv pe_int (pe_ix ix_tup (pv 2) pe_int (fun _ _ => rfl))) pe_int) (pa_cons pe_bl pa_nil)))))
          (pa_cons (pe_lst (pa_cons (pe_tup pa_nil) (pa_cons (pe_op op_repT (pe_tup (pa_cons (pv 5) pa_nil)) pe_int) (pa_cons (pe_tup (pa_cons (pv 5) (pa_cons (pe_op op_add_str (pv 5) pe_str) pa_nil))) (pa_cons (pe_tup (pa_cons (pe_slice sl_str (pv 5) (po_some pe_int) po_none) pa_nil)) pa_nil))))) pa_nil)))))
      (pss_cons (ps_asg (pe_op op_cat (pe_ix ix_list (pv 6) pe_int (fun _ _ => rfl)) (pe_lst (pa_cons (pe_tup (pa_cons (pe_op op_add_str (pe_slice sl_str (pv 5) (po_some pe_int) po_none) pe_str) pa_nil)) (pa_cons (pe_tup (pa_cons (pe_op op_add_str (pe_slice sl_str (pv 5) (po_some pe_int) po_none) pe_str) pa_nil)) pa_nil)))) (pg_sub (pv 6) pe_int set_list))
      (pss_cons (ps_set (i := 7) scLaw.nd rfl (Or.inr rfl) (pe_lc (own := [("_law_part", 10)]) (g := gName 10) (tt := tTest (tOp rEq (tCall (spTaken K) [] E0 (tCons (tVar 1) (tCons (tC (.int 3)) tNil))) (tC (.int 0)))) rfl scLaw.nd (pi_range1 (by rfl) B.range (pa_cons pe_int pa_nil)) (blkOk_by (N := nLaw) (sc := defScope sLaw) (by decide +kernel))
            (fun _ _ _ _ _ => pg_name (i := 10) scLaw.nd rfl (Or.inl rfl)) (fun _ _ _ _ _ => pts_one (pt_cmpR op_eq (pe_has A.GT hr (by decide) pass0 (pa_cons (pv 1) (pa_cons pe_int pa_nil))) pe_int (nomark _))) (fun _ _ _ _ _ => pv 10)))
      (pss_cons (ps_set (i := 9) scLaw.nd rfl (Or.inr rfl) (pe_lc (own := [("_law_k", 11)]) (g := gName 11) (tt := tYes) rfl scLaw.nd (pi_range1 (by rfl) B.range (pa_cons pe_int pa_nil)) (blkOk_by (N := nLaw) (sc := defScope sLaw) (by decide +kernel))
            (fun _ _ _ _ _ => pg_name (i := 11) scLaw.nd rfl (Or.inl rfl)) (fun _ _ _ _ _ => pts_nil)
            (fun _ _ _ _ _ => by exact (pe_ifExp (pt_cmpR (inS (K := K) (by rfl)) (pv 11) (pv 7) (by rfl)) (pe_has A.GP hr (by decide) pass0 (pa_cons (pv 1) (pa_cons (pe_ix (ixL (K := K) (by rfl)) (pv 6) (pv 11) (fun _ _ => rfl)) pa_nil))) (pe_ix (ixT (K := K) (by rfl)) (pv 2) (pv 11) (fun _ _ => rfl))))))
      (pss_cons (ps_set (i := 8) scLaw.nd rfl (Or.inl rfl) (pe_ifExp (pt_cmpR (op_neD hr.units) (pv 7) (pe_lst pa_nil) (nomark _)) (pe_tup (pa_cons pe_str (pa_cons (pe_ix ix_list (pe_lst (pa_cons pe_str (pa_cons pe_str (pa_cons pe_str pa_nil)))) (pe_ix ix_list (pv 7) pe_int (fun _ _ => rfl)) (fun _ _ => rfl)) pa_nil))) pe_non))
      (pss_cons (ps_if (pt_cmpR (op_neD hr.units) (by exact (LamX.pe_lamcall (k := 12) (T := [(tb, _)]) (TT := TTr CP) (t := fun E => tMkP C CP E (tCons (tOp (rIxL K) (tVar 9) (tC (.int 0))) (tCons (tOp (rIxL K) (tVar 9) (tC (.int 1))) (tCons (tOp (rIxL K) (tVar 9) (tC (.int 2))) tNil)))) (by rfl) gR FR.kp lkR cdR bR scRaised rfl (Or.inl rfl) (raised_gives A.er B _) TB rfl (List.Mem.head _) (fun p hp _ => congrArg (·.2) (List.mem_singleton.mp hp)) (hr.mono (by decide)) (LamX.lamS_by (sc := defScope sLaw) (by decide +kernel)) rfl (fun _ _ _ _ _ => rfl)
          (fun A2 outer2 s2 H2 E2 f2 c2 hr2 => pe_mkP A.MP hr2 (by decide) (passes_call (takes_of rfl rfl rfl rfl) (fun _ _ _ _ h => h)) A.T.g (pa_cons (pe_ix (ixL (K := K) (by rfl)) (pv 9) pe_int (fun _ _ => rfl)) (pa_cons (pe_ix (ixL (K := K) (by rfl)) (pv 9) pe_int (fun _ _ => rfl)) (pa_cons (pe_ix (ixL (K := K) (by rfl)) (pv 9) pe_int (fun _ _ => rfl)) pa_nil)))))) (pv 8) (nomark _)) (pss_one (ps_ret pe_bl)) pss_nil)
      (pss_one (ps_ret (pe_or (pe_cmpR op_gt (pe_callB call_len_seq (by rfl) B.len PySem.boot_len (pa_cons (pe_ix ix_tup (pv 2) pe_int (fun _ _ => rfl)) pa_nil)) pe_int (nomark _))
        (pe_one (pe_cmpR (op_eqq A.eq hr (by decide)) (pv 3) (pe_mkP A.MP hr (by decide) passL A.T.g (pa_cons (pe_ix ix_tup (pv 2) pe_int (fun _ _ => rfl)) (pa_cons (pe_ix ix_tup (pv 2) pe_int (fun _ _ => rfl)) (pa_cons (pe_op op_catT (pe_ix ix_tup (pv 2) pe_int (fun _ _ => rfl)) (pe_tup (pa_cons (pv 5) pa_nil))) pa_nil)))) (nomark _))))))))))))))))), ?_⟩
    -- the reader
    refine ⟨.ref a, rfl, by show 4 ≤ sizeLine; decide, fun r nr => ?_⟩
    have ntr : tb ≠ r := ne_of_none htb nr
    have a1 : RowAt K (upd H r (.lst [.ref a, .int 0, .int 0, .int 0])) r a ns := ⟨⟨0, 0, 0, upd_same, by decide, by decide, by decide, by decide⟩, by
      rcases hS with hS | hS
      · have n : a ≠ r := fun z => by
          rcases hS with hS | ⟨o, hS⟩
          · rw [z, nr] at hS
            cases hS
          · rw [z, nr] at hS
            cases hS
        exact .inl ⟨n, hS.elim (fun x => .inl (by rw [upd_ne n]; exact x)) fun ⟨o, x⟩ => .inr ⟨o, by rw [upd_ne n]; exact x⟩⟩
      · exact .inr hS, hlen⟩
    have tb1 : (upd H r (.lst [.ref a, .int 0, .int 0, .int 0])) tb = some (.tbl #[]) := by rw [upd_ne ntr]; exact htb
    generalize upd H r (.lst [.ref a, .int 0, .int 0, .int 0]) = H1 at a1 tb1
    -- the packet's parts
    refine ⟨.ref r, rfl, r, a, ns, 9, 4, rfl, a1, by decide, by decide, by decide, by decide, fun p t w h l H2 a2 b2 np nt hp ht w1 w4 h1 h4 wh l1 l4 hz => ?_⟩
    have l4 : l.length ≤ 4 := by omega
    have tb2 := b2 _ _ ntr tb1
    have wn := wrong_none w1 w4 h1 h4 wh l1 l4 hz
    have g2 : Given H2 t l := given_of ht (by omega) l4 hz
    have sc2 : Sch H2 p t w h l := ⟨hp, g2⟩
    have wh0 : 1 ≤ w * h := by
      have := Int.mul_le_mul w1 h1 (by decide) (by omega)
      omega
    -- the first packet
    refine ⟨.ref p, rfl, p, t, w, h, l, rfl, sc2, wn, fun x dx H3 s3 nx pk3 => ⟨.ref p, rfl, p, _, 0, .int w, rfl, rfl, SqT.of (s3 _ _ hp), atI_nat (j := 0) rfl, .ref p, rfl, p, _, 1, .int h, rfl, rfl, SqT.of (s3 _ _ hp), atI_nat (j := 1) rfl, w, h, rfl, rfl, .inl ⟨by omega, by omega⟩, _, _, rfl, ?_⟩⟩
    -- what it tells
    refine ⟨.ref x, rfl, x, dx, _, rfl, pk3.at_, x, dx, w, h, t, l, rfl, pk3, ?_⟩
    refine ⟨.ref x, rfl, x, dx, _, rfl, pk3.at_, x, dx, w, h, t, l, rfl, pk3, ?_⟩
    refine ⟨.ref x, rfl, x, dx, _, rfl, pk3.at_, x, dx, w, h, t, l, rfl, pk3, ?_⟩
    refine ⟨.ref x, rfl, x, dx, _, rfl, pk3.at_, x, dx, w, h, t, l, rfl, pk3, by omega, by omega, ?_⟩
    refine ⟨.ref x, rfl, x, dx, _, rfl, pk3.at_, x, dx, w, h, t, l, rfl, pk3, _, rfl, by omega, by omega, by show 5 ≤ sizeLine; decide, fun q1 nq1 => ?_⟩
    have s4 : Same H3 (upd H3 q1 (.tup [.int w, .int h, .ref t, .int (w * h), .int (l.length : Int)])) := same_new nq1
    have e4 : (upd H3 q1 (.tup [.int w, .int h, .ref t, .int (w * h), .int (l.length : Int)])) q1 = some (.tup [.int w, .int h, .ref t, .int (w * h), .int (l.length : Int)]) := upd_same
    generalize upd H3 q1 (.tup [.int w, .int h, .ref t, .int (w * h), .int (l.length : Int)]) = H4 at s4 e4
    have sc4 : Sch H4 p t w h l := (sc2.same s3).same s4
    have em : (l.map V.str).length = l.length := List.length_map ..
    refine ⟨.ref p, rfl, .int (w * h), rfl, .ref p, rfl, p, _, 2, .ref t, rfl, rfl, SqT.of sc4.at_, atI_nat (j := 2) rfl, t, l.map V.str, rfl, .inr (SqT.of sc4.giv.at_), by show 2 ≤ sizeLine; decide, fun q2 nq2 => ?_⟩
    rw [em]
    have s5 : Same H4 (upd H4 q2 (.tup [.int (w * h), .int (l.length : Int)])) := same_new nq2
    refine ⟨p, q2, _, _, rfl, rfl, SqT.of (s5 _ _ sc4.at_), SqT.of upd_same, by simp, by show 5 ≤ sizeLine; decide, fun z => (by cases z), fun _ q3 nq3 => ?_⟩
    have s6 : Same H4 (upd (upd H4 q2 (.tup [.int (w * h), .int (l.length : Int)])) q3 (.tup ([.int w, .int h, .ref t] ++ [.int (w * h), .int (l.length : Int)]))) := s5.trans (same_new nq3)
    have e6 : (upd (upd H4 q2 (.tup [.int (w * h), .int (l.length : Int)])) q3 (.tup ([.int w, .int h, .ref t] ++ [.int (w * h), .int (l.length : Int)]))) q3 = some (.tup [.int w, .int h, .ref t, .int (w * h), .int (l.length : Int)]) := upd_same
    generalize upd (upd H4 q2 (.tup [.int (w * h), .int (l.length : Int)])) q3 (.tup ([.int w, .int h, .ref t] ++ [.int (w * h), .int (l.length : Int)])) = H6 at s6 e6
    have sh : SeqAt.shaped (.tuple [.int w, .int h, .tuple (l.map PyData.str), .int (w * h), .int (l.length : Int)]) = true := by
      have k := lay_texts l g2.okc
      simp [SeqAt.shaped, PyData.canLay0, PyData.canLayAll0, PyData.depth, PyData.depthAll, k.1, k.2]
    have dp6 : ∀ q, H6 q = some (.tup [.int w, .int h, .ref t, .int (w * h), .int (l.length : Int)]) → Dp K H6 (.ref q) (.tuple [.int w, .int h, .tuple (l.map PyData.str), .int (w * h), .int (l.length : Int)]) := fun q e =>
      .tup (SqT.of e) (.cons (.int _) (.cons (.int _) (.cons (.tup (SqT.of (s6 _ _ sc4.giv.at_)) (dp_texts l)) (.cons (.int _) (.cons (.int _) .nil)))))
    refine ⟨_, _, dp6 q1 (s6 _ _ e4), dp6 q3 e6, sh, sh, _, rfl, ?_⟩
    rw [SeqAt.eqv_refl _ (SeqAt.canLay_of_shaped sh)]
    refine iteF ?_
    -- a second packet of the same parts is the same
    have pk6 : Pk H6 C x dx w h t l := ⟨(s4.trans s6) _ _ pk3.at_, (pk3.giv.same s4).same s6⟩
    have sc6 : Sch H6 p t w h l := sc4.same s6
    refine ⟨.ref x, rfl, .ref p, rfl, p, t, w, h, l, rfl, sc6, wn, fun x2 dx2 H7 s7 nx2 pk7 => ?_⟩
    refine ⟨x, x2, dx, _, dx2, _, rfl, rfl, s7 _ _ pk6.at_, pk7.at_, x, dx, w, h, t, l, x2, dx2, w, h, t, l, rfl, ⟨s7 _ _ pk6.at_, pk6.giv.same s7⟩, pk7, ?_⟩
    refine ⟨_, rfl, _, rfl, ?_⟩
    have et : (decide (w = w) && (decide (h = h) && decide (l = l))) = true := by simp
    rw [et]
    refine iteF ?_
    have sc7 : Sch H7 p t w h l := sc6.same s7
    have pk7 : Pk H7 C x dx w h t l := ⟨s7 _ _ pk6.at_, pk6.giv.same s7⟩
    have a7 : RowAt K H7 r a ns := (((a2.same s3).same s4).same s6).same s7
    have tb7 : H7 tb = some (.tbl #[]) := s7 _ _ (s6 _ _ (s4 _ _ (s3 _ _ tb2)))
    have nx7 : x ≠ r := fun z => by
      rw [z] at nx
      obtain ⟨_, _, _, e, _⟩ := a2.ex
      rw [nx] at e
      cases e
    clear dp6 e6 s6 e4 s4 s5 pk6 sc6 sc4 s3 pk3 s7 nq1 nq2 nq3 nx2 nx a1 tb1 a2 b2 hp ht
    -- the text
    obtain ⟨z, l', rfl⟩ : ∃ z l', l = z :: l' := by
      cases l with
      | nil => exact absurd l1 (by simp)
      | cons z l' => exact ⟨z, l', rfl⟩
    have zA : Abc (w * h) z := hz z List.mem_cons_self
    have zs := zA.small (by omega)
    have z1 : 1 ≤ z.length := by
      have := zA.1
      omega
    refine ⟨.ref p, rfl, p, _, 2, .ref t, rfl, rfl, SqT.of sc7.at_, atI_nat (j := 2) rfl, t, _, 0, .str z, rfl, rfl, SqT.of sc7.giv.at_, atI_nat (j := 0) rfl, ?_⟩
    -- the odd parts
    refine ⟨by show 3 ≤ sizeLine; decide, fun o1 no1 => ?_⟩
    have s8 : Same H7 (upd H7 o1 (.lst [.int 0, .int 5, .bl true])) := same_new no1
    have e1 : (upd H7 o1 (.lst [.int 0, .int 5, .bl true])) o1 = some (.lst [.int 0, .int 5, .bl true]) := upd_same
    generalize upd H7 o1 (.lst [.int 0, .int 5, .bl true]) = H8 at s8 e1
    refine ⟨.ref p, rfl, p, _, 0, .int w, rfl, rfl, SqT.of (s8 _ _ sc7.at_), atI_nat (j := 0) rfl, 9, w, rfl, rfl, ⟨by omega, by omega⟩, _, 1, rfl, rfl, by show 4 ≤ sizeLine; decide, fun o2 no2 => ?_⟩
    have s9 : Same H8 (upd H8 o2 (.lst [.int 0, .int 5, .int (9 / w + 1), .bl true])) := same_new no2
    have e2 : (upd H8 o2 (.lst [.int 0, .int 5, .int (9 / w + 1), .bl true])) o2 = some (.lst [.int 0, .int 5, .int (9 / w + 1), .bl true]) := upd_same
    generalize upd H8 o2 (.lst [.int 0, .int 5, .int (9 / w + 1), .bl true]) = H9 at s9 e2
    refine ⟨by show 0 ≤ sizeLine; decide, fun u1 nu1 => ?_⟩
    have s10 : Same H9 (upd H9 u1 (.tup [])) := same_new nu1
    have f1 : (upd H9 u1 (.tup [])) u1 = some (.tup (([] : List Str).map V.str)) := upd_same
    generalize upd H9 u1 (.tup []) = H10 at s10 f1
    refine ⟨.str z, rfl, by show 1 ≤ sizeLine; decide, fun u2 nu2 => ⟨u2, 5, _, rfl, rfl, SqT.of upd_same, by simp, by decide, by decide, by show 1 ≤ 1000; decide, fun u3 nu3 => ?_⟩⟩
    have s11 : Same H10 (upd (upd H10 u2 (.tup [.str z])) u3 (.tup (List.replicate (5 : Int).toNat [V.str z]).flatten)) := (same_new nu2).trans (same_new nu3)
    have f3 : (upd (upd H10 u2 (.tup [.str z])) u3 (.tup (List.replicate (5 : Int).toNat [V.str z]).flatten)) u3 = some (.tup (([z, z, z, z, z] : List Str).map V.str)) := upd_same
    generalize upd (upd H10 u2 (.tup [.str z])) u3 (.tup (List.replicate (5 : Int).toNat [V.str z]).flatten) = H11 at s11 f3
    have zl : z.length ≤ sizeLine := Nat.le_trans zs (by decide)
    have zt : (cutS z (some 1) none).length ≤ 16 := Nat.le_trans (cutS_length _ _ _) zs
    refine ⟨.str z, rfl, .str z, rfl, z, "a", rfl, rfl, Nat.le_trans (Nat.add_le_add_right zs _) (by decide +kernel), by show 2 ≤ sizeLine; decide, fun u4 nu4 => ?_⟩
    have s12 : Same H11 (upd H11 u4 (.tup [.str z, .str (z ++ Str.ofString "a")])) := same_new nu4
    have f4 : (upd H11 u4 (.tup [.str z, .str (z ++ Str.ofString "a")])) u4 = some (.tup (([z, z ++ Str.ofString "a"] : List Str).map V.str)) := upd_same
    generalize upd H11 u4 (.tup [.str z, .str (z ++ Str.ofString "a")]) = H12 at s12 f4
    refine ⟨.str z, rfl, 1, rfl, z, rfl, zl, by show 1 ≤ sizeLine; decide, fun u5 nu5 => ?_⟩
    have s13 : Same H12 (upd H12 u5 (.tup [.str (cutS z (some 1) none)])) := same_new nu5
    have f5 : (upd H12 u5 (.tup [.str (cutS z (some 1) none)])) u5 = some (.tup (([cutS z (some 1) none] : List Str).map V.str)) := upd_same
    generalize upd H12 u5 (.tup [.str (cutS z (some 1) none)]) = H13 at s13 f5
    refine ⟨by show 4 ≤ sizeLine; decide, fun o3 no3 => ?_⟩
    have s14 : Same H13 (upd H13 o3 (.lst [.ref u1, .ref u3, .ref u4, .ref u5])) := same_new no3
    have e3 : (upd H13 o3 (.lst [.ref u1, .ref u3, .ref u4, .ref u5])) o3 = some (.lst [.ref u1, .ref u3, .ref u4, .ref u5]) := upd_same
    generalize upd H13 o3 (.lst [.ref u1, .ref u3, .ref u4, .ref u5]) = H14 at s14 e3
    refine ⟨by show 3 ≤ sizeLine; decide, fun od nod => ?_⟩
    have s15 : Same H14 (upd H14 od (.lst [.ref o1, .ref o2, .ref o3])) := same_new nod
    have ed : (upd H14 od (.lst [.ref o1, .ref o2, .ref o3])) od = some (.lst [.ref o1, .ref o2, .ref o3]) := upd_same
    generalize upd H14 od (.lst [.ref o1, .ref o2, .ref o3]) = H15 at s15 ed
    -- two more
    refine ⟨.ref od, rfl, od, _, 2, .ref o3, rfl, rfl, SqL.of ed, atI_nat (j := 2) rfl, .str z, rfl, 1, rfl, z, rfl, zl, _, "A", rfl, rfl, Nat.le_trans (Nat.add_le_add_right zt _) (by decide +kernel), by show 1 ≤ sizeLine; decide, fun u6 nu6 => ?_⟩
    have s16 : Same H15 (upd H15 u6 (.tup [.str (cutS z (some 1) none ++ Str.ofString "A")])) := same_new nu6
    have f6 : (upd H15 u6 (.tup [.str (cutS z (some 1) none ++ Str.ofString "A")])) u6 = some (.tup (([cutS z (some 1) none ++ Str.ofString "A"] : List Str).map V.str)) := upd_same
    generalize upd H15 u6 (.tup [.str (cutS z (some 1) none ++ Str.ofString "A")]) = H16 at s16 f6
    refine ⟨.str z, rfl, 1, rfl, z, rfl, zl, _, "?", rfl, rfl, Nat.le_trans (Nat.add_le_add_right zt _) (by decide +kernel), by show 1 ≤ sizeLine; decide, fun u7 nu7 => ?_⟩
    have s17 : Same H16 (upd H16 u7 (.tup [.str (cutS z (some 1) none ++ Str.ofString "?")])) := same_new nu7
    have f7 : (upd H16 u7 (.tup [.str (cutS z (some 1) none ++ Str.ofString "?")])) u7 = some (.tup (([cutS z (some 1) none ++ Str.ofString "?"] : List Str).map V.str)) := upd_same
    generalize upd H16 u7 (.tup [.str (cutS z (some 1) none ++ Str.ofString "?")]) = H17 at s17 f7
    refine ⟨by show 2 ≤ sizeLine; decide, fun o4 no4 => ?_⟩
    have s18 : Same H17 (upd H17 o4 (.lst [.ref u6, .ref u7])) := same_new no4
    have e4 : (upd H17 o4 (.lst [.ref u6, .ref u7])) o4 = some (.lst [.ref u6, .ref u7]) := upd_same
    generalize upd H17 o4 (.lst [.ref u6, .ref u7]) = H18 at s18 e4
    refine ⟨o3, o4, _, _, rfl, rfl, s18 _ _ (s17 _ _ (s16 _ _ (s15 _ _ e3))), e4, by show 6 ≤ sizeLine; decide, fun o5 no5 => ?_⟩
    have s19 : Same H18 (upd H18 o5 (.lst ([.ref u1, .ref u3, .ref u4, .ref u5] ++ [.ref u6, .ref u7]))) := same_new no5
    have e5 : (upd H18 o5 (.lst ([.ref u1, .ref u3, .ref u4, .ref u5] ++ [.ref u6, .ref u7]))) o5 = some (.lst [.ref u1, .ref u3, .ref u4, .ref u5, .ref u6, .ref u7]) := upd_same
    generalize upd H18 o5 (.lst ([.ref u1, .ref u3, .ref u4, .ref u5] ++ [.ref u6, .ref u7])) = H19 at s19 e5
    have ed19 := s19 _ _ (s18 _ _ (s17 _ _ (s16 _ _ ed)))
    refine ⟨.ref od, rfl, od, _, 2, 2, rfl, rfl, ed19, rfl, ?_⟩
    have edN : (upd H19 od (.lst (([.ref o1, .ref o2, .ref o3] : List V).set 2 (.ref o5)))) od = some (.lst [.ref o1, .ref o2, .ref o5]) := upd_same
    have bN : ∀ b o, b ≠ od → H19 b = some o → (upd H19 od (.lst (([.ref o1, .ref o2, .ref o3] : List V).set 2 (.ref o5)))) b = some o := fun b o n e => by
      rw [upd_ne n]
      exact e
    generalize upd H19 od (.lst (([.ref o1, .ref o2, .ref o3] : List V).set 2 (.ref o5))) = H20 at edN bN
    have k14 : Same H7 H14 := s8.trans (s9.trans (s10.trans (s11.trans (s12.trans (s13.trans s14)))))
    have k19 : Same H14 H19 := s15.trans (s16.trans (s17.trans (s18.trans s19)))
    have old : ∀ b o, H14 b = some o → H20 b = some o := fun b o e => bN b o (ne_of_none e nod) (k19 _ _ e)
    have late : ∀ b o, H15 b = none → H19 b = some o → H20 b = some o := fun b o e e' => bN b o (fun y => by rw [y, ed] at e; cases e) e'
    have s20 : Same H7 H20 := fun b o e => old b o (k14 b o e)
    have r7 : ∃ o, H7 r = some o := by
      obtain ⟨_, _, _, e, _⟩ := a7.ex
      exact ⟨_, e⟩
    have nr : ∀ {H' : Hp} {b : Addr}, Same H7 H' → H' b = none → b ≠ r := fun {H' b} s e y => by
      obtain ⟨o, h7⟩ := r7
      rw [y, s _ _ h7] at e
      cases e
    have zT := zA.tame (by omega)
    have tl := tail_len z z1
    have lenA : (Str.ofString "A").length = 1 := by decide +kernel
    have lenQ : (Str.ofString "?").length = 1 := by decide +kernel
    have lena : (Str.ofString "a").length = 1 := by decide +kernel
    have cpA : (Str.ofString "A").cps.toList = [65] := by decide +kernel
    have cpQ : (Str.ofString "?").cps.toList = [63] := by decide +kernel
    have cpa : (Str.ofString "a").cps.toList = [97] := by decide +kernel
    have tA : Tame (Str.ofString "A") := ⟨by decide +kernel, fun c hc => by rw [cpA, List.mem_singleton] at hc; omega⟩
    have tQ : Tame (Str.ofString "?") := ⟨by decide +kernel, fun c hc => by rw [cpQ, List.mem_singleton] at hc; omega⟩
    have ta : Tame (Str.ofString "a") := ⟨by decide +kernel, fun c hc => by rw [cpa, List.mem_singleton] at hc; omega⟩
    have O : OddAt H20 r od w h := by
      have n9 : Same H7 H9 := s8.trans s9
      have n10 : Same H7 H10 := n9.trans s10
      have n11 : Same H7 H11 := n10.trans s11
      have n12 : Same H7 H12 := n11.trans s12
      have n13 : Same H7 H13 := n12.trans s13
      have n15 : Same H7 H15 := k14.trans s15
      have n16 : Same H7 H16 := n15.trans s16
      have n17 : Same H7 H17 := n16.trans s17
      have n18 : Same H7 H18 := n17.trans s18
      have nu3' : H10 u3 = none := (same_new (o := .tup [.str z]) nu2).free nu3
      refine ⟨o1, o2, o5, _, _, _, nr k14 nod, nr (Same.refl H7) no1, nr s8 no2, nr n18 no5, edN, old _ _ (s14 _ _ (s13 _ _ (s12 _ _ (s11 _ _ (s10 _ _ (s9 _ _ e1)))))), old _ _ (s14 _ _ (s13 _ _ (s12 _ _ (s11 _ _ (s10 _ _ e2))))),
        late _ _ ((s16.trans (s17.trans s18)).free no5) e5, ⟨by decide, by decide⟩, ⟨by show 1 ≤ 4; decide, by show 4 ≤ 10; decide⟩, ⟨by show 1 ≤ 6; decide, by show 6 ≤ 10; decide⟩, fun v hv => ?_, fun v hv => ?_, fun v hv => ?_⟩
      · simp only [List.mem_cons, List.not_mem_nil, or_false] at hv
        rcases hv with rfl | rfl | rfl
        · exact ⟨trivial, by decide⟩
        · exact ⟨trivial, by decide⟩
        · exact ⟨trivial, rfl⟩
      · simp only [List.mem_cons, List.not_mem_nil, or_false] at hv
        rcases hv with rfl | rfl | rfl | rfl
        · exact ⟨trivial, size_zero⟩
        · exact ⟨trivial, size_five⟩
        · exact ⟨trivial, size_over w1⟩
        · exact ⟨trivial, size_true⟩
      · simp only [List.mem_cons, List.not_mem_nil, or_false] at hv
        rcases hv with rfl | rfl | rfl | rfl | rfl | rfl
        · exact ⟨u1, [], rfl, nr n9 nu1, given_tame (old _ _ (s14 _ _ (s13 _ _ (s12 _ _ (s11 _ _ f1))))) (by decide) (fun y hy => by cases hy), rfl⟩
        · exact ⟨u3, [z, z, z, z, z], rfl, nr n10 nu3', given_tame (old _ _ (s14 _ _ (s13 _ _ (s12 _ _ f3)))) (by show 5 ≤ 10; decide) (fun y hy => by
            simp only [List.mem_cons, List.not_mem_nil, or_false, or_self] at hy
            rw [hy]
            exact zT), rfl⟩
        · refine ⟨u4, [z, z ++ Str.ofString "a"], rfl, nr n11 nu4, given_tame (old _ _ (s14 _ _ (s13 _ _ f4))) (by show 2 ≤ 10; decide) (fun y hy => ?_), sheets_no (z := z ++ Str.ofString "a") (by simp) (sheet_len ?_)⟩
          · simp only [List.mem_cons, List.not_mem_nil, or_false] at hy
            rcases hy with rfl | rfl
            · exact zT
            · exact zT.app (by omega) ta (by omega)
          · have := zA.1
            rw [app_len, lena]
            omega
        · refine ⟨u5, [cutS z (some 1) none], rfl, nr n12 nu5, given_tame (old _ _ (s14 _ _ f5)) (by show 1 ≤ 10; decide) (fun y hy => ?_), sheets_no (z := cutS z (some 1) none) (by simp) (sheet_len ?_)⟩
          · rw [List.mem_singleton.mp hy]
            exact zT.tail
          · have := zA.1
            omega
        · refine ⟨u6, [cutS z (some 1) none ++ Str.ofString "A"], rfl, nr n15 nu6, given_tame (late _ _ nu6 ((s17.trans (s18.trans s19)) _ _ f6)) (by show 1 ≤ 10; decide) (fun y hy => ?_), sheets_no (z := cutS z (some 1) none ++ Str.ofString "A") (by simp) (sheet_sign (c := 65) ?_ (by decide))⟩
          · rw [List.mem_singleton.mp hy]
            exact zT.tail.app (by omega) tA (by omega)
          · rw [app_cps, cpA]
            simp
        · refine ⟨u7, [cutS z (some 1) none ++ Str.ofString "?"], rfl, nr n16 nu7, given_tame (late _ _ (s16.free nu7) ((s18.trans s19) _ _ f7)) (by show 1 ≤ 10; decide) (fun y hy => ?_), sheets_no (z := cutS z (some 1) none ++ Str.ofString "?") (by simp) (sheet_sign (c := 63) ?_ (by decide))⟩
          · rw [List.mem_singleton.mp hy]
            exact zT.tail.app (by omega) tQ (by omega)
          · rw [app_cps, cpQ]
            simp
    have a20 : RowAt K H20 r a ns := a7.same s20
    have tb20 := s20 _ _ tb7
    have sc20 := sc7.same s20
    have pk20 : Pk H20 C x dx w h t (z :: l') := ⟨s20 _ _ pk7.at_, pk7.giv.same s20⟩
    clear s8 s9 s10 s11 s12 s13 s14 s15 s16 s17 s18 s19 e1 e2 e3 e4 e5 f1 f3 f4 f5 f6 f7 ed ed19 edN bN old late k14 k19 no1 no2 no3 no4 no5 nod nu1 nu2 nu3 nu4 nu5 nu6 nu7 lenA lenQ lena cpA cpQ cpa tA tQ ta tl nr r7 s20 a7 tb7 sc7 pk7 sc2 g2
    -- which are odd
    refine ⟨3, rfl, by decide, by decide, fun D hD => ?_⟩
    have nDr : D ≠ r := fun y => by
      obtain ⟨_, _, _, e, _⟩ := a20.ex
      rw [y, e] at hD
      cases hD
    refine lc_of (over_rng 3) (fun i acc H' => ∃ bs : List Bool, bs.length = i ∧ acc = wr bs ∧ RowAt K H' r a ns ∧ But r H20 H') (by rw [upto_len]; decide) ⟨[], rfl, rfl, a20.same (same_new hD), But.of (same_new hD)⟩ (fun _ _ _ _ => trivial) (fun i y acc H' Nx hy hP hD' kN kS => ?_) fun acc H21 _ hP hD21 => ?_
    · obtain ⟨bs, lbs, rfl, a', b'⟩ := hP
      obtain ⟨hi, rfl⟩ := upto_at hy
      refine ⟨rfl, .ref r, rfl, r, a, ns, 3, rfl, a', by decide, by decide, fun v H2 v0 v1 a2 b2 => ⟨rfl, _, rfl, ite2 (fun c => ?_) fun c => ?_⟩⟩
      · refine ⟨_, rfl, kN _ _ (b2 _ _ nDr hD') ⟨bs ++ [true], by rw [List.length_append, lbs]; rfl, by rw [wr_app, lbs]; rfl, a20.late hD nDr a2, (b'.trans b2).new hD⟩⟩
      · refine kS _ (b2 _ _ nDr hD') ⟨bs ++ [false], by rw [List.length_append, lbs]; rfl, by rw [wr_app, if_neg (by decide), List.append_nil], a2, b'.trans b2⟩
    obtain ⟨bs, lbs, rfl, a21, b21⟩ := hP
    rw [upto_len] at lbs
    match bs, lbs with
    | [b0, b1, b2], _ =>
    have O21 := O.but b21
    have nt7 : t ≠ r ∧ p ≠ r := ⟨nt, np⟩
    have tb21 := b21 _ _ ntr tb20
    have sc21 : Sch H21 p t w h (z :: l') := ⟨b21 _ _ np sc20.at_, sc20.giv.but nt b21⟩
    have pk21 : Pk H21 C x dx w h t (z :: l') := ⟨b21 _ _ nx7 pk20.at_, pk20.giv.but nt b21⟩
    clear O tb20 sc20 pk20
    -- the parts
    refine ⟨3, rfl, by decide, by decide, fun E3 hE => ?_⟩
    have nEr : E3 ≠ r := fun y => by
      obtain ⟨_, _, _, e, _⟩ := a21.ex
      rw [y, e] at hE
      cases hE
    refine lc_of (over_rng 3) (fun i acc H' => acc.length = i ∧ (∀ j v, acc[j]? = some v → PartOk H' r w h t b0 b1 b2 j v) ∧ RowAt K H' r a ns ∧ But r H21 H') (by rw [upto_len]; decide) ⟨rfl, (fun j v e => by simp at e), a21.same (same_new hE), But.of (same_new hE)⟩ (fun _ _ _ _ => trivial) (fun i y acc H' Nx hy hP hE' kN kS => ?_) fun acc H22 _ hP hE22 => ?_
    · obtain ⟨lacc, pacc, a', b'⟩ := hP
      obtain ⟨hi, rfl⟩ := upto_at hy
      have fin : ∀ v H3, RowAt K H3 r a ns → But r H' H3 → PartOk H3 r w h t b0 b1 b2 i v → ∃ acc, H3 E3 = some (.lst acc) ∧ acc.length < sizeLine ∧ Nx (upd H3 E3 (.lst (acc ++ [v]))) := fun v H3 a3 b3 pv => by
        refine kN _ _ (b3 _ _ nEr hE') ⟨by rw [List.length_append, lacc]; rfl, fun j u e => ?_, a21.late hE nEr a3, (b'.trans b3).new hE⟩
        rw [List.getElem?_append] at e
        by_cases hj : j < acc.length
        · rw [if_pos hj] at e
          exact ((pacc j u e).but b3).put (b3 _ _ nEr hE')
        · rw [if_neg hj] at e
          have ej : j - acc.length = 0 := by
            cases hx : j - acc.length with
            | zero => rfl
            | succ n => rw [hx] at e; simp at e
          have ej2 : j = i := by omega
          rw [ej] at e
          rw [ej2, ← Option.some.inj e]
          exact pv.put (b3 _ _ nEr hE')
      refine ⟨rfl, iteT (B := Nx H') ⟨.int ((i : Nat) : Int), rfl, .ref D, rfl, D, wr [b0, b1, b2], rfl, .inl (SqL.of (b' _ _ nDr hD21)), rfl, wr_flat _, _, rfl, ite2 (fun c => ?_) fun c => ?_⟩⟩
      · obtain ⟨items, oi, xs, e1, e2, n1, n2, e3, x1, x2, pv⟩ := (O21.but b').part (t := t) hi c
        refine ⟨.ref r, rfl, .ref od, rfl, .int ((i : Nat) : Int), rfl, od, items, ((i : Nat) : Int), .ref oi, rfl, rfl, SqL.of e1, atI_nat e2, r, a, ns, a', .inl ⟨oi, xs, rfl, n2, .inl (SqL.of e3), x1, by omega, fun j v H3 hv a3 b3 => ?_⟩⟩
        exact fin v H3 a3 b3 ((pv v (List.mem_of_getElem? hv)).but b3)
      · obtain ⟨v, e1, pv⟩ := sch_part (H := H') (r := r) (w := w) (h := h) (t := t) hi c
        exact ⟨.ref p, rfl, .int ((i : Nat) : Int), rfl, p, _, ((i : Nat) : Int), v, rfl, rfl, SqT.of (b' _ _ np sc21.at_), atI_nat e1, fin v H' a' (But.refl r H') pv⟩
    obtain ⟨lacc, pacc, a22, b22⟩ := hP
    rw [upto_len] at lacc
    match acc, lacc with
    | [v0, v1, v2], _ =>
    have q0 := pacc 0 v0 rfl
    have q1 := pacc 1 v1 rfl
    have q2 := pacc 2 v2 rfl
    have sc22 : Sch H22 p t w h (z :: l') := ⟨b22 _ _ np sc21.at_, sc21.giv.but nt b22⟩
    have pk22 : Pk H22 C x dx w h t (z :: l') := ⟨b22 _ _ nx7 pk21.at_, pk21.giv.but nt b22⟩
    have tb22 := b22 _ _ ntr tb21
    have hD22 := b22 _ _ nDr hD21
    obtain ⟨t', ls, rfl, g22, wf⟩ := wrong_first w1 w4 h1 h4 wh l1 l4 hz sc22.giv q0 q1 q2
    obtain ⟨nl0, _⟩ := q0
    obtain ⟨nl1, _⟩ := q1
    clear pacc hD21 hD hE O21 tb21 sc21 pk21 b21 b22 a21 a22 q2 a20
    -- what is due
    refine due_te (K := K) (D := D) (b0 := b0) (b1 := b1) (b2 := b2) (σ := _) (H := H22) rfl hD22 fun dv H23 s23 dok => ?_
    have sc23 := sc22.same s23
    have pk23 : Pk H23 C x dx w h t (z :: l') := ⟨s23 _ _ pk22.at_, pk22.giv.same s23⟩
    have tb23 := s23 _ _ tb22
    have hE23 := s23 _ _ hE22
    have g23 := g22.same s23
    clear sc22 pk22 tb22 hE22 g22 s23 hD22
    -- the lambda
    refine ⟨fun pr hpr => ?_, fun H24 eN _ => ?_⟩
    · rw [List.mem_singleton.mp hpr]
      exact LamX.TabS.nil tb23
    have eT : ∀ {b xs}, H23 b = some (.tup xs) → H24 b = some (.tup xs) := fun {b xs} e => eN _ _ e (fun ps y => by cases y)
    have eL : ∀ {b xs}, H23 b = some (.lst xs) → H24 b = some (.lst xs) := fun {b xs} e => eN _ _ e (fun ps y => by cases y)
    have sc24 : Sch H24 p t w h (z :: l') := ⟨eT sc23.at_, eT sc23.giv.at_, sc23.giv.small, sc23.giv.few, sc23.giv.okc⟩
    have pk24 : Pk H24 C x dx w h t (z :: l') := ⟨eN _ _ pk23.at_ (fun ps y => by cases y), sc24.giv⟩
    have hE24 := eL hE23
    have g24 : Given H24 t' ls := ⟨eT g23.at_, g23.small, g23.few, g23.okc⟩
    have d24 : DueOk H24 (firstN b0 b1 b2) dv := by
      cases hf : firstN b0 b1 b2 with
      | none =>
        rw [hf] at dok
        exact dok
      | some zz =>
        rw [hf] at dok
        obtain ⟨q, e, hq⟩ := dok
        exact ⟨q, e, eT hq⟩
    clear sc23 pk23 tb23 hE23 g23 dok eT eL eN
    -- the end
    have q0 := q
    clear q
    refine ⟨.ref E3, rfl, E3, _, 0, v0, rfl, rfl, SqL.of hE24, atI_nat (j := 0) rfl, .ref E3, rfl, E3, _, 1, v1, rfl, rfl, SqL.of hE24, atI_nat (j := 1) rfl, .ref E3, rfl, E3, _, 2, .ref t', rfl, rfl, SqL.of hE24, atI_nat (j := 2) rfl, fun xx dd n1 n2 ne => ?_⟩
    have s25 : Same H24 (upd (upd H24 dd (.own xx)) xx (.ins C dd [])) := fun b o e => by
      rw [upd_ne (ne_of_none e n1), upd_ne (ne_of_none e n2)]
      exact e
    refine ⟨xx, dd, v0, v1, t', ls, rfl, upd_same, nl0, nl1, g24.same s25, fun e H' kp hx => ⟨rfl, ?_⟩, fun ze e d H' s' hd hd' => ⟨rfl, d, ze, rfl, hd', fun p3 H'' s'' e'' => ?_⟩⟩
    · have sN : Same H24 H' := fun b o eb => kp b o (ne_of_none eb n1) (s25 b o eb)
      rw [wf] at e
      rw [e] at d24
      have d24 : dv = .non := d24
      subst d24
      refine ⟨.non, rfl, .none, .none, .non, .non, rfl, rfl, _, rfl, iteF ?_⟩
      have scN := sc24.same sN
      have pkN : Pk H' C x dx w h t (z :: l') := ⟨sN _ _ pk24.at_, pk24.giv.same sN⟩
      refine ⟨.ref p, rfl, p, _, 2, .ref t, rfl, rfl, SqT.of scN.at_, atI_nat (j := 2) rfl, t, _, rfl, .inr (SqT.of scN.giv.at_), _, 3, rfl, rfl, _, rfl, ite2 (fun _ => q0 _) fun c => ?_⟩
      have l3 : (z :: l').length ≤ 3 := by
        have := of_decide_eq_false (eq_false_of_ne_true c)
        rw [List.length_map] at this
        omega
      refine ⟨.ref x, rfl, .ref p, rfl, p, _, 0, .int w, rfl, rfl, SqT.of scN.at_, atI_nat (j := 0) rfl, .ref p, rfl, p, _, 1, .int h, rfl, rfl, SqT.of scN.at_, atI_nat (j := 1) rfl, .ref p, rfl, p, _, 2, .ref t, rfl, rfl, SqT.of scN.at_, atI_nat (j := 2) rfl, .str z, rfl, by show 1 ≤ sizeLine; decide, fun y1 ny1 => ?_⟩
      have sA : Same H' (upd H' y1 (.tup [.str z])) := same_new ny1
      refine ⟨t, y1, _, _, rfl, rfl, SqT.of (sA _ _ scN.giv.at_), SqT.of upd_same, by simp, Nat.le_trans (show ((z :: l').map V.str).length + 1 ≤ 4 by rw [List.length_map]; omega) (by decide), fun y => (by cases y), fun _ y2 ny2 => fun x2 dx2 m1 m2 m3 => ?_⟩
      have sB : Same H' (upd (upd H' y1 (.tup [.str z])) y2 (.tup ((z :: l').map V.str ++ [.str z]))) := sA.trans (same_new ny2)
      have eB : (upd (upd H' y1 (.tup [.str z])) y2 (.tup ((z :: l').map V.str ++ [.str z]))) y2 = some (.tup (((z :: l') ++ [z]).map V.str)) := by
        rw [upd_same, List.map_append]
        rfl
      generalize upd (upd H' y1 (.tup [.str z])) y2 (.tup ((z :: l').map V.str ++ [.str z])) = HB at sB eB m1 m2
      have sC : Same HB (upd (upd HB dx2 (.own x2)) x2 (.ins C dx2 [])) := fun b o e => by
        rw [upd_ne (ne_of_none e m1), upd_ne (ne_of_none e m2)]
        exact e
      have hz2 : ∀ y ∈ (z :: l') ++ [z], Abc (w * h) y := fun y hy => by
        rcases List.mem_append.mp hy with hy | hy
        · exact hz y hy
        · rw [List.mem_singleton.mp hy]
          exact zA
      have l42 : ((z :: l') ++ [z]).length ≤ 4 := by
        rw [List.length_append]
        show (z :: l').length + 1 ≤ 4
        omega
      have wn2 := wrong_none w1 w4 h1 h4 wh (l := (z :: l') ++ [z]) (by simp) l42 hz2
      have gB : Given HB y2 ((z :: l') ++ [z]) := given_of eB (by omega) l42 hz2
      refine ⟨x2, dx2, .int w, .int h, y2, (z :: l') ++ [z], rfl, upd_same, trivial, trivial, gB.same sC, fun _ H8 kp8 hx8 => ⟨rfl, ?_⟩, fun ze8 e8 => by rw [wn2] at e8; cases e8⟩
      have sD : Same H' H8 := fun b o e => kp8 b o (ne_of_none (sB _ _ e) m1) (sC _ _ (sB _ _ e))
      have sE : Same HB H8 := fun b o e => kp8 b o (ne_of_none e m1) (sC _ _ e)
      refine ⟨x, x2, dx, _, dx2, _, rfl, rfl, sD _ _ pkN.at_, hx8, x, dx, w, h, t, z :: l', x2, dx2, w, h, y2, (z :: l') ++ [z], rfl, ⟨sD _ _ pkN.at_, pkN.giv.same sD⟩, ⟨hx8, gB.same sE⟩, _, rfl, ?_⟩
      have ef : (!(decide (w = w) && (decide (h = h) && decide (z :: l' = (z :: l') ++ [z])))) = true := by
        have nf : ¬ (z :: l' = (z :: l') ++ [z]) := fun y => by
          have := congrArg List.length y
          rw [List.length_append] at this
          simp at this
        rw [decide_eq_false nf]
        simp
      rw [ef]
      exact q0 _
    · have sN : Same H24 H'' := (s25.trans s').trans s''
      rw [wf] at e
      rw [e] at d24
      obtain ⟨q, eq, hq⟩ := d24
      subst eq
      have sh2 : SeqAt.shaped (.tuple [.str (Str.ofString "packet"), .str ze]) = true := shaped_texts [Str.ofString "packet", ze] (fun y hy => first_ok e y hy)
      refine ⟨.ref q, rfl, .tuple [.str "packet", .str ze], .tuple [.str "packet", .str ze], .tup (SqT.of e'') (.cons (.str _) (.cons (.str _) .nil)), .tup (SqT.of (sN _ _ hq)) (.cons (.str _) (.cons (.str _) .nil)), sh2, sh2, _, rfl, ?_⟩
      rw [SeqAt.eqv_refl _ (SeqAt.canLay_of_shaped sh2)]
      refine iteF ?_
      have scN := sc24.same sN
      have pkN : Pk H'' C x dx w h t (z :: l') := ⟨sN _ _ pk24.at_, pk24.giv.same sN⟩
      refine ⟨.ref p, rfl, p, _, 2, .ref t, rfl, rfl, SqT.of scN.at_, atI_nat (j := 2) rfl, t, _, rfl, .inr (SqT.of scN.giv.at_), _, 3, rfl, rfl, _, rfl, ite2 (fun _ => q0 _) fun c => ?_⟩
      have l3 : (z :: l').length ≤ 3 := by
        have := of_decide_eq_false (eq_false_of_ne_true c)
        rw [List.length_map] at this
        omega
      refine ⟨.ref x, rfl, .ref p, rfl, p, _, 0, .int w, rfl, rfl, SqT.of scN.at_, atI_nat (j := 0) rfl, .ref p, rfl, p, _, 1, .int h, rfl, rfl, SqT.of scN.at_, atI_nat (j := 1) rfl, .ref p, rfl, p, _, 2, .ref t, rfl, rfl, SqT.of scN.at_, atI_nat (j := 2) rfl, .str z, rfl, by show 1 ≤ sizeLine; decide, fun y1 ny1 => ?_⟩
      have sA : Same H'' (upd H'' y1 (.tup [.str z])) := same_new ny1
      refine ⟨t, y1, _, _, rfl, rfl, SqT.of (sA _ _ scN.giv.at_), SqT.of upd_same, by simp, Nat.le_trans (show ((z :: l').map V.str).length + 1 ≤ 4 by rw [List.length_map]; omega) (by decide), fun y => (by cases y), fun _ y2 ny2 => fun x2 dx2 m1 m2 m3 => ?_⟩
      have sB : Same H'' (upd (upd H'' y1 (.tup [.str z])) y2 (.tup ((z :: l').map V.str ++ [.str z]))) := sA.trans (same_new ny2)
      have eB : (upd (upd H'' y1 (.tup [.str z])) y2 (.tup ((z :: l').map V.str ++ [.str z]))) y2 = some (.tup (((z :: l') ++ [z]).map V.str)) := by
        rw [upd_same, List.map_append]
        rfl
      generalize upd (upd H'' y1 (.tup [.str z])) y2 (.tup ((z :: l').map V.str ++ [.str z])) = HB at sB eB m1 m2
      have sC : Same HB (upd (upd HB dx2 (.own x2)) x2 (.ins C dx2 [])) := fun b o e => by
        rw [upd_ne (ne_of_none e m1), upd_ne (ne_of_none e m2)]
        exact e
      have hz2 : ∀ y ∈ (z :: l') ++ [z], Abc (w * h) y := fun y hy => by
        rcases List.mem_append.mp hy with hy | hy
        · exact hz y hy
        · rw [List.mem_singleton.mp hy]
          exact zA
      have l42 : ((z :: l') ++ [z]).length ≤ 4 := by
        rw [List.length_append]
        show (z :: l').length + 1 ≤ 4
        omega
      have wn2 := wrong_none w1 w4 h1 h4 wh (l := (z :: l') ++ [z]) (by simp) l42 hz2
      have gB : Given HB y2 ((z :: l') ++ [z]) := given_of eB (by omega) l42 hz2
      refine ⟨x2, dx2, .int w, .int h, y2, (z :: l') ++ [z], rfl, upd_same, trivial, trivial, gB.same sC, fun _ H8 kp8 hx8 => ⟨rfl, ?_⟩, fun ze8 e8 => by rw [wn2] at e8; cases e8⟩
      have sD : Same H'' H8 := fun b o e => kp8 b o (ne_of_none (sB _ _ e) m1) (sC _ _ (sB _ _ e))
      have sE : Same HB H8 := fun b o e => kp8 b o (ne_of_none e m1) (sC _ _ e)
      refine ⟨x, x2, dx, _, dx2, _, rfl, rfl, sD _ _ pkN.at_, hx8, x, dx, w, h, t, z :: l', x2, dx2, w, h, y2, (z :: l') ++ [z], rfl, ⟨sD _ _ pkN.at_, pkN.giv.same sD⟩, ⟨hx8, gB.same sE⟩, _, rfl, ?_⟩
      have ef : (!(decide (w = w) && (decide (h = h) && decide (z :: l' = (z :: l') ++ [z])))) = true := by
        have nf : ¬ (z :: l' = (z :: l') ++ [z]) := fun y => by
          have := congrArg List.length y
          rw [List.length_append] at this
          simp at this
        rw [decide_eq_false nf]
        simp
      rw [ef]
      exact q0 _
end
end Kn

namespace Kn
open PySem PySem.Spec L2 Kw
abbrev sErrI : Stmt := inClass (topS 12) 0
theorem own_tab {K : PySem.W.Frag} {fa c tb : Addr} {h : Heap} {oc : Value} {od : Option Addr} {fd : FuncData} {sl : Array (Option Value)} (own : LamX.OwnTab K fa h) (lk : K.lookup fa = some ⟨oc, od, .func fd, sl⟩) (hc : fd.code = .ref c) (hd : PySem.W.codeHdIn K c tb = true) :
    h.get? tb = some { cls := .none, data := .fields #[] } := by
  unfold PySem.W.codeHdIn at hd
  split at hd
  · rename_i vs _ hk
    simp only [Bool.and_eq_true] at hd
    obtain ⟨⟨⟨⟨⟨e1, _⟩, _⟩, _⟩, _⟩, _⟩ := hd
    split at e1
    · rename_i P' h11
      have hP : P' = tb := beq_iff_eq.mp e1
      subst hP
      exact own c P' _ fd _ _ vs _ lk rfl hc hk h11
    · cases e1
  · cases hd

theorem all_mk {l : PySem.W.OpenLaw} {w : World} {K : PySem.W.Frag} {h : Heap} {mg : Str → Option Value} {fa : Addr} (X : K.In h) (G : h.Ns mainGlobals mg) (hfa : mg "law" = some (.ref fa)) (own : LamX.OwnTab K fa h)
    {C CP SE f1 f2 f12 f3 f4 f5 f6 f7 f8 f9 f10 f11 cdL fL f21 f22 f23 p31 f31 p32 f32 p33 f33 p34 f34 fI cdI ceI D1 D2 D3 D4 D5 D6 D7 D8 D9 D10 : Addr}
    {od1 an1 od2 an2 od12 an12 od3 an3 od4 an4 od5 an5 od6 an6 od7 an7 od8 an8 od9 an9 od10 an10 od11 an11 odL anL od21 an21 od22 an22 od23 an23 od31 an31 od32 an32 od33 an33 od34 an34 odI anI dd cddI cldI : Option Addr} {sl1 sl2 sl12 sl3 sl4 sl5 sl6 sl7 sl8 sl9 sl10 sl11 slL sl21 sl22 sl23 sl31 sl32 sl33 sl34 slI ccsI cslI : Array (Option Value)}
    {oc1 kV1 dc1 pm1 ct1 cd1 oc2 kV2 dc2 pm2 ct2 cd2 oc12 kV12 dc12 pm12 ct12 cd12 oc3 kV3 dc3 pm3 ct3 cd3 oc4 kV4 dc4 pm4 ct4 cd4 oc5 kV5 dc5 pm5 ct5 cd5 oc6 kV6 dc6 pm6 ct6 cd6 oc7 kV7 dc7 pm7 ct7 cd7 oc8 kV8 dc8 pm8 ct8 cd8 oc9 kV9 dc9 pm9 ct9 cd9 oc10 kV10 dc10 pm10 ct10 cd10 oc11 kV11 dc11 pm11 ct11 cd11 ocL kVL dcL pmL ctL oc21 kV21 dc21 pm21 ct21 cd21 oc22 kV22 dc22 pm22 ct22 cd22 oc23 kV23 dc23 pm23 ct23 cd23 oc31 kV31 dc31 pm31 ct31 cd31 oc32 kV32 dc32 pm32 ct32 cd32 oc33 kV33 dc33 pm33 ct33 cd33 oc34 kV34 dc34 pm34 ct34 cd34 ocI kVI dcI pmI ctI ccI clI : Value} {rest31 rest32 rest33 rest34 : List Value}
    {nm q : Str} {N : Addr} {bs : List Value} {sn : List Str} {sub : List Value} {ab : Bool} {col : Option Bool} {m0 m1 m2 m3 m5 : Option Value} {vsI : Array Value} {fileI : Str} {tfI tk1 tk2 tk3 : Tok}
    (aC : PySem.W.nsIn K mainGlobals "Packet" = some (some (.ref C)))
    (aCP : PySem.W.nsIn K mainGlobals "InvalidPacket" = some (some (.ref CP)))
    (aSE : PySem.W.nsIn K mainGlobals "SheetError" = some (some (.ref SE)))
    (a1 : PySem.W.nsIn K mainGlobals "is_number" = some (some (.ref f1)))
    (l1 : K.lookup f1 = some ⟨oc1, od1, .func (PySem.W.fnOf "is_number" "is_number" (defArgs sNum) (defBody sNum) (defScope sNum) .none kV1 dc1 pm1 an1 cd1 ct1), sl1⟩)
    (c1 : PySem.W.codeIn K cd1 "is_number" = true)
    (k1 : PySem.W.keepIn K (.ref f1) = true)
    (a2 : PySem.W.nsIn K mainGlobals "is_side" = some (some (.ref f2)))
    (l2 : K.lookup f2 = some ⟨oc2, od2, .func (PySem.W.fnOf "is_side" "is_side" (defArgs sSide) (defBody sSide) (defScope sSide) .none kV2 dc2 pm2 an2 cd2 ct2), sl2⟩)
    (c2 : PySem.W.codeIn K cd2 "is_side" = true)
    (k2 : PySem.W.keepIn K (.ref f2) = true)
    (a12 : PySem.W.nsIn K mainGlobals "is_from_to" = some (some (.ref f12)))
    (l12 : K.lookup f12 = some ⟨oc12, od12, .func (PySem.W.fnOf "is_from_to" "is_from_to" (defArgs sFromTo) (defBody sFromTo) (defScope sFromTo) .none kV12 dc12 pm12 an12 cd12 ct12), sl12⟩)
    (c12 : PySem.W.codeIn K cd12 "is_from_to" = true)
    (k12 : PySem.W.keepIn K (.ref f12) = true)
    (a3 : PySem.W.nsIn K mainGlobals "is_size" = some (some (.ref f3)))
    (l3 : K.lookup f3 = some ⟨oc3, od3, .func (PySem.W.fnOf "is_size" "is_size" (defArgs sSize) (defBody sSize) (defScope sSize) .none kV3 dc3 pm3 an3 cd3 ct3), sl3⟩)
    (c3 : PySem.W.codeIn K cd3 "is_size" = true)
    (k3 : PySem.W.keepIn K (.ref f3) = true)
    (a4 : PySem.W.nsIn K mainGlobals "is_sheet" = some (some (.ref f4)))
    (l4 : K.lookup f4 = some ⟨oc4, od4, .func (PySem.W.fnOf "is_sheet" "is_sheet" (defArgs sSheet) (defBody sSheet) (defScope sSheet) .none kV4 dc4 pm4 an4 cd4 ct4), sl4⟩)
    (c4 : PySem.W.codeIn K cd4 "is_sheet" = true)
    (k4 : PySem.W.keepIn K (.ref f4) = true)
    (a5 : PySem.W.nsIn K mainGlobals "are_sheets" = some (some (.ref f5)))
    (l5 : K.lookup f5 = some ⟨oc5, od5, .func (PySem.W.fnOf "are_sheets" "are_sheets" (defArgs sSheets) (defBody sSheets) (defScope sSheets) .none kV5 dc5 pm5 an5 cd5 ct5), sl5⟩)
    (c5 : PySem.W.codeIn K cd5 "are_sheets" = true)
    (k5 : PySem.W.keepIn K (.ref f5) = true)
    (a6 : PySem.W.nsIn K mainGlobals "wrong_part" = some (some (.ref f6)))
    (l6 : K.lookup f6 = some ⟨oc6, od6, .func (PySem.W.fnOf "wrong_part" "wrong_part" (defArgs sWrong) (defBody sWrong) (defScope sWrong) .none kV6 dc6 pm6 an6 cd6 ct6), sl6⟩)
    (c6 : PySem.W.codeIn K cd6 "wrong_part" = true)
    (k6 : PySem.W.keepIn K (.ref f6) = true)
    (a7 : PySem.W.nsIn K mainGlobals "_law_taken" = some (some (.ref f7)))
    (l7 : K.lookup f7 = some ⟨oc7, od7, .func (PySem.W.fnOf "_law_taken" "_law_taken" (defArgs sTaken) (defBody sTaken) (defScope sTaken) .none kV7 dc7 pm7 an7 cd7 ct7), sl7⟩)
    (c7 : PySem.W.codeIn K cd7 "_law_taken" = true)
    (k7 : PySem.W.keepIn K (.ref f7) = true)
    (a8 : PySem.W.nsIn K mainGlobals "_law_pick" = some (some (.ref f8)))
    (l8 : K.lookup f8 = some ⟨oc8, od8, .func (PySem.W.fnOf "_law_pick" "_law_pick" (defArgs sPick) (defBody sPick) (defScope sPick) .none kV8 dc8 pm8 an8 cd8 ct8), sl8⟩)
    (c8 : PySem.W.codeIn K cd8 "_law_pick" = true)
    (k8 : PySem.W.keepIn K (.ref f8) = true)
    (a9 : PySem.W.nsIn K mainGlobals "_law_scheme" = some (some (.ref f9)))
    (l9 : K.lookup f9 = some ⟨oc9, od9, .func (PySem.W.fnOf "_law_scheme" "_law_scheme" (defArgs sScheme) (defBody sScheme) (defScope sScheme) .none kV9 dc9 pm9 an9 cd9 ct9), sl9⟩)
    (c9 : PySem.W.codeIn K cd9 "_law_scheme" = true)
    (k9 : PySem.W.keepIn K (.ref f9) = true)
    (a10 : PySem.W.nsIn K mainGlobals "_law_packet" = some (some (.ref f10)))
    (l10 : K.lookup f10 = some ⟨oc10, od10, .func (PySem.W.fnOf "_law_packet" "_law_packet" (defArgs sMkP) (defBody sMkP) (defScope sMkP) .none kV10 dc10 pm10 an10 cd10 ct10), sl10⟩)
    (c10 : PySem.W.codeIn K cd10 "_law_packet" = true)
    (k10 : PySem.W.keepIn K (.ref f10) = true)
    (a11 : PySem.W.nsIn K mainGlobals "_law_raised" = some (some (.ref f11)))
    (l11 : K.lookup f11 = some ⟨oc11, od11, .func (PySem.W.fnOf "_law_raised" "_law_raised" (defArgs sRaised) (defBody sRaised) (defScope sRaised) .none kV11 dc11 pm11 an11 cd11 ct11), sl11⟩)
    (c11 : PySem.W.codeIn K cd11 "_law_raised" = true)
    (k11 : PySem.W.keepIn K (.ref f11) = true)
    (aL : PySem.W.nsIn K mainGlobals "law" = some (some (.ref fL)))
    (lL : K.lookup fL = some ⟨ocL, odL, .func (PySem.W.fnOf "law" "law" (defArgs sLaw) (defBody sLaw) (defScope sLaw) .none kVL dcL pmL anL (.ref cdL) ctL), slL⟩)
    (cL : PySem.W.codeIn K (.ref cdL) "law" = true)
    (kL : PySem.W.keepIn K (.ref fL) = true)
    (hdn : ((List.range 5000).any fun t => PySem.W.codeHdIn K cdL t && (K.lookup t).isNone) = true)
    (a21 : PySem.W.findIn K (.ref C) "__init__" = some (some (.ref f21)))
    (i21 : PySem.W.isFn K (.ref f21) = true)
    (l21 : K.lookup f21 = some ⟨oc21, od21, .func (PySem.W.fnOf "__init__" "Packet.__init__" (defArgs sInit) (defBody sInit) (defScope sInit) .none kV21 dc21 pm21 an21 cd21 ct21), sl21⟩)
    (c21 : PySem.W.codeIn K cd21 "Packet.__init__" = true)
    (k21 : PySem.W.keepIn K (.ref f21) = true)
    (a22 : PySem.W.findIn K (.ref C) "__len__" = some (some (.ref f22)))
    (i22 : PySem.W.isFn K (.ref f22) = true)
    (l22 : K.lookup f22 = some ⟨oc22, od22, .func (PySem.W.fnOf "__len__" "Packet.__len__" (defArgs sLen) (defBody sLen) (defScope sLen) .none kV22 dc22 pm22 an22 cd22 ct22), sl22⟩)
    (c22 : PySem.W.codeIn K cd22 "Packet.__len__" = true)
    (k22 : PySem.W.keepIn K (.ref f22) = true)
    (a23 : PySem.W.findIn K (.ref C) "__eq__" = some (some (.ref f23)))
    (i23 : PySem.W.isFn K (.ref f23) = true)
    (l23 : K.lookup f23 = some ⟨oc23, od23, .func (PySem.W.fnOf "__eq__" "Packet.__eq__" (defArgs sEq) (defBody sEq) (defScope sEq) .none kV23 dc23 pm23 an23 cd23 ct23), sl23⟩)
    (c23 : PySem.W.codeIn K cd23 "Packet.__eq__" = true)
    (k23 : PySem.W.keepIn K (.ref f23) = true)
    (a31 : PySem.W.findIn K (.ref C) "width" = some (some (.ref p31)))
    (g31 : PySem.W.specialIn K (.ref p31) "__get__" = some (some (.builtin "property.__get__")))
    (t31 : PySem.W.takesIn K (.ref p31) = some true)
    (r31 : PySem.W.recIn K p31 "property" = some (.ref f31 :: rest31))
    (l31 : K.lookup f31 = some ⟨oc31, od31, .func (PySem.W.fnOf "width" "Packet.width" (defArgs sW) (defBody sW) (defScope sW) .none kV31 dc31 pm31 an31 cd31 ct31), sl31⟩)
    (c31 : PySem.W.codeIn K cd31 "Packet.width" = true)
    (k31 : PySem.W.keepIn K (.ref f31) = true)
    (a32 : PySem.W.findIn K (.ref C) "height" = some (some (.ref p32)))
    (g32 : PySem.W.specialIn K (.ref p32) "__get__" = some (some (.builtin "property.__get__")))
    (t32 : PySem.W.takesIn K (.ref p32) = some true)
    (r32 : PySem.W.recIn K p32 "property" = some (.ref f32 :: rest32))
    (l32 : K.lookup f32 = some ⟨oc32, od32, .func (PySem.W.fnOf "height" "Packet.height" (defArgs sH) (defBody sH) (defScope sH) .none kV32 dc32 pm32 an32 cd32 ct32), sl32⟩)
    (c32 : PySem.W.codeIn K cd32 "Packet.height" = true)
    (k32 : PySem.W.keepIn K (.ref f32) = true)
    (a33 : PySem.W.findIn K (.ref C) "sheets" = some (some (.ref p33)))
    (g33 : PySem.W.specialIn K (.ref p33) "__get__" = some (some (.builtin "property.__get__")))
    (t33 : PySem.W.takesIn K (.ref p33) = some true)
    (r33 : PySem.W.recIn K p33 "property" = some (.ref f33 :: rest33))
    (l33 : K.lookup f33 = some ⟨oc33, od33, .func (PySem.W.fnOf "sheets" "Packet.sheets" (defArgs sS) (defBody sS) (defScope sS) .none kV33 dc33 pm33 an33 cd33 ct33), sl33⟩)
    (c33 : PySem.W.codeIn K cd33 "Packet.sheets" = true)
    (k33 : PySem.W.keepIn K (.ref f33) = true)
    (a34 : PySem.W.findIn K (.ref C) "cells" = some (some (.ref p34)))
    (g34 : PySem.W.specialIn K (.ref p34) "__get__" = some (some (.builtin "property.__get__")))
    (t34 : PySem.W.takesIn K (.ref p34) = some true)
    (r34 : PySem.W.recIn K p34 "property" = some (.ref f34 :: rest34))
    (l34 : K.lookup f34 = some ⟨oc34, od34, .func (PySem.W.fnOf "cells" "Packet.cells" (defArgs sC) (defBody sC) (defScope sC) .none kV34 dc34 pm34 an34 cd34 ct34), sl34⟩)
    (c34 : PySem.W.codeIn K cd34 "Packet.cells" = true)
    (k34 : PySem.W.keepIn K (.ref f34) = true)
    (pgC : PySem.W.plainGet K C Str.empty = true)
    (hdC : PySem.W.hasDictIn K C = true)
    (poC : PySem.W.plainOver K C = true)
    (saC : PySem.W.findIn K (.ref C) "__setattr__" = some (some (.builtin "object.__setattr__")))
    (mkC : PySem.W.makesIn K C = true)
    (kcC : PySem.W.keepIn K (.ref C) = true)
    (nw : PySem.W.findIn K (.ref C) "_width" = some none)
    (nh : PySem.W.findIn K (.ref C) "_height" = some none)
    (ns : PySem.W.findIn K (.ref C) "_sheets" = some none)
    (cca : PySem.W.findIn K (.ref C) "__class__" = some (some (.builtin "object.__class__")))
    (ccg : PySem.W.specialIn K (.builtin "object.__class__") "__get__" = some (some (.builtin "getset_descriptor.__get__")))
    (cct : PySem.W.takesIn K (.builtin "object.__class__") = some true)
    (cmo : PySem.W.mroIn K C (.type "object") = some true)
    (cme : PySem.W.kitOne K (.ref C) (.ref C) = some true)
    (cne : PySem.W.findIn K (.ref C) "__ne__" = some (some (.builtin "object.__ne__")))
    (xP : K.lookup CP = some (excClassObj nm q CP N bs [.ref SE, .type "ValueError", .type "Exception", .type "BaseException", .type "object"] true sn sub ab col dd m0 m1 m2 m3 m5 "ValueError.__new__"))
    (psa : PySem.W.findIn K (.ref CP) "__setattr__" = some (some (.builtin "object.__setattr__")))
    (pga : PySem.W.findIn K (.ref CP) "__getattribute__" = some (some (.builtin "BaseException.__getattribute__")))
    (pgg : PySem.W.findIn K (.ref CP) "__getattr__" = some none)
    (pnp : PySem.W.findIn K (.ref CP) "part" = some none)
    (pni : PySem.W.findIn K (.ref CP) "index" = some none)
    (pin : PySem.W.findIn K (.ref CP) "__init__" = some (some (.ref fI)))
    (ptf : PySem.W.typeIn K (.ref fI) = some (.type "function"))
    (pkc : PySem.W.keepIn K (.ref CP) = true)
    (pex : PySem.W.subIn K (.ref CP) (.type "BaseException") = some true)
    (pve : PySem.W.subIn K (.ref CP) (.type "ValueError") = some true)
    (pty : PySem.W.typeIn K (.ref CP) = some (.type "type"))
    (phd : PySem.W.hasDictIn K CP = true)
    (pmr : PySem.W.mroIn K CP (.ref CP) = some true)
    (psu : PySem.W.ks_superIn K CP CP "__init__" = some (some (.builtin "ValueError.__init__")))
    (pop : PySem.W.nsIn K cStatics "thirdparty.any" = some none)
    (pgs : PySem.W.nsIn K mainGlobals "super" = some none)
    (pln : K.lookup fI = some ⟨ocI, odI, .func (PySem.W.ksFn "__init__" "InvalidPacket.__init__" (defArgs sErrI) (defBody sErrI) (defScope sErrI) .none kVI dcI pmI anI (.ref cdI) ctI ceI), slI⟩)
    (pcd : PySem.W.codeIn K (.ref cdI) "InvalidPacket.__init__" = true)
    (pco : K.lookup cdI = some ⟨ccI, cddI, .fields vsI, ccsI⟩)
    (pfi : vsI[2]? = some (.str fileI tfI))
    (pce : K.lookup ceI = some ⟨clI, cldI, .cell (some (.ref CP)), cslI⟩)
    (pca : PySem.W.findIn K (.ref CP) "__class__" = some (some (.builtin "object.__class__")))
    (pmo : PySem.W.mroIn K CP (.type "object") = some true)
    (pte : PySem.W.exmOne K (.ref CP) (.ref SE) = some true)
    (pk0 : PySem.W.kitOne K (.ref CP) (.ref CP) = some true)
    (pkv : PySem.W.kitOne K (.ref CP) (.type "ValueError") = some true)
    (zVE : PySem.W.nsIn K mainGlobals "ValueError" = some none)
    (e1 : PySem.W.nsIn K mainGlobals "InvalidOrders" = some (some (.ref D1)))
    (q1 : PySem.W.kitOne K (.ref CP) (.ref D1) = some false)
    (e2 : PySem.W.nsIn K mainGlobals "InvalidPictures" = some (some (.ref D2)))
    (q2 : PySem.W.kitOne K (.ref CP) (.ref D2) = some false)
    (e3 : PySem.W.nsIn K mainGlobals "InvalidSize" = some (some (.ref D3)))
    (q3 : PySem.W.kitOne K (.ref CP) (.ref D3) = some false)
    (e4 : PySem.W.nsIn K mainGlobals "InvalidPattern" = some (some (.ref D4)))
    (q4 : PySem.W.kitOne K (.ref CP) (.ref D4) = some false)
    (e5 : PySem.W.nsIn K mainGlobals "InvalidPicture" = some (some (.ref D5)))
    (q5 : PySem.W.kitOne K (.ref CP) (.ref D5) = some false)
    (e6 : PySem.W.nsIn K mainGlobals "InvalidGoals" = some (some (.ref D6)))
    (q6 : PySem.W.kitOne K (.ref CP) (.ref D6) = some false)
    (e7 : PySem.W.nsIn K mainGlobals "InvalidNumber" = some (some (.ref D7)))
    (q7 : PySem.W.kitOne K (.ref CP) (.ref D7) = some false)
    (e8 : PySem.W.nsIn K mainGlobals "TooMany" = some (some (.ref D8)))
    (q8 : PySem.W.kitOne K (.ref CP) (.ref D8) = some false)
    (e9 : PySem.W.nsIn K mainGlobals "InvalidPieces" = some (some (.ref D9)))
    (q9 : PySem.W.kitOne K (.ref CP) (.ref D9) = some false)
    (e10 : PySem.W.nsIn K mainGlobals "InvalidKinds" = some (some (.ref D10)))
    (q10 : PySem.W.kitOne K (.ref CP) (.ref D10) = some false)
    (z1 : PySem.W.nsIn K mainGlobals "isinstance" = some none)
    (z2 : PySem.W.nsIn K mainGlobals "int" = some none)
    (z3 : PySem.W.nsIn K mainGlobals "bool" = some none)
    (z4 : PySem.W.nsIn K mainGlobals "str" = some none)
    (z5 : PySem.W.nsIn K mainGlobals "tuple" = some none)
    (z6 : PySem.W.nsIn K mainGlobals "len" = some none)
    (z7 : PySem.W.nsIn K mainGlobals "all" = some none)
    (z8 : PySem.W.nsIn K mainGlobals "range" = some none)
    (y1 : PySem.W.nsIn K mainGlobals "LONGEST_SIDE" = some (some (.int 4 tk1)))
    (y2 : PySem.W.nsIn K mainGlobals "MOST_CELLS" = some (some (.int 9 tk2)))
    (y3 : PySem.W.nsIn K mainGlobals "MOST_SHEETS" = some (some (.int 4 tk3)))
    (pfl : ((l.prog.main.file : Str) == fileI) = true) (ptp : (l.prog.main.scope.names.lookup ("super" : Str)).isSome = false) :
    LamX.LawAtS l w K CX0 20 63 "_law_script" mg fa h := by
  obtain ⟨tb, _, hdn2⟩ := List.any_eq_true.mp hdn
  have hd := (Bool.and_eq_true_iff.mp hdn2).1
  have nt := Option.isNone_iff_eq_none.mp (Bool.and_eq_true_iff.mp hdn2).2
  have e := hfa.symm.trans (PySem.W.mg_of X G aL)
  cases e
  have B : Blt mg := ⟨PySem.W.mg_none_of X G z1, PySem.W.mg_none_of X G z2, PySem.W.mg_none_of X G z3, PySem.W.mg_none_of X G z4, PySem.W.mg_none_of X G z5, PySem.W.mg_none_of X G z6, PySem.W.mg_none_of X G z7, PySem.W.mg_none_of X G z8⟩
  have Cc : Cst mg := ⟨⟨_, PySem.W.mg_of X G y1⟩, ⟨_, PySem.W.mg_of X G y2⟩, ⟨_, PySem.W.mg_of X G y3⟩⟩
  have T : PkC K mg C := ⟨PySem.W.mg_of X G aC, ⟨pgC, hdC, poC, saC⟩, nw, nh, ns, cca, ccg, cct, cmo, cme⟩
  have TP : Xp.PTxt l.prog K mg "InvalidPacket" CP fI := { gC := PySem.W.mg_of X G aCP, cls := ⟨nm, q, N, bs, _, sn, sub, ab, col, dd, m0, m1, m2, m3, m5, xP, rfl⟩, sa := psa, ga := pga, gg := pgg, noN := pnp, iC := pin, tC := ptf, kC := pkc, exC := pex, veC := pve, tyC := pty, hdC := phd, mC := pmr, su := psu, op := pop, gs := PySem.W.mg_none_of X G pgs, top := ptp, fn := ⟨_, _, _, _, _, _, _, _, _, _, _, _, _, _, _, _, _, _, _, _, _, _, _, _, _, _, _, by decide +kernel, rfl, pln, pcd, ⟨_, _, _, _, _, _, pco, pfi, pfl⟩, _, _, _, pce⟩ }
  have oth : ∀ x ∈ (["InvalidOrders", "InvalidPictures", "InvalidSize", "InvalidPattern", "InvalidPicture", "InvalidGoals", "InvalidNumber", "TooMany", "InvalidPieces", "InvalidKinds"] : List Str), ∃ D, mg x = some (.ref D) ∧ PySem.W.kitOne K (.ref CP) (.ref D) = some false := by
    intro x hx
    simp only [List.mem_cons, List.not_mem_nil, or_false] at hx
    rcases hx with rfl | rfl | rfl | rfl | rfl | rfl | rfl | rfl | rfl | rfl
    · exact ⟨D1, PySem.W.mg_of X G e1, q1⟩
    · exact ⟨D2, PySem.W.mg_of X G e2, q2⟩
    · exact ⟨D3, PySem.W.mg_of X G e3, q3⟩
    · exact ⟨D4, PySem.W.mg_of X G e4, q4⟩
    · exact ⟨D5, PySem.W.mg_of X G e5, q5⟩
    · exact ⟨D6, PySem.W.mg_of X G e6, q6⟩
    · exact ⟨D7, PySem.W.mg_of X G e7, q7⟩
    · exact ⟨D8, PySem.W.mg_of X G e8, q8⟩
    · exact ⟨D9, PySem.W.mg_of X G e9, q9⟩
    · exact ⟨D10, PySem.W.mg_of X G e10, q10⟩
  have er : ErrC K mg CP SE := ⟨⟨pga, pgg, pex, phd, pca, ccg, cct, pmo⟩, ⟨pga, pgg, pex, phd⟩, pnp, pni, PySem.W.mg_of X G aSE, pte, PySem.W.mg_of X G aCP, pk0, oth, PySem.W.mg_none_of X G zVE, pkv⟩
  have F1 := fun_mk (st := sNum) l1 c1 k1
  have b1 := F1.binds (ps := ["value"]) fun _ _ _ _ _ _ us hl => match us, hl with | [_], _ => rfl
  have F2 := fun_mk (st := sSide) l2 c2 k2
  have b2 := F2.binds (ps := ["value"]) fun _ _ _ _ _ _ us hl => match us, hl with | [_], _ => rfl
  have F12 := fun_mk (st := sFromTo) l12 c12 k12
  have b12 := F12.binds (ps := ["value", "least", "most"]) fun _ _ _ _ _ _ us hl => match us, hl with | [_, _, _], _ => rfl
  have F3 := fun_mk (st := sSize) l3 c3 k3
  have b3 := F3.binds (ps := ["width", "height"]) fun _ _ _ _ _ _ us hl => match us, hl with | [_, _], _ => rfl
  have F4 := fun_mk (st := sSheet) l4 c4 k4
  have b4 := F4.binds (ps := ["value", "cells"]) fun _ _ _ _ _ _ us hl => match us, hl with | [_, _], _ => rfl
  have F5 := fun_mk (st := sSheets) l5 c5 k5
  have b5 := F5.binds (ps := ["value", "cells"]) fun _ _ _ _ _ _ us hl => match us, hl with | [_, _], _ => rfl
  have F6 := fun_mk (st := sWrong) l6 c6 k6
  have b6 := F6.binds (ps := ["width", "height", "sheets"]) fun _ _ _ _ _ _ us hl => match us, hl with | [_, _, _], _ => rfl
  have F7 := fun_mk (st := sTaken) l7 c7 k7
  have b7 := F7.binds (ps := ["_law_row", "_law_many"]) fun _ _ _ _ _ _ us hl => match us, hl with | [_, _], _ => rfl
  have F8 := fun_mk (st := sPick) l8 c8 k8
  have b8 := F8.binds (ps := ["_law_row", "_law_some"]) fun _ _ _ _ _ _ us hl => match us, hl with | [_, _], _ => rfl
  have F9 := fun_mk (st := sScheme) l9 c9 k9
  have b9 := F9.binds (ps := ["_law_row", "_law_cells", "_law_many"]) fun _ _ _ _ _ _ us hl => match us, hl with | [_, _, _], _ => rfl
  have F10 := fun_mk (st := sMkP) l10 c10 k10
  have b10 := F10.binds (ps := ["_law_s"]) fun _ _ _ _ _ _ us hl => match us, hl with | [_], _ => rfl
  have F11 := fun_mk (st := sRaised) l11 c11 k11
  have b11 := F11.binds (ps := ["_law_work"]) fun _ _ _ _ _ _ us hl => match us, hl with | [_], _ => rfl
  have F21 := fun_mk (st := sInit) l21 c21 k21
  have b21 := F21.binds (ps := ["self", "width", "height", "sheets"]) fun _ _ _ _ _ _ us hl => match us, hl with | [_, _, _, _], _ => rfl
  have F22 := fun_mk (st := sLen) l22 c22 k22
  have b22 := F22.binds (ps := ["self"]) fun _ _ _ _ _ _ us hl => match us, hl with | [_], _ => rfl
  have F23 := fun_mk (st := sEq) l23 c23 k23
  have b23 := F23.binds (ps := ["self", "other"]) fun _ _ _ _ _ _ us hl => match us, hl with | [_, _], _ => rfl
  have F31 := fun_mk (st := sW) l31 c31 k31
  have b31 := F31.binds (ps := ["self"]) fun _ _ _ _ _ _ us hl => match us, hl with | [_], _ => rfl
  have F32 := fun_mk (st := sH) l32 c32 k32
  have b32 := F32.binds (ps := ["self"]) fun _ _ _ _ _ _ us hl => match us, hl with | [_], _ => rfl
  have F33 := fun_mk (st := sS) l33 c33 k33
  have b33 := F33.binds (ps := ["self"]) fun _ _ _ _ _ _ us hl => match us, hl with | [_], _ => rfl
  have F34 := fun_mk (st := sC) l34 c34 k34
  have b34 := F34.binds (ps := ["self"]) fun _ _ _ _ _ _ us hl => match us, hl with | [_], _ => rfl
  refine ⟨PySem.W.fnOf "law" "law" (defArgs sLaw) (defBody sLaw) (defScope sLaw) .none kVL dcL pmL anL (.ref cdL) ctL, [(cdL, tb)], spLaw K tb, fun p hp => ?_, fun p hp => ?_, fun p hp => ?_, fun s v => .of_eq rfl, fun H a ns hl _ ht hS => ⟨a, ns, rfl, hS, hl, ht _ (List.mem_singleton.mpr rfl), fun _ => rfl⟩, fun base kin gl TB => ?_⟩
  · rw [List.mem_singleton.mp hp]
    exact own_tab own lL rfl hd
  · rw [List.mem_singleton.mp hp]
    exact nt
  · rw [List.mem_singleton.mp hp]
    exact PySem.W.codeHd_of_K X hd
  · have M1 : Has l.prog w K mg base CX0 1 "is_number" ["value"] spNum := ⟨f1, _, ok_num F1 B, PySem.W.mg_of X G a1, k1, b1⟩
    have M12 : Has l.prog w K mg base CX0 2 "is_from_to" ["value", "least", "most"] spFromTo := ⟨f12, _, ok_fromTo F12 M1, PySem.W.mg_of X G a12, k12, b12⟩
    have M2 : Has l.prog w K mg base CX0 3 "is_side" ["value"] spSide := ⟨f2, _, ok_side F2 Cc M12, PySem.W.mg_of X G a2, k2, b2⟩
    have M3 : Has l.prog w K mg base CX0 4 "is_size" ["width", "height"] spSize := ⟨f3, _, ok_size F3 Cc M2, PySem.W.mg_of X G a3, k3, b3⟩
    have M4 : Has l.prog w K mg base CX0 1 "is_sheet" ["value", "cells"] spSheet := ⟨f4, _, ok_sheet F4 B, PySem.W.mg_of X G a4, k4, b4⟩
    have M5 : Has l.prog w K mg base CX0 2 "are_sheets" ["value", "cells"] (spSheets K) := ⟨f5, _, ok_sheets F5 B Cc M4, PySem.W.mg_of X G a5, k5, b5⟩
    have M6 : Has l.prog w K mg base CX0 5 "wrong_part" ["width", "height", "sheets"] spWrong := ⟨f6, _, ok_wrong F6 M2 M3 M5, PySem.W.mg_of X G a6, k6, b6⟩
    have M7 : Has l.prog w K mg base CX0 1 "_law_taken" ["_law_row", "_law_many"] (spTaken K) := ⟨f7, _, ok_taken F7 B, PySem.W.mg_of X G a7, k7, b7⟩
    have M8 : Has l.prog w K mg base CX0 2 "_law_pick" ["_law_row", "_law_some"] (spPick K) := ⟨f8, _, ok_pick F8 B M7, PySem.W.mg_of X G a8, k8, b8⟩
    have M9 : Has l.prog w K mg base CX0 3 "_law_scheme" ["_law_row", "_law_cells", "_law_many"] (spScheme K) := ⟨f9, _, ok_scheme F9 B M7 M8, PySem.W.mg_of X G a9, k9, b9⟩
    have MP : PkMk l.prog w K mg base C CP := ⟨f21, _, ⟨mkC, a21, i21, kcC⟩, ok_init F21 T TP M6, b21⟩
    have M10 : Has l.prog w K mg base (L2.CX l.prog w) 8 "_law_packet" ["_law_s"] (spMkP C) := ⟨f10, _, ok_mkp F10 T MP, PySem.W.mg_of X G a10, k10, b10⟩
    have A : All l.prog w K mg base C CP SE := ⟨B, T, M7, M8, M9, M10, MP, ⟨p31, f31, _, ⟨a31, g31, t31, _, r31⟩, ok_w F31 T, b31⟩, ⟨p32, f32, _, ⟨a32, g32, t32, _, r32⟩, ok_h F32 T, b32⟩, ⟨p33, f33, _, ⟨a33, g33, t33, _, r33⟩, ok_s F33 T, b33⟩, ⟨p34, f34, _, ⟨a34, g34, t34, _, r34⟩, ok_c F34 T, b34⟩, ⟨f22, _, a22, i22, ok_len F22 T B, b22⟩, ⟨f23, _, ⟨cmo, cne, a23, i23⟩, ok_eq F23 T B, b23⟩, er, ⟨f11, _, F11, PySem.W.mg_of X G a11, b11⟩⟩
    exact ok_law lL cL A (TB _ (List.mem_singleton.mpr rfl))
end Kn
open PySem PySem.W PyProof.Rows
set_option maxRecDepth 100000 in
set_option maxHeartbeats 0 in
theorem PySem.Challenge.cw_sawnsheets_k01_packets_validated_holds : PySem.Challenge.rw_sawnsheets_k01_packets_validated.Holds := by
  w_on; o_law; k_head; (case hw => w_witness2)
  k_fill
  refine LamX.walk_ofOwn (l := PySem.Challenge.rw_sawnsheets_k01_packets_validated) (n := 63) (k := 20) (x := "_law_script") (CX := fun _ => L2.CX0) rfl (by decide) rfl ⟨rfl, by decide, by decide⟩ (by decide +kernel) (fun w h Y => PySem.W.km_in_of Y) ?F (fun _ _ _ _ _ z => z)
  case F =>
    intro w mg fa h Y KX G hmg own
    refine' Kn.all_mk KX G hmg own ?aC ?aCP ?aSE ?a1 ?l1 ?c1 ?k1 ?a2 ?l2 ?c2 ?k2 ?a12 ?l12 ?c12 ?k12 ?a3 ?l3 ?c3 ?k3 ?a4 ?l4 ?c4 ?k4 ?a5 ?l5 ?c5 ?k5 ?a6 ?l6 ?c6 ?k6 ?a7 ?l7 ?c7 ?k7 ?a8 ?l8 ?c8 ?k8 ?a9 ?l9 ?c9 ?k9 ?a10 ?l10 ?c10 ?k10 ?a11 ?l11 ?c11 ?k11 ?aL ?lL ?cL ?kL ?hdn ?a21 ?i21 ?l21 ?c21 ?k21 ?a22 ?i22 ?l22 ?c22 ?k22 ?a23 ?i23 ?l23 ?c23 ?k23 ?a31 ?g31 ?t31 ?r31 ?l31 ?c31 ?k31 ?a32 ?g32 ?t32 ?r32 ?l32 ?c32 ?k32 ?a33 ?g33 ?t33 ?r33 ?l33 ?c33 ?k33 ?a34 ?g34 ?t34 ?r34 ?l34 ?c34 ?k34 ?pgC ?hdC ?poC ?saC ?mkC ?kcC ?nw ?nh ?ns ?cca ?ccg ?cct ?cmo ?cme ?cne ?xP ?psa ?pga ?pgg ?pnp ?pni ?pin ?ptf ?pkc ?pex ?pve ?pty ?phd ?pmr ?psu ?pop ?pgs ?pln ?pcd ?pco ?pfi ?pce ?pca ?pmo ?pte ?pk0 ?pkv ?zVE ?e1 ?q1 ?e2 ?q2 ?e3 ?q3 ?e4 ?q4 ?e5 ?q5 ?e6 ?q6 ?e7 ?q7 ?e8 ?q8 ?e9 ?q9 ?e10 ?q10 ?z1 ?z2 ?z3 ?z4 ?z5 ?z6 ?z7 ?z8 ?y1 ?y2 ?y3 ?pfl ?ptp
    (case aC => k_is)
    (case aCP => k_is)
    (case aSE => k_is)
    (case a1 => k_is)
    (case l1 => k_is)
    (case c1 => k_is)
    (case k1 => k_is)
    (case a2 => k_is)
    (case l2 => k_is)
    (case c2 => k_is)
    (case k2 => k_is)
    (case a12 => k_is)
    (case l12 => k_is)
    (case c12 => k_is)
    (case k12 => k_is)
    (case a3 => k_is)
    (case l3 => k_is)
    (case c3 => k_is)
    (case k3 => k_is)
    (case a4 => k_is)
    (case l4 => k_is)
    (case c4 => k_is)
    (case k4 => k_is)
    (case a5 => k_is)
    (case l5 => k_is)
    (case c5 => k_is)
    (case k5 => k_is)
    (case a6 => k_is)
    (case l6 => k_is)
    (case c6 => k_is)
    (case k6 => k_is)
    (case a7 => k_is)
    (case l7 => k_is)
    (case c7 => k_is)
    (case k7 => k_is)
    (case a8 => k_is)
    (case l8 => k_is)
    (case c8 => k_is)
    (case k8 => k_is)
    (case a9 => k_is)
    (case l9 => k_is)
    (case c9 => k_is)
    (case k9 => k_is)
    (case a10 => k_is)
    (case l10 => k_is)
    (case c10 => k_is)
    (case k10 => k_is)
    (case a11 => k_is)
    (case l11 => k_is)
    (case c11 => k_is)
    (case k11 => k_is)
    (case aL => k_is)
    (case lL => k_is)
    (case cL => k_is)
    (case kL => k_is)
    (case hdn => first | k_is | kernel_rfl | rfl | decide +kernel)
    (case a21 => k_is)
    (case i21 => k_is)
    (case l21 => k_is)
    (case c21 => k_is)
    (case k21 => k_is)
    (case a22 => k_is)
    (case i22 => k_is)
    (case l22 => k_is)
    (case c22 => k_is)
    (case k22 => k_is)
    (case a23 => k_is)
    (case i23 => k_is)
    (case l23 => k_is)
    (case c23 => k_is)
    (case k23 => k_is)
    (case a31 => k_is)
    (case g31 => k_is)
    (case t31 => k_is)
    (case r31 => k_is)
    (case l31 => k_is)
    (case c31 => k_is)
    (case k31 => k_is)
    (case a32 => k_is)
    (case g32 => k_is)
    (case t32 => k_is)
    (case r32 => k_is)
    (case l32 => k_is)
    (case c32 => k_is)
    (case k32 => k_is)
    (case a33 => k_is)
    (case g33 => k_is)
    (case t33 => k_is)
    (case r33 => k_is)
    (case l33 => k_is)
    (case c33 => k_is)
    (case k33 => k_is)
    (case a34 => k_is)
    (case g34 => k_is)
    (case t34 => k_is)
    (case r34 => k_is)
    (case l34 => k_is)
    (case c34 => k_is)
    (case k34 => k_is)
    (case pgC => k_is)
    (case hdC => k_is)
    (case poC => k_is)
    (case saC => k_is)
    (case mkC => k_is)
    (case kcC => k_is)
    (case nw => k_is)
    (case nh => k_is)
    (case ns => k_is)
    (case cca => k_is)
    (case ccg => k_is)
    (case cct => k_is)
    (case cmo => k_is)
    (case cme => kernel_rfl)
    (case cne => k_is)
    (case xP => k_is)
    (case psa => k_is)
    (case pga => k_is)
    (case pgg => k_is)
    (case pnp => k_is)
    (case pni => k_is)
    (case pin => k_is)
    (case ptf => k_is)
    (case pkc => k_is)
    (case pex => k_is)
    (case pve => k_is)
    (case pty => k_is)
    (case phd => k_is)
    (case pmr => k_is)
    (case psu => first | k_is | ks_is)
    (case pop => k_is)
    (case pgs => k_is)
    (case pln => k_is)
    (case pcd => k_is)
    (case pco => k_is)
    (case pfi => exact rfl)
    (case pce => k_is)
    (case pca => k_is)
    (case pmo => k_is)
    (case pte => kernel_rfl)
    (case pk0 => kernel_rfl)
    (case pkv => kernel_rfl)
    (case zVE => k_is)
    (case e1 => k_is)
    (case q1 => kernel_rfl)
    (case e2 => k_is)
    (case q2 => kernel_rfl)
    (case e3 => k_is)
    (case q3 => kernel_rfl)
    (case e4 => k_is)
    (case q4 => kernel_rfl)
    (case e5 => k_is)
    (case q5 => kernel_rfl)
    (case e6 => k_is)
    (case q6 => kernel_rfl)
    (case e7 => k_is)
    (case q7 => kernel_rfl)
    (case e8 => k_is)
    (case q8 => kernel_rfl)
    (case e9 => k_is)
    (case q9 => kernel_rfl)
    (case e10 => k_is)
    (case q10 => kernel_rfl)
    (case z1 => k_is)
    (case z2 => k_is)
    (case z3 => k_is)
    (case z4 => k_is)
    (case z5 => k_is)
    (case z6 => k_is)
    (case z7 => k_is)
    (case z8 => k_is)
    (case y1 => k_is)
    (case y2 => k_is)
    (case y3 => k_is)
    (case pfl => first | k_is | kernel_rfl | rfl | decide +kernel)
    (case ptp => first | k_is | kernel_rfl | rfl | decide +kernel)

