import PyProof.Rows.All
import Wide.All
import OpenK.AllK
import Wide.FinOn
import PySem.Challenge.RW_whoevermay_k79_entries_of_a_ledger
import KE.KStateDown
import HandS.ForMost
import HandS.Words
import HandS.HeadHook4
import HandS.HeadWalk
import HandS.Property
import HandS.Head0
import HandS.Head1
import HandS.Head2
import HandS.HeadEnd
import HandS.MakeKwOnly
import HandS.ExcInit
import HandS.ExcSuper
import KE.KSuperObj
import KE.KFromBytes
import HandS.FStr
import HandS.ExcField
import HandS.ExcIs
import HandS.Strs
import HandS.NoneIn
import HandS.More
import HandS.Star
import HandS.TupAny
import HandS.WrittenGet
import HandS.AnyAll
import HandS.GenList
import HandS.Walk
import HandS.ExcOwn
import HandS.IsInst
import HandS.Text
import HandS.Deep
import KE.KUnpackStar
import HandS.ReplaceLit
import HandS.TryOnly
import KE.KDictPairs
import HandS.TryMany
import PyProof.ReprRoads
-- part HdHook
set_option Elab.async false
set_option linter.all false
set_option maxRecDepth 100000
set_option maxHeartbeats 2000000
/-! a Hook that tells the getters of properties too -/
namespace Hd
open PySem PySem.Spec PyProof.Rows L2 He
/-- a property's object, its getter -/
def prpA (K : PySem.W.Frag) (C f : Str) : Addr := ma K (ga K C) f
def gtrA (K : PySem.W.Frag) (C f : Str) : Addr := match PySem.W.recIn K (prpA K C f) "property" with
  | some (.ref g :: _) => g
  | _ => 0
structure PrD where
  cls : Str
  f : Str
  name : Str
  qual : Str
  params : Arguments
  body : List Stmt
  scope : Scope
def PrD.val (d : PrD) : FnW := some (d.name, d.qual, d.params, .stmts d.body, d.scope, mainGlobals, [], builtinsNs)
def fnP (K : PySem.W.Frag) (a : Addr) : FnW := match K.lookup a with
  | some ⟨_, _, .func fd, _⟩ => some (fd.name, fd.qualname, fd.params, fd.body, fd.scope, fd.globals, fd.closure, fd.builtins)
  | _ => none
def PrD.ok (K : PySem.W.Frag) (d : PrD) : Bool := PySem.W.keepIn K (.ref (gtrA K d.cls d.f)) && (eqO (PySem.W.findIn K (.ref (ga K d.cls)) d.f) (some (some (.ref (prpA K d.cls d.f)))) &&
  (decide (PySem.W.specialIn K (.ref (prpA K d.cls d.f)) "__get__" = some (some (.builtin "property.__get__"))) && (decide (PySem.W.takesIn K (.ref (prpA K d.cls d.f)) = some true) &&
  ((match PySem.W.recIn K (prpA K d.cls d.f) "property" with
    | some (.ref g :: _) => true
    | _ => false) &&
  (match K.lookup (gtrA K d.cls d.f) with
    | some ⟨_, _, .func fd, _⟩ => PySem.W.codeIn K fd.code d.qual && (decide (fd.defaults = .none) && decide (fd.kwdefaults = .none))
    | _ => false)))))
theorem PrD.prop {K : PySem.W.Frag} {d : PrD} (c : d.ok K = true) : PropOf K (ga K d.cls) d.f (prpA K d.cls d.f) (gtrA K d.cls d.f) := by
  obtain ⟨c1, c⟩ := ba c
  obtain ⟨c2, c⟩ := ba c
  obtain ⟨c3, c⟩ := ba c
  obtain ⟨c4, c⟩ := ba c
  obtain ⟨c5, c6⟩ := ba c
  refine ⟨eqO_ok c2, of_decide_eq_true c3, of_decide_eq_true c4, ?_⟩
  unfold gtrA
  split at c5
  · rename_i g r e
    rw [e]
    exact ⟨r, rfl⟩
  · cases c5
theorem PrD.funD {K : PySem.W.Frag} {d : PrD} (e : fnP K (gtrA K d.cls d.f) = d.val) (c : d.ok K = true) : ∃ fd, FunD K d.name d.qual d.params d.body d.scope [] [] (gtrA K d.cls d.f) fd := by
  obtain ⟨c1, c⟩ := ba c
  obtain ⟨c2, c⟩ := ba c
  obtain ⟨c3, c⟩ := ba c
  obtain ⟨c4, c⟩ := ba c
  obtain ⟨c5, c6⟩ := ba c
  unfold fnP at e
  cases q : K.lookup (gtrA K d.cls d.f) with
  | none =>
    rw [q] at c6
    cases c6
  | some o =>
    obtain ⟨oc, od, dt, osl⟩ := o
    rw [q] at c6 e
    cases dt with
    | func fd =>
      obtain ⟨n1, n2, n3, n4, n5, n6, n7, n8, n9, n10, n11, n12, n13, n14, n15⟩ := fd
      have e2 : (some (n1, n2, n3, n4, n5, n6, n7, n15) : FnW) = some (d.name, d.qual, d.params, .stmts d.body, d.scope, mainGlobals, [], builtinsNs) := e
      simp only [Option.some.injEq, Prod.mk.injEq] at e2
      obtain ⟨h1, h2, h3, h4, h5, h6, h7, h9⟩ := e2
      obtain ⟨z1, z2⟩ := ba c6
      obtain ⟨z3, z4⟩ := ba z2
      have y3 : n8 = .none := of_decide_eq_true z3
      have y4 : n9 = .none := of_decide_eq_true z4
      subst h1 h2 h3 h4 h5 h6 h7 h9
      subst y3
      subst y4
      exact ⟨_, ⟨oc, od, .none, .none, n10, n11, n12, n13, n14, osl, rfl, q, z1, .inl ⟨rfl, rfl⟩, .inl rfl⟩, c1⟩
    | _ => cases c6

abbrev AlP : Type := AlX × List FnW
def obsP (n : Nat) (fa : List Fa) (fn : List DefD) (ts : List Tab) (tf : List Defn) (ex : PySem.W.Frag → Bool) (ps : List PrD) (g : Addr → Option Obj) : AlP :=
  (obsX n fa fn ts tf (fun K => ex K && ps.all fun d => d.ok K) g, ps.map fun d => fnP (frT g (asD g n)) (gtrA (frT g (asD g n)) d.cls d.f))
def valP (fn : List DefD) (ts : List Tab) (ps : List PrD) (w : World) : AlP := (valX fn ts w, ps.map PrD.val)
structure SaysP (fa : List Fa) (fn : List DefD) (ts : List Tab) (tf : List Defn) (ex : PySem.W.Frag → Bool) (ps : List PrD) (w : World) (h : Heap) (K : PySem.W.Frag) : Prop where
  x : SaysX fa fn ts tf (fun K => ex K && ps.all fun d => d.ok K) w h K
  p : ps.map (fun d => fnP K (gtrA K d.cls d.f)) = ps.map PrD.val
def hookP (n : Nat) (fa : List Fa) (fn : List DefD) (ts : List Tab) (tf : List Defn) (ex : PySem.W.Frag → Bool) (ps : List PrD) : PySem.W.Hook where
  α := AlP
  obs := fun s => obsP n fa fn ts tf ex ps s.heap.get?
  val := fun w => valP fn ts ps w
  says := fun w h => ∃ K : PySem.W.Frag, K.In h ∧ SaysP fa fn ts tf ex ps w h K
  of := fun _ _ e => ⟨_, frT_in, saysX_of (congrArg (fun z : AlP => z.1) e), congrArg (fun z : AlP => z.2) e⟩
  keeps := fun _ _ _ ⟨K, hK, c⟩ k => ⟨K, PySem.W.Frag.In.keeps hK k, ⟨c.x.t, c.x.more, c.x.hd, c.x.out, fun p hp => k _ _ (c.x.empty p hp)⟩, c.p⟩
theorem obsP_eq {n : Nat} {fa : List Fa} {fn : List DefD} {ts : List Tab} {tf : List Defn} {ex : PySem.W.Frag → Bool} {ps : List PrD} {g : Addr → Option Obj} {s : Shared} (h : ∀ a, g a = s.heap.get? a) : obsP n fa fn ts tf ex ps g = (hookP n fa fn ts tf ex ps).obs s := by
  have e : g = s.heap.get? := funext h
  rw [e] <;> rfl
section
variable {fa : List Fa} {fn : List DefD} {ts : List Tab} {tf : List Defn} {ex : PySem.W.Frag → Bool} {ps : List PrD} {w : World} {h : Heap} {K : PySem.W.Frag}
theorem SaysP.exB (c : SaysP fa fn ts tf ex ps w h K) : ex K = true := (ba c.x.more).1
theorem SaysP.pr (c : SaysP fa fn ts tf ex ps w h K) (i : Nat) {d : PrD} (e : ps[i]? = some d := by rfl) : PropOf K (ga K d.cls) d.f (prpA K d.cls d.f) (gtrA K d.cls d.f) ∧ ∃ fd, FunD K d.name d.qual d.params d.body d.scope [] [] (gtrA K d.cls d.f) fd := by
  have ok : d.ok K = true := List.all_eq_true.mp (ba c.x.more).2 d (List.mem_of_getElem? e)
  have e2 : (ps.map fun d => fnP K (gtrA K d.cls d.f))[i]? = (ps.map PrD.val)[i]? := by rw [c.p]
  rw [List.getElem?_map, List.getElem?_map, e] at e2
  exact ⟨PrD.prop ok, PrD.funD (Option.some.inj e2) ok⟩
end
/-- a keyword-only default that is an object -/
def kwAt (p : Str × Option Str) (x : Str) (K : PySem.W.Frag) : Addr := match K.lookup (fAd K p) with
  | some ⟨_, _, .func fd, _⟩ => (match fd.kwdefaults with
    | .ref D => (match PySem.W.nsIn K D x with
      | some (some (.ref a)) => a
      | _ => 0)
    | _ => 0)
  | _ => 0
/-- an empty tuple of the top -/
def emptyB (K : PySem.W.Frag) (a : Addr) : Bool := match K.lookup a with
  | some ⟨.type c, none, .seq its _, sl⟩ => decide (c = "tuple") && (its.isEmpty && sl.isEmpty)
  | _ => false
end Hd

-- part SU1
set_option Elab.async false
set_option linter.all false
set_option maxRecDepth 100000
set_option maxHeartbeats 2000000
/-! super().__init__(e) of an exception over ValueError -/
namespace SU
open PySem PySem.W PySem.Calls PyProof.Rows PySem.HandSPX
abbrev vi : Value := .builtin "ValueError.__init__"
/-- vi bound to x -/
abbrev vb (x : Addr) : Obj := { cls := .type "method-wrapper", dict := none, data := .fields #[vi, .ref x], slots := #[] }
theorem vi_type : typeOf vi = pure (.type "wrapper_descriptor") := by
  show builtinType _ = _
  rw [builtinType_eq_fast]
  kernel_rfl
theorem vi_name : (kfb_private% "nameAndClass") vi = (pure (("__init__" : Str), Value.type "ValueError") : Sem (Str × Value)) := by
  kernel_rfl
section
variable {prog : Program} {w : World} {M : Model} {A : Around} {E : Value → Shared → Prop} {h : Heap} {g : Array GenState} {d : Drawn} {t : Nat} {os : OsState}
theorem vi_get {a B : Addr} {R : Fin → Shared → Prop} (yes : W.Looks M h (isInstance (.ref a) (.type "ValueError")) true) (r : R (.done (.ret (.ref h.objs.size))) ⟨h.push (vb a), g, d, t, os⟩) :
    wpAny M A (Builtin.«wrapper_descriptor.__get__» ⟨[vi, .ref a, .ref B], []⟩) R E ⟨h, g, d, t, os⟩ := by
  unfold Builtin.«wrapper_descriptor.__get__»
  have s1 : wpAny M A (newFields "method-wrapper" [vi, .ref a] >>= fun r => ret r) R E ⟨h, g, d, t, os⟩ := wpAny_bind (wpAny_newObj_type (wpAny_pure r))
  refine wpAny_bind (wpAny_of_eq (a := (vi, some (.ref a), some (.ref B))) (by first | rfl | kernel_rfl) (wpAny_bind ?_))
  show wpAny M A ((kfb_private% "nameAndClass") vi >>= _) _ E _
  refine wpAny_bind (wpAny_of_eq vi_name ?_)
  show wpAny M A (isInstance (.ref a) (.type "ValueError") >>= _) _ E _
  exact wpAny_bind (yes.at (KFB.if_not rfl (wpAny_pure s1)))
/-- what super() gives within a method of D for the instance a of C -/
abbrev so3 (D a C : Addr) : Obj := { cls := .type "super", dict := none, data := .fields #[.ref D, .ref a, .ref C], slots := #[] }
theorem vi_attr {z a C : Addr} {ms bs : List Value} {K : Frag} {tk : Tok} {R : Fin → Shared → Prop} (hz : h.get? z = some (so3 C a C)) (clear : W.Looks (model prog w) h (opaqueClassAbove (.ref C)) none)
    (line : W.Looks (model prog w) h (mroOf (.ref C)) ms) (cut : (ms.dropWhile (· != .ref C)).drop 1 = bs) (kin : K.In h) (has : alongIn K "__init__" bs = some (some vi)) (apart : a ≠ C)
    (yes : W.Looks (model prog w) h (isInstance (.ref a) (.type "ValueError")) true) (r : R (.done (.ret (.ref h.objs.size))) ⟨h.push (vb a), g, d, t, os⟩) :
    wpAny (model prog w) A (Builtin.«super.__getattribute__» ⟨[.ref z, .str "__init__" tk], []⟩) R E ⟨h, g, d, t, os⟩ := by
  have lk := ESX.slot_wd.lookup
  have un : (Value.ref a == Value.ref C) = false := by simp [apart]
  have isw : Shared.TypeIs ⟨h, g, d, t, os⟩ vi "wrapper_descriptor" := vi_type
  have dt : (so3 C a C).data = .fields #[.ref C, .ref a, .ref C] := rfl
  have i0 : (#[Value.ref C, .ref a, .ref C] : Array Value)[0]? = some (.ref C) := rfl
  have i1 : (#[Value.ref C, .ref a, .ref C] : Array Value)[1]? = some (.ref a) := rfl
  have i2 : (#[Value.ref C, .ref a, .ref C] : Array Value)[2]? = some (.ref C) := rfl
  have nc : (("__init__" : Str) == ("__class__" : Str)) = false := by decide
  unfold Builtin.«super.__getattribute__»
  repeat (first
    | with_reducible refine wpAny_field hz dt i0 ?_
    | with_reducible refine wpAny_field hz dt i1 ?_
    | with_reducible refine wpAny_field hz dt i2 ?_
    | with_reducible refine ks_wpAny_notOpaque clear ?_
    | (with_reducible refine Looks.at line ?_
       rw [cut])
    | refine ks_forIn_along kin (fun _ _ => rfl) rfl ?_ has
    | with_reducible refine wpAny_call_entry ESX.slot_wd isw ESX.entry_wd ?_ (ESX.args_wd _ _ _)
    | with_reducible refine vi_get yes ?_
    | with_reducible refine ⟨_, rfl, ?_⟩
    | simp only [nc, un, Bool.or_false, Bool.false_eq_true, if_false]
    | wp_step
    | dsimp only)
  all_goals exact r
theorem vi_meth {z a C : Addr} {ms bs : List Value} {K : Frag} {pl : Sem Bool} {R : Value × List Value → Shared → Prop} (hz : h.get? z = some (so3 C a C)) (clear : W.Looks (model prog w) h (opaqueClassAbove (.ref C)) none)
    (line : W.Looks (model prog w) h (mroOf (.ref C)) ms) (cut : (ms.dropWhile (· != .ref C)).drop 1 = bs) (kin : K.In h) (has : alongIn K "__init__" bs = some (some vi)) (apart : a ≠ C)
    (yes : W.Looks (model prog w) h (isInstance (.ref a) (.type "ValueError")) true) (r : R (.ref h.objs.size, []) ⟨h.push (vb a), g, d, t + 1, os⟩) :
    wpAny (model prog w) A (getMethod (.ref z) "__init__" pl) R E ⟨h, g, d, t, os⟩ := by
  have lk := F.ks_slot_super_ga.lookup
  have own := F.ks_canon_super_ga
  have isz : ∀ u, (⟨h, g, d, u, os⟩ : Shared).TypeIs (.ref z) "super" := fun _ => ⟨_, hz, rfl⟩
  have got := wpAny_call_entry (A := A) (E := fun _ _ => False) (Q := fun v s => v = .ref h.objs.size ∧ s = ⟨h.push (vb a), g, d, t + 1, os⟩) F.ks_slot_super_ga (isz (t + 1)) F.ks_entry_super_ga
    (vi_attr (tk := t) hz clear line cut kin has apart yes ⟨_, rfl, rfl, rfl⟩) (F.ks_gaArgs_super _ _)
  unfold getMethod
  refine wpAny_bind (wpAny_specialOf (isz _) lk ?_)
  show wpAny _ _ (if (Manifest.canonical "super.__getattribute__" != "object.__getattribute__") = true then _ else _) _ _ _
  rw [if_pos own]
  unfold getAttr getAttrBy
  refine wpAny_bind (wpAny_bind (wpAny_mkText (wpAny_holding (wpAny_bind (wpAny_typeOf (isz _) (wpAny_bind (wpAny_of_eq lk ?_)))))))
  show wpAny _ _ (getAttrByItsOwn (.ref z) (.str "__init__" t) (.type "super") (.builtin "super.__getattribute__") true false) _ _ _
  unfold getAttrByItsOwn hookBefore callGetattribute boundAndCalled
  refine wpAny_bind (wpAny_of_eq (a := none) rfl (wpAny_bind (wpAny_attempt (wpAny_holding ?_))))
  show wpAny _ _ (bindSpecial (.builtin "super.__getattribute__") (.ref z) >>= _) _ _ _
  refine wpAny_bind (wpAny_of_eq (F.ks_slot_super_ga.bind _) ?_)
  refine wpAny_mono got (fun v s ⟨e1, e2⟩ => ?_) fun _ _ z => z.elim
  subst e1 e2
  exact wpAny_pure (wpAny_pure r)
end
section
variable {prog : Program} {w : World} {A : Around} {E : Value → Shared → Prop} {h : Heap} {g : Array GenState} {d : Drawn} {t : Nat} {os : OsState}
variable {nm q : Str} {C N : Addr} {bs bm : List Value} {dct : Bool} {sn : List Str} {sub : List Value} {ab : Bool} {col : Option Bool} {dd : Option Addr} {k0 k1 k2 k3 k5 : Option Value}
theorem vb_call {u a t0 : Addr} {vs : List Value} {R : Value → Shared → Prop} (cls : h.get? C = some (excClassObj nm q C N bs bm dct sn sub ab col dd k0 k1 k2 k3 k5 "ValueError.__new__")) (obj : h.get? a = some (HandSPX.excO C t0)) (bnd : h.get? u = some (vb a)) (few : vs.length ≤ sizeLine)
    (r : ∀ h' t1, (∀ b o, b ≠ a → h.get? b = some o → h'.get? b = some o) → h'.get? a = some (HandSPX.excO C t1) → R .none ⟨h', g, d, t, os⟩) : wpAny (model prog w) A (call (.ref u) vs) R E ⟨h, g, d, t, os⟩ := by
  refine wpAny_call (codeAny_of_tree ?_)
  show wpAny _ A.in1 (callAny (.ref u) ⟨vs, []⟩) _ _ _
  simp only [callAny]
  have m : (Value.type "method-wrapper" == Value.type "method" || Value.type "method-wrapper" == Value.type "builtin_function_or_method" || Value.type "method-wrapper" == Value.type "method-wrapper") = true := by decide
  refine wpAny_bind (wpAny_load bnd ?_)
  simp only [vb, m, if_true]
  refine W.KFB.if_so (by decide) (wpAny_bind (ESX.check_bound F.excBase_ValueError cls obj rfl (wpAny_bind (wpAny_pure (wpAny_pure ?_)))))
  refine ⟨Code.quiet_builtin _ (by decide +kernel), codeAny_builtin F.excBase_ValueError.initEntry ?_⟩
  rw [Around.under_plainId F.excBase_ValueError.init.plain _]
  wp_walk
  refine r _ h.objs.size (fun b o ne e => ?_) ?_
  · exact (Heap.get?_update_other _ _ (Ne.symm ne)).trans (Heap.get?_push_of_some _ e)
  · exact (Heap.get?_update_self _ (Heap.get?_push_of_some _ obj) rfl).trans rfl
/-- f(..) where f is vi bound -/
theorem vb_with {pos : Pos} {u a : Addr} {env : Env} {e : Expr} {r : List Expr} {R : Value → Shared → Prop} (b : (backTo pos (starEach r env)).any (·.1) = false) (c : starEach (e :: r) env = (false, eval e env) :: starEach r env)
    (k : wpAny (model prog w) A (spliced (backTo pos (starEach (e :: r) env))) (fun vs s1 => s1.heap.get? u = some (vb a) ∧ wpAny (model prog w) A (call (.ref u) vs) R E s1) E ⟨h, g, d, t, os⟩) :
    wpAny (model prog w) A (callWith pos (.ref u) [] (backTo pos (starEach (e :: r) env)) []) R E ⟨h, g, d, t, os⟩ := by
  rw [c] at k ⊢
  have pl : (backTo pos ((false, eval e env) :: starEach r env)).any (·.1) = false := by
    show (false || (backTo pos (starEach r env)).any (·.1)) = false
    rw [b]
    rfl
  have ev : wpAny (model prog w) A (evalArgs (.ref u) true (backTo pos ((false, eval e env) :: starEach r env)) []) (fun a1 s1 => s1.heap.get? u = some (vb a) ∧ wpAny (model prog w) A (call (.ref u) ([] ++ a1.pos) a1.kw) R E s1) E ⟨h, g, d, t, os⟩ := by
    refine evalArgs_plain ?_
    exact k
  unfold callWith
  refine wpAny_bind (wpAny_holding (wpAny_mono ev (fun a1 s1 ⟨ho, go⟩ => wpAny_bind (wpAny_standAt ?_)) fun _ _ z => z))
  simp only [pl, List.any_nil, Bool.or_false]
  refine wpAny_bind (m := keeperOf (.ref u)) ?_
  unfold keeperOf
  have m1 : (Value.type "method-wrapper" != Value.type "method") = true := by decide
  have m2 : (Value.type "method-wrapper" == Value.type "builtin_function_or_method" || Value.type "method-wrapper" == Value.type "method-wrapper") = true := by decide
  refine wpAny_bind (wpAny_load ho ?_)
  simp only [vb, m1, m2, if_true]
  exact wpAny_pure (wpAny_bind (wpAny_mono go (fun _ _ z => wpAny_bind (wpAny_holding (wpAny_point (wpAny_pure z)))) fun _ _ z => z))
end
end SU

-- part SU2
set_option Elab.async false
set_option linter.all false
set_option maxRecDepth 100000
set_option maxHeartbeats 2000000
/-! a def __init__ that begins with super().__init__(e) and keeps one value -/
namespace SU
open PySem PySem.Spec PySem.W PySem.Calls PyProof.Rows L2
/-- where the def runs -/
def cxS (CX : CXT) (P : Program) (w : World) (K : PySem.W.Frag) (mg : Str → Option Value) (base : Heap) (N : List Str) (fd : FuncData) (f : Addr) (A : Around) (outer : List Env) (s : Shared) (H : Hp) (E : XK) : Cx where
  prog := P
  w := w
  K := K
  mg := mg
  base := base
  A := A.deeper (callEnv fd s.heap.objs.size f)
  N := N
  s_0 := s
  H_0 := H
  env := callEnv fd s.heap.objs.size f
  outer := outer
  stack := callEnv fd s.heap.objs.size f :: outer
  ex := []
  fn := fun _ => false
  calm := true
  pn := []
  xe := fun e s' => wpAny (model P w) (A.deeper (callEnv fd s.heap.objs.size f)) (leaving (callEnv fd s.heap.objs.size f) e) (fun _ s'' => CX outer H s E e s'') (fun e' s'' => CX outer H s E e' s'') s'
/-- what the written part says of the class at C, of its __init__ at f -/
structure Sup (P : Program) (K : PySem.W.Frag) (C f cc : Addr) (fd : FuncData) (qual x : Str) (scope : Scope) : Prop where
  at_ : ∃ (oc : Value) (od : Option Addr) (osl : Array (Option Value)), K.lookup f = some ⟨oc, od, .func fd, osl⟩
  fsc : fd.scope = scope
  fq : fd.qualname = qual
  par : ∃ ar : Arg, (fd.params.posonlyargs ++ fd.params.args).head? = some ar ∧ ar.arg = "self"
  clo : fd.closure = [(("__class__" : Str), cc)]
  glo : fd.globals = mainGlobals
  blt : fd.builtins = builtinsNs
  cod : PySem.W.codeIn K fd.code qual = true
  cd3 : ∃ (kc : Addr) (ok : Obj) (vs : Array Value) (file : Str) (tf : Tok), fd.code = .ref kc ∧ K.lookup kc = some ok ∧ ok.data = .fields vs ∧ vs[2]? = some (.str file tf) ∧ ((P.main.file : Str) == file) = true
  top : (P.main.scope.names.lookup ("super" : Str)).isSome = false
  cel : ∃ o : Obj, K.lookup cc = some o ∧ o.data = .cell (some (.ref C))
  kind : scope.kind = .function
  co : scope.isCoroutine = false
  gen : scope.isGenerator = false
  sf : scope.names.lookup ("self" : Str) = some .local
  sx : scope.names.lookup x = some .local
  sc : scope.names.lookup ("__class__" : Str) = some .free
  ss : scope.names.lookup ("super" : Str) = some .globalImplicit
  nx : x ≠ "self"
  only : ∀ y ∈ scope.names, y.2 ≠ .cell ∧ (y.2 = .free → y.1 = "__class__")
  oex : OexC K C
  s1 : PySem.W.subIn K (.ref C) (.ref C) = some true
  s2 : PySem.W.subIn K (.ref C) (.type "ValueError") = some true
  op : PySem.W.nsIn K cStatics "thirdparty.any" = some none
  has : ∀ cd, PySem.W.clsIn K C = some cd → PySem.W.alongIn K "__init__" (cd.mro.drop 1) = some (some vi)
section
variable {CX : CXT} {P : Program} {w : World} {K : PySem.W.Frag} {mg : Str → Option Value} {base : Heap} {C f cc : Addr} {fd : FuncData} {qual x : Str} {scope : Scope} {A : Around} {outer : List Env} {s : Shared} {H : Hp} {E : XK}
theorem Sup.cells (S : Sup P K C f cc fd qual x scope) {y : Str} {c : Addr} (h : (callEnv fd s.heap.objs.size f).cells.lookup y = some c) : y = "__class__" ∧ c = cc := by
  have h : fd.closure.lookup y = some c := h
  rw [S.clo] at h
  unfold List.lookup at h
  split at h
  · rename_i e
    exact ⟨by simpa using e, (Option.some.inj h).symm⟩
  · cases h
theorem Sup.inv (S : Sup P K C f cc fd qual x scope) (hd : A.handled = none) (e0 : Env0 P w K mg base A outer s H) {v0 v1 : V} {u0 u1 : Value} (r0 : RelV v0 u0) (r1 : RelV v1 u1) {h0 : Heap} {tk : Nat}
    (ns : h0.Ns s.heap.objs.size (fun y => [(x, u1), (("self" : Str), u0)].lookup y)) (ke : ∀ b o, s.heap.get? b = some o → h0.get? b = some o) :
    Inv (cxS CX P w K mg base ["self", x] fd f A outer s H E) [] [some v0, some v1] H { s with heap := h0, toks := tk } := by
  have fs : fd.scope = scope := S.fsc
  obtain ⟨oc, hc, dc⟩ := S.cel
  have kb := e0.mod.kin
  refine ⟨⟨e0.mod, by show fd.scope.kind = _; rw [fs]; exact S.kind, S.glo, S.blt, Nat.le_refl _, fun y z c h1 h2 => (S.cells h1).1.trans (S.cells h2).1.symm, fun y hy => ?_, fun _ _ z _ => absurd z Bool.false_ne_true, fun _ => hd, Around.frames_deeper e0.frames, .inr ⟨rfl, rfl⟩, fun b z => (by cases z), e0.bs, e0.bsz, fun b o _ z => (by cases z), fun b z => (by cases z), e0.funs, e0.frf⟩,
    rfl, e0.bare, Un.kept ke, ⟨_, ns, fun i y v h1 h2 _ => ?_⟩, fun y c h => ⟨some (.ref C), ?_⟩, e0.hok.fresh (Nat.le_refl _), fun y c h => ?_, fun p hp => (by cases hp), e0.hok.kept ke, rfl⟩
  · refine ⟨cc, ?_⟩
    have hy : fd.scope.names.lookup y = some .cell ∨ fd.scope.names.lookup y = some .free := hy
    rw [fs] at hy
    have e : y = "__class__" := by
      rcases hy with hy | hy
      · exact absurd rfl (S.only _ (PySem.mem_of_lookup hy)).1
      · exact (S.only _ (PySem.mem_of_lookup hy)).2 rfl
    subst e
    show fd.closure.lookup _ = _
    rw [S.clo]
    rfl
  · have hy : ∀ y, scope.names.lookup y = some .local → (callEnv fd s.heap.objs.size f).kindOf y = some .local := fun y k => by
      show fd.scope.names.lookup y = _
      rw [fs]
      exact k
    match i, h1, h2 with
    | 0, h1, h2 =>
      cases h1
      cases h2
      refine ⟨u0, r0, .inl ⟨hy _ S.sf, ?_⟩⟩
      have : (("self" : Str) == x) = false := by simpa using fun z => S.nx z.symm
      simp [List.lookup, this]
    | 1, h1, h2 =>
      cases h1
      cases h2
      refine ⟨u1, r1, .inl ⟨hy _ S.sx, ?_⟩⟩
      simp [List.lookup]
    | i + 2, h1, h2 => simp at h2
  · rw [(S.cells h).2]
    exact ⟨oc, ke _ _ (e0.bs _ _ (kb _ _ hc)).1, dc⟩
  · rw [(S.cells h).2]
    exact (e0.bs _ _ (kb _ _ hc)).2
/-- the def's promise: te is what e asks -/
def spS (C : Addr) (fld : Str) (te : TE) : Sp := fun vs H Q _ => ∃ (a : Addr) (v : V), vs = [.ref a, v] ∧ H a = some (exo a C none) ∧ te [some (.ref a), some v] H (fun _ H' => H' = H) ∧ ∀ dx, H dx = none → dx ≠ a → Q .non (upd (upd H dx (exd dx [(fld, v)])) a (exo a C (some dx)))
theorem name_blt {X : Cx} {E : Value → Shared → Prop} {pins : List (Addr × Obj)} {s : Shared} {σ : L2.St} {H : Hp} {y : Str} {u : Value} {Q : Value → Shared → Prop} (I : L2.Inv X pins σ H s) (hg : X.env.kindOf y = some .globalImplicit) (hm : X.mg y = none) (hv : bootBuiltins y = some u) (h : Q u s)
    (hn : y ≠ "__name__") : wpAny (model X.prog X.w) X.A (loadName X.env y) Q E s := by
  obtain ⟨mb, h1, h2⟩ := I.mod.blt
  unfold loadName
  simp only [Env.blockKind, I.ok.kind, hg, ScopeKind.isAnnotationScope, Bool.false_and, Bool.false_eq_true, if_false]
  exact Calls.loadGlobal_builtin (by rw [I.ok.glob]; exact I.mod.glob.keeps I.bk) hm (by rw [I.ok.blt]; exact h1.keeps I.bk) ((h2 y hn).trans hv) h
theorem Sup.ok {k : Nat} {fld : Str} {e : Expr} {te : TE} {p0 p1 p2 p3 p4 p5 p6 p7 p8 : Pos} (S : Sup P K C f cc fd qual x scope) (hm : mg "super" = none)
    (hb : fd.body = .stmts [.Expr (.Call (.Attribute (.Call (.Name "super" p0) [] [] p1) "__init__" p2) [e] [] p3) p4, .Assign [.Attribute (.Name "self" p5) fld p6] (.Name x p7) p8])
    (fno : PySem.W.findIn K (.ref C) fld = some none) (he : ∀ A outer s H E, PE (cxS CX P w K mg base ["self", x] fd f A outer s H E) e te)
    (hxd : (x == ("__debug__" : Str)) = false) (hxc : (x == ("__classdict__" : Str)) = false) (hsw : ∀ {X : Cx}, swapsWith (.Name x p7) (some (.Attribute (.Name "self" p5) fld p6)) p8.line X.env = pure false)
    (hst : ∀ env, starEach [e] env = (false, eval e env) :: starEach [] env)
    (hev : ∀ env, ∃ pl, eval (.Call (.Attribute (.Call (.Name "super" p0) [] [] p1) "__init__" p2) [e] [] p3) env = (do
      let ov ← attributeBase (.Call (.Name "super" p0) [] [] p1) "__init__" env (eval (.Call (.Name "super" p0) [] [] p1) env)
      standAt p2.atName
      let (g, first) ← holding [ov] (getMethod ov "__init__" pl)
      callWith p3 g first (backTo p3 (starEach [e] env)) [])) :
    FnOk P w K mg base CX (k + 1) f fd ["self", x] (spS C fld te) := by
  refine ⟨fun vs H Q E ⟨a, v, z, _⟩ => by rw [z]; rfl, fun A outer s H args us vs Q E hr e0 hbd r hsp => ?_⟩
  obtain ⟨a, v, rfl, ha, hte, hq⟩ := hsp
  cases r with
  | @cons _ u0 _ ur r0 r' =>
  cases r' with
  | @cons _ u1 _ ur r1 r'' =>
  cases r''
  obtain rfl : u0 = Value.ref a := r0
  have fs := S.fsc
  have KX : K.In s.heap := e0.mod.kin.keeps fun b o e => (e0.bs b o e).1
  have lim : s.heap.NoLimit := e0.mod.nolimit.keeps fun b o e => (e0.bs b o e).1
  obtain ⟨oc, od, osl, lk⟩ := S.at_
  have hcode : s.heap.CodeRec fd.code fd.qualname := by rw [S.fq]; exact PySem.W.codeRec_of KX S.cod
  refine ks_codeAny_call_defAt hr.depth (KX _ _ lk) rfl lim hcode hb hbd (fun y hy => (S.only y (by rw [← fs]; exact hy)).1) (fun y hy => ?_) (fun h0 hns ke => ?_) (by rw [fs]; exact S.co) (by rw [fs]; exact S.gen) (by rw [fs]; exact S.kind)
  · rw [fs]
    have hy : y = (("self" : Str), Value.ref a) ∨ y = (x, u1) := by simpa using hy
    rcases hy with rfl | rfl
    · exact S.sf
    · exact S.sx
  have I : L2.Inv (cxS CX P w K mg base ["self", x] fd f A outer s H E) [] [some (.ref a), some v] H { s with heap := h0, toks := s.toks + ((["self", x] : List Str).zip [Value.ref a, u1]).length } := S.inv hr.hd e0 (v0 := .ref a) rfl r1 hns ke
  have kd : ∀ y q, scope.names.lookup y = q → fd.scope.names.lookup y = q := fun y q z => by rw [fs]; exact z
  obtain ⟨ar, har, ear⟩ := S.par
  obtain ⟨kc, okc, kvs, file, tf, hkc, lkc, dkc, vkc, hfile⟩ := S.cd3
  obtain ⟨oce, lce, dce⟩ := S.cel
  have K0 : K.In h0 := fun b o q => ke _ _ (KX b o q)
  have KI := I.kIn
  have noi : interactive (callEnv fd s.heap.objs.size f) = false := by
    have k1 : (callEnv fd s.heap.objs.size f).scope.kind = .function := I.ok.kind
    unfold interactive
    simp [k1]
  obtain ⟨pl, hev⟩ := hev (callEnv fd s.heap.objs.size f)
  refine ks_wpAt_execs_cons (ks_wpAt_Expr_any (hi := noi) (ks_wpAt_MethodCall (ks_wpAt_super_base (f := f) (cc := kc) (ar := ar) (kd _ _ ?_) (kd _ _ S.sc) (by decide) rfl (K0 _ _ lk) rfl har hkc (K0 _ _ lkc) dkc vkc hfile S.top ?_) hev))
  · exact S.ss
  refine name_blt I ?_ hm PyProof.Rows.Boot.«super» ⟨rfl, ?_⟩ (by decide)
  · exact kd _ _ S.ss
  refine wpAny_loadName_free (c := cc) (v := .ref C) I.ok.kind (kd _ _ S.sc) ?_ ⟨oce, K0 _ _ lce, dce⟩ ?_
  · show fd.closure.lookup _ = _
    rw [S.clo]
    rfl
  -- self, the class, super itself
  have lx : (callEnv fd s.heap.objs.size f).kindOf ar.arg = some .local := by rw [ear]; exact kd _ _ S.sf
  have self0 : [(x, u1), (("self" : Str), Value.ref a)].lookup ar.arg = some (.ref a) := by
    rw [ear]
    have : (("self" : Str) == x) = false := by simpa using fun z => S.nx z.symm
    simp [List.lookup, this]
  refine wpAny_loadName_local I.ok.kind lx hns self0 ?_
  obtain ⟨nm, qn, nn, bs, bm, sn, sub, ab, col, dd, k0, k1, k2, k3, k5, hC, hbm⟩ := S.oex.cls
  have cC := K0 _ _ hC
  have lC : PySem.W.clsIn K C = some { name := nm, bases := bs, mro := .ref C :: bm, ns := nn, qualname := qn, hasDict := true, slotNames := sn, subclasses := sub, abstract := ab, collection := col, hasDel := false } := by unfold PySem.W.clsIn; rw [hC] <;> rfl
  obtain ⟨t1, ho⟩ := exo_at I.hok ha
  have apart : a ≠ C := fun z => by
    have := (e0.bs _ _ (e0.mod.kin _ _ hC)).2
    rw [← z, ha] at this
    cases this
  refine ks_wpAny_isType_cls cC rfl ⟨rfl, ?_⟩
  refine ks_wpAny_call_super cC rfl ho rfl (fun c z => by cases z) (PySem.W.looks_subIn K0 S.s1) fun h1 hz k1 => ?_
  have K1 : K.In h1 := fun b o q => k1 _ _ (K0 b o q)
  have ho1 := k1 _ _ ho
  have inst : PySem.W.InstAt h1 a { cls := .ref C, dict := none, data := .fields #[.ref t1, .none, .none, .none, .bool false, .none] } C none := ⟨ho1, rfl, rfl, trivial⟩
  refine vi_meth hz (PySem.W.looks_opaque K1 S.op) ((PySem.W.looks_clsIn K1 lC).andThen .now) (ESX.drop_own C bm) K1 (S.has _ lC) apart (inst.type.andThen (PySem.W.looks_subIn K1 S.s2)) ?_
  have ez : starEach [] (callEnv fd s.heap.objs.size f) = [] := rfl
  refine vb_with (a := a) rfl (hst _) ?_
  rw [hst]
  have I1 : L2.Inv (cxS CX P w K mg base ["self", x] fd f A outer s H E) [] [some (.ref a), some v] H ⟨h1, s.gens, s.drawn, s.toks, s.os⟩ := I.kept (h' := h1) k1
  have fz : H h1.objs.size = none := I1.hok.fresh (Nat.le_refl _)
  have I2 : L2.Inv (cxS CX P w K mg base ["self", x] fd f A outer s H E) [] [some (.ref a), some v] H ⟨h1.push (vb a), s.gens, s.drawn, s.toks + ((["self", x] : List Str).zip [Value.ref a, u1]).length + 1, s.os⟩ := I1.kept (h' := h1.push (vb a)) fun b o q => Heap.get?_push_of_some _ q
  have I3 := I2.pins_of (pins' := [(h1.objs.size, vb a)]) fun p hp => by
    rw [List.mem_singleton.mp hp]
    exact ⟨Heap.get?_push_size _ rfl, fz, Nat.ne_of_gt I1.lt, I1.nofs (Nat.le_refl _), fun _ z => by cases z⟩
  refine Calls.spliced_cons (wpAny_mono ((he A outer s H E).run _ _ _ H (fun _ H' => H' = H) I3 hte) (fun u s2 ⟨y, H2, J, ry, eH⟩ => Calls.spliced_nil ⟨?_, ?_⟩) fun _ _ z => z)
  · exact (J.pin _ (List.mem_append_right _ (List.mem_singleton.mpr rfl))).1
  subst eH
  obtain ⟨t2, ho2⟩ := exo_at J.hok ha
  obtain ⟨hp2, g2, d2, tk2, os2⟩ := s2
  refine vb_call (J.kIn _ _ hC) ho2 (J.pin _ (List.mem_append_right _ (List.mem_singleton.mpr rfl))).1 (by show 1 ≤ sizeLine; unfold sizeLine; omega) fun h3 t3 k3 hx => ?_
  have Z := J.write (t' := tk2) (x := a) (e := a) (o := exo a C none) (by rw [ha]; exact True.intro) (.inl rfl) k3 ⟨_, hx⟩ (exo_ok hx)
  have eu : upd H2 a (exo a C none) = H2 := by
    funext b
    by_cases hb : b = a
    · rw [hb, upd_same, ha]
    · rw [upd_ne hb]
  rw [eu] at Z
  have st : PSs (cxS CX P w K mg base ["self", x] fd f A outer s H2 E) [.Assign [.Attribute (.Name "self" p5) fld p6] (.Name x p7) p8] (tOst K fld (tVar 0) (tVar 1)) :=
    pss_one (ps_ost (pe_var rfl (.inl (kd _ _ S.sf))) (pe_var rfl (.inl (kd _ _ S.sx)) hxd hxc) hsw)
  refine wpAt_of_wpAny (wpAny_mono (st.run _ _ _ _ { nx := fun _ H' => Q .non H', rt := Q } Z ⟨_, rfl, _, rfl, a, C, rfl, S.oex, fno, .inl ⟨ha, fun dx n1 n2 => hq dx n1 n2⟩⟩) (fun fl s' hs => ?_) fun e s' hs => hs)
  have fin : ∀ {σ' : L2.St} {H' : Hp} {v' : V} {u' : Value}, L2.Inv (cxS CX P w K mg base ["self", x] fd f A outer s H2 E) [(h1.objs.size, vb a)] σ' H' s' → RelV v' u' → Q v' H' → CE outer P w H2 s Q u' s' :=
    fun {σ' H' v' u'} J rv q => ⟨v', H', J.os, J.bare, J.base, J.hok, rv, q⟩
  cases fl with
  | ret u' =>
    obtain ⟨v', σ', H', J, rv, q⟩ := hs
    exact fin J rv q
  | next =>
    obtain ⟨σ', H', J, q⟩ := hs
    exact fin (v' := V.non) (u' := Value.none) J rfl q
  | brk =>
    obtain ⟨_, _, _, q⟩ := hs
    exact False.elim q
  | cont =>
    obtain ⟨_, _, _, q⟩ := hs
    exact False.elim q
end
end SU

-- part HdSup
set_option Elab.async false
set_option linter.all false
set_option maxRecDepth 100000
set_option maxHeartbeats 2000000
/-! a Hook that tells the exceptions whose __init__ calls super() -/
namespace Hd
open PySem PySem.Spec PyProof.Rows L2 He SU
structure SuD where
  cls : Str
  x : Str
  fld : Str
  qual : Str
  params : Arguments
  body : List Stmt
  scope : Scope
abbrev SuV : Type := Option (Str × Str × Arguments × FuncBody × Scope × Addr × List Str × Addr)
def suA (K : PySem.W.Frag) (d : SuD) : Addr := ma K (ga K d.cls) "__init__"
def suO (K : PySem.W.Frag) (d : SuD) : SuV := match K.lookup (suA K d) with
  | some ⟨_, _, .func fd, _⟩ => some (fd.name, fd.qualname, fd.params, fd.body, fd.scope, fd.globals, fd.closure.map (·.1), fd.builtins)
  | _ => none
def SuD.val (d : SuD) : SuV := some ("__init__", d.qual, d.params, .stmts d.body, d.scope, mainGlobals, [("__class__" : Str)], builtinsNs)
/-- the class -/
def clsB (K : PySem.W.Frag) (C : Addr) : Bool := match K.lookup C with
  | some ⟨.type "type", _, .cls cd, sl⟩ => (match cd.mro, sl.toList with
    | .ref C' :: bm, [_, _, _, _, some (.builtin n), _] => decide (C' = C) && (decide (n = "ValueError.__new__") && (!cd.hasDel && (cd.hasDict && (PySem.HandSPX.refsVE bm && eqO (PySem.W.alongIn K "__init__" bm) (some (some vi))))))
    | _, _ => false)
  | _ => false
/-- its def's code and cell -/
def codB (P : Program) (K : PySem.W.Frag) (C : Addr) (qual : Str) (fd : FuncData) : Bool := PySem.W.codeIn K fd.code qual && (decide (fd.defaults = .none) && ((match fd.code with
  | .ref kc => (match K.lookup kc with
    | some ⟨_, _, .fields vs, _⟩ => (match (vs[2]? : Option Value) with
      | some (Value.str file _) => ((P.main.file : Str) == file)
      | _ => false)
    | _ => false)
  | _ => false) && (match fd.closure with
    | [(_, cc)] => (match K.lookup cc with
      | some ⟨_, _, .cell (some (.ref C')), _⟩ => decide (C' = C)
      | _ => false)
    | _ => false)))
def SuD.ok (P : Program) (K : PySem.W.Frag) (d : SuD) : Bool := clsB K (ga K d.cls) && (eqO (PySem.W.findIn K (.ref (ga K d.cls)) "__setattr__") (some (some (.builtin "object.__setattr__"))) &&
  (decide (PySem.W.subIn K (.ref (ga K d.cls)) (.type "BaseException") = some true) && (decide (PySem.W.typeIn K (.ref (ga K d.cls)) = some (.type "type")) && (PySem.W.keepIn K (.ref (ga K d.cls)) &&
  (decide (PySem.W.subIn K (.ref (ga K d.cls)) (.ref (ga K d.cls)) = some true) && (decide (PySem.W.subIn K (.ref (ga K d.cls)) (.type "ValueError") = some true) && (eqO (PySem.W.nsIn K cStatics "thirdparty.any") (some none) &&
  (eqO (PySem.W.findIn K (.ref (ga K d.cls)) "__init__") (some (some (.ref (suA K d)))) && (decide (PySem.W.typeIn K (.ref (suA K d)) = some (.type "function")) && (eqO (PySem.W.findIn K (.ref (ga K d.cls)) d.fld) (some none) &&
  (match K.lookup (suA K d) with
    | some ⟨_, _, .func fd, _⟩ => codB P K (ga K d.cls) d.qual fd
    | _ => false)))))))))))
theorem clsB_ok {K : PySem.W.Frag} {C : Addr} (h : clsB K C = true) : (∃ nm q N bs bm sn sub ab col dd k0 k1 k2 k3 k5, K.lookup C = some (excClassObj nm q C N bs bm true sn sub ab col dd k0 k1 k2 k3 k5 "ValueError.__new__") ∧ PySem.HandSPX.refsVE bm = true) ∧
    ∀ cd, PySem.W.clsIn K C = some cd → PySem.W.alongIn K "__init__" (cd.mro.drop 1) = some (some vi) := by
  unfold clsB at h
  split at h
  · rename_i dd cd sl lk
    split at h
    · rename_i C' bm k0 k1 k2 k3 n k5 hm hs
      obtain ⟨h1, h⟩ := ba h
      obtain ⟨h2, h⟩ := ba h
      obtain ⟨h3, h⟩ := ba h
      obtain ⟨h4, h⟩ := ba h
      obtain ⟨h5, h6⟩ := ba h
      have e1 : C' = C := of_decide_eq_true h1
      have e2 : n = "ValueError.__new__" := of_decide_eq_true h2
      obtain ⟨nm, bs, mro, ns, qn, hd, sn, sub, ab, col, del⟩ := cd
      dsimp only at hm h3 h4
      have e3 : del = false := by simpa using h3
      have e4 : sl = #[k0, k1, k2, k3, some (.builtin n), k5] := by
        apply Array.ext'
        exact hs
      subst e1 e2 hm e3 e4 h4
      refine ⟨⟨nm, qn, ns, bs, bm, sn, sub, ab, col, dd, k0, k1, k2, k3, k5, lk, h5⟩, fun cd hc => ?_⟩
      unfold PySem.W.clsIn at hc
      rw [lk] at hc
      cases hc
      exact eqO_ok h6
    · cases h
  · cases h
theorem SuD.sup {P : Program} {K : PySem.W.Frag} {d : SuD} (e : suO K d = d.val) (c : d.ok P K = true) (par : ∃ ar : Arg, (d.params.posonlyargs ++ d.params.args).head? = some ar ∧ ar.arg = "self") (top : (P.main.scope.names.lookup ("super" : Str)).isSome = false)
    (kind : d.scope.kind = .function) (co : d.scope.isCoroutine = false) (gen : d.scope.isGenerator = false) (sf : d.scope.names.lookup ("self" : Str) = some .local) (sx : d.scope.names.lookup d.x = some .local) (sc : d.scope.names.lookup ("__class__" : Str) = some .free) (ss : d.scope.names.lookup ("super" : Str) = some .globalImplicit)
    (nx : d.x ≠ "self") (only : ∀ y ∈ d.scope.names, y.2 ≠ .cell ∧ (y.2 = .free → y.1 = "__class__"))
    (bind : ∀ (clo : List (Str × Addr)) (kV doc pm : Value) (an : Option Addr) (cdv ct : Value) (us : List Value), us.length = 2 → bindArgs { name := "__init__", qualname := d.qual, params := d.params, body := .stmts d.body, scope := d.scope, globals := mainGlobals, closure := clo, defaults := .none, kwdefaults := kV, doc, pyModule := pm, annotations := an, code := cdv, closureTuple := ct, builtins := builtinsNs } ⟨us, []⟩ = pure ((["self", d.x] : List Str).zip us)) :
    ∃ cc fd, Sup P K (ga K d.cls) (suA K d) cc fd d.qual d.x d.scope ∧ fd.body = .stmts d.body ∧ Binds K fd ["self", d.x] [] ∧ PySem.W.findIn K (.ref (ga K d.cls)) "__init__" = some (some (.ref (suA K d))) ∧ PySem.W.typeIn K (.ref (suA K d)) = some (.type "function") ∧ PySem.W.findIn K (.ref (ga K d.cls)) d.fld = some none := by
  obtain ⟨c1, c⟩ := ba c
  obtain ⟨c2, c⟩ := ba c
  obtain ⟨c3, c⟩ := ba c
  obtain ⟨c4, c⟩ := ba c
  obtain ⟨c5, c⟩ := ba c
  obtain ⟨c6, c⟩ := ba c
  obtain ⟨c7, c⟩ := ba c
  obtain ⟨c8, c⟩ := ba c
  obtain ⟨c9, c⟩ := ba c
  obtain ⟨c10, c⟩ := ba c
  obtain ⟨c11, c12⟩ := ba c
  obtain ⟨k1, k2⟩ := clsB_ok c1
  unfold suO at e
  cases q : K.lookup (suA K d) with
  | none =>
    rw [q] at c12
    cases c12
  | some o =>
    obtain ⟨oc, od, dt, osl⟩ := o
    rw [q] at c12 e
    cases dt with
    | func fd =>
      obtain ⟨n1, n2, n3, n4, n5, n6, n7, n8, n9, n10, n11, n12, n13, n14, n15⟩ := fd
      have e2 : (some (n1, n2, n3, n4, n5, n6, n7.map (·.1), n15) : SuV) = some (("__init__" : Str), d.qual, d.params, FuncBody.stmts d.body, d.scope, mainGlobals, [("__class__" : Str)], builtinsNs) := e
      simp only [Option.some.injEq, Prod.mk.injEq] at e2
      obtain ⟨h1, h2, h3, h4, h5, h6, h7, h9⟩ := e2
      obtain ⟨z1, z2⟩ := ba c12
      obtain ⟨z3, z4⟩ := ba z2
      obtain ⟨z5, z6⟩ := ba z4
      have y3 : n8 = .none := of_decide_eq_true z3
      dsimp only at z1 z5 z6
      subst h1 h2 h3 h4 h5 h6 h9 y3
      split at z6
      · rename_i nc cc
        have h7 : nc = ("__class__" : Str) := by simpa using h7
        subst h7
        split at z6
        · rename_i o1 o2 C' o3 lc
          have e5 : C' = ga K d.cls := of_decide_eq_true z6
          subst e5
          split at z5
          · rename_i kc
            split at z5
            · rename_i o4 o5 vs o6 lk
              split at z5
              · rename_i file tf hv
                refine ⟨cc, _, ⟨⟨oc, od, osl, q⟩, rfl, rfl, par, rfl, rfl, rfl, z1, ⟨kc, _, vs, file, tf, rfl, lk, rfl, hv, z5⟩, top, ⟨_, lc, rfl⟩, kind, co, gen, sf, sx, sc, ss, nx, only, ⟨k1, eqO_ok c2, of_decide_eq_true c3, of_decide_eq_true c4, c5⟩, of_decide_eq_true c6, of_decide_eq_true c7, eqO_ok c8, k2⟩, rfl, .all fun us hu => bind _ _ _ _ _ _ _ us hu, eqO_ok c9, of_decide_eq_true c10, eqO_ok c11⟩
              · cases z5
            · cases z5
          · cases z5
        · cases z6
      · cases z6
    | _ => cases c12
theorem says_at {fa : List Fa} {fn : List DefD} {ts : List Tab} {tf : List Defn} {ex : PySem.W.Frag → Bool} {w : World} {h : Heap} {as : List Addr} (e1 : obsT fa fn ts (frT h.get? as) = valT fn ts w)
    (e2 : (ex (frT h.get? as) && tabsB h.get? tf (frT h.get? as)) = true) : SaysX fa fn ts tf ex w h (frT h.get? as) := by
  obtain ⟨g1, g2⟩ := ba e2
  have each : ∀ p ∈ tf, PySem.W.codeHdIn (frT h.get? as) (cT (frT h.get? as) p).1 (cT (frT h.get? as) p).2 = true ∧ ∃ o, h.get? (cT (frT h.get? as) p).2 = some o ∧ emptyTab o = true := fun p hp => by
    obtain ⟨g3, g4⟩ := ba (List.all_eq_true.mp g2 p hp)
    refine ⟨g3, ?_⟩
    split at g4
    · rename_i o q
      exact ⟨o, q, g4⟩
    · cases g4
  refine ⟨e1, g1, fun p hp => (each p hp).1, fun p hp => ?_, fun p hp => ?_⟩
  · obtain ⟨_, o, q, z⟩ := each p hp
    exact frT_none q z
  · obtain ⟨_, o, q, z⟩ := each p hp
    rw [q, emptyTab_eq z]
def asS (g : Addr → Option Obj) (n : Nat) : List Addr := cStatics :: asD g n
abbrev AlS : Type := AlP × List SuV
section
variable (P : Program) (n : Nat) (fa : List Fa) (fn : List DefD) (ts : List Tab) (tf : List Defn) (ex : PySem.W.Frag → Bool) (ps : List PrD) (ss : List SuD)
def exS (K : PySem.W.Frag) : Bool := ex K && ss.all fun d => d.ok P K
def obsAt (g : Addr → Option Obj) (as : List Addr) : AlS := (((obsT fa fn ts (frT g as), (exS P ex ss (frT g as) && ps.all fun d => d.ok (frT g as)) && tabsB g tf (frT g as)), ps.map fun d => fnP (frT g as) (gtrA (frT g as) d.cls d.f)), ss.map (suO (frT g as)))
def obsS (g : Addr → Option Obj) : AlS := obsAt P fa fn ts tf ex ps ss g (asS g n)
def valS (w : World) : AlS := (valP fn ts ps w, ss.map SuD.val)
structure SaysS (w : World) (h : Heap) (K : PySem.W.Frag) : Prop where
  p : SaysP fa fn ts tf (exS P ex ss) ps w h K
  s : ss.map (suO K) = ss.map SuD.val
def hookS : PySem.W.Hook where
  α := AlS
  obs := fun s => obsS P n fa fn ts tf ex ps ss s.heap.get?
  val := fun w => valS fn ts ps ss w
  says := fun w h => ∃ K : PySem.W.Frag, K.In h ∧ SaysS P fa fn ts tf ex ps ss w h K
  of := fun _ _ e => ⟨_, frT_in, ⟨says_at (congrArg (fun z : AlS => z.1.1.1) e) (congrArg (fun z : AlS => z.1.1.2) e), congrArg (fun z : AlS => z.1.2) e⟩, congrArg (fun z : AlS => z.2) e⟩
  keeps := fun _ _ _ ⟨K, hK, c⟩ k => ⟨K, PySem.W.Frag.In.keeps hK k, ⟨⟨c.p.x.t, c.p.x.more, c.p.x.hd, c.p.x.out, fun p hp => k _ _ (c.p.x.empty p hp)⟩, c.p.p⟩, c.s⟩
end
section
variable {P : Program} {n : Nat} {fa : List Fa} {fn : List DefD} {ts : List Tab} {tf : List Defn} {ex : PySem.W.Frag → Bool} {ps : List PrD} {ss : List SuD} {w : World} {h : Heap} {K : PySem.W.Frag}
theorem obsS_eq {g : Addr → Option Obj} {s : Shared} (h : ∀ a, g a = s.heap.get? a) : obsS P n fa fn ts tf ex ps ss g = (hookS P n fa fn ts tf ex ps ss).obs s := by
  have e : g = s.heap.get? := funext h
  rw [e] <;> rfl
theorem SaysS.su (c : SaysS P fa fn ts tf ex ps ss w h K) (i : Nat) {d : SuD} (e : ss[i]? = some d := by rfl) : suO K d = d.val ∧ d.ok P K = true := by
  refine ⟨?_, List.all_eq_true.mp (ba c.p.exB).2 d (List.mem_of_getElem? e)⟩
  have e2 : (ss.map (suO K))[i]? = (ss.map SuD.val)[i]? := by rw [c.s]
  rw [List.getElem?_map, List.getElem?_map, e] at e2
  exact Option.some.inj e2
end
section
variable {P : Program} {n : Nat} {fa : List Fa} {fn : List DefD} {ts : List Tab} {tf : List Defn} {ex ek : PySem.W.Frag → Bool} {ps : List PrD} {ss : List SuD} {w : World} {h : Heap} {K : PySem.W.Frag}
theorem SaysS.weak (c : SaysS P fa fn ts tf (fun K => ex K && ek K) ps ss w h K) : SaysP fa fn ts tf ex ps w h K := by
  refine ⟨⟨c.p.x.t, ?_, c.p.x.hd, c.p.x.out, c.p.x.empty⟩, c.p.p⟩
  obtain ⟨h1, h2⟩ := ba c.p.x.more
  obtain ⟨h3, _⟩ := ba h1
  obtain ⟨h4, _⟩ := ba h3
  show (ex K && ps.all fun d => d.ok K) = true
  rw [h4, h2]
  rfl
theorem SaysS.more (c : SaysS P fa fn ts tf (fun K => ex K && ek K) ps ss w h K) : ek K = true := (ba (ba c.p.exB).1).2
end
/-- what isinstance asks of the class -/
def excB (K : PySem.W.Frag) (C : Addr) : Bool := xfB K C && (eqO (PySem.W.findIn K (.ref C) "__class__") (some (some (.builtin "object.__class__"))) && (eqO (PySem.W.specialIn K (.builtin "object.__class__") "__get__") (some (some (.builtin "getset_descriptor.__get__"))) &&
  (decide (PySem.W.takesIn K (.builtin "object.__class__") = some true) && decide (PySem.W.mroIn K C (.type "object") = some true))))
theorem excB_ok {K : PySem.W.Frag} {C : Addr} (h : excB K C = true) : XfC K C ∧ ExcC K C := by
  obtain ⟨h1, h⟩ := ba h
  obtain ⟨h2, h⟩ := ba h
  obtain ⟨h3, h⟩ := ba h
  obtain ⟨h4, h5⟩ := ba h
  have x := xfB_ok h1
  exact ⟨x, ⟨x.ga, x.gg, x.exC, x.hdC, eqO_ok h2, eqO_ok h3, of_decide_eq_true h4, of_decide_eq_true h5⟩⟩
end Hd

-- part H08
set_option Elab.async false
set_option linter.all false
set_option maxRecDepth 100000
set_option maxHeartbeats 0
namespace K8
open PySem PySem.Spec PyProof.Rows L2
def top (i : Nat) : Stmt := PySem.Challenge.pw_whoevermay_k79_entries_of_a_ledger.main.body.getD i (.Pass ⟨0, 0, 0, 0⟩)
abbrev sis_name : Stmt := top 8
abbrev s_law_row : Stmt := top 13
abbrev s_law_numbers : Stmt := top 14
abbrev s_law_is_integer : Stmt := top 15
abbrev s_law_names : Stmt := top 16
abbrev s_law_owners : Stmt := top 17
abbrev s_law_standing : Stmt := top 18
abbrev s_law_may : Stmt := top 19
abbrev s_law_has : Stmt := top 20
abbrev s_law_filled : Stmt := top 21
abbrev s_law_granted : Stmt := top 22
abbrev s_law_refused : Stmt := top 23
abbrev s_law_told : Stmt := top 24
abbrev slaw : Stmt := top 25
abbrev sGrant___init__ : Stmt := inClass (top 10) 0
abbrev sLedger___init__ : Stmt := inClass (top 11) 0
abbrev sLedger_owner : Stmt := inClass (top 11) 3
abbrev sLedger__standing_of : Stmt := inClass (top 11) 5
abbrev sLedger_may_pass : Stmt := inClass (top 11) 7
abbrev sLedger_grant : Stmt := inClass (top 11) 9
abbrev sLedger_grants : Stmt := inClass (top 11) 1
def dis_name : He.DefD := ⟨("is_name", none), "is_name", "is_name", defArgs sis_name, defBody sis_name, defScope sis_name, [], []⟩
def d_law_row : He.DefD := ⟨("_law_row", none), "_law_row", "_law_row", defArgs s_law_row, defBody s_law_row, defScope s_law_row, [], []⟩
def d_law_numbers : He.DefD := ⟨("_law_numbers", none), "_law_numbers", "_law_numbers", defArgs s_law_numbers, defBody s_law_numbers, defScope s_law_numbers, [], []⟩
def d_law_is_integer : He.DefD := ⟨("_law_is_integer", none), "_law_is_integer", "_law_is_integer", defArgs s_law_is_integer, defBody s_law_is_integer, defScope s_law_is_integer, [], []⟩
def d_law_names : He.DefD := ⟨("_law_names", none), "_law_names", "_law_names", defArgs s_law_names, defBody s_law_names, defScope s_law_names, [], []⟩
def d_law_owners : He.DefD := ⟨("_law_owners", none), "_law_owners", "_law_owners", defArgs s_law_owners, defBody s_law_owners, defScope s_law_owners, [], []⟩
def d_law_standing : He.DefD := ⟨("_law_standing", none), "_law_standing", "_law_standing", defArgs s_law_standing, defBody s_law_standing, defScope s_law_standing, [], []⟩
def d_law_may : He.DefD := ⟨("_law_may", none), "_law_may", "_law_may", defArgs s_law_may, defBody s_law_may, defScope s_law_may, [], []⟩
def d_law_has : He.DefD := ⟨("_law_has", none), "_law_has", "_law_has", defArgs s_law_has, defBody s_law_has, defScope s_law_has, [], []⟩
def d_law_filled : He.DefD := ⟨("_law_filled", none), "_law_filled", "_law_filled", defArgs s_law_filled, defBody s_law_filled, defScope s_law_filled, [], []⟩
def d_law_granted : He.DefD := ⟨("_law_granted", none), "_law_granted", "_law_granted", defArgs s_law_granted, defBody s_law_granted, defScope s_law_granted, [], []⟩
def d_law_refused : He.DefD := ⟨("_law_refused", none), "_law_refused", "_law_refused", defArgs s_law_refused, defBody s_law_refused, defScope s_law_refused, [], []⟩
def d_law_told : He.DefD := ⟨("_law_told", none), "_law_told", "_law_told", defArgs s_law_told, defBody s_law_told, defScope s_law_told, [], []⟩
def dlaw : He.DefD := ⟨("law", none), "law", "law", defArgs slaw, defBody slaw, defScope slaw, [], []⟩
def dGrant___init__ : He.DefD := ⟨("Grant", some "__init__"), "__init__", "Grant.__init__", defArgs sGrant___init__, defBody sGrant___init__, defScope sGrant___init__, [], []⟩
def dLedger___init__ : He.DefD := ⟨("Ledger", some "__init__"), "__init__", "Ledger.__init__", defArgs sLedger___init__, defBody sLedger___init__, defScope sLedger___init__, [], []⟩
def dLedger_owner : He.DefD := ⟨("Ledger", some "owner"), "owner", "Ledger.owner", defArgs sLedger_owner, defBody sLedger_owner, defScope sLedger_owner, [], []⟩
def dLedger__standing_of : He.DefD := ⟨("Ledger", some "_standing_of"), "_standing_of", "Ledger._standing_of", defArgs sLedger__standing_of, defBody sLedger__standing_of, defScope sLedger__standing_of, [], []⟩
def dLedger_may_pass : He.DefD := ⟨("Ledger", some "may_pass"), "may_pass", "Ledger.may_pass", defArgs sLedger_may_pass, defBody sLedger_may_pass, defScope sLedger_may_pass, [], []⟩
def dLedger_grant : He.DefD := ⟨("Ledger", some "grant"), "grant", "Ledger.grant", defArgs sLedger_grant, defBody sLedger_grant, defScope sLedger_grant, [], [("may_pass", .bl false)]⟩
def fn : List He.DefD := [dis_name, d_law_row, d_law_numbers, d_law_is_integer, d_law_names, d_law_owners, d_law_standing, d_law_may, d_law_has, d_law_filled, d_law_granted, d_law_refused, d_law_told, dlaw, dGrant___init__, dLedger___init__, dLedger_owner, dLedger__standing_of, dLedger_may_pass, dLedger_grant]
def pLedger_grants : Hd.PrD := ⟨"Ledger", "grants", "grants", "Ledger.grants", defArgs sLedger_grants, defBody sLedger_grants, defScope sLedger_grants⟩
def prs : List Hd.PrD := [pLedger_grants]
def fa : List He.Fa := [.glo "is_name", .glo "_law_row", .glo "_law_numbers", .glo "_law_is_integer", .glo "_law_names", .glo "_law_owners", .glo "_law_standing", .glo "_law_may", .glo "_law_has", .glo "_law_filled", .glo "_law_granted", .glo "_law_refused", .glo "_law_told", .glo "law", .glo "Grant", .glo "Ledger", .glo "InvalidEntry", .glo "WhoevermayError", .glo "UnknownName", .free "len", .free "all", .free "any", .free "tuple", .free "abs", .free "int", .free "range", .free "max", .free "min", .free "isinstance", .free "bool", .free "list", .free "dict", .free "super", .free "ValueError", .str "LETTERS" "abcdefghijklmnopqrstuvwxyz", .str "SIGNS" "abcdefghijklmnopqrstuvwxyz0123456789", .cls "Grant", .mkr "Grant", .cls "Ledger", .mkr "Ledger", .noat "Grant" "giver", .noat "Grant" "receiver", .noat "Grant" "right", .noat "Grant" "may_pass", .noat "Ledger" "owners", .noat "Ledger" "_owner_of", .noat "Ledger" "_grants", .noat "Ledger" "_removed", .noat "Ledger" "_standing", .exc "InvalidEntry", .exc "WhoevermayError", .exm "InvalidEntry" "InvalidEntry" true, .exm "InvalidEntry" "UnknownName" false, .exm "UnknownName" "UnknownName" true, .exm "UnknownName" "InvalidEntry" false, .meth "Ledger" "owner", .meth "Ledger" "_standing_of", .meth "Ledger" "may_pass", .meth "Ledger" "grant"]
def tf : List He.Defn := [("is_name", none), ("Ledger", some "__init__"), ("Ledger", some "may_pass")]
def tbs : List He.Tab := []
def exq : PySem.W.Frag → Bool := fun K => true
abbrev sUnknownName___init__ : Stmt := inClass (top 4) 0
def suUnknownName : Hd.SuD := ⟨"UnknownName", "name", "name", "UnknownName.__init__", defArgs sUnknownName___init__, defBody sUnknownName___init__, defScope sUnknownName___init__⟩
def sus : List Hd.SuD := [suUnknownName]
def exk : PySem.W.Frag → Bool := fun K => (Hd.excB K (He.ga K "UnknownName") && (Hd.excB K (He.ga K "InvalidEntry") && (decide (PySem.W.kitOne K (.ref (He.ga K "InvalidEntry")) (.ref (He.ga K "UnknownName")) = some false) && (decide (PySem.W.kitOne K (.ref (He.ga K "InvalidEntry")) (.ref (He.ga K "WhoevermayError")) = some true) && (decide (PySem.W.kitOne K (.ref (He.ga K "InvalidEntry")) (.type "ValueError") = some true) && true)))))
abbrev R : PySem.W.OpenRow := PySem.W.OpenLaw.row PySem.Challenge.rw_whoevermay_k79_entries_of_a_ledger
abbrev hk : PySem.W.Hook := Hd.hookS R.prog 6 fa fn tbs tf (fun K => exq K && exk K) prs sus
def ob (s : PySem.W.SharedT) : Hd.AlS := Hd.obsS R.prog 6 fa fn tbs tf (fun K => exq K && exk K) prs sus (HandSHeadRun.getT s)
theorem ob_eq (s : PySem.W.SharedT) : ob s = hk.obs s.abs := Hd.obsS_eq (HandSHeadRun.getT_eq s)
def loose : List Str := (["_wall", "WhoevermayError", "InvalidEntry", "UnknownName", "LETTERS", "SIGNS", "is_name", "Grant", "Ledger", "_law_row", "_law_numbers", "_law_is_integer", "_law_names", "_law_owners", "_law_standing", "_law_may", "_law_has", "_law_filled", "_law_granted", "_law_refused"] : List Str) ++ (["_law_told"] : List Str)
def steps : Nat := 8000
theorem runF (w : World) : HandSHeadRun.RunEq R (PySem.W.view R.prog [25]) hk ob steps loose (PySem.World.withFollow w "special-get-raises" false) := by
  intro os
  kernel_rfl
theorem runT (w : World) : HandSHeadRun.RunEq R (PySem.W.view R.prog [25]) hk ob steps loose (PySem.World.withFollow w "special-get-raises" true) := by
  intro os
  kernel_rfl
theorem run (w : World) : HandSHeadRun.RunEq R (PySem.W.view R.prog [25]) hk ob steps loose w := PySem.W.byRow2 "special-get-raises" (P := HandSHeadRun.RunEq R (PySem.W.view R.prog [25]) hk ob steps loose) runF runT w
end K8

-- part GenAll
set_option Elab.async false
set_option linter.all false
set_option maxRecDepth 100000
set_option maxHeartbeats 2000000
/-! all, any of a generator expression over anything that a for walks, the element any expression that raises nothing -/
namespace GA
open PySem PySem.Spec PyProof.Rows L2 GenW GxR

theorem over_gen {A : Around} {elt : Expr} {gs : List Comprehension} {sc : Scope} {pos : Pos} {it acc : Value} {env : Env} :
    A.over (.compLoop (.GeneratorExp elt gs sc pos) 0 it acc env) [] = A.deeper env := by
  first
    | rfl
    | (obtain ⟨hd, d, fr, gs, u⟩ := A; simp [Around.over, Around.deeper, marksOver, frameCount, unitsOf, envsOf, guardsOf, pushEnvs, pushGuards, Code.envs, Code.env?, Code.isFrame, Code.guards, Code.isGuard, Code.weight, Code.frames, Code.isCreation, Code.isCaller, Code.cUnits])
theorem over_gen0 {A : Around} {elt : Expr} {gs : List Comprehension} {sc : Scope} {pos : Pos} {it acc : Value} {env : Env} :
    A.over (.compStart (.GeneratorExp elt gs sc pos) 0 it acc env) [] = A.deeper env := by
  first
    | rfl
    | (obtain ⟨hd, d, fr, gs, u⟩ := A; simp [Around.over, Around.deeper, marksOver, frameCount, unitsOf, envsOf, guardsOf, pushEnvs, pushGuards, Code.envs, Code.env?, Code.isFrame, Code.guards, Code.isGuard, Code.weight, Code.frames, Code.isCreation, Code.isCaller, Code.cUnits])

/-- the context of a generator expression's frame, consumed by all or any; the iterator's objects at fp -/
abbrev gcx (X : Cx) (s : Shared) (H : Hp) (scope : Scope) (cl : List (Str × Addr)) (C : Addr) (code : Value) (fp : List Addr) : Cx :=
  { X with A := X.A.in1.in1.deeper (genEnv scope cl C code builtinsNs X.env), s_0 := s, H_0 := H, env := genEnv scope cl C code builtinsNs X.env, outer := X.stack, stack := genEnv scope cl C code builtinsNs X.env :: X.stack, ex := fp, fn := fun _ => false, calm := true, pn := [], xe := fun _ _ => False }

theorem room_gen {k : Nat} {X : Cx} {s : Shared} {H : Hp} {scope : Scope} {cl : List (Str × Addr)} {C : Addr} {code : Value} {fp : List Addr} (r : Room (k + 1) X.A) : Room k (gcx X s H scope cl C code fp).A :=
  ⟨r.hd, by have := r.dp; show X.A.depth + 1 + 3 * k + 5 < _; omega, by have := r.un; show X.A.units + 1 + 1 + 3 + 16 * k + 200 < _; omega⟩

section
variable {X : Cx} {pins : List (Addr × Obj)} {σ : L2.St} {H : Hp} {s : Shared}

theorem gen_start {scope : Scope} {own : List (Str × Nat)} {fp : List Addr} {code : Value} {h' : Heap} {it : Value} {go : Obj} {G : Array GenState} {tk : Nat} (hc : X.calm = true) (I : Inv X pins σ H s) (ok : BlkOk X.N X.env.scope scope own) (hN : X.N.Nodup)
    (hfp : ∀ b ∈ fp, FpOk X pins H b ∧ b < s.heap.objs.size) (hncell : ∀ y ∈ scope.names, y.2 ≠ .cell)
    (hn : h'.Ns s.heap.objs.size (fun y => if y = (".0" : Str) then some it else none)) (hs : Heap.SameBut s.heap.objs.size (s.heap.push { cls := .type "frame", data := .dict #[] }) h')
    (hG : AllBare G) (hgo : ∀ v, go.data ≠ .cell v) (hgp : (h'.push go).get? h'.objs.size = some go) (h0 : scope.names.lookup (".0" : Str) = some .local) :
    Inv (gcx X s H scope (cloFrom X.env.cells scope.names []) s.heap.objs.size code fp) [(h'.objs.size, go)] (wipe σ (own.map (·.2))) H { s with gens := G, toks := tk, heap := h'.push go } := by
  have hfree : ∀ y ∈ scope.names, y.2 = .free → ∃ c, X.env.cells.lookup y.1 = some c := fun y hy e => by
    rcases ok.free y hy e with k | k
    · exact I.ok.has _ (.inl k)
    · exact I.ok.has _ (.inr k)
  have hsz : h'.objs.size = s.heap.objs.size + 1 := by rw [hs.1, Heap.size_push]
  have kp0 : ∀ b o, s.heap.get? b = some o → h'.get? b = some o := fun b o e => hs.extBut b o (Nat.ne_of_lt (Heap.lt_size e)) (Heap.get?_push_of_some _ e)
  have kp : ∀ b o, s.heap.get? b = some o → (h'.push go).get? b = some o := fun b o e => Heap.get?_push_of_some _ (kp0 b o e)
  have cm : ∀ {y c}, (y, c) ∈ cloFrom X.env.cells scope.names [] → X.env.cells.lookup y = some c ∧ c < s.heap.objs.size := fun {y c} hm => by
    rcases cloFrom_mem hm with hm | ⟨h1, rfl⟩
    · cases hm
    · obtain ⟨c, hc⟩ := hfree _ h1 rfl
      rw [hc]
      obtain ⟨w, z⟩ := I.cell _ _ hc
      exact ⟨rfl, z.lt⟩
  have look : ∀ {y}, scope.names.lookup y = some .free → ∃ c, (cloFrom X.env.cells scope.names []).lookup y = some c ∧ X.env.cells.lookup y = some c := fun {y} hl => by
    have hy : (y, NameKind.free) ∈ scope.names := PySem.mem_of_lookup hl
    obtain ⟨c', e'⟩ := mem_lookup (cloFrom_has (cells := X.env.cells) (acc := []) hy)
    exact ⟨c', e', (cm (PySem.mem_of_lookup e')).1⟩
  have okB : (gcx X s H scope (cloFrom X.env.cells scope.names []) s.heap.objs.size code fp).Ok := by
    refine ⟨I.ok.mod, ok.kind, I.ok.glob, rfl, Nat.le_refl _, fun y z c e1 e2 => ?_, fun y hy => ?_, fun y c z e => ?_, fun _ => I.ok.hd hc, Around.frames_deeper I.ok.frames, .inr ⟨rfl, rfl⟩, fun b hb => ⟨?_, fun y c e z => ?_⟩, I.bs, Nat.le_trans I.ok.bsz I.sz, fun b o e hb => ?_, fun b hb z => ?_, I.stack, I.stkFree⟩
    · exact I.ok.inj y z c (cm (PySem.mem_of_lookup e1)).1 (cm (PySem.mem_of_lookup e2)).1
    · have hy : scope.names.lookup y = some .cell ∨ scope.names.lookup y = some .free := hy
      rcases hy with hy | hy
      · exact absurd rfl (hncell _ (PySem.mem_of_lookup hy))
      · obtain ⟨c, h1, _⟩ := look hy
        exact ⟨c, h1⟩
    · exact absurd (show false = true from z) Bool.false_ne_true
    · exact Nat.ne_of_lt (hfp b hb).2
    · exact (hfp b hb).1.2.2.2.2.1 y c (cm (PySem.mem_of_lookup e)).1 z
    · rcases (hfp b hb).1.2.2.2.1 with z | z
      · exact I.ok.noex b o e z
      · exact absurd (Nat.lt_of_lt_of_le (Heap.lt_size e) (Nat.le_trans I.ok.bsz z)) (Nat.lt_irrefl _)
    · rcases List.mem_cons.mp (I.stkSub b z) with z | z
      · exact (hfp b hb).1.2.1 z
      · exact (hfp b hb).1.2.2.1 z
  have fr : ∀ b, s.heap.objs.size ≤ b → H b = none := fun b hb => I.hok.fresh hb
  refine ⟨okB, rfl, hG, Un.kept kp, ⟨_, hn.push _, fun i y av e1 e2 e3 => ?_⟩, fun y c e => ?_, fr _ (Nat.le_refl _), fun y c e => ?_, fun p hp => ?_, I.hok.kept kp, by rw [wipe_length]; exact I.len⟩
  · obtain ⟨e2, hne⟩ := wipe_some e2
    have hfr : scope.names.lookup y = some .free := by
      have no : ∀ k, (y, k) ∈ scope.names → ¬ (k = .local ∨ k = .cell) := fun k hm hh => by
        rcases ok.own _ hm hh with e' | e'
        · obtain ⟨p, hp, hpy⟩ := List.mem_map.mp e'
          have e3 := ok.ix p hp
          have : p.1 = y := hpy
          rw [this] at e3
          exact hne (List.mem_map.mpr ⟨p, hp, nodup_ix hN e3 e1⟩)
        · exact e' (List.mem_of_getElem? e1)
      have e3 : Vis scope y := e3
      rcases e3 with e3 | e3 | e3
      · exact absurd (.inl rfl) (no _ (PySem.mem_of_lookup e3))
      · exact absurd (.inr rfl) (no _ (PySem.mem_of_lookup e3))
      · exact e3
    obtain ⟨m, hn, hl⟩ := I.loc
    have hvis : Vis X.env.scope y := (ok.free _ (PySem.mem_of_lookup hfr) rfl).elim (fun k => .inr (.inl k)) (fun k => .inr (.inr k))
    obtain ⟨w, r, q⟩ := hl i y av e1 e2 hvis
    refine ⟨w, r, .inr ⟨.inr hfr, ?_⟩⟩
    obtain ⟨c, h1, h2⟩ := look hfr
    rcases q with ⟨k, _⟩ | ⟨_, c', e', z⟩
    · have k : X.env.scope.names.lookup y = some .local := k
      rcases ok.free _ (PySem.mem_of_lookup hfr) rfl with k' | k' <;> rw [show X.env.scope.names.lookup y = _ from k'] at k <;> cases k
    · rw [h2] at e'; cases e'
      exact ⟨c, h1, z.keeps kp⟩
  · obtain ⟨w, z⟩ := I.cell y c (cm (PySem.mem_of_lookup e)).1
    exact ⟨w, z.keeps kp⟩
  · exact I.freeC y c (cm (PySem.mem_of_lookup e)).1
  · have hp : p ∈ ([] : List (Addr × Obj)) ++ [(h'.objs.size, go)] := hp
    rw [List.nil_append, List.mem_singleton] at hp
    subst hp
    refine ⟨hgp, fr _ (by show s.heap.objs.size ≤ h'.objs.size; omega), ?_, fun z => ?_, hgo⟩
    · show h'.objs.size ≠ s.heap.objs.size; omega
    · rcases List.mem_cons.mp (I.stkSub _ z) with z | z
      · have := I.lt; rw [← z] at this; show False; have h2 : h'.objs.size < s.heap.objs.size := this; omega
      · exact I.nofs (show s.heap.objs.size ≤ h'.objs.size by omega) z

/-- what the consumer may do between two items -/
structure Slept0 (s s' : Shared) : Prop where
  os : s'.os = s.os
  bare : AllBare s'.gens
  keep : ∀ b o, s.heap.get? b = some o → s'.heap.get? b = some o
theorem Slept0.inv {Y : Cx} {pins : List (Addr × Obj)} {σ : L2.St} {H : Hp} {s s' : Shared} (z : Slept0 s s') (I : Inv Y pins σ H s) : Inv Y pins σ H s' :=
  I.call' (ch := []) z.os (Un.kept z.keep) (I.hok.kept z.keep) z.bare fun b hb => absurd hb (by simp)

/-- the reading: d is the truth that ends the walk (all: False, any: True) -/
@[irreducible] def tGen (d : Bool) (P : Addr) (wi : TI) (g : TG) (te : TE) (vs : List Nat) : TE := fun σ H Q => wi σ H fun J H1 => TabG H1 P ∧ ∀ H2, Tabbed P H1 H2 →
  ∃ W : Nat → Nat → Hp → Prop, (∃ m, W 0 m H2) ∧ ∀ i m H, W i m H →
    (J.stop i H ∧ Q (.bl (!d)) H) ∨ (J.go i H ∧ ∃ Nx : Hp → Prop, (∀ H', Nx H' → ∃ m', m' < m ∧ W (i + 1) m' H') ∧
      ∀ x H', J.yld i H x H' → g x (wipe σ vs) H' fun σ2 H3 => wipe σ2 vs = wipe σ vs ∧ te σ2 H3 fun y H4 => ∃ b, y = .bl b ∧ (b = d → Q (.bl d) H4) ∧ (b ≠ d → Nx H4))
end

/-- an item is handed out -/
def gY (Y : Cx) (pn : List (Addr × Obj)) (σw : L2.St) (d : Bool) (Q : VK) : Protocol := fun _ _ v s kap =>
  ∃ b H', v = .bool b ∧ Inv Y pn σw H' s ∧ (b = d → Q (.bl d) H') ∧ (b ≠ d → ∀ s'', Slept0 s s'' → kap (.send .none) s'')
def gP (Y : Cx) (pn : List (Addr × Obj)) (σw : L2.St) (d : Bool) (Q : VK) : Nat → Shared → Shared → Prop := fun _ _ s => ∃ H', Inv Y pn σw H' s ∧ Q (.bl (!d)) H'
def gR (Y : Cx) (pn : List (Addr × Obj)) (σw : L2.St) (d : Bool) (Q : VK) : GenEnd := fun n s₀ r s => r = .ok .next ∧ gP Y pn σw d Q n s₀ s

section
variable {Y : Cx} {A : Around} {elt tg iter : Expr} {scope : Scope} {pos : Pos} {it : Addr} {fp : List Addr} {tn : Nat → Heap → Prop} {J : It} {pn : List (Addr × Obj)} {σ : L2.St} {vs : List Nat} {d : Bool} {Q : VK} {g : TG} {te : TE} {W : Nat → Nat → Hp → Prop}
theorem seg_loop (hA : Y.A = A.deeper Y.env) (hcalm : Y.calm = true) (hco : Y.env.scope.isCoroutine = false) (hxe : Y.xe = fun _ _ => False)
    (T : Turn Y.prog Y.w Y.K tg J fp it tn) (hex : Y.ex = fp) (hpn : ∀ b ∈ fp, ∀ p ∈ Y.pn ++ pn, p.1 ≠ b) (pg : PG Y tg g) (pe : PE Y elt te)
    (turn : ∀ i m H, W i m H → (J.stop i H ∧ Q (.bl (!d)) H) ∨ (J.go i H ∧ ∃ Nx : Hp → Prop, (∀ H', Nx H' → ∃ m', m' < m ∧ W (i + 1) m' H') ∧
      ∀ x H', J.yld i H x H' → g x (wipe σ vs) H' fun σ2 H3 => wipe σ2 vs = wipe σ vs ∧ te σ2 H3 fun y H4 => ∃ b, y = .bl b ∧ (b = d → Q (.bl d) H4) ∧ (b ≠ d → Nx H4))) :
    ∀ (n m i : Nat) (s₀ s : Shared) (H : Hp), m < n → W i m H → Inv Y pn (wipe σ vs) H s → tn i s.heap → (∀ b ∈ fp, H b = none) →
      Seg (model Y.prog Y.w) A (gR Y pn (wipe σ vs) d Q) (gY Y pn (wipe σ vs) d Q) n s₀ (.compLoop (.GeneratorExp elt [⟨tg, iter, [], 0⟩] scope pos) 0 (.ref it) .none Y.env)
        ((model Y.prog Y.w).den (.compLoop (.GeneratorExp elt [⟨tg, iter, [], 0⟩] scope pos) 0 (.ref it) .none Y.env)) [] s := by
  have eA : A.over (.compLoop (.GeneratorExp elt [⟨tg, iter, [], 0⟩] scope pos) 0 (.ref it) .none Y.env) [] = Y.A := by rw [over_gen, hA]
  have stat : ∀ {σ' : L2.St} {H' : Hp} {s' : Shared}, Inv Y pn σ' H' s' → (∀ b ∈ fp, H' b = none) → ∀ b ∈ fp, FpOk Y pn H' b := fun {σ' H' s'} I' hn b hb =>
    ⟨hn b hb, (I'.ok.exf b (by rw [hex]; exact hb)).1, I'.ok.exfs b (by rw [hex]; exact hb), .inl (by rw [hex]; exact hb), fun x c e => (I'.ok.exf b (by rw [hex]; exact hb)).2 x c e, hpn b hb⟩
  intro n
  induction n with
  | zero => intro m i s₀ s H hm; exact absurd hm (Nat.not_lt_zero _)
  | succ n ih =>
    intro m i s₀ s H hm w I st hnf
    show Seg _ A _ _ _ s₀ _ ((compTurn (.GeneratorExp elt [⟨tg, iter, [], 0⟩] scope pos) 0 (.ref it) .none Y.env).onRaise (leaving Y.env)) [] s
    rw [compTurn_gen, Sem.onRaise_eq_wrap]
    refine seg_bind_wrap (wpAny_standAt ?_)
    rcases turn i m H w with ⟨stop, q⟩ | ⟨go, Nx, hNx, step⟩
    · refine seg_bind_wrap ?_
      rw [eA]
      refine thnF (T.done Y rfl rfl rfl hcalm i pn s _ H (fun _ _ => False) I (stat I hnf) st stop) fun r s1 ⟨hr, I1⟩ => ?_
      subst hr
      exact seg_end (.ok .next) ⟨rfl, H, I1, q⟩
    · refine seg_bind_wrap ?_
      rw [eA]
      refine thnF (T.item Y rfl rfl rfl hcalm i pn s _ H (fun _ _ => False) I (stat I hnf) st go) fun r s1 ⟨u, hr, h1⟩ => ?_
      subst hr
      refine seg_bind_wrap ?_
      rw [eA]
      refine thnF h1 fun _ s2 ⟨x, H2, I2, r2, y2, st2, n2⟩ => ?_
      have I2' := I2.pinned (stat I2 n2) (T.obj _ _ st2)
      refine seg_bind_wrap ?_
      rw [eA]
      have pgr := pg.run _ s2 _ H2 x u _ I2' r2 (step x H2 y2)
      rw [hxe] at pgr
      refine thnF pgr fun _ s3 ⟨σ3, H3, I3, hw3, q3⟩ => ?_
      refine seg_bind_wrap (wpAny_tests_nil ?_)
      simp only [if_true]
      have hy : ∀ v, yieldOut Y.env v = yieldValue v := fun v => by simp only [yieldOut, hco, Bool.false_eq_true, if_false]
      simp only [hy]
      rw [Sem.bind_eq_wrap', Sem.bind_eq_wrap', Sem.wrap_wrap, Sem.wrap_wrap]
      refine seg_wrap ?_
      rw [eA]
      have per := pe.run _ s3 σ3 H3 _ I3 q3
      rw [hxe] at per
      refine thnF per fun yv s4 ⟨y, H4, I4, r4, b, hb, q1, q2⟩ => ?_
      subst hb
      cases r4
      have pin' : ∀ b ∈ fp, ∀ o, s2.heap.get? b = some o → s4.heap.get? b = some o ∧ H4 b = none := fun b hb o e =>
        let z := I4.pin (b, o) (List.mem_append_right _ (List.mem_append_right _ (mem_pinsAt hb e)))
        ⟨z.1, z.2.1⟩
      have hl : (wipe σ vs).length = σ3.length := by rw [← hw3, wipe_length]
      have I4' : Inv Y pn (wipe σ vs) H4 s4 := (I4.unpinned (pins := pn)).weak hl fun j v e => by
        rw [← hw3] at e
        exact (wipe_some e).1
      have st4 : tn (i + 1) s4.heap := T.keep _ _ _ st2 fun b hb o e => (pin' b hb o e).1
      have n4 : ∀ b ∈ fp, H4 b = none := fun b hb => by
        obtain ⟨o, e, _⟩ := T.obj _ _ st2 b hb
        exact (pin' b hb o e).2
      refine seg_at (seg_yield rfl rfl rfl ⟨b, H4, rfl, I4', q1, fun hne s'' z => ?_⟩)
      obtain ⟨m', hm', w'⟩ := hNx H4 (q2 hne)
      exact seg_again rfl (ih m' (i + 1) s'' s'' H4 (by omega) w' (z.inv I4') (T.keep _ _ _ st4 fun b _ o e => z.keep b o e) n4)

theorem seg_start (hA : Y.A = A.deeper Y.env) (hcalm : Y.calm = true) (hco : Y.env.scope.isCoroutine = false) (hxe : Y.xe = fun _ _ => False)
    (T : Turn Y.prog Y.w Y.K tg J fp it tn) (hex : Y.ex = fp) (hpn : ∀ b ∈ fp, ∀ p ∈ Y.pn ++ pn, p.1 ≠ b) (pg : PG Y tg g) (pe : PE Y elt te)
    (turn : ∀ i m H, W i m H → (J.stop i H ∧ Q (.bl (!d)) H) ∨ (J.go i H ∧ ∃ Nx : Hp → Prop, (∀ H', Nx H' → ∃ m', m' < m ∧ W (i + 1) m' H') ∧
      ∀ x H', J.yld i H x H' → g x (wipe σ vs) H' fun σ2 H3 => wipe σ2 vs = wipe σ vs ∧ te σ2 H3 fun y H4 => ∃ b, y = .bl b ∧ (b = d → Q (.bl d) H4) ∧ (b ≠ d → Nx H4)))
    (m : Nat) (s₀ s : Shared) (H : Hp) (w : W 0 m H) (I : Inv Y pn (wipe σ vs) H s) (st : tn 0 s.heap) (hnf : ∀ b ∈ fp, H b = none) :
      Seg (model Y.prog Y.w) A (gR Y pn (wipe σ vs) d Q) (gY Y pn (wipe σ vs) d Q) (m + 1) s₀ (.compStart (.GeneratorExp elt [⟨tg, iter, [], 0⟩] scope pos) 0 (.ref it) .none Y.env)
        ((model Y.prog Y.w).den (.compStart (.GeneratorExp elt [⟨tg, iter, [], 0⟩] scope pos) 0 (.ref it) .none Y.env)) [] s := by
  have loop := seg_loop (iter := iter) (scope := scope) (pos := pos) hA hcalm hco hxe T hex hpn pg pe turn (m + 1) m 0 s₀ s H (Nat.lt_succ_self _) w I st hnf
  show Seg _ A _ _ _ s₀ _ ((compStart (.GeneratorExp elt [⟨tg, iter, [], 0⟩] scope pos) 0 (.ref it) .none Y.env).onRaise (leaving Y.env)) [] s
  unfold compStart
  rw [Sem.onRaise_eq_wrap]
  show Seg _ A _ _ _ s₀ _ ((ask >>= _).wrap _ _ _ _) [] s
  refine seg_bind_wrap (wpAny_askSetting ?_)
  split
  · exact seg_again rfl loop
  · first
      | exact seg_bind_wrap (wpAny_rule (seg_bind_wrap (wpAny_standAt (seg_bind_wrap (T.self _ 0 s _ _ st (seg_again rfl loop))))))
      | (refine seg_bind_wrap (wpAny_rule ?_); show Seg _ A _ _ _ s₀ _ ((standAt iter.pos >>= _).wrap _ _ _ _) [] s; exact seg_bind_wrap (wpAny_standAt (seg_bind_wrap (T.self _ 0 s _ _ st (seg_again rfl loop)))))
end

/-- the generator between two items: at most n more -/
def Waits (Y : Cx) (pn : List (Addr × Obj)) (σw : L2.St) (d : Bool) (Q : VK) (A : Around) (g n : Nat) (s : Shared) : Prop :=
  (∃ H, Inv Y pn σw H s) ∧ ∃ gs, s.gens[g]? = some gs ∧ ∀ s'', Slept0 s s'' → gs.Goes (model Y.prog Y.w) A (gR Y pn σw d Q) (gY Y pn σw d Q) n (.send .none) s''
section
variable {Y : Cx} {A : Around} {pn : List (Addr × Obj)} {σw : L2.St} {d : Bool} {Q : VK} {a : Addr} {go : Obj} {g : Nat}
theorem next_gen {n : Nat} {s : Shared} {Kp : Option Value → Shared → Prop} {E : Value → Shared → Prop} (hh : A.handled = none) (hroom : A.depth < recursionLimit) (hpn : (a, go) ∈ Y.pn ++ pn)
    (hgo : ∀ h : Heap, h.get? a = some go → h.IsGen a g) (w : Waits Y pn σw d Q A.in1 g n s)
    (hstop : ∀ s' H', Inv Y pn σw H' s' → Q (.bl (!d)) H' → Kp none s')
    (hitem : ∀ b s' H', Inv Y pn σw H' s' → (b = d → Q (.bl d) H') → (b ≠ d → ∃ m, n = m + 1 ∧ Waits Y pn σw d Q A.in1 g m s') → Kp (some (.bool b)) s') :
    wpAny (model Y.prog Y.w) A (pyNext (.ref a)) Kp E s := by
  obtain ⟨⟨H, I⟩, gs, hgs, hgoes⟩ := w
  have hg : s.heap.IsGen a g := hgo _ (I.pin (a, go) hpn).1
  have hlt : g + 1 ≤ s.gens.size := (Array.getElem?_eq_some_iff.mp hgs).1
  refine wpAny_gsz hlt ?_
  refine wpAny_pyNext_genexpQ (P := gP Y pn σw d Q) hh I.nolimit hroom hg hgs (hgoes _ ⟨rfl, allBare_setGen I.bare rfl, fun _ _ e => e⟩) (fun v s₁ gs' hb hv hsz => ?_) (fun s₁ hp h' hk hsz => ?_)
  · obtain ⟨b, H', rfl, I', q1, q2⟩ := hv
    have hlt1 : g < s₁.gens.size := by
      have e := setGen_size s₁ g gs'
      omega
    have z1 : Slept0 s₁ (s₁.setGen g gs') := ⟨rfl, allBare_setGen I'.bare hb, fun _ _ e => e⟩
    refine hitem b _ H' (z1.inv I') q1 fun hne => ?_
    cases n with
    | zero => exact (q2 hne s₁ ⟨rfl, I'.bare, fun _ _ e => e⟩).elim
    | succ m =>
      refine ⟨m, rfl, ⟨H', z1.inv I'⟩, gs', setGen_self (Array.getElem?_eq_getElem hlt1), fun s'' z => ?_⟩
      exact q2 hne s'' ⟨z.os.trans z1.os, z.bare, fun b o e => z.keep b o (z1.keep b o e)⟩
  · obtain ⟨H', I', q⟩ := hp
    have z1 : Slept0 s₁ { s₁.setGen g .finished with heap := h' } := ⟨rfl, allBare_setGen I'.bare rfl, hk⟩
    exact hstop _ H' (z1.inv I') q
end

section
variable {Y : Cx} {A : Around} {pn : List (Addr × Obj)} {σw : L2.St} {Q : VK} {a : Addr} {go : Obj} {g : Nat}
theorem all_loop {R : Result → Shared → Prop} (hh : A.handled = none) (hroom : A.depth < recursionLimit) (hpn : (a, go) ∈ Y.pn ++ pn)
    (hgo : ∀ h : Heap, h.get? a = some go → h.IsGen a g) (hR : ∀ b s' H', Inv Y pn σw H' s' → Q (.bl b) H' → R (.ok (.ret (.bool b))) s') :
    ∀ (n : Nat) (s : Shared), Waits Y pn σw false Q A.in1.in1 g n s → codeAny (model Y.prog Y.w) A (.builtin "all.loop" ⟨[.ref a], []⟩) R s := by
  intro n
  induction n with
  | zero =>
    intro s w
    refine codeAny_builtin F.entry_all_loop ?_
    rw [Around.under_plainId F.plain_all_loop _]
    show wpAny _ A.in1 (pyNext (.ref a) >>= _) _ _ s
    refine wpAny_bind (next_gen (A := A.in1) hh hroom hpn hgo w (fun s' H' I' q => ?_) fun b s' H' I' q1 q2 => ?_)
    · exact wpAny_bind (wpAny_rule (wpAny_pure (hR true s' H' I' q)))
    · refine wpAny_bind (wpAny_holding (wpAny_truthy_bool ?_))
      refine wpAny_bind (wpAny_letGo ?_)
      cases b with
      | true => obtain ⟨m, e, _⟩ := q2 (by decide); exact absurd e (by omega)
      | false =>
        simp only [Bool.false_eq_true, if_false]
        exact wpAny_bind (wpAny_rule (wpAny_pure (hR false s' H' I' (q1 rfl))))
  | succ n ih =>
    intro s w
    refine codeAny_builtin F.entry_all_loop ?_
    rw [Around.under_plainId F.plain_all_loop _]
    show wpAny _ A.in1 (pyNext (.ref a) >>= _) _ _ s
    refine wpAny_bind (next_gen (A := A.in1) hh hroom hpn hgo w (fun s' H' I' q => ?_) fun b s' H' I' q1 q2 => ?_)
    · exact wpAny_bind (wpAny_rule (wpAny_pure (hR true s' H' I' q)))
    · refine wpAny_bind (wpAny_holding (wpAny_truthy_bool ?_))
      refine wpAny_bind (wpAny_letGo ?_)
      cases b with
      | true =>
        obtain ⟨m, e, w'⟩ := q2 (by decide)
        simp only [if_true]
        obtain rfl : n = m := by omega
        exact wpAny_pure ⟨plainId_quiet F.plain_all_loop _, ih s' w'⟩
      | false =>
        simp only [Bool.false_eq_true, if_false]
        exact wpAny_bind (wpAny_rule (wpAny_pure (hR false s' H' I' (q1 rfl))))
theorem any_loop {R : Result → Shared → Prop} (hh : A.handled = none) (hroom : A.depth < recursionLimit) (hpn : (a, go) ∈ Y.pn ++ pn)
    (hgo : ∀ h : Heap, h.get? a = some go → h.IsGen a g) (hR : ∀ b s' H', Inv Y pn σw H' s' → Q (.bl b) H' → R (.ok (.ret (.bool b))) s') :
    ∀ (n : Nat) (s : Shared), Waits Y pn σw true Q A.in1.in1 g n s → codeAny (model Y.prog Y.w) A (.builtin "any.loop" ⟨[.ref a], []⟩) R s := by
  intro n
  induction n with
  | zero =>
    intro s w
    refine codeAny_builtin F.entry_any_loop ?_
    rw [Around.under_plainId F.plain_any_loop _]
    show wpAny _ A.in1 (pyNext (.ref a) >>= _) _ _ s
    refine wpAny_bind (next_gen (A := A.in1) hh hroom hpn hgo w (fun s' H' I' q => ?_) fun b s' H' I' q1 q2 => ?_)
    · exact wpAny_bind (wpAny_rule (wpAny_pure (hR false s' H' I' q)))
    · refine wpAny_bind (wpAny_holding (wpAny_truthy_bool ?_))
      refine wpAny_bind (wpAny_letGo ?_)
      cases b with
      | false => obtain ⟨m, e, _⟩ := q2 (by decide); exact absurd e (by omega)
      | true =>
        simp only [if_true]
        exact wpAny_bind (wpAny_rule (wpAny_pure (hR true s' H' I' (q1 rfl))))
  | succ n ih =>
    intro s w
    refine codeAny_builtin F.entry_any_loop ?_
    rw [Around.under_plainId F.plain_any_loop _]
    show wpAny _ A.in1 (pyNext (.ref a) >>= _) _ _ s
    refine wpAny_bind (next_gen (A := A.in1) hh hroom hpn hgo w (fun s' H' I' q => ?_) fun b s' H' I' q1 q2 => ?_)
    · exact wpAny_bind (wpAny_rule (wpAny_pure (hR false s' H' I' q)))
    · refine wpAny_bind (wpAny_holding (wpAny_truthy_bool ?_))
      refine wpAny_bind (wpAny_letGo ?_)
      cases b with
      | false =>
        obtain ⟨m, e, w'⟩ := q2 (by decide)
        simp only [Bool.false_eq_true, if_false]
        obtain rfl : n = m := by omega
        exact wpAny_pure ⟨plainId_quiet F.plain_any_loop _, ih s' w'⟩
      | true =>
        simp only [if_true]
        exact wpAny_bind (wpAny_rule (wpAny_pure (hR true s' H' I' (q1 rfl))))
end

/-- the generator over the walked thing, made -/
theorem gen_make {X : Cx} {pins : List (Addr × Obj)} {σ : L2.St} {H : Hp} {s : Shared} {c P : Addr} {elt tg iter : Expr} {gpos : Pos} {scope : Scope} {own : List (Str × Nat)} {wi : TI} {g : TG} {te : TE} {d : Bool} {k : Nat} {Q : VK} {Q' : Value → Shared → Prop}
    (hc : X.calm = true) (hN : X.N.Nodup) (hr : Room k X.A) (TB : TabB X.base X.mg c P) (hcode : X.env.code = .ref c) (ok : BlkOk X.N X.env.scope scope own) (hncell : ∀ y ∈ scope.names, y.2 ≠ .cell) (h0 : scope.names.lookup (".0" : Str) = some .local) (hco : scope.isCoroutine = false)
    (hi : PI X tg iter wi) (hg : ∀ (s : Shared) (H : Hp) (cl : List (Str × Addr)) (C : Addr) (code : Value) (fp : List Addr), PG (gcx X s H scope cl C code fp) tg g)
    (he : ∀ (s : Shared) (H : Hp) (cl : List (Str × Addr)) (C : Addr) (code : Value) (fp : List Addr), PE (gcx X s H scope cl C code fp) elt te)
    (hs : ∀ v, genFold iter X.env v = pure v) (I : Inv X pins σ H s) (h : tGen d P wi g te (own.map (·.2)) σ H Q)
    (hQ : ∀ (Y : Cx) (pn : List (Addr × Obj)) (σw : L2.St) (a : Addr) (go : Obj) (gn n : Nat) (s5 : Shared), Y.prog = X.prog → Y.w = X.w → (a, go) ∈ Y.pn ++ pn → (∀ h : Heap, h.get? a = some go → h.IsGen a gn) → s5.heap.get? a = some go → Waits Y pn σw d Q X.A.in1.in1 gn n s5 →
      (∀ s' H' v, Inv Y pn σw H' s' → Q v H' → ∃ H'', Inv X pins σ H'' s' ∧ Q v H'') → Q' (.ref a) s5) :
    wpAny (model X.prog X.w) X.A (eval (.GeneratorExp elt [⟨tg, iter, [], 0⟩] scope gpos) X.env) Q' X.xe s := by
  unfold tGen at h
  have hfree : ∀ y ∈ scope.names, y.2 = .free → ∃ c, X.env.cells.lookup y.1 = some c := fun y hy e => by
    rcases ok.free y hy e with k | k
    · exact I.ok.has _ (.inl k)
    · exact I.ok.has _ (.inr k)
  refine wpAny_GeneratorExp_make hco (closure_ok hfree) hncell h0 ok.kind (by have := hr.dp; omega) (thn (hi.run pins s σ H _ I h) fun xv s1 hx => thn hx fun itv s2 h2 => ?_) hs
  obtain ⟨it, fp, tn, J, H2, e, I2, T, st2, f2, ⟨ps, hP, ht⟩, q⟩ := h2
  subst e
  refine ⟨I2.nolimit, ?_⟩
  have hP2 : s2.heap.get? P = some { cls := .none, data := .fields ps } := I2.hok P _ hP
  have cd : PySem.W.CodeHd s2.heap c P := TB.code.keeps fun b u e => I2.bk b u e
  have fpP : ∀ b ∈ fp, b ≠ P := fun b hb e => by
    have z := (f2 b hb).1
    rw [e, hP] at z; cases z
  have cont : ∀ (code : Value) (h3 : Heap) (tk : Nat) (ps' : Array Value), Heap.ExtBut P s2.heap h3 → h3.get? P = some { cls := .none, data := .fields ps' } → (∃ more, ps' = ps ++ more) → TriplesOk ps'.toList →
      wpAny (model X.prog X.w) X.A (builtinsFor X.env.globals X.env.builtins) (fun bi s₄ =>
        ∀ h', h'.Ns s₄.heap.objs.size (fun y => if y = (".0" : Str) then some (.ref it) else none) → Heap.SameBut s₄.heap.objs.size (s₄.heap.push { cls := .type "frame", data := .dict #[] }) h' →
          Q' (.ref h'.objs.size) { s₄ with
            gens := s₄.gens.push (.fresh (.compStart (.GeneratorExp elt [⟨tg, iter, [], 0⟩] scope gpos) 0 (.ref it) .none (genEnv scope (cloFrom X.env.cells scope.names []) s₄.heap.objs.size code bi X.env))),
            toks := s₄.toks + 1 + 1 + 1,
            heap := h'.push { cls := .type "generator", data := .fields #[.int s₄.gens.size 0, .str "<genexpr>" (s₄.toks + 1), .str (X.env.qual ++ "<genexpr>") (s₄.toks + 1 + 1)] } }) X.xe { s2 with heap := h3, toks := tk } := by
    intro code h3 tk ps' hx hP3 hmore ht3
    obtain ⟨more, em⟩ := hmore
    obtain ⟨bm, ob, e1, e2, e3, e4, e5, e6, e7, e8⟩ := TB.bm
    have I3 : Inv X pins σ (upd H2 P (.tbl (ps ++ more))) { s2 with heap := h3, gens := s2.gens, drawn := s2.drawn, toks := tk } := inv_tab I2 hP (fun b o hb e => hx b o hb e) (by rw [← em]; exact hP3) I2.bare
    have hTb : Tabbed P H2 (upd H2 P (.tbl (ps ++ more))) := ⟨⟨ps ++ more, upd_same, by rw [← em]; exact ht3⟩, fun b hb => upd_ne hb⟩
    obtain ⟨W, ⟨m0, w0⟩, turn⟩ := q _ hTb
    generalize upd H2 P (.tbl (ps ++ more)) = H3 at I3 w0 hTb
    generalize hs3 : ({ s2 with heap := h3, gens := s2.gens, drawn := s2.drawn, toks := tk } : Shared) = s3 at I3
    have eh3 : s3.heap = h3 := by rw [← hs3]
    have st3 : tn 0 s3.heap := T.keep _ _ _ st2 fun b hb o e => by rw [eh3]; exact hx b o (fpP b hb) e
    have f3 : ∀ b ∈ fp, FpOk X pins H3 b ∧ b < s3.heap.objs.size := fun b hb => by
      obtain ⟨o, e, _⟩ := T.obj _ _ st3 b hb
      exact ⟨⟨(hTb.2 b (fpP b hb)).trans (f2 b hb).1, (f2 b hb).2⟩, Heap.lt_size e⟩
    refine wpAny_builtinsFor (m := X.mg) (by rw [I3.ok.glob]; exact I3.ok.mod.glob.keeps I3.bk) e1 e2 (I3.bk _ _ e5) e6 e7 e8 ?_
    intro h' hn hsb
    have main : ∀ (go : Obj) (tk' : Nat), (∀ v, go.data ≠ .cell v) → (∀ (h : Heap) (a : Addr), h.get? a = some go → h.IsGen a s3.gens.size) → (h'.push go).get? h'.objs.size = some go →
        Q' (.ref h'.objs.size) { s3 with gens := s3.gens.push (.fresh (.compStart (.GeneratorExp elt [⟨tg, iter, [], 0⟩] scope gpos) 0 (.ref it) .none (genEnv scope (cloFrom X.env.cells scope.names []) s3.heap.objs.size code builtinsNs X.env))), toks := tk', heap := h'.push go } := by
      intro go tk' hgo hgen hgp
      have I5 := gen_start (code := code) (tk := tk') (it := .ref it) hc I3 ok hN f3 hncell hn hsb (I3.bare.push (g := .fresh (.compStart (.GeneratorExp elt [⟨tg, iter, [], 0⟩] scope gpos) 0 (.ref it) .none (genEnv scope (cloFrom X.env.cells scope.names []) s3.heap.objs.size code builtinsNs X.env))) rfl) hgo hgp h0
      have pgr := hg s3 H3 (cloFrom X.env.cells scope.names []) s3.heap.objs.size code fp
      have per := he s3 H3 (cloFrom X.env.cells scope.names []) s3.heap.objs.size code fp
      have kp0 : ∀ b o, s3.heap.get? b = some o → (h'.push go).get? b = some o := fun b o e => Heap.get?_push_of_some _ (hsb.extBut b o (Nat.ne_of_lt (Heap.lt_size e)) (Heap.get?_push_of_some _ e))
      have nf3 : ∀ b ∈ fp, H3 b = none := fun b hb => (f3 b hb).1.1
      have hsz : h'.objs.size = s3.heap.objs.size + 1 := by rw [hsb.1, Heap.size_push]
      refine hQ (gcx X s3 H3 scope (cloFrom X.env.cells scope.names []) s3.heap.objs.size code fp) [(h'.objs.size, go)] (wipe σ (own.map (·.2))) h'.objs.size go s3.gens.size (m0 + 1) _ rfl rfl (List.mem_append_right _ (List.mem_singleton.mpr rfl)) (fun h e => hgen h _ e) hgp
        ⟨⟨H3, I5⟩, _, Array.getElem?_push_size .., fun s'' z => ⟨rfl, ?_⟩⟩ (fun s' H' v I' qv => ⟨H', ?_, qv⟩)
      · refine seg_start (Y := gcx X s3 H3 scope (cloFrom X.env.cells scope.names []) s3.heap.objs.size code fp) (A := X.A.in1.in1) rfl rfl hco rfl T rfl (fun b hb p hp => ?_) pgr per turn m0 s'' s'' H3 w0 (z.inv I5) ?_ nf3
        · have hp : p ∈ ([] : List (Addr × Obj)) ++ [(h'.objs.size, go)] := hp
          rw [List.nil_append, List.mem_singleton] at hp
          subst hp
          have hlt := (f3 b hb).2
          intro e
          have e : h'.objs.size = b := e
          rw [← e, hsz] at hlt
          exact absurd hlt (Nat.not_lt.mpr (Nat.le_succ _))
        · exact T.keep _ _ _ st3 fun b _ o e => z.keep b o (kp0 b o e)
      · exact I3.call' (ch := fp) I'.os I'.base I'.hok I'.bare fun b hb => ⟨(f3 b hb).1.2.2.2.1, (f3 b hb).1.2.1, (f3 b hb).1.2.2.2.2.1, (f3 b hb).1.2.2.2.2.2⟩
    exact main _ _ (fun v e => by cases e) (fun h a e => ⟨_, _, _, e, rfl, rfl, rfl⟩) (Heap.get?_push_size _ rfl)
  cases hf : codeAmong gpos ps.toList with
  | none =>
    refine wpAny_genexprCodeX hcode (cd.code hP2 ht) (cd.tab hP2) hf fun c' h' tk hx hge hlt hco' _ htab' _ => ?_
    obtain ⟨o1, vs, f1, tf, fl, tg', inF, tx, tt, op, _, _, _, _, _, _, _, _, _, htr, _⟩ := hco'
    exact cont _ h' tk _ hx htab'.2 ⟨_, rfl⟩ htr
  | some cv =>
    refine wpAny_genexprCode_hit hcode (cd.code hP2 ht) hf ?_
    exact cont cv s2.heap s2.toks ps (Heap.ExtBut.refl _ _) hP2 ⟨#[], by simp⟩ ht

section
variable {X : Cx} {c P : Addr} {elt tg iter : Expr} {p pos gpos : Pos} {scope : Scope} {own : List (Str × Nat)} {wi : TI} {g : TG} {te : TE} {k : Nat}
/-- all(elt for tg in iter) -/
theorem pe_all (hr : Room k X.A) (hc : X.calm = true) (hN : X.N.Nodup) (hm : X.mg "all" = none) (TB : TabB X.base X.mg c P) (hcode : X.env.code = .ref c) (ok : BlkOk X.N X.env.scope scope own) (hi : PI X tg iter wi)
    (hg : ∀ (s : Shared) (H : Hp) (cl : List (Str × Addr)) (C : Addr) (code : Value) (fp : List Addr), PG (gcx X s H scope cl C code fp) tg g)
    (he : ∀ (s : Shared) (H : Hp) (cl : List (Str × Addr)) (C : Addr) (code : Value) (fp : List Addr), PE (gcx X s H scope cl C code fp) elt te)
    (hncell : ∀ y ∈ scope.names, y.2 ≠ .cell := by decide +kernel) (h0 : scope.names.lookup (".0" : Str) = some .local := by decide +kernel) (hco : scope.isCoroutine = false := by rfl) (hgl : Gl X "all" := by rfl) (hs : ∀ v, genFold iter X.env v = pure v := by intro _; rfl)
    (hst : starEach [.GeneratorExp elt [⟨tg, iter, [], 0⟩] scope gpos] X.env = (false, eval (.GeneratorExp elt [⟨tg, iter, [], 0⟩] scope gpos) X.env) :: starEach [] X.env := by rfl) :
    PE X (.Call (.Name "all" p) [.GeneratorExp elt [⟨tg, iter, [], 0⟩] scope gpos] [] pos) (tGen false P wi g te (own.map (·.2))) := by
  refine ⟨fun pins s σ H Q I h => ?_⟩
  refine wpAny_Call_Name_kw (ld_blt I hgl hm boot_all ?_)
  refine PyProof.Rows.callWith_builtin1 ?_ hst (by rfl)
  rw [hst]
  show wpAny _ _ (spliced ((false, eval (.GeneratorExp elt [⟨tg, iter, [], 0⟩] scope gpos) X.env) :: backTo pos (starEach [] X.env))) _ _ s
  refine Calls.spliced_cons (gen_make hc hN hr TB hcode ok hncell h0 hco hi hg he hs I h fun Y pn σw a go gn n s5 e1 e2 hpn hgo hat w back => ?_)
  refine Calls.spliced_nil ?_
  refine call_function_tree F.kind_all F.plain_all F.entry_all (F.args_all1 _) ?_
  unfold Builtin.«all»
  refine wpAny_bind (m := oneArg "all" _) (wpAny_pure ?_)
  refine wpAny_bind (wpAny_pyIter_gen (hgo _ hat) ?_)
  refine wpAny_pure ⟨plainId_quiet F.plain_all_loop _, ?_⟩
  rw [← e1, ← e2]
  refine all_loop (A := X.A) hr.hd (by have := hr.dp; omega) hpn hgo (fun b s' H' I' q => ?_) n s5 w
  obtain ⟨H'', I'', q''⟩ := back s' H' (.bl b) I' q
  exact ⟨.bl b, H'', I'', rfl, q''⟩
/-- any(elt for tg in iter) -/
theorem pe_any (hr : Room k X.A) (hc : X.calm = true) (hN : X.N.Nodup) (hm : X.mg "any" = none) (TB : TabB X.base X.mg c P) (hcode : X.env.code = .ref c) (ok : BlkOk X.N X.env.scope scope own) (hi : PI X tg iter wi)
    (hg : ∀ (s : Shared) (H : Hp) (cl : List (Str × Addr)) (C : Addr) (code : Value) (fp : List Addr), PG (gcx X s H scope cl C code fp) tg g)
    (he : ∀ (s : Shared) (H : Hp) (cl : List (Str × Addr)) (C : Addr) (code : Value) (fp : List Addr), PE (gcx X s H scope cl C code fp) elt te)
    (hncell : ∀ y ∈ scope.names, y.2 ≠ .cell := by decide +kernel) (h0 : scope.names.lookup (".0" : Str) = some .local := by decide +kernel) (hco : scope.isCoroutine = false := by rfl) (hgl : Gl X "any" := by rfl) (hs : ∀ v, genFold iter X.env v = pure v := by intro _; rfl)
    (hst : starEach [.GeneratorExp elt [⟨tg, iter, [], 0⟩] scope gpos] X.env = (false, eval (.GeneratorExp elt [⟨tg, iter, [], 0⟩] scope gpos) X.env) :: starEach [] X.env := by rfl) :
    PE X (.Call (.Name "any" p) [.GeneratorExp elt [⟨tg, iter, [], 0⟩] scope gpos] [] pos) (tGen true P wi g te (own.map (·.2))) := by
  refine ⟨fun pins s σ H Q I h => ?_⟩
  refine wpAny_Call_Name_kw (ld_blt I hgl hm boot_any ?_)
  refine PyProof.Rows.callWith_builtin1 ?_ hst (by rfl)
  rw [hst]
  show wpAny _ _ (spliced ((false, eval (.GeneratorExp elt [⟨tg, iter, [], 0⟩] scope gpos) X.env) :: backTo pos (starEach [] X.env))) _ _ s
  refine Calls.spliced_cons (gen_make hc hN hr TB hcode ok hncell h0 hco hi hg he hs I h fun Y pn σw a go gn n s5 e1 e2 hpn hgo hat w back => ?_)
  refine Calls.spliced_nil ?_
  refine call_function_tree F.kind_any F.plain_any F.entry_any (F.args_any1 _) ?_
  unfold Builtin.«any»
  refine wpAny_bind (m := oneArg "any" _) (wpAny_pure ?_)
  refine wpAny_bind (wpAny_pyIter_gen (hgo _ hat) ?_)
  refine wpAny_pure ⟨plainId_quiet F.plain_any_loop _, ?_⟩
  rw [← e1, ← e2]
  refine any_loop (A := X.A) hr.hd (by have := hr.dp; omega) hpn hgo (fun b s' H' I' q => ?_) n s5 w
  obtain ⟨H'', I'', q''⟩ := back s' H' (.bl b) I' q
  exact ⟨.bl b, H'', I'', rfl, q''⟩
end
end GA
#print axioms GA.pe_all
#print axioms GA.pe_any

-- part GenSetA
set_option Elab.async false
set_option linter.all false
set_option maxRecDepth 100000
set_option maxHeartbeats 4000000
/-! len(set(xs)) of texts, any number below the line; written dicts asked; products of great ints; defs with their code told -/
namespace GS
open PySem PySem.Spec PyProof.Rows L2 SS
/-- the different ones, in their order -/
def dis (l : List Str) : List Str := l.foldl (fun a x => if a.contains x then a else a ++ [x]) []
theorem dis_snoc (l : List Str) (x : Str) : dis (l ++ [x]) = if (dis l).contains x then dis l else dis l ++ [x] := by
  unfold dis
  rw [List.foldl_append]
  rfl
theorem dis_any : ∀ (n : Nat) (l : List Str), l.length = n → ∀ k, (dis l).any (· == k) = l.any (· == k) := by
  intro n
  induction n with
  | zero =>
    intro l hl k
    rw [List.length_eq_zero_iff.mp hl]
    rfl
  | succ n ih =>
    intro l hl k
    obtain ⟨r, x, rfl⟩ : ∃ r x, l = r ++ [x] := ⟨l.dropLast, l.getLast (by intro z; rw [z] at hl; cases hl), (List.dropLast_concat_getLast _).symm⟩
    have hr : r.length = n := by simpa using hl
    have e := ih r hr
    rw [dis_snoc]
    by_cases hc : (dis r).contains x = true
    · rw [if_pos hc, e k, List.any_append]
      have hx : (dis r).any (· == x) = true := by
        rw [List.any_eq_true]
        exact ⟨x, by simpa using hc, by simp⟩
      by_cases hk : x = k
      · subst hk
        rw [← e x, hx]
        rfl
      · have : (x == k) = false := by simpa using hk
        simp [this]
    · rw [if_neg hc, List.any_append, List.any_append, e k]
theorem dis_len (l : List Str) : (dis l).length ≤ l.length := by
  have : ∀ (n : Nat) (l : List Str), l.length = n → (dis l).length ≤ n := by
    intro n
    induction n with
    | zero => intro l hl; rw [List.length_eq_zero_iff.mp hl]; exact Nat.le_refl _
    | succ n ih =>
      intro l hl
      obtain ⟨r, x, rfl⟩ : ∃ r x, l = r ++ [x] := ⟨l.dropLast, l.getLast (by intro z; rw [z] at hl; cases hl), (List.dropLast_concat_getLast _).symm⟩
      have hr : r.length = n := by simpa using hl
      have := ih r hr
      rw [dis_snoc]
      split
      · omega
      · rw [List.length_append, List.length_singleton]; omega
  exact this _ l rfl
theorem dis_mem {l : List Str} {k : Str} : k ∈ dis l ↔ k ∈ l := by
  have e := dis_any _ l rfl k
  constructor
  · intro h
    have : (dis l).any (· == k) = true := List.any_eq_true.mpr ⟨k, h, by simp⟩
    rw [e] at this
    obtain ⟨y, hy, hk⟩ := List.any_eq_true.mp this
    rw [← beq_iff_eq.mp hk]; exact hy
  · intro h
    have : l.any (· == k) = true := List.any_eq_true.mpr ⟨k, h, by simp⟩
    rw [← e] at this
    obtain ⟨y, hy, hk⟩ := List.any_eq_true.mp this
    rw [← beq_iff_eq.mp hk]; exact hy
theorem dis_lt (l : List Str) : (dis l).length < l.length ↔ ¬ l.Nodup := by
  have : ∀ (n : Nat) (l : List Str), l.length = n → ((dis l).length < n ↔ ¬ l.Nodup) := by
    intro n
    induction n with
    | zero => intro l hl; rw [List.length_eq_zero_iff.mp hl]; simp [dis]
    | succ n ih =>
      intro l hl
      obtain ⟨r, x, rfl⟩ : ∃ r x, l = r ++ [x] := ⟨l.dropLast, l.getLast (by intro z; rw [z] at hl; cases hl), (List.dropLast_concat_getLast _).symm⟩
      have hr : r.length = n := by simpa using hl
      have ih := ih r hr
      have hle := dis_len r
      have hnd : (r ++ [x]).Nodup ↔ r.Nodup ∧ x ∉ r := by
        rw [List.nodup_append]
        constructor
        · rintro ⟨a, _, b⟩
          exact ⟨a, fun h => b x h x (List.mem_singleton.mpr rfl) rfl⟩
        · rintro ⟨a, b⟩
          refine ⟨a, by simp, fun y hy z hz e => b ?_⟩
          rw [List.mem_singleton] at hz
          rw [← hz, ← e]; exact hy
      rw [dis_snoc, hnd]
      by_cases hc : (dis r).contains x = true
      · rw [if_pos hc]
        have hx : x ∈ r := dis_mem.mp (by simpa using hc)
        constructor
        · intro _ h; exact h.2 hx
        · intro _; omega
      · rw [if_neg hc, List.length_append, List.length_singleton]
        have hx : x ∉ r := fun h => hc (by simpa using dis_mem.mpr h)
        constructor
        · intro h hh
          exact (ih.mp (by omega)) hh.1
        · intro h
          have : ¬ r.Nodup := fun z => h ⟨z, hx⟩
          have := ih.mpr this
          omega
  exact this _ l rfl

section
variable {prog : Program} {w : World} {A : Around} {R : Result → Shared → Prop} {I : Addr} {fp wr : List Addr} {G : Array GenState → Array GenState → Prop} {n : Nat} {P : Nat → Value → Prop} {St : Nat → Shared → Prop}
theorem fill (W : WalksS prog w A.in1 I fp wr G n P St) (S : Addr) (hSf : S ∉ fp) (xs : List Str) (hsz : xs.length = n) (hn1 : n + 1 < scanBound)
    (hval : ∀ i v, P i v → ∃ t, v = .str (xs.getD i Str.empty) t) (turns : Nat) :
    ∀ (i : Nat) (s : Shared), i + turns = n → St i s →
      s.heap.SetOf (PySem.strKind prog w) S (fun y => (xs.take i).any (· == y)) (dis (xs.take i)).length →
      (∀ s', Moved (S :: wr) G s s' → s'.heap.SetOf (PySem.strKind prog w) S (fun y => xs.any (· == y)) (dis xs).length → R (.ok (.ret .none)) s') →
      codeAny (model prog w) A (.builtin "set.update.loop" ⟨[.ref S, .ref I], []⟩) R s := by
  have nS : S ∉ wr := fun z => hSf (W.sub _ z)
  have more : ∀ b ∈ wr, b ∈ S :: wr := fun b z => List.mem_cons_of_mem _ z
  have carry : ∀ {s s' : Shared} {F : Str → Bool} {m : Nat}, Moved wr G s s' → s.heap.SetOf (PySem.strKind prog w) S F m → s'.heap.SetOf (PySem.strKind prog w) S F m := fun hm ⟨o, es, ep, tb, ho, r⟩ => ⟨o, es, ep, tb, hm.heap S _ nS ho, r⟩
  induction turns with
  | zero =>
    intro i s hi st hS hR
    obtain rfl : i = n := by omega
    refine codeAny_builtin PyProof.Rows.F.entry_set_update_loop ?_
    rw [Around.under_plainId PyProof.Rows.F.plain_set_update_loop _]
    show wpAny _ A.in1 (pyNext (.ref I) >>= _) _ _ s
    refine wpAny_bind (W.done s _ _ st fun s' hm => ?_)
    rw [← hsz, List.take_length] at hS
    exact wpAny_pure (hR s' (hm.mono more) (carry hm hS))
  | succ turns ih =>
    intro i s hi st hS hR
    refine codeAny_builtin PyProof.Rows.F.entry_set_update_loop ?_
    rw [Around.under_plainId PyProof.Rows.F.plain_set_update_loop _]
    show wpAny _ A.in1 (pyNext (.ref I) >>= _) _ _ s
    refine wpAny_bind (W.item i s _ _ (by omega) st fun v s' hP st' hm => ?_)
    obtain ⟨t, rfl⟩ := hval i v hP
    have hS' := carry hm hS
    have hx : xs[i]? = some (xs.getD i Str.empty) := by
      rw [List.getD_eq_getElem?_getD, List.getElem?_eq_getElem (by omega)]; rfl
    generalize xs.getD i Str.empty = x at hx ⊢
    have tk : xs.take (i + 1) = xs.take i ++ [x] := by
      rw [List.take_add_one, hx]; rfl
    show wpAny _ A.in1 (holding [Value.str x t] (setAdd S (.str x t)) >>= _) _ _ s'
    refine wpAny_bind (wpAny_holding ?_)
    unfold setAdd
    refine wpAny_holding (wpAny_bind ((PySem.strKind prog w).pyHash (k := x) (strKind_is _ _ _ _) ?_))
    have room : (dis (xs.take i)).length + 1 < scanBound := by
      have := dis_len (xs.take i)
      rw [List.length_take] at this
      omega
    refine wpAny_setAddHashed_of (knd := PySem.strKind prog w) (s := { s' with toks := s'.toks + 1 }) (strKind_is _ _ _ _) rfl hS' room fun h' hsb hS2 => ?_
    have hin : ((xs.take i).any (· == x)) = (dis (xs.take i)).contains x := by
      rw [← dis_any _ (xs.take i) rfl x, Bool.eq_iff_iff, List.any_eq_true]
      simp
    have hS3 : h'.SetOf (PySem.strKind prog w) S (fun y => (xs.take (i + 1)).any (· == y)) (dis (xs.take (i + 1))).length := by
      refine SetOf_congr hS2 (fun y => ?_) ?_
      · rw [tk, List.any_append]
        by_cases e : y = x
        · subst e; simp
        · have e2 : (x == y) = false := by simpa using fun z : x = y => e z.symm
          simp [e, e2]
      · rw [tk, dis_snoc]
        by_cases hc : (dis (xs.take i)).contains x = true
        · rw [if_pos hc, if_pos (by rw [hin]; exact hc)]
        · rw [if_neg hc, if_neg (by rw [hin]; exact hc), List.length_append, List.length_singleton]
    have hkeep : ∀ b o, b ≠ S → s'.heap.get? b = some o → h'.get? b = some o := fun b o hb e => (hsb.2 b hb).trans e
    refine wpAny_pure ⟨plainId_quiet PyProof.Rows.F.plain_set_update_loop _, ih (i + 1) _ (by omega) (W.frame _ s' _ _ st' (Nat.le_succ _) fun b hb o e => hkeep b o (fun z => hSf (z ▸ hb)) e) hS3 fun s2 hm2 hS4 => ?_⟩
    exact hR s2 (Moved.trans W.gtrans ((hm.mono more).then_heap (Nat.le_succ _) fun b o hb e => hkeep b o (fun z => hb (by rw [z]; exact List.mem_cons_self)) e) hm2) hS4
end

section
variable {prog : Program} {w : World} {A : Around} {E : Value → Shared → Prop} {s : Shared}
theorem call_set_list {l : Addr} {its : Array Value} {xs : List Str} {Q : Value → Shared → Prop} (hh : A.handled = none) (hl : s.heap.IsList l its) (hi : PyProof.Rows.StrsAre its.toList xs) (hn1 : xs.length + 1 < scanBound)
    (h : ∀ (h' : Heap) (tk : Nat), h'.SetOf (PySem.strKind prog w) s.heap.objs.size (fun y => xs.any (· == y)) (dis xs).length → (∀ b o, b < s.heap.objs.size → s.heap.get? b = some o → h'.get? b = some o) → Q (.ref s.heap.objs.size) { s with heap := h', toks := tk }) :
    wpAny (model prog w) A (call (.type "set") [.ref l]) Q E s := by
  obtain ⟨c, tl, hmro⟩ := PySem.F.called_set.mro
  have hmade := PySem.F.called_set.made
  have hsub := PySem.F.called_set.sub
  refine wpAny_call (codeAny_of_tree (show wpAny _ _ (callAny (.type "set") _) _ _ _ from ?_))
  refine wpAny_pure ⟨Code.quiet_builtin _ (by decide +kernel), codeAny_builtin PySem.F.entry_type_call ?_⟩
  rw [Around.under_plain (weight_type_call_type "set" [.ref l] []) rfl]
  have f1 := PySem.F.called_set.notType
  have f2 := PySem.F.called_set.canCreate
  have f3 := PySem.F.typeCall_set_1 (.ref l)
  repeat (any_goals (first | assumption | wp_step))
  let S0 : Bool → Obj := fun led => { cls := .type "set", dict := none, data := .set #[] 0 (.fresh 0 0 led) }
  refine codeAny_mono (code_set_new_1 (.ref l) (E := E) (Q₁ := fun obj s₁ => ∃ led : Bool, obj = .ref s.heap.objs.size ∧ s₁ = { s with heap := s.heap.push (S0 led) }) fun led => ⟨led, rfl, rfl⟩) fun r s₁ hr => ?_
  cases r with
  | error e => exact hr
  | ok fl =>
    cases fl with
    | ret obj =>
      obtain ⟨led, rfl, rfl⟩ := hr
      have hS : (s.heap.push (S0 led)).get? s.heap.objs.size = some (S0 led) := Heap.get?_push_size _ rfl
      have hT : Shared.TypeIs { s with heap := s.heap.push (S0 led) } (.ref s.heap.objs.size) "set" := ⟨_, hS, rfl⟩
      have g1 := PySem.F.called_set.init.lookup
      have g2 := PySem.F.called_set.init.bind (.ref s.heap.objs.size)
      repeat (any_goals (first | assumption | wp_step))
      refine codeAny_mono (codeAny_call_builtin (R := wants (fun r s₂ => r = .none ∧ ∃ h' tk, s₂ = { s with heap := h', toks := tk } ∧ h'.SetOf (PySem.strKind prog w) s.heap.objs.size (fun y => xs.any (· == y)) (dis xs).length ∧
          (∀ b o, b < s.heap.objs.size → s.heap.get? b = some o → h'.get? b = some o)) E) PySem.F.called_set.init.plain PySem.F.entry_set_init (check_set_init_1 hT ?_)) fun r₂ s₂ hr₂ => ?_
      · obtain ⟨ol, hol, hcl, nl, hdl⟩ := hl
        obtain ⟨oc, od, odt, os⟩ := ol
        simp only at hcl hdl
        subst hcl
        subst hdl
        have hol' : (s.heap.push (S0 led)).get? l = some { cls := .type "list", dict := od, data := .seq its nl, slots := os } := Heap.get?_push_of_some _ hol
        have k1 := PySem.F.sub_list_set
        have k2 := PySem.F.sub_list_frozenset
        have k3 : (Value.type "list" == Value.type "dict") = false := by decide
        have hl1 : (s.heap.push (S0 led)).IsList l its := ⟨_, hol', rfl, nl, rfl⟩
        unfold Builtin.«set.__init__» noKeywords Builtin.Frozenset.updateFrom
        generalize hPI : pyIter = PI
        wp_walk
        subst hPI
        refine wpAny_pyIter_list hl1 (wpAny_bind (wpAny_runValue ?_))
        have ltl : l < s.heap.objs.size := Heap.lt_size hol
        have hh3 : A.in1.in1.in1.handled = none := hh
        have szp : (s.heap.push (S0 led)).objs.size = s.heap.objs.size + 1 := Heap.size_push ..
        have nI : l ≠ (s.heap.push (S0 led)).objs.size := by rw [szp]; exact Nat.ne_of_lt (Nat.lt_succ_of_lt ltl)
        have nF : s.heap.objs.size ∉ [(s.heap.push (S0 led)).objs.size, l] := by
          rw [szp]
          intro z
          rcases List.mem_cons.mp z with z | z
          · exact Nat.ne_of_lt (Nat.lt_succ_self _) z
          · exact Nat.ne_of_gt ltl (List.mem_singleton.mp z)
        have hsz : xs.length = its.size := by rw [← StrsAre.len_eq hi, Array.length_toList]
        refine fill ((Walks.list hh3 _ l nI its).toS) s.heap.objs.size nF xs hsz (by rw [← hsz]; exact hn1) (fun i v hv => strs_at hi i v (by rw [Array.getElem?_toList]; exact hv)) its.size 0 _ (Nat.zero_add _)
          ⟨⟨_, Heap.get?_push_size _ rfl, rfl, rfl⟩, (hl1.push _)⟩ ?a0 ?a1
        case a0 =>
          have hget : ((s.heap.push (S0 led)).push { cls := .type "list_iterator", data := .fields #[.ref l, .int 0 0] }).get? s.heap.objs.size = some (S0 led) := Heap.get?_push_of_some _ hS
          exact PyProof.Rows.SetOf_congr ((PyProof.Rows.setObjOf_fresh (knd := PySem.strKind prog w) led).setOf hget (by unfold scanBound; omega)) (fun _ => rfl) rfl
        case a1 =>
          intro s' hm hS'
          obtain ⟨h', g', d', tk', os'⟩ := s'
          have eg : g' = s.gens := hm.gens
          have ed : d' = s.drawn := hm.drawn
          have eo : os' = s.os := hm.os
          subst eg
          subst ed
          subst eo
          show wpAny _ _ _ _ _ _
          refine wpAny_pure ?_
          show wpAny _ _ (ret Value.none) _ _ _
          refine wpAny_pure ⟨rfl, h', tk', rfl, hS', fun b o hb e => hm.heap b o (fun z => ?_) (Heap.get?_push_of_some _ (Heap.get?_push_of_some _ e))⟩
          rcases List.mem_cons.mp z with z | z
          · exact Nat.ne_of_lt hb z
          · have z := List.mem_singleton.mp z
            rw [szp] at z
            exact Nat.ne_of_lt (Nat.lt_succ_of_lt hb) z
      · cases r₂ with
        | error e => exact hr₂
        | ok fl₂ =>
          cases fl₂ with
          | ret r =>
            obtain ⟨rfl, h', tk, rfl, hS', hk'⟩ := hr₂
            repeat (any_goals (first | assumption | wp_step))
            exact h _ _ hS' hk'
          | _ => exact hr₂.elim
    | _ => exact hr.elim
end

section
variable {prog : Program} {w : World} {A : Around} {E : Value → Shared → Prop} {s : Shared}
theorem call_set_tuple {l : Addr} {its : Array Value} {xs : List Str} {Q : Value → Shared → Prop} (hh : A.handled = none) (hl : s.heap.IsTuple l its) (hi : PyProof.Rows.StrsAre its.toList xs) (hn1 : xs.length + 1 < scanBound)
    (h : ∀ (h' : Heap) (tk : Nat), h'.SetOf (PySem.strKind prog w) s.heap.objs.size (fun y => xs.any (· == y)) (dis xs).length → (∀ b o, b < s.heap.objs.size → s.heap.get? b = some o → h'.get? b = some o) → Q (.ref s.heap.objs.size) { s with heap := h', toks := tk }) :
    wpAny (model prog w) A (call (.type "set") [.ref l]) Q E s := by
  obtain ⟨c, tl, hmro⟩ := PySem.F.called_set.mro
  have hmade := PySem.F.called_set.made
  have hsub := PySem.F.called_set.sub
  refine wpAny_call (codeAny_of_tree (show wpAny _ _ (callAny (.type "set") _) _ _ _ from ?_))
  refine wpAny_pure ⟨Code.quiet_builtin _ (by decide +kernel), codeAny_builtin PySem.F.entry_type_call ?_⟩
  rw [Around.under_plain (weight_type_call_type "set" [.ref l] []) rfl]
  have f1 := PySem.F.called_set.notType
  have f2 := PySem.F.called_set.canCreate
  have f3 := PySem.F.typeCall_set_1 (.ref l)
  repeat (any_goals (first | assumption | wp_step))
  let S0 : Bool → Obj := fun led => { cls := .type "set", dict := none, data := .set #[] 0 (.fresh 0 0 led) }
  refine codeAny_mono (code_set_new_1 (.ref l) (E := E) (Q₁ := fun obj s₁ => ∃ led : Bool, obj = .ref s.heap.objs.size ∧ s₁ = { s with heap := s.heap.push (S0 led) }) fun led => ⟨led, rfl, rfl⟩) fun r s₁ hr => ?_
  cases r with
  | error e => exact hr
  | ok fl =>
    cases fl with
    | ret obj =>
      obtain ⟨led, rfl, rfl⟩ := hr
      have hS : (s.heap.push (S0 led)).get? s.heap.objs.size = some (S0 led) := Heap.get?_push_size _ rfl
      have hT : Shared.TypeIs { s with heap := s.heap.push (S0 led) } (.ref s.heap.objs.size) "set" := ⟨_, hS, rfl⟩
      have g1 := PySem.F.called_set.init.lookup
      have g2 := PySem.F.called_set.init.bind (.ref s.heap.objs.size)
      repeat (any_goals (first | assumption | wp_step))
      refine codeAny_mono (codeAny_call_builtin (R := wants (fun r s₂ => r = .none ∧ ∃ h' tk, s₂ = { s with heap := h', toks := tk } ∧ h'.SetOf (PySem.strKind prog w) s.heap.objs.size (fun y => xs.any (· == y)) (dis xs).length ∧
          (∀ b o, b < s.heap.objs.size → s.heap.get? b = some o → h'.get? b = some o)) E) PySem.F.called_set.init.plain PySem.F.entry_set_init (check_set_init_1 hT ?_)) fun r₂ s₂ hr₂ => ?_
      · obtain ⟨ol, hol, hcl, nl, hdl⟩ := hl
        obtain ⟨oc, od, odt, os⟩ := ol
        simp only at hcl hdl
        subst hcl
        subst hdl
        have hol' : (s.heap.push (S0 led)).get? l = some { cls := .type "tuple", dict := od, data := .seq its nl, slots := os } := Heap.get?_push_of_some _ hol
        have k1 := PySem.F.sub_tuple_set
        have k2 := PySem.F.sub_tuple_frozenset
        have k3 : (Value.type "tuple" == Value.type "dict") = false := by decide
        have hl1 : (s.heap.push (S0 led)).IsTuple l its := ⟨_, hol', rfl, nl, rfl⟩
        unfold Builtin.«set.__init__» noKeywords Builtin.Frozenset.updateFrom
        generalize hPI : pyIter = PI
        wp_walk
        subst hPI
        refine wpAny_pyIter_tuple hl1 (wpAny_bind (wpAny_runValue ?_))
        have ltl : l < s.heap.objs.size := Heap.lt_size hol
        have hh3 : A.in1.in1.in1.handled = none := hh
        have szp : (s.heap.push (S0 led)).objs.size = s.heap.objs.size + 1 := Heap.size_push ..
        have nI : l ≠ (s.heap.push (S0 led)).objs.size := by rw [szp]; exact Nat.ne_of_lt (Nat.lt_succ_of_lt ltl)
        have nF : s.heap.objs.size ∉ [(s.heap.push (S0 led)).objs.size, l] := by
          rw [szp]
          intro z
          rcases List.mem_cons.mp z with z | z
          · exact Nat.ne_of_lt (Nat.lt_succ_self _) z
          · exact Nat.ne_of_gt ltl (List.mem_singleton.mp z)
        have hsz : xs.length = its.size := by rw [← StrsAre.len_eq hi, Array.length_toList]
        refine fill ((Walks.tuple hh3 _ l nI its).toS) s.heap.objs.size nF xs hsz (by rw [← hsz]; exact hn1) (fun i v hv => strs_at hi i v (by rw [Array.getElem?_toList]; exact hv)) its.size 0 _ (Nat.zero_add _)
          ⟨⟨_, Heap.get?_push_size _ rfl, rfl, rfl⟩, (hl1.push _)⟩ ?a0 ?a1
        case a0 =>
          have hget : ((s.heap.push (S0 led)).push { cls := .type "tuple_iterator", data := .fields #[.ref l, .int 0 0] }).get? s.heap.objs.size = some (S0 led) := Heap.get?_push_of_some _ hS
          exact PyProof.Rows.SetOf_congr ((PyProof.Rows.setObjOf_fresh (knd := PySem.strKind prog w) led).setOf hget (by unfold scanBound; omega)) (fun _ => rfl) rfl
        case a1 =>
          intro s' hm hS'
          obtain ⟨h', g', d', tk', os'⟩ := s'
          have eg : g' = s.gens := hm.gens
          have ed : d' = s.drawn := hm.drawn
          have eo : os' = s.os := hm.os
          subst eg
          subst ed
          subst eo
          show wpAny _ _ _ _ _ _
          refine wpAny_pure ?_
          show wpAny _ _ (ret Value.none) _ _ _
          refine wpAny_pure ⟨rfl, h', tk', rfl, hS', fun b o hb e => hm.heap b o (fun z => ?_) (Heap.get?_push_of_some _ (Heap.get?_push_of_some _ e))⟩
          rcases List.mem_cons.mp z with z | z
          · exact Nat.ne_of_lt hb z
          · have z := List.mem_singleton.mp z
            rw [szp] at z
            exact Nat.ne_of_lt (Nat.lt_succ_of_lt hb) z
      · cases r₂ with
        | error e => exact hr₂
        | ok fl₂ =>
          cases fl₂ with
          | ret r =>
            obtain ⟨rfl, h', tk, rfl, hS', hk'⟩ := hr₂
            repeat (any_goals (first | assumption | wp_step))
            exact h _ _ hS' hk'
          | _ => exact hr₂.elim
    | _ => exact hr.elim
end

end GS

-- part Rules2
set_option Elab.async false
set_option linter.all false
set_option maxRecDepth 100000
set_option maxHeartbeats 4000000
namespace GS
open PySem PySem.Spec PyProof.Rows L2 SS
section
variable {X : Cx}
/-- a list or a tuple of texts -/
def TxL (K : PySem.W.Frag) (H : Hp) (a : Addr) (xs : List Str) : Prop := SqL K H a (xs.map V.str) ∨ SqT K H a (xs.map V.str)
def tLenSetS (K : PySem.W.Frag) (ta : TE) : TE := fun σ H Q => ta σ H fun x H1 => ∃ l, ∃ xs : List Str, x = .ref l ∧ TxL K H1 l xs ∧ xs.length ≤ 4000 ∧ Q (.int ((dis xs).length : Nat)) H1
theorem pe_lenSetS {a : Expr} {ta : TE} {p p2 q pos : Pos} (hc : X.calm = true) (hm : X.mg "len" = none) (hm2 : X.mg "set" = none) (ha : PE X a ta) (hg : Gl X "len" := by rfl) (hg2 : Gl X "set" := by rfl)
    (na : starEach [a] X.env = (false, eval a X.env) :: starEach [] X.env := by rfl) : PE X (.Call (.Name "len" p) [.Call (.Name "set" p2) [a] [] q] [] pos) (tLenSetS X.K ta) := by
  refine ⟨fun pins s σ H Q I h => ?_⟩
  refine Call_ (ld_blt I hg hm boot_len (PyProof.Rows.callWith_builtin1 (PyProof.Rows.args_cons ?_ rfl) rfl rfl))
  refine Call_ (ld_blt I hg2 hm2 boot_set ?_)
  refine PyProof.Rows.callWith_type1 (PyProof.Rows.args_cons (thn (ha.run pins s σ H _ I h) fun v s1 ⟨x, H1, I1, r1, q1⟩ => PyProof.Rows.args_nil ?_) na) na rfl
  obtain ⟨l, xs, rfl, hq, h1, q1⟩ := q1
  cases r1
  have lim : xs.length + 1 < scanBound := by unfold scanBound; omega
  have le := dis_len xs
  have fin : ∀ (h' : Heap) (tk : Nat), h'.SetOf (PySem.strKind X.prog X.w) s1.heap.objs.size (fun y => xs.any (· == y)) (dis xs).length → (∀ b o, b < s1.heap.objs.size → s1.heap.get? b = some o → h'.get? b = some o) →
      wpAny (model X.prog X.w) X.A (spliced (backTo pos (starEach [] X.env))) (fun vs s₂ => wpAny (model X.prog X.w) X.A (call (.builtin "len") (Value.ref s1.heap.objs.size :: vs)) (EP X pins σ Q) X.xe s₂) X.xe { s1 with heap := h', toks := tk } := fun h' tk hS hk => by
    refine PyProof.Rows.args_nil ?_
    obtain ⟨o, es, ep, t, ho, hex, hd, _, _, _, hf, hn⟩ := hS
    have I2 : Inv X pins σ H1 { s1 with heap := h', toks := tk } := I1.kept fun b o e => hk b o (Heap.lt_size e) e
    exact call_len_set ho hex hd hf (by rw [hn]; omega) ⟨.int ((dis xs).length : Nat), H1, I2.tok _, ⟨_, by rw [hn]⟩, q1⟩
  rcases hq with hq | hq
  · obtain ⟨its, r, pl, hz⟩ := I1.list hq
    exact call_set_list (I1.ok.hd hc) pl.isList (by simpa using strsAre_of r) lim fin
  · obtain ⟨its, r, pl, hz⟩ := I1.tuple hq
    exact call_set_tuple (I1.ok.hd hc) pl (by simpa using strsAre_of r) lim fin
/-- a written dict with text keys: is the key there -/
def KHas (K : PySem.W.Frag) (w : World) (a : Addr) (z : Str) (b : Bool) : Prop := ∃ es n o, K.lookup a = some ⟨.type "dict", none, .dict es n, #[]⟩ ∧ PySem.W.KeysLit w.params es.toList ∧ (a == sysModules) = false ∧ PySem.W.nsIn K a z = some o ∧ b = o.isSome
def rInK (K : PySem.W.Frag) (w : World) : R2 := fun x y H Q => ∃ p z b, x = .str z ∧ y = .ref p ∧ KHas K w p z b ∧ Q (.bl b) H
def rNotInK (K : PySem.W.Frag) (w : World) : R2 := fun x y H Q => ∃ p z b, x = .str z ∧ y = .ref p ∧ KHas K w p z b ∧ Q (.bl (!b)) H
theorem op_inK : OpR X (compareOp .In) (rInK X.K X.w) := by
  intro pins s σ H x y v u Q I rx ry h
  obtain ⟨p, z, b, rfl, rfl, ⟨es, n, o, hl, hk, hs, hn, rfl⟩, q⟩ := h
  obtain ⟨t, rfl⟩ := rx
  obtain rfl : u = Value.ref p := ry
  have hm := PySem.W.mapOf_K (prog := X.prog) (w := X.w) I.kIn hl hk
  refine wpAny_in_of (strKind_is X.prog X.w z t) hs hm ?_
  rw [PySem.W.find_K hl hn]
  exact ⟨.bl _, H, I.tok _, rfl, q⟩
theorem op_notInK : OpR X (compareOp .NotIn) (rNotInK X.K X.w) := by
  intro pins s σ H x y v u Q I rx ry h
  obtain ⟨p, z, b, rfl, rfl, ⟨es, n, o, hl, hk, hs, hn, rfl⟩, q⟩ := h
  obtain ⟨t, rfl⟩ := rx
  obtain rfl : u = Value.ref p := ry
  have hm := PySem.W.mapOf_K (prog := X.prog) (w := X.w) I.kIn hl hk
  refine wpAny_notIn_of (strKind_is X.prog X.w z t) hs hm ?_
  rw [PySem.W.find_K hl hn]
  exact ⟨.bl _, H, I.tok _, rfl, q⟩
/-- * of two factors of together less than a hundred million bits -/
def CMulB (i j : Int) : Prop := i.natAbs.log2 + j.natAbs.log2 < 100000000
theorem CMulB.ok {i j : Int} (h : CMulB i j) : IntMulOk i j := by
  have b : ∀ x : Int, Builtin.Int.intBits x ≤ x.natAbs.log2 + 1 := fun x => by
    unfold Builtin.Int.intBits
    split <;> omega
  have h1 := b i
  have h2 := b j
  have h3 : i.natAbs.log2 + j.natAbs.log2 < 100000000 := h
  have e : bitsLine = 134217728 := by decide
  unfold IntMulOk
  intro z
  rw [Bool.and_eq_true] at z
  have z2 := z.2
  unfold Builtin.Int.intTooBig at z2
  have z3 := of_decide_eq_true z2
  rw [e] at z3
  omega
theorem op_mulB : OpR X (binaryOp .Mult) (rI CMulB fun i j => .int (i * j)) := opI fun _ _ _ _ _ _ _ hc q => mul_int q hc.ok
end
section
variable {P : Program} {w : World} {K : PySem.W.Frag} {mg : Str → Option Value} {base : Heap} {x qual : Str} {params : Arguments} {body : List Stmt} {scope : Scope} {dvs : List V} {kws : List (Str × V)} {f : Addr} {fd : FuncData}
/-- FunD.ok where the body asks for the def's own code object -/
theorem okC {CX : CXT} {N ps : List Str} {k : Nat} {sp : Sp} {c : Addr} (F : FunD K x qual params body scope dvs kws f fd) (hc : fd.code = .ref c) (S : FnScope N ps scope) (len : ∀ vs H Q E, sp vs H Q E → vs.length = ps.length)
    (hbody : ∀ (A : Around) (outer : List Env) (s : Shared) (H : Hp) (vs : List V) (Q : VK) (E : XK), Room k (A.deeper (envOfC qual scope s.heap.objs.size f (.ref c))) → sp vs H Q E →
      ∃ t, PSs (cxOf CX P w K mg base N qual scope f (.ref c) A outer s H E) body t ∧ t { nx := fun _ H' => Q .non H', rt := Q } (start N vs) H) : FnOk P w K mg base CX (k + 1) f fd ps sp := by
  obtain ⟨oc, od, dV, kV, doc, pm, an, cdv, ct, osl, rfl, lk, hcd, _, _⟩ := F.ex
  have e : cdv = .ref c := hc
  subst e
  exact fn_of lk hcd S len fun A outer s H vs Q E hr hsp => hbody A outer s H vs Q E hr hsp
/-- the code object by the head's way to it -/
theorem codeOf_at {p : Str × Option Str} (F : FunD K x qual params body scope dvs kws (He.fAd K p) fd) : fd.code = .ref (He.codeOf K p) := by
  obtain ⟨oc, od, dV, kV, doc, pm, an, cdv, ct, osl, rfl, lk, hcd, _, _⟩ := F.ex
  show cdv = .ref (He.codeOf K p)
  cases cdv with
  | ref c => rw [He.codeOf_eq lk (c := c) rfl]
  | _ => cases hcd
end
end GS

-- part Data
set_option Elab.async false
set_option linter.all false
set_option maxRecDepth 100000
set_option maxHeartbeats 2000000
/-! heaps that grow, lists of texts -/
namespace GD
open PySem PySem.Spec PyProof.Rows L2 GxR GS GA
theorem ifT {c : Bool} {A B : Prop} (hc : c = true) (h : A) : if c = true then A else B := by rw [if_pos hc]; exact h
theorem ifF {c : Bool} {A B : Prop} (hc : c = false) (h : B) : if c = true then A else B := by rw [hc, if_neg Bool.false_ne_true]; exact h
/-- all that is tracked stands; tables may have grown -/
structure Sm (H H' : Hp) : Prop where
  st : ∀ b o, H b = some o → (∀ ps, o ≠ .tbl ps) → H' b = some o
  tb : ∀ P, TabG H P → TabG H' P
  fr : ∀ b, H' b = none → H b = none
theorem Sm.refl {H : Hp} : Sm H H := ⟨fun _ _ e _ => e, fun _ t => t, fun _ e => e⟩
theorem Sm.trans {H1 H2 H3 : Hp} (a : Sm H1 H2) (b : Sm H2 H3) : Sm H1 H3 := ⟨fun x o e n => b.st x o (a.st x o e n) n, fun P t => b.tb P (a.tb P t), fun x e => a.fr x (b.fr x e)⟩
theorem Sm.new {H : Hp} {d : Addr} {o : HO} (h : H d = none) : Sm H (upd H d o) := by
  refine ⟨fun b u e _ => ?_, fun P ⟨ps, e, t⟩ => ⟨ps, ?_, t⟩, fun b e => ?_⟩
  · rw [upd_ne (ne_of_none e h)]; exact e
  · rw [upd_ne (ne_of_none e h)]; exact e
  · by_cases hb : b = d
    · rw [hb, upd_same] at e; cases e
    · rw [upd_ne hb] at e; exact e
theorem Sm.tab {H H' : Hp} {P : Addr} (hP : TabG H P) (t : Tabbed P H H') : Sm H H' := by
  refine ⟨fun b o e n => ?_, fun Q q => ?_, fun b e => ?_⟩
  · by_cases hb : b = P
    · obtain ⟨ps, e2, _⟩ := hP
      rw [hb, e2] at e; cases e
      exact absurd rfl (n ps)
    · rw [t.2 b hb]; exact e
  · by_cases hb : Q = P
    · rw [hb]; exact t.1
    · obtain ⟨ps, e, z⟩ := q
      exact ⟨ps, (t.2 Q hb).trans e, z⟩
  · by_cases hb : b = P
    · obtain ⟨ps, e2, _⟩ := t.1
      rw [hb, e2] at e; cases e
    · rw [← t.2 b hb]; exact e
/-- an object of one's own, younger than H0, is written -/
theorem Sm.own {H0 H : Hp} {d : Addr} {o : HO} (a : Sm H0 H) (h : H0 d = none) (n : ∀ P, TabG H P → P ≠ d) : Sm H0 (upd H d o) := by
  refine ⟨fun b u e z => ?_, fun P t => ?_, fun b e => ?_⟩
  · rw [upd_ne (ne_of_none e h)]; exact a.st b u e z
  · obtain ⟨ps, e, t2⟩ := a.tb P t
    exact ⟨ps, by rw [upd_ne (n P ⟨ps, e, t2⟩)]; exact e, t2⟩
  · by_cases hb : b = d
    · rw [hb, upd_same] at e; cases e
    · rw [upd_ne hb] at e; exact a.fr b e
theorem tabG_ne {H : Hp} {P d : Addr} {o : HO} (t : TabG H P) (e : H d = some o) (n : ∀ ps, o ≠ .tbl ps) : P ≠ d := fun z => by
  obtain ⟨ps, e2, _⟩ := t
  rw [z, e] at e2; cases e2
  exact n ps rfl
section
variable {K : PySem.W.Frag} {H H' : Hp} {a : Addr} {xs : List V} {ss : List Str}
theorem Sm.lst (s : Sm H H') (h : SqL K H a xs) : SqL K H' a xs := by
  rcases h with (h | ⟨o, h⟩) | h
  · exact .inl (.inl (s.st a _ h fun _ z => by cases z))
  · exact .inl (.inr ⟨o, s.st a _ h fun _ z => by cases z⟩)
  · exact .inr h
theorem Sm.tup (s : Sm H H') (h : SqT K H a xs) : SqT K H' a xs := by
  rcases h with (h | ⟨o, h⟩) | h
  · exact .inl (.inl (s.st a _ h fun _ z => by cases z))
  · exact .inl (.inr ⟨o, s.st a _ h fun _ z => by cases z⟩)
  · exact .inr h
theorem Sm.txl (s : Sm H H') (h : TxL K H a ss) : TxL K H' a ss := h.elim (fun z => .inl (s.lst z)) fun z => .inr (s.tup z)
end
/-- a list or a tuple of anything -/
def Sq (K : PySem.W.Frag) (H : Hp) (a : Addr) (xs : List V) : Prop := SqL K H a xs ∨ SqT K H a xs
theorem Sm.sq {K : PySem.W.Frag} {H H' : Hp} {a : Addr} {xs : List V} (s : Sm H H') (h : Sq K H a xs) : Sq K H' a xs := h.elim (fun z => .inl (s.lst z)) fun z => .inr (s.tup z)
theorem TxL.sq {K : PySem.W.Frag} {H : Hp} {a : Addr} {ss : List Str} (h : TxL K H a ss) : Sq K H a (ss.map V.str) := h

/-! ### walks over what is a list or a tuple -/
section
variable {X : Cx} {l : Expr} {tl : TE} {tg : Expr}
/-- over a list or a tuple: the reading is told for both -/
def iSq (K : PySem.W.Frag) (tl : TE) : TI := fun σ H R => tl σ H fun x H1 => ∃ a, x = .ref a ∧ ((∃ xs, SqL K H1 a xs) ∧ R (Itl K a) H1 ∨ (∃ xs, SqT K H1 a xs) ∧ R (Itt K a) H1)
theorem pi_sq (hl : PE X l tl) : PI X tg l (iSq X.K tl) := by
  refine ⟨fun pins s σ H R I h => ?_⟩
  -- by the value's own kind
  have h1 : wpAny (model X.prog X.w) X.A (eval l X.env) (fun v s1 => ∃ H1, Inv X pins σ H1 s1 ∧ ∃ a, v = Value.ref a ∧ ((∃ xs, SqL X.K H1 a xs) ∧ R (Itl X.K a) H1 ∨ (∃ xs, SqT X.K H1 a xs) ∧ R (Itt X.K a) H1)) X.xe s :=
    thn (hl.run pins s σ H _ I h) fun v s1 ⟨x, H1, I1, r1, a, e, q⟩ => by
      subst e
      exact ⟨H1, I1, a, r1, q⟩
  refine thn h1 fun v s1 ⟨H1, I1, a, ev, q⟩ => ?_
  subst ev
  rcases q with ⟨⟨xs, hq⟩, q⟩ | ⟨⟨xs, hq⟩, q⟩
  · obtain ⟨its, rv, p, hz⟩ := I1.list hq
    refine wpAny_pyIter_list p.isList ?_
    refine ⟨s1.heap.objs.size, [s1.heap.objs.size], _, _, H1, rfl, I1.kept (t' := s1.toks) fun b o e => Heap.get?_push_of_some _ e, turn_list a _, ⟨_, Heap.get?_push_size _ rfl, rfl, rfl⟩, fun b hb => ?_, q⟩
    rw [List.mem_singleton.mp hb]
    exact I1.fpOk (Nat.le_refl _) (I1.hok.fresh (Nat.le_refl _))
  · obtain ⟨its, rv, p, hz⟩ := I1.tuple hq
    refine wpAny_pyIter_tuple (show s1.heap.IsTuple a its.toArray from p) ?_
    refine ⟨s1.heap.objs.size, [s1.heap.objs.size], _, _, H1, rfl, I1.kept (t' := s1.toks) fun b o e => Heap.get?_push_of_some _ e, turn_tuple a _, ⟨_, Heap.get?_push_size _ rfl, rfl, rfl⟩, fun b hb => ?_, q⟩
    rw [List.mem_singleton.mp hb]
    exact I1.fpOk (Nat.le_refl _) (I1.hok.fresh (Nat.le_refl _))
end
/-- a reading over iSq from one over any walk -/
theorem iSq_of {K : PySem.W.Frag} {a : Addr} {xs : List V} {H : Hp} {R : It → Hp → Prop} (h : Sq K H a xs) (hR : ∀ (J : It) (G : Hp → Prop), Walk J xs.length G (YAt xs) → (∀ H', Sm H H' → G H') → R J H) :
    (∃ xs, SqL K H a xs) ∧ R (Itl K a) H ∨ (∃ xs, SqT K H a xs) ∧ R (Itt K a) H := by
  rcases h with h | h
  · exact .inl ⟨⟨xs, h⟩, hR _ _ walk_list fun H' s => s.lst h⟩
  · exact .inr ⟨⟨xs, h⟩, hR _ _ walk_tup fun H' s => s.tup h⟩
/-- the reading of all, any over a walk: Pv by the turn and the heap -/
theorem gen_it {J : It} {n : Nat} {G : Hp → Prop} {Y : Nat → Hp → V → Hp → Prop} (w : Walk J n G Y) {d : Bool} {P : Addr} {g : TG} {te : TE} {vs : List Nat} {σ : L2.St} {H1 : Hp} {Q : VK} (ht : TabG H1 P) (Pv : Nat → Hp → Prop) (h0 : ∀ H2, Tabbed P H1 H2 → Pv 0 H2)
    (hG : ∀ i H, i ≤ n → Pv i H → G H) (hs : ∀ i x H H', i < n → Pv i H → Y i H x H' → g x (wipe σ vs) H' fun σ2 H3 => wipe σ2 vs = wipe σ vs ∧ te σ2 H3 fun y H4 => ∃ b, y = .bl b ∧ (b = d → Q (.bl d) H4) ∧ (b ≠ d → Pv (i + 1) H4))
    (hd : ∀ H, Pv n H → Q (.bl (!d)) H) : TabG H1 P ∧ ∀ H2, Tabbed P H1 H2 → ∃ W : Nat → Nat → Hp → Prop, (∃ m, W 0 m H2) ∧ ∀ i m H, W i m H →
    (J.stop i H ∧ Q (.bl (!d)) H) ∨ (J.go i H ∧ ∃ Nx : Hp → Prop, (∀ H', Nx H' → ∃ m', m' < m ∧ W (i + 1) m' H') ∧
      ∀ x H', J.yld i H x H' → g x (wipe σ vs) H' fun σ2 H3 => wipe σ2 vs = wipe σ vs ∧ te σ2 H3 fun y H4 => ∃ b, y = .bl b ∧ (b = d → Q (.bl d) H4) ∧ (b ≠ d → Nx H4)) := by
  refine ⟨ht, fun H2 t => ⟨fun i m H => m = n - i ∧ i ≤ n ∧ Pv i H, ⟨n, by simp, Nat.zero_le _, h0 H2 t⟩, ?_⟩⟩
  rintro i m H ⟨rfl, hi, p⟩
  have q := hG i H hi p
  by_cases hlt : i < n
  · exact .inr ⟨w.goes i H hlt q, Pv (i + 1), fun H' p' => ⟨n - (i + 1), by omega, rfl, hlt, p'⟩, fun x H' y => hs i x H H' hlt p (w.yields i H x H' hlt q y)⟩
  · obtain rfl : i = n := by omega
    exact .inl ⟨w.stops H q, hd H p⟩
theorem wipe_set (σ : L2.St) (i : Nat) (x : Option V) : wipe ((wipe σ [i]).set i x) [i] = wipe σ [i] := by
  show ((σ.set i none).set i x).set i none = σ.set i none
  rw [List.set_set, List.set_set]
/-- all(f(x) for x in xs), any(..), xs what a walk gives -/
theorem rd_genW (d : Bool) {J : It} {G : Hp → Prop} {xs : List V} (w : Walk J xs.length G (YAt xs)) {f : V → Bool} {P : Addr} {te : TE} {i : Nat} {σ : L2.St} {H : Hp} {Q : VK} (ht : TabG H P) (hG : ∀ H', Sm H H' → G H')
    (hel : ∀ x H' (R : VK), x ∈ xs → Sm H H' → (∀ H'', Sm H H'' → R (.bl (f x)) H'') → te ((wipe σ [i]).set i (some x)) H' R) (hq : ∀ H', Sm H H' → Q (.bl (if d then xs.any f else xs.all f)) H') :
    TabG H P ∧ ∀ H2, Tabbed P H H2 → ∃ W : Nat → Nat → Hp → Prop, (∃ m, W 0 m H2) ∧ ∀ k m H, W k m H →
    (J.stop k H ∧ Q (.bl (!d)) H) ∨ (J.go k H ∧ ∃ Nx : Hp → Prop, (∀ H', Nx H' → ∃ m', m' < m ∧ W (k + 1) m' H') ∧
      ∀ x H', J.yld k H x H' → gName i x (wipe σ [i]) H' fun σ2 H3 => wipe σ2 [i] = wipe σ [i] ∧ te σ2 H3 fun y H4 => ∃ b, y = .bl b ∧ (b = d → Q (.bl d) H4) ∧ (b ≠ d → Nx H4)) := by
  refine gen_it w ht (fun k H' => Sm H H' ∧ ∀ x ∈ xs.take k, f x ≠ d) (fun H2 t => ⟨Sm.tab ht t, by simp⟩) (fun k H' _ p => hG H' p.1) (fun k x H' H'' hk p y => ?_) fun H' p => ?_
  · obtain ⟨rfl, hx⟩ := y
    have hm : x ∈ xs := List.mem_of_getElem? hx
    refine ⟨wipe_set σ i (some x), hel x H'' _ hm p.1 fun H3 s3 => ⟨f x, rfl, fun e => ?_, fun e => ⟨s3, fun y hy => ?_⟩⟩⟩
    · have q := hq H3 s3
      cases d with
      | true =>
        have : xs.any f = true := List.any_eq_true.mpr ⟨x, hm, e⟩
        simpa [this] using q
      | false =>
        have : xs.all f = false := by
          rw [List.all_eq_false]
          exact ⟨x, hm, by simp [e]⟩
        simpa [this] using q
    · rw [List.take_add_one, hx] at hy
      rcases List.mem_append.mp hy with hy | hy
      · exact p.2 y hy
      · have : y = x := by simpa using hy
        rw [this]; exact e
  · have q := hq H' p.1
    rw [List.take_length] at p
    cases d with
    | true =>
      have : xs.any f = false := by
        rw [List.any_eq_false]
        exact fun x hx => p.2 x hx
      simpa [this] using q
    | false =>
      have : xs.all f = true := by
        rw [List.all_eq_true]
        exact fun x hx => by simpa using p.2 x hx
      simpa [this] using q
/-- .. over a list or a tuple in hand -/
theorem rd_gen (d : Bool) {K : PySem.W.Frag} {a : Addr} {xs : List V} {f : V → Bool} {P : Addr} {te : TE} {i : Nat} {σ : L2.St} {H : Hp} {Q : VK} (h : Sq K H a xs) (ht : TabG H P)
    (hel : ∀ x H' (R : VK), x ∈ xs → Sm H H' → (∀ H'', Sm H H'' → R (.bl (f x)) H'') → te ((wipe σ [i]).set i (some x)) H' R) (hq : ∀ H', Sm H H' → Q (.bl (if d then xs.any f else xs.all f)) H') {tl : TE}
    (htl : ∀ R : VK, R (.ref a) H → tl σ H R) : tGen d P (iSq K tl) (gName i) te [i] σ H Q := by
  unfold tGen
  refine htl _ ⟨a, rfl, ?_⟩
  rcases h with h | h
  · exact .inl ⟨⟨xs, h⟩, rd_genW d walk_list ht (fun H' s => s.lst h) hel hq⟩
  · exact .inr ⟨⟨xs, h⟩, rd_genW d walk_tup ht (fun H' s => s.tup h) hel hq⟩
/-- .. over a text's signs -/
theorem rd_genS (d : Bool) {z : Str} {f : V → Bool} {P : Addr} {te : TE} {i : Nat} {σ : L2.St} {H : Hp} {Q : VK} (ht : TabG H P)
    (hel : ∀ x H' (R : VK), x ∈ z.cps.toList.map (fun c => V.str ⟨#[c]⟩) → Sm H H' → (∀ H'', Sm H H'' → R (.bl (f x)) H'') → te ((wipe σ [i]).set i (some x)) H' R)
    (hq : ∀ H', Sm H H' → Q (.bl (if d then (z.cps.toList.map fun c => V.str ⟨#[c]⟩).any f else (z.cps.toList.map fun c => V.str ⟨#[c]⟩).all f)) H') {tl : TE} (htl : ∀ R : VK, R (.str z) H → tl σ H R) : tGen d P (iStr tl) (gName i) te [i] σ H Q := by
  unfold tGen
  refine htl _ ⟨z, rfl, ?_⟩
  have w : Walk (Its z) (z.cps.toList.map fun c => V.str ⟨#[c]⟩).length (fun _ => True) (YAt (z.cps.toList.map fun c => V.str ⟨#[c]⟩)) := by
    have w0 := walk_str (z := z)
    rw [List.length_map, Array.length_toList]
    exact w0.mono (fun _ _ => trivial) fun k H v H' _ _ y => ⟨y.1, by
      obtain ⟨c, hc, rfl⟩ := y.2
      rw [List.getElem?_map, Array.getElem?_toList, hc]; rfl⟩
  exact rd_genW d w ht (fun _ _ => trivial) hel hq

/-- [f(x) for x in xs if p(x)], xs what a walk gives -/
theorem rd_lcW {J : It} {G : Hp → Prop} {xs : List V} (w : Walk J xs.length G (YAt xs)) {p : V → Bool} {f : V → V} {tt : TT} {te : TE} {i : Nat} {σ : L2.St} {H : Hp} {Q : VK} (hG : ∀ H', Sm H H' → G H') (hz : xs.length ≤ sizeLine)
    (htt : ∀ x H' (R : Bool → Hp → Prop), x ∈ xs → Sm H H' → (∀ H'', Sm H' H'' → R (p x) H'') → tt ((wipe σ [i]).set i (some x)) H' R)
    (hte : ∀ x H' (R : VK), x ∈ xs → p x = true → Sm H H' → (∀ H'', Sm H' H'' → R (f x) H'') → te ((wipe σ [i]).set i (some x)) H' R)
    (hq : ∀ D H', H D = none → Sm H H' → H' D = some (.lst ((xs.filter p).map f)) → Q (.ref D) H') :
    ∀ D, H D = none → ∃ W : Nat → Nat → Hp → Prop, (∃ m, W 0 m (upd H D (.lst []))) ∧ ∀ k m H, W k m H →
      (J.stop k H ∧ Q (.ref D) H) ∨ (J.go k H ∧ ∃ Nx : Hp → Prop, (∀ H', Nx H' → ∃ m', m' < m ∧ W (k + 1) m' H') ∧ ∀ x H', J.yld k H x H' → gName i x (wipe σ [i]) H' fun σ2 H2 => wipe σ2 [i] = wipe σ [i] ∧ tt σ2 H2 fun b H3 =>
        if b = true then te σ2 H3 fun y H4 => ∃ acc, H4 D = some (.lst acc) ∧ acc.length < sizeLine ∧ Nx (upd H4 D (.lst (acc ++ [y]))) else Nx H3) := by
  intro D hD
  refine lc_it w (Qd := fun H => Q (.ref D) H) (fun k H' => Sm H H' ∧ H' D = some (.lst (((xs.take k).filter p).map f))) ⟨Sm.new hD, upd_same⟩ (fun k H' _ q => hG H' q.1) (fun k x H' H'' hk q y => ?_) fun H' q => ?_
  · obtain ⟨rfl, hx⟩ := y
    have hm : x ∈ xs := List.mem_of_getElem? hx
    have tk : xs.take (k + 1) = xs.take k ++ [x] := by rw [List.take_add_one, hx]; rfl
    refine ⟨wipe_set σ i (some x), htt x H'' _ hm q.1 fun H3 s3 => ?_⟩
    have q3 : H3 D = some (.lst (((xs.take k).filter p).map f)) := s3.st D _ q.2 fun _ z => by cases z
    cases hp : p x with
    | false =>
      refine ifF rfl ⟨q.1.trans s3, ?_⟩
      rw [tk, List.filter_append, List.filter_cons_of_neg (by simp [hp]), List.filter_nil, List.append_nil]
      exact q3
    | true =>
      refine ifT rfl (hte x H3 _ hm hp (q.1.trans s3) fun H4 s4 => ?_)
      have q4 : H4 D = some (.lst (((xs.take k).filter p).map f)) := s4.st D _ q3 fun _ z => by cases z
      refine ⟨_, q4, ?_, Sm.own ((q.1.trans s3).trans s4) hD (fun P t => tabG_ne t q4 fun _ z => by cases z), ?_⟩
      · rw [List.length_map]
        have h1 := List.length_filter_le p (xs.take k)
        rw [List.length_take] at h1
        omega
      · rw [tk, List.filter_append, List.filter_cons_of_pos hp, List.filter_nil, List.map_append]
        exact upd_same
  · have q2 := q.2
    rw [List.take_length] at q2
    exact hq D H' hD q.1 q2
/-- a comprehension's reading, kept shut -/
@[irreducible] def tLcI (wi : TI) (g : TG) (tt : TT) (te : TE) (vs : List Nat) : TE := tLc wi g tt te vs
theorem pe_lcI {X : Cx} {elt tg iter : Expr} {ifs : List Expr} {scope : Scope} {own : List (Str × Nat)} {pos : Pos} {wi : TI} {g : TG} {tt : TT} {te : TE} (hc : X.calm = true) (hN : X.N.Nodup) (hi : PI X tg iter wi) (ok : BlkOk X.N X.env.scope scope own)
    (hg : ∀ (s : Shared) (H : Hp) (C : Addr) (cl : List (Str × Addr)) (fp : List Addr), PG (X.blk s H scope (compEnvC scope cl C X.env) fp) tg g) (ht : ∀ (s : Shared) (H : Hp) (C : Addr) (cl : List (Str × Addr)) (fp : List Addr), PTs (X.blk s H scope (compEnvC scope cl C X.env) fp) ifs tt)
    (he : ∀ (s : Shared) (H : Hp) (C : Addr) (cl : List (Str × Addr)) (fp : List Addr), PE (X.blk s H scope (compEnvC scope cl C X.env) fp) elt te) (hs : ∀ x, foldedSetIterable iter X.env x = pure x := by intro _; rfl) :
    PE X (.ListComp elt [⟨tg, iter, ifs, 0⟩] scope pos) (tLcI wi g tt te (own.map (·.2))) := by
  unfold tLcI
  exact pe_lc hc hN hi ok hg ht he hs
/-- .. over a list or a tuple in hand -/
theorem rd_lc {K : PySem.W.Frag} {a : Addr} {xs : List V} {p : V → Bool} {f : V → V} {tt : TT} {te : TE} {i : Nat} {σ : L2.St} {H : Hp} {Q : VK} (h : Sq K H a xs) (hz : xs.length ≤ sizeLine)
    (htt : ∀ x H' (R : Bool → Hp → Prop), x ∈ xs → Sm H H' → (∀ H'', Sm H' H'' → R (p x) H'') → tt ((wipe σ [i]).set i (some x)) H' R)
    (hte : ∀ x H' (R : VK), x ∈ xs → p x = true → Sm H H' → (∀ H'', Sm H' H'' → R (f x) H'') → te ((wipe σ [i]).set i (some x)) H' R)
    (hq : ∀ D H', H D = none → Sm H H' → H' D = some (.lst ((xs.filter p).map f)) → Q (.ref D) H') {tl : TE} (htl : ∀ R : VK, R (.ref a) H → tl σ H R) : tLcI (iSq K tl) (gName i) tt te [i] σ H Q := by
  unfold tLcI tLc
  refine htl _ ⟨a, rfl, ?_⟩
  rcases h with h | h
  · exact .inl ⟨⟨xs, h⟩, rd_lcW walk_list (fun H' s => s.lst h) hz htt hte hq⟩
  · exact .inr ⟨⟨xs, h⟩, rd_lcW walk_tup (fun H' s => s.tup h) hz htt hte hq⟩

/-- a for's reading, kept shut -/
@[irreducible] def tForI (wi : TI) (g : TG) (tb : TS) : TS := tFor wi g tb
theorem ps_forI {X : Cx} {tg iter : Expr} {body : List Stmt} {wi : TI} {g : TG} {tb : TS} {pos : Pos} (hp : PassesOwn (model X.prog X.w) X.A X.env X.xe) (hc : X.calm = true) (hi : PI X tg iter wi) (hg : PG X tg g) (hb : PSs X body tb)
    (hs : ∀ x, foldedSetIterable iter X.env x = pure x := by intro _; rfl) : PS X (.For tg iter body [] pos) (tForI wi g tb) := by
  unfold tForI
  exact ps_for hp hc hi hg hb hs
/-- for x in xs, a list or a tuple that stands since H0: Pv by the turn, the slots, the heap -/
theorem rd_for {K : PySem.W.Frag} {a : Addr} {xs : List V} {tb : TS} {D : Ends} {σ : L2.St} {H H0 : Hp} {i : Nat} (h : Sq K H0 a xs) (Pv : Nat → L2.St → Hp → Prop) (h0 : Pv 0 σ H) (hG : ∀ k σ' H', Pv k σ' H' → Sm H0 H')
    (hs : ∀ k x σ' H', xs[k]? = some x → Pv k σ' H' → tb { D with nx := Pv (k + 1), ct := Pv (k + 1), bk := D.nx } (σ'.set i (some x)) H') (hd : ∀ σ' H', Pv xs.length σ' H' → D.nx σ' H') {tl : TE} (htl : ∀ R : VK, R (.ref a) H → tl σ H R) :
    tForI (iSq K tl) (gName i) tb D σ H := by
  unfold tForI tFor
  refine htl _ ⟨a, rfl, ?_⟩
  have s0 := hG 0 σ H h0
  rcases h with h | h
  · exact .inl ⟨⟨xs, s0.lst h⟩, for_it walk_list Pv h0 (fun k σ' H' _ p => (hG k σ' H' p).lst h) (fun k x σ' H' H'' _ p y => by obtain ⟨rfl, hx⟩ := y; exact hs k x σ' H'' hx p) hd⟩
  · exact .inr ⟨⟨xs, s0.tup h⟩, for_it walk_tup Pv h0 (fun k σ' H' _ p => (hG k σ' H' p).tup h) (fun k x σ' H' H'' _ p y => by obtain ⟨rfl, hx⟩ := y; exact hs k x σ' H'' hx p) hd⟩
/-- what an exception that a call lets out becomes in a def that lets it out -/
theorem passX {X : Cx} {E : XK} (tk : Takes X (fun cls d _ H => E cls d H)) : Passes (L2.CX X.prog X.w) X E := passes_call tk fun _ _ _ _ h => h

theorem Paired.get {α β : Type} {F : α → β → Prop} : ∀ {xs : List α} {ys : List β} {i : Nat} {x : α}, Paired F xs ys → xs[i]? = some x → ∃ y, ys[i]? = some y ∧ F x y
  | _, _, _, _, .nil, e => by simp at e
  | _, _, 0, _, .cons r _, e => by simp at e; subst e; exact ⟨_, rfl, r⟩
  | _, _, i + 1, x, .cons _ t, e => by
    obtain ⟨y, h1, h2⟩ := Paired.get (i := i) t (by simpa using e)
    exact ⟨y, by simpa using h1, h2⟩
theorem Paired.mem {α β : Type} {F : α → β → Prop} {xs : List α} {ys : List β} {x : α} (h : Paired F xs ys) (hx : x ∈ xs) : ∃ y, y ∈ ys ∧ F x y := by
  obtain ⟨i, hi⟩ := List.mem_iff_getElem?.mp hx
  obtain ⟨y, e, r⟩ := Paired.get h hi
  exact ⟨y, List.mem_of_getElem? e, r⟩
theorem Paired.snoc {α β : Type} {F : α → β → Prop} : ∀ {xs : List α} {ys : List β} {x : α} {y : β}, Paired F xs ys → F x y → Paired F (xs ++ [x]) (ys ++ [y])
  | _, _, _, _, .nil, r => .cons r .nil
  | _, _, _, _, .cons q t, r => .cons q (Paired.snoc t r)
theorem Paired.imp {α β : Type} {F G : α → β → Prop} (h : ∀ x y, F x y → G x y) : ∀ {xs : List α} {ys : List β}, Paired F xs ys → Paired G xs ys
  | _, _, .nil => .nil
  | _, _, .cons q t => .cons (h _ _ q) (Paired.imp h t)
theorem Paired.len {α β : Type} {F : α → β → Prop} {xs : List α} {ys : List β} (h : Paired F xs ys) : xs.length = ys.length := by
  induction h with
  | nil => rfl
  | cons _ _ ih => rw [List.length_cons, List.length_cons, ih]
/-- tuples and what is locked stand -/
structure Tu (H H' : Hp) : Prop where
  tup : ∀ b xs, H b = some (.tup xs) → H' b = some (.tup xs)
  frz : ∀ b o u, H b = some (.frz o u) → H' b = some (.frz o u)
theorem Sm.tu {H H' : Hp} (s : Sm H H') : Tu H H' := ⟨fun b _ e => s.st b _ e (fun _ z => by cases z), fun b _ _ e => s.st b _ e (fun _ z => by cases z)⟩
theorem Tu.trans {A B C : Hp} (a : Tu A B) (b : Tu B C) : Tu A C := ⟨fun x y e => b.tup x y (a.tup x y e), fun x o u e => b.frz x o u (a.frz x o u e)⟩
theorem Tu.lset {H : Hp} {l : Addr} {xs : List V} {o : HO} (e : H l = some (.lst xs)) : Tu H (upd H l o) :=
  ⟨fun b y q => by rw [upd_ne (ne_of q e (by intro z; cases z))]; exact q, fun b y u q => by rw [upd_ne (ne_of q e (by intro z; cases z))]; exact q⟩
theorem Tu.sqt {K : PySem.W.Frag} {H H' : Hp} {a : Addr} {xs : List V} (s : Tu H H') (h : SqT K H a xs) : SqT K H' a xs := by
  rcases h with (h | ⟨o, h⟩) | h
  · exact .inl (.inl (s.tup _ _ h))
  · exact .inl (.inr ⟨o, s.frz _ _ _ h⟩)
  · exact .inr h
/-- [g for x in us if q], what is behind each x told by a pairing -/
theorem rd_lcP {κ : Type} {F : V → κ → Prop} {us : List V} {ks : List κ} (hp : Paired F us ks) {K : PySem.W.Frag} {a : Addr} {q : κ → Bool} {g : V → κ → V} {tt : TT} {te : TE} {i : Nat} {σ : L2.St} {H : Hp} {Q : VK} (h : Sq K H a us) (hz : us.length ≤ sizeLine)
    (htt : ∀ x y H' (R : Bool → Hp → Prop), F x y → y ∈ ks → Sm H H' → (∀ H'', Sm H' H'' → R (q y) H'') → tt ((wipe σ [i]).set i (some x)) H' R)
    (hte : ∀ x y H' (R : VK), F x y → y ∈ ks → q y = true → Sm H H' → (∀ H'', Sm H' H'' → R (g x y) H'') → te ((wipe σ [i]).set i (some x)) H' R)
    (hq : ∀ D H', H D = none → Sm H H' → H' D = some (.lst (((us.zip ks).filter fun z => q z.2).map fun z => g z.1 z.2)) → Q (.ref D) H') {tl : TE} (htl : ∀ R : VK, R (.ref a) H → tl σ H R) : tLcI (iSq K tl) (gName i) tt te [i] σ H Q := by
  have core : ∀ (J : It) (G : Hp → Prop), Walk J us.length G (YAt us) → (∀ H', Sm H H' → G H') → ∀ D, H D = none → ∃ W : Nat → Nat → Hp → Prop, (∃ m, W 0 m (upd H D (.lst []))) ∧ ∀ k m H, W k m H →
      (J.stop k H ∧ Q (.ref D) H) ∨ (J.go k H ∧ ∃ Nx : Hp → Prop, (∀ H', Nx H' → ∃ m', m' < m ∧ W (k + 1) m' H') ∧ ∀ x H', J.yld k H x H' → gName i x (wipe σ [i]) H' fun σ2 H2 => wipe σ2 [i] = wipe σ [i] ∧ tt σ2 H2 fun b H3 =>
        if b = true then te σ2 H3 fun y H4 => ∃ acc, H4 D = some (.lst acc) ∧ acc.length < sizeLine ∧ Nx (upd H4 D (.lst (acc ++ [y]))) else Nx H3) := by
    intro J G w hG D hD
    refine lc_it w (Qd := fun H => Q (.ref D) H) (fun k H' => Sm H H' ∧ H' D = some (.lst ((((us.zip ks).take k).filter fun z => q z.2).map fun z => g z.1 z.2))) ⟨Sm.new hD, upd_same⟩ (fun k H' _ z => hG H' z.1) (fun k x H' H'' hk r y => ?_) fun H' r => ?_
    · obtain ⟨rfl, hx⟩ := y
      obtain ⟨y, hy, hF⟩ := Paired.get hp hx
      have hm := List.mem_of_getElem? hy
      have hzp : (us.zip ks)[k]? = some (x, y) := by
        rw [List.getElem?_zip_eq_some]
        exact ⟨hx, hy⟩
      have tk : (us.zip ks).take (k + 1) = (us.zip ks).take k ++ [(x, y)] := by rw [List.take_add_one, hzp]; rfl
      refine ⟨wipe_set σ i (some x), htt x y H'' _ hF hm r.1 fun H3 s3 => ?_⟩
      have q3 := s3.st D _ r.2 fun _ z => by cases z
      cases hpy : q y with
      | false =>
        refine ifF rfl ⟨r.1.trans s3, ?_⟩
        rw [tk, List.filter_append, List.filter_cons_of_neg (by simp [hpy]), List.filter_nil, List.append_nil]
        exact q3
      | true =>
        refine ifT rfl (hte x y H3 _ hF hm hpy (r.1.trans s3) fun H4 s4 => ?_)
        have q4 := s4.st D _ q3 fun _ z => by cases z
        refine ⟨_, q4, ?_, Sm.own ((r.1.trans s3).trans s4) hD (fun P t => tabG_ne t q4 fun _ z => by cases z), ?_⟩
        · rw [List.length_map]
          have h1 := List.length_filter_le (fun z : V × κ => q z.2) ((us.zip ks).take k)
          rw [List.length_take] at h1
          omega
        · rw [tk, List.filter_append, List.filter_cons_of_pos (by simpa using hpy), List.filter_nil, List.map_append]
          exact upd_same
    · have q2 := r.2
      rw [List.take_of_length_le (by rw [List.length_zip]; omega)] at q2
      exact hq D H' hD r.1 q2
  unfold tLcI tLc
  refine htl _ ⟨a, rfl, ?_⟩
  rcases h with h | h
  · exact .inl ⟨⟨us, h⟩, core _ _ walk_list fun H' s => s.lst h⟩
  · exact .inr ⟨⟨us, h⟩, core _ _ walk_tup fun H' s => s.tup h⟩
theorem zip_all {κ : Type} {F : V → κ → Prop} {us : List V} {ks : List κ} (hp : Paired F us ks) (g : κ → V) : ((us.zip ks).filter fun _ => true).map (fun z => g z.2) = ks.map g := by
  have e : (us.zip ks).map Prod.snd = ks := List.map_snd_zip (by rw [Paired.len hp]; exact Nat.le_refl _)
  rw [List.filter_eq_self.mpr (fun _ _ => rfl)]
  conv => rhs; rw [← e]
  rw [List.map_map]
  rfl
theorem zip_len {κ : Type} {F : V → κ → Prop} {us : List V} {ks : List κ} (hp : Paired F us ks) (q : κ → Bool) (g : V → κ → V) : (((us.zip ks).filter fun z => q z.2).map fun z => g z.1 z.2).length = (ks.filter q).length := by
  have e : (us.zip ks).map Prod.snd = ks := List.map_snd_zip (by rw [Paired.len hp]; exact Nat.le_refl _)
  conv => rhs; rw [← e]
  rw [List.length_map, List.filter_map, List.length_map]
  rfl

theorem miss_of {P : Params} {z : Str} : ∀ {l : List DictEntry} {ks : List Str}, l.map He.keyOf = He.keysIn P ks → z ∉ ks → l.find? (fun e => e.key.isStr z) = none ∧ l.any (fun e => e.refKey) = false
  | [], _, _, _ => ⟨rfl, rfl⟩
  | e :: r, [], h, _ => by cases h
  | e :: r, k :: ks, h, hz => by
    have h1 : He.keyOf e :: r.map He.keyOf = some (k, PyData.keyHash P k) :: He.keysIn P ks := h
    injection h1 with h2 h3
    obtain ⟨i1, i2⟩ := miss_of (z := z) h3 (fun q => hz (List.mem_cons_of_mem _ q))
    unfold He.keyOf at h2
    split at h2
    · rename_i x t q
      have h5 : x = k := (Prod.mk.inj (Option.some.inj h2)).1
      have nz : x ≠ z := fun y => hz (by rw [← y, h5]; exact List.mem_cons_self)
      have e1 : e.key.isStr z = false := by
        rw [q]
        show (x == z) = false
        simpa using nz
      have e2 : e.refKey = false := by
        unfold DictEntry.refKey
        rw [q]
      exact ⟨by rw [List.find?_cons_of_neg (by simp [e1])]; exact i1, by rw [List.any_cons, e2, i2]; rfl⟩
    · cases h2
/-- a written dict with text keys and ints: what it has -/
def KLook (K : PySem.W.Frag) (w : World) (a : Addr) (kvs : List (Str × Int)) : Prop := ∀ z, (∀ i, kvs.lookup z = some i → KDct K w a z (.int i)) ∧ KHas K w a z (kvs.lookup z).isSome
theorem lookup_some {α : Type} {z : Str} {i : α} : ∀ {l : List (Str × α)}, l.lookup z = some i → (z, i) ∈ l
  | (k, v) :: r, h => by
    rw [List.lookup_cons] at h
    cases e : z == k with
    | true => rw [e] at h; cases h; rw [beq_iff_eq.mp e]; exact List.mem_cons_self
    | false => rw [e] at h; exact List.mem_cons_of_mem _ (lookup_some h)
theorem lookup_none {α : Type} {z : Str} : ∀ {l : List (Str × α)}, l.lookup z = none → z ∉ l.map (·.1)
  | [], _ => by simp
  | (k, v) :: r, h => by
    rw [List.lookup_cons] at h
    cases e : z == k with
    | true => rw [e] at h; cases h
    | false =>
      rw [e] at h
      have n := lookup_none h
      intro q
      rcases List.mem_cons.mp q with q | q
      · have q : z = k := q
        rw [q] at e; simp at e
      · exact n q
theorem klook_of {K : PySem.W.Frag} {w : World} {a : Addr} {kvs : List (Str × Int)} (h : He.dicW K a = some (He.keysIn w.params (kvs.map (·.1)))) (hv : He.valsB K a (kvs.map fun q => (q.1, He.Dv.int q.2)) = true) : KLook K w a kvs := by
  obtain ⟨es, n, D⟩ := He.dicW_ok h
  have hk : es.toList.map He.keyOf = He.keysIn w.params (kvs.map (·.1)) := by
    unfold He.dicW at h
    rw [D.at_] at h
    simp only [decide_true, Bool.true_and, D.low, Bool.not_false, Bool.and_true] at h
    exact Option.some.inj h
  intro z
  cases e : kvs.lookup z with
  | some i =>
    have hm := lookup_some e
    obtain ⟨u, h1, h2⟩ := He.valsB_ok hv (q := (z, .int i)) (List.mem_map.mpr ⟨(z, i), hm, rfl⟩)
    exact ⟨fun j hj => by cases hj; exact ⟨es, n, u, D.at_, D.lit, h1, h2⟩, es, n, some u, D.at_, D.lit, D.low, h1, rfl⟩
  | none =>
    obtain ⟨m1, m2⟩ := miss_of hk (lookup_none e)
    refine ⟨fun j hj => (by cases hj), es, n, none, D.at_, D.lit, D.low, ?_, rfl⟩
    unfold PySem.W.nsIn
    rw [D.at_]
    dsimp only
    rw [m1, m2]
    rfl

/-- an if whose test gives b and lets the heap grow -/
theorem rd_ifN {c : TT} {t rest : TS} {D : Ends} {σ : L2.St} {H : Hp} (b : Bool) (hc : ∀ R : Bool → Hp → Prop, (∀ H1, Sm H H1 → R b H1) → c σ H R) (hT : b = true → ∀ H1, Sm H H1 → t { D with nx := rest D } σ H1) (hF : b = false → ∀ H1, Sm H H1 → rest D σ H1) :
    tSeq (tIfS c t tNext) rest D σ H := by
  refine hc _ fun H1 s1 => ?_
  cases b with
  | true => exact ifT rfl (hT rfl H1 s1)
  | false => exact ifF rfl (hF rfl H1 s1)
theorem rd_if1 {c : TT} {t : TS} {D : Ends} {σ : L2.St} {H : Hp} (b : Bool) (hc : ∀ R : Bool → Hp → Prop, (∀ H1, Sm H H1 → R b H1) → c σ H R) (hT : b = true → ∀ H1, Sm H H1 → t D σ H1) (hF : b = false → ∀ H1, Sm H H1 → D.nx σ H1) :
    tIfS c t tNext D σ H := by
  refine hc _ fun H1 s1 => ?_
  cases b with
  | true => exact ifT rfl (hT rfl H1 s1)
  | false => exact ifF rfl (hF rfl H1 s1)
theorem at0 {α : Type} {x : α} {xs : List α} : atI (x :: xs) 0 = some x := atI_nat (j := 0) rfl

/-- a promise that lets nothing out where nothing is raised -/
theorem quiet {P : Program} {w : World} {K : PySem.W.Frag} {mg : Str → Option Value} {base : Heap} {k : Nat} {f : Addr} {fd : FuncData} {ps : List Str} {sp : Sp} (F : FnOk P w K mg base (L2.CX P w) k f fd ps sp) :
    FnOk P w K mg base CX0 k f fd ps (fun vs H Q _ => sp vs H Q fun _ _ _ => False) := by
  refine ⟨fun vs H Q E h => F.len _ _ _ _ h, fun A outer s H args us vs Q E hr e0 hb hv h => codeAny_mono (F.run A outer s H args us vs Q _ hr e0 hb hv h) fun r s' q => ?_⟩
  cases r with
  | ok fl => cases fl <;> exact q
  | error e =>
    obtain ⟨_, _, _, _, _, _, _, _, _, _, _, _, z⟩ := q
    exact z.elim
/-- name = [..], kept shut -/
theorem ps_setLcI {X : Cx} {i : Nat} {y : Str} {py : Pos} {elt tg iter : Expr} {ifs : List Expr} {scope : Scope} {own : List (Str × Nat)} {pos spos : Pos} {wi : TI} {g : TG} {tt : TT} {te : TE} (hc : X.calm = true) (hN : X.N.Nodup) (hy : X.N[i]? = some y) (hyl : X.env.scope.names.lookup y = some .local)
    (hsw : swapsWith (.ListComp elt [⟨tg, iter, ifs, 0⟩] scope pos) (some (.Name y py)) spos.line X.env = pure true) (hi : PI X tg iter wi) (ok : BlkOk X.N X.env.scope scope own)
    (hg : ∀ (s : Shared) (H : Hp) (C : Addr) (cl : List (Str × Addr)) (fp : List Addr), PG (X.blk s H scope (compEnvC scope cl C X.env) fp) tg g) (ht : ∀ (s : Shared) (H : Hp) (C : Addr) (cl : List (Str × Addr)) (fp : List Addr), PTs (X.blk s H scope (compEnvC scope cl C X.env) fp) ifs tt)
    (he : ∀ (s : Shared) (H : Hp) (C : Addr) (cl : List (Str × Addr)) (fp : List Addr), PE (X.blk s H scope (compEnvC scope cl C X.env) fp) elt te) (hs : ∀ x, foldedSetIterable iter X.env x = pure x := by intro _; rfl) :
    PS X (.Assign [.Name y py] (.ListComp elt [⟨tg, iter, ifs, 0⟩] scope pos) spos) (tAsg (tLcI wi g tt te (own.map (·.2))) (gName i)) := by
  unfold tLcI
  exact ps_setLc hc hN hy hyl hsw hi ok hg ht he hs

/-- [g for x in us], each item told by a relation that the growing heap keeps; the source comes by a reading of its own -/
theorem rd_lcR {κ ρ : Type} {F : V → κ → Prop} {us : List V} {ks : List κ} (hp : Paired F us ks) {K : PySem.W.Frag} {Rel : Hp → V → ρ → Prop} {h : κ → ρ} {te : TE} {i : Nat} {σ : L2.St} {H : Hp} {Q : VK} (hz : us.length ≤ sizeLine) {tl : TE}
    (htl : ∀ R : VK, (∀ a H1, Sm H H1 → Sq K H1 a us → R (.ref a) H1) → tl σ H R) (mono : ∀ {H' H'' : Hp} {v : V} {z : ρ}, Tu H' H'' → Rel H' v z → Rel H'' v z)
    (hte : ∀ x y H' (R : VK), F x y → y ∈ ks → Sm H H' → (∀ v H'', Sm H' H'' → Rel H'' v (h y) → R v H'') → te ((wipe σ [i]).set i (some x)) H' R)
    (hq : ∀ D H' vs, H D = none → Sm H H' → H' D = some (.lst vs) → Paired (Rel H') vs (ks.map h) → Q (.ref D) H') : tLcI (iSq K tl) (gName i) tYes te [i] σ H Q := by
  have core : ∀ (H1 : Hp), Sm H H1 → ∀ (J : It) (G : Hp → Prop), Walk J us.length G (YAt us) → (∀ H', Sm H1 H' → G H') → ∀ D, H1 D = none → ∃ W : Nat → Nat → Hp → Prop, (∃ m, W 0 m (upd H1 D (.lst []))) ∧ ∀ k m H, W k m H →
      (J.stop k H ∧ Q (.ref D) H) ∨ (J.go k H ∧ ∃ Nx : Hp → Prop, (∀ H', Nx H' → ∃ m', m' < m ∧ W (k + 1) m' H') ∧ ∀ x H', J.yld k H x H' → gName i x (wipe σ [i]) H' fun σ2 H2 => wipe σ2 [i] = wipe σ [i] ∧ tYes σ2 H2 fun b H3 =>
        if b = true then te σ2 H3 fun y H4 => ∃ acc, H4 D = some (.lst acc) ∧ acc.length < sizeLine ∧ Nx (upd H4 D (.lst (acc ++ [y]))) else Nx H3) := by
    intro H1 s1 J G w hG D hD
    refine lc_it w (Qd := fun H => Q (.ref D) H) (fun k H' => Sm H1 H' ∧ ∃ vs, H' D = some (.lst vs) ∧ vs.length = k ∧ Paired (Rel H') vs ((ks.take k).map h)) ⟨Sm.new hD, [], upd_same, rfl, .nil⟩ (fun k H' _ z => hG H' z.1) (fun k x H' H'' hk r y => ?_) fun H' r => ?_
    · obtain ⟨rfl, hx⟩ := y
      obtain ⟨y, hy, hF⟩ := Paired.get hp hx
      have hm := List.mem_of_getElem? hy
      have tk : ks.take (k + 1) = ks.take k ++ [y] := by rw [List.take_add_one, hy]; rfl
      obtain ⟨r1, vs, r2, r3, r4⟩ := r
      refine ⟨wipe_set σ i (some x), ?_⟩
      dsimp only [tYes]
      rw [if_pos rfl]
      refine hte x y H'' _ hF hm (s1.trans r1) fun v H4 s4 hv => ?_
      have q4 := s4.st D _ r2 fun _ z => by cases z
      have t4 : Tu H4 (upd H4 D (.lst (vs ++ [v]))) := Tu.lset q4
      refine ⟨vs, q4, by omega, Sm.own (r1.trans s4) hD (fun P t => tabG_ne t q4 fun _ z => by cases z), vs ++ [v], upd_same, by rw [List.length_append, r3]; rfl, ?_⟩
      rw [tk, List.map_append]
      exact Paired.snoc (Paired.imp (fun _ _ z => mono (s4.tu.trans t4) z) r4) (mono t4 hv)
    · obtain ⟨r1, vs, r2, r3, r4⟩ := r
      rw [List.take_of_length_le (by rw [Paired.len hp]; exact Nat.le_refl _)] at r4
      exact hq D H' vs (s1.fr D hD) (s1.trans r1) r2 r4
  unfold tLcI tLc
  refine htl _ fun a H1 s1 hs => ⟨a, rfl, ?_⟩
  rcases hs with hs | hs
  · exact .inl ⟨⟨us, hs⟩, core H1 s1 _ _ walk_list fun H' s => s.lst hs⟩
  · exact .inr ⟨⟨us, hs⟩, core H1 s1 _ _ walk_tup fun H' s => s.tup hs⟩
theorem inT {K : PySem.W.Frag} {H' : Hp} {a : Addr} {x : Str} {ys : List Str} {R : V → Hp → Prop} (h : TxL K H' a ys) (q : R (.bl (ys.contains x)) H') : rIn K false (.str x) (.ref a) H' R := by
  refine ⟨a, ys.map V.str, rfl, h, rfl, by rw [List.all_map, List.all_eq_true]; intro x _; rfl, ?_⟩
  have e : inV (.str x) (ys.map V.str) = ys.contains x := by
    unfold inV
    rw [List.any_map, Bool.eq_iff_iff, List.any_eq_true]
    constructor
    · rintro ⟨y, hy, e⟩
      have e : (y == x) = true := e
      rw [← beq_iff_eq.mp e]
      simpa using hy
    · intro h
      exact ⟨x, by simpa using h, by show (x == x) = true; simp⟩
  rw [if_neg Bool.false_ne_true, e]
  exact q
theorem niT {K : PySem.W.Frag} {H' : Hp} {a : Addr} {x : Str} {ys : List Str} {R : V → Hp → Prop} (h : TxL K H' a ys) (q : R (.bl (!ys.contains x)) H') : rIn K true (.str x) (.ref a) H' R := by
  obtain ⟨p, xs, e1, e2, e3, e4, e5⟩ := inT (R := fun v H2 => v = .bl (ys.contains x) ∧ H2 = H') h ⟨rfl, rfl⟩
  refine ⟨p, xs, e1, e2, e3, e4, ?_⟩
  rw [if_neg Bool.false_ne_true] at e5
  have e6 : inV (.str x) xs = ys.contains x := V.bl.inj e5.1
  rw [if_pos rfl, e6]
  exact q
/-- for k in range(n) -/
theorem rd_forR {ta : TA} {n : Nat} {tb : TS} {D : Ends} {σ : L2.St} {H : Hp} {i : Nat} (hn : n < 2 ^ 62) (Pv : Nat → L2.St → Hp → Prop) (h0 : Pv 0 σ H)
    (hs : ∀ k σ' H', k < n → Pv k σ' H' → tb { D with nx := Pv (k + 1), ct := Pv (k + 1), bk := D.nx } (σ'.set i (some (.int (k : Int)))) H') (hd : ∀ σ' H', Pv n σ' H' → D.nx σ' H') (hta : ∀ R : List V → Hp → Prop, R [.int (n : Int)] H → ta σ H R) :
    tForI (iRng1 ta) (gName i) tb D σ H := by
  unfold tForI tFor
  refine hta _ ⟨n, rfl, by omega, by omega, ?_⟩
  refine for_it (walk_range (n := n)) Pv h0 (fun _ _ _ _ _ => trivial) (fun k x σ' H' H'' hk p y => ?_) hd
  obtain ⟨rfl, rfl⟩ := y
  have := hs k σ' _ hk p
  rw [← Int.zero_add (k : Int)] at this
  exact this
/-- for c in a text -/
theorem rd_forS {z : Str} {tb : TS} {D : Ends} {σ : L2.St} {H : Hp} {i : Nat} (Pv : Nat → L2.St → Hp → Prop) (h0 : Pv 0 σ H)
    (hs : ∀ k c σ' H', z.cps.toList[k]? = some c → Pv k σ' H' → tb { D with nx := Pv (k + 1), ct := Pv (k + 1), bk := D.nx } (σ'.set i (some (.str ⟨#[c]⟩))) H') (hd : ∀ σ' H', Pv z.cps.toList.length σ' H' → D.nx σ' H') {tl : TE} (htl : ∀ R : VK, R (.str z) H → tl σ H R) :
    tForI (iStr tl) (gName i) tb D σ H := by
  unfold tForI tFor
  refine htl _ ⟨z, rfl, ?_⟩
  have w0 := walk_str (z := z)
  rw [Array.length_toList] at hd
  refine for_it w0 Pv h0 (fun _ _ _ _ _ => trivial) (fun k x σ' H' H'' hk p y => ?_) hd
  obtain ⟨rfl, c, hc, rfl⟩ := y
  exact hs k c σ' _ (by rw [Array.getElem?_toList]; exact hc) p
/-- what a for over a list asks at its beginning -/
def ForB (K : PySem.W.Frag) (a : Addr) (xs : List V) (i : Nat) (tb : TS) (D : Ends) (σ : L2.St) (H1 : Hp) : Prop := ∃ Pv : Nat → L2.St → Hp → Prop, Pv 0 σ H1 ∧ (∀ k σ' H', Pv k σ' H' → SqL K H' a xs) ∧
  (∀ k x σ' H', xs[k]? = some x → Pv k σ' H' → tb { D with nx := Pv (k + 1), ct := Pv (k + 1), bk := D.nx } (σ'.set i (some x)) H') ∧ ∀ σ' H', Pv xs.length σ' H' → D.nx σ' H'
/-- for x in f(..): the list comes by a reading of its own -/
theorem rd_forC {K : PySem.W.Frag} {tb : TS} {D : Ends} {σ : L2.St} {H : Hp} {i : Nat} {tl : TE} (htl : ∀ R : VK, (∀ a xs H1, ForB K a xs i tb D σ H1 → R (.ref a) H1) → tl σ H R) : tForI (iSq K tl) (gName i) tb D σ H := by
  unfold tForI tFor
  exact htl _ fun a xs H1 ⟨Pv, h0, hG, hs, hd⟩ => ⟨a, rfl, .inl ⟨⟨xs, hG _ _ _ h0⟩, for_it walk_list Pv h0 (fun k σ' H' _ p => hG k σ' H' p) (fun k x σ' H' H'' _ p y => by obtain ⟨rfl, hx⟩ := y; exact hs k x σ' H'' hx p) hd⟩⟩
theorem cut_take (xs : List V) (m : Nat) : cutV xs none (some (m : Int)) = xs.take m := by
  unfold cutV
  have e2 : HT.sIx xs.length xs.length (some (m : Int)) = min m xs.length := by
    show (if (m : Int) < 0 then ((m : Int) + (xs.length : Int)).toNat else min (m : Int).toNat xs.length) = _
    rw [if_neg (by omega)]
    rfl
  have e1 : HT.sIx xs.length 0 none = 0 := rfl
  rw [e1, e2]
  show xs.take (min m xs.length - 0) = xs.take m
  rw [Nat.sub_zero, List.take_eq_take_iff]
  omega
/-- a comprehension whose values are told by a relation that the growing heap keeps, over what a walk gives -/
theorem rd_lcRW {J : It} {G : Hp → Prop} {κ ρ : Type} {F : V → κ → Prop} {us : List V} {ks : List κ} (hp : Paired F us ks) {Rel : Hp → V → ρ → Prop} {h : κ → ρ} {te : TE} {i : Nat} {σ : L2.St} {H H1 : Hp} {Q : VK} (hz : us.length ≤ sizeLine)
    (mono : ∀ {H' H'' : Hp} {v : V} {z : ρ}, Tu H' H'' → Rel H' v z → Rel H'' v z)
    (hte : ∀ x y H' (R : VK), F x y → y ∈ ks → Sm H H' → (∀ v H'', Sm H' H'' → Rel H'' v (h y) → R v H'') → te ((wipe σ [i]).set i (some x)) H' R)
    (hq : ∀ D H' vs, H D = none → Sm H H' → H' D = some (.lst vs) → Paired (Rel H') vs (ks.map h) → Q (.ref D) H')
    (s1 : Sm H H1) (w : Walk J us.length G (YAt us)) (hG : ∀ H', Sm H1 H' → G H') : ∀ D, H1 D = none → ∃ W : Nat → Nat → Hp → Prop, (∃ m, W 0 m (upd H1 D (.lst []))) ∧ ∀ k m H, W k m H →
      (J.stop k H ∧ Q (.ref D) H) ∨ (J.go k H ∧ ∃ Nx : Hp → Prop, (∀ H', Nx H' → ∃ m', m' < m ∧ W (k + 1) m' H') ∧ ∀ x H', J.yld k H x H' → gName i x (wipe σ [i]) H' fun σ2 H2 => wipe σ2 [i] = wipe σ [i] ∧ tYes σ2 H2 fun b H3 =>
        if b = true then te σ2 H3 fun y H4 => ∃ acc, H4 D = some (.lst acc) ∧ acc.length < sizeLine ∧ Nx (upd H4 D (.lst (acc ++ [y]))) else Nx H3) := by
  intro D hD
  refine lc_it w (Qd := fun H => Q (.ref D) H) (fun k H' => Sm H1 H' ∧ ∃ vs, H' D = some (.lst vs) ∧ vs.length = k ∧ Paired (Rel H') vs ((ks.take k).map h)) ⟨Sm.new hD, [], upd_same, rfl, .nil⟩ (fun k H' _ z => hG H' z.1) (fun k x H' H'' hk r y => ?_) fun H' r => ?_
  · obtain ⟨rfl, hx⟩ := y
    obtain ⟨y, hy, hF⟩ := Paired.get hp hx
    have hm := List.mem_of_getElem? hy
    have tk : ks.take (k + 1) = ks.take k ++ [y] := by rw [List.take_add_one, hy]; rfl
    obtain ⟨r1, vs, r2, r3, r4⟩ := r
    refine ⟨wipe_set σ i (some x), ?_⟩
    dsimp only [tYes]
    rw [if_pos rfl]
    refine hte x y H'' _ hF hm (s1.trans r1) fun v H4 s4 hv => ?_
    have q4 := s4.st D _ r2 fun _ z => by cases z
    have t4 : Tu H4 (upd H4 D (.lst (vs ++ [v]))) := Tu.lset q4
    refine ⟨vs, q4, by omega, Sm.own (r1.trans s4) hD (fun P t => tabG_ne t q4 fun _ z => by cases z), vs ++ [v], upd_same, by rw [List.length_append, r3]; rfl, ?_⟩
    rw [tk, List.map_append]
    exact Paired.snoc (Paired.imp (fun _ _ z => mono (s4.tu.trans t4) z) r4) (mono t4 hv)
  · obtain ⟨r1, vs, r2, r3, r4⟩ := r
    rw [List.take_of_length_le (by rw [Paired.len hp]; exact Nat.le_refl _)] at r4
    exact hq D H' vs (s1.fr D hD) (s1.trans r1) r2 r4
theorem pair_range : ∀ n, Paired (fun (v : V) (k : Nat) => v = .int (k : Int)) ((List.range n).map fun k : Nat => V.int (k : Int)) (List.range n) := fun n => by
  generalize List.range n = l
  induction l with
  | nil => exact .nil
  | cons a r ih => exact .cons rfl ih
theorem walk_rng {n : Nat} : Walk (Itr 0 n) ((List.range n).map fun k : Nat => V.int (k : Int)).length (fun _ => True) (YAt ((List.range n).map fun k : Nat => V.int (k : Int))) := by
  have e : ((List.range n).map fun k : Nat => V.int (k : Int)).length = n := by rw [List.length_map, List.length_range]
  rw [e]
  exact (walk_range (lo := 0) (n := n)).mono (fun _ _ => trivial) fun k H v H' hk _ y => ⟨y.1, by
    rw [List.getElem?_map, List.getElem?_range hk, y.2]
    show some (V.int (k : Int)) = some (V.int (0 + (k : Int)))
    rw [Int.zero_add]⟩
/-- [g for k in range(n)] -/
theorem rd_lcRN {ρ : Type} {ta : TA} {n : Nat} {Rel : Hp → V → ρ → Prop} {h : Nat → ρ} {te : TE} {i : Nat} {σ : L2.St} {H : Hp} {Q : VK} (hz : n ≤ 100000) (hta : ∀ R : List V → Hp → Prop, (∀ H1, Sm H H1 → R [.int (n : Int)] H1) → ta σ H R)
    (mono : ∀ {H' H'' : Hp} {v : V} {z : ρ}, Tu H' H'' → Rel H' v z → Rel H'' v z)
    (hte : ∀ k H' (R : VK), k < n → Sm H H' → (∀ v H'', Sm H' H'' → Rel H'' v (h k) → R v H'') → te ((wipe σ [i]).set i (some (.int (k : Int)))) H' R)
    (hq : ∀ D H' vs, H D = none → Sm H H' → H' D = some (.lst vs) → Paired (Rel H') vs ((List.range n).map h) → Q (.ref D) H') : tLcI (iRng1 ta) (gName i) tYes te [i] σ H Q := by
  unfold tLcI tLc
  refine hta _ fun H1 s1 => ⟨n, rfl, by omega, by omega, ?_⟩
  have e : ((n : Int)).toNat = n := rfl
  rw [e]
  refine rd_lcRW (G := fun _ => True) (Rel := Rel) (h := h) (pair_range n) (by rw [List.length_map, List.length_range]; unfold sizeLine; omega) mono (fun x k H' R hF hm s hR => ?_) hq s1 walk_rng fun _ _ => trivial
  subst hF
  exact hte k H' R (List.mem_range.mp hm) s hR
/-- plain values -/
theorem pair_eq {vs : List V} : ∀ {ws : List V}, Paired (fun v z => v = z) vs ws → vs = ws := by
  induction vs with
  | nil => intro ws h; cases h; rfl
  | cons a r ih => intro ws h; cases h with | cons h t => rw [h, ih t]
end GD

-- part F08
set_option Elab.async false
set_option linter.all false
set_option maxRecDepth 100000
set_option maxHeartbeats 2000000
namespace K8
open PySem PySem.Spec PyProof.Rows L2
/-- what the walk of a def is given: the head's facts at h, the tables over base -/
structure Tx (w : World) (K : PySem.W.Frag) (mg : Str → Option Value) (base : Heap) : Prop where
  x : ∃ h : Heap, K.In h ∧ h.Ns mainGlobals mg ∧ Hd.SaysP fa fn tbs tf exq prs w h K
  tb : ∀ p ∈ tf, GxR.TabB base mg (He.cT K p).1 (He.cT K p).2
  sx : ∃ h : Heap, Hd.SaysS R.prog fa fn tbs tf (fun K => exq K && exk K) prs sus w h K
section
variable {w : World} {K : PySem.W.Frag} {mg : Str → Option Value} {base : Heap}
theorem Tx.glo_is_name (T : Tx w K mg base) : mg "is_name" = some (.ref (He.ga K "is_name")) := by
  obtain ⟨⟨h, X, G, c⟩, _⟩ := T
  exact He.glo_ok X G (c.x.t.d.fact 0 rfl)
theorem Tx.glo__law_row (T : Tx w K mg base) : mg "_law_row" = some (.ref (He.ga K "_law_row")) := by
  obtain ⟨⟨h, X, G, c⟩, _⟩ := T
  exact He.glo_ok X G (c.x.t.d.fact 1 rfl)
theorem Tx.glo__law_numbers (T : Tx w K mg base) : mg "_law_numbers" = some (.ref (He.ga K "_law_numbers")) := by
  obtain ⟨⟨h, X, G, c⟩, _⟩ := T
  exact He.glo_ok X G (c.x.t.d.fact 2 rfl)
theorem Tx.glo__law_is_integer (T : Tx w K mg base) : mg "_law_is_integer" = some (.ref (He.ga K "_law_is_integer")) := by
  obtain ⟨⟨h, X, G, c⟩, _⟩ := T
  exact He.glo_ok X G (c.x.t.d.fact 3 rfl)
theorem Tx.glo__law_names (T : Tx w K mg base) : mg "_law_names" = some (.ref (He.ga K "_law_names")) := by
  obtain ⟨⟨h, X, G, c⟩, _⟩ := T
  exact He.glo_ok X G (c.x.t.d.fact 4 rfl)
theorem Tx.glo__law_owners (T : Tx w K mg base) : mg "_law_owners" = some (.ref (He.ga K "_law_owners")) := by
  obtain ⟨⟨h, X, G, c⟩, _⟩ := T
  exact He.glo_ok X G (c.x.t.d.fact 5 rfl)
theorem Tx.glo__law_standing (T : Tx w K mg base) : mg "_law_standing" = some (.ref (He.ga K "_law_standing")) := by
  obtain ⟨⟨h, X, G, c⟩, _⟩ := T
  exact He.glo_ok X G (c.x.t.d.fact 6 rfl)
theorem Tx.glo__law_may (T : Tx w K mg base) : mg "_law_may" = some (.ref (He.ga K "_law_may")) := by
  obtain ⟨⟨h, X, G, c⟩, _⟩ := T
  exact He.glo_ok X G (c.x.t.d.fact 7 rfl)
theorem Tx.glo__law_has (T : Tx w K mg base) : mg "_law_has" = some (.ref (He.ga K "_law_has")) := by
  obtain ⟨⟨h, X, G, c⟩, _⟩ := T
  exact He.glo_ok X G (c.x.t.d.fact 8 rfl)
theorem Tx.glo__law_filled (T : Tx w K mg base) : mg "_law_filled" = some (.ref (He.ga K "_law_filled")) := by
  obtain ⟨⟨h, X, G, c⟩, _⟩ := T
  exact He.glo_ok X G (c.x.t.d.fact 9 rfl)
theorem Tx.glo__law_granted (T : Tx w K mg base) : mg "_law_granted" = some (.ref (He.ga K "_law_granted")) := by
  obtain ⟨⟨h, X, G, c⟩, _⟩ := T
  exact He.glo_ok X G (c.x.t.d.fact 10 rfl)
theorem Tx.glo__law_refused (T : Tx w K mg base) : mg "_law_refused" = some (.ref (He.ga K "_law_refused")) := by
  obtain ⟨⟨h, X, G, c⟩, _⟩ := T
  exact He.glo_ok X G (c.x.t.d.fact 11 rfl)
theorem Tx.glo__law_told (T : Tx w K mg base) : mg "_law_told" = some (.ref (He.ga K "_law_told")) := by
  obtain ⟨⟨h, X, G, c⟩, _⟩ := T
  exact He.glo_ok X G (c.x.t.d.fact 12 rfl)
theorem Tx.glo_law (T : Tx w K mg base) : mg "law" = some (.ref (He.ga K "law")) := by
  obtain ⟨⟨h, X, G, c⟩, _⟩ := T
  exact He.glo_ok X G (c.x.t.d.fact 13 rfl)
theorem Tx.glo_Grant (T : Tx w K mg base) : mg "Grant" = some (.ref (He.ga K "Grant")) := by
  obtain ⟨⟨h, X, G, c⟩, _⟩ := T
  exact He.glo_ok X G (c.x.t.d.fact 14 rfl)
theorem Tx.glo_Ledger (T : Tx w K mg base) : mg "Ledger" = some (.ref (He.ga K "Ledger")) := by
  obtain ⟨⟨h, X, G, c⟩, _⟩ := T
  exact He.glo_ok X G (c.x.t.d.fact 15 rfl)
theorem Tx.glo_InvalidEntry (T : Tx w K mg base) : mg "InvalidEntry" = some (.ref (He.ga K "InvalidEntry")) := by
  obtain ⟨⟨h, X, G, c⟩, _⟩ := T
  exact He.glo_ok X G (c.x.t.d.fact 16 rfl)
theorem Tx.glo_WhoevermayError (T : Tx w K mg base) : mg "WhoevermayError" = some (.ref (He.ga K "WhoevermayError")) := by
  obtain ⟨⟨h, X, G, c⟩, _⟩ := T
  exact He.glo_ok X G (c.x.t.d.fact 17 rfl)
theorem Tx.glo_UnknownName (T : Tx w K mg base) : mg "UnknownName" = some (.ref (He.ga K "UnknownName")) := by
  obtain ⟨⟨h, X, G, c⟩, _⟩ := T
  exact He.glo_ok X G (c.x.t.d.fact 18 rfl)
theorem Tx.free_len (T : Tx w K mg base) : mg "len" = none := by
  obtain ⟨⟨h, X, G, c⟩, _⟩ := T
  exact He.free_ok X G (c.x.t.d.fact 19 rfl)
theorem Tx.free_all (T : Tx w K mg base) : mg "all" = none := by
  obtain ⟨⟨h, X, G, c⟩, _⟩ := T
  exact He.free_ok X G (c.x.t.d.fact 20 rfl)
theorem Tx.free_any (T : Tx w K mg base) : mg "any" = none := by
  obtain ⟨⟨h, X, G, c⟩, _⟩ := T
  exact He.free_ok X G (c.x.t.d.fact 21 rfl)
theorem Tx.free_tuple (T : Tx w K mg base) : mg "tuple" = none := by
  obtain ⟨⟨h, X, G, c⟩, _⟩ := T
  exact He.free_ok X G (c.x.t.d.fact 22 rfl)
theorem Tx.free_abs (T : Tx w K mg base) : mg "abs" = none := by
  obtain ⟨⟨h, X, G, c⟩, _⟩ := T
  exact He.free_ok X G (c.x.t.d.fact 23 rfl)
theorem Tx.free_int (T : Tx w K mg base) : mg "int" = none := by
  obtain ⟨⟨h, X, G, c⟩, _⟩ := T
  exact He.free_ok X G (c.x.t.d.fact 24 rfl)
theorem Tx.free_range (T : Tx w K mg base) : mg "range" = none := by
  obtain ⟨⟨h, X, G, c⟩, _⟩ := T
  exact He.free_ok X G (c.x.t.d.fact 25 rfl)
theorem Tx.free_max (T : Tx w K mg base) : mg "max" = none := by
  obtain ⟨⟨h, X, G, c⟩, _⟩ := T
  exact He.free_ok X G (c.x.t.d.fact 26 rfl)
theorem Tx.free_min (T : Tx w K mg base) : mg "min" = none := by
  obtain ⟨⟨h, X, G, c⟩, _⟩ := T
  exact He.free_ok X G (c.x.t.d.fact 27 rfl)
theorem Tx.free_isinstance (T : Tx w K mg base) : mg "isinstance" = none := by
  obtain ⟨⟨h, X, G, c⟩, _⟩ := T
  exact He.free_ok X G (c.x.t.d.fact 28 rfl)
theorem Tx.free_bool (T : Tx w K mg base) : mg "bool" = none := by
  obtain ⟨⟨h, X, G, c⟩, _⟩ := T
  exact He.free_ok X G (c.x.t.d.fact 29 rfl)
theorem Tx.free_list (T : Tx w K mg base) : mg "list" = none := by
  obtain ⟨⟨h, X, G, c⟩, _⟩ := T
  exact He.free_ok X G (c.x.t.d.fact 30 rfl)
theorem Tx.free_dict (T : Tx w K mg base) : mg "dict" = none := by
  obtain ⟨⟨h, X, G, c⟩, _⟩ := T
  exact He.free_ok X G (c.x.t.d.fact 31 rfl)
theorem Tx.free_super (T : Tx w K mg base) : mg "super" = none := by
  obtain ⟨⟨h, X, G, c⟩, _⟩ := T
  exact He.free_ok X G (c.x.t.d.fact 32 rfl)
theorem Tx.free_ValueError (T : Tx w K mg base) : mg "ValueError" = none := by
  obtain ⟨⟨h, X, G, c⟩, _⟩ := T
  exact He.free_ok X G (c.x.t.d.fact 33 rfl)
theorem Tx.str_LETTERS (T : Tx w K mg base) : ∃ t, mg "LETTERS" = some (.str "abcdefghijklmnopqrstuvwxyz" t) := by
  obtain ⟨⟨h, X, G, c⟩, _⟩ := T
  exact He.str_ok X G (c.x.t.d.fact 34 rfl)
theorem Tx.str_SIGNS (T : Tx w K mg base) : ∃ t, mg "SIGNS" = some (.str "abcdefghijklmnopqrstuvwxyz0123456789" t) := by
  obtain ⟨⟨h, X, G, c⟩, _⟩ := T
  exact He.str_ok X G (c.x.t.d.fact 35 rfl)
theorem Tx.cls_Grant (T : Tx w K mg base) : Cls K (He.ga K "Grant") := by
  obtain ⟨⟨h, X, G, c⟩, _⟩ := T
  exact He.cls_ok (c.x.t.d.fact 36 rfl)
theorem Tx.mkr_Grant (T : Tx w K mg base) : Mk K (He.ga K "Grant") (He.ma K (He.ga K "Grant") "__init__") := by
  obtain ⟨⟨h, X, G, c⟩, _⟩ := T
  exact He.mkr_ok (c.x.t.d.fact 37 rfl)
theorem Tx.cls_Ledger (T : Tx w K mg base) : Cls K (He.ga K "Ledger") := by
  obtain ⟨⟨h, X, G, c⟩, _⟩ := T
  exact He.cls_ok (c.x.t.d.fact 38 rfl)
theorem Tx.mkr_Ledger (T : Tx w K mg base) : Mk K (He.ga K "Ledger") (He.ma K (He.ga K "Ledger") "__init__") := by
  obtain ⟨⟨h, X, G, c⟩, _⟩ := T
  exact He.mkr_ok (c.x.t.d.fact 39 rfl)
theorem Tx.noat_Grant_giver (T : Tx w K mg base) : NoAttr K (He.ga K "Grant") "giver" := by
  obtain ⟨⟨h, X, G, c⟩, _⟩ := T
  exact He.noat_ok (c.x.t.d.fact 40 rfl)
theorem Tx.noat_Grant_receiver (T : Tx w K mg base) : NoAttr K (He.ga K "Grant") "receiver" := by
  obtain ⟨⟨h, X, G, c⟩, _⟩ := T
  exact He.noat_ok (c.x.t.d.fact 41 rfl)
theorem Tx.noat_Grant_right (T : Tx w K mg base) : NoAttr K (He.ga K "Grant") "right" := by
  obtain ⟨⟨h, X, G, c⟩, _⟩ := T
  exact He.noat_ok (c.x.t.d.fact 42 rfl)
theorem Tx.noat_Grant_may_pass (T : Tx w K mg base) : NoAttr K (He.ga K "Grant") "may_pass" := by
  obtain ⟨⟨h, X, G, c⟩, _⟩ := T
  exact He.noat_ok (c.x.t.d.fact 43 rfl)
theorem Tx.noat_Ledger_owners (T : Tx w K mg base) : NoAttr K (He.ga K "Ledger") "owners" := by
  obtain ⟨⟨h, X, G, c⟩, _⟩ := T
  exact He.noat_ok (c.x.t.d.fact 44 rfl)
theorem Tx.noat_Ledger__owner_of (T : Tx w K mg base) : NoAttr K (He.ga K "Ledger") "_owner_of" := by
  obtain ⟨⟨h, X, G, c⟩, _⟩ := T
  exact He.noat_ok (c.x.t.d.fact 45 rfl)
theorem Tx.noat_Ledger__grants (T : Tx w K mg base) : NoAttr K (He.ga K "Ledger") "_grants" := by
  obtain ⟨⟨h, X, G, c⟩, _⟩ := T
  exact He.noat_ok (c.x.t.d.fact 46 rfl)
theorem Tx.noat_Ledger__removed (T : Tx w K mg base) : NoAttr K (He.ga K "Ledger") "_removed" := by
  obtain ⟨⟨h, X, G, c⟩, _⟩ := T
  exact He.noat_ok (c.x.t.d.fact 47 rfl)
theorem Tx.noat_Ledger__standing (T : Tx w K mg base) : NoAttr K (He.ga K "Ledger") "_standing" := by
  obtain ⟨⟨h, X, G, c⟩, _⟩ := T
  exact He.noat_ok (c.x.t.d.fact 48 rfl)
theorem Tx.exc_InvalidEntry (T : Tx w K mg base) : PySem.W.excIn K (He.ga K "InvalidEntry") He.veBase "ValueError.__new__" = true ∧ PySem.W.keepIn K (.ref (He.ga K "InvalidEntry")) = true ∧ PySem.W.subIn K (.ref (He.ga K "InvalidEntry")) (.type "BaseException") = some true ∧ PySem.W.typeIn K (.ref (He.ga K "InvalidEntry")) = some (.type "type") := by
  obtain ⟨⟨h, X, G, c⟩, _⟩ := T
  exact He.exc_ok (c.x.t.d.fact 49 rfl)
theorem Tx.exc_WhoevermayError (T : Tx w K mg base) : PySem.W.excIn K (He.ga K "WhoevermayError") He.veBase "ValueError.__new__" = true ∧ PySem.W.keepIn K (.ref (He.ga K "WhoevermayError")) = true ∧ PySem.W.subIn K (.ref (He.ga K "WhoevermayError")) (.type "BaseException") = some true ∧ PySem.W.typeIn K (.ref (He.ga K "WhoevermayError")) = some (.type "type") := by
  obtain ⟨⟨h, X, G, c⟩, _⟩ := T
  exact He.exc_ok (c.x.t.d.fact 50 rfl)
theorem Tx.exm_InvalidEntry_InvalidEntry (T : Tx w K mg base) : PySem.W.exmOne K (.ref (He.ga K "InvalidEntry")) (.ref (He.ga K "InvalidEntry")) = some true := by
  obtain ⟨⟨h, X, G, c⟩, _⟩ := T
  exact He.exm_ok (c.x.t.d.fact 51 rfl)
theorem Tx.exm_InvalidEntry_UnknownName (T : Tx w K mg base) : PySem.W.exmOne K (.ref (He.ga K "InvalidEntry")) (.ref (He.ga K "UnknownName")) = some false := by
  obtain ⟨⟨h, X, G, c⟩, _⟩ := T
  exact He.exm_ok (c.x.t.d.fact 52 rfl)
theorem Tx.exm_UnknownName_UnknownName (T : Tx w K mg base) : PySem.W.exmOne K (.ref (He.ga K "UnknownName")) (.ref (He.ga K "UnknownName")) = some true := by
  obtain ⟨⟨h, X, G, c⟩, _⟩ := T
  exact He.exm_ok (c.x.t.d.fact 53 rfl)
theorem Tx.exm_UnknownName_InvalidEntry (T : Tx w K mg base) : PySem.W.exmOne K (.ref (He.ga K "UnknownName")) (.ref (He.ga K "InvalidEntry")) = some false := by
  obtain ⟨⟨h, X, G, c⟩, _⟩ := T
  exact He.exm_ok (c.x.t.d.fact 54 rfl)
theorem Tx.meth_Ledger_owner (T : Tx w K mg base) : Meth K (He.ga K "Ledger") "owner" (He.ma K (He.ga K "Ledger") "owner") := by
  obtain ⟨⟨h, X, G, c⟩, _⟩ := T
  exact He.meth_ok (c.x.t.d.fact 55 rfl)
theorem Tx.meth_Ledger__standing_of (T : Tx w K mg base) : Meth K (He.ga K "Ledger") "_standing_of" (He.ma K (He.ga K "Ledger") "_standing_of") := by
  obtain ⟨⟨h, X, G, c⟩, _⟩ := T
  exact He.meth_ok (c.x.t.d.fact 56 rfl)
theorem Tx.meth_Ledger_may_pass (T : Tx w K mg base) : Meth K (He.ga K "Ledger") "may_pass" (He.ma K (He.ga K "Ledger") "may_pass") := by
  obtain ⟨⟨h, X, G, c⟩, _⟩ := T
  exact He.meth_ok (c.x.t.d.fact 57 rfl)
theorem Tx.meth_Ledger_grant (T : Tx w K mg base) : Meth K (He.ga K "Ledger") "grant" (He.ma K (He.ga K "Ledger") "grant") := by
  obtain ⟨⟨h, X, G, c⟩, _⟩ := T
  exact He.meth_ok (c.x.t.d.fact 58 rfl)
theorem Tx.F_is_name (T : Tx w K mg base) : ∃ fd, FunD K "is_name" "is_name" (defArgs sis_name) (defBody sis_name) (defScope sis_name) [] [] (He.fAd K ("is_name", none)) fd := by
  obtain ⟨⟨h, X, G, c⟩, _⟩ := T
  exact c.x.t.d.def_ 0 (d := dis_name) rfl
theorem Tx.F__law_row (T : Tx w K mg base) : ∃ fd, FunD K "_law_row" "_law_row" (defArgs s_law_row) (defBody s_law_row) (defScope s_law_row) [] [] (He.fAd K ("_law_row", none)) fd := by
  obtain ⟨⟨h, X, G, c⟩, _⟩ := T
  exact c.x.t.d.def_ 1 (d := d_law_row) rfl
theorem Tx.F__law_numbers (T : Tx w K mg base) : ∃ fd, FunD K "_law_numbers" "_law_numbers" (defArgs s_law_numbers) (defBody s_law_numbers) (defScope s_law_numbers) [] [] (He.fAd K ("_law_numbers", none)) fd := by
  obtain ⟨⟨h, X, G, c⟩, _⟩ := T
  exact c.x.t.d.def_ 2 (d := d_law_numbers) rfl
theorem Tx.F__law_is_integer (T : Tx w K mg base) : ∃ fd, FunD K "_law_is_integer" "_law_is_integer" (defArgs s_law_is_integer) (defBody s_law_is_integer) (defScope s_law_is_integer) [] [] (He.fAd K ("_law_is_integer", none)) fd := by
  obtain ⟨⟨h, X, G, c⟩, _⟩ := T
  exact c.x.t.d.def_ 3 (d := d_law_is_integer) rfl
theorem Tx.F__law_names (T : Tx w K mg base) : ∃ fd, FunD K "_law_names" "_law_names" (defArgs s_law_names) (defBody s_law_names) (defScope s_law_names) [] [] (He.fAd K ("_law_names", none)) fd := by
  obtain ⟨⟨h, X, G, c⟩, _⟩ := T
  exact c.x.t.d.def_ 4 (d := d_law_names) rfl
theorem Tx.F__law_owners (T : Tx w K mg base) : ∃ fd, FunD K "_law_owners" "_law_owners" (defArgs s_law_owners) (defBody s_law_owners) (defScope s_law_owners) [] [] (He.fAd K ("_law_owners", none)) fd := by
  obtain ⟨⟨h, X, G, c⟩, _⟩ := T
  exact c.x.t.d.def_ 5 (d := d_law_owners) rfl
theorem Tx.F__law_standing (T : Tx w K mg base) : ∃ fd, FunD K "_law_standing" "_law_standing" (defArgs s_law_standing) (defBody s_law_standing) (defScope s_law_standing) [] [] (He.fAd K ("_law_standing", none)) fd := by
  obtain ⟨⟨h, X, G, c⟩, _⟩ := T
  exact c.x.t.d.def_ 6 (d := d_law_standing) rfl
theorem Tx.F__law_may (T : Tx w K mg base) : ∃ fd, FunD K "_law_may" "_law_may" (defArgs s_law_may) (defBody s_law_may) (defScope s_law_may) [] [] (He.fAd K ("_law_may", none)) fd := by
  obtain ⟨⟨h, X, G, c⟩, _⟩ := T
  exact c.x.t.d.def_ 7 (d := d_law_may) rfl
theorem Tx.F__law_has (T : Tx w K mg base) : ∃ fd, FunD K "_law_has" "_law_has" (defArgs s_law_has) (defBody s_law_has) (defScope s_law_has) [] [] (He.fAd K ("_law_has", none)) fd := by
  obtain ⟨⟨h, X, G, c⟩, _⟩ := T
  exact c.x.t.d.def_ 8 (d := d_law_has) rfl
theorem Tx.F__law_filled (T : Tx w K mg base) : ∃ fd, FunD K "_law_filled" "_law_filled" (defArgs s_law_filled) (defBody s_law_filled) (defScope s_law_filled) [] [] (He.fAd K ("_law_filled", none)) fd := by
  obtain ⟨⟨h, X, G, c⟩, _⟩ := T
  exact c.x.t.d.def_ 9 (d := d_law_filled) rfl
theorem Tx.F__law_granted (T : Tx w K mg base) : ∃ fd, FunD K "_law_granted" "_law_granted" (defArgs s_law_granted) (defBody s_law_granted) (defScope s_law_granted) [] [] (He.fAd K ("_law_granted", none)) fd := by
  obtain ⟨⟨h, X, G, c⟩, _⟩ := T
  exact c.x.t.d.def_ 10 (d := d_law_granted) rfl
theorem Tx.F__law_refused (T : Tx w K mg base) : ∃ fd, FunD K "_law_refused" "_law_refused" (defArgs s_law_refused) (defBody s_law_refused) (defScope s_law_refused) [] [] (He.fAd K ("_law_refused", none)) fd := by
  obtain ⟨⟨h, X, G, c⟩, _⟩ := T
  exact c.x.t.d.def_ 11 (d := d_law_refused) rfl
theorem Tx.F__law_told (T : Tx w K mg base) : ∃ fd, FunD K "_law_told" "_law_told" (defArgs s_law_told) (defBody s_law_told) (defScope s_law_told) [] [] (He.fAd K ("_law_told", none)) fd := by
  obtain ⟨⟨h, X, G, c⟩, _⟩ := T
  exact c.x.t.d.def_ 12 (d := d_law_told) rfl
theorem Tx.F_law (T : Tx w K mg base) : ∃ fd, FunD K "law" "law" (defArgs slaw) (defBody slaw) (defScope slaw) [] [] (He.fAd K ("law", none)) fd := by
  obtain ⟨⟨h, X, G, c⟩, _⟩ := T
  exact c.x.t.d.def_ 13 (d := dlaw) rfl
theorem Tx.F_Grant___init__ (T : Tx w K mg base) : ∃ fd, FunD K "__init__" "Grant.__init__" (defArgs sGrant___init__) (defBody sGrant___init__) (defScope sGrant___init__) (dGrant___init__.dvs K) (dGrant___init__.kws K) (He.fAd K ("Grant", some "__init__")) fd := by
  obtain ⟨⟨h, X, G, c⟩, _⟩ := T
  exact c.x.t.d.def_ 14 (d := dGrant___init__) rfl
theorem Tx.F_Ledger___init__ (T : Tx w K mg base) : ∃ fd, FunD K "__init__" "Ledger.__init__" (defArgs sLedger___init__) (defBody sLedger___init__) (defScope sLedger___init__) (dLedger___init__.dvs K) (dLedger___init__.kws K) (He.fAd K ("Ledger", some "__init__")) fd := by
  obtain ⟨⟨h, X, G, c⟩, _⟩ := T
  exact c.x.t.d.def_ 15 (d := dLedger___init__) rfl
theorem Tx.F_Ledger_owner (T : Tx w K mg base) : ∃ fd, FunD K "owner" "Ledger.owner" (defArgs sLedger_owner) (defBody sLedger_owner) (defScope sLedger_owner) (dLedger_owner.dvs K) (dLedger_owner.kws K) (He.fAd K ("Ledger", some "owner")) fd := by
  obtain ⟨⟨h, X, G, c⟩, _⟩ := T
  exact c.x.t.d.def_ 16 (d := dLedger_owner) rfl
theorem Tx.F_Ledger__standing_of (T : Tx w K mg base) : ∃ fd, FunD K "_standing_of" "Ledger._standing_of" (defArgs sLedger__standing_of) (defBody sLedger__standing_of) (defScope sLedger__standing_of) (dLedger__standing_of.dvs K) (dLedger__standing_of.kws K) (He.fAd K ("Ledger", some "_standing_of")) fd := by
  obtain ⟨⟨h, X, G, c⟩, _⟩ := T
  exact c.x.t.d.def_ 17 (d := dLedger__standing_of) rfl
theorem Tx.F_Ledger_may_pass (T : Tx w K mg base) : ∃ fd, FunD K "may_pass" "Ledger.may_pass" (defArgs sLedger_may_pass) (defBody sLedger_may_pass) (defScope sLedger_may_pass) (dLedger_may_pass.dvs K) (dLedger_may_pass.kws K) (He.fAd K ("Ledger", some "may_pass")) fd := by
  obtain ⟨⟨h, X, G, c⟩, _⟩ := T
  exact c.x.t.d.def_ 18 (d := dLedger_may_pass) rfl
theorem Tx.F_Ledger_grant (T : Tx w K mg base) : ∃ fd, FunD K "grant" "Ledger.grant" (defArgs sLedger_grant) (defBody sLedger_grant) (defScope sLedger_grant) (dLedger_grant.dvs K) (dLedger_grant.kws K) (He.fAd K ("Ledger", some "grant")) fd := by
  obtain ⟨⟨h, X, G, c⟩, _⟩ := T
  exact c.x.t.d.def_ 19 (d := dLedger_grant) rfl
theorem Tx.P_Ledger_grants (T : Tx w K mg base) : PropOf K (He.ga K "Ledger") "grants" (Hd.prpA K "Ledger" "grants") (Hd.gtrA K "Ledger" "grants") ∧ ∃ fd, FunD K "grants" "Ledger.grants" (defArgs sLedger_grants) (defBody sLedger_grants) (defScope sLedger_grants) [] [] (Hd.gtrA K "Ledger" "grants") fd := by
  obtain ⟨⟨h, X, G, c⟩, _⟩ := T
  exact c.pr 0 (d := pLedger_grants) rfl
theorem Tx.sup_UnknownName (T : Tx w K mg base) : ∃ cc fd, SU.Sup R.prog K (He.ga K "UnknownName") (Hd.suA K suUnknownName) cc fd "UnknownName.__init__" "name" (defScope sUnknownName___init__) ∧ fd.body = .stmts (defBody sUnknownName___init__) ∧ Binds K fd ["self", "name"] [] ∧ PySem.W.findIn K (.ref (He.ga K "UnknownName")) "__init__" = some (some (.ref (Hd.suA K suUnknownName))) ∧ PySem.W.typeIn K (.ref (Hd.suA K suUnknownName)) = some (.type "function") ∧ PySem.W.findIn K (.ref (He.ga K "UnknownName")) "name" = some none := by
  obtain ⟨h, c⟩ := T.sx
  obtain ⟨e, ok⟩ := c.su 0 (d := suUnknownName) rfl
  exact Hd.SuD.sup (d := suUnknownName) e ok ⟨_, rfl, rfl⟩ (by decide +kernel) rfl rfl rfl rfl rfl rfl rfl (by decide) (by decide +kernel) (fun _ _ _ _ _ _ _ us hl => match us, hl with | [_, _], _ => rfl)
theorem Tx.xc_UnknownName (T : Tx w K mg base) : XfC K (He.ga K "UnknownName") ∧ ExcC K (He.ga K "UnknownName") := Hd.excB_ok (He.ba T.sx.choose_spec.more).1
theorem Tx.xc_InvalidEntry (T : Tx w K mg base) : XfC K (He.ga K "InvalidEntry") ∧ ExcC K (He.ga K "InvalidEntry") := Hd.excB_ok (He.ba (He.ba T.sx.choose_spec.more).2).1
theorem Tx.kit_InvalidEntry_UnknownName (T : Tx w K mg base) : PySem.W.kitOne K (.ref (He.ga K "InvalidEntry")) (.ref (He.ga K "UnknownName")) = some false := of_decide_eq_true (He.ba (He.ba (He.ba T.sx.choose_spec.more).2).2).1
theorem Tx.kit_InvalidEntry_WhoevermayError (T : Tx w K mg base) : PySem.W.kitOne K (.ref (He.ga K "InvalidEntry")) (.ref (He.ga K "WhoevermayError")) = some true := of_decide_eq_true (He.ba (He.ba (He.ba (He.ba T.sx.choose_spec.more).2).2).2).1
theorem Tx.kit_InvalidEntry_ValueError (T : Tx w K mg base) : PySem.W.kitOne K (.ref (He.ga K "InvalidEntry")) (.type "ValueError") = some true := of_decide_eq_true (He.ba (He.ba (He.ba (He.ba (He.ba T.sx.choose_spec.more).2).2).2).2).1
end
def Gd (K : PySem.W.Frag) (H : Hp) : Prop := ∀ p ∈ tf, GxR.TabG H (He.cT K p).2
theorem Gd.mono {K : PySem.W.Frag} {H H' : Hp} (g : Gd K H) (s : GD.Sm H H') : Gd K H' := fun p hp => s.tb _ (g p hp)
end K8

-- part DL1
set_option Elab.async false
set_option linter.all false
set_option maxRecDepth 100000
set_option maxHeartbeats 2000000
/-! data without a heap, what stands for it, states of a def -/
namespace DL
open PySem PySem.Spec PyProof.Rows L2 GxR GS GA GD
/-- data -/
inductive D where
  | non | bl (b : Bool) | int (i : Int) | str (s : Str)
  | lst (xs : List D) | tup (xs : List D)
  | ins (C : Str) (ns : List Str) (xs : List D)
  | dct (ks : List Key) (xs : List D)
  | scr (ns : List Int)
  | xc (a dd : Addr) (f : Str) (z : D)
  | xn (a : Addr)
/-- an address that may be written -/
def isM : HO → Prop
  | .lst _ => True
  | .dK _ => True
  | .dT _ => True
  | .ins .. => True
  | _ => False
abbrev AP := Addr → Prop
/-- a list that is locked, or one of the written part -/
def ScrAt (K : PySem.W.Frag) (H : Hp) (a : Addr) (xs : List V) : Prop := (∃ o, H a = some (.frz o (.lst xs))) ∨ SqL K (fun _ => none) a xs
theorem scr_keep {K : PySem.W.Frag} {H H' : Hp} {a : Addr} {xs : List V} (k : ∀ o u, H a = some (.frz o u) → H' a = some (.frz o u)) (r : ScrAt K H a xs) : ScrAt K H' a xs := r.imp (fun ⟨o, h⟩ => ⟨o, k o _ h⟩) id
theorem ScrAt.sq {K : PySem.W.Frag} {H : Hp} {a : Addr} {xs : List V} (r : ScrAt K H a xs) : SqL K H a xs := by
  rcases r with ⟨o, h⟩ | (h | ⟨o, h⟩) | h
  · exact .inl (.inr ⟨o, h⟩)
  · cases h
  · cases h
  · exact .inr h
mutual
/-- v stands for the data at H; no list, dict, instance in it is at an address of A -/
def Rp (K : PySem.W.Frag) (H : Hp) (A : AP) : D → V → Prop
  | .non, v => v = .non
  | .bl b, v => v = .bl b
  | .int i, v => v = .int i
  | .str s, v => v = .str s
  | .lst xs, v => ∃ a vs, v = .ref a ∧ H a = some (.lst vs) ∧ ¬ A a ∧ RpL K H A xs vs
  | .tup xs, v => ∃ a vs, v = .ref a ∧ SqT K H a vs ∧ RpL K H A xs vs
  | .ins C ns xs, v => ∃ a dx vs, v = .ref a ∧ H a = some (.ins (He.ga K C) dx (ns.zip vs)) ∧ ¬ A a ∧ ns.length = vs.length ∧ RpL K H A xs vs
  | .dct ks xs, v => ∃ a vs, v = .ref a ∧ H a = some (.dK (ks.zip vs)) ∧ ¬ A a ∧ ks.length = vs.length ∧ RpL K H A xs vs
  | .scr ns, v => ∃ a, v = .ref a ∧ ScrAt K H a (ns.map V.int)
  | .xc a dd f z, v => v = .ref a ∧ ∃ w, H dd = some (.xd [(f, w)]) ∧ Rp K H A z w
  | .xn a, v => v = .ref a
def RpL (K : PySem.W.Frag) (H : Hp) (A : AP) : List D → List V → Prop
  | [], vs => vs = []
  | d :: r, vs => ∃ v t, vs = v :: t ∧ Rp K H A d v ∧ RpL K H A r t
end
/-- all stands but what is at an address of O; tables may have grown -/
structure Kp (O : AP) (H H' : Hp) : Prop where
  st : ∀ b o, H b = some o → (isM o → ¬ O b) → (∀ ps, o ≠ .tbl ps) → H' b = some o
  tb : ∀ P, TabG H P → TabG H' P
  fr : ∀ b, H' b = none → H b = none
section
variable {O O' : AP} {H H' H'' : Hp}
theorem Kp.refl : Kp O H H := ⟨fun _ _ e _ _ => e, fun _ t => t, fun _ e => e⟩
theorem Kp.of (s : Sm H H') : Kp O H H' := ⟨fun b o e _ n => s.st b o e n, s.tb, s.fr⟩
theorem Kp.sm (k : Kp (fun _ => False) H H') : Sm H H' := ⟨fun b o e n => k.st b o e (fun _ z => z) n, k.tb, k.fr⟩
theorem Kp.trans (k : Kp O H H') (k' : Kp O' H' H'') (h : ∀ b, O' b → O b ∨ H b = none) : Kp O H H'' :=
  ⟨fun b o e m n => k'.st b o (k.st b o e m n) (fun z q => (h b q).elim (m z) fun y => by rw [e] at y; cases y) n, fun P t => k'.tb P (k.tb P t), fun b e => k.fr b (k'.fr b e)⟩
end
/-- from one state to a later one: A what is kept apart, O what is one's own -/
structure Tr (A O : AP) (H : Hp) (A' O' : AP) (H' : Hp) : Prop where
  kp : Kp O H H'
  new : ∀ b, A' b → A b ∨ H b = none
  old : ∀ b, A b → ¬ O b → A' b
  own : ∀ b, O' b → O b ∨ H b = none
section
variable {A O A' O' A'' O'' : AP} {H H' H'' : Hp}
theorem Tr.refl : Tr A O H A O H := ⟨Kp.refl, fun _ h => .inl h, fun _ h _ => h, fun _ h => .inl h⟩
theorem Tr.of (s : Sm H H') : Tr A O H A O H' := ⟨Kp.of s, fun _ h => .inl h, fun _ h _ => h, fun _ h => .inl h⟩
theorem Tr.trans (t : Tr A O H A' O' H') (t' : Tr A' O' H' A'' O'' H'') (tk : ∀ b, A b → H b ≠ none) : Tr A O H A'' O'' H'' :=
  ⟨t.kp.trans t'.kp t.own, fun b h => (t'.new b h).elim (t.new b) fun z => .inr (t.kp.fr b z), fun b h n => t'.old b (t.old b h n) fun z => (t.own b z).elim n (tk b h),
    fun b h => (t'.own b h).elim (t.own b) fun z => .inr (t.kp.fr b z)⟩
end
section
variable {K : PySem.W.Frag} {A A' O : AP} {H H' : Hp}
/-- lists, dicts, instances that stand for data stand on -/
theorem Rd.keep {a : Addr} {o : HO} (ht : ∀ ps, o ≠ .tbl ps) (k : ∀ u, (u = o ∨ ∃ x, u = .frz x o) → H a = some u → H' a = some u) (r : Rd H a o) : Rd H' a o := by
  rcases r with r | ⟨x, r⟩
  · exact .inl (k _ (.inl rfl) r)
  · exact .inr ⟨x, k _ (.inr ⟨x, rfl⟩) r⟩
theorem sqt_keep {a : Addr} {xs : List V} (k : ∀ u, (u = .tup xs ∨ ∃ x, u = .frz x (.tup xs)) → H a = some u → H' a = some u) (r : SqT K H a xs) : SqT K H' a xs := by
  rcases r with (r | ⟨x, r⟩) | r
  · exact .inl (.inl (k _ (.inl rfl) r))
  · exact .inl (.inr ⟨x, k _ (.inr ⟨x, rfl⟩) r⟩)
  · exact .inr r
mutual
theorem Rp.gen (k : ∀ b o, H b = some o → (isM o → ¬ A b) → (∀ ps, o ≠ .tbl ps) → H' b = some o) (n : ∀ b o, H b = some o → isM o → ¬ A b → ¬ A' b) : ∀ (d : D) (v : V), Rp K H A d v → Rp K H' A' d v
  | .non, _, h => by unfold Rp at h ⊢; exact h
  | .bl _, _, h => by unfold Rp at h ⊢; exact h
  | .int _, _, h => by unfold Rp at h ⊢; exact h
  | .str _, _, h => by unfold Rp at h ⊢; exact h
  | .lst xs, v, h => by
    unfold Rp at h ⊢
    obtain ⟨a, vs, e, r, na, t⟩ := h
    exact ⟨a, vs, e, k a _ r (fun _ => na) (fun ps z => by cases z), n a _ r trivial na, RpL.gen k n xs vs t⟩
  | .tup xs, v, h => by
    unfold Rp at h ⊢
    obtain ⟨a, vs, e, r, t⟩ := h
    refine ⟨a, vs, e, sqt_keep (fun u hu q => k a u q (fun m => ?_) (by rintro ps rfl; rcases hu with z | ⟨_, z⟩ <;> cases z)) r, RpL.gen k n xs vs t⟩
    rcases hu with rfl | ⟨x, rfl⟩ <;> exact m.elim
  | .ins C ns xs, v, h => by
    unfold Rp at h ⊢
    obtain ⟨a, dx, vs, e, r, na, l, t⟩ := h
    exact ⟨a, dx, vs, e, k a _ r (fun _ => na) (fun ps z => by cases z), n a _ r trivial na, l, RpL.gen k n xs vs t⟩
  | .dct ks xs, v, h => by
    unfold Rp at h ⊢
    obtain ⟨a, vs, e, r, na, l, t⟩ := h
    exact ⟨a, vs, e, k a _ r (fun _ => na) (fun ps z => by cases z), n a _ r trivial na, l, RpL.gen k n xs vs t⟩
  | .scr ns, v, h => by
    unfold Rp at h ⊢
    obtain ⟨a, e, r⟩ := h
    exact ⟨a, e, scr_keep (fun o u q => k a _ q (fun m => m.elim) (fun ps z => by cases z)) r⟩
  | .xn a, v, h => by unfold Rp at h ⊢; exact h
  | .xc a dd f z, v, h => by
    unfold Rp at h ⊢
    obtain ⟨e, w, r, q⟩ := h
    exact ⟨e, w, k dd _ r (fun m => m.elim) (fun ps z => by cases z), Rp.gen k n z w q⟩
theorem RpL.gen (k : ∀ b o, H b = some o → (isM o → ¬ A b) → (∀ ps, o ≠ .tbl ps) → H' b = some o) (n : ∀ b o, H b = some o → isM o → ¬ A b → ¬ A' b) : ∀ (ds : List D) (vs : List V), RpL K H A ds vs → RpL K H' A' ds vs
  | [], _, h => by unfold RpL at h ⊢; exact h
  | d :: r, vs, h => by
    unfold RpL at h ⊢
    obtain ⟨v, t, e, h1, h2⟩ := h
    exact ⟨v, t, e, Rp.gen k n d v h1, RpL.gen k n r t h2⟩
end
variable {d : D} {v : V} {ds : List D} {vs : List V}
theorem Rp.sm (s : Sm H H') (h : Rp K H A d v) : Rp K H' A d v := Rp.gen (fun b o e _ n => s.st b o e n) (fun _ _ _ _ z => z) d v h
theorem RpL.sm (s : Sm H H') (h : RpL K H A ds vs) : RpL K H' A ds vs := RpL.gen (fun b o e _ n => s.st b o e n) (fun _ _ _ _ z => z) ds vs h
/-- fewer addresses are kept apart -/
theorem Rp.less (n : ∀ b, A' b → A b) (h : Rp K H A d v) : Rp K H A' d v := Rp.gen (fun _ _ e _ _ => e) (fun b _ _ _ z q => z (n b q)) d v h
theorem RpL.less (n : ∀ b, A' b → A b) (h : RpL K H A ds vs) : RpL K H A' ds vs := RpL.gen (fun _ _ e _ _ => e) (fun b _ _ _ z q => z (n b q)) ds vs h
/-- a new address is kept apart -/
theorem Rp.fresh {p : Addr} (hp : H p = none) (h : Rp K H A d v) : Rp K H (fun b => A b ∨ b = p) d v := Rp.gen (fun _ _ e _ _ => e) (fun b o e _ z q => q.elim z fun y => by rw [y, hp] at e; cases e) d v h
theorem RpL.fresh {p : Addr} (hp : H p = none) (h : RpL K H A ds vs) : RpL K H (fun b => A b ∨ b = p) ds vs := RpL.gen (fun _ _ e _ _ => e) (fun b o e _ z q => q.elim z fun y => by rw [y, hp] at e; cases e) ds vs h
theorem Rp.tr {O' : AP} (t : Tr A O H A' O' H') (hO : ∀ b, O b → A b) (h : Rp K H A d v) : Rp K H' A' d v :=
  Rp.gen (fun b o e m n => t.kp.st b o e (fun z q => m z (hO b q)) n) (fun b o e _ z q => (t.new b q).elim z fun y => by rw [e] at y; cases y) d v h
theorem RpL.tr {O' : AP} (t : Tr A O H A' O' H') (hO : ∀ b, O b → A b) (h : RpL K H A ds vs) : RpL K H' A' ds vs :=
  RpL.gen (fun b o e m n => t.kp.st b o e (fun z q => m z (hO b q)) n) (fun b o e _ z q => (t.new b q).elim z fun y => by rw [e] at y; cases y) ds vs h
/-- what is one's own is written -/
theorem Rp.upd {a : Addr} {o : HO} (ha : A a) (hm : ∀ u, H a = some u → isM u) (h : Rp K H A d v) : Rp K (upd H a o) A d v :=
  Rp.gen (fun b u e m n => by rw [upd_ne (fun z => by subst z; exact m (hm u e) ha)]; exact e) (fun _ _ _ _ z => z) d v h
theorem RpL.upd {a : Addr} {o : HO} (ha : A a) (hm : ∀ u, H a = some u → isM u) (h : RpL K H A ds vs) : RpL K (upd H a o) A ds vs :=
  RpL.gen (fun b u e m n => by rw [upd_ne (fun z => by subst z; exact m (hm u e) ha)]; exact e) (fun _ _ _ _ z => z) ds vs h
theorem RpL.nil : RpL K H A [] [] := by unfold RpL; rfl
theorem RpL.cons (h : Rp K H A d v) (t : RpL K H A ds vs) : RpL K H A (d :: ds) (v :: vs) := by unfold RpL; exact ⟨v, vs, rfl, h, t⟩
theorem RpL.uncons (h : RpL K H A (d :: ds) vs) : ∃ v t, vs = v :: t ∧ Rp K H A d v ∧ RpL K H A ds t := by unfold RpL at h; exact h
theorem RpL.unnil (h : RpL K H A [] vs) : vs = [] := by unfold RpL at h; exact h
theorem RpL.len : ∀ {ds : List D} {vs : List V}, RpL K H A ds vs → ds.length = vs.length
  | [], vs, h => by rw [h.unnil]; rfl
  | d :: r, vs, h => by
    obtain ⟨v, t, rfl, _, h2⟩ := h.uncons
    rw [List.length_cons, List.length_cons, RpL.len h2]
theorem RpL.app : ∀ {ds es : List D} {vs ws : List V}, RpL K H A ds vs → RpL K H A es ws → RpL K H A (ds ++ es) (vs ++ ws)
  | [], es, vs, ws, h, g => by rw [h.unnil]; exact g
  | d :: r, es, vs, ws, h, g => by
    obtain ⟨v, t, rfl, h1, h2⟩ := h.uncons
    exact RpL.cons h1 (RpL.app h2 g)
theorem RpL.get : ∀ {ds : List D} {vs : List V} {i : Nat} {v : V}, RpL K H A ds vs → vs[i]? = some v → ∃ d, ds[i]? = some d ∧ Rp K H A d v
  | [], vs, i, v, h, e => by rw [h.unnil] at e; simp at e
  | d :: r, vs, 0, v, h, e => by
    obtain ⟨w, t, rfl, h1, h2⟩ := h.uncons
    have e : w = v := by simpa using e
    exact ⟨d, rfl, by rw [← e]; exact h1⟩
  | d :: r, vs, i + 1, v, h, e => by
    obtain ⟨w, t, rfl, h1, h2⟩ := h.uncons
    obtain ⟨x, e1, e2⟩ := RpL.get (i := i) h2 (by simpa using e)
    exact ⟨x, by simpa using e1, e2⟩
theorem RpL.get' {i : Nat} {d : D} (h : RpL K H A ds vs) (e : ds[i]? = some d) : ∃ v, vs[i]? = some v ∧ Rp K H A d v := by
  have l := h.len
  have hi : i < vs.length := by rw [← l]; exact (List.getElem?_eq_some_iff.mp e).1
  obtain ⟨x, e1, e2⟩ := h.get (i := i) (List.getElem?_eq_getElem hi)
  rw [e] at e1
  cases e1
  exact ⟨_, List.getElem?_eq_getElem hi, e2⟩
theorem RpL.take : ∀ {ds : List D} {vs : List V} (n : Nat), RpL K H A ds vs → RpL K H A (ds.take n) (vs.take n)
  | _, _, 0, _ => by rw [List.take_zero, List.take_zero]; exact RpL.nil
  | [], vs, n + 1, h => by rw [h.unnil, List.take_nil, List.take_nil]; exact RpL.nil
  | d :: r, vs, n + 1, h => by
    obtain ⟨w, t, rfl, h1, h2⟩ := h.uncons
    rw [List.take_succ_cons, List.take_succ_cons]
    exact RpL.cons h1 (RpL.take n h2)
theorem RpL.drop : ∀ {ds : List D} {vs : List V} (n : Nat), RpL K H A ds vs → RpL K H A (ds.drop n) (vs.drop n)
  | _, _, 0, h => h
  | [], vs, n + 1, h => by rw [h.unnil, List.drop_nil, List.drop_nil]; exact RpL.nil
  | d :: r, vs, n + 1, h => by
    obtain ⟨w, t, rfl, h1, h2⟩ := h.uncons
    rw [List.drop_succ_cons, List.drop_succ_cons]
    exact RpL.drop n h2
theorem RpL.rev {ds : List D} : ∀ {vs : List V}, RpL K H A ds vs → RpL K H A ds.reverse vs.reverse := by
  induction ds with
  | nil => intro vs h; rw [h.unnil]; exact RpL.nil
  | cons d r ih =>
    intro vs h
    obtain ⟨w, t, rfl, h1, h2⟩ := h.uncons
    rw [List.reverse_cons, List.reverse_cons]
    exact RpL.app (ih h2) (RpL.cons h1 RpL.nil)
theorem RpL.strs {ss : List Str} : RpL K H A (ss.map .str) (ss.map V.str) := by
  induction ss with
  | nil => exact RpL.nil
  | cons s r ih => exact RpL.cons (by unfold Rp; rfl) ih
theorem RpL.ints {ss : List Int} : RpL K H A (ss.map .int) (ss.map V.int) := by
  induction ss with
  | nil => exact RpL.nil
  | cons s r ih => exact RpL.cons (by unfold Rp; rfl) ih
end
/-- one's own: data, a list, a dict (int and text keys), a dict of tuples as keys -/
inductive Fd where
  | va (d : D) | ow (ds : List D) | od (kvs : List (Key × D)) | ot (kvs : List (List Key × D)) | tq (ds : List D)
/-- a slot of a def: unknown, data, a list, dict, object of one's own that may be changed, one that is lent and only looked at -/
inductive Sl where
  | no | va (d : D) | ow (ds : List D) | od (kvs : List (Key × D)) | ot (kvs : List (List Key × D)) | ob (a : Addr) (C : Str) (fs : List (Str × Fd))
  | rl (ds : List D) | rd (kvs : List (Key × D)) | ro (a : Addr) (C : Str) (fs : List (Str × Fd))
section
variable {K : PySem.W.Frag} {A A' : AP} {H H' : Hp}
/-- v is f; R: the addresses that are its own -/
def FdAt (K : PySem.W.Frag) (H : Hp) (A : AP) (f : Fd) (v : V) (R : List Addr) : Prop := match f with
  | .va d => R = [] ∧ Rp K H A d v
  | .ow ds => ∃ a vs, v = .ref a ∧ R = [a] ∧ H a = some (.lst vs) ∧ RpL K H A ds vs
  | .od kvs => ∃ a vs, v = .ref a ∧ R = [a] ∧ H a = some (.dK ((kvs.map (·.1)).zip vs)) ∧ RpL K H A (kvs.map (·.2)) vs
  | .ot kvs => ∃ a vs, v = .ref a ∧ R = [a] ∧ H a = some (.dT ((kvs.map (·.1)).zip vs)) ∧ RpL K H A (kvs.map (·.2)) vs
  | .tq ds => R = [] ∧ ∃ a o vs, v = .ref a ∧ H a = some (.frz o (.tup vs)) ∧ (o.cls = .type "tuple" ∧ o.dict = none ∧ ∃ its n, o.data = .seq its n) ∧ RpL K H A ds vs
def FsAt (K : PySem.W.Frag) (H : Hp) (A : AP) : List (Str × Fd) → List (Str × V) → List Addr → Prop
  | [], ws, R => ws = [] ∧ R = []
  | (n, f) :: t, ws, R => ∃ v u R1 R2, ws = (n, v) :: u ∧ R = R1 ++ R2 ∧ FdAt K H A f v R1 ∧ FsAt K H A t u R2
def ObAt (K : PySem.W.Frag) (H : Hp) (A : AP) (a : Addr) (C : Str) (fs : List (Str × Fd)) (v : V) (R : List Addr) : Prop := ∃ dx ws R1, v = .ref a ∧ R = a :: R1 ∧ H a = some (.ins (He.ga K C) dx ws) ∧ FsAt K H A fs ws R1
/-- o is the slot; R: what is its own; O: all that is one's own -/
def SlAt (K : PySem.W.Frag) (H : Hp) (A O : AP) (s : Sl) (o : Option V) (R : List Addr) : Prop := match s with
  | .no => R = []
  | .va d => ∃ v, o = some v ∧ R = [] ∧ Rp K H A d v
  | .ow ds => ∃ v, o = some v ∧ FdAt K H A (.ow ds) v R
  | .od kvs => ∃ v, o = some v ∧ FdAt K H A (.od kvs) v R
  | .ot kvs => ∃ v, o = some v ∧ FdAt K H A (.ot kvs) v R
  | .ob a C fs => ∃ v, o = some v ∧ ObAt K H A a C fs v R
  | .rl ds => R = [] ∧ ∃ v R', o = some v ∧ FdAt K H A (.ow ds) v R' ∧ ∀ b ∈ R', ¬ O b
  | .rd kvs => R = [] ∧ ∃ v R', o = some v ∧ FdAt K H A (.od kvs) v R' ∧ ∀ b ∈ R', ¬ O b
  | .ro a C fs => R = [] ∧ ∃ v R', o = some v ∧ ObAt K H A a C fs v R' ∧ ∀ b ∈ R', ¬ O b
/-- what is known of f stands where its own addresses stand -/
theorem FdAt.gen {f : Fd} {v : V} {R : List Addr} (k : ∀ b o, H b = some o → (isM o → ¬ A b ∨ b ∈ R) → (∀ ps, o ≠ .tbl ps) → H' b = some o) (n : ∀ b o, H b = some o → isM o → ¬ A b → ¬ A' b) (h : FdAt K H A f v R) : FdAt K H' A' f v R := by
  have k2 : ∀ b o, H b = some o → (isM o → ¬ A b) → (∀ ps, o ≠ .tbl ps) → H' b = some o := fun b o e z t => k b o e (fun q => .inl (z q)) t
  cases f with
  | va d => exact ⟨h.1, Rp.gen k2 n _ _ h.2⟩
  | ow ds => obtain ⟨a, vs, e1, e2, e3, r⟩ := h; exact ⟨a, vs, e1, e2, k a _ e3 (fun _ => .inr (by rw [e2]; exact List.mem_singleton.mpr rfl)) (fun ps z => by cases z), RpL.gen k2 n _ _ r⟩
  | od kvs => obtain ⟨a, vs, e1, e2, e3, r⟩ := h; exact ⟨a, vs, e1, e2, k a _ e3 (fun _ => .inr (by rw [e2]; exact List.mem_singleton.mpr rfl)) (fun ps z => by cases z), RpL.gen k2 n _ _ r⟩
  | ot kvs => obtain ⟨a, vs, e1, e2, e3, r⟩ := h; exact ⟨a, vs, e1, e2, k a _ e3 (fun _ => .inr (by rw [e2]; exact List.mem_singleton.mpr rfl)) (fun ps z => by cases z), RpL.gen k2 n _ _ r⟩
  | tq ds => obtain ⟨e0, a, o, vs, e1, e3, e4, r⟩ := h; exact ⟨e0, a, o, vs, e1, k a _ e3 (fun z => False.elim z) (fun ps z => by cases z), e4, RpL.gen k2 n _ _ r⟩
theorem FsAt.gen : ∀ {fs : List (Str × Fd)} {ws : List (Str × V)} {R : List Addr}, (∀ b o, H b = some o → (isM o → ¬ A b ∨ b ∈ R) → (∀ ps, o ≠ .tbl ps) → H' b = some o) → (∀ b o, H b = some o → isM o → ¬ A b → ¬ A' b) → FsAt K H A fs ws R → FsAt K H' A' fs ws R
  | [], _, _, _, _, h => h
  | (m, f) :: t, ws, R, k, n, h => by
    obtain ⟨v, u, R1, R2, e1, e2, h1, h2⟩ := h
    refine ⟨v, u, R1, R2, e1, e2, h1.gen (fun b o e z => k b o e fun q => (z q).imp id fun y => ?_) n, FsAt.gen (fun b o e z => k b o e fun q => (z q).imp id fun y => ?_) n h2⟩
    · rw [e2]; exact List.mem_append_left _ y
    · rw [e2]; exact List.mem_append_right _ y
theorem ObAt.gen {a : Addr} {C : Str} {fs : List (Str × Fd)} {v : V} {R : List Addr} (k : ∀ b o, H b = some o → (isM o → ¬ A b ∨ b ∈ R) → (∀ ps, o ≠ .tbl ps) → H' b = some o) (n : ∀ b o, H b = some o → isM o → ¬ A b → ¬ A' b) (h : ObAt K H A a C fs v R) : ObAt K H' A' a C fs v R := by
  obtain ⟨dx, ws, R1, e1, e2, e3, r⟩ := h
  refine ⟨dx, ws, R1, e1, e2, k a _ e3 (fun _ => .inr (by rw [e2]; exact List.mem_cons_self)) (fun ps z => by cases z), FsAt.gen (fun b o e z => k b o e fun q => (z q).imp id fun y => by rw [e2]; exact List.mem_cons_of_mem _ y) n r⟩
/-- own addresses are tracked, and may be written -/
theorem FdAt.own {f : Fd} {v : V} {R : List Addr} (h : FdAt K H A f v R) : ∀ b ∈ R, ∃ o, H b = some o ∧ isM o := by
  cases f with
  | va d => intro b hb; rw [h.1] at hb; cases hb
  | ow ds => obtain ⟨a, vs, e1, e2, e3, r⟩ := h; intro b hb; rw [e2] at hb; rw [List.mem_singleton.mp hb]; exact ⟨_, e3, trivial⟩
  | od ds => obtain ⟨a, vs, e1, e2, e3, r⟩ := h; intro b hb; rw [e2] at hb; rw [List.mem_singleton.mp hb]; exact ⟨_, e3, trivial⟩
  | ot ds => obtain ⟨a, vs, e1, e2, e3, r⟩ := h; intro b hb; rw [e2] at hb; rw [List.mem_singleton.mp hb]; exact ⟨_, e3, trivial⟩
  | tq ds => intro b hb; rw [h.1] at hb; cases hb
theorem FsAt.own : ∀ {fs : List (Str × Fd)} {ws : List (Str × V)} {R : List Addr}, FsAt K H A fs ws R → ∀ b ∈ R, ∃ o, H b = some o ∧ isM o
  | [], _, R, h, b, hb => by rw [h.2] at hb; cases hb
  | (m, f) :: t, ws, R, h, b, hb => by
    obtain ⟨v, u, R1, R2, e1, e2, h1, h2⟩ := h
    rw [e2] at hb
    exact (List.mem_append.mp hb).elim (h1.own b) (FsAt.own h2 b)
theorem ObAt.own {a : Addr} {C : Str} {fs : List (Str × Fd)} {v : V} {R : List Addr} (h : ObAt K H A a C fs v R) : ∀ b ∈ R, ∃ o, H b = some o ∧ isM o := by
  obtain ⟨dx, ws, R1, e1, e2, e3, r⟩ := h
  intro b hb
  rw [e2] at hb
  rcases List.mem_cons.mp hb with rfl | hb
  · exact ⟨_, e3, trivial⟩
  · exact r.own b hb
/-- the value and the heap tell what is its own -/
theorem FdAt.det {f : Fd} {v : V} {R R' : List Addr} (h : FdAt K H A f v R) (h' : FdAt K H' A' f v R') : R = R' := by
  cases f with
  | va d => rw [h.1, h'.1]
  | ow ds => obtain ⟨a, vs, e1, e2, _⟩ := h; obtain ⟨a', vs', e1', e2', _⟩ := h'; rw [e1] at e1'; cases e1'; rw [e2, e2']
  | od ds => obtain ⟨a, vs, e1, e2, _⟩ := h; obtain ⟨a', vs', e1', e2', _⟩ := h'; rw [e1] at e1'; cases e1'; rw [e2, e2']
  | ot ds => obtain ⟨a, vs, e1, e2, _⟩ := h; obtain ⟨a', vs', e1', e2', _⟩ := h'; rw [e1] at e1'; cases e1'; rw [e2, e2']
  | tq ds => rw [h.1, h'.1]
theorem FsAt.det : ∀ {fs : List (Str × Fd)} {ws : List (Str × V)} {R R' : List Addr}, FsAt K H A fs ws R → FsAt K H' A' fs ws R' → R = R'
  | [], _, _, _, h, h' => by rw [h.2, h'.2]
  | (m, f) :: t, ws, R, R', h, h' => by
    obtain ⟨v, u, R1, R2, e1, e2, h1, h2⟩ := h
    obtain ⟨v', u', R1', R2', e1', e2', h1', h2'⟩ := h'
    rw [e1] at e1'
    cases e1'
    rw [e2, e2', h1.det h1', FsAt.det h2 h2']
theorem ObAt.det {a : Addr} {C : Str} {fs : List (Str × Fd)} {v : V} {R R' : List Addr} (s : Sm H H') (h : ObAt K H A a C fs v R) (h' : ObAt K H' A' a C fs v R') : R = R' := by
  obtain ⟨dx, ws, R1, e1, e2, e3, r⟩ := h
  obtain ⟨dx', ws', R1', e1', e2', e3', r'⟩ := h'
  have := s.st a _ e3 fun ps z => by cases z
  rw [e3'] at this
  cases this
  rw [e2, e2', r'.det r]
theorem SlAt.det {O O' : AP} {s : Sl} {o : Option V} {R R' : List Addr} (sm : Sm H H') (h : SlAt K H A O s o R) (h' : SlAt K H' A' O' s o R') : R = R' := by
  unfold SlAt at h h'
  cases s with
  | no => rw [h, h']
  | va d => obtain ⟨_, _, e, _⟩ := h; obtain ⟨_, _, e', _⟩ := h'; rw [e, e']
  | rl d => rw [h.1, h'.1]
  | rd d => rw [h.1, h'.1]
  | ro a C fs => rw [h.1, h'.1]
  | ow ds => obtain ⟨v, e, h⟩ := h; obtain ⟨v', e', h'⟩ := h'; rw [e] at e'; cases e'; exact h.det h'
  | od ds => obtain ⟨v, e, h⟩ := h; obtain ⟨v', e', h'⟩ := h'; rw [e] at e'; cases e'; exact h.det h'
  | ot ds => obtain ⟨v, e, h⟩ := h; obtain ⟨v', e', h'⟩ := h'; rw [e] at e'; cases e'; exact h.det h'
  | ob a C fs => obtain ⟨v, e, h⟩ := h; obtain ⟨v', e', h'⟩ := h'; rw [e] at e'; cases e'; exact h.det sm h'
theorem SlAt.own {O : AP} {s : Sl} {o : Option V} {R : List Addr} (h : SlAt K H A O s o R) : ∀ b ∈ R, ∃ u, H b = some u ∧ isM u := by
  unfold SlAt at h
  cases s with
  | no => intro b hb; rw [h] at hb; cases hb
  | va d => obtain ⟨_, _, e, _⟩ := h; intro b hb; rw [e] at hb; cases hb
  | rl d => intro b hb; rw [h.1] at hb; cases hb
  | rd d => intro b hb; rw [h.1] at hb; cases hb
  | ro a C fs => intro b hb; rw [h.1] at hb; cases hb
  | ow ds => obtain ⟨v, e, h⟩ := h; exact h.own
  | od ds => obtain ⟨v, e, h⟩ := h; exact h.own
  | ot ds => obtain ⟨v, e, h⟩ := h; exact h.own
  | ob a C fs => obtain ⟨v, e, h⟩ := h; exact h.own
/-- what is known of a slot stands: addresses of O' that are not of O are new -/
theorem SlAt.gen {O O' : AP} {s : Sl} {o : Option V} {R : List Addr} (hO : ∀ b, O b → A b) (k : ∀ b u, H b = some u → (isM u → ¬ O b ∨ b ∈ R) → (∀ ps, u ≠ .tbl ps) → H' b = some u) (n : ∀ b u, H b = some u → isM u → ¬ A b → ¬ A' b) (q : ∀ b u, H b = some u → ¬ O b → ¬ O' b) (h : SlAt K H A O s o R) : SlAt K H' A' O' s o R := by
  have k1 : ∀ b u, H b = some u → (isM u → ¬ A b ∨ b ∈ R) → (∀ ps, u ≠ .tbl ps) → H' b = some u := fun b u e z => k b u e fun y => (z y).imp (fun w c => w (hO b c)) id
  have k2 : ∀ b u, H b = some u → (isM u → ¬ A b) → (∀ ps, u ≠ .tbl ps) → H' b = some u := fun b u e z => k1 b u e fun y => .inl (z y)
  have k3 : ∀ {R' : List Addr}, (∀ b ∈ R', ¬ O b) → ∀ b u, H b = some u → (isM u → ¬ A b ∨ b ∈ R') → (∀ ps, u ≠ .tbl ps) → H' b = some u := fun nO b u e z => k b u e fun y => .inl fun c => (z y).elim (fun w => w (hO b c)) fun w => nO b w c
  unfold SlAt at h ⊢
  cases s with
  | no => exact h
  | va d => obtain ⟨v, e1, e2, r⟩ := h; exact ⟨v, e1, e2, Rp.gen k2 n _ _ r⟩
  | ow ds => obtain ⟨v, e, h⟩ := h; exact ⟨v, e, h.gen k1 n⟩
  | od ds => obtain ⟨v, e, h⟩ := h; exact ⟨v, e, h.gen k1 n⟩
  | ot ds => obtain ⟨v, e, h⟩ := h; exact ⟨v, e, h.gen k1 n⟩
  | ob a C fs => obtain ⟨v, e, h⟩ := h; exact ⟨v, e, h.gen k1 n⟩
  | rl ds => obtain ⟨e0, v, R', e, h, nO⟩ := h; exact ⟨e0, v, R', e, h.gen (k3 nO) n, fun b hb => let ⟨u, e, _⟩ := h.own b hb; q b u e (nO b hb)⟩
  | rd ds => obtain ⟨e0, v, R', e, h, nO⟩ := h; exact ⟨e0, v, R', e, h.gen (k3 nO) n, fun b hb => let ⟨u, e, _⟩ := h.own b hb; q b u e (nO b hb)⟩
  | ro a C fs => obtain ⟨e0, v, R', e, h, nO⟩ := h; exact ⟨e0, v, R', e, h.gen (k3 nO) n, fun b hb => let ⟨u, e, _⟩ := h.own b hb; q b u e (nO b hb)⟩
end
/-- the state at H, σ: Ts the tables of the program's defs; A what is kept apart, O what is one's own, g which slot it belongs to -/
structure MtG (K : PySem.W.Frag) (Ts : AP) (H : Hp) (A O : AP) (ρ : List Sl) (σ : L2.St) (g : Nat → List Addr) : Prop where
  tab : ∀ P, Ts P → TabG H P
  sub : ∀ b, O b → A b
  trk : ∀ b, A b → H b ≠ none
  len : ρ.length = σ.length
  at_ : ∀ (i : Nat) (s : Sl) (o : Option V), ρ[i]? = some s → σ[i]? = some o → SlAt K H A O s o (g i)
  nod : ∀ i, (g i).Nodup
  dis : ∀ i j b, b ∈ g i → b ∈ g j → i = j
  all : ∀ b, O b ↔ ∃ i, b ∈ g i
  out : ∀ i, ρ.length ≤ i → g i = []
def Mt (K : PySem.W.Frag) (Ts : AP) (H : Hp) (A O : AP) (ρ : List Sl) (σ : L2.St) : Prop := ∃ g, MtG K Ts H A O ρ σ g
theorem getElem?_set_ne' {α : Type} {xs : List α} {i j : Nat} {x : α} (h : i ≠ j) : (xs.set i x)[j]? = xs[j]? := by rw [List.getElem?_set, if_neg h]
section
variable {K : PySem.W.Frag} {Ts A O A' O' : AP} {H H' : Hp} {ρ : List Sl} {σ : L2.St} {i : Nat} {d : D} {ds : List D} {s : Sl} {o : Option V} {g : Nat → List Addr}
theorem Mt.tab (m : Mt K Ts H A O ρ σ) : ∀ P, Ts P → TabG H P := let ⟨_, m⟩ := m; m.tab
theorem Mt.sub (m : Mt K Ts H A O ρ σ) : ∀ b, O b → A b := let ⟨_, m⟩ := m; m.sub
theorem Mt.trk (m : Mt K Ts H A O ρ σ) : ∀ b, A b → H b ≠ none := let ⟨_, m⟩ := m; m.trk
theorem Mt.len (m : Mt K Ts H A O ρ σ) : ρ.length = σ.length := let ⟨_, m⟩ := m; m.len
theorem MtG.get (m : MtG K Ts H A O ρ σ g) (h : ρ[i]? = some s) : ∃ o, σ[i]? = some o ∧ SlAt K H A O s o (g i) := by
  have hi : i < σ.length := by rw [← m.len]; exact (List.getElem?_eq_some_iff.mp h).1
  exact ⟨σ[i], List.getElem?_eq_getElem hi, m.at_ i s _ h (List.getElem?_eq_getElem hi)⟩
theorem MtG.mine (m : MtG K Ts H A O ρ σ g) {b : Addr} (h : b ∈ g i) : O b := (m.all b).mpr ⟨i, h⟩
theorem Mt.va (m : Mt K Ts H A O ρ σ) (i : Nat) (d : D) (h : ρ[i]? = some (Sl.va d)) : ∃ v, σ[i]? = some (some v) ∧ Rp K H A d v := by
  obtain ⟨g, m⟩ := m
  obtain ⟨o, e, v, e1, _, r⟩ := m.get h
  exact ⟨v, by rw [e, e1], r⟩
theorem Mt.ow (m : Mt K Ts H A O ρ σ) (i : Nat) (ds : List D) (h : ρ[i]? = some (Sl.ow ds)) : ∃ a vs, σ[i]? = some (some (V.ref a)) ∧ O a ∧ H a = some (.lst vs) ∧ RpL K H A ds vs := by
  obtain ⟨g, m⟩ := m
  obtain ⟨o, e, v, e1, a, vs, e2, e3, e4, r⟩ := m.get h
  exact ⟨a, vs, by rw [e, e1, e2], m.mine (i := i) (by rw [e3]; exact List.mem_singleton.mpr rfl), e4, r⟩
theorem Mt.od (m : Mt K Ts H A O ρ σ) (i : Nat) (kvs : List (Key × D)) (h : ρ[i]? = some (Sl.od kvs)) : ∃ a vs, σ[i]? = some (some (V.ref a)) ∧ O a ∧ H a = some (.dK ((kvs.map (·.1)).zip vs)) ∧ RpL K H A (kvs.map (·.2)) vs := by
  obtain ⟨g, m⟩ := m
  obtain ⟨o, e, v, e1, a, vs, e2, e3, e4, r⟩ := m.get h
  exact ⟨a, vs, by rw [e, e1, e2], m.mine (i := i) (by rw [e3]; exact List.mem_singleton.mpr rfl), e4, r⟩
theorem Mt.ot (m : Mt K Ts H A O ρ σ) (i : Nat) (kvs : List (List Key × D)) (h : ρ[i]? = some (Sl.ot kvs)) : ∃ a vs, σ[i]? = some (some (V.ref a)) ∧ O a ∧ H a = some (.dT ((kvs.map (·.1)).zip vs)) ∧ RpL K H A (kvs.map (·.2)) vs := by
  obtain ⟨g, m⟩ := m
  obtain ⟨o, e, v, e1, a, vs, e2, e3, e4, r⟩ := m.get h
  exact ⟨a, vs, by rw [e, e1, e2], m.mine (i := i) (by rw [e3]; exact List.mem_singleton.mpr rfl), e4, r⟩
theorem Mt.rl (m : Mt K Ts H A O ρ σ) (i : Nat) (ds : List D) (h : ρ[i]? = some (Sl.rl ds)) : ∃ a vs, σ[i]? = some (some (V.ref a)) ∧ ¬ O a ∧ H a = some (.lst vs) ∧ RpL K H A ds vs := by
  obtain ⟨g, m⟩ := m
  obtain ⟨o, e, _, v, R', e1, ⟨a, vs, e2, e3, e4, r⟩, nO⟩ := m.get h
  exact ⟨a, vs, by rw [e, e1, e2], nO a (by rw [e3]; exact List.mem_singleton.mpr rfl), e4, r⟩
theorem Mt.rd (m : Mt K Ts H A O ρ σ) (i : Nat) (kvs : List (Key × D)) (h : ρ[i]? = some (Sl.rd kvs)) : ∃ a vs, σ[i]? = some (some (V.ref a)) ∧ ¬ O a ∧ H a = some (.dK ((kvs.map (·.1)).zip vs)) ∧ RpL K H A (kvs.map (·.2)) vs := by
  obtain ⟨g, m⟩ := m
  obtain ⟨o, e, _, v, R', e1, ⟨a, vs, e2, e3, e4, r⟩, nO⟩ := m.get h
  exact ⟨a, vs, by rw [e, e1, e2], nO a (by rw [e3]; exact List.mem_singleton.mpr rfl), e4, r⟩
/-- one's own, or lent -/
theorem Mt.obj (m : Mt K Ts H A O ρ σ) (i : Nat) (a : Addr) (C : Str) (fs : List (Str × Fd)) (h : ρ[i]? = some (Sl.ob a C fs) ∨ ρ[i]? = some (Sl.ro a C fs)) : ∃ dx ws R, σ[i]? = some (some (V.ref a)) ∧ H a = some (.ins (He.ga K C) dx ws) ∧ FsAt K H A fs ws R := by
  obtain ⟨g, m⟩ := m
  rcases h with h | h
  · obtain ⟨o, e, v, e1, dx, ws, R1, e2, e3, e4, r⟩ := m.get h
    exact ⟨dx, ws, R1, by rw [e, e1, e2], e4, r⟩
  · obtain ⟨o, e, _, v, R', e1, ⟨dx, ws, R1, e2, e3, e4, r⟩, nO⟩ := m.get h
    exact ⟨dx, ws, R1, by rw [e, e1, e2], e4, r⟩
theorem Mt.sm (m : Mt K Ts H A O ρ σ) (s : Sm H H') : Mt K Ts H' A O ρ σ := by
  obtain ⟨g, m⟩ := m
  exact ⟨g, fun P h => s.tb P (m.tab P h), m.sub, fun b h z => m.trk b h (s.fr b z), m.len, fun i x o e1 e2 => (m.at_ i x o e1 e2).gen m.sub (fun b u e _ n => s.st b u e n) (fun _ _ _ _ z => z) fun _ _ _ z => z, m.nod, m.dis, m.all, m.out⟩
/-- a new address is kept apart -/
theorem Mt.fresh {p : Addr} (m : Mt K Ts H A O ρ σ) (hp : H p = none) (s : Sm H H') (h' : H' p ≠ none) : Mt K Ts H' (fun b => A b ∨ b = p) O ρ σ := by
  obtain ⟨g, m⟩ := m
  exact ⟨g, fun P h => s.tb P (m.tab P h), fun b h => .inl (m.sub b h), fun b h z => h.elim (fun q => m.trk b q (s.fr b z)) fun q => by subst q; exact h' z, m.len,
    fun i x o e1 e2 => (m.at_ i x o e1 e2).gen m.sub (fun b u e _ n => s.st b u e n) (fun b u e _ z q => q.elim z fun y => by rw [y, hp] at e; cases e) fun _ _ _ z => z, m.nod, m.dis, m.all, m.out⟩
/-- slot i is changed, with what is its own -/
theorem MtG.chg (m : MtG K Ts H A O ρ σ g) (hi : i < ρ.length) {R' : List Addr} (ht : ∀ P, TabG H P → TabG H' P) (hk : ∀ b u, H b = some u → (isM u → b ∉ g i) → (∀ ps, u ≠ .tbl ps) → H' b = some u) (hf : ∀ b, H' b = none → H b = none)
    (hA : ∀ b u, H b = some u → isM u → ¬ A b → ¬ A' b) (hnew : ∀ b, A' b → A b ∨ H b = none) (hold : ∀ b, A b → b ∉ g i → A' b) (htr : ∀ b, A' b → H' b ≠ none) (hR : ∀ b ∈ R', b ∈ g i ∨ H b = none) (hRA : ∀ b ∈ R', A' b) (hnd : R'.Nodup)
    (hs : SlAt K H' A' (fun b => (O b ∧ b ∉ g i) ∨ b ∈ R') s o R') :
    MtG K Ts H' A' (fun b => (O b ∧ b ∉ g i) ∨ b ∈ R') (ρ.set i s) (σ.set i o) (fun j => if j = i then R' else g j) ∧ Tr A O H A' (fun b => (O b ∧ b ∉ g i) ∨ b ∈ R') H' := by
  have hq : ∀ b u, H b = some u → ¬ O b → ¬ ((O b ∧ b ∉ g i) ∨ b ∈ R') := fun b u e n z => z.elim (fun y => n y.1) fun y => (hR b y).elim (fun w => n (m.mine w)) fun w => by rw [w] at e; cases e
  refine ⟨⟨fun P h => ht P (m.tab P h), fun b h => h.elim (fun z => hold b (m.sub b z.1) z.2) (hRA b), htr, by rw [List.length_set, List.length_set, m.len], fun j x y e1 e2 => ?_, fun j => ?_, fun j k b h1 h2 => ?_, fun b => ?_, fun j hj => ?_⟩, ⟨⟨fun b u e n t => hk b u e (fun z w => n z (m.mine w)) t, ht, hf⟩, hnew, fun b h n => hold b h fun w => n (m.mine w), fun b h => h.elim (fun z => .inl z.1) fun z => (hR b z).imp (fun w => m.mine w) id⟩⟩
  · by_cases hij : j = i
    · subst hij
      rw [List.getElem?_set_self hi] at e1
      rw [List.getElem?_set_self (by rw [← m.len]; exact hi)] at e2
      cases e1
      cases e2
      rw [if_pos rfl]
      exact hs
    · rw [getElem?_set_ne' (fun z => hij z.symm)] at e1 e2
      rw [if_neg hij]
      exact (m.at_ j x y e1 e2).gen m.sub (fun b u e z => hk b u e fun w c => (z w).elim (fun n => n (m.mine c)) fun c2 => hij (m.dis j i b c2 c)) hA hq
  · split
    · exact hnd
    · exact m.nod j
  · have nR : ∀ {j : Nat} {b : Addr}, j ≠ i → b ∈ g j → b ∉ R' := fun {j b} hj hb c => (hR b c).elim (fun w => hj (m.dis j i b hb w)) fun w => m.trk b (m.sub b (m.mine hb)) w
    by_cases hj : j = i
    · rw [if_pos hj] at h1
      by_cases hk : k = i
      · rw [hj, hk]
      · rw [if_neg hk] at h2
        exact absurd h1 (nR hk h2)
    · rw [if_neg hj] at h1
      by_cases hk : k = i
      · rw [if_pos hk] at h2
        exact absurd h2 (nR hj h1)
      · rw [if_neg hk] at h2
        exact m.dis j k b h1 h2
  · constructor
    · rintro (⟨h, n⟩ | h)
      · obtain ⟨j, hj⟩ := (m.all b).mp h
        exact ⟨j, by rw [if_neg fun z => n (by rw [← z]; exact hj)]; exact hj⟩
      · exact ⟨i, by rw [if_pos rfl]; exact h⟩
    · rintro ⟨j, hj⟩
      split at hj
      · exact .inr hj
      · rename_i n
        exact .inl ⟨m.mine hj, fun c => n (m.dis j i b hj c)⟩
  · rw [List.length_set] at hj
    rw [if_neg (by omega)]
    exact m.out j hj
/-- a slot takes what has nothing of its own -/
theorem MtG.flat (m : MtG K Ts H A O ρ σ g) (hi : i < ρ.length) (h : SlAt K H A (fun b => (O b ∧ b ∉ g i) ∨ b ∈ ([] : List Addr)) s o []) : ∃ O', Mt K Ts H A O' (ρ.set i s) (σ.set i o) ∧ Tr A O H A O' H := by
  obtain ⟨m2, t⟩ := m.chg hi (H' := H) (A' := A) (R' := []) (fun _ h => h) (fun _ _ e _ _ => e) (fun _ e => e) (fun _ _ _ _ z => z) (fun _ h => .inl h) (fun _ h _ => h) m.trk (fun b hb => by cases hb) (fun b hb => by cases hb) List.nodup_nil h
  exact ⟨_, ⟨_, m2⟩, t⟩
theorem set_out {α : Type} {xs : List α} {i : Nat} {x : α} (h : ¬ i < xs.length) : xs.set i x = xs := List.set_eq_of_length_le (by omega)
/-- a slot takes anything -/
theorem Mt.setNo {x : Option V} (m : Mt K Ts H A O ρ σ) : ∃ O', Mt K Ts H A O' (ρ.set i .no) (σ.set i x) ∧ Tr A O H A O' H := by
  by_cases hi : i < ρ.length
  · obtain ⟨g, m⟩ := m
    exact m.flat hi rfl
  · exact ⟨O, by rw [set_out hi, set_out (by rw [← m.len]; exact hi)]; exact m, Tr.refl⟩
/-- a slot takes data -/
theorem Mt.setVa {v : V} (m : Mt K Ts H A O ρ σ) (h : Rp K H A d v) : ∃ O', Mt K Ts H A O' (ρ.set i (Sl.va d)) (σ.set i (some v)) ∧ Tr A O H A O' H := by
  by_cases hi : i < ρ.length
  · obtain ⟨g, m⟩ := m
    exact m.flat hi ⟨v, rfl, rfl, h⟩
  · exact ⟨O, by rw [set_out hi, set_out (by rw [← m.len]; exact hi)]; exact m, Tr.refl⟩
/-- an object of a slot is written: what is the slot's own stays the same -/
theorem MtG.wr (m : MtG K Ts H A O ρ σ g) (hi : i < ρ.length) {a : Addr} {u : HO} (ha : a ∈ g i) (hu : ∀ x, H a = some x → ∀ ps, x ≠ .tbl ps) (ho : σ[i]? = some o) (hs : SlAt K (upd H a u) A (fun b => (O b ∧ b ∉ g i) ∨ b ∈ g i) s o (g i)) :
    ∃ O', Mt K Ts (upd H a u) A O' (ρ.set i s) σ ∧ Tr A O H A O' (upd H a u) := by
  have hO : O a := m.mine ha
  have hn : H a ≠ none := m.trk a (m.sub a hO)
  obtain ⟨m2, t⟩ := m.chg hi (H' := upd H a u) (A' := A) (R' := g i) (o := o) (fun P ⟨ps, e, t⟩ => ⟨ps, by rw [upd_ne (fun z => hu _ (by rw [← z]; exact e) ps rfl)]; exact e, t⟩) (fun b w e n _ => by
    by_cases hb : b = a
    · subst hb
      by_cases hw : isM w
      · exact absurd ha (n hw)
      · obtain ⟨o', _, h⟩ : ∃ o', σ[i]? = some o' ∧ SlAt K H A O ρ[i] o' (g i) := m.get (List.getElem?_eq_getElem hi)
        obtain ⟨x, e2, hx⟩ := h.own b ha
        rw [e] at e2
        cases e2
        exact absurd hx hw
    · rw [upd_ne hb]; exact e) (fun b e => by
    by_cases hb : b = a
    · rw [hb, upd_same] at e; cases e
    · rw [upd_ne hb] at e; exact e) (fun _ _ _ _ z => z) (fun _ h => .inl h) (fun _ h _ => h) (fun b h => by
    by_cases hb : b = a
    · rw [hb, upd_same]; exact fun z => by cases z
    · rw [upd_ne hb]; exact m.trk b h) (fun b hb => .inl hb) (fun b hb => m.sub b (m.mine hb)) (m.nod i) hs
  have e : σ.set i o = σ := by
    rw [List.getElem?_eq_some_iff] at ho
    obtain ⟨h1, h2⟩ := ho
    rw [← h2]
    exact List.set_getElem_self h1
  rw [e] at m2
  exact ⟨_, ⟨_, m2⟩, t⟩
/-- the list of a slot is changed -/
theorem Mt.put {a : Addr} {es : List D} {us vs : List V} (m : Mt K Ts H A O ρ σ) (hi : ρ[i]? = some (Sl.ow ds)) (hs : σ[i]? = some (some (V.ref a))) (ha : H a = some (.lst us)) (hO : O a) (r : RpL K H A es vs) :
    ∃ O', Mt K Ts (upd H a (.lst vs)) A O' (ρ.set i (Sl.ow es)) σ ∧ Tr A O H A O' (upd H a (.lst vs)) := by
  obtain ⟨g, m⟩ := m
  have hl : i < ρ.length := (List.getElem?_eq_some_iff.mp hi).1
  obtain ⟨o, e, v, e1, a', vs', e2, e3, e4, _⟩ := m.get hi
  rw [hs, e1, e2] at e
  cases e
  have hm : ∀ u, H a = some u → isM u := fun u e => by rw [ha] at e; cases e; trivial
  exact m.wr hl (by rw [e3]; exact List.mem_singleton.mpr rfl) (fun x e => by rw [ha] at e; cases e; exact fun _ z => by cases z) hs ⟨_, rfl, a, vs, rfl, e3, upd_same, r.upd (m.sub a hO) hm⟩
def consG (R : List Addr) (g : Nat → List Addr) : Nat → List Addr
  | 0 => R
  | j + 1 => g j
/-- the new list at p, kept apart, as a slot in front -/
theorem Mt.fr {p : Addr} {vs : List V} (m : Mt K Ts H A O ρ σ) (hp : H p = none) (s : Sm H H') (h' : H' p = some (.lst vs)) (r : RpL K H' (fun b => A b ∨ b = p) ds vs) : Mt K Ts H' (fun b => A b ∨ b = p) (fun b => O b ∨ b = p) (Sl.ow ds :: ρ) (some (V.ref p) :: σ) := by
  obtain ⟨g, m⟩ := m
  have np : ∀ j, p ∉ g j := fun j z => m.trk p (m.sub p (m.mine z)) hp
  refine ⟨consG [p] g, fun P h => s.tb P (m.tab P h), fun b h => h.imp (m.sub b) id, fun b h z => h.elim (fun q => m.trk b q (s.fr b z)) fun q => (by subst q; rw [h'] at z; cases z), by rw [List.length_cons, List.length_cons, m.len], fun j x y e1 e2 => ?_, fun j => ?_, fun j k b h1 h2 => ?_, fun b => ?_, fun j hj => ?_⟩
  · cases j with
    | zero => cases e1; cases e2; exact ⟨_, rfl, p, vs, rfl, rfl, h', r⟩
    | succ j => exact (m.at_ j x y e1 e2).gen m.sub (fun b u e _ n => s.st b u e n) (fun b u e _ z q => q.elim z fun w => by rw [w, hp] at e; cases e) fun b u e z q => q.elim z fun w => by rw [w, hp] at e; cases e
  · cases j with
    | zero => show [p].Nodup; simp
    | succ j => exact m.nod j
  · cases j with
    | zero =>
      cases k with
      | zero => rfl
      | succ k => rw [List.mem_singleton.mp h1] at h2; exact absurd h2 (np k)
    | succ j =>
      cases k with
      | zero => rw [List.mem_singleton.mp h2] at h1; exact absurd h1 (np j)
      | succ k => rw [m.dis j k b h1 h2]
  · constructor
    · rintro (h | h)
      · obtain ⟨j, hj⟩ := (m.all b).mp h
        exact ⟨j + 1, hj⟩
      · exact ⟨0, by rw [h]; exact List.mem_singleton.mpr rfl⟩
    · rintro ⟨j, hj⟩
      cases j with
      | zero => exact .inr (List.mem_singleton.mp hj)
      | succ j => exact .inl (m.mine hj)
  · cases j with
    | zero => exact absurd hj (by rw [List.length_cons]; omega)
    | succ j => exact m.out j (by rw [List.length_cons] at hj; omega)
/-- the slot in front goes to slot i -/
theorem Mt.mv (m : Mt K Ts H A O (s :: ρ) (o :: σ)) (hi : i < ρ.length) : ∃ O', Mt K Ts H A O' (ρ.set i s) (σ.set i o) ∧ Tr A O H A O' H := by
  obtain ⟨g, m⟩ := m
  have m0 := m.at_ 0 s o rfl rfl
  have ml : ρ.length = σ.length := by have := m.len; rw [List.length_cons, List.length_cons] at this; omega
  have hO : ∀ b, O b ∧ b ∉ g (i + 1) → O b := fun b z => z.1
  have cut : ∀ {x : Sl} {y : Option V} {R : List Addr}, SlAt K H A O x y R → SlAt K H A (fun b => O b ∧ b ∉ g (i + 1)) x y R := fun h => h.gen m.sub (fun _ _ e _ _ => e) (fun _ _ _ _ z => z) fun b u e z q => z q.1
  refine ⟨fun b => O b ∧ b ∉ g (i + 1), ⟨fun j => if j = i then g 0 else g (j + 1), m.tab, fun b h => m.sub b h.1, m.trk, by rw [List.length_set, List.length_set, ml], fun j x y e1 e2 => ?_, fun j => ?_, fun j k b h1 h2 => ?_, fun b => ?_, fun j hj => ?_⟩, ⟨Kp.refl, fun _ h => .inl h, fun _ h _ => h, fun _ h => .inl h.1⟩⟩
  · by_cases hij : j = i
    · subst hij
      rw [List.getElem?_set_self hi] at e1
      rw [List.getElem?_set_self (by rw [← ml]; exact hi)] at e2
      cases e1
      cases e2
      rw [if_pos rfl]
      exact cut m0
    · rw [getElem?_set_ne' (fun z => hij z.symm)] at e1 e2
      rw [if_neg hij]
      exact cut (m.at_ (j + 1) x y e1 e2)
  · split
    · exact m.nod 0
    · exact m.nod _
  · by_cases hj : j = i
    · rw [if_pos hj] at h1
      by_cases hk : k = i
      · rw [hj, hk]
      · rw [if_neg hk] at h2
        exact absurd (m.dis 0 (k + 1) b h1 h2) (by omega)
    · rw [if_neg hj] at h1
      by_cases hk : k = i
      · rw [if_pos hk] at h2
        exact absurd (m.dis 0 (j + 1) b h2 h1) (by omega)
      · rw [if_neg hk] at h2
        have := m.dis (j + 1) (k + 1) b h1 h2
        omega
  · constructor
    · rintro ⟨h, n⟩
      obtain ⟨j, hj⟩ := (m.all b).mp h
      cases j with
      | zero => exact ⟨i, by rw [if_pos rfl]; exact hj⟩
      | succ j => exact ⟨j, by rw [if_neg fun z => n (by rw [← z]; exact hj)]; exact hj⟩
    · rintro ⟨j, hj⟩
      split at hj
      · exact ⟨m.mine hj, fun c => absurd (m.dis 0 (i + 1) b hj c) (by omega)⟩
      · rename_i n
        exact ⟨m.mine hj, fun c => n (by have := m.dis (j + 1) (i + 1) b hj c; omega)⟩
  · rw [List.length_set] at hj
    rw [if_neg (by omega)]
    exact m.out (j + 1) (by rw [List.length_cons]; omega)
/-- data in front -/
theorem Mt.consVa {v : V} (m : Mt K Ts H A O ρ σ) (r : Rp K H A d v) : Mt K Ts H A O (Sl.va d :: ρ) (some v :: σ) := by
  obtain ⟨g, m⟩ := m
  refine ⟨consG [] g, m.tab, m.sub, m.trk, by rw [List.length_cons, List.length_cons, m.len], fun j x y e1 e2 => ?_, fun j => ?_, fun j k b h1 h2 => ?_, fun b => ?_, fun j hj => ?_⟩
  · cases j with
    | zero => cases e1; cases e2; exact ⟨_, rfl, rfl, r⟩
    | succ j => exact m.at_ j x y e1 e2
  · cases j with
    | zero => exact List.nodup_nil
    | succ j => exact m.nod j
  · cases j with
    | zero => cases h1
    | succ j =>
      cases k with
      | zero => cases h2
      | succ k => rw [m.dis j k b h1 h2]
  · rw [m.all]
    constructor
    · rintro ⟨j, hj⟩; exact ⟨j + 1, hj⟩
    · rintro ⟨j, hj⟩
      cases j with
      | zero => cases hj
      | succ j => exact ⟨j, hj⟩
  · cases j with
    | zero => rfl
    | succ j => exact m.out j (by rw [List.length_cons] at hj; omega)
/-- the slot in front is dropped -/
theorem Mt.uncons (m : Mt K Ts H A O (s :: ρ) (o :: σ)) : ∃ O', Mt K Ts H A O' ρ σ ∧ Tr A O H A O' H := by
  obtain ⟨g, m⟩ := m
  refine ⟨fun b => O b ∧ b ∉ g 0, ⟨fun j => g (j + 1), m.tab, fun b h => m.sub b h.1, m.trk, by have := m.len; rw [List.length_cons, List.length_cons] at this; omega, fun j x y e1 e2 => (m.at_ (j + 1) x y e1 e2).gen m.sub (fun _ _ e _ _ => e) (fun _ _ _ _ z => z) fun b u e z q => z q.1, fun j => m.nod _, fun j k b h1 h2 => by have := m.dis _ _ b h1 h2; omega, fun b => ?_, fun j hj => m.out _ (by rw [List.length_cons]; omega)⟩, ⟨Kp.refl, fun _ h => .inl h, fun _ h _ => h, fun _ h => .inl h.1⟩⟩
  constructor
  · rintro ⟨h, n⟩
    obtain ⟨j, hj⟩ := (m.all b).mp h
    cases j with
    | zero => exact absurd hj n
    | succ j => exact ⟨j, hj⟩
  · rintro ⟨j, hj⟩
    exact ⟨m.mine hj, fun c => absurd (m.dis (j + 1) 0 b hj c) (by omega)⟩
/-- where the slots are as they were, what is kept apart is so still -/
theorem Mt.stay (m : Mt K Ts H A O ρ σ) (t : Tr A O H A' O' H') (s : Sm H H') (m' : Mt K Ts H' A' O' ρ σ) : ∀ b, A b → A' b := fun b hb => by
  by_cases hO : O b
  · obtain ⟨g, m⟩ := m
    obtain ⟨g', m'⟩ := m'
    obtain ⟨i, hi⟩ := (m.all b).mp hO
    have hl : i < ρ.length := by
      by_cases hl : i < ρ.length
      · exact hl
      · rw [m.out i (by omega)] at hi; cases hi
    obtain ⟨o, e, h⟩ := m.get (List.getElem?_eq_getElem hl)
    have h' := m'.at_ i _ o (List.getElem?_eq_getElem hl) e
    rw [h.det s h'] at hi
    exact m'.sub b (m'.mine hi)
  · exact t.old b hb hO
/-! ### given away -/
def fdD : Fd → D
  | .va d => d
  | .ow ds => .lst ds
  | .od kvs => .dct (kvs.map (·.1)) (kvs.map (·.2))
  | .ot _ => .non
  | .tq ds => .tup ds
def slD : Sl → D
  | .va d => d
  | .ow ds => .lst ds
  | .od kvs => .dct (kvs.map (·.1)) (kvs.map (·.2))
  | .ob _ C fs => .ins C (fs.map (·.1)) (fs.map fun f => fdD f.2)
  | _ => .non
def fdFr : Fd → Bool
  | .ot _ => false
  | _ => true
def slFr : Sl → Bool
  | .va _ => true
  | .ow _ => true
  | .od _ => true
  | .ob _ _ fs => fs.all fun f => fdFr f.2
  | _ => false
theorem FdAt.frz {f : Fd} {v : V} {R : List Addr} (hf : fdFr f = true) (n : ∀ b, A' b → A b) (q : ∀ b ∈ R, ¬ A' b) (h : FdAt K H A f v R) : Rp K H A' (fdD f) v := by
  cases f with
  | va d => exact h.2.less n
  | ow ds =>
    obtain ⟨a, vs, e1, e2, e3, r⟩ := h
    unfold fdD Rp
    exact ⟨a, vs, e1, e3, q a (by rw [e2]; exact List.mem_singleton.mpr rfl), r.less n⟩
  | od kvs =>
    obtain ⟨a, vs, e1, e2, e3, r⟩ := h
    unfold fdD Rp
    exact ⟨a, vs, e1, e3, q a (by rw [e2]; exact List.mem_singleton.mpr rfl), by rw [List.length_map, ← r.len, List.length_map], r.less n⟩
  | ot kvs => cases hf
  | tq ds =>
    obtain ⟨_, a, o, vs, e1, e3, _, r⟩ := h
    unfold fdD Rp
    exact ⟨a, vs, e1, .inl (.inr ⟨o, e3⟩), r.less n⟩
theorem FsAt.frz : ∀ {fs : List (Str × Fd)} {ws : List (Str × V)} {R : List Addr}, (fs.all fun f => fdFr f.2) = true → (∀ b, A' b → A b) → (∀ b ∈ R, ¬ A' b) → FsAt K H A fs ws R → ∃ vs, ws = (fs.map (·.1)).zip vs ∧ fs.length = vs.length ∧ RpL K H A' (fs.map fun f => fdD f.2) vs
  | [], ws, R, _, _, _, h => ⟨[], by rw [h.1]; rfl, rfl, RpL.nil⟩
  | (m, f) :: t, ws, R, hf, n, q, h => by
    obtain ⟨v, u, R1, R2, e1, e2, h1, h2⟩ := h
    rw [List.all_cons, Bool.and_eq_true] at hf
    obtain ⟨vs, e3, e4, r⟩ := FsAt.frz hf.2 n (fun b hb => q b (by rw [e2]; exact List.mem_append_right _ hb)) h2
    exact ⟨v :: vs, by rw [e1, e3]; rfl, by rw [List.length_cons, List.length_cons, e4], RpL.cons (h1.frz hf.1 n fun b hb => q b (by rw [e2]; exact List.mem_append_left _ hb)) r⟩
theorem SlAt.frz {R : List Addr} (hf : slFr s = true) (n : ∀ b, A' b → A b) (q : ∀ b ∈ R, ¬ A' b) (h : SlAt K H A O s o R) : ∃ v, o = some v ∧ Rp K H A' (slD s) v := by
  unfold SlAt at h
  cases s with
  | va d => obtain ⟨v, e, _, r⟩ := h; exact ⟨v, e, r.less n⟩
  | ow ds => obtain ⟨v, e, h⟩ := h; exact ⟨v, e, h.frz rfl n q⟩
  | od ds => obtain ⟨v, e, h⟩ := h; exact ⟨v, e, h.frz rfl n q⟩
  | ob a C fs =>
    obtain ⟨v, e, dx, ws, R1, e1, e2, e3, r⟩ := h
    obtain ⟨vs, e4, e5, r⟩ := r.frz hf n fun b hb => q b (by rw [e2]; exact List.mem_cons_of_mem _ hb)
    refine ⟨v, e, ?_⟩
    unfold slD Rp
    exact ⟨a, dx, vs, e1, by rw [e3, e4], q a (by rw [e2]; exact List.mem_cons_self), by rw [List.length_map]; exact e5, r⟩
  | no => cases hf
  | ot _ => cases hf
  | rl _ => cases hf
  | rd _ => cases hf
  | ro _ _ _ => cases hf
/-- a slot's own things become data -/
theorem Mt.frz (m : Mt K Ts H A O ρ σ) (hi : ρ[i]? = some s) (hf : slFr s = true) : ∃ v A' O', σ[i]? = some (some v) ∧ Mt K Ts H A' O' (ρ.set i (.va (slD s))) σ ∧ Rp K H A' (slD s) v ∧ Tr A O H A' O' H ∧ ∀ b, A' b → A b := by
  obtain ⟨g, m⟩ := m
  have hl : i < ρ.length := (List.getElem?_eq_some_iff.mp hi).1
  obtain ⟨o, e, h⟩ := m.get hi
  obtain ⟨v, rfl, r⟩ := h.frz (A' := fun b => A b ∧ b ∉ g i) hf (fun b z => z.1) fun b hb z => z.2 hb
  obtain ⟨m2, t⟩ := m.chg hl (H' := H) (A' := fun b => A b ∧ b ∉ g i) (s := .va (slD s)) (o := some v) (R' := []) (fun _ h => h) (fun _ _ e _ _ => e) (fun _ e => e) (fun _ _ _ _ z q => z q.1) (fun _ h => .inl h.1) (fun _ h n => ⟨h, n⟩) (fun b h => m.trk b h.1) (fun b hb => by cases hb) (fun b hb => by cases hb) List.nodup_nil ⟨v, rfl, rfl, r⟩
  have e2 : σ.set i (some v) = σ := by
    rw [List.getElem?_eq_some_iff] at e
    obtain ⟨h1, h2⟩ := e
    rw [← h2]
    exact List.set_getElem_self h1
  rw [e2] at m2
  exact ⟨v, _, _, e, ⟨_, m2⟩, r, t, fun b z => z.1⟩
/-- what stands in front becomes data -/
theorem Mt.frz0 {v : V} (m : Mt K Ts H A O (s :: ρ) (some v :: σ)) (hf : slFr s = true) : ∃ A' O', Mt K Ts H A' O' ρ σ ∧ Rp K H A' (slD s) v ∧ Tr A O H A' O' H ∧ ∀ b, A' b → A b := by
  obtain ⟨v', A', O', e, m2, r, t, n⟩ := m.frz (i := 0) rfl hf
  cases e
  obtain ⟨O2, m3, t3⟩ := Mt.uncons m2
  exact ⟨A', O2, m3, r, t.trans t3 m.trk, n⟩
end
end DL

-- part DL2
set_option Elab.async false
set_option linter.all false
set_option maxRecDepth 100000
set_option maxHeartbeats 2000000
/-! readings over data; names, constants, operators, tests, blocks -/
namespace DL
open PySem PySem.Spec PyProof.Rows L2 GxR GS GA GD
/-- sh: shared, fr: a new list, bo: lent (a list of one's own that is only looked at) -/
inductive Kd where | sh | fr | bo
/-- an exception: its class, its field -/
structure Xc where
  cls : Str
  arg : Option (Str × D)
abbrev XF := Xc → List Sl → Prop
abbrev DE := XF → List Sl → (D → Kd → List Sl → Prop) → Prop
abbrev DA := XF → List Sl → (List D → List Sl → Prop) → Prop
abbrev DT := XF → List Sl → (Bool → List Sl → Prop) → Prop
structure DN where
  nx : List Sl → Prop
  rt : Sl → List Sl → Prop
  bk : List Sl → Prop
  ct : List Sl → Prop
abbrev DS := XF → DN → List Sl → Prop
/-- as Rp, but the list itself may be kept apart -/
def Wk (K : PySem.W.Frag) (H : Hp) (A : AP) (d : D) (v : V) : Prop := match d with
  | .lst ds => ∃ a vs, v = .ref a ∧ H a = some (.lst vs) ∧ RpL K H A ds vs
  | .dct ks ds => ∃ a vs, v = .ref a ∧ H a = some (.dK (ks.zip vs)) ∧ ks.length = vs.length ∧ RpL K H A ds vs
  | d => Rp K H A d v
/-- what a value is as a slot: a new list, a new dict is one's own -/
def slOf : D → Kd → Sl
  | .lst ds, .fr => .ow ds
  | .dct ks ds, .fr => .od (ks.zip ds)
  | d, _ => .va d
def frOk : D → Prop
  | .lst _ => True
  | .dct ks ds => ks.length = ds.length
  | _ => False
def Rs (K : PySem.W.Frag) (Ts : AP) (H H' : Hp) (A O : AP) (ρ : List Sl) (σ : L2.St) (κ : Kd) (d : D) (v : V) : Prop := match κ with
  | .sh => Rp K H' A d v
  | .bo => Wk K H' A d v
  | .fr => frOk d ∧ ∃ p, v = .ref p ∧ H p = none ∧ ¬ A p ∧ Mt K Ts H' (fun b => A b ∨ b = p) (fun b => O b ∨ b = p) (slOf d .fr :: ρ) (some v :: σ)
/-- what an exception bears -/
def XR (K : PySem.W.Frag) (H : Hp) (A : AP) (x : Xc) (cls : Value) (od : Option Addr) : Prop :=
  cls = .ref (He.ga K x.cls) ∧ match x.arg with
  | none => od = none
  | some (f, d) => ∃ a v, od = some a ∧ H a = some (.xd [(f, v)]) ∧ Rp K H A d v
structure Cn (K : PySem.W.Frag) (Ts : AP) (W : WX) (σ : L2.St) (H : Hp) (A O : AP) (X : XF) (Qd : D → Kd → List Sl → Prop) (Q : VK) : Prop where
  q : ∀ d κ ρ' v H' A' O', Qd d κ ρ' → Sm H H' → Tr A O H A' O' H' → Mt K Ts H' A' O' ρ' σ → Rs K Ts H H' A' O' ρ' σ κ d v → Q v H'
  x : ∀ x ρ' cls od H' A' O', X x ρ' → Tr A O H A' O' H' → Mt K Ts H' A' O' ρ' σ → XR K H' A' x cls od → W cls od σ H'
def upE (K : PySem.W.Frag) (Ts : AP) (W : WX) (t : DE) : TE := fun σ H Q => ∃ A O ρ X Qd, Mt K Ts H A O ρ σ ∧ t X ρ Qd ∧ Cn K Ts W σ H A O X Qd Q
structure CnB (K : PySem.W.Frag) (Ts : AP) (W : WX) (σ : L2.St) (H : Hp) (A O : AP) (X : XF) (Qd : Bool → List Sl → Prop) (Q : Bool → Hp → Prop) : Prop where
  q : ∀ b ρ' H' A' O', Qd b ρ' → Sm H H' → Tr A O H A' O' H' → Mt K Ts H' A' O' ρ' σ → Q b H'
  x : ∀ x ρ' cls od H' A' O', X x ρ' → Tr A O H A' O' H' → Mt K Ts H' A' O' ρ' σ → XR K H' A' x cls od → W cls od σ H'
def upT (K : PySem.W.Frag) (Ts : AP) (W : WX) (t : DT) : TT := fun σ H Q => ∃ A O ρ X Qd, Mt K Ts H A O ρ σ ∧ t X ρ Qd ∧ CnB K Ts W σ H A O X Qd Q
structure CnA (K : PySem.W.Frag) (Ts : AP) (W : WX) (σ : L2.St) (H : Hp) (A O : AP) (X : XF) (Qd : List D → List Sl → Prop) (Q : List V → Hp → Prop) : Prop where
  q : ∀ ds ρ' vs H' A' O', Qd ds ρ' → Sm H H' → Tr A O H A' O' H' → Mt K Ts H' A' O' ρ' σ → RpL K H' A' ds vs → Q vs H'
  x : ∀ x ρ' cls od H' A' O', X x ρ' → Tr A O H A' O' H' → Mt K Ts H' A' O' ρ' σ → XR K H' A' x cls od → W cls od σ H'
def upA (K : PySem.W.Frag) (Ts : AP) (W : WX) (t : DA) : TA := fun σ H Q => ∃ A O ρ X Qd, Mt K Ts H A O ρ σ ∧ t X ρ Qd ∧ CnA K Ts W σ H A O X Qd Q
structure CnS (K : PySem.W.Frag) (Ts : AP) (W : WX) (H : Hp) (A O : AP) (X : XF) (N : DN) (E : Ends) : Prop where
  nx : ∀ ρ' σ' H' A' O', N.nx ρ' → Tr A O H A' O' H' → Mt K Ts H' A' O' ρ' σ' → E.nx σ' H'
  bk : ∀ ρ' σ' H' A' O', N.bk ρ' → Tr A O H A' O' H' → Mt K Ts H' A' O' ρ' σ' → E.bk σ' H'
  ct : ∀ ρ' σ' H' A' O', N.ct ρ' → Tr A O H A' O' H' → Mt K Ts H' A' O' ρ' σ' → E.ct σ' H'
  rt : ∀ s ρ' v σ' H' A' O', N.rt s ρ' → Tr A O H A' O' H' → Mt K Ts H' A' O' (s :: ρ') (some v :: σ') → E.rt v H'
  x : ∀ x ρ' cls od σ' H' A' O', X x ρ' → Tr A O H A' O' H' → Mt K Ts H' A' O' ρ' σ' → XR K H' A' x cls od → W cls od σ' H'
def upS (K : PySem.W.Frag) (Ts : AP) (W : WX) (t : DS) : TS := fun E σ H => ∃ A O ρ X N, Mt K Ts H A O ρ σ ∧ t X N ρ ∧ CnS K Ts W H A O X N E

theorem _root_.L2.PE.imp {X : Cx} {e : Expr} {t t' : TE} (h : PE X e t) (i : ∀ σ H Q, t' σ H Q → t σ H Q) : PE X e t' := ⟨fun pins s σ H Q I q => h.run pins s σ H Q I (i σ H Q q)⟩
theorem _root_.L2.PT.imp {X : Cx} {e : Expr} {t t' : TT} (h : PT X e t) (i : ∀ σ H Q, t' σ H Q → t σ H Q) : PT X e t' := ⟨fun pins s σ H Q I q => h.run pins s σ H Q I (i σ H Q q)⟩
theorem _root_.L2.PW.imp {X : Cx} {e : Expr} {t t' : TT} (h : PW X e t) (i : ∀ σ H Q, t' σ H Q → t σ H Q) : PW X e t' := ⟨fun wh pins s σ H Q I q => h.run wh pins s σ H Q I (i σ H Q q)⟩
theorem _root_.L2.PA.imp {X : Cx} {e : List Expr} {t t' : TA} (h : PA X e t) (i : ∀ σ H Q, t' σ H Q → t σ H Q) : PA X e t' := ⟨fun pos pins s σ H Q I q => h.run pos pins s σ H Q I (i σ H Q q)⟩
theorem _root_.L2.PS.imp {X : Cx} {e : Stmt} {t t' : TS} (h : PS X e t) (i : ∀ D σ H, t' D σ H → t D σ H) : PS X e t' := ⟨fun pins s σ H D I q => h.run pins s σ H D I (i D σ H q)⟩
theorem _root_.L2.PSs.imp {X : Cx} {e : List Stmt} {t t' : TS} (h : PSs X e t) (i : ∀ D σ H, t' D σ H → t D σ H) : PSs X e t' := ⟨fun pins s σ H D I q => h.run pins s σ H D I (i D σ H q)⟩

section
variable {K : PySem.W.Frag} {Ts : AP} {W : WX} {σ : L2.St} {H H1 H' : Hp} {A O A1 O1 A' O' : AP} {X : XF} {ρ : List Sl} {Q : VK} {Qd : D → Kd → List Sl → Prop} {d : D} {v : V} {κ : Kd}
theorem Wk.of (h : Rp K H A d v) : Wk K H A d v := by
  unfold Wk
  split
  · unfold Rp at h
    obtain ⟨a, vs, e, r, _, t⟩ := h
    exact ⟨a, vs, e, r, t⟩
  · unfold Rp at h
    obtain ⟨a, vs, e, r, _, l, t⟩ := h
    exact ⟨a, vs, e, r, l, t⟩
  · exact h
theorem Wk.tr (h : Wk K H A d v) (s : Sm H H') (t : Tr A O H A' O' H') (hO : ∀ b, O b → A b) : Wk K H' A' d v := by
  unfold Wk at h ⊢
  split at h
  · obtain ⟨a, vs, e, r, q⟩ := h
    exact ⟨a, vs, e, s.st a _ r (fun _ z => by cases z), q.tr t hO⟩
  · obtain ⟨a, vs, e, r, l, q⟩ := h
    exact ⟨a, vs, e, s.st a _ r (fun _ z => by cases z), l, q.tr t hO⟩
  · exact h.tr t hO
theorem slFr_of {κ : Kd} : slFr (slOf d κ) = true := by
  unfold slOf
  split <;> rfl
theorem zip_fst {α β : Type} : ∀ {ks : List α} {ds : List β}, ks.length = ds.length → (ks.zip ds).map (·.1) = ks
  | [], [], _ => rfl
  | k :: r, d :: t, h => by rw [List.zip_cons_cons, List.map_cons, zip_fst (by simpa using h)]
  | [], _ :: _, h => by cases h
  | _ :: _, [], h => by cases h
theorem zip_snd {α β : Type} : ∀ {ks : List α} {ds : List β}, ks.length = ds.length → (ks.zip ds).map (·.2) = ds
  | [], [], _ => rfl
  | k :: r, d :: t, h => by rw [List.zip_cons_cons, List.map_cons, zip_snd (by simpa using h)]
  | [], _ :: _, h => by cases h
  | _ :: _, [], h => by cases h
theorem slD_fr (h : frOk d) : slD (slOf d .fr) = d := by
  unfold frOk at h
  split at h
  · rfl
  · show D.dct _ _ = _
    rw [zip_fst h, zip_snd h]
  · exact h.elim
theorem slD_of {κ : Kd} (h : κ = .fr → frOk d) : slD (slOf d κ) = d := by
  cases κ with
  | fr => exact slD_fr (h rfl)
  | sh => unfold slOf; split <;> first | rfl | contradiction
  | bo => unfold slOf; split <;> first | rfl | contradiction
theorem Rs.frz (h : Rs K Ts H H' A O ρ σ .fr d v) : Rp K H' A d v := by
  obtain ⟨ok, p, e, hp, nA, m⟩ := h
  obtain ⟨g, mg⟩ := m
  have h0 := mg.at_ 0 _ _ rfl rfl
  have r0 : ∀ b ∈ g 0, b = p := by
    intro b hb
    unfold frOk at ok
    split at ok
    · obtain ⟨v2, e1, a, vs, e2, e3, _⟩ := h0; cases e1; rw [e] at e2; cases e2; rw [e3] at hb; exact List.mem_singleton.mp hb
    · obtain ⟨v2, e1, a, vs, e2, e3, _⟩ := h0; cases e1; rw [e] at e2; cases e2; rw [e3] at hb; exact List.mem_singleton.mp hb
    · exact ok.elim
  obtain ⟨v2, e2, r⟩ := h0.frz (A' := A) slFr_of (fun b z => .inl z) fun b hb z => nA (r0 b hb ▸ z)
  cases e2
  rw [slD_fr ok] at r
  exact r
theorem Rs.wk (h : Rs K Ts H H' A O ρ σ κ d v) : Wk K H' A d v := by
  cases κ with
  | sh => exact Wk.of h
  | bo => exact h
  | fr => exact Wk.of (Rs.frz h)
theorem Rs.rp (h : Rs K Ts H H' A O ρ σ κ d v) (n : κ ≠ .bo) : Rp K H' A d v := by
  cases κ with
  | sh => exact h
  | bo => exact absurd rfl n
  | fr => exact Rs.frz h
/-- the value in front of the slots -/
theorem Rs.cons (h : Rs K Ts H H' A O ρ σ κ d v) (n : κ ≠ .bo) (m : Mt K Ts H' A O ρ σ) : ∃ A2 O2, Mt K Ts H' A2 O2 (slOf d κ :: ρ) (some v :: σ) ∧ (∀ b, A2 b → A b ∨ H b = none) ∧ (∀ b, A b → A2 b) ∧ (∀ b, O2 b → O b ∨ H b = none) := by
  cases κ with
  | sh =>
    have e : slOf d .sh = .va d := by cases d <;> rfl
    rw [e]
    exact ⟨A, O, m.consVa h, fun _ h => .inl h, fun _ h => h, fun _ h => .inl h⟩
  | bo => exact absurd rfl n
  | fr =>
    obtain ⟨ok, p, e, hp, nA, m⟩ := h
    exact ⟨_, _, m, fun b z => z.imp id fun q => by rw [q]; exact hp, fun b z => .inl z, fun b z => z.imp id fun q => by rw [q]; exact hp⟩
theorem Rs.back (s : Sm H H1) (h : Rs K Ts H1 H' A O ρ σ κ d v) : Rs K Ts H H' A O ρ σ κ d v := by
  unfold Rs at h ⊢
  split at h
  · exact h
  · exact h
  · obtain ⟨ok, p, e2, e3, r⟩ := h
    exact ⟨ok, p, e2, s.fr _ e3, r⟩
theorem Cn.move (c : Cn K Ts W σ H A O X Qd Q) (s : Sm H H1) (t : Tr A O H A1 O1 H1) (m : Mt K Ts H A O ρ σ) : Cn K Ts W σ H1 A1 O1 X Qd Q where
  q := fun d κ ρ' v H' A' O' h s' t' m' r => c.q d κ ρ' v H' A' O' h (s.trans s') (t.trans t' m.trk) m' (r.back s)
  x := fun x ρ' cls od H' A' O' h t' m' r => c.x x ρ' cls od H' A' O' h (t.trans t' m.trk) m' r
theorem CnB.move {Qd : Bool → List Sl → Prop} {Q : Bool → Hp → Prop} (c : CnB K Ts W σ H A O X Qd Q) (s : Sm H H1) (t : Tr A O H A1 O1 H1) (m : Mt K Ts H A O ρ σ) : CnB K Ts W σ H1 A1 O1 X Qd Q where
  q := fun b ρ' H' A' O' h s' t' m' => c.q b ρ' H' A' O' h (s.trans s') (t.trans t' m.trk) m'
  x := fun x ρ' cls od H' A' O' h t' m' r => c.x x ρ' cls od H' A' O' h (t.trans t' m.trk) m' r
theorem CnA.move {Qd : List D → List Sl → Prop} {Q : List V → Hp → Prop} (c : CnA K Ts W σ H A O X Qd Q) (s : Sm H H1) (t : Tr A O H A1 O1 H1) (m : Mt K Ts H A O ρ σ) : CnA K Ts W σ H1 A1 O1 X Qd Q where
  q := fun b ρ' v H' A' O' h s' t' m' r => c.q b ρ' v H' A' O' h (s.trans s') (t.trans t' m.trk) m' r
  x := fun x ρ' cls od H' A' O' h t' m' r => c.x x ρ' cls od H' A' O' h (t.trans t' m.trk) m' r
theorem CnS.move {N : DN} {E : Ends} (c : CnS K Ts W H A O X N E) (t : Tr A O H A1 O1 H1) (m : Mt K Ts H A O ρ σ) : CnS K Ts W H1 A1 O1 X N E where
  nx := fun ρ' σ' H' A' O' h t' m' => c.nx ρ' σ' H' A' O' h (t.trans t' m.trk) m'
  bk := fun ρ' σ' H' A' O' h t' m' => c.bk ρ' σ' H' A' O' h (t.trans t' m.trk) m'
  ct := fun ρ' σ' H' A' O' h t' m' => c.ct ρ' σ' H' A' O' h (t.trans t' m.trk) m'
  rt := fun s ρ' v σ' H' A' O' h t' r => c.rt s ρ' v σ' H' A' O' h (t.trans t' m.trk) r
  x := fun x ρ' cls od σ' H' A' O' h t' m' r => c.x x ρ' cls od σ' H' A' O' h (t.trans t' m.trk) m' r
/-- the value is shared, the heap may have grown -/
theorem Cn.sh (c : Cn K Ts W σ H A O X Qd Q) (m : Mt K Ts H A O ρ σ) (s : Sm H H') (h : Qd d .sh ρ) (r : Rp K H' A d v) : Q v H' := c.q d .sh ρ v H' A O h s (Tr.of s) (m.sm s) r
theorem Cn.flat (c : Cn K Ts W σ H A O X Qd Q) (m : Mt K Ts H A O ρ σ) (h : Qd d .sh ρ) (r : Rp K H A d v) : Q v H := c.sh m Sm.refl h r
/-- the value is a new list -/
theorem Cn.fr {ds : List D} {p : Addr} {vs : List V} (c : Cn K Ts W σ H A O X Qd Q) (m : Mt K Ts H A O ρ σ) (hp : H p = none) (h : Qd (.lst ds) .fr ρ) (r : RpL K H A ds vs) : Q (.ref p) (upd H p (.lst vs)) := by
  have s := Sm.new (o := .lst vs) hp
  refine c.q _ .fr ρ _ _ A O h s (Tr.of s) (m.sm s) ⟨trivial, p, rfl, hp, fun z => m.trk p z hp, m.fr hp s upd_same ((r.fresh hp).sm s)⟩
theorem CnB.fin {Qd : Bool → List Sl → Prop} {Q : Bool → Hp → Prop} {b : Bool} (c : CnB K Ts W σ H A O X Qd Q) (m : Mt K Ts H A O ρ σ) (s : Sm H H') (h : Qd b ρ) : Q b H' := c.q b ρ H' A O h s (Tr.of s) (m.sm s)
end

/-! ### names and constants -/
section
variable {X : Cx} {Ts : AP} {W : WX} {i : Nat} {x : Str} {pos : Pos}
/-- a name's value -/
def dVar (i : Nat) : DE := fun _ ρ Q => match ρ[i]? with
  | some (.va d) => Q d .sh ρ
  | some (.ow ds) => Q (.lst ds) .sh (ρ.set i (.va (.lst ds)))
  | some (.od kvs) => Q (slD (.od kvs)) .sh (ρ.set i (.va (slD (.od kvs))))
  | some (.ob a C fs) => slFr (.ob a C fs) = true ∧ Q (slD (.ob a C fs)) .sh (ρ.set i (.va (slD (.ob a C fs))))
  | _ => False
/-- .. looked at -/
def dVarB (i : Nat) : DE := fun _ ρ Q => match ρ[i]? with
  | some (.va d) => Q d .sh ρ
  | some (.ow ds) => Q (.lst ds) .bo ρ
  | some (.rl ds) => Q (.lst ds) .bo ρ
  | some (.od kvs) => Q (slD (.od kvs)) .bo ρ
  | some (.rd kvs) => Q (slD (.od kvs)) .bo ρ
  | _ => False
theorem de_var (hN : X.N[i]? = some x) (hv : Vis X.env.scope x) (hd : (x == ("__debug__" : Str)) = false := by decide) (hcd : (x == ("__classdict__" : Str)) = false := by decide) : PE X (.Name x pos) (upE X.K Ts W (dVar i)) := by
  refine (pe_var hN hv hd hcd).imp fun σ H Q h => ?_
  obtain ⟨A, O, ρ, Xf, Qd, m, h, c⟩ := h
  have go : ∀ {s : Sl}, ρ[i]? = some s → slFr s = true → Qd (slD s) .sh (ρ.set i (.va (slD s))) → ∃ v, σ[i]? = some (some v) ∧ Q v H := fun e hf h => by
    obtain ⟨v, A', O', e2, m2, r, t, _⟩ := m.frz e hf
    exact ⟨v, e2, c.q _ .sh _ _ H _ _ h Sm.refl t m2 r⟩
  unfold dVar at h
  split at h
  · rename_i d e
    obtain ⟨v, h1, h2⟩ := m.va i d e
    exact ⟨v, h1, c.flat m h h2⟩
  · rename_i ds e
    exact go e rfl h
  · rename_i ds e
    exact go e rfl h
  · rename_i a C fs e
    exact go e h.1 h.2
  · exact h.elim
theorem de_varB (hN : X.N[i]? = some x) (hv : Vis X.env.scope x) (hd : (x == ("__debug__" : Str)) = false := by decide) (hcd : (x == ("__classdict__" : Str)) = false := by decide) : PE X (.Name x pos) (upE X.K Ts W (dVarB i)) := by
  refine (pe_var hN hv hd hcd).imp fun σ H Q h => ?_
  obtain ⟨A, O, ρ, Xf, Qd, m, h, c⟩ := h
  unfold dVarB at h
  split at h
  · rename_i d e
    obtain ⟨v, h1, h2⟩ := m.va i d e
    exact ⟨v, h1, c.flat m h h2⟩
  · rename_i ds e
    obtain ⟨a, vs, h1, h2, h3, h4⟩ := m.ow i ds e
    exact ⟨_, h1, c.q _ .bo _ _ H _ _ h Sm.refl Tr.refl m ⟨a, vs, rfl, h3, h4⟩⟩
  · rename_i ds e
    obtain ⟨a, vs, h1, h2, h3, h4⟩ := m.rl i ds e
    exact ⟨_, h1, c.q _ .bo _ _ H _ _ h Sm.refl Tr.refl m ⟨a, vs, rfl, h3, h4⟩⟩
  · rename_i kvs e
    obtain ⟨a, vs, h1, h2, h3, h4⟩ := m.od i kvs e
    exact ⟨_, h1, c.q _ .bo _ _ H _ _ h Sm.refl Tr.refl m ⟨a, vs, rfl, h3, by rw [← h4.len, List.length_map, List.length_map], h4⟩⟩
  · rename_i kvs e
    obtain ⟨a, vs, h1, h2, h3, h4⟩ := m.rd i kvs e
    exact ⟨_, h1, c.q _ .bo _ _ H _ _ h Sm.refl Tr.refl m ⟨a, vs, rfl, h3, by rw [← h4.len, List.length_map, List.length_map], h4⟩⟩
  · exact h.elim
/-- a value that is known -/
def dC (d : D) : DE := fun _ ρ Q => Q d .sh ρ
theorem de_int {n : Int} {j pos} : PE X (.Constant (.int n) j pos) (upE X.K Ts W (dC (.int n))) := pe_int.imp fun σ H Q ⟨A, O, ρ, Xf, Qd, m, h, c⟩ => c.flat m h (by unfold Rp; rfl)
theorem de_bl {n : Bool} {j pos} : PE X (.Constant (.bool n) j pos) (upE X.K Ts W (dC (.bl n))) := pe_bl.imp fun σ H Q ⟨A, O, ρ, Xf, Qd, m, h, c⟩ => c.flat m h (by unfold Rp; rfl)
theorem de_non {j pos} : PE X (.Constant .none j pos) (upE X.K Ts W (dC .non)) := pe_non.imp fun σ H Q ⟨A, O, ρ, Xf, Qd, m, h, c⟩ => c.flat m h (by unfold Rp; rfl)
theorem de_str {n : Str} {j pos} : PE X (.Constant (.str n) j pos) (upE X.K Ts W (dC (.str n))) := pe_str.imp fun σ H Q ⟨A, O, ρ, Xf, Qd, m, h, c⟩ => c.flat m h (by unfold Rp; rfl)
/-- a constant of the module -/
theorem de_glob {v : V} {u : Value} {d : D} (hg : Gl X x) (hm : X.mg x = some u) (r : RelV v u) (hr : ∀ H A, Rp X.K H A d v) (hd : (x == ("__debug__" : Str)) = false := by decide) : PE X (.Name x pos) (upE X.K Ts W (dC d)) :=
  (pe_glob hg hm r hd).imp fun σ H Q ⟨A, O, ρ, Xf, Qd, m, h, c⟩ => c.flat m h (hr H A)
end

/-! ### operators -/
/-- an operator over data -/
def DOp (X : Cx) (Ts : AP) (f : Value → Value → Sem Value) (g : D → D → (D → Kd → Prop) → Prop) : Prop := ∃ r : R2, OpR X f r ∧
  ∀ (W : WX) (σ : L2.St) (H : Hp) (A O : AP) (ρ : List Sl) (Xf : XF) (Qd : D → Kd → List Sl → Prop) (Q : VK) (d e : D) (v w : V), Wk X.K H A d v → Wk X.K H A e w → Mt X.K Ts H A O ρ σ → Cn X.K Ts W σ H A O Xf Qd Q → g d e (fun z κ => Qd z κ ρ) → r v w H Q
def dBin (g : D → D → (D → Kd → Prop) → Prop) (ta tb : DE) : DE := fun X ρ Q => ta X ρ fun d _ ρ1 => tb X ρ1 fun e _ ρ2 => g d e fun z κ => Q z κ ρ2
section
variable {X : Cx} {Ts : AP} {W : WX} {a b : Expr} {ta tb : DE} {pos : Pos} {g : D → D → (D → Kd → Prop) → Prop}
theorem up_bin {r : R2} (ho : ∀ (W : WX) (σ : L2.St) (H : Hp) (A O : AP) (ρ : List Sl) (Xf : XF) (Qd : D → Kd → List Sl → Prop) (Q : VK) (d e : D) (v w : V), Wk X.K H A d v → Wk X.K H A e w → Mt X.K Ts H A O ρ σ → Cn X.K Ts W σ H A O Xf Qd Q → g d e (fun z κ => Qd z κ ρ) → r v w H Q)
    {σ : L2.St} {H : Hp} {Q : VK} (h : upE X.K Ts W (dBin g ta tb) σ H Q) : tOp r (upE X.K Ts W ta) (upE X.K Ts W tb) σ H Q := by
  obtain ⟨A, O, ρ, Xf, Qd, m, h, c⟩ := h
  refine ⟨A, O, ρ, Xf, _, m, h, fun d κ ρ1 v H1 A1 O1 h1 s1 t1 m1 r1 => ?_, c.x⟩
  have c1 := c.move s1 t1 m
  refine ⟨A1, O1, ρ1, Xf, _, m1, h1, fun e κ2 ρ2 w H2 A2 O2 h2 s2 t2 m2 r2 => ?_, c1.x⟩
  exact ho W σ H2 A2 O2 ρ2 Xf Qd Q d e v w (r1.wk.tr s2 t2 m1.sub) r2.wk m2 (c1.move s2 t2 m1) h2
theorem de_bin {op : Operator} (ho : DOp X Ts (binaryOp op) g) (ha : PE X a (upE X.K Ts W ta)) (hb : PE X b (upE X.K Ts W tb)) : PE X (.BinOp a op b pos) (upE X.K Ts W (dBin g ta tb)) := by
  obtain ⟨r, h1, h2⟩ := ho
  exact (pe_op h1 ha hb).imp fun σ H Q h => up_bin h2 h
theorem de_cmp {op : CmpOp} (ho : DOp X Ts (compareOp op) g) (ha : PE X a (upE X.K Ts W ta)) (hb : PE X b (upE X.K Ts W tb)) (hm : behindInMarks op b = false) : PE X (.Compare a [op] [b] pos) (upE X.K Ts W (dBin g ta tb)) := by
  obtain ⟨r, h1, h2⟩ := ho
  exact (pe_cmpR h1 ha hb hm).imp fun σ H Q h => up_bin h2 h
/-- a test -/
def dTst (t : DE) : DT := fun X ρ Q => t X ρ fun d _ ρ1 => match d with
  | .bl b => Q b ρ1
  | _ => False
theorem up_tst {t : DE} {σ : L2.St} {H : Hp} {Q : Bool → Hp → Prop} (h : upT X.K Ts W (dTst t) σ H Q) : upE X.K Ts W t σ H fun x H1 => ∃ c, x = .bl c ∧ Q c H1 := by
  obtain ⟨A, O, ρ, Xf, Qd, m, h, c⟩ := h
  refine ⟨A, O, ρ, Xf, _, m, h, fun d κ ρ1 v H1 A1 O1 h1 s1 t1 m1 r1 => ?_, c.x⟩
  split at h1
  · rename_i b
    have r2 := r1.wk
    unfold Wk Rp at r2
    exact ⟨b, r2, c.q b ρ1 H1 A1 O1 h1 s1 t1 m1⟩
  · exact h1.elim
theorem dt_cmp {op : CmpOp} (ho : DOp X Ts (compareOp op) g) (ha : PE X a (upE X.K Ts W ta)) (hb : PE X b (upE X.K Ts W tb)) (hm : behindInMarks op b = false) : PT X (.Compare a [op] [b] pos) (upT X.K Ts W (dTst (dBin g ta tb))) := by
  obtain ⟨r, h1, h2⟩ := ho
  refine (pt_cmpR h1 ha hb hm).imp fun σ H Q h => ?_
  have q := up_bin h2 (up_tst h)
  exact q
theorem dt_val {e : Expr} {t : DE} (h : PE X e (upE X.K Ts W t)) (he : ∀ whole, isTrue e X.env whole = (do let v ← whole; standAt e.pos; holding [v] (truthy v)) := by intro _; rfl) : PT X e (upT X.K Ts W (dTst t)) :=
  (pt_val h he).imp fun σ H Q h => up_tst h
/-- a chain a op b op' c -/
def dChain (g g' : D → D → (D → Kd → Prop) → Prop) (ta tb tc : DE) : DT := fun X ρ Q => ta X ρ fun d _ ρ1 => tb X ρ1 fun e _ ρ2 => g d e fun z _ => match z with
  | .bl true => tc X ρ2 fun f _ ρ3 => g' e f fun y _ => match y with
    | .bl b => Q b ρ3
    | _ => False
  | .bl false => Q false ρ2
  | _ => False
def dAnd (t u : DT) : DT := fun X ρ Q => t X ρ fun b ρ1 => if b = true then u X ρ1 Q else Q false ρ1
def dOr (t u : DT) : DT := fun X ρ Q => t X ρ fun b ρ1 => if b = true then Q true ρ1 else u X ρ1 Q
def dNot (t : DT) : DT := fun X ρ Q => t X ρ fun b ρ1 => Q (!b) ρ1
variable {tA tB : DT} {rest : List Expr}
theorem dw_and1 (ha : PT X a (upT X.K Ts W tA)) : PW X (.BoolOp .And [a] pos) (upT X.K Ts W tA) := pw_and1 ha
theorem dw_or1 (ha : PT X a (upT X.K Ts W tA)) : PW X (.BoolOp .Or [a] pos) (upT X.K Ts W tA) := pw_or1 ha
theorem dw_and (ha : PT X a (upT X.K Ts W tA)) (hb : PW X (.BoolOp .And (b :: rest) pos) (upT X.K Ts W tB)) : PW X (.BoolOp .And (a :: b :: rest) pos) (upT X.K Ts W (dAnd tA tB)) := by
  refine (pw_and ha hb).imp fun σ H Q h => ?_
  obtain ⟨A, O, ρ, Xf, Qd, m, h, c⟩ := h
  refine ⟨A, O, ρ, Xf, _, m, h, fun b ρ1 H1 A1 O1 h1 s1 t1 m1 => ?_, c.x⟩
  cases b with
  | true => exact ⟨A1, O1, ρ1, Xf, Qd, m1, h1, c.move s1 t1 m⟩
  | false => exact c.q false ρ1 H1 A1 O1 h1 s1 t1 m1
theorem dw_or (ha : PT X a (upT X.K Ts W tA)) (hb : PW X (.BoolOp .Or (b :: rest) pos) (upT X.K Ts W tB)) : PW X (.BoolOp .Or (a :: b :: rest) pos) (upT X.K Ts W (dOr tA tB)) := by
  refine (pw_or ha hb).imp fun σ H Q h => ?_
  obtain ⟨A, O, ρ, Xf, Qd, m, h, c⟩ := h
  refine ⟨A, O, ρ, Xf, _, m, h, fun b ρ1 H1 A1 O1 h1 s1 t1 m1 => ?_, c.x⟩
  cases b with
  | true => exact c.q true ρ1 H1 A1 O1 h1 s1 t1 m1
  | false => exact ⟨A1, O1, ρ1, Xf, Qd, m1, h1, c.move s1 t1 m⟩
theorem dt_not (ha : PT X a (upT X.K Ts W tA)) : PT X (.UnaryOp .Not a pos) (upT X.K Ts W (dNot tA)) := by
  refine (pt_not ha).imp fun σ H Q h => ?_
  obtain ⟨A, O, ρ, Xf, Qd, m, h, c⟩ := h
  exact ⟨A, O, ρ, Xf, _, m, h, fun b ρ1 H1 A1 O1 h1 s1 t1 m1 => c.q _ ρ1 H1 A1 O1 h1 s1 t1 m1, c.x⟩
/-- and, or, not as values of bools -/
def dAndV (ta tb : DE) : DE := fun X ρ Q => ta X ρ fun d _ ρ1 => match d with
  | .bl true => tb X ρ1 Q
  | .bl false => Q (.bl false) .sh ρ1
  | _ => False
def dOrV (ta tb : DE) : DE := fun X ρ Q => ta X ρ fun d _ ρ1 => match d with
  | .bl true => Q (.bl true) .sh ρ1
  | .bl false => tb X ρ1 Q
  | _ => False
def dNotV (ta : DE) : DE := fun X ρ Q => ta X ρ fun d _ ρ1 => match d with
  | .bl b => Q (.bl (!b)) .sh ρ1
  | _ => False
theorem Rs.bl {K : PySem.W.Frag} {H H' : Hp} {A O : AP} {ρ : List Sl} {σ : L2.St} {κ : Kd} {b : Bool} {v : V} (r : Rs K Ts H H' A O ρ σ κ (.bl b) v) : v = .bl b := by
  have r2 := r.wk
  unfold Wk Rp at r2
  exact r2
theorem de_one {op} {t : DE} (h : PE X a (upE X.K Ts W t)) : PE X (.BoolOp op [a] pos) (upE X.K Ts W t) := pe_one h
theorem de_and (ha : PE X a (upE X.K Ts W ta)) (hb : PE X (.BoolOp .And (b :: rest) pos) (upE X.K Ts W tb)) : PE X (.BoolOp .And (a :: b :: rest) pos) (upE X.K Ts W (dAndV ta tb)) := by
  refine (pe_and ha hb).imp fun σ H Q h => ?_
  obtain ⟨A, O, ρ, Xf, Qd, m, h, c⟩ := h
  refine ⟨A, O, ρ, Xf, _, m, h, fun d κ ρ1 v H1 A1 O1 h1 s1 t1 m1 r1 => ?_, c.x⟩
  split at h1
  · exact ⟨true, r1.bl, A1, O1, ρ1, Xf, Qd, m1, h1, c.move s1 t1 m⟩
  · exact ⟨false, r1.bl, (c.move s1 t1 m).flat m1 h1 (by unfold Rp; rfl)⟩
  · exact h1.elim
theorem de_or (ha : PE X a (upE X.K Ts W ta)) (hb : PE X (.BoolOp .Or (b :: rest) pos) (upE X.K Ts W tb)) : PE X (.BoolOp .Or (a :: b :: rest) pos) (upE X.K Ts W (dOrV ta tb)) := by
  refine (pe_or ha hb).imp fun σ H Q h => ?_
  obtain ⟨A, O, ρ, Xf, Qd, m, h, c⟩ := h
  refine ⟨A, O, ρ, Xf, _, m, h, fun d κ ρ1 v H1 A1 O1 h1 s1 t1 m1 r1 => ?_, c.x⟩
  split at h1
  · exact ⟨true, r1.bl, (c.move s1 t1 m).flat m1 h1 (by unfold Rp; rfl)⟩
  · exact ⟨false, r1.bl, A1, O1, ρ1, Xf, Qd, m1, h1, c.move s1 t1 m⟩
  · exact h1.elim
theorem de_not (ha : PE X a (upE X.K Ts W ta)) : PE X (.UnaryOp .Not a pos) (upE X.K Ts W (dNotV ta)) := by
  refine (pe_not ha).imp fun σ H Q h => ?_
  obtain ⟨A, O, ρ, Xf, Qd, m, h, c⟩ := h
  refine ⟨A, O, ρ, Xf, _, m, h, fun d κ ρ1 v H1 A1 O1 h1 s1 t1 m1 r1 => ?_, c.x⟩
  split at h1
  · exact ⟨_, r1.bl, (c.move s1 t1 m).flat m1 h1 (by unfold Rp; rfl)⟩
  · exact h1.elim
/-- a if t else b -/
def dIf (t : DT) (ta tb : DE) : DE := fun X ρ Q => t X ρ fun b ρ1 => if b = true then ta X ρ1 Q else tb X ρ1 Q
theorem de_if {e : Expr} (hc : PT X e (upT X.K Ts W tA)) (ha : PE X a (upE X.K Ts W ta)) (hb : PE X b (upE X.K Ts W tb)) : PE X (.IfExp e a b pos) (upE X.K Ts W (dIf tA ta tb)) := by
  refine (pe_ifExp hc ha hb).imp fun σ H Q h => ?_
  obtain ⟨A, O, ρ, Xf, Qd, m, h, c⟩ := h
  refine ⟨A, O, ρ, Xf, _, m, h, fun b ρ1 H1 A1 O1 h1 s1 t1 m1 => ?_, c.x⟩
  cases b with
  | true => exact ⟨A1, O1, ρ1, Xf, Qd, m1, h1, c.move s1 t1 m⟩
  | false => exact ⟨A1, O1, ρ1, Xf, Qd, m1, h1, c.move s1 t1 m⟩
end

/-! ### blocks -/
section
variable {X : Cx} {Ts : AP} {W : WX} {st : Stmt} {rest : List Stmt} {t u : DS} {e : Expr} {te : DE} {pos : Pos}
def dNext : DS := fun _ N ρ => N.nx ρ
def dSeq (t u : DS) : DS := fun X N ρ => t X { N with nx := u X N } ρ
theorem ds_nil : PSs X [] (upS X.K Ts W dNext) := pss_nil.imp fun E σ H ⟨A, O, ρ, Xf, N, m, h, c⟩ => c.nx ρ σ H A O h Tr.refl m
theorem ds_one (h1 : PS X st (upS X.K Ts W t)) : PSs X [st] (upS X.K Ts W t) := pss_one h1
theorem ds_cons (h1 : PS X st (upS X.K Ts W t)) (h2 : PSs X rest (upS X.K Ts W u)) : PSs X (st :: rest) (upS X.K Ts W (dSeq t u)) := by
  refine (pss_cons h1 h2).imp fun E σ H h => ?_
  obtain ⟨A, O, ρ, Xf, N, m, h, c⟩ := h
  exact ⟨A, O, ρ, Xf, _, m, h, fun ρ1 σ1 H1 A1 O1 h1 t1 m1 => ⟨A1, O1, ρ1, Xf, N, m1, h1, c.move t1 m⟩, c.bk, c.ct, c.rt, c.x⟩
theorem ds_pass : PS X (.Pass pos) (upS X.K Ts W dNext) := ps_pass.imp fun E σ H ⟨A, O, ρ, Xf, N, m, h, c⟩ => c.nx ρ σ H A O h Tr.refl m
def dBreak : DS := fun _ N ρ => N.bk ρ
def dCont : DS := fun _ N ρ => N.ct ρ
theorem ds_break : PS X (.Break pos) (upS X.K Ts W dBreak) := ps_break.imp fun E σ H ⟨A, O, ρ, Xf, N, m, h, c⟩ => c.bk ρ σ H A O h Tr.refl m
theorem ds_cont : PS X (.Continue pos) (upS X.K Ts W dCont) := ps_continue.imp fun E σ H ⟨A, O, ρ, Xf, N, m, h, c⟩ => c.ct ρ σ H A O h Tr.refl m
theorem ds_doc {x j pos pos'} : PS X (.Expr (.Constant (.str x) j pos) pos') (upS X.K Ts W dNext) := ps_doc.imp fun E σ H ⟨A, O, ρ, Xf, N, m, h, c⟩ => c.nx ρ σ H A O h Tr.refl m
def dRet (te : DE) : DS := fun X N ρ => te X ρ fun d κ ρ1 => κ ≠ .bo ∧ N.rt (slOf d κ) ρ1
theorem ds_ret (he : PE X e (upE X.K Ts W te)) : PS X (.Return (some e) pos) (upS X.K Ts W (dRet te)) := by
  refine (ps_ret he).imp fun E σ H h => ?_
  obtain ⟨A, O, ρ, Xf, N, m, h, c⟩ := h
  refine ⟨A, O, ρ, Xf, _, m, h, fun d κ ρ1 v H1 A1 O1 h1 s1 t1 m1 r1 => ?_, fun x ρ' cls od H' A' O' => c.x x ρ' cls od σ H' A' O'⟩
  obtain ⟨A2, O2, m2, n1, n2, n3⟩ := r1.cons h1.1 m1
  exact c.rt _ ρ1 v σ H1 A2 O2 h1.2 ⟨t1.kp, fun b z => (n1 b z).elim (t1.new b) .inr, fun b z n => n2 b (t1.old b z n), fun b z => (n3 b z).elim (t1.own b) .inr⟩ m2
def dRetN : DS := fun _ N ρ => N.rt (.va .non) ρ
theorem ds_retN : PS X (.Return none pos) (upS X.K Ts W dRetN) := ps_retN.imp fun E σ H ⟨A, O, ρ, Xf, N, m, h, c⟩ => c.rt _ ρ _ σ H A O h Tr.refl (m.consVa (by unfold Rp; rfl))
def dIfS (c : DT) (t u : DS) : DS := fun X N ρ => c X ρ fun b ρ1 => if b = true then t X N ρ1 else u X N ρ1
theorem ds_if {c : Expr} {a b : List Stmt} {tc : DT} (hc : PT X c (upT X.K Ts W tc)) (ha : PSs X a (upS X.K Ts W t)) (hb : PSs X b (upS X.K Ts W u)) : PS X (.If c a b pos) (upS X.K Ts W (dIfS tc t u)) := by
  refine (ps_if hc ha hb).imp fun E σ H h => ?_
  obtain ⟨A, O, ρ, Xf, N, m, h, c⟩ := h
  refine ⟨A, O, ρ, Xf, _, m, h, fun b ρ1 H1 A1 O1 h1 s1 t1 m1 => ?_, fun x ρ' cls od H' A' O' => c.x x ρ' cls od σ H' A' O'⟩
  cases b with
  | true => exact ⟨A1, O1, ρ1, Xf, N, m1, h1, c.move t1 m⟩
  | false => exact ⟨A1, O1, ρ1, Xf, N, m1, h1, c.move t1 m⟩
/-- name = value: a new list is one's own -/
def dSet (i : Nat) (te : DE) : DS := fun X N ρ => te X ρ fun d κ ρ1 => κ ≠ .bo ∧ i < ρ1.length ∧ N.nx (ρ1.set i (slOf d κ))
/-- what a value is behind its storing -/
theorem stored {K : PySem.W.Frag} {H H1 : Hp} {A O A1 O1 : AP} {ρ1 : List Sl} {σ : L2.St} {i : Nat} {d : D} {κ : Kd} {v : V} (t1 : Tr A O H A1 O1 H1) (m1 : Mt K Ts H1 A1 O1 ρ1 σ) (s1 : Sm H H1) (trk : ∀ b, A b → H b ≠ none) (sub : ∀ b, O b → A b) (r1 : Rs K Ts H H1 A1 O1 ρ1 σ κ d v) (nb : κ ≠ .bo) (hi : i < ρ1.length) :
    ∃ A2 O2, Tr A O H A2 O2 H1 ∧ Mt K Ts H1 A2 O2 (ρ1.set i (slOf d κ)) (σ.set i (some v)) := by
  obtain ⟨A2, O2, m2, n1, n2, n3⟩ := r1.cons nb m1
  obtain ⟨O3, m3, t3⟩ := m2.mv hi
  exact ⟨A2, O3, (show Tr A O H A2 O2 H1 from ⟨t1.kp, fun b z => (n1 b z).elim (t1.new b) .inr, fun b z n => n2 b (t1.old b z n), fun b z => (n3 b z).elim (t1.own b) .inr⟩).trans t3 trk, m3⟩
theorem ds_set {i : Nat} {x : Str} {pos' : Pos} (hN : X.N.Nodup) (hi : X.N[i]? = some x) (hx : Loc X.env.scope x) (he : PE X e (upE X.K Ts W te)) (hs : swapsWith e (some (.Name x pos')) pos.line X.env = pure false := by rfl) (hf : X.fn x = true ∨ X.env.scope.names.lookup x = some .local := by first | exact .inl rfl | exact .inr rfl | assumption) :
    PS X (.Assign [.Name x pos'] e pos) (upS X.K Ts W (dSet i te)) := by
  refine (ps_set hN hi hx he hs hf).imp fun E σ H h => ?_
  obtain ⟨A, O, ρ, Xf, N, m, h, c⟩ := h
  refine ⟨A, O, ρ, Xf, _, m, h, fun d κ ρ1 v H1 A1 O1 h1 s1 t1 m1 r1 => ?_, fun x ρ' cls od H' A' O' => c.x x ρ' cls od σ H' A' O'⟩
  obtain ⟨A2, O2, t2, m2⟩ := stored (i := i) t1 m1 s1 m.trk m.sub r1 h1.1 h1.2.1
  exact c.nx _ _ _ _ _ h1.2.2 t2 m2
def dDrop (te : DE) : DS := fun X N ρ => te X ρ fun _ _ ρ1 => N.nx ρ1
theorem ds_expr (he : PE X e (upE X.K Ts W te)) (hs : swapsWith e none pos.line X.env = pure false := by rfl) : PS X (.Expr e pos) (upS X.K Ts W (dDrop te)) := by
  refine (ps_expr he hs).imp fun E σ H h => ?_
  obtain ⟨A, O, ρ, Xf, N, m, h, c⟩ := h
  exact ⟨A, O, ρ, Xf, _, m, h, fun d κ ρ1 v H1 A1 O1 h1 s1 t1 m1 r1 => c.nx _ _ _ _ _ h1 t1 m1, fun x ρ' cls od H' A' O' => c.x x ρ' cls od σ H' A' O'⟩
end
end DL

-- part DL3
set_option Elab.async false
set_option linter.all false
set_option maxRecDepth 100000
set_option maxHeartbeats 2000000
/-! operators, calls of built-ins, lists, indexes over data -/
namespace DL
open PySem PySem.Spec PyProof.Rows L2 GxR GS GA GD
section
variable {K : PySem.W.Frag} {H : Hp} {A : AP} {v : V}
theorem Wk.int {i : Int} (h : Wk K H A (.int i) v) : v = .int i := by unfold Wk Rp at h; exact h
theorem Wk.str {i : Str} (h : Wk K H A (.str i) v) : v = .str i := by unfold Wk Rp at h; exact h
theorem Wk.bl {i : Bool} (h : Wk K H A (.bl i) v) : v = .bl i := by unfold Wk Rp at h; exact h
theorem Wk.non (h : Wk K H A .non v) : v = .non := by unfold Wk Rp at h; exact h
theorem Wk.lst {ds : List D} (h : Wk K H A (.lst ds) v) : ∃ a vs, v = .ref a ∧ H a = some (.lst vs) ∧ RpL K H A ds vs := by unfold Wk at h; exact h
theorem Wk.tup {ds : List D} (h : Wk K H A (.tup ds) v) : ∃ a vs, v = .ref a ∧ SqT K H a vs ∧ RpL K H A ds vs := by unfold Wk Rp at h; exact h
theorem Wk.scr {ns : List Int} (h : Wk K H A (.scr ns) v) : ∃ a, v = .ref a ∧ ScrAt K H a (ns.map V.int) := by unfold Wk Rp at h; exact h
theorem Rp.int {i : Int} : Rp K H A (.int i) (.int i) := by unfold Rp; rfl
theorem Rp.str {i : Str} : Rp K H A (.str i) (.str i) := by unfold Rp; rfl
theorem Rp.bl {i : Bool} : Rp K H A (.bl i) (.bl i) := by unfold Rp; rfl
theorem Rp.non : Rp K H A .non .non := by unfold Rp; rfl
theorem Rp.tup {ds : List D} {a : Addr} {vs : List V} (h : SqT K H a vs) (r : RpL K H A ds vs) : Rp K H A (.tup ds) (.ref a) := by unfold Rp; exact ⟨a, vs, rfl, h, r⟩
end
/-- a list of data of one's own, with a thing that is asked -/
def oK {α : Type} (o : Option α) (Q : α → Prop) : Prop := match o with
  | some x => Q x
  | none => False
theorem oK_some {α : Type} {x : α} {Q : α → Prop} : oK (some x) Q = Q x := rfl
theorem oK.get {α : Type} {o : Option α} {Q : α → Prop} (h : oK o Q) : ∃ x, o = some x ∧ Q x := by
  cases o with
  | none => exact h.elim
  | some x => exact ⟨x, rfl, h⟩
theorem oK.mk {α : Type} {o : Option α} {Q : α → Prop} {x : α} (e : o = some x) (h : Q x) : oK o Q := by rw [e]; exact h
section
variable {X : Cx} {Ts : AP}
/-- numbers -/
def numOp (C : Int → Int → Prop) (f : Int → Int → D) : D → D → (D → Kd → Prop) → Prop
  | .int i, .int j, Q => C i j ∧ Q (f i j) .sh
  | _, _, _ => False
theorem num_ok {f : Value → Value → Sem Value} {C : Int → Int → Prop} {g : Int → Int → V} {g' : Int → Int → D} (h : OpR X f (rI C g)) (hg : ∀ i j H A, Rp X.K H A (g' i j) (g i j)) : DOp X Ts f (numOp C g') := by
  refine ⟨_, h, fun W σ H A O ρ Xf Qd Q d e v w hd he m c q => ?_⟩
  unfold numOp at q
  split at q
  · exact ⟨_, _, hd.int, he.int, q.1, c.flat m q.2 (hg _ _ _ _)⟩
  · exact q.elim
theorem num_ok0 {f : Value → Value → Sem Value} {g : Int → Int → V} {g' : Int → Int → D} (h : OpR X f (rI0 g)) (hg : ∀ i j H A, Rp X.K H A (g' i j) (g i j)) : DOp X Ts f (numOp (fun _ _ => True) g') := by
  refine ⟨_, h, fun W σ H A O ρ Xf Qd Q d e v w hd he m c q => ?_⟩
  unfold numOp at q
  split at q
  · exact ⟨_, _, hd.int, he.int, c.flat m q.2 (hg _ _ _ _)⟩
  · exact q.elim
abbrev gSub' := numOp (fun _ _ => True) fun i j => .int (i - j)
abbrev gMul := numOp CMulB fun i j => .int (i * j)
abbrev gDiv := numOp CDiv fun i j => .int (i / j)
abbrev gMod := numOp (fun _ j => 0 < j) fun i j => .int (i % j)
abbrev gLt := numOp (fun _ _ => True) fun i j => .bl (decide (i < j))
abbrev gLe := numOp (fun _ _ => True) fun i j => .bl (decide (i ≤ j))
abbrev gGt := numOp (fun _ _ => True) fun i j => .bl (decide (j < i))
abbrev gGe := numOp (fun _ _ => True) fun i j => .bl (decide (j ≤ i))
theorem dop_sub : DOp X Ts (binaryOp .Sub) gSub' := num_ok0 op_sub fun _ _ _ _ => Rp.int
theorem dop_mul : DOp X Ts (binaryOp .Mult) gMul := num_ok op_mulB fun _ _ _ _ => Rp.int
theorem dop_div : DOp X Ts (binaryOp .FloorDiv) gDiv := num_ok op_fdiv fun _ _ _ _ => Rp.int
theorem dop_mod : DOp X Ts (binaryOp .Mod) gMod := num_ok op_mod fun _ _ _ _ => Rp.int
theorem dop_lt : DOp X Ts (compareOp .Lt) gLt := num_ok0 op_lt fun _ _ _ _ => Rp.bl
theorem dop_le : DOp X Ts (compareOp .LtE) gLe := num_ok0 op_le fun _ _ _ _ => Rp.bl
theorem dop_gt : DOp X Ts (compareOp .Gt) gGt := num_ok0 op_gt fun _ _ _ _ => Rp.bl
theorem dop_ge : DOp X Ts (compareOp .GtE) gGe := num_ok0 op_ge fun _ _ _ _ => Rp.bl
/-- + -/
def gAdd : D → D → (D → Kd → Prop) → Prop
  | .int i, .int j, Q => Q (.int (i + j)) .sh
  | .str a, .str b, Q => a.length + b.length ≤ sizeLine ∧ Q (.str (a ++ b)) .sh
  | .lst a, .lst b, Q => a.length + b.length ≤ sizeLine ∧ Q (.lst (a ++ b)) .fr
  | .tup a, .tup b, Q => a.length + b.length ≤ sizeLine ∧ Q (.tup (a ++ b)) .sh
  | _, _, _ => False
theorem dop_add : DOp X Ts (binaryOp .Add) gAdd := by
  refine ⟨_, OpR.or (OpR.or (OpR.or op_add op_add_str) op_cat) op_catA, fun W σ H A O ρ Xf Qd Q d e v w hd he m c q => ?_⟩
  unfold gAdd at q
  split at q
  · exact .inl (.inl (.inl ⟨_, _, hd.int, he.int, c.flat m q Rp.int⟩))
  · exact .inl (.inl (.inr ⟨_, _, hd.str, he.str, q.1, c.flat m q.2 Rp.str⟩))
  · obtain ⟨a, vs, rfl, ha, ra⟩ := hd.lst
    obtain ⟨b, ws, rfl, hb, rb⟩ := he.lst
    refine .inl (.inr ⟨a, b, vs, ws, rfl, rfl, ha, hb, by rw [← ra.len, ← rb.len]; exact q.1, fun p hp => c.fr m hp q.2 (ra.app rb)⟩)
  · obtain ⟨a, vs, rfl, ha, ra⟩ := hd.tup
    obtain ⟨b, ws, rfl, hb, rb⟩ := he.tup
    refine .inr ⟨a, b, vs, ws, rfl, rfl, ha, hb, by rw [← ra.len, ← rb.len]; exact q.1, fun e0 => ?_, fun _ e0 => ?_, fun _ _ p hp => ?_⟩
    · subst e0
      refine c.flat m q.2 (Rp.tup hb ?_)
      have := ra.app rb
      exact this
    · subst e0
      refine c.flat m q.2 (Rp.tup ha ?_)
      have := ra.app rb
      rw [List.append_nil] at this
      exact this
    · exact c.sh m (Sm.new hp) q.2 (Rp.tup (SqT.of upd_same) ((ra.app rb).sm (Sm.new hp)))
  · exact q.elim
/-! ### == -/
mutual
/-- as the library's data -/
def pd : D → PyData
  | .non => .none
  | .bl b => .bool b
  | .int i => .int i
  | .str s => .str s
  | .lst xs => .list (pdL xs)
  | .tup xs => .tuple (pdL xs)
  | _ => .none
def pdL : List D → List PyData
  | [] => []
  | d :: r => pd d :: pdL r
end
mutual
def okD : D → Bool
  | .non => true
  | .bl _ => true
  | .int _ => true
  | .str s => PyData.strOk s
  | .lst xs => okL xs
  | .tup xs => okL xs
  | _ => false
def okL : List D → Bool
  | [] => true
  | d :: r => okD d && okL r
end
mutual
def dpt : D → Nat
  | .lst xs => dptL xs + 1
  | .tup xs => dptL xs + 1
  | _ => 0
def dptL : List D → Nat
  | [] => 0
  | d :: r => max (dpt d) (dptL r)
end
/-- may be compared -/
def shp (d : D) : Bool := okD d && decide (dpt d ≤ 60)
def eqD (d e : D) : Bool := PyData.eqv (pd d) (pd e)
mutual
theorem lay_of : ∀ d : D, okD d = true → (pd d).canLay0 = true
  | .non, _ => by simp [pd, PyData.canLay0]
  | .bl _, _ => by simp [pd, PyData.canLay0]
  | .int _, _ => by simp [pd, PyData.canLay0]
  | .str s, h => by simp only [pd, PyData.canLay0]; exact h
  | .lst xs, h => by simp only [pd, PyData.canLay0]; exact layL_of xs h
  | .tup xs, h => by simp only [pd, PyData.canLay0]; exact layL_of xs h
  | .ins .., h => by simp [okD] at h
  | .dct .., h => by simp [okD] at h
  | .scr _, h => by simp [okD] at h
  | .xc .., h => by simp [okD] at h
  | .xn _, h => by simp [okD] at h
theorem layL_of : ∀ xs : List D, okL xs = true → PyData.canLayAll0 (pdL xs) = true
  | [], _ => by simp [pdL, PyData.canLayAll0]
  | d :: r, h => by
    simp only [okL, Bool.and_eq_true] at h
    simp only [pdL, PyData.canLayAll0, lay_of d h.1, layL_of r h.2, Bool.and_true]
end
mutual
theorem dpt_of : ∀ d : D, (pd d).depth ≤ dpt d + 1
  | .non => by simp [pd, PyData.depth]
  | .bl _ => by simp [pd, PyData.depth]
  | .int _ => by simp [pd, PyData.depth]
  | .str s => by simp [pd, PyData.depth]
  | .lst xs => by
    have := dptL_of xs
    simp only [pd, PyData.depth, dpt]; omega
  | .tup xs => by
    have := dptL_of xs
    simp only [pd, PyData.depth, dpt]; omega
  | .ins .. => by simp [pd, PyData.depth]
  | .dct .. => by simp [pd, PyData.depth]
  | .scr _ => by simp [pd, PyData.depth]
  | .xc .. => by simp [pd, PyData.depth]
  | .xn _ => by simp [pd, PyData.depth]
theorem dptL_of : ∀ xs : List D, PyData.depthAll (pdL xs) ≤ dptL xs + 1
  | [] => by simp [pdL, PyData.depthAll]
  | d :: r => by
    have h1 := dpt_of d
    have h2 := dptL_of r
    simp only [pdL, PyData.depthAll, dptL]
    omega
end
theorem shaped_of {d : D} (h : shp d = true) : SeqAt.shaped (pd d) = true := by
  obtain ⟨h1, h2⟩ := He.ba h
  have h2 := of_decide_eq_true h2
  have h3 := dpt_of d
  unfold SeqAt.shaped
  rw [lay_of d h1, decide_eq_true (by omega)]
  rfl
mutual
theorem dp_of {K : PySem.W.Frag} {H : Hp} {A : AP} : ∀ (d : D) (v : V), okD d = true → Rp K H A d v → Dp K H v (pd d)
  | .non, v, _, h => by unfold Rp at h; subst h; simp only [pd]; exact .non
  | .bl b, v, _, h => by unfold Rp at h; subst h; simp only [pd]; exact .bl b
  | .int i, v, _, h => by unfold Rp at h; subst h; simp only [pd]; exact .int i
  | .str s, v, _, h => by unfold Rp at h; subst h; simp only [pd]; exact .str s
  | .lst xs, v, o, h => by
    unfold Rp at h
    obtain ⟨a, vs, rfl, h1, _, h2⟩ := h
    simp only [pd]
    exact .lst (SqL.of h1) (dpL_of xs vs o h2)
  | .tup xs, v, o, h => by
    unfold Rp at h
    obtain ⟨a, vs, rfl, h1, h2⟩ := h
    simp only [pd]
    exact .tup h1 (dpL_of xs vs o h2)
  | .ins .., _, o, _ => by simp [okD] at o
  | .dct .., _, o, _ => by simp [okD] at o
  | .scr _, _, o, _ => by simp [okD] at o
  | .xc .., _, o, _ => by simp [okD] at o
  | .xn _, _, o, _ => by simp [okD] at o
theorem dpL_of {K : PySem.W.Frag} {H : Hp} {A : AP} : ∀ (ds : List D) (vs : List V), okL ds = true → RpL K H A ds vs → DpAll K H vs (pdL ds)
  | [], vs, _, h => by rw [h.unnil]; simp only [pdL]; exact .nil
  | d :: r, vs, o, h => by
    simp only [okL, Bool.and_eq_true] at o
    obtain ⟨v, t, rfl, h1, h2⟩ := h.uncons
    simp only [pdL]
    exact .cons (dp_of d v o.1 h1) (dpL_of r t o.2 h2)
end
theorem Wk.dp {K : PySem.W.Frag} {H : Hp} {A : AP} {d : D} {v : V} (o : okD d = true) (h : Wk K H A d v) : Dp K H v (pd d) := by
  unfold Wk at h
  split at h
  · obtain ⟨a, vs, rfl, h1, h2⟩ := h
    simp only [pd]
    exact .lst (SqL.of h1) (dpL_of _ vs o h2)
  · simp [okD] at o
  · exact dp_of _ v o h
/-- plain values that == tells apart -/
def sclr : D → D → Option Bool
  | .int i, .int j => some (decide (i = j))
  | .str a, .str b => some (decide (a = b))
  | .bl a, .bl b => some (decide (a = b))
  | .non, .non => some true
  | .non, .str _ => some false
  | .str _, .non => some false
  | .non, .int _ => some false
  | .int _, .non => some false
  | .int _, .str _ => some false
  | .str _, .int _ => some false
  | _, _ => none
theorem sclr_ok {K : PySem.W.Frag} {H : Hp} {A : AP} {d e : D} {v w : V} {b : Bool} (hd : Wk K H A d v) (he : Wk K H A e w) (h : sclr d e = some b) : scal v w = true ∧ b = decide (v = w) := by
  unfold sclr at h
  split at h
  · rw [hd.int, he.int]; cases h; exact ⟨rfl, decide_eq_decide.mpr ⟨congrArg _, V.int.inj⟩⟩
  · rw [hd.str, he.str]; cases h; exact ⟨rfl, decide_eq_decide.mpr ⟨congrArg _, V.str.inj⟩⟩
  · rw [hd.bl, he.bl]; cases h; exact ⟨rfl, decide_eq_decide.mpr ⟨congrArg _, V.bl.inj⟩⟩
  · rw [hd.non, he.non]; cases h; exact ⟨rfl, rfl⟩
  · rw [hd.non, he.str]; cases h; exact ⟨rfl, rfl⟩
  · rw [hd.str, he.non]; cases h; exact ⟨rfl, rfl⟩
  · rw [hd.non, he.int]; cases h; exact ⟨rfl, rfl⟩
  · rw [hd.int, he.non]; cases h; exact ⟨rfl, rfl⟩
  · rw [hd.int, he.str]; cases h; exact ⟨rfl, rfl⟩
  · rw [hd.str, he.int]; cases h; exact ⟨rfl, rfl⟩
  · cases h
/-- == : the plain ones, else what may be compared -/
def gEqB (d e : D) (Q : Bool → Prop) : Prop := match sclr d e with
  | some b => Q b
  | none => shp d = true ∧ shp e = true ∧ Q (eqD d e)
def gEq (d e : D) (Q : D → Kd → Prop) : Prop := gEqB d e fun b => Q (.bl b) .sh
def gNe (d e : D) (Q : D → Kd → Prop) : Prop := gEqB d e fun b => Q (.bl (!b)) .sh
theorem dop_eq (hu : X.A.units + 64 < cLine) : DOp X Ts (compareOp .Eq) gEq := by
  refine ⟨_, OpR.or op_eq (op_eqD hu), fun W σ H A O ρ Xf Qd Q d e v w hd he m c q => ?_⟩
  unfold gEq gEqB at q
  split at q
  · rename_i b hb
    obtain ⟨h1, h2⟩ := sclr_ok hd he hb
    exact .inl ⟨h1, by rw [← h2]; exact c.flat m q Rp.bl⟩
  · obtain ⟨h1, h2, q⟩ := q
    exact .inr ⟨pd d, pd e, hd.dp (He.ba h1).1, he.dp (He.ba h2).1, shaped_of h1, shaped_of h2, c.flat m q Rp.bl⟩
theorem dop_ne (hu : X.A.units + 64 < cLine) : DOp X Ts (compareOp .NotEq) gNe := by
  refine ⟨_, OpR.or op_ne (op_neD hu), fun W σ H A O ρ Xf Qd Q d e v w hd he m c q => ?_⟩
  unfold gNe gEqB at q
  split at q
  · rename_i b hb
    obtain ⟨h1, h2⟩ := sclr_ok hd he hb
    exact .inl ⟨h1, by rw [← h2]; exact c.flat m q Rp.bl⟩
  · obtain ⟨h1, h2, q⟩ := q
    exact .inr ⟨pd d, pd e, hd.dp (He.ba h1).1, he.dp (He.ba h2).1, shaped_of h1, shaped_of h2, c.flat m q Rp.bl⟩
/-! ### is None, in -/
def gIsN (d e : D) (Q : D → Kd → Prop) : Prop := match d, e with
  | .non, .non => Q (.bl true) .sh
  | _, .non => Q (.bl false) .sh
  | _, _ => False
def gNotN (d e : D) (Q : D → Kd → Prop) : Prop := match d, e with
  | .non, .non => Q (.bl false) .sh
  | _, .non => Q (.bl true) .sh
  | _, _ => False
theorem Wk.nn {K : PySem.W.Frag} {H : Hp} {A : AP} {d : D} {v : V} (h : Wk K H A d v) (n : d ≠ .non) : v ≠ .non := by
  rintro rfl
  unfold Wk at h
  split at h
  · obtain ⟨a, vs, e, _⟩ := h
    cases e
  · obtain ⟨a, vs, e, _⟩ := h
    cases e
  · unfold Rp at h
    split at h
    · exact n rfl
    · cases h
    · cases h
    · cases h
    · obtain ⟨_, _, e, _⟩ := h; cases e
    · obtain ⟨_, _, e, _⟩ := h; cases e
    · obtain ⟨_, _, _, e, _⟩ := h; cases e
    · obtain ⟨_, _, e, _⟩ := h; cases e
    · obtain ⟨_, e, _⟩ := h; cases e
    · obtain ⟨e, _⟩ := h; cases e
    · cases h
theorem dop_isN : DOp X Ts (compareOp .Is) gIsN := by
  refine ⟨_, op_isN, fun W σ H A O ρ Xf Qd Q d e v w hd he m c q => ?_⟩
  unfold gIsN at q
  split at q
  · rw [hd.non, he.non]; exact ⟨rfl, c.flat m q Rp.bl⟩
  · rename_i n
    refine ⟨he.non, ?_⟩
    rw [decide_eq_false (hd.nn fun z => n z)]
    exact c.flat m q Rp.bl
  · exact q.elim
theorem dop_notN : DOp X Ts (compareOp .IsNot) gNotN := by
  refine ⟨_, op_notN, fun W σ H A O ρ Xf Qd Q d e v w hd he m c q => ?_⟩
  unfold gNotN at q
  split at q
  · rw [hd.non, he.non]; exact ⟨rfl, c.flat m q Rp.bl⟩
  · rename_i n
    refine ⟨he.non, ?_⟩
    rw [decide_eq_false (hd.nn fun z => n z)]
    exact c.flat m q Rp.bl
  · exact q.elim
def flD : D → Bool
  | .non => true
  | .bl _ => true
  | .int _ => true
  | .str _ => true
  | _ => false
def vD : D → V
  | .non => .non
  | .bl b => .bl b
  | .int i => .int i
  | .str s => .str s
  | _ => .non
theorem Wk.vD {K : PySem.W.Frag} {H : Hp} {A : AP} {d : D} {v : V} (h : Wk K H A d v) (f : flD d = true) : v = vD d ∧ flatV v = true := by
  cases d with
  | non => rw [h.non]; exact ⟨rfl, rfl⟩
  | bl => rw [h.bl]; exact ⟨rfl, rfl⟩
  | int => rw [h.int]; exact ⟨rfl, rfl⟩
  | str => rw [h.str]; exact ⟨rfl, rfl⟩
  | _ => cases f
theorem RpL.vDs {K : PySem.W.Frag} {H : Hp} {A : AP} : ∀ {ds : List D} {vs : List V}, RpL K H A ds vs → ds.all flD = true → vs = ds.map vD ∧ vs.all flatV = true
  | [], vs, h, _ => by rw [h.unnil]; exact ⟨rfl, rfl⟩
  | d :: r, vs, h, f => by
    obtain ⟨v, t, rfl, h1, h2⟩ := h.uncons
    rw [List.all_cons, Bool.and_eq_true] at f
    obtain ⟨e1, e2⟩ := (Wk.of h1).vD f.1
    obtain ⟨e3, e4⟩ := RpL.vDs h2 f.2
    rw [e1, e3]
    refine ⟨rfl, ?_⟩
    rw [List.all_cons, ← e1, e2, ← e3, e4]
    rfl
/-- is it one of these -/
def hasD (x : D) (ds : List D) : Bool := inV (vD x) (ds.map vD)
theorem has_strs (x : Str) (ss : List Str) : hasD (.str x) (ss.map .str) = ss.contains x := by
  unfold hasD inV
  rw [List.map_map, List.any_map, Bool.eq_iff_iff, List.any_eq_true]
  constructor
  · rintro ⟨y, hy, e⟩
    have e : (y == x) = true := e
    rw [← beq_iff_eq.mp e]
    simpa using hy
  · intro h
    exact ⟨x, by simpa using h, by show (x == x) = true; simp⟩
def gInB (x y : D) (Q : Bool → Prop) : Prop := match y with
  | .lst ds => flD x = true ∧ ds.all flD = true ∧ Q (hasD x ds)
  | .tup ds => flD x = true ∧ ds.all flD = true ∧ Q (hasD x ds)
  | _ => False
def gIn (d e : D) (Q : D → Kd → Prop) : Prop := gInB d e fun b => Q (.bl b) .sh
def gNin (d e : D) (Q : D → Kd → Prop) : Prop := gInB d e fun b => Q (.bl (!b)) .sh
theorem in_ok {neg : Bool} {W : WX} {σ : L2.St} {H : Hp} {A O : AP} {ρ : List Sl} {Xf : XF} {Qd : D → Kd → List Sl → Prop} {Q : VK} {d e : D} {v w : V} (hd : Wk X.K H A d v) (he : Wk X.K H A e w) (m : Mt X.K Ts H A O ρ σ) (c : Cn X.K Ts W σ H A O Xf Qd Q)
    (q : gInB d e fun b => Qd (.bl (if neg then !b else b)) .sh ρ) : rIn X.K neg v w H Q := by
  unfold gInB at q
  split at q
  · obtain ⟨f1, f2, q⟩ := q
    obtain ⟨a, vs, rfl, h1, h2⟩ := he.lst
    obtain ⟨e1, e2⟩ := hd.vD f1
    obtain ⟨e3, e4⟩ := h2.vDs f2
    refine ⟨a, vs, rfl, .inl (SqL.of h1), e2, e4, ?_⟩
    have := c.flat m q Rp.bl
    unfold hasD at this
    rw [← e1, ← e3] at this
    cases neg <;> exact this
  · obtain ⟨f1, f2, q⟩ := q
    obtain ⟨a, vs, rfl, h1, h2⟩ := he.tup
    obtain ⟨e1, e2⟩ := hd.vD f1
    obtain ⟨e3, e4⟩ := h2.vDs f2
    refine ⟨a, vs, rfl, .inr h1, e2, e4, ?_⟩
    have := c.flat m q Rp.bl
    unfold hasD at this
    rw [← e1, ← e3] at this
    cases neg <;> exact this
  · exact q.elim
theorem dop_in : DOp X Ts (compareOp .In) gIn := ⟨_, op_in_seq, fun W σ H A O ρ Xf Qd Q d e v w hd he m c q => in_ok hd he m c q⟩
theorem dop_nin : DOp X Ts (compareOp .NotIn) gNin := ⟨_, op_notIn_seq, fun W σ H A O ρ Xf Qd Q d e v w hd he m c q => in_ok (neg := true) hd he m c q⟩
/-! ### indexes, slices -/
def gIx : D → D → (D → Kd → Prop) → Prop
  | .lst ds, .int i, Q => oK (atI ds i) fun d => Q d .sh
  | .tup ds, .int i, Q => oK (atI ds i) fun d => Q d .sh
  | .str z, .int i, Q => z.length ≤ sizeLine ∧ oK (atI z.cps.toList i) fun c => Q (.str ⟨#[c]⟩) .sh
  | _, _, _ => False
theorem RpL.atI {K : PySem.W.Frag} {A : AP} {H : Hp} {ds : List D} {vs : List V} {i : Int} {d : D} (h : RpL K H A ds vs) (e : L2.atI ds i = some d) : ∃ v, L2.atI vs i = some v ∧ Rp K H A d v := by
  unfold L2.atI at e ⊢
  rw [h.len] at e
  cases q : ixN vs.length i with
  | none => rw [q] at e; cases e
  | some j =>
    rw [q] at e
    exact h.get' (i := j) e
theorem de_ix {W : WX} {a b : Expr} {ta tb : DE} {pos : Pos} (ha : PE X a (upE X.K Ts W ta)) (hb : PE X b (upE X.K Ts W tb)) (hs : PlainIx b) : PE X (.Subscript a b pos) (upE X.K Ts W (dBin gIx ta tb)) := by
  refine (pe_ix (IxR.or (IxR.or ix_list ix_tup) ix_str) ha hb hs).imp fun σ H Q h => up_bin (fun W σ H A O ρ Xf Qd Q d e v w hd he m c q => ?_) h
  unfold gIx at q
  split at q
  · obtain ⟨x, e1, q⟩ := q.get
    obtain ⟨a, vs, rfl, h1, h2⟩ := hd.lst
    obtain ⟨y, e2, r⟩ := h2.atI e1
    exact .inl (.inl ⟨a, vs, _, y, rfl, he.int, SqL.of h1, e2, c.flat m q r⟩)
  · obtain ⟨x, e1, q⟩ := q.get
    obtain ⟨a, vs, rfl, h1, h2⟩ := hd.tup
    obtain ⟨y, e2, r⟩ := h2.atI e1
    exact .inl (.inr ⟨a, vs, _, y, rfl, he.int, h1, e2, c.flat m q r⟩)
  · obtain ⟨h1, q⟩ := q
    obtain ⟨x, e1, q⟩ := q.get
    exact .inr ⟨_, _, x, hd.str, he.int, h1, e1, c.flat m q Rp.str⟩
  · exact q.elim
def cutD (xs : List D) (lo hi : Option Int) : List D := (xs.drop (HT.sIx xs.length 0 lo)).take (HT.sIx xs.length xs.length hi - HT.sIx xs.length 0 lo)
theorem RpL.cut {K : PySem.W.Frag} {A : AP} {H : Hp} {ds : List D} {vs : List V} (h : RpL K H A ds vs) (lo hi : Option Int) : RpL K H A (cutD ds lo hi) (cutV vs lo hi) := by
  unfold cutD cutV
  rw [h.len]
  exact (h.drop _).take _
/-- the bounds of a slice -/
abbrev DO := XF → List Sl → (Option Int → List Sl → Prop) → Prop
def dNoPart : DO := fun _ ρ Q => Q none ρ
def dPart (t : DE) : DO := fun X ρ Q => t X ρ fun d _ ρ1 => match d with
  | .int i => Q (some i) ρ1
  | _ => False
structure CnO (K : PySem.W.Frag) (Ts : AP) (W : WX) (σ : L2.St) (H : Hp) (A O : AP) (X : XF) (Qd : Option Int → List Sl → Prop) (Q : Option Int → Hp → Prop) : Prop where
  q : ∀ b ρ' H' A' O', Qd b ρ' → Sm H H' → Tr A O H A' O' H' → Mt K Ts H' A' O' ρ' σ → Q b H'
  x : ∀ x ρ' cls od H' A' O', X x ρ' → Tr A O H A' O' H' → Mt K Ts H' A' O' ρ' σ → XR K H' A' x cls od → W cls od σ H'
def upO (K : PySem.W.Frag) (Ts : AP) (W : WX) (t : DO) : TO := fun σ H Q => ∃ A O ρ X Qd, Mt K Ts H A O ρ σ ∧ t X ρ Qd ∧ CnO K Ts W σ H A O X Qd Q
theorem _root_.L2.PO.imp {X : Cx} {e : Option Expr} {t t' : TO} (h : PO X e t) (i : ∀ σ H Q, t' σ H Q → t σ H Q) : PO X e t' := ⟨fun pins s σ H Q I q => h.run pins s σ H Q I (i σ H Q q)⟩
theorem do_none {W : WX} : PO X none (upO X.K Ts W dNoPart) := po_none.imp fun σ H Q ⟨A, O, ρ, Xf, Qd, m, h, c⟩ => c.q none ρ H A O h Sm.refl Tr.refl m
theorem do_some {W : WX} {e : Expr} {te : DE} (he : PE X e (upE X.K Ts W te)) : PO X (some e) (upO X.K Ts W (dPart te)) := by
  refine (po_some he).imp fun σ H Q h => ?_
  obtain ⟨A, O, ρ, Xf, Qd, m, h, c⟩ := h
  refine ⟨A, O, ρ, Xf, _, m, h, fun d κ ρ1 v H1 A1 O1 h1 s1 t1 m1 r1 => ?_, c.x⟩
  split at h1
  · exact ⟨_, r1.wk.int, c.q _ ρ1 H1 A1 O1 h1 s1 t1 m1⟩
  · exact h1.elim
def dSl (te : DE) (tl th : DO) : DE := fun X ρ Q => te X ρ fun d _ ρ1 => tl X ρ1 fun lo ρ2 => th X ρ2 fun hi ρ3 => match d with
  | .lst ds => Q (.lst (cutD ds lo hi)) .fr ρ3
  | .scr ns => Q (.lst (cutD (ns.map .int) lo hi)) .fr ρ3
  | .tup ds => Q (.tup (cutD ds lo hi)) .sh ρ3
  | .str z => z.length ≤ sizeLine ∧ Q (.str (cutS z lo hi)) .sh ρ3
  | _ => False
theorem de_slice {W : WX} {e : Expr} {te : DE} {lo hi : Option Expr} {tl th : DO} {pos p2 : Pos} (he : PE X e (upE X.K Ts W te)) (hl : PO X lo (upO X.K Ts W tl)) (hu : PO X hi (upO X.K Ts W th)) : PE X (.Subscript e (.Slice lo hi none p2) pos) (upE X.K Ts W (dSl te tl th)) := by
  refine (pe_slice (SlR.or (SlR.or sl_list sl_tupA) sl_str) he hl hu).imp fun σ H Q h => ?_
  obtain ⟨A, O, ρ, Xf, Qd, m, h, c⟩ := h
  refine ⟨A, O, ρ, Xf, _, m, h, fun d κ ρ1 v H1 A1 O1 h1 s1 t1 m1 r1 => ?_, c.x⟩
  have c1 := c.move s1 t1 m
  refine ⟨A1, O1, ρ1, Xf, _, m1, h1, fun lo ρ2 H2 A2 O2 h2 s2 t2 m2 => ?_, c1.x⟩
  have c2 := c1.move s2 t2 m1
  have w2 := r1.wk.tr s2 t2 m1.sub
  refine ⟨A2, O2, ρ2, Xf, _, m2, h2, fun hi ρ3 H3 A3 O3 h3 s3 t3 m3 => ?_, c2.x⟩
  have c3 := c2.move s3 t3 m2
  have w3 := w2.tr s3 t3 m2.sub
  split at h3
  · obtain ⟨a, vs, rfl, g1, g2⟩ := w3.lst
    exact .inl (.inl ⟨a, vs, rfl, SqL.of g1, fun p hp => c3.fr m3 hp h3 (g2.cut lo hi)⟩)
  · obtain ⟨a, rfl, g1⟩ := w3.scr
    exact .inl (.inl ⟨a, _, rfl, g1.sq, fun p hp => c3.fr m3 hp h3 (RpL.ints.cut lo hi)⟩)
  · obtain ⟨a, vs, rfl, g1, g2⟩ := w3.tup
    refine .inl (.inr ⟨a, vs, rfl, g1, fun z => ?_, fun _ p hp => c3.sh m3 (Sm.new hp) h3 (Rp.tup (SqT.of upd_same) ((g2.cut lo hi).sm (Sm.new hp)))⟩)
    refine c3.flat m3 h3 (Rp.tup g1 ?_)
    have := g2.cut lo hi
    have e : cutV vs lo hi = vs := by
      unfold cutV
      rw [z.1, z.2, List.drop_zero, Nat.sub_zero, List.take_length]
    rw [e] at this
    exact this
  · exact .inr ⟨_, w3.str, h3.1, c3.flat m3 h3.2 Rp.str⟩
  · exact h3.elim
end
end DL

-- part DL4
set_option Elab.async false
set_option linter.all false
set_option maxRecDepth 100000
set_option maxHeartbeats 2000000
/-! arguments, calls of built-ins, displays, append, for, comprehensions, all and any -/
namespace DL
open PySem PySem.Spec PyProof.Rows L2 GxR GS GA GD
/-! ### arguments: kept (strong), looked at (weak) -/
def WkL (K : PySem.W.Frag) (H : Hp) (A : AP) : List D → List V → Prop
  | [], vs => vs = []
  | d :: r, vs => ∃ v t, vs = v :: t ∧ Wk K H A d v ∧ WkL K H A r t
structure CnW (K : PySem.W.Frag) (Ts : AP) (W : WX) (σ : L2.St) (H : Hp) (A O : AP) (X : XF) (Qd : List D → List Sl → Prop) (Q : List V → Hp → Prop) : Prop where
  q : ∀ ds ρ' vs H' A' O', Qd ds ρ' → Sm H H' → Tr A O H A' O' H' → Mt K Ts H' A' O' ρ' σ → WkL K H' A' ds vs → Q vs H'
  x : ∀ x ρ' cls od H' A' O', X x ρ' → Tr A O H A' O' H' → Mt K Ts H' A' O' ρ' σ → XR K H' A' x cls od → W cls od σ H'
def upW (K : PySem.W.Frag) (Ts : AP) (W : WX) (t : DA) : TA := fun σ H Q => ∃ A O ρ X Qd, Mt K Ts H A O ρ σ ∧ t X ρ Qd ∧ CnW K Ts W σ H A O X Qd Q
def dNil : DA := fun _ ρ Q => Q [] ρ
def dCons (te : DE) (ta : DA) : DA := fun X ρ Q => te X ρ fun d κ ρ1 => κ ≠ .bo ∧ ta X ρ1 fun ds ρ2 => Q (d :: ds) ρ2
def dConsW (te : DE) (ta : DA) : DA := fun X ρ Q => te X ρ fun d _ ρ1 => ta X ρ1 fun ds ρ2 => Q (d :: ds) ρ2
/-- the items of a list or tuple -/
def itsD : D → Option (List D)
  | .lst ds => some ds
  | .tup ds => some ds
  | _ => none
def dStar (te : DE) (ta : DA) : DA := fun X ρ Q => te X ρ fun d _ ρ1 => oK (itsD d) fun xs => ta X ρ1 fun ds ρ2 => Q (xs ++ ds) ρ2
section
variable {X : Cx} {Ts : AP} {W : WX} {e : Expr} {es : List Expr} {te : DE} {ta : DA} {pos : Pos}
theorem da_nil : PA X [] (upA X.K Ts W dNil) := pa_nil.imp fun σ H Q ⟨A, O, ρ, Xf, Qd, m, h, c⟩ => c.q [] ρ [] H A O h Sm.refl Tr.refl m RpL.nil
theorem dw_nil : PA X [] (upW X.K Ts W dNil) := pa_nil.imp fun σ H Q ⟨A, O, ρ, Xf, Qd, m, h, c⟩ => c.q [] ρ [] H A O h Sm.refl Tr.refl m (by unfold WkL; rfl)
theorem da_cons (he : PE X e (upE X.K Ts W te)) (ha : PA X es (upA X.K Ts W ta)) (hs : starEach (e :: es) X.env = (false, eval e X.env) :: starEach es X.env := by rfl) : PA X (e :: es) (upA X.K Ts W (dCons te ta)) := by
  refine (pa_cons he ha hs).imp fun σ H Q h => ?_
  obtain ⟨A, O, ρ, Xf, Qd, m, h, c⟩ := h
  refine ⟨A, O, ρ, Xf, _, m, h, fun d κ ρ1 v H1 A1 O1 h1 s1 t1 m1 r1 => ?_, c.x⟩
  have c1 := c.move s1 t1 m
  refine ⟨A1, O1, ρ1, Xf, _, m1, h1.2, fun ds ρ2 vs H2 A2 O2 h2 s2 t2 m2 r2 => ?_, c1.x⟩
  exact c1.q _ ρ2 _ H2 A2 O2 h2 s2 t2 m2 (RpL.cons ((r1.rp h1.1).tr t2 m1.sub) r2)
theorem da_consW (he : PE X e (upE X.K Ts W te)) (ha : PA X es (upW X.K Ts W ta)) (hs : starEach (e :: es) X.env = (false, eval e X.env) :: starEach es X.env := by rfl) : PA X (e :: es) (upW X.K Ts W (dConsW te ta)) := by
  refine (pa_cons he ha hs).imp fun σ H Q h => ?_
  obtain ⟨A, O, ρ, Xf, Qd, m, h, c⟩ := h
  refine ⟨A, O, ρ, Xf, _, m, h, fun d κ ρ1 v H1 A1 O1 h1 s1 t1 m1 r1 => ?_, c.x⟩
  refine ⟨A1, O1, ρ1, Xf, _, m1, h1, fun ds ρ2 vs H2 A2 O2 h2 s2 t2 m2 r2 => ?_, fun x ρ' cls od H' A' O' z t' => c.x x ρ' cls od H' A' O' z (t1.trans t' m.trk)⟩
  refine c.q _ ρ2 _ H2 A2 O2 h2 (s1.trans s2) (t1.trans t2 m.trk) m2 ?_
  unfold WkL
  exact ⟨v, vs, rfl, r1.wk.tr s2 t2 m1.sub, r2⟩
theorem da_star {p : Pos} (he : PE X e (upE X.K Ts W te)) (ha : PA X es (upA X.K Ts W ta)) (hs : starEach (.Starred e p :: es) X.env = (true, eval e X.env) :: starEach es X.env := by rfl) : PA X (.Starred e p :: es) (upA X.K Ts W (dStar te ta)) := by
  refine (StX.pa_star he ha hs).imp fun σ H Q h => ?_
  obtain ⟨A, O, ρ, Xf, Qd, m, h, c⟩ := h
  refine ⟨A, O, ρ, Xf, _, m, h, fun d κ ρ1 v H1 A1 O1 h1 s1 t1 m1 r1 => ?_, c.x⟩
  have c1 := c.move s1 t1 m
  obtain ⟨xs, ex, h1⟩ := h1.get
  have w := r1.wk
  have fin : ∀ vs, RpL X.K H1 A1 xs vs → upA X.K Ts W ta σ H1 fun ys H2 => Q (vs ++ ys) H2 := fun vs rx => by
    refine ⟨A1, O1, ρ1, Xf, _, m1, h1, fun ds ρ2 ws H2 A2 O2 h2 s2 t2 m2 r2 => ?_, c1.x⟩
    exact c1.q _ ρ2 _ H2 A2 O2 h2 s2 t2 m2 ((rx.tr t2 m1.sub).app r2)
  unfold itsD at ex
  split at ex
  · cases ex
    obtain ⟨a, vs, rfl, g1, g2⟩ := w.lst
    exact ⟨a, vs, rfl, .inr (SqL.of g1), fin vs g2⟩
  · cases ex
    obtain ⟨a, vs, rfl, g1, g2⟩ := w.tup
    exact ⟨a, vs, rfl, .inl g1, fin vs g2⟩
  · cases ex
/-! ### displays -/
def dLst (ta : DA) : DE := fun X ρ Q => ta X ρ fun ds ρ1 => ds.length ≤ sizeLine ∧ Q (.lst ds) .fr ρ1
def dTup (ta : DA) : DE := fun X ρ Q => ta X ρ fun ds ρ1 => ds.length ≤ sizeLine ∧ Q (.tup ds) .sh ρ1
theorem de_lst (ha : PA X es (upA X.K Ts W ta)) : PE X (.List es pos) (upE X.K Ts W (dLst ta)) := by
  refine (pe_lst ha).imp fun σ H Q h => ?_
  obtain ⟨A, O, ρ, Xf, Qd, m, h, c⟩ := h
  refine ⟨A, O, ρ, Xf, _, m, h, fun ds ρ1 vs H1 A1 O1 h1 s1 t1 m1 r1 => ?_, c.x⟩
  exact ⟨by rw [← r1.len]; exact h1.1, fun p hp => (c.move s1 t1 m).fr m1 hp h1.2 r1⟩
theorem de_tup {x1} (ha : PA X es (upA X.K Ts W ta)) : PE X (.Tuple es x1 pos) (upE X.K Ts W (dTup ta)) := by
  refine (pe_tup ha).imp fun σ H Q h => ?_
  obtain ⟨A, O, ρ, Xf, Qd, m, h, c⟩ := h
  refine ⟨A, O, ρ, Xf, _, m, h, fun ds ρ1 vs H1 A1 O1 h1 s1 t1 m1 r1 => ?_, c.x⟩
  exact ⟨by rw [← r1.len]; exact h1.1, fun p hp => (c.move s1 t1 m).sh m1 (Sm.new hp) h1.2 (Rp.tup (SqT.of upd_same) (r1.sm (Sm.new hp)))⟩
/-! ### built-ins called -/
def DCl (X : Cx) (Ts : AP) (f : Value) (g : List D → (D → Kd → Prop) → Prop) : Prop := ∃ r : List V → Hp → VK → Prop, CallR X f r ∧
  ∀ (W : WX) (σ : L2.St) (H : Hp) (A O : AP) (ρ : List Sl) (Xf : XF) (Qd : D → Kd → List Sl → Prop) (Q : VK) (ds : List D) (vs : List V), WkL X.K H A ds vs → Mt X.K Ts H A O ρ σ → Cn X.K Ts W σ H A O Xf Qd Q → g ds (fun z κ => Qd z κ ρ) → r vs H Q
def dBlt (g : List D → (D → Kd → Prop) → Prop) (ta : DA) : DE := fun X ρ Q => ta X ρ fun ds ρ1 => g ds fun z κ => Q z κ ρ1
theorem up_blt {g : List D → (D → Kd → Prop) → Prop} {r : List V → Hp → VK → Prop} (ho : ∀ (W : WX) (σ : L2.St) (H : Hp) (A O : AP) (ρ : List Sl) (Xf : XF) (Qd : D → Kd → List Sl → Prop) (Q : VK) (ds : List D) (vs : List V), WkL X.K H A ds vs → Mt X.K Ts H A O ρ σ → Cn X.K Ts W σ H A O Xf Qd Q → g ds (fun z κ => Qd z κ ρ) → r vs H Q)
    {σ : L2.St} {H : Hp} {Q : VK} (h : upE X.K Ts W (dBlt g ta) σ H Q) : tCB r (upW X.K Ts W ta) σ H Q := by
  obtain ⟨A, O, ρ, Xf, Qd, m, h, c⟩ := h
  exact ⟨A, O, ρ, Xf, _, m, h, fun ds ρ1 vs H1 A1 O1 h1 s1 t1 m1 r1 => ho W σ H1 A1 O1 ρ1 Xf Qd Q ds vs r1 m1 (c.move s1 t1 m) h1, c.x⟩
theorem de_callB {x : Str} {id : String} {p : Pos} {g : List D → (D → Kd → Prop) → Prop} (hc : DCl X Ts (.builtin id) g) (hg : Gl X x) (hm : X.mg x = none) (hv : bootBuiltins x = some (.builtin id)) (ha : PA X (e :: es) (upW X.K Ts W ta)) (hn : x ≠ "__name__" := by decide) (hdb : (x == ("__debug__" : Str)) = false := by decide)
    (hs : starEach (e :: es) X.env = (false, eval e X.env) :: starEach es X.env := by rfl) (hb : (backTo pos (starEach es X.env)).any (·.1) = false := by rfl) : PE X (.Call (.Name x p) (e :: es) [] pos) (upE X.K Ts W (dBlt g ta)) := by
  obtain ⟨r, h1, h2⟩ := hc
  exact (pe_callB h1 hg hm hv ha hn hdb hs hb).imp fun σ H Q h => up_blt h2 h
theorem de_callTy {x : Str} {T : String} {p : Pos} {g : List D → (D → Kd → Prop) → Prop} (hc : DCl X Ts (.type T) g) (hg : Gl X x) (hm : X.mg x = none) (hv : bootBuiltins x = some (.type T)) (ha : PA X (e :: es) (upW X.K Ts W ta)) (hn : x ≠ "__name__" := by decide) (hdb : (x == ("__debug__" : Str)) = false := by decide)
    (hs : starEach (e :: es) X.env = (false, eval e X.env) :: starEach es X.env := by rfl) (hb : (backTo pos (starEach es X.env)).any (·.1) = false := by rfl) : PE X (.Call (.Name x p) (e :: es) [] pos) (upE X.K Ts W (dBlt g ta)) := by
  obtain ⟨r, h1, h2⟩ := hc
  exact (pe_callTy h1 hg hm hv ha hn hdb hs hb).imp fun σ H Q h => up_blt h2 h
theorem WkL.one {K : PySem.W.Frag} {H : Hp} {A : AP} {d : D} {vs : List V} (h : WkL K H A [d] vs) : ∃ v, vs = [v] ∧ Wk K H A d v := by
  simp only [WkL] at h
  obtain ⟨v, t, rfl, h1, rfl⟩ := h
  exact ⟨v, rfl, h1⟩
theorem WkL.two {K : PySem.W.Frag} {H : Hp} {A : AP} {d e : D} {vs : List V} (h : WkL K H A [d, e] vs) : ∃ v w, vs = [v, w] ∧ Wk K H A d v ∧ Wk K H A e w := by
  simp only [WkL] at h
  obtain ⟨v, t, rfl, h1, w, t2, rfl, h2, rfl⟩ := h
  exact ⟨v, w, rfl, h1, h2⟩
def gLen : List D → (D → Kd → Prop) → Prop
  | [.lst ds], Q => Q (.int ds.length) .sh
  | [.tup ds], Q => Q (.int ds.length) .sh
  | [.scr ds], Q => Q (.int ds.length) .sh
  | [.str z], Q => z.length ≤ sizeLine ∧ Q (.int (z.length : Nat)) .sh
  | _, _ => False
theorem dcl_len : DCl X Ts (.builtin "len") gLen := by
  refine ⟨_, call_len, fun W σ H A O ρ Xf Qd Q ds vs hd m c q => ?_⟩
  unfold gLen at q
  split at q
  · obtain ⟨v, rfl, w⟩ := hd.one
    obtain ⟨a, ws, rfl, h1, h2⟩ := w.lst
    exact ⟨_, ws.length, rfl, .inl ⟨ws, SqL.of h1, rfl⟩, by rw [← h2.len]; exact c.flat m q Rp.int⟩
  · obtain ⟨v, rfl, w⟩ := hd.one
    obtain ⟨a, ws, rfl, h1, h2⟩ := w.tup
    exact ⟨_, ws.length, rfl, .inr ⟨ws, h1, rfl⟩, by rw [← h2.len]; exact c.flat m q Rp.int⟩
  · obtain ⟨v, rfl, w⟩ := hd.one
    obtain ⟨a, rfl, h1⟩ := w.scr
    exact ⟨_, _, rfl, .inl ⟨_, h1.sq, rfl⟩, by rw [List.length_map]; exact c.flat m q Rp.int⟩
  · obtain ⟨v, rfl, w⟩ := hd.one
    rw [w.str]
    exact ⟨_, _, rfl, ⟨q.1, rfl⟩, c.flat m q.2 Rp.int⟩
  · exact q.elim
def gInt : List D → (D → Kd → Prop) → Prop
  | [.int i], Q => Q (.int i) .sh
  | [.bl k], Q => Q (.int (if k then 1 else 0)) .sh
  | _, _ => False
theorem dcl_int : DCl X Ts (.type "int") gInt := by
  refine ⟨_, call_int1, fun W σ H A O ρ Xf Qd Q ds vs hd m c q => ?_⟩
  unfold gInt at q
  split at q
  · obtain ⟨v, rfl, w⟩ := hd.one
    rw [w.int]; exact .inl ⟨_, rfl, c.flat m q Rp.int⟩
  · obtain ⟨v, rfl, w⟩ := hd.one
    rw [w.bl]; exact .inr ⟨_, rfl, c.flat m q Rp.int⟩
  · exact q.elim
def gAbs : List D → (D → Kd → Prop) → Prop
  | [.int i], Q => Q (.int (if i < 0 then -i else i)) .sh
  | _, _ => False
theorem dcl_abs : DCl X Ts (.builtin "abs") gAbs := by
  refine ⟨_, call_abs, fun W σ H A O ρ Xf Qd Q ds vs hd m c q => ?_⟩
  unfold gAbs at q
  split at q
  · obtain ⟨v, rfl, w⟩ := hd.one
    rw [w.int]; exact ⟨_, rfl, c.flat m q Rp.int⟩
  · exact q.elim
def gMax : List D → (D → Kd → Prop) → Prop
  | [.int i, .int j], Q => Q (.int (if j > i then j else i)) .sh
  | _, _ => False
def gMin : List D → (D → Kd → Prop) → Prop
  | [.int i, .int j], Q => Q (.int (if j < i then j else i)) .sh
  | _, _ => False
theorem dcl_max (hc : X.calm = true) : DCl X Ts (.builtin "max") gMax := by
  refine ⟨_, call_max2 hc, fun W σ H A O ρ Xf Qd Q ds vs hd m c q => ?_⟩
  unfold gMax at q
  split at q
  · obtain ⟨v, w, rfl, h1, h2⟩ := hd.two
    rw [h1.int, h2.int]; exact ⟨_, _, rfl, c.flat m q Rp.int⟩
  · exact q.elim
theorem dcl_min (hc : X.calm = true) : DCl X Ts (.builtin "min") gMin := by
  refine ⟨_, call_min2 hc, fun W σ H A O ρ Xf Qd Q ds vs hd m c q => ?_⟩
  unfold gMin at q
  split at q
  · obtain ⟨v, w, rfl, h1, h2⟩ := hd.two
    rw [h1.int, h2.int]; exact ⟨_, _, rfl, c.flat m q Rp.int⟩
  · exact q.elim
def gTuple : List D → (D → Kd → Prop) → Prop
  | [.lst ds], Q => Q (.tup ds) .sh
  | [.tup ds], Q => Q (.tup ds) .sh
  | _, _ => False
def gList : List D → (D → Kd → Prop) → Prop
  | [.lst ds], Q => Q (.lst ds) .fr
  | [.tup ds], Q => Q (.lst ds) .fr
  | _, _ => False
theorem dcl_tuple : DCl X Ts (.type "tuple") gTuple := by
  refine ⟨_, call_tuple_of, fun W σ H A O ρ Xf Qd Q ds vs hd m c q => ?_⟩
  unfold gTuple at q
  split at q
  · obtain ⟨v, rfl, w⟩ := hd.one
    obtain ⟨a, ws, rfl, h1, h2⟩ := w.lst
    exact ⟨a, ws, rfl, .inl ⟨SqL.of h1, fun p hp => c.sh m (Sm.new hp) q (Rp.tup (SqT.of upd_same) (h2.sm (Sm.new hp)))⟩⟩
  · obtain ⟨v, rfl, w⟩ := hd.one
    obtain ⟨a, ws, rfl, h1, h2⟩ := w.tup
    exact ⟨a, ws, rfl, .inr ⟨h1, c.flat m q (Rp.tup h1 h2)⟩⟩
  · exact q.elim
theorem dcl_list : DCl X Ts (.type "list") gList := by
  refine ⟨_, call_list_of, fun W σ H A O ρ Xf Qd Q ds vs hd m c q => ?_⟩
  unfold gList at q
  split at q
  · obtain ⟨v, rfl, w⟩ := hd.one
    obtain ⟨a, ws, rfl, h1, h2⟩ := w.lst
    exact ⟨a, ws, rfl, .inl (SqL.of h1), fun p hp => c.fr m hp q h2⟩
  · obtain ⟨v, rfl, w⟩ := hd.one
    obtain ⟨a, ws, rfl, h1, h2⟩ := w.tup
    exact ⟨a, ws, rfl, .inr h1, fun p hp => c.fr m hp q h2⟩
  · exact q.elim
/-! ### x.append(e), x a list of one's own -/
def owAt (ρ : List Sl) (i : Nat) (Q : List D → Prop) : Prop := match ρ[i]? with
  | some (.ow ds) => Q ds
  | _ => False
theorem owAt.get {ρ : List Sl} {i : Nat} {Q : List D → Prop} (h : owAt ρ i Q) : ∃ ds, ρ[i]? = some (.ow ds) ∧ Q ds := by
  unfold owAt at h
  split at h
  · exact ⟨_, by assumption, h⟩
  · exact h.elim
def dApp (i : Nat) (te : DE) : DS := fun X N ρ => owAt ρ i fun _ => te X ρ fun d κ ρ1 => κ ≠ .bo ∧ owAt ρ1 i fun ds => ds.length < sizeLine ∧ N.nx (ρ1.set i (.ow (ds ++ [d])))
theorem ds_append {i : Nat} {x : Str} {p apos cpos pos' : Pos} (hN : X.N[i]? = some x) (hv : Vis X.env.scope x) (he : PE X e (upE X.K Ts W te)) (hd : (x == ("__debug__" : Str)) = false := by decide) (hcd : (x == ("__classdict__" : Str)) = false := by decide)
    (hbase : attributeBase (.Name x p) "append" X.env (eval (.Name x p) X.env) = eval (.Name x p) X.env := by rfl)
    (hfew : ((backTo cpos (starEach [e] X.env)).all (fun x => !x.1) && (backToKw cpos (keywordEach [] X.env)).all (fun x => x.1.isSome) && decide (([e] : List Expr).length + ([] : List Keyword).length + (if ([] : List Keyword).isEmpty then 0 else 1) < 30)) = true := by rfl)
    (hline : (apos.endLine == cpos.line) = true := by rfl) (hs : starEach [e] X.env = (false, eval e X.env) :: starEach [] X.env := by rfl) (hplain : (backTo cpos (starEach [] X.env)).any (·.1) = false := by rfl)
    (hsw : swapsWith (.Call (.Attribute (.Name x p) "append" apos) [e] [] cpos) none pos'.line X.env = pure false := by rfl) :
    PS X (.Expr (.Call (.Attribute (.Name x p) "append" apos) [e] [] cpos) pos') (upS X.K Ts W (dApp i te)) := by
  refine (ps_expr (pe_bm PySem.F.plainAttrs_list PySem.F.slot_list_append PySem.F.type_list_append mt_append (pe_var hN hv hd hcd) (pa_cons he pa_nil hs) hbase hfew hline hs hplain) hsw).imp fun E σ H h => ?_
  obtain ⟨A, O, ρ, Xf, N, m, h, c⟩ := h
  obtain ⟨ds0, e0, h⟩ := h.get
  obtain ⟨a, vs0, h1, h2, h3, h4⟩ := m.ow i ds0 e0
  refine ⟨_, h1, .inl ⟨rfl, vs0, SqL.of h3⟩, ?_⟩
  refine ⟨A, O, ρ, Xf, _, m, h, fun d κ ρ1 v H1 A1 O1 q s1 t1 m1 r1 => ?_, fun x ρ' cls od H' A' O' => c.x x ρ' cls od σ H' A' O'⟩
  obtain ⟨nb, q⟩ := q
  obtain ⟨ds, e1, q⟩ := q.get
  obtain ⟨b, vs, g1, g2, g3, g4⟩ := m1.ow i ds e1
  rw [h1] at g1
  cases g1
  refine ⟨a, vs, v, rfl, rfl, g3, by rw [← g4.len]; exact q.1, ?_⟩
  obtain ⟨_, m2, t2⟩ := m1.put (es := ds ++ [d]) (vs := vs ++ [v]) e1 h1 g3 g2 (g4.app (RpL.cons (r1.rp nb) RpL.nil))
  exact c.nx _ σ _ _ _ q.2 (t1.trans t2 m.trk) m2
end
/-! ### what is walked -/
structure Wlk (K : PySem.W.Frag) (H : Hp) (A O : AP) (lent : Bool) (J : It) (ds : List D) : Prop where
  ex : ∃ (G : Hp → Prop) (Y : Nat → Hp → V → Hp → Prop), Walk J ds.length G Y ∧ (∀ H1 A1 O1, Tr A O H A1 O1 H1 → (lent = true → Sm H H1) → G H1) ∧
    ∀ i H1 A1 O1 x H2, i < ds.length → Tr A O H A1 O1 H1 → (lent = true → Sm H H1) → Y i H1 x H2 → Sm H1 H2 ∧ ∃ d, ds[i]? = some d ∧ Rp K H2 A1 d x
abbrev DI := XF → List Sl → (List D → Bool → List Sl → Prop) → Prop
structure CnI (K : PySem.W.Frag) (Ts : AP) (W : WX) (σ : L2.St) (H : Hp) (A O : AP) (X : XF) (Qd : List D → Bool → List Sl → Prop) (R : It → Hp → Prop) : Prop where
  q : ∀ ds lent ρ' J H' A' O', Qd ds lent ρ' → Sm H H' → Tr A O H A' O' H' → Mt K Ts H' A' O' ρ' σ → Wlk K H' A' O' lent J ds → R J H'
  x : ∀ x ρ' cls od H' A' O', X x ρ' → Tr A O H A' O' H' → Mt K Ts H' A' O' ρ' σ → XR K H' A' x cls od → W cls od σ H'
def upI (K : PySem.W.Frag) (Ts : AP) (W : WX) (t : DI) : TI := fun σ H R => ∃ A O ρ X Qd, Mt K Ts H A O ρ σ ∧ t X ρ Qd ∧ CnI K Ts W σ H A O X Qd R
theorem _root_.L2.PI.imp {X : Cx} {tg e : Expr} {t t' : TI} (h : PI X tg e t) (i : ∀ σ H R, t' σ H R → t σ H R) : PI X tg e t' := ⟨fun pins s σ H R I q => h.run pins s σ H R I (i σ H R q)⟩
section
variable {X : Cx} {Ts : AP} {W : WX} {e tg : Expr} {es : List Expr} {te : DE} {ta : DA} {pos p : Pos}
/-- a list, a tuple, a text -/
def iAny (K : PySem.W.Frag) (tl : TE) : TI := fun σ H R => tl σ H fun x H1 => (∃ a, x = .ref a ∧ ((∃ xs, SqL K H1 a xs) ∧ R (Itl K a) H1 ∨ (∃ xs, SqT K H1 a xs) ∧ R (Itt K a) H1)) ∨ ∃ z, x = .str z ∧ R (Its z) H1
theorem pi_any {l : Expr} {tl : TE} (hl : PE X l tl) : PI X tg l (iAny X.K tl) := by
  refine ⟨fun pins s σ H R I h => ?_⟩
  refine thn (hl.run pins s σ H _ I h) fun v s1 ⟨x, H1, I1, r1, q⟩ => ?_
  rcases q with ⟨a, rfl, q⟩ | ⟨z, rfl, q⟩
  · obtain rfl : v = Value.ref a := r1
    rcases q with ⟨⟨xs, hq⟩, q⟩ | ⟨⟨xs, hq⟩, q⟩
    · obtain ⟨its, rv, p, hz⟩ := I1.list hq
      refine wpAny_pyIter_list p.isList ?_
      refine ⟨s1.heap.objs.size, [s1.heap.objs.size], _, _, H1, rfl, I1.kept (t' := s1.toks) fun b o e => Heap.get?_push_of_some _ e, turn_list a _, ⟨_, Heap.get?_push_size _ rfl, rfl, rfl⟩, fun b hb => ?_, q⟩
      rw [List.mem_singleton.mp hb]
      exact I1.fpOk (Nat.le_refl _) (I1.hok.fresh (Nat.le_refl _))
    · obtain ⟨its, rv, p, hz⟩ := I1.tuple hq
      refine wpAny_pyIter_tuple (show s1.heap.IsTuple a its.toArray from p) ?_
      refine ⟨s1.heap.objs.size, [s1.heap.objs.size], _, _, H1, rfl, I1.kept (t' := s1.toks) fun b o e => Heap.get?_push_of_some _ e, turn_tuple a _, ⟨_, Heap.get?_push_size _ rfl, rfl, rfl⟩, fun b hb => ?_, q⟩
      rw [List.mem_singleton.mp hb]
      exact I1.fpOk (Nat.le_refl _) (I1.hok.fresh (Nat.le_refl _))
  · obtain ⟨t, rfl⟩ := r1
    cases ha : z.cps.all (· < 128)
    · exact wpAny_pyIter_wide ha (pi_one (tk := s1.toks) I1 _ (turn_str _ z t "str_iterator" (.inr rfl)) ⟨_, Heap.get?_push_size _ rfl, rfl, rfl⟩ q)
    · exact wpAny_pyIter_ascii ha (pi_one (tk := s1.toks) I1 _ (turn_str _ z t "str_ascii_iterator" (.inl rfl)) ⟨_, Heap.get?_push_size _ rfl, rfl, rfl⟩ q)
theorem yat_len {xs : List V} {n : Nat} (e : xs.length = n) {J : It} {G : Hp → Prop} {Y : Nat → Hp → V → Hp → Prop} (w : Walk J xs.length G Y) : Walk J n G Y := by rw [← e]; exact w
theorem wlk_list {K : PySem.W.Frag} {H : Hp} {A O : AP} {lent : Bool} {a : Addr} {vs : List V} {ds : List D} (h : H a = some (.lst vs)) (r : RpL K H A ds vs) (hO : ∀ b, O b → A b) (hl : lent = true ∨ ¬ A a) : Wlk K H A O lent (Itl K a) ds := by
  refine ⟨_, _, yat_len r.len.symm walk_list, fun H1 A1 O1 t l => ?_, fun i H1 A1 O1 x H2 hi t l y => ?_⟩
  · rcases hl with hl | hl
    · exact SqL.of ((l hl).st a _ h fun _ z => by cases z)
    · exact SqL.of (t.kp.st a _ h (fun _ z => hl (hO a z)) fun _ z => by cases z)
  · obtain ⟨rfl, y⟩ := y
    obtain ⟨d, e, q⟩ := r.get y
    exact ⟨Sm.refl, d, e, q.tr t hO⟩
theorem wlk_tup {K : PySem.W.Frag} {H : Hp} {A O : AP} {lent : Bool} {a : Addr} {vs : List V} {ds : List D} (h : SqT K H a vs) (r : RpL K H A ds vs) (hO : ∀ b, O b → A b) : Wlk K H A O lent (Itt K a) ds := by
  refine ⟨_, _, yat_len r.len.symm walk_tup, fun H1 A1 O1 t l => ?_, fun i H1 A1 O1 x H2 hi t l y => ?_⟩
  · exact sqt_keep (fun u hu q => t.kp.st a u q (fun m => by rcases hu with rfl | ⟨x, rfl⟩ <;> exact m.elim) (by rintro ps rfl; rcases hu with z | ⟨_, z⟩ <;> cases z)) h
  · obtain ⟨rfl, y⟩ := y
    obtain ⟨d, e, q⟩ := r.get y
    exact ⟨Sm.refl, d, e, q.tr t hO⟩
theorem wlk_scr {K : PySem.W.Frag} {H : Hp} {A O : AP} {lent : Bool} {a : Addr} {ns : List Int} (h : ScrAt K H a (ns.map V.int)) (hO : ∀ b, O b → A b) : Wlk K H A O lent (Itl K a) (ns.map .int) := by
  have r : RpL K H A (ns.map D.int) (ns.map V.int) := RpL.ints
  refine ⟨_, _, yat_len r.len.symm walk_list, fun H1 A1 O1 t l => ?_, fun i H1 A1 O1 x H2 hi t l y => ?_⟩
  · exact ScrAt.sq (scr_keep (fun o u q => t.kp.st a _ q (fun m => m.elim) (fun ps z => by cases z)) h)
  · obtain ⟨rfl, y⟩ := y
    obtain ⟨d, e, q⟩ := r.get y
    exact ⟨Sm.refl, d, e, q.tr t hO⟩
def chD (z : Str) : List D := z.cps.toList.map fun c => .str ⟨#[c]⟩
theorem wlk_str {K : PySem.W.Frag} {H : Hp} {A O : AP} {lent : Bool} {z : Str} : Wlk K H A O lent (Its z) (chD z) := by
  have e : z.cps.size = (chD z).length := by unfold chD; rw [List.length_map, Array.length_toList]
  refine ⟨_, _, e ▸ walk_str, fun H1 A1 O1 t l => trivial, fun i H1 A1 O1 x H2 hi t l y => ?_⟩
  obtain ⟨rfl, c, hc, rfl⟩ := y
  refine ⟨Sm.refl, .str ⟨#[c]⟩, ?_, Rp.str⟩
  unfold chD
  rw [List.getElem?_map, Array.getElem?_toList, hc]
  rfl
/-- over a value; lent: it is a list of one's own -/
def diVal (te : DE) : DI := fun X ρ Q => te X ρ fun d κ ρ1 => match d with
  | .lst ds => Q ds (match κ with | .bo => true | _ => false) ρ1
  | .tup ds => Q ds false ρ1
  | .scr ns => Q (ns.map .int) false ρ1
  | .str z => Q (chD z) false ρ1
  | _ => False
theorem di_val (he : PE X e (upE X.K Ts W te)) : PI X tg e (upI X.K Ts W (diVal te)) := by
  refine (pi_any he).imp fun σ H R h => ?_
  obtain ⟨A, O, ρ, Xf, Qd, m, h, c⟩ := h
  refine ⟨A, O, ρ, Xf, _, m, h, fun d κ ρ1 v H1 A1 O1 h1 s1 t1 m1 r1 => ?_, c.x⟩
  split at h1
  · cases κ with
    | bo =>
      obtain ⟨a, vs, rfl, g1, g2⟩ := r1.wk.lst
      exact .inl ⟨a, rfl, .inl ⟨⟨vs, SqL.of g1⟩, c.q _ _ ρ1 _ H1 A1 O1 h1 s1 t1 m1 (wlk_list g1 g2 m1.sub (.inl rfl))⟩⟩
    | sh =>
      have r2 := r1.rp (by simp)
      unfold Rp at r2
      obtain ⟨a, vs, rfl, g1, g0, g2⟩ := r2
      exact .inl ⟨a, rfl, .inl ⟨⟨vs, SqL.of g1⟩, c.q _ _ ρ1 _ H1 A1 O1 h1 s1 t1 m1 (wlk_list g1 g2 m1.sub (.inr g0))⟩⟩
    | fr =>
      have r2 := r1.rp (by simp)
      unfold Rp at r2
      obtain ⟨a, vs, rfl, g1, g0, g2⟩ := r2
      exact .inl ⟨a, rfl, .inl ⟨⟨vs, SqL.of g1⟩, c.q _ _ ρ1 _ H1 A1 O1 h1 s1 t1 m1 (wlk_list g1 g2 m1.sub (.inr g0))⟩⟩
  · obtain ⟨a, vs, rfl, g1, g2⟩ := r1.wk.tup
    exact .inl ⟨a, rfl, .inr ⟨⟨vs, g1⟩, c.q _ _ ρ1 _ H1 A1 O1 h1 s1 t1 m1 (wlk_tup g1 g2 m1.sub)⟩⟩
  · obtain ⟨a, rfl, g1⟩ := r1.wk.scr
    exact .inl ⟨a, rfl, .inl ⟨⟨_, g1.sq⟩, c.q _ _ ρ1 _ H1 A1 O1 h1 s1 t1 m1 (wlk_scr g1 m1.sub)⟩⟩
  · exact .inr ⟨_, r1.wk.str, c.q _ _ ρ1 _ H1 A1 O1 h1 s1 t1 m1 wlk_str⟩
  · exact h1.elim
def rngD (n : Nat) : List D := (List.range n).map fun k : Nat => .int (k : Int)
theorem wlk_rng {K : PySem.W.Frag} {H : Hp} {A O : AP} {lent : Bool} {n : Nat} : Wlk K H A O lent (Itr 0 n) (rngD n) := by
  have e : n = (rngD n).length := by unfold rngD; rw [List.length_map, List.length_range]
  refine ⟨fun _ => True, YFn fun i => .int (0 + i), e ▸ walk_range, fun H1 A1 O1 t l => trivial, fun i H1 A1 O1 x H2 hi t l y => ?_⟩
  obtain ⟨rfl, rfl⟩ := y
  refine ⟨Sm.refl, .int i, ?_, by show Rp K H2 A1 (.int (i : Nat)) (.int (0 + (i : Nat))); rw [Int.zero_add]; exact Rp.int⟩
  unfold rngD
  rw [List.getElem?_map, List.getElem?_range (by rw [← e] at hi; exact hi)]
  rfl
/-- range(n) -/
def diRng (ta : DA) : DI := fun X ρ Q => ta X ρ fun ds ρ1 => match ds with
  | [.int n] => -(2 ^ 62) ≤ n ∧ n < 2 ^ 62 ∧ Q (rngD n.toNat) false ρ1
  | _ => False
theorem di_rng {a : Expr} (hg : Gl X "range") (hm : X.mg "range" = none) (ha : PA X [a] (upW X.K Ts W ta)) (hs : starEach [a] X.env = [(false, eval a X.env)] := by rfl) : PI X tg (.Call (.Name "range" p) [a] [] pos) (upI X.K Ts W (diRng ta)) := by
  refine (pi_range1 hg hm ha hs).imp fun σ H R h => ?_
  obtain ⟨A, O, ρ, Xf, Qd, m, h, c⟩ := h
  refine ⟨A, O, ρ, Xf, _, m, h, fun ds ρ1 vs H1 A1 O1 h1 s1 t1 m1 r1 => ?_, c.x⟩
  split at h1
  · obtain ⟨v, rfl, w⟩ := r1.one
    rw [w.int]
    exact ⟨_, rfl, h1.1, h1.2.1, c.q _ _ ρ1 _ H1 A1 O1 h1.2.2 s1 t1 m1 wlk_rng⟩
  · exact h1.elim
def enD (ds : List D) : List D := (ds.zipIdx).map fun z => .tup [.int (z.2 : Nat), z.1]
theorem wlk_enum {K : PySem.W.Frag} {H : Hp} {A O : AP} {lent : Bool} {a : Addr} {vs : List V} {ds : List D} (h : H a = some (.lst vs)) (r : RpL K H A ds vs) (hO : ∀ b, O b → A b) (hl : lent = true ∨ ¬ A a) : Wlk K H A O lent (Ite K a) (enD ds) := by
  have e : vs.length = (enD ds).length := by unfold enD; rw [List.length_map, List.length_zipIdx, r.len]
  refine ⟨_, _, e ▸ walk_enum, fun H1 A1 O1 t l => ?_, fun i H1 A1 O1 x H2 hi t l y => ?_⟩
  · rcases hl with hl | hl
    · exact SqL.of ((l hl).st a _ h fun _ z => by cases z)
    · exact SqL.of (t.kp.st a _ h (fun _ z => hl (hO a z)) fun _ z => by cases z)
  · obtain ⟨T, u, v, rfl, hT, rfl, eu, ev⟩ := y
    obtain ⟨d, e1, q⟩ := r.get ev
    cases eu
    refine ⟨Sm.new hT, .tup [.int (i : Nat), d], ?_, Rp.tup (SqT.of upd_same) (RpL.cons Rp.int (RpL.cons ((q.tr t hO).sm (Sm.new hT)) RpL.nil))⟩
    unfold enD
    rw [List.getElem?_map, List.getElem?_zipIdx, e1]
    simp
/-- enumerate(a list) -/
def diEnum (te : DE) : DI := fun X ρ Q => te X ρ fun d κ ρ1 => match d with
  | .lst ds => Q (enD ds) (match κ with | .bo => true | _ => false) ρ1
  | _ => False
theorem di_enum {elts : List Expr} {kk : Nat} {tpos : Pos} (hg : Gl X "enumerate") (hm : X.mg "enumerate" = none) (he : PE X e (upE X.K Ts W te)) (hs : starEach [e] X.env = [(false, eval e X.env)] := by rfl) (hs' : starEach [e] X.env = (false, eval e X.env) :: starEach [] X.env := by rfl) :
    PI X (.Tuple elts kk tpos) (.Call (.Name "enumerate" p) [e] [] pos) (upI X.K Ts W (diEnum te)) := by
  refine (pi_enum hg hm (pa_cons he pa_nil hs') hs).imp fun σ H R h => ?_
  obtain ⟨A, O, ρ, Xf, Qd, m, h, c⟩ := h
  refine ⟨A, O, ρ, Xf, _, m, h, fun d κ ρ1 v H1 A1 O1 h1 s1 t1 m1 r1 => ?_, c.x⟩
  split at h1
  · cases κ with
    | bo =>
      obtain ⟨a, vs, rfl, g1, g2⟩ := r1.wk.lst
      exact ⟨a, vs, rfl, SqL.of g1, c.q _ _ ρ1 _ H1 A1 O1 h1 s1 t1 m1 (wlk_enum g1 g2 m1.sub (.inl rfl))⟩
    | sh =>
      have r2 := r1.rp (by simp)
      unfold Rp at r2
      obtain ⟨a, vs, rfl, g1, g0, g2⟩ := r2
      exact ⟨a, vs, rfl, SqL.of g1, c.q _ _ ρ1 _ H1 A1 O1 h1 s1 t1 m1 (wlk_enum g1 g2 m1.sub (.inr g0))⟩
    | fr =>
      have r2 := r1.rp (by simp)
      unfold Rp at r2
      obtain ⟨a, vs, rfl, g1, g0, g2⟩ := r2
      exact ⟨a, vs, rfl, SqL.of g1, c.q _ _ ρ1 _ H1 A1 O1 h1 s1 t1 m1 (wlk_enum g1 g2 m1.sub (.inr g0))⟩
  · exact h1.elim
end
/-! ### targets, for -/
abbrev DG := D → List Sl → (List Sl → Prop) → Prop
def upG (K : PySem.W.Frag) (Ts : AP) (g : DG) : TG := fun v σ H Q => ∃ A O ρ d Qd, Mt K Ts H A O ρ σ ∧ Rp K H A d v ∧ g d ρ Qd ∧ ∀ ρ' σ' A' O', Qd ρ' → Tr A O H A' O' H → Mt K Ts H A' O' ρ' σ' → Q σ' H
def upGs (K : PySem.W.Frag) (Ts : AP) (g : List D → List Sl → (List Sl → Prop) → Prop) : TGs := fun vs σ H Q => ∃ A O ρ ds Qd, Mt K Ts H A O ρ σ ∧ RpL K H A ds vs ∧ g ds ρ Qd ∧ ∀ ρ' σ' A' O', Qd ρ' → Tr A O H A' O' H → Mt K Ts H A' O' ρ' σ' → Q σ' H
theorem _root_.L2.PG.imp {X : Cx} {e : Expr} {t t' : TG} (h : PG X e t) (i : ∀ v σ H Q, t' v σ H Q → t v σ H Q) : PG X e t' := ⟨fun pins s σ H v u Q I r q => h.run pins s σ H v u Q I r (i v σ H Q q)⟩
theorem _root_.L2.PGs.imp {X : Cx} {e : List Expr} {t t' : TGs} (h : PGs X e t) (i : ∀ v σ H Q, t' v σ H Q → t v σ H Q) : PGs X e t' := ⟨fun pins s σ H v u Q I r q => h.run pins s σ H v u Q I r (i v σ H Q q)⟩
def dgName (i : Nat) : DG := fun d ρ Q => Q (ρ.set i (.va d))
def dgNil : List D → List Sl → (List Sl → Prop) → Prop := fun ds ρ Q => match ds with
  | [] => Q ρ
  | _ => False
def dgCons (g : DG) (gs : List D → List Sl → (List Sl → Prop) → Prop) : List D → List Sl → (List Sl → Prop) → Prop := fun ds ρ Q => match ds with
  | d :: r => g d ρ fun ρ1 => gs r ρ1 Q
  | [] => False
def dgTup (n : Nat) (gs : List D → List Sl → (List Sl → Prop) → Prop) : DG := fun d ρ Q => match d with
  | .tup ds => ds.length = n ∧ gs ds ρ Q
  | _ => False
section
variable {X : Cx} {Ts : AP} {W : WX} {pos : Pos}
theorem dg_name {i : Nat} {x : Str} (hN : X.N.Nodup) (hi : X.N[i]? = some x) (hx : Loc X.env.scope x) (hf : X.fn x = true ∨ X.env.scope.names.lookup x = some .local := by first | exact .inl rfl | exact .inr rfl | assumption) : PG X (.Name x pos) (upG X.K Ts (dgName i)) := by
  refine (pg_name hN hi hx hf).imp fun v σ H Q h => ?_
  obtain ⟨A, O, ρ, d, Qd, m, r, h, k⟩ := h
  obtain ⟨_, m2, t2⟩ := m.setVa (i := i) r
  exact k _ _ _ _ h t2 m2
theorem dgs_nil : PGs X [] (upGs X.K Ts dgNil) := pgs_nil.imp fun v σ H Q h => by
  obtain ⟨A, O, ρ, ds, Qd, m, r, h, k⟩ := h
  unfold dgNil at h
  split at h
  · exact ⟨r.unnil, k ρ σ A O h Tr.refl m⟩
  · exact h.elim
theorem dgs_cons {e : Expr} {es : List Expr} {g : DG} {gs : List D → List Sl → (List Sl → Prop) → Prop} (h1 : PG X e (upG X.K Ts g)) (h2 : PGs X es (upGs X.K Ts gs)) (hs : (assignEach (e :: es) X.env).map (·.2) = assign e X.env :: (assignEach es X.env).map (·.2) := by rfl) :
    PGs X (e :: es) (upGs X.K Ts (dgCons g gs)) := by
  refine (pgs_cons h1 h2 hs).imp fun v σ H Q h => ?_
  obtain ⟨A, O, ρ, ds, Qd, m, r, h, k⟩ := h
  unfold dgCons at h
  split at h
  · obtain ⟨w, t, rfl, r1, r2⟩ := r.uncons
    refine ⟨w, t, rfl, A, O, ρ, _, _, m, r1, h, fun ρ1 σ1 A1 O1 q t1 m1 => ?_⟩
    exact ⟨A1, O1, ρ1, _, _, m1, r2.tr t1 m.sub, q, fun ρ2 σ2 A2 O2 q2 t2 m2 => k ρ2 σ2 A2 O2 q2 (t1.trans t2 m.trk) m2⟩
  · exact h.elim
theorem dg_tup {es : List Expr} {k : Nat} {gs : List D → List Sl → (List Sl → Prop) → Prop} {n : Nat} (hc : X.calm = true) (h : PGs X es (upGs X.K Ts gs)) (hn : (assignEach es X.env).length = n := by rfl) (hst : (assignEach es X.env).findIdx? (·.1) = none := by rfl) :
    PG X (.Tuple es k pos) (upG X.K Ts (dgTup n gs)) := by
  refine (pg_tup hc h hn hst).imp fun v σ H Q h => ?_
  obtain ⟨A, O, ρ, d, Qd, m, r, h, k⟩ := h
  unfold dgTup at h
  split at h
  · unfold Rp at r
    obtain ⟨a, vs, rfl, g1, g2⟩ := r
    exact ⟨a, vs, rfl, g1, by rw [← g2.len]; exact h.1, A, O, ρ, _, Qd, m, g2, h.2, k⟩
  · exact h.elim
/-- (a, b) = e -/
def dAsg (te : DE) (g : DG) : DS := fun X N ρ => te X ρ fun d κ ρ1 => κ ≠ .bo ∧ g d ρ1 N.nx
theorem ds_asg {tg e : Expr} {te : DE} {g : DG} (he : PE X e (upE X.K Ts W te)) (hg : PG X tg (upG X.K Ts g)) (hs : swapsWithSole [tg] e pos.line X.env = pure false := by rfl) (hw : swappedStores [tg] e X.env = pure none := by rfl)
    (h1 : (assignEach [tg] X.env).map (·.2) = [assign tg X.env] := by rfl) : PS X (.Assign [tg] e pos) (upS X.K Ts W (dAsg te g)) := by
  refine (ps_asg he hg hs hw h1).imp fun E σ H h => ?_
  obtain ⟨A, O, ρ, Xf, N, m, h, c⟩ := h
  refine ⟨A, O, ρ, Xf, _, m, h, fun d κ ρ1 v H1 A1 O1 h1 s1 t1 m1 r1 => ?_, fun x ρ' cls od H' A' O' => c.x x ρ' cls od σ H' A' O'⟩
  exact ⟨A1, O1, ρ1, d, _, m1, r1.rp h1.1, h1.2, fun ρ2 σ2 A2 O2 q t2 m2 => c.nx ρ2 σ2 H1 A2 O2 q (t1.trans t2 m.trk) m2⟩
/-- for: I by the turn and the slots -/
def dFor (ti : DI) (g : DG) (tb : DS) : DS := fun X N ρ => ti X ρ fun ds lent ρ1 => lent = false ∧ ∃ I : Nat → List Sl → Prop, I 0 ρ1 ∧
  (∀ k d ρ', ds[k]? = some d → I k ρ' → g d ρ' fun ρ2 => tb X { nx := I (k + 1), ct := I (k + 1), bk := N.nx, rt := N.rt } ρ2) ∧ ∀ ρ', I ds.length ρ' → N.nx ρ'
theorem ds_for {tg iter : Expr} {body : List Stmt} {ti : DI} {g : DG} {tb : DS} (hp : PassesOwn (model X.prog X.w) X.A X.env X.xe) (hc : X.calm = true) (hi : PI X tg iter (upI X.K Ts W ti)) (hg : PG X tg (upG X.K Ts g)) (hb : PSs X body (upS X.K Ts W tb))
    (hs : ∀ x, foldedSetIterable iter X.env x = pure x := by intro _; rfl) : PS X (.For tg iter body [] pos) (upS X.K Ts W (dFor ti g tb)) := by
  refine (ps_for hp hc hi hg hb hs).imp fun E σ H h => ?_
  obtain ⟨A, O, ρ, Xf, N, m, h, c⟩ := h
  refine ⟨A, O, ρ, Xf, _, m, h, fun ds lent ρ1 J H1 A1 O1 h1 s1 t1 m1 w1 => ?_, fun x ρ' cls od H' A' O' => c.x x ρ' cls od σ H' A' O'⟩
  obtain ⟨el, I, i0, step, done⟩ := h1
  subst el
  obtain ⟨G, Y, w, hG, hY⟩ := w1.ex
  have c1 := c.move t1 m
  refine for_it w (fun k σ' H' => ∃ A' O' ρ', Tr A1 O1 H1 A' O' H' ∧ Mt X.K Ts H' A' O' ρ' σ' ∧ I k ρ') ⟨A1, O1, ρ1, Tr.refl, m1, i0⟩ (fun k σ' H' hk p => ?_) (fun k x σ' H' H'' hk p y => ?_) fun σ' H' p => ?_
  · obtain ⟨A', O', ρ', t', m', _⟩ := p
    exact hG H' A' O' t' fun z => by cases z
  · obtain ⟨A', O', ρ', t', m', i'⟩ := p
    obtain ⟨s2, d, ed, rd⟩ := hY k H' A' O' x H'' hk t' (fun z => by cases z) y
    have t2 : Tr A1 O1 H1 A' O' H'' := t'.trans (Tr.of s2) m1.trk
    refine ⟨A', O', ρ', d, _, m'.sm s2, rd, step k d ρ' ed i', fun ρ2 σ2 A2 O2 q t3 m3 => ?_⟩
    have t23 := t2.trans t3 m1.trk
    have c2 := c1.move t23 m1
    refine ⟨A2, O2, ρ2, Xf, _, m3, q, fun ρ4 σ4 H4 A4 O4 q4 t4 m4 => ?_, fun ρ4 σ4 H4 A4 O4 q4 t4 m4 => ?_, fun ρ4 σ4 H4 A4 O4 q4 t4 m4 => ?_, c2.rt, c2.x⟩
    · exact ⟨A4, O4, ρ4, t23.trans t4 m1.trk, m4, q4⟩
    · exact c2.nx ρ4 σ4 H4 A4 O4 q4 t4 m4
    · exact ⟨A4, O4, ρ4, t23.trans t4 m1.trk, m4, q4⟩
  · obtain ⟨A', O', ρ', t', m', i'⟩ := p
    exact c1.nx ρ' σ' H' A' O' (done ρ' i') t' m'
end
end DL

-- part DL5
set_option Elab.async false
set_option linter.all false
set_option maxRecDepth 100000
set_option maxHeartbeats 2000000
/-! comprehensions, all and any; calls of the program's defs, methods, properties; fields -/
namespace DL
open PySem PySem.Spec PyProof.Rows L2 GxR GS GA GD
/-- nothing is let out -/
abbrev W0 : WX := fun _ _ _ _ => False
abbrev X0 : XF := fun _ _ => False
/-- the slots as they were -/
def same (ρ : List Sl) (ρ' : List Sl) : Prop := ρ' = ρ
section
variable {K : PySem.W.Frag} {Ts A O A' O' : AP} {H H' : Hp} {ρ : List Sl} {σ : L2.St}
theorem wipe1 (σ : L2.St) (i : Nat) (x : Option V) : ((wipe σ [i]).set i x) = σ.set i x := by
  show (σ.set i none).set i x = _
  rw [List.set_set]
end
/-! ### [e for x in xs if t] -/
def dLc (ti : DI) (i : Nat) (tt : DT) (te : DE) : DE := fun X ρ Q => ti X ρ fun ds _ ρ1 => ds.length ≤ sizeLine ∧ ∃ f : D → Option D,
  (∀ d ∈ ds, tt X0 (ρ1.set i (.va d)) fun b ρ2 => if b = true then te X0 ρ2 fun z κ ρ3 => κ ≠ .bo ∧ ρ3 = ρ1.set i (.va d) ∧ f d = some z else f d = none) ∧ Q (.lst (ds.filterMap f)) .fr ρ1
def dYes : DT := fun _ ρ Q => Q true ρ
structure Dts (X : Cx) (Ts : AP) (ifs : List Expr) (t : DT) : Prop where
  run : PTs X ifs (upT X.K Ts W0 t)
theorem dts_nil {X : Cx} {Ts : AP} : PTs X [] (upT X.K Ts W0 dYes) := ⟨fun pins s σ H Q I h => pts_nil.run pins s σ H Q I (by
  obtain ⟨A, O, ρ, Xf, Qd, m, h, c⟩ := h
  exact c.q true ρ H A O h Sm.refl Tr.refl m)⟩
theorem dts_one {X : Cx} {Ts : AP} {c : Expr} {t : DT} (h : PT X c (upT X.K Ts W0 t)) : PTs X [c] (upT X.K Ts W0 t) := pts_one h
section
variable {X : Cx} {Ts : AP} {W : WX}
theorem up_lc {ti : DI} {i : Nat} {tt : DT} {te : DE} {σ : L2.St} {H : Hp} {Q : VK} (h : upE X.K Ts W (dLc ti i tt te) σ H Q) : tLc (upI X.K Ts W ti) (gName i) (upT X.K Ts W0 tt) (upE X.K Ts W0 te) [i] σ H Q := by
  obtain ⟨A, O, ρ, Xf, Qd, m, h, c⟩ := h
  refine ⟨A, O, ρ, Xf, _, m, h, fun ds lent ρ1 J H1 A1 O1 h1 s1 t1 m1 w1 => ?_, c.x⟩
  obtain ⟨hz, f, hf, hq⟩ := h1
  have c1 := c.move s1 t1 m
  obtain ⟨G, Y, w, hG, hY⟩ := w1.ex
  intro Dd hD
  have mD : ∀ {H' : Hp}, Sm H1 H' → H' Dd ≠ none → Mt X.K Ts H' (fun b => A1 b ∨ b = Dd) O1 ρ1 σ := fun s n => m1.fresh hD s n
  have tD : ∀ {H' : Hp}, Sm H1 H' → Tr A1 O1 H1 (fun b => A1 b ∨ b = Dd) O1 H' := fun s => ⟨Kp.of s, fun b z => z.imp id fun q => by rw [q]; exact hD, fun b z _ => .inl z, fun b z => .inl z⟩
  refine lc_it w (Qd := fun H => Q (.ref Dd) H) (fun k H' => Sm H1 H' ∧ ∃ vs, H' Dd = some (.lst vs) ∧ RpL X.K H' (fun b => A1 b ∨ b = Dd) ((ds.take k).filterMap f) vs) ⟨Sm.new hD, [], upd_same, RpL.nil⟩ (fun k H' _ p => hG H' A1 O1 (Tr.of p.1) fun _ => p.1) (fun k x H' H'' hk p y => ?_) fun H' p => ?_
  · obtain ⟨p1, vs, p2, p3⟩ := p
    obtain ⟨s2, d, ed, rd⟩ := hY k H' (fun b => A1 b ∨ b = Dd) O1 x H'' hk (tD p1) (fun _ => p1) y
    have s12 := p1.trans s2
    have n2 : H'' Dd = some (.lst vs) := s2.st _ _ p2 fun _ z => by cases z
    have mm := mD s12 (by rw [n2]; exact fun z => by cases z)
    refine ⟨wipe_set σ i (some x), ?_⟩
    rw [wipe1]
    obtain ⟨_, m2, t2⟩ := mm.setVa (i := i) rd
    refine ⟨_, _, _, _, _, m2, hf d (List.mem_of_getElem? ed), ⟨fun b ρ2 H3 A3 O3 h3 s3 t3 m3 => ?_, fun x ρ' cls od H' A' O' z => z.elim⟩⟩
    have n3 : H3 Dd = some (.lst vs) := s3.st _ _ n2 fun _ z => by cases z
    have tk : (ds.take (k + 1)).filterMap f = (ds.take k).filterMap f ++ (match f d with | some z => [z] | none => []) := by
      rw [List.take_add_one, ed, List.filterMap_append]
      show _ ++ List.filterMap f [d] = _
      cases hfd : f d with
      | some z => rw [List.filterMap_cons_some hfd]; rfl
      | none => rw [List.filterMap_cons_none hfd]; rfl
    cases b with
    | false =>
      have h3 : f d = none := h3
      refine ifF rfl ⟨s12.trans s3, vs, n3, ?_⟩
      rw [tk, h3, List.append_nil]
      exact (p3.sm s2).sm s3
    | true =>
      refine ifT rfl ⟨A3, O3, ρ2, _, _, m3, h3, ⟨fun z κ ρ4 v H4 A4 O4 h4 s4 t4 m4 r4 => ?_, fun x ρ' cls od H' A' O' z => z.elim⟩⟩
      obtain ⟨nb, e4, ef⟩ := h4
      have n4 : H4 Dd = some (.lst vs) := s4.st _ _ n3 fun _ z => by cases z
      subst e4
      have st := m2.stay (t3.trans t4 m2.trk) (s3.trans s4) m4
      have rv : Rp X.K H4 (fun b => A1 b ∨ b = Dd) z v := (r4.rp nb).less st
      have pv : RpL X.K H4 (fun b => A1 b ∨ b = Dd) ((ds.take k).filterMap f) vs := ((p3.sm s2).sm s3).sm s4
      have hm : ∀ u, H4 Dd = some u → isM u := fun u e => by rw [n4] at e; cases e; trivial
      refine ⟨vs, n4, ?_, Sm.own ((s12.trans s3).trans s4) hD (fun P t => tabG_ne t n4 fun _ z => by cases z), vs ++ [v], upd_same, ?_⟩
      · rw [← p3.len]
        have h1 := List.length_filterMap_le f (ds.take k)
        rw [List.length_take] at h1
        omega
      · rw [tk, ef]
        exact (pv.upd (.inr rfl) hm).app (RpL.cons (rv.upd (.inr rfl) hm) RpL.nil)
  · obtain ⟨p1, vs, p2, p3⟩ := p
    rw [List.take_length] at p3
    have mm := mD p1 (by rw [p2]; exact fun z => by cases z)
    refine c1.q _ .fr ρ1 _ H' A1 O1 hq p1 (Tr.of p1) (m1.sm p1) ⟨trivial, Dd, rfl, hD, fun z => m1.trk Dd z hD, m1.fr hD p1 p2 p3⟩
theorem de_lc {elt tg iter : Expr} {ifs : List Expr} {scope : Scope} {own : List (Str × Nat)} {pos : Pos} {ti : DI} {i : Nat} {tt : DT} {te : DE} (hc : X.calm = true) (hN : X.N.Nodup) (hi : PI X tg iter (upI X.K Ts W ti)) (ok : BlkOk X.N X.env.scope scope own) (ho : own.map (·.2) = [i])
    (hg : ∀ (s : Shared) (H : Hp) (C : Addr) (cl : List (Str × Addr)) (fp : List Addr), PG (X.blk s H scope (compEnvC scope cl C X.env) fp) tg (gName i)) (ht : ∀ (s : Shared) (H : Hp) (C : Addr) (cl : List (Str × Addr)) (fp : List Addr), PTs (X.blk s H scope (compEnvC scope cl C X.env) fp) ifs (upT X.K Ts W0 tt))
    (he : ∀ (s : Shared) (H : Hp) (C : Addr) (cl : List (Str × Addr)) (fp : List Addr), PE (X.blk s H scope (compEnvC scope cl C X.env) fp) elt (upE X.K Ts W0 te)) (hs : ∀ x, foldedSetIterable iter X.env x = pure x := by intro _; rfl) :
    PE X (.ListComp elt [⟨tg, iter, ifs, 0⟩] scope pos) (upE X.K Ts W (dLc ti i tt te)) :=
  (pe_lc hc hN hi ok hg ht he hs).imp fun σ H Q h => by rw [ho]; exact up_lc h
/-- name = [..] -/
theorem ds_setLc {i j : Nat} {y : Str} {py : Pos} {elt tg iter : Expr} {ifs : List Expr} {scope : Scope} {own : List (Str × Nat)} {pos spos : Pos} {ti : DI} {tt : DT} {te : DE} (hc : X.calm = true) (hN : X.N.Nodup) (hy : X.N[j]? = some y) (hyl : X.env.scope.names.lookup y = some .local)
    (hsw : swapsWith (.ListComp elt [⟨tg, iter, ifs, 0⟩] scope pos) (some (.Name y py)) spos.line X.env = pure true) (hi : PI X tg iter (upI X.K Ts W ti)) (ok : BlkOk X.N X.env.scope scope own) (ho : own.map (·.2) = [i])
    (hg : ∀ (s : Shared) (H : Hp) (C : Addr) (cl : List (Str × Addr)) (fp : List Addr), PG (X.blk s H scope (compEnvC scope cl C X.env) fp) tg (gName i)) (ht : ∀ (s : Shared) (H : Hp) (C : Addr) (cl : List (Str × Addr)) (fp : List Addr), PTs (X.blk s H scope (compEnvC scope cl C X.env) fp) ifs (upT X.K Ts W0 tt))
    (he : ∀ (s : Shared) (H : Hp) (C : Addr) (cl : List (Str × Addr)) (fp : List Addr), PE (X.blk s H scope (compEnvC scope cl C X.env) fp) elt (upE X.K Ts W0 te)) (hs : ∀ x, foldedSetIterable iter X.env x = pure x := by intro _; rfl) :
    PS X (.Assign [.Name y py] (.ListComp elt [⟨tg, iter, ifs, 0⟩] scope pos) spos) (upS X.K Ts W (dSet j (dLc ti i tt te))) := by
  refine (ps_setLc hc hN hy hyl hsw hi ok hg ht he hs).imp fun E σ H h => ?_
  obtain ⟨A, O, ρ, Xf, N, m, h, c⟩ := h
  show tLc _ _ _ _ (own.map (·.2)) σ H _
  rw [ho]
  refine up_lc ⟨A, O, ρ, Xf, _, m, h, fun d κ ρ1 v H1 A1 O1 h1 s1 t1 m1 r1 => ?_, fun x ρ' cls od H' A' O' => c.x x ρ' cls od σ H' A' O'⟩
  obtain ⟨A2, O2, t2, m2⟩ := stored (i := j) t1 m1 s1 m.trk m.sub r1 h1.1 h1.2.1
  exact c.nx _ _ _ _ _ h1.2.2 t2 m2
/-! ### all(e for x in xs), any -/
def dGen (b : Bool) (ti : DI) (i : Nat) (te : DE) : DE := fun X ρ Q => ti X ρ fun ds _ ρ1 => ∃ f : D → Bool,
  (∀ d ∈ ds, te X0 (ρ1.set i (.va d)) fun z _ ρ3 => ρ3 = ρ1.set i (.va d) ∧ z = .bl (f d)) ∧ Q (.bl (if b then ds.any f else ds.all f)) .sh ρ1
theorem up_gen {b : Bool} {P : Addr} {ti : DI} {i : Nat} {te : DE} {σ : L2.St} {H : Hp} {Q : VK} (hP : Ts P) (h : upE X.K Ts W (dGen b ti i te) σ H Q) : tGen b P (upI X.K Ts W ti) (gName i) (upE X.K Ts W0 te) [i] σ H Q := by
  unfold tGen
  obtain ⟨A, O, ρ, Xf, Qd, m, h, c⟩ := h
  refine ⟨A, O, ρ, Xf, _, m, h, fun ds lent ρ1 J H1 A1 O1 h1 s1 t1 m1 w1 => ?_, c.x⟩
  obtain ⟨f, hf, hq⟩ := h1
  have c1 := c.move s1 t1 m
  obtain ⟨G, Y, w, hG, hY⟩ := w1.ex
  have hT := m1.tab P hP
  refine gen_it w hT (fun k H' => Sm H1 H' ∧ ∀ x ∈ ds.take k, f x ≠ b) (fun H2 t => ⟨Sm.tab hT t, by simp⟩) (fun k H' _ p => hG H' A1 O1 (Tr.of p.1) fun _ => p.1) (fun k x H' H'' hk p y => ?_) fun H' p => ?_
  · obtain ⟨s2, d, ed, rd⟩ := hY k H' A1 O1 x H'' hk (Tr.of p.1) (fun _ => p.1) y
    have s12 := p.1.trans s2
    have hm : d ∈ ds := List.mem_of_getElem? ed
    refine ⟨wipe_set σ i (some x), ?_⟩
    rw [wipe1]
    obtain ⟨_, m2, t2⟩ := (m1.sm s12).setVa (i := i) rd
    refine ⟨_, _, _, _, _, m2, hf d hm, ⟨fun z κ ρ4 v H4 A4 O4 h4 s4 t4 m4 r4 => ?_, fun x ρ' cls od H' A' O' z => z.elim⟩⟩
    obtain ⟨e4, rfl⟩ := h4
    refine ⟨f d, r4.bl, fun e => ?_, fun e => ⟨s12.trans s4, fun y hy => ?_⟩⟩
    · have e2 : (if b = true then ds.any f else ds.all f) = b := by
        cases b with
        | true => rw [if_pos rfl]; exact List.any_eq_true.mpr ⟨d, hm, e⟩
        | false =>
          rw [if_neg Bool.false_ne_true, List.all_eq_false]
          exact ⟨d, hm, by simp [e]⟩
      have hq2 : Qd (.bl b) .sh ρ1 := by rw [e2] at hq; exact hq
      exact c1.sh m1 (s12.trans s4) hq2 Rp.bl
    · rw [List.take_add_one, ed] at hy
      rcases List.mem_append.mp hy with hy | hy
      · exact p.2 y hy
      · have : y = d := by simpa using hy
        rw [this]; exact e
  · obtain ⟨p1, p2⟩ := p
    rw [List.take_length] at p2
    have e2 : (if b = true then ds.any f else ds.all f) = !b := by
      cases b with
      | true =>
        rw [if_pos rfl]
        show ds.any f = false
        rw [List.any_eq_false]
        exact fun x hx => by simpa using p2 x hx
      | false =>
        rw [if_neg Bool.false_ne_true]
        show ds.all f = true
        rw [List.all_eq_true]
        exact fun x hx => by simpa using p2 x hx
    have hq2 : Qd (.bl (!b)) .sh ρ1 := by rw [e2] at hq; exact hq
    exact c1.sh m1 p1 hq2 Rp.bl
theorem de_all {c P : Addr} {elt tg iter : Expr} {p pos gpos : Pos} {scope : Scope} {own : List (Str × Nat)} {ti : DI} {i : Nat} {te : DE} {k : Nat} (hr : Room k X.A) (hc : X.calm = true) (hN : X.N.Nodup) (hm : X.mg "all" = none) (TB : TabB X.base X.mg c P) (hP : Ts P) (hcode : X.env.code = .ref c) (ok : BlkOk X.N X.env.scope scope own) (ho : own.map (·.2) = [i]) (hi : PI X tg iter (upI X.K Ts W ti))
    (hg : ∀ (s : Shared) (H : Hp) (cl : List (Str × Addr)) (C : Addr) (code : Value) (fp : List Addr), PG (gcx X s H scope cl C code fp) tg (gName i))
    (he : ∀ (s : Shared) (H : Hp) (cl : List (Str × Addr)) (C : Addr) (code : Value) (fp : List Addr), PE (gcx X s H scope cl C code fp) elt (upE X.K Ts W0 te))
    (hncell : ∀ y ∈ scope.names, y.2 ≠ .cell := by decide +kernel) (h0 : scope.names.lookup (".0" : Str) = some .local := by decide +kernel) (hco : scope.isCoroutine = false := by rfl) (hgl : Gl X "all" := by rfl) (hs : ∀ v, genFold iter X.env v = pure v := by intro _; rfl)
    (hst : starEach [.GeneratorExp elt [⟨tg, iter, [], 0⟩] scope gpos] X.env = (false, eval (.GeneratorExp elt [⟨tg, iter, [], 0⟩] scope gpos) X.env) :: starEach [] X.env := by rfl) :
    PE X (.Call (.Name "all" p) [.GeneratorExp elt [⟨tg, iter, [], 0⟩] scope gpos] [] pos) (upE X.K Ts W (dGen false ti i te)) :=
  (pe_all hr hc hN hm TB hcode ok hi hg he hncell h0 hco hgl hs hst).imp fun σ H Q h => by rw [ho]; exact up_gen hP h
theorem de_any {c P : Addr} {elt tg iter : Expr} {p pos gpos : Pos} {scope : Scope} {own : List (Str × Nat)} {ti : DI} {i : Nat} {te : DE} {k : Nat} (hr : Room k X.A) (hc : X.calm = true) (hN : X.N.Nodup) (hm : X.mg "any" = none) (TB : TabB X.base X.mg c P) (hP : Ts P) (hcode : X.env.code = .ref c) (ok : BlkOk X.N X.env.scope scope own) (ho : own.map (·.2) = [i]) (hi : PI X tg iter (upI X.K Ts W ti))
    (hg : ∀ (s : Shared) (H : Hp) (cl : List (Str × Addr)) (C : Addr) (code : Value) (fp : List Addr), PG (gcx X s H scope cl C code fp) tg (gName i))
    (he : ∀ (s : Shared) (H : Hp) (cl : List (Str × Addr)) (C : Addr) (code : Value) (fp : List Addr), PE (gcx X s H scope cl C code fp) elt (upE X.K Ts W0 te))
    (hncell : ∀ y ∈ scope.names, y.2 ≠ .cell := by decide +kernel) (h0 : scope.names.lookup (".0" : Str) = some .local := by decide +kernel) (hco : scope.isCoroutine = false := by rfl) (hgl : Gl X "any" := by rfl) (hs : ∀ v, genFold iter X.env v = pure v := by intro _; rfl)
    (hst : starEach [.GeneratorExp elt [⟨tg, iter, [], 0⟩] scope gpos] X.env = (false, eval (.GeneratorExp elt [⟨tg, iter, [], 0⟩] scope gpos) X.env) :: starEach [] X.env := by rfl) :
    PE X (.Call (.Name "any" p) [.GeneratorExp elt [⟨tg, iter, [], 0⟩] scope gpos] [] pos) (upE X.K Ts W (dGen true ti i te)) :=
  (pe_any hr hc hN hm TB hcode ok hi hg he hncell h0 hco hgl hs hst).imp fun σ H Q h => by rw [ho]; exact up_gen hP h
end
/-! ### the program's defs -/
abbrev Ph := List D → (D → Prop) → (Xc → Prop) → Prop
/-- the promise of a def: φ by the arguments -/
def spD (K : PySem.W.Frag) (Ts : AP) (n : Nat) (φ : Ph) : Sp := fun vs H Q E => vs.length = n ∧ ∃ A ds Qd Xd, (∀ P, Ts P → TabG H P) ∧ (∀ b, A b → H b ≠ none) ∧ RpL K H A ds vs ∧ φ ds Qd Xd ∧
  (∀ d v H' A', Qd d → Sm H H' → (∀ b, A b → A' b) → Rp K H' A' d v → Q v H') ∧ ∀ x cls od H' A', Xd x → Sm H H' → (∀ b, A b → A' b) → XR K H' A' x cls od → E cls od H'
/-- what is let out comes where the wish is -/
def Ps (X : Cx) (W : WX) : Prop := ∀ σ, PassesAt (L2.CX X.prog X.w) X σ (WE W σ)
theorem Ps.no {X : Cx} : Ps X W0 := fun σ pins H s e s' I h => by
  obtain ⟨a, B, H', cls, d, h1, h2, h3, h4, h5, h6, h7, z⟩ := h
  exact z.elim
theorem Ps.of {X : Cx} {W : WX} (tk : Takes X W) : Ps X W := fun σ => passAt tk σ
theorem RpL.less' {K : PySem.W.Frag} {A A' : AP} {H : Hp} {d : D} {v : V} (h : Rp K H A' d v) (n : ∀ b, A b → A' b) : Rp K H A d v := h.less n
theorem XR.less {K : PySem.W.Frag} {A A' : AP} {H : Hp} {x : Xc} {cls : Value} {od : Option Addr} (h : XR K H A' x cls od) (n : ∀ b, A b → A' b) : XR K H A x cls od := by
  unfold XR at h ⊢
  refine ⟨h.1, ?_⟩
  have h2 := h.2
  split
  · rename_i e; rw [e] at h2; exact h2
  · rename_i f d e
    rw [e] at h2
    obtain ⟨a, v, h3, h4, h5⟩ := h2
    exact ⟨a, v, h3, h4, h5.less n⟩
section
variable {X : Cx} {Ts : AP} {W : WX} {k n : Nat} {f : Addr} {fd : FuncData} {ps : List Str} {φ : Ph} {x : Str} {p pos apos : Pos} {e o : Expr} {es : List Expr} {te : DE} {ta : DA}
def dCall (n : Nat) (φ : Ph) (ta : DA) : DE := fun X ρ Q => ta X ρ fun ds ρ1 => ds.length = n ∧ φ ds (fun d => Q d .sh ρ1) fun x => X x ρ1
theorem up_call {σ : L2.St} {H : Hp} {A O : AP} {ρ : List Sl} {Xf : XF} {Qd : D → Kd → List Sl → Prop} {Q : VK} {ds : List D} {vs : List V} (hn : vs.length = n) (m : Mt X.K Ts H A O ρ σ) (r : RpL X.K H A ds vs) (h : φ ds (fun d => Qd d .sh ρ) fun x => Xf x ρ) (c : Cn X.K Ts W σ H A O Xf Qd Q) : spD X.K Ts n φ vs H Q (WE W σ) :=
  ⟨hn, A, ds, _, _, m.tab, m.trk, r, h, fun d v H' A' q s n r => c.sh m s q (r.less n), fun x cls od H' A' q s n r => c.x x ρ cls od H' A O q (Tr.of s) (m.sm s) (r.less n)⟩
theorem de_call (F : FnOk X.prog X.w X.K X.mg X.base (L2.CX X.prog X.w) k f fd ps (spD X.K Ts n φ)) (hr : Room k X.A) (hg : Gl X x) (hm : X.mg x = some (.ref f)) (hk : PySem.W.keepIn X.K (.ref f) = true) (hb : Binds X.K fd ps []) (hx : Ps X W)
    (ha : PA X (e :: es) (upA X.K Ts W ta)) (hdb : (x == ("__debug__" : Str)) = false := by decide) (he : starEach (e :: es) X.env = (false, eval e X.env) :: starEach es X.env := by rfl) (hpl : (backTo pos (starEach es X.env)).any (·.1) = false := by rfl) :
    PE X (.Call (.Name x p) (e :: es) [] pos) (upE X.K Ts W (dCall n φ ta)) := by
  refine (pe_callS F hr hg hm hk hb hx ha hdb he hpl).imp fun σ H Q h => ?_
  obtain ⟨A, O, ρ, Xf, Qd, m, h, c⟩ := h
  refine ⟨A, O, ρ, Xf, _, m, h, fun ds ρ1 vs H1 A1 O1 h1 s1 t1 m1 r1 => ?_, c.x⟩
  exact up_call (by rw [← r1.len]; exact h1.1) m1 r1 h1.2 (c.move s1 t1 m)
/-- a def of the program keeps its promise -/
theorem fn_data {P : Program} {w : World} {K : PySem.W.Frag} {mg : Str → Option Value} {base : Heap} {xn qual : Str} {params : Arguments} {body : List Stmt} {scope : Scope} {dvs : List V} {kws : List (Str × V)} {c : Addr} {N : List Str} (F : FunD K xn qual params body scope dvs kws f fd) (hc : fd.code = .ref c) (S : FnScope N ps scope) (hn : ps.length = n)
    (hbody : ∀ (A : Around) (outer : List Env) (s : Shared) (H : Hp) (E : XK), Room k (A.deeper (envOfC qual scope s.heap.objs.size f (.ref c))) → ∃ t : DS, PSs (cxOf (L2.CX P w) P w K mg base N qual scope f (.ref c) A outer s H E) body (upS K Ts (fun cls d _ H => E cls d H) t) ∧
      ∀ ds Qd Xd, φ ds Qd Xd → ds.length = n → t (fun x _ => Xd x) ⟨fun _ => Qd .non, fun s _ => slFr s = true ∧ Qd (slD s), fun _ => False, fun _ => False⟩ (ds.map Sl.va ++ List.replicate (N.length - n) .no)) : FnOk P w K mg base (L2.CX P w) (k + 1) f fd ps (spD K Ts n φ) := by
  refine okC F hc S (fun vs H Q E h => by rw [hn]; exact h.1) fun A outer s H vs Q E hr h => ?_
  obtain ⟨t, hp, ht⟩ := hbody A outer s H E hr
  refine ⟨_, hp, ?_⟩
  obtain ⟨hl, A0, ds, Qd, Xd, tb, trk, r, h, kq, kx⟩ := h
  have dl : ds.length = n := by rw [r.len]; exact hl
  have sl : ∀ {i : Nat} {x : Sl}, (ds.map Sl.va ++ List.replicate (N.length - n) .no)[i]? = some x → x ≠ .no → ∃ d, ds[i]? = some d ∧ x = .va d := fun {i x} e nx => by
    by_cases hi : i < ds.length
    · rw [List.getElem?_append_left (by rw [List.length_map]; exact hi), List.getElem?_map] at e
      cases q : ds[i]? with
      | none => rw [q] at e; cases e
      | some d => rw [q] at e; cases e; exact ⟨d, rfl, rfl⟩
    · rw [List.getElem?_append_right (by rw [List.length_map]; omega)] at e
      exact absurd (List.eq_of_mem_replicate (List.mem_of_getElem? e)) nx
  have m : Mt K Ts H A0 (fun _ => False) (ds.map Sl.va ++ List.replicate (N.length - n) .no) (L2.start N vs) := by
    refine ⟨fun _ => [], tb, fun b z => z.elim, trk, ?_, fun i s o e1 e2 => ?_, fun _ => List.nodup_nil, fun _ _ _ h => (by cases h), fun b => ⟨fun z => z.elim, fun ⟨_, h⟩ => (by cases h)⟩, fun _ _ => rfl⟩
    · unfold L2.start
      rw [List.length_append, List.length_append, List.length_map, List.length_map, List.length_replicate, List.length_replicate, r.len, hl]
    · by_cases nx : s = .no
      · rw [nx]; rfl
      · obtain ⟨z, e3, rfl⟩ := sl e1 nx
        obtain ⟨v, g1, g2⟩ := r.get' e3
        unfold L2.start at e2
        rw [List.getElem?_append_left (by rw [List.length_map]; exact (List.getElem?_eq_some_iff.mp g1).1), List.getElem?_map, g1] at e2
        cases e2
        exact ⟨v, rfl, rfl, g2⟩
  have old : ∀ {A' O' : AP} {H' : Hp}, Tr A0 (fun _ => False) H A' O' H' → ∀ b, A0 b → A' b := fun t b z => t.old b z fun q => q
  refine ⟨A0, _, _, _, _, m, ht ds Qd Xd h dl, ⟨fun ρ' σ' H' A' O' q t m' => ?_, fun _ _ _ _ _ q => q.elim, fun _ _ _ _ _ q => q.elim, fun s ρ' v σ' H' A' O' q t m' => ?_, fun x ρ' cls od σ' H' A' O' q t m' r' => ?_⟩⟩
  · exact kq .non .non H' A' q t.kp.sm (old t) (by unfold Rp; rfl)
  · obtain ⟨A2, O2, m2, r2, t2, _⟩ := m'.frz0 q.1
    exact kq _ v H' A2 q.2 t.kp.sm (fun b hb => t2.old b (old t b hb) fun hO => (t.own b hO).elim id fun z => trk b hb z) r2
  · exact kx x cls od H' A' q t.kp.sm (old t) r'
/-! ### methods, properties, fields -/
theorem pe_methS {pl : Sem Bool} {C g : Addr} {m : Str} {sp : Sp} {E : L2.St → XK} {CX : CXT} {to : TE} {t : TA} (he : PE X o to) (c : Cls X.K C) (hm : Meth X.K C m g) (F : FnOk X.prog X.w X.K X.mg X.base CX k g fd ps sp) (hr : Room k X.A) (hb : Binds X.K fd ps []) (hx : ∀ σ, PassesAt CX X σ (E σ)) (ha : PA X (e :: es) t)
    (hst : starEach (e :: es) X.env = (false, eval e X.env) :: starEach es X.env := by rfl) (hpl : (backTo pos (starEach es X.env)).any (·.1) = false := by rfl)
    (ht : eval (.Call (.Attribute o m apos) (e :: es) [] pos) X.env = (do
      let ov ← eval o X.env
      standAt apos.atName
      let (f, first) ← holding [ov] (getMethod ov m pl)
      callWith pos f first (backTo pos (starEach (e :: es) X.env)) (backToKw pos (keywordEach [] X.env))) := by rfl) :
    PE X (.Call (.Attribute o m apos) (e :: es) [] pos) (fun σ H Q => to σ H fun x H1 => ∃ a dx fs, x = .ref a ∧ H1 a = some (.ins C dx fs) ∧ fs.lookup m = none ∧ t σ H1 fun vs H2 => sp (x :: vs) H2 Q (E σ)) := by
  refine ⟨fun pins s σ H Q I h => ?_⟩
  refine PySem.W.methodCall_KW (pl := pl) (thn (he.run pins s σ H _ I h) fun u s1 ⟨x, H1, I1, rx, a, dx, fs, ex, ea, l, q⟩ => ?_) ht
  subst ex
  obtain rfl : u = Value.ref a := rx
  refine getmeth_ok I1 ea c hm l ?_
  refine PySem.W.callWith_K (first := [.ref a]) (h₀ := X.base) I.ok.mod.kin hm.kp (thn (ha.run pos pins s1 σ H1 _ I1 q) fun us s2 ⟨vs, H2, I2, r, q2⟩ => ⟨I2.kIn, ?_⟩) hst hpl
  exact run_fnS (us := .ref a :: us) (vs := .ref a :: vs) F hr hb (hx σ) I2 (.cons rfl r) q2
/-- o.m(e, ..): o an instance that stands, of the class C -/
def dMeth (C m : Str) (n : Nat) (φ : Ph) (to : DE) (ta : DA) : DE := fun X ρ Q => to X ρ fun d κ ρ1 => κ = .sh ∧ match d with
  | .ins C' ns xs => C' = C ∧ m ∉ ns ∧ ta X ρ1 fun ds ρ2 => ds.length = n ∧ φ (.ins C' ns xs :: ds) (fun z => Q z .sh ρ2) fun x => X x ρ2
  | _ => False
theorem lookup_zip {ns : List Str} {m : Str} : ∀ {ns : List Str} {vs : List V}, m ∉ ns → (ns.zip vs).lookup m = none
  | [], vs, _ => by rw [List.zip_nil_left]; rfl
  | n :: r, [], _ => by rw [List.zip_nil_right]; rfl
  | n :: r, v :: t, h => by
    rw [List.zip_cons_cons, List.lookup_cons]
    have h1 : (m == n) = false := by
      rw [beq_eq_false_iff_ne]
      exact fun z => h (by rw [z]; exact List.mem_cons_self)
    rw [h1]
    exact lookup_zip (ns := ns) fun z => h (List.mem_cons_of_mem _ z)
theorem de_meth {pl : Sem Bool} {C m : Str} {g : Addr} {to : DE} (he : PE X o (upE X.K Ts W to)) (c : Cls X.K (He.ga X.K C)) (hm : Meth X.K (He.ga X.K C) m g) (F : FnOk X.prog X.w X.K X.mg X.base (L2.CX X.prog X.w) k g fd ps (spD X.K Ts (n + 1) φ)) (hr : Room k X.A) (hb : Binds X.K fd ps []) (hx : Ps X W) (ha : PA X (e :: es) (upA X.K Ts W ta))
    (hst : starEach (e :: es) X.env = (false, eval e X.env) :: starEach es X.env := by rfl) (hpl : (backTo pos (starEach es X.env)).any (·.1) = false := by rfl)
    (ht : eval (.Call (.Attribute o m apos) (e :: es) [] pos) X.env = (do
      let ov ← eval o X.env
      standAt apos.atName
      let (f, first) ← holding [ov] (getMethod ov m pl)
      callWith pos f first (backTo pos (starEach (e :: es) X.env)) (backToKw pos (keywordEach [] X.env))) := by rfl) :
    PE X (.Call (.Attribute o m apos) (e :: es) [] pos) (upE X.K Ts W (dMeth C m n φ to ta)) := by
  refine (pe_methS (pl := pl) he c hm F hr hb hx ha hst hpl ht).imp fun σ H Q h => ?_
  obtain ⟨A, O, ρ, Xf, Qd, mm, h, cn⟩ := h
  refine ⟨A, O, ρ, Xf, _, mm, h, fun d κ ρ1 v H1 A1 O1 h1 s1 t1 m1 r1 => ?_, cn.x⟩
  obtain ⟨ek, h1⟩ := h1
  subst ek
  split at h1
  · obtain ⟨ec, nm, h1⟩ := h1
    subst ec
    have r0 : Rp X.K H1 A1 _ v := r1
    have r2 : Rp X.K H1 A1 _ v := r0
    unfold Rp at r2
    obtain ⟨a, dx, vs, rfl, g1, _, gl, _⟩ := r2
    refine ⟨a, dx, _, rfl, g1, lookup_zip (ns := []) nm, ?_⟩
    have c1 := cn.move s1 t1 mm
    refine ⟨A1, O1, ρ1, Xf, _, m1, h1, fun ds ρ2 ws H2 A2 O2 h2 s2 t2 m2 r3 => ?_, c1.x⟩
    exact up_call (by rw [List.length_cons, ← r3.len, h2.1]) m2 (RpL.cons (r0.tr t2 m1.sub) r3) h2.2 (c1.move s2 t2 m1)
  · exact h1.elim
/-- o.f, a field of an instance that stands -/
def dFld (C f : Str) (to : DE) : DE := fun X ρ Q => to X ρ fun d κ ρ1 => κ = .sh ∧ match d with
  | .ins C' ns xs => C' = C ∧ ns.length = xs.length ∧ oK ((ns.zip xs).lookup f) fun z => Q z .sh ρ1
  | _ => False
theorem lookup_get {K : PySem.W.Frag} {H : Hp} {A : AP} {f : Str} {z : D} : ∀ {ns : List Str} {xs : List D} {vs : List V}, RpL K H A xs vs → (ns.zip xs).lookup f = some z → ∃ v, (ns.zip vs).lookup f = some v ∧ Rp K H A z v
  | [], _, _, _, h => by rw [List.zip_nil_left] at h; cases h
  | n :: r, [], vs, _, h => by rw [List.zip_nil_right] at h; cases h
  | n :: r, x :: t, vs, q, h => by
    obtain ⟨v, ws, rfl, h1, h2⟩ := q.uncons
    rw [List.zip_cons_cons, List.lookup_cons] at h ⊢
    cases e : f == n with
    | true => rw [e] at h; cases h; exact ⟨v, rfl, h1⟩
    | false => rw [e] at h; exact lookup_get h2 h
theorem de_fld {C f' : Str} {to : DE} (he : PE X o (upE X.K Ts W to)) (c : Cls X.K (He.ga X.K C)) (na : NoAttr X.K (He.ga X.K C) f') (hb : attributeBase o f' X.env (eval o X.env) = eval o X.env := by rfl) : PE X (.Attribute o f' pos) (upE X.K Ts W (dFld C f' to)) := by
  refine (pe_fld he hb).imp fun σ H Q h => ?_
  obtain ⟨A, O, ρ, Xf, Qd, mm, h, cn⟩ := h
  refine ⟨A, O, ρ, Xf, _, mm, h, fun d κ ρ1 v H1 A1 O1 h1 s1 t1 m1 r1 => ?_, cn.x⟩
  obtain ⟨ek, h1⟩ := h1
  subst ek
  split at h1
  · obtain ⟨ec, nm, h1⟩ := h1
    subst ec
    obtain ⟨z, ez, h1⟩ := h1.get
    have r2 : Rp X.K H1 A1 _ v := r1
    unfold Rp at r2
    obtain ⟨a, dx, vs, rfl, g1, _, gl, g2⟩ := r2
    obtain ⟨u, e1, e2⟩ := lookup_get g2 ez
    exact ⟨a, _, dx, _, u, rfl, g1, c, na, e1, (cn.move s1 t1 mm).flat m1 h1 e2⟩
  · exact h1.elim
end
end DL

-- part DL6
set_option Elab.async false
set_option linter.all false
set_option maxRecDepth 100000
set_option maxHeartbeats 2000000
/-! short words; while; how a reading is reckoned -/
namespace DL
open PySem PySem.Spec PyProof.Rows L2 GxR GS GA GD
section
variable {X : Cx} {Ts : AP} {W : WX}
theorem vV (i : Nat) {x : Str} {pos : Pos} (hN : X.N[i]? = some x := by rfl) (hv : Vis X.env.scope x := by first | exact Or.inl rfl | exact Or.inr (Or.inl rfl) | exact Or.inr (Or.inr rfl)) (hd : (x == ("__debug__" : Str)) = false := by decide) (hcd : (x == ("__classdict__" : Str)) = false := by decide) :
    PE X (.Name x pos) (upE X.K Ts W (dVar i)) := de_var hN hv hd hcd
theorem vB (i : Nat) {x : Str} {pos : Pos} (hN : X.N[i]? = some x := by rfl) (hv : Vis X.env.scope x := by first | exact Or.inl rfl | exact Or.inr (Or.inl rfl) | exact Or.inr (Or.inr rfl)) (hd : (x == ("__debug__" : Str)) = false := by decide) (hcd : (x == ("__classdict__" : Str)) = false := by decide) :
    PE X (.Name x pos) (upE X.K Ts W (dVarB i)) := de_varB hN hv hd hcd
/-! ### while: I by the slots, μ what falls -/
def dWhile (c : DT) (tb : DS) : DS := fun X N ρ => ∃ (I : Nat → List Sl → Prop), (∃ m, I m ρ) ∧ ∀ m ρ1, I m ρ1 → c X ρ1 fun b ρ2 => if b = true then
    tb X { nx := fun ρ3 => ∃ m', m' < m ∧ I m' ρ3, ct := fun ρ3 => ∃ m', m' < m ∧ I m' ρ3, bk := N.nx, rt := N.rt } ρ2 else N.nx ρ2
theorem ds_while {c : Expr} {body : List Stmt} {pos : Pos} {tc : DT} {tb : DS} (hp : PassesOwn (model X.prog X.w) X.A X.env X.xe) (hc : PT X c (upT X.K Ts W tc)) (hb : PSs X body (upS X.K Ts W tb)) : PS X (.While c body [] pos) (upS X.K Ts W (dWhile tc tb)) := by
  refine (ps_while hp hc hb).imp fun E σ H h => ?_
  obtain ⟨A, O, ρ, Xf, N, m, h, c⟩ := h
  obtain ⟨I, ⟨n0, i0⟩, step⟩ := h
  refine ⟨fun n σ' H' => ∃ A' O' ρ', Tr A O H A' O' H' ∧ Mt X.K Ts H' A' O' ρ' σ' ∧ I n ρ', ⟨n0, A, O, ρ, Tr.refl, m, i0⟩, ?_⟩
  rintro n σ' H' ⟨A', O', ρ', t', m', i'⟩
  have c1 := c.move t' m
  refine ⟨A', O', ρ', Xf, _, m', step n ρ' i', fun b ρ2 H2 A2 O2 h2 s2 t2 m2 => ?_, fun x ρ' cls od H' A' O' => c1.x x ρ' cls od σ' H' A' O'⟩
  have t12 := t'.trans t2 m.trk
  have c2 := c.move t12 m
  cases b with
  | false => exact c2.nx ρ2 σ' H2 A2 O2 h2 Tr.refl m2
  | true =>
    refine ⟨fun σ3 H3 => ∃ n', n' < n ∧ ∃ A' O' ρ', Tr A O H A' O' H3 ∧ Mt X.K Ts H3 A' O' ρ' σ3 ∧ I n' ρ', fun σ3 H3 z => z, ?_⟩
    refine ⟨A2, O2, ρ2, Xf, _, m2, h2, ⟨fun ρ3 σ3 H3 A3 O3 h3 t3 m3 => ?_, fun ρ3 σ3 H3 A3 O3 h3 t3 m3 => ?_, fun ρ3 σ3 H3 A3 O3 h3 t3 m3 => ?_, c2.rt, c2.x⟩⟩
    · obtain ⟨n', hn, i3⟩ := h3
      exact ⟨n', hn, A3, O3, ρ3, t12.trans t3 m.trk, m3, i3⟩
    · exact c2.nx ρ3 σ3 H3 A3 O3 h3 t3 m3
    · obtain ⟨n', hn, i3⟩ := h3
      exact ⟨n', hn, A3, O3, ρ3, t12.trans t3 m.trk, m3, i3⟩
end
theorem rng_get {n k : Nat} {d : D} (h : (rngD n)[k]? = some d) : k < n ∧ d = .int (k : Int) := by
  unfold rngD at h
  have hk : k < n := by
    have := (List.getElem?_eq_some_iff.mp h).1
    rw [List.length_map, List.length_range] at this
    exact this
  rw [List.getElem?_map, List.getElem?_range hk] at h
  cases h
  exact ⟨hk, rfl⟩
theorem rng_len {n : Nat} : (rngD n).length = n := by unfold rngD; rw [List.length_map, List.length_range]
theorem map_get {α : Type} {f : α → D} {xs : List α} {k : Nat} {d : D} (h : (xs.map f)[k]? = some d) : ∃ x, xs[k]? = some x ∧ d = f x := by
  rw [List.getElem?_map] at h
  cases e : xs[k]? with
  | none => rw [e] at h; cases h
  | some x => rw [e] at h; cases h; exact ⟨x, rfl, rfl⟩
theorem at_map {α : Type} {f : α → D} {xs : List α} {k : Nat} {x : α} (h : xs[k]? = some x) : atI (xs.map f) (k : Int) = some (f x) := atI_nat (by rw [List.getElem?_map, h]; rfl)
theorem at_ix {α : Type} {f : α → D} {xs : List α} {i : Int} {k : Nat} {x : α} (e : i = (k : Int)) (h : xs[k]? = some x) : atI (xs.map f) i = some (f x) := by rw [e]; exact at_map h
theorem oK_at {α : Type} {f : α → D} {xs : List α} {i : Int} {Q : D → Prop} (k : Nat) {x : α} (e : i = (k : Int)) (h : xs[k]? = some x) (q : Q (f x)) : oK (atI (xs.map f) i) Q := oK.mk (at_ix e h) q
theorem flD_str (ss : List Str) : (ss.map D.str).all flD = true := by rw [List.all_map, List.all_eq_true]; intro x _; rfl
theorem flD_int (ss : List Int) : (ss.map D.int).all flD = true := by rw [List.all_map, List.all_eq_true]; intro x _; rfl
theorem cutD_drop (xs : List D) (m : Nat) : cutD xs (some (m : Int)) none = xs.drop m := by
  unfold cutD
  have e1 : HT.sIx xs.length 0 (some (m : Int)) = min m xs.length := by
    show (if (m : Int) < 0 then ((m : Int) + (xs.length : Int)).toNat else min (m : Int).toNat xs.length) = _
    rw [if_neg (by omega)]
    rfl
  have e2 : HT.sIx xs.length xs.length none = xs.length := rfl
  rw [e1, e2]
  by_cases h : m ≤ xs.length
  · rw [Nat.min_eq_left h, List.take_of_length_le (by rw [List.length_drop]; exact Nat.le_refl _)]
  · rw [Nat.min_eq_right (by omega), Nat.sub_self, List.take_zero, List.drop_of_length_le (by omega)]
theorem cutD_take (xs : List D) (m : Nat) : cutD xs none (some (m : Int)) = xs.take m := by
  unfold cutD
  have e2 : HT.sIx xs.length xs.length (some (m : Int)) = min m xs.length := by
    show (if (m : Int) < 0 then ((m : Int) + (xs.length : Int)).toNat else min (m : Int).toNat xs.length) = _
    rw [if_neg (by omega)]
    rfl
  have e1 : HT.sIx xs.length 0 none = 0 := rfl
  rw [e1, e2]
  show xs.take (min m xs.length - 0) = xs.take m
  rw [Nat.sub_zero, List.take_eq_take_iff]
  omega
theorem cutD_nil (xs : List D) (lo hi : Option Int) : cutD [] lo hi = [] := by unfold cutD; simp
/-! ### more operators -/
abbrev gPow := numOp CPow fun i j => .int (i ^ j.toNat)
theorem dop_pow {X : Cx} {Ts : AP} : DOp X Ts (binaryOp .Pow) gPow := num_ok op_pow fun _ _ _ _ => Rp.int
def dNeg (ta : DE) : DE := fun X ρ Q => ta X ρ fun d _ ρ1 => match d with
  | .int i => Q (.int (-i)) .sh ρ1
  | _ => False
theorem de_neg {X : Cx} {Ts : AP} {W : WX} {a : Expr} {ta : DE} {pos : Pos} (ha : PE X a (upE X.K Ts W ta)) : PE X (.UnaryOp .USub a pos) (upE X.K Ts W (dNeg ta)) := by
  refine (pe_un un_neg ha).imp fun σ H Q h => ?_
  obtain ⟨A, O, ρ, Xf, Qd, m, h, c⟩ := h
  refine ⟨A, O, ρ, Xf, _, m, h, fun d κ ρ1 v H1 A1 O1 h1 s1 t1 m1 r1 => ?_, c.x⟩
  split at h1
  · exact ⟨_, r1.wk.int, (c.move s1 t1 m).flat m1 h1 Rp.int⟩
  · exact h1.elim
/-- an if in a reading, by its truth -/
theorem if_b {b : Bool} {P Q : Prop} (h1 : b = true → P) (h2 : b = false → Q) : if b = true then P else Q := by
  cases b with
  | true => rw [if_pos rfl]; exact h1 rfl
  | false => rw [if_neg Bool.false_ne_true]; exact h2 rfl
theorem if_d {C : Prop} [Decidable C] {P Q : Prop} (h1 : C → P) (h2 : ¬ C → Q) : if decide C = true then P else Q := if_b (fun z => h1 (of_decide_eq_true z)) fun z => h2 (of_decide_eq_false z)
/-- a reading keeps the promise -/
abbrev MD (r : DS) (n N : Nat) (ph : Ph) : Prop := ∀ (ds : List D) (Qd : D → Prop) (Xd : Xc → Prop), ph ds Qd Xd → ds.length = n → r (fun x _ => Xd x) ⟨fun _ => Qd .non, fun s _ => slFr s = true ∧ Qd (slD s), fun _ => False, fun _ => False⟩ (ds.map Sl.va ++ List.replicate (N - n) .no)
end DL

-- part DL7
set_option Elab.async false
set_option linter.all false
set_option maxRecDepth 100000
set_option maxHeartbeats 2000000
/-! how a reading is reckoned: from the head, what follows is left shut -/
namespace DL
open PySem PySem.Spec PyProof.Rows L2 GxR GS GA GD
/-- what stands behind a tag is not reckoned -/
structure Tag {α : Sort _} (a : α) : Type where
def kk {α : Sort _} (a : α) (_ : Tag a := ⟨⟩) : α := a
/-- an if whose ways are left shut -/
def iK (b : Bool) (P Q : Prop) (_ : Tag P := ⟨⟩) (_ : Tag Q := ⟨⟩) : Prop := if b = true then P else Q
theorem iK_true (P Q : Prop) (s : Tag P) (u : Tag Q) : iK true P Q s u = P := if_pos rfl
theorem iK_false (P Q : Prop) (s : Tag P) (u : Tag Q) : iK false P Q s u = Q := if_neg Bool.false_ne_true
theorem iK_not (b : Bool) (P Q : Prop) (s : Tag P) (u : Tag Q) : iK (!b) P Q s u = iK b Q P u s := by cases b <;> rfl
theorem iK_b {b : Bool} {P Q : Prop} {s : Tag P} {u : Tag Q} (h1 : b = true → P) (h2 : b = false → Q) : iK b P Q s u := if_b h1 h2
theorem iK_d {C : Prop} [Decidable C] {P Q : Prop} {s : Tag P} {u : Tag Q} (h1 : C → P) (h2 : ¬ C → Q) : iK (decide C) P Q s u := if_d h1 h2
theorem iK_T {C : Prop} [Decidable C] {P Q : Prop} {s : Tag P} {u : Tag Q} (c : C) (h : P) : iK (decide C) P Q s u := iK_d (fun _ => h) fun n => absurd c n
theorem iK_F {C : Prop} [Decidable C] {P Q : Prop} {s : Tag P} {u : Tag Q} (c : ¬ C) (h : Q) : iK (decide C) P Q s u := iK_d (fun n => absurd n c) fun _ => h
/-- an if behind which the slots keep I -/
theorem iK_J {b : Bool} {t u : DS} {X : XF} {N : DN} {ρ : List Sl} {s : Tag (t X N ρ)} {v : Tag (u X N ρ)} (I : List Sl → Prop) (h1 : ∀ c : List Sl → Prop, (∀ ρ', I ρ' → c ρ') → b = true → t X ⟨c, N.rt, N.bk, N.ct⟩ ρ) (h2 : ∀ c : List Sl → Prop, (∀ ρ', I ρ' → c ρ') → b = false → u X ⟨c, N.rt, N.bk, N.ct⟩ ρ)
    (hc : ∀ ρ', I ρ' → N.nx ρ') : iK b (t X N ρ) (u X N ρ) s v := iK_b (h1 N.nx hc) (h2 N.nx hc)
section
variable {X : XF} {N : DN} {ρ : List Sl} {Q : D → Kd → List Sl → Prop} {i : Nat} {ta tb tc te : DE} {A B : DA} {c d : DT} {t u : DS}
theorem k0 (P : Prop) (t : Tag P) : kk P t = P := rfl
theorem k1 {α : Sort _} {β : Sort _} (f : α → β) (t : Tag f) (a : α) : kk f t a = f a := rfl
theorem k2 {α : Sort _} {β : Sort _} {γ : Sort _} (f : α → β → γ) (t : Tag f) (a : α) (b : β) : kk f t a b = f a b := rfl
theorem k3 {α : Sort _} {β : Sort _} {γ : Sort _} {δ : Sort _} (f : α → β → γ → δ) (t : Tag f) (a : α) (b : β) (c : γ) : kk f t a b c = f a b c := rfl
/-- a slot -/
def sl (ρ : List Sl) (i : Nat) : Sl := ρ.getD i .no
theorem sl_0 {s : Sl} {r : List Sl} : sl (s :: r) 0 = s := rfl
theorem sl_s {s : Sl} {r : List Sl} {i : Nat} : sl (s :: r) (i + 1) = sl r i := rfl
theorem sl_o {s : Sl} {r : List Sl} {i : Nat} [NeZero (OfNat.ofNat i : Nat)] : True := trivial
def vK (s : Sl) (i : Nat) (ρ : List Sl) (Q : D → Kd → List Sl → Prop) : Prop := match s with
  | .va d => Q d .sh ρ
  | .ow ds => Q (.lst ds) .sh (ρ.set i (.va (.lst ds)))
  | .od kvs => Q (slD (.od kvs)) .sh (ρ.set i (.va (slD (.od kvs))))
  | .ob a C fs => slFr (.ob a C fs) = true ∧ Q (slD (.ob a C fs)) .sh (ρ.set i (.va (slD (.ob a C fs))))
  | _ => False
def bK (s : Sl) (ρ : List Sl) (Q : D → Kd → List Sl → Prop) : Prop := match s with
  | .va d => Q d .sh ρ
  | .ow ds => Q (.lst ds) .bo ρ
  | .rl ds => Q (.lst ds) .bo ρ
  | .od kvs => Q (slD (.od kvs)) .bo ρ
  | .rd kvs => Q (slD (.od kvs)) .bo ρ
  | _ => False
theorem vK_va {d : D} : vK (.va d) i ρ Q = Q d .sh ρ := rfl
theorem vK_ow {ds : List D} : vK (.ow ds) i ρ Q = Q (.lst ds) .sh (ρ.set i (.va (.lst ds))) := rfl
theorem bK_va {d : D} : bK (.va d) ρ Q = Q d .sh ρ := rfl
theorem bK_ow {ds : List D} : bK (.ow ds) ρ Q = Q (.lst ds) .bo ρ := rfl
theorem bK_rl {ds : List D} : bK (.rl ds) ρ Q = Q (.lst ds) .bo ρ := rfl
theorem bK_od {kvs : List (Key × D)} : bK (.od kvs) ρ Q = Q (slD (.od kvs)) .bo ρ := rfl
theorem bK_rd {kvs : List (Key × D)} : bK (.rd kvs) ρ Q = Q (slD (.od kvs)) .bo ρ := rfl
theorem vK_od {kvs : List (Key × D)} : vK (.od kvs) i ρ Q = Q (slD (.od kvs)) .sh (ρ.set i (.va (slD (.od kvs)))) := rfl
theorem vK_ob {a : Addr} {C : Str} {fs : List (Str × Fd)} : vK (.ob a C fs) i ρ Q = (slFr (.ob a C fs) = true ∧ Q (slD (.ob a C fs)) .sh (ρ.set i (.va (slD (.ob a C fs))))) := rfl
theorem slD_va {d : D} : slD (.va d) = d := rfl
theorem slD_ow {ds : List D} : slD (.ow ds) = .lst ds := rfl
theorem slFr_va {d : D} : slFr (.va d) = true := rfl
theorem slFr_ow {ds : List D} : slFr (.ow ds) = true := rfl
theorem slFr_od {kvs : List (Key × D)} : slFr (.od kvs) = true := rfl
theorem slOf_frd {ks : List Key} {ds : List D} : slOf (.dct ks ds) .fr = .od (ks.zip ds) := rfl
theorem sl_eq : ρ[i]? = (if i < ρ.length then some (sl ρ i) else none) := by
  unfold sl
  rw [List.getD_eq_getElem?_getD]
  by_cases h : i < ρ.length
  · rw [if_pos h, List.getElem?_eq_getElem h]; rfl
  · rw [if_neg h, List.getElem?_eq_none (by omega)]
theorem dVar_ev : dVar i X ρ Q = vK (sl ρ i) i ρ Q := by
  unfold dVar vK
  rw [sl_eq]
  by_cases h : i < ρ.length
  · rw [if_pos h]; cases sl ρ i <;> rfl
  · have : sl ρ i = .no := by unfold sl; rw [List.getD_eq_getElem?_getD, List.getElem?_eq_none (by omega)]; rfl
    rw [if_neg h, this]
theorem dVarB_ev : dVarB i X ρ Q = bK (sl ρ i) ρ Q := by
  unfold dVarB bK
  rw [sl_eq]
  by_cases h : i < ρ.length
  · rw [if_pos h]; cases sl ρ i <;> rfl
  · have : sl ρ i = .no := by unfold sl; rw [List.getD_eq_getElem?_getD, List.getElem?_eq_none (by omega)]; rfl
    rw [if_neg h, this]
theorem dC_ev {z : D} : dC z X ρ Q = Q z .sh ρ := rfl
theorem dBin_ev {g : D → D → (D → Kd → Prop) → Prop} : dBin g ta tb X ρ Q = ta X ρ (kk fun d _ ρ1 => tb X ρ1 (kk fun e _ ρ2 => g d e (kk fun z κ => Q z κ ρ2))) := rfl
def tK (d : D) (Q : Bool → Prop) : Prop := match d with
  | .bl b => Q b
  | _ => False
theorem tK_bl {b : Bool} {R : Bool → Prop} : tK (.bl b) R = R b := rfl
theorem dTst_ev {R : Bool → List Sl → Prop} : dTst te X ρ R = te X ρ (kk fun d _ ρ1 => tK d (kk fun b => R b ρ1)) := rfl
theorem dAnd_ev {R : Bool → List Sl → Prop} : dAnd c d X ρ R = c X ρ (kk fun b ρ1 => iK b (d X ρ1 R) (R false ρ1)) := rfl
theorem dOr_ev {R : Bool → List Sl → Prop} : dOr c d X ρ R = c X ρ (kk fun b ρ1 => iK b (R true ρ1) (d X ρ1 R)) := rfl
theorem dNot_ev {R : Bool → List Sl → Prop} : dNot c X ρ R = c X ρ (kk fun b ρ1 => R (!b) ρ1) := rfl
theorem dAndV_ev : dAndV ta tb X ρ Q = ta X ρ (kk fun d _ ρ1 => tK d (kk fun b => iK b (tb X ρ1 Q) (Q (.bl false) .sh ρ1))) := by
  show ta X ρ _ = ta X ρ _
  congr 1
  funext d κ ρ1
  cases d with
  | bl b => cases b <;> rfl
  | _ => rfl
theorem dOrV_ev : dOrV ta tb X ρ Q = ta X ρ (kk fun d _ ρ1 => tK d (kk fun b => iK b (Q (.bl true) .sh ρ1) (tb X ρ1 Q))) := by
  show ta X ρ _ = ta X ρ _
  congr 1
  funext d κ ρ1
  cases d with
  | bl b => cases b <;> rfl
  | _ => rfl
theorem dNotV_ev : dNotV ta X ρ Q = ta X ρ (kk fun d _ ρ1 => tK d (kk fun b => Q (.bl (!b)) .sh ρ1)) := by
  show ta X ρ _ = ta X ρ _
  congr 1
theorem dIf_ev : dIf c ta tb X ρ Q = c X ρ (kk fun b ρ1 => iK b (ta X ρ1 Q) (tb X ρ1 Q)) := rfl
theorem dNext_ev : dNext X N ρ = N.nx ρ := rfl
theorem dSeq_ev : dSeq t u X N ρ = t X { N with nx := kk (u X N) } ρ := rfl
theorem dBreak_ev : dBreak X N ρ = N.bk ρ := rfl
theorem dCont_ev : dCont X N ρ = N.ct ρ := rfl
theorem dRet_ev : dRet te X N ρ = te X ρ (kk fun d κ ρ1 => κ ≠ .bo ∧ N.rt (slOf d κ) ρ1) := rfl
theorem dRetN_ev : dRetN X N ρ = N.rt (.va .non) ρ := rfl
theorem dIfS_ev : dIfS c t u X N ρ = c X ρ (kk fun b ρ1 => iK b (t X N ρ1) (u X N ρ1)) := rfl
theorem dSet_ev : dSet i te X N ρ = te X ρ (kk fun d κ ρ1 => κ ≠ .bo ∧ i < ρ1.length ∧ N.nx (ρ1.set i (slOf d κ))) := rfl
theorem dDrop_ev : dDrop te X N ρ = te X ρ (kk fun _ _ ρ1 => N.nx ρ1) := rfl
theorem slOf_fr {ds : List D} : slOf (.lst ds) .fr = .ow ds := rfl
theorem slOf_sh {z : D} : slOf z .sh = .va z := by cases z <;> rfl
/-! operators by what they are given -/
section
variable {R : D → Kd → Prop} {j k : Int} {x y : Str} {ds es : List D} {b b' : Bool}
theorem gAdd_i : gAdd (.int j) (.int k) R = R (.int (j + k)) .sh := rfl
theorem gAdd_s : gAdd (.str x) (.str y) R = (x.length + y.length ≤ sizeLine ∧ R (.str (x ++ y)) .sh) := rfl
theorem gAdd_l : gAdd (.lst ds) (.lst es) R = (ds.length + es.length ≤ sizeLine ∧ R (.lst (ds ++ es)) .fr) := rfl
theorem gAdd_t : gAdd (.tup ds) (.tup es) R = (ds.length + es.length ≤ sizeLine ∧ R (.tup (ds ++ es)) .sh) := rfl
theorem num_i {C : Int → Int → Prop} {f : Int → Int → D} : numOp C f (.int j) (.int k) R = (C j k ∧ R (f j k) .sh) := rfl
theorem gEq_i : gEq (.int j) (.int k) R = R (.bl (decide (j = k))) .sh := rfl
theorem gEq_s : gEq (.str x) (.str y) R = R (.bl (decide (x = y))) .sh := rfl
theorem gEq_b : gEq (.bl b) (.bl b') R = R (.bl (decide (b = b'))) .sh := rfl
theorem gEq_sn : gEq (.str x) .non R = R (.bl false) .sh := rfl
theorem gEq_ns : gEq .non (.str x) R = R (.bl false) .sh := rfl
theorem gEq_in : gEq (.int j) .non R = R (.bl false) .sh := rfl
theorem gEq_ni : gEq .non (.int j) R = R (.bl false) .sh := rfl
theorem gEq_nn : gEq .non .non R = R (.bl true) .sh := rfl
theorem gEq_is : gEq (.int j) (.str x) R = R (.bl false) .sh := rfl
theorem gEq_si : gEq (.str x) (.int j) R = R (.bl false) .sh := rfl
theorem gNe_i : gNe (.int j) (.int k) R = R (.bl (!decide (j = k))) .sh := rfl
theorem gNe_s : gNe (.str x) (.str y) R = R (.bl (!decide (x = y))) .sh := rfl
theorem gNe_b : gNe (.bl b) (.bl b') R = R (.bl (!decide (b = b'))) .sh := rfl
theorem gNe_sn : gNe (.str x) .non R = R (.bl true) .sh := rfl
theorem gNe_ns : gNe .non (.str x) R = R (.bl true) .sh := rfl
theorem gNe_in : gNe (.int j) .non R = R (.bl true) .sh := rfl
theorem gNe_ni : gNe .non (.int j) R = R (.bl true) .sh := rfl
theorem gNe_nn : gNe .non .non R = R (.bl false) .sh := rfl
theorem gEq_l : gEq (.lst ds) (.lst es) R = (shp (.lst ds) = true ∧ shp (.lst es) = true ∧ R (.bl (eqD (.lst ds) (.lst es))) .sh) := rfl
theorem gEq_t : gEq (.tup ds) (.tup es) R = (shp (.tup ds) = true ∧ shp (.tup es) = true ∧ R (.bl (eqD (.tup ds) (.tup es))) .sh) := rfl
theorem gNe_l : gNe (.lst ds) (.lst es) R = (shp (.lst ds) = true ∧ shp (.lst es) = true ∧ R (.bl (!eqD (.lst ds) (.lst es))) .sh) := rfl
theorem gNe_t : gNe (.tup ds) (.tup es) R = (shp (.tup ds) = true ∧ shp (.tup es) = true ∧ R (.bl (!eqD (.tup ds) (.tup es))) .sh) := rfl
theorem gIsN_n : gIsN .non .non R = R (.bl true) .sh := rfl
theorem gIsN_s : gIsN (.str x) .non R = R (.bl false) .sh := rfl
theorem gIsN_i : gIsN (.int j) .non R = R (.bl false) .sh := rfl
theorem gIsN_l : gIsN (.lst ds) .non R = R (.bl false) .sh := rfl
theorem gIsN_t : gIsN (.tup ds) .non R = R (.bl false) .sh := rfl
theorem gNotN_n : gNotN .non .non R = R (.bl false) .sh := rfl
theorem gNotN_s : gNotN (.str x) .non R = R (.bl true) .sh := rfl
theorem gNotN_i : gNotN (.int j) .non R = R (.bl true) .sh := rfl
theorem gNotN_l : gNotN (.lst ds) .non R = R (.bl true) .sh := rfl
theorem gNotN_t : gNotN (.tup ds) .non R = R (.bl true) .sh := rfl
theorem gIn_l {z : D} : gIn z (.lst ds) R = (flD z = true ∧ ds.all flD = true ∧ R (.bl (hasD z ds)) .sh) := rfl
theorem gIn_t {z : D} : gIn z (.tup ds) R = (flD z = true ∧ ds.all flD = true ∧ R (.bl (hasD z ds)) .sh) := rfl
theorem gNin_l {z : D} : gNin z (.lst ds) R = (flD z = true ∧ ds.all flD = true ∧ R (.bl (!hasD z ds)) .sh) := rfl
theorem gNin_t {z : D} : gNin z (.tup ds) R = (flD z = true ∧ ds.all flD = true ∧ R (.bl (!hasD z ds)) .sh) := rfl
theorem flD_s : flD (.str x) = true := rfl
theorem flD_i : flD (.int j) = true := rfl
theorem flD_n : flD .non = true := rfl
theorem gIx_l : gIx (.lst ds) (.int j) R = oK (atI ds j) (kk fun z => R z .sh) := rfl
theorem gIx_t : gIx (.tup ds) (.int j) R = oK (atI ds j) (kk fun z => R z .sh) := rfl
theorem gIx_s : gIx (.str x) (.int j) R = (x.length ≤ sizeLine ∧ oK (atI x.cps.toList j) (kk fun c => R (.str ⟨#[c]⟩) .sh)) := rfl
theorem at0 {α : Type} {a : α} {r : List α} : atI (a :: r) 0 = some a := atI_nat (j := 0) rfl
theorem at1 {α : Type} {a b : α} {r : List α} : atI (a :: b :: r) 1 = some b := atI_nat (j := 1) rfl
theorem at2 {α : Type} {a b c : α} {r : List α} : atI (a :: b :: c :: r) 2 = some c := atI_nat (j := 2) rfl
theorem at3 {α : Type} {a b c d : α} {r : List α} : atI (a :: b :: c :: d :: r) 3 = some d := atI_nat (j := 3) rfl
theorem at4 {α : Type} {a b c d e : α} {r : List α} : atI (a :: b :: c :: d :: e :: r) 4 = some e := atI_nat (j := 4) rfl
theorem at5 {α : Type} {a b c d e f : α} {r : List α} : atI (a :: b :: c :: d :: e :: f :: r) 5 = some f := atI_nat (j := 5) rfl
end
section
variable {R : Option Int → List Sl → Prop} {L H : DO} {j : Int}
theorem dNoPart_ev : dNoPart X ρ R = R none ρ := rfl
def pK (d : D) (Q : Int → Prop) : Prop := match d with
  | .int i => Q i
  | _ => False
theorem pK_i {f : Int → Prop} : pK (.int j) f = f j := rfl
theorem dPart_ev : dPart te X ρ R = te X ρ (kk fun d _ ρ1 => pK d (kk fun n => R (some n) ρ1)) := rfl
def sK (d : D) (lo hi : Option Int) (Q : D → Kd → Prop) : Prop := match d with
  | .lst ds => Q (.lst (cutD ds lo hi)) .fr
  | .scr ns => Q (.lst (cutD (ns.map .int) lo hi)) .fr
  | .tup ds => Q (.tup (cutD ds lo hi)) .sh
  | .str z => z.length ≤ sizeLine ∧ Q (.str (cutS z lo hi)) .sh
  | _ => False
theorem sK_l {ds : List D} {lo hi : Option Int} {f : D → Kd → Prop} : sK (.lst ds) lo hi f = f (.lst (cutD ds lo hi)) .fr := rfl
theorem sK_r {ns : List Int} {lo hi : Option Int} {f : D → Kd → Prop} : sK (.scr ns) lo hi f = f (.lst (cutD (ns.map .int) lo hi)) .fr := rfl
theorem sK_t {ds : List D} {lo hi : Option Int} {f : D → Kd → Prop} : sK (.tup ds) lo hi f = f (.tup (cutD ds lo hi)) .sh := rfl
theorem sK_s {z : Str} {lo hi : Option Int} {f : D → Kd → Prop} : sK (.str z) lo hi f = (z.length ≤ sizeLine ∧ f (.str (cutS z lo hi)) .sh) := rfl
theorem dSl_ev : dSl te L H X ρ Q = te X ρ (kk fun d _ ρ1 => L X ρ1 (kk fun lo ρ2 => H X ρ2 (kk fun hi ρ3 => sK d lo hi (kk fun z κ => Q z κ ρ3)))) := by
  show te X ρ _ = te X ρ _
  congr 1
end
section
variable {R : List D → List Sl → Prop}
theorem dNil_ev : dNil X ρ R = R [] ρ := rfl
theorem dCons_ev : dCons te A X ρ R = te X ρ (kk fun d κ ρ1 => κ ≠ .bo ∧ A X ρ1 (kk fun ds ρ2 => R (d :: ds) ρ2)) := rfl
theorem dConsW_ev : dConsW te A X ρ R = te X ρ (kk fun d _ ρ1 => A X ρ1 (kk fun ds ρ2 => R (d :: ds) ρ2)) := rfl
theorem itsD_l {ds : List D} : itsD (.lst ds) = some ds := rfl
theorem itsD_t {ds : List D} : itsD (.tup ds) = some ds := rfl
theorem dStar_ev : dStar te A X ρ R = te X ρ (kk fun d _ ρ1 => oK (itsD d) (kk fun xs => A X ρ1 (kk fun ds ρ2 => R (xs ++ ds) ρ2))) := rfl
end
theorem dLst_ev : dLst A X ρ Q = A X ρ (kk fun ds ρ1 => ds.length ≤ sizeLine ∧ Q (.lst ds) .fr ρ1) := rfl
theorem dTup_ev : dTup A X ρ Q = A X ρ (kk fun ds ρ1 => ds.length ≤ sizeLine ∧ Q (.tup ds) .sh ρ1) := rfl
theorem dBlt_ev {g : List D → (D → Kd → Prop) → Prop} : dBlt g A X ρ Q = A X ρ (kk fun ds ρ1 => g ds (kk fun z κ => Q z κ ρ1)) := rfl
section
variable {R : D → Kd → Prop} {j k : Int} {x y : Str} {ds es : List D} {b : Bool}
theorem gLen_l : gLen [.lst ds] R = R (.int (ds.length : Nat)) .sh := rfl
theorem gLen_t : gLen [.tup ds] R = R (.int (ds.length : Nat)) .sh := rfl
theorem gLen_r {ns : List Int} : gLen [.scr ns] R = R (.int (ns.length : Nat)) .sh := rfl
theorem gLen_s : gLen [.str x] R = (x.length ≤ sizeLine ∧ R (.int (x.length : Nat)) .sh) := rfl
theorem gInt_i : gInt [.int j] R = R (.int j) .sh := rfl
theorem gInt_b : gInt [.bl b] R = R (.int (if b then 1 else 0)) .sh := rfl
theorem gAbs_i : gAbs [.int j] R = R (.int (if j < 0 then -j else j)) .sh := rfl
theorem gMax_i : gMax [.int j, .int k] R = R (.int (if k > j then k else j)) .sh := rfl
theorem gMin_i : gMin [.int j, .int k] R = R (.int (if k < j then k else j)) .sh := rfl
theorem gTuple_l : gTuple [.lst ds] R = R (.tup ds) .sh := rfl
theorem gTuple_t : gTuple [.tup ds] R = R (.tup ds) .sh := rfl
theorem gList_l : gList [.lst ds] R = R (.lst ds) .fr := rfl
theorem gList_t : gList [.tup ds] R = R (.lst ds) .fr := rfl
end
def oW (s : Sl) (Q : List D → Prop) : Prop := match s with
  | .ow ds => Q ds
  | _ => False
theorem oW_ow {ds : List D} {f : List D → Prop} : oW (.ow ds) f = f ds := rfl
theorem owAt_ev {f : List D → Prop} : owAt ρ i f = oW (sl ρ i) f := by
  unfold owAt oW
  rw [sl_eq]
  by_cases h : i < ρ.length
  · rw [if_pos h]; cases sl ρ i <;> rfl
  · have : sl ρ i = .no := by unfold sl; rw [List.getD_eq_getElem?_getD, List.getElem?_eq_none (by omega)]; rfl
    rw [if_neg h, this]
theorem dApp_ev : dApp i te X N ρ = oW (sl ρ i) (kk fun _ => te X ρ (kk fun d κ ρ1 => κ ≠ .bo ∧ oW (sl ρ1 i) (kk fun ds => ds.length < sizeLine ∧ N.nx (ρ1.set i (.ow (ds ++ [d])))))) := by
  unfold dApp
  rw [owAt_ev]
  simp only [owAt_ev]
  rfl
/-! what is walked -/
section
variable {R : List D → Bool → List Sl → Prop}
def wK (d : D) (κ : Kd) (Q : List D → Bool → Prop) : Prop := match d with
  | .lst ds => Q ds (match κ with | .bo => true | _ => false)
  | .tup ds => Q ds false
  | .scr ns => Q (ns.map .int) false
  | .str z => Q (chD z) false
  | _ => False
variable {f : List D → Bool → Prop} {ds : List D} {κ : Kd}
theorem wK_sh : wK (.lst ds) .sh f = f ds false := rfl
theorem wK_fr : wK (.lst ds) .fr f = f ds false := rfl
theorem wK_bo : wK (.lst ds) .bo f = f ds true := rfl
theorem wK_t : wK (.tup ds) κ f = f ds false := rfl
theorem wK_r {ns : List Int} : wK (.scr ns) κ f = f (ns.map .int) false := rfl
theorem wK_s {z : Str} : wK (.str z) κ f = f (chD z) false := rfl
theorem diVal_ev : diVal te X ρ R = te X ρ (kk fun d κ ρ1 => wK d κ (kk fun ds l => R ds l ρ1)) := by
  show te X ρ _ = te X ρ _
  congr 1
def rK (ds : List D) (Q : List D → Prop) : Prop := match ds with
  | [.int n] => -(2 ^ 62) ≤ n ∧ n < 2 ^ 62 ∧ Q (rngD n.toNat)
  | _ => False
theorem rK_i {n : Int} {f : List D → Prop} : rK [.int n] f = (-(2 ^ 62) ≤ n ∧ n < 2 ^ 62 ∧ f (rngD n.toNat)) := rfl
theorem diRng_ev : diRng A X ρ R = A X ρ (kk fun ds ρ1 => rK ds (kk fun xs => R xs false ρ1)) := by
  show A X ρ _ = A X ρ _
  congr 1
def eK (d : D) (κ : Kd) (Q : List D → Bool → Prop) : Prop := match d with
  | .lst ds => Q (enD ds) (match κ with | .bo => true | _ => false)
  | _ => False
theorem eK_sh : eK (.lst ds) .sh f = f (enD ds) false := rfl
theorem eK_fr : eK (.lst ds) .fr f = f (enD ds) false := rfl
theorem eK_bo : eK (.lst ds) .bo f = f (enD ds) true := rfl
theorem diEnum_ev : diEnum te X ρ R = te X ρ (kk fun d κ ρ1 => eK d κ (kk fun ds l => R ds l ρ1)) := by
  show te X ρ _ = te X ρ _
  congr 1
end
/-! targets -/
section
variable {R : List Sl → Prop} {g : DG} {gs : List D → List Sl → (List Sl → Prop) → Prop} {z : D} {ds : List D} {n : Nat}
theorem dgName_ev : dgName i z ρ R = R (ρ.set i (.va z)) := rfl
theorem dgNil_ev : dgNil [] ρ R = R ρ := rfl
theorem dgCons_ev : dgCons g gs (z :: ds) ρ R = g z ρ (kk fun ρ1 => gs ds ρ1 R) := rfl
theorem dgTup_ev : dgTup n gs (.tup ds) ρ R = (ds.length = n ∧ gs ds ρ R) := rfl
theorem dAsg_ev : dAsg te g X N ρ = te X ρ (kk fun d κ ρ1 => κ ≠ .bo ∧ g d ρ1 N.nx) := rfl
end
/-! loops -/
def forK (ds : List D) (g : DG) (tb : DS) (X : XF) (N : DN) (ρ : List Sl) : Prop := ∃ I : Nat → List Sl → Prop, I 0 ρ ∧
  (∀ k d ρ', ds[k]? = some d → I k ρ' → g d ρ' fun ρ2 => tb X { nx := I (k + 1), ct := I (k + 1), bk := N.nx, rt := N.rt } ρ2) ∧ ∀ ρ', I ds.length ρ' → N.nx ρ'
theorem dFor_ev {ti : DI} {g : DG} : dFor ti g t X N ρ = ti X ρ (kk fun ds lent ρ1 => lent = false ∧ forK ds g t X N ρ1) := rfl
theorem forK.mk {ds : List D} {g : DG} (I : Nat → List Sl → Prop) (h0 : I 0 ρ) (hs : ∀ k d ρ', ds[k]? = some d → I k ρ' → g d ρ' (kk fun ρ2 => t X { nx := I (k + 1), ct := I (k + 1), bk := N.nx, rt := N.rt } ρ2)) (hd : ∀ ρ', I ds.length ρ' → N.nx ρ') : forK ds g t X N ρ := ⟨I, h0, hs, hd⟩
/-- over what a plain list stands for -/
theorem forK.map {α : Type} {f : α → D} {xs : List α} {g : DG} (I : Nat → List Sl → Prop) (h0 : I 0 ρ) (hs : ∀ k x ρ', xs[k]? = some x → k < xs.length → I k ρ' → g (f x) ρ' (kk fun ρ2 => t X { nx := I (k + 1), ct := I (k + 1), bk := N.nx, rt := N.rt } ρ2)) (hd : ∀ ρ', I xs.length ρ' → N.nx ρ') :
    forK (xs.map f) g t X N ρ := ⟨I, h0, fun k d ρ' hk i => by
  obtain ⟨x, hx, rfl⟩ := map_get hk
  exact hs k x ρ' hx (List.getElem?_eq_some_iff.mp hx).1 i, by rw [List.length_map]; exact hd⟩
theorem forK.rng {n : Nat} {g : DG} (I : Nat → List Sl → Prop) (h0 : I 0 ρ) (hs : ∀ k ρ', k < n → I k ρ' → g (.int (k : Int)) ρ' (kk fun ρ2 => t X { nx := I (k + 1), ct := I (k + 1), bk := N.nx, rt := N.rt } ρ2)) (hd : ∀ ρ', I n ρ' → N.nx ρ') :
    forK (rngD n) g t X N ρ := ⟨I, h0, fun k d ρ' hk i => by
  obtain ⟨lt, rfl⟩ := rng_get hk
  exact hs k ρ' lt i, by rw [rng_len]; exact hd⟩
def whileK (c : DT) (tb : DS) (X : XF) (N : DN) (ρ : List Sl) : Prop := dWhile c tb X N ρ
theorem dWhile_ev : dWhile c t X N ρ = whileK c t X N ρ := rfl
theorem whileK.mk (I : Nat → List Sl → Prop) (m : Nat) (h0 : I m ρ) (hs : ∀ m ρ1, I m ρ1 → c X ρ1 (kk fun b ρ2 => iK b (t X { nx := fun ρ3 => ∃ m', m' < m ∧ I m' ρ3, ct := fun ρ3 => ∃ m', m' < m ∧ I m' ρ3, bk := N.nx, rt := N.rt } ρ2) (N.nx ρ2))) : whileK c t X N ρ := ⟨I, ⟨m, h0⟩, hs⟩
/-! comprehensions, all, any -/
def lcK (ds : List D) (i : Nat) (tt : DT) (te : DE) (ρ : List Sl) (Q : List D → Prop) : Prop := ds.length ≤ sizeLine ∧ ∃ f : D → Option D,
  (∀ d ∈ ds, tt X0 (ρ.set i (.va d)) fun b ρ2 => if b = true then te X0 ρ2 fun z κ ρ3 => κ ≠ .bo ∧ ρ3 = ρ.set i (.va d) ∧ f d = some z else f d = none) ∧ Q (ds.filterMap f)
theorem dLc_ev {ti : DI} : dLc ti i c te X ρ Q = ti X ρ (kk fun ds _ ρ1 => lcK ds i c te ρ1 (kk fun zs => Q (.lst zs) .fr ρ1)) := rfl
theorem filterMap_if {α : Type} (f : α → D) (q : α → Bool) : ∀ xs : List α, xs.filterMap (fun x => if q x = true then some (f x) else none) = (xs.filter q).map f
  | [] => rfl
  | x :: r => by
    rw [List.filterMap_cons, List.filter_cons]
    cases h : q x with
    | true => rw [if_pos rfl, if_pos rfl, List.map_cons, filterMap_if f q r]
    | false => rw [if_neg Bool.false_ne_true, if_neg Bool.false_ne_true, filterMap_if f q r]
/-- over what a plain list stands for, where different things stand for different data -/
theorem lcK.map {α : Type} {f : α → D} {xs : List α} (inj : ∀ x y, f x = f y → x = y) (q : α → Bool) (h : α → D) {Q : List D → Prop} (hz : xs.length ≤ sizeLine)
    (hs : ∀ x ∈ xs, ∀ o : Option D, o = (if q x = true then some (h x) else none) → c X0 (ρ.set i (.va (f x))) (kk fun b ρ2 => iK b (te X0 ρ2 (kk fun z κ ρ3 => κ ≠ .bo ∧ ρ3 = ρ.set i (.va (f x)) ∧ o = some z)) (o = none))) (hq : Q ((xs.filter q).map h)) : lcK (xs.map f) i c te ρ Q := by
  classical
  have sel : ∀ d, ∃ o : Option D, ∀ x, d = f x → o = if q x = true then some (h x) else none := fun d => by
    by_cases e : ∃ x, d = f x
    · obtain ⟨x, rfl⟩ := e
      exact ⟨if q x = true then some (h x) else none, fun y hy => by rw [inj _ _ hy]⟩
    · exact ⟨none, fun x hx => absurd ⟨x, hx⟩ e⟩
  refine ⟨by rw [List.length_map]; exact hz, fun d => Classical.choose (sel d), fun d hd => ?_, ?_⟩
  · obtain ⟨x, hx, rfl⟩ := List.mem_map.mp hd
    exact hs x hx _ (Classical.choose_spec (sel (f x)) x rfl)
  · have e : (xs.map f).filterMap (fun d => Classical.choose (sel d)) = (xs.filter q).map h := by
      rw [List.filterMap_map, ← filterMap_if]
      congr 1
      funext x
      exact Classical.choose_spec (sel (f x)) x rfl
    rw [e]
    exact hq
/-- without a test -/
theorem lcK.all {α : Type} {f : α → D} {xs : List α} (inj : ∀ x y, f x = f y → x = y) (h : α → D) {Q : List D → Prop} (hz : xs.length ≤ sizeLine)
    (hs : ∀ x ∈ xs, te X0 (ρ.set i (.va (f x))) (kk fun z κ ρ3 => κ ≠ .bo ∧ ρ3 = ρ.set i (.va (f x)) ∧ z = h x)) (hq : Q (xs.map h)) : lcK (xs.map f) i dYes te ρ Q := by
  refine lcK.map inj (fun _ => true) h hz (fun x hx o ho => ?_) (by rw [List.filter_eq_self.mpr (fun _ _ => rfl)]; exact hq)
  rw [ho, if_pos rfl]
  show iK true (te X0 (ρ.set i (Sl.va (f x))) (kk fun z κ ρ3 => κ ≠ Kd.bo ∧ ρ3 = ρ.set i (Sl.va (f x)) ∧ some (h x) = some z)) (some (h x) = none)
  rw [iK_true]
  have e : (kk fun z κ ρ3 => κ ≠ Kd.bo ∧ ρ3 = ρ.set i (Sl.va (f x)) ∧ some (h x) = some z) = (kk fun z κ ρ3 => κ ≠ Kd.bo ∧ ρ3 = ρ.set i (Sl.va (f x)) ∧ z = h x) := by
    unfold kk
    funext z κ ρ3
    rw [Option.some.injEq, eq_comm (a := h x)]
  rw [e]
  exact hs x hx
theorem inj_str (x y : Str) (h : D.str x = D.str y) : x = y := by cases h; rfl
theorem inj_int (x y : Int) (h : D.int x = D.int y) : x = y := by cases h; rfl
theorem lcK.rng {n : Nat} (h : Nat → D) {Q : List D → Prop} (hz : n ≤ sizeLine) (hs : ∀ k, k < n → te X0 (ρ.set i (.va (.int (k : Int)))) (kk fun z κ ρ3 => κ ≠ .bo ∧ ρ3 = ρ.set i (.va (.int (k : Int))) ∧ z = h k)) (hq : Q ((List.range n).map h)) : lcK (rngD n) i dYes te ρ Q :=
  lcK.all (f := fun k : Nat => D.int (k : Int)) (fun x y e => by injection e with e; omega) h (by rw [List.length_range]; exact hz) (fun k hk => hs k (List.mem_range.mp hk)) hq
def genK (b : Bool) (ds : List D) (i : Nat) (te : DE) (ρ : List Sl) (Q : D → Prop) : Prop := ∃ f : D → Bool, (∀ d ∈ ds, te X0 (ρ.set i (.va d)) fun z _ ρ3 => ρ3 = ρ.set i (.va d) ∧ z = .bl (f d)) ∧ Q (.bl (if b then ds.any f else ds.all f))
theorem dGen_ev {b : Bool} {ti : DI} : dGen b ti i te X ρ Q = ti X ρ (kk fun ds _ ρ1 => genK b ds i te ρ1 (kk fun z => Q z .sh ρ1)) := rfl
theorem genK.map {α : Type} {f : α → D} {xs : List α} (inj : ∀ x y, f x = f y → x = y) (b : Bool) (q : α → Bool) {Q : D → Prop} (hs : ∀ x ∈ xs, te X0 (ρ.set i (.va (f x))) (kk fun z _ ρ3 => ρ3 = ρ.set i (.va (f x)) ∧ z = .bl (q x))) (hq : Q (.bl (if b then xs.any q else xs.all q))) : genK b (xs.map f) i te ρ Q := by
  classical
  have sel : ∀ d, ∃ o : Bool, ∀ x, d = f x → o = q x := fun d => by
    by_cases e : ∃ x, d = f x
    · obtain ⟨x, rfl⟩ := e
      exact ⟨q x, fun y hy => by rw [inj _ _ hy]⟩
    · exact ⟨false, fun x hx => absurd ⟨x, hx⟩ e⟩
  refine ⟨fun d => Classical.choose (sel d), fun d hd => ?_, ?_⟩
  · obtain ⟨x, hx, rfl⟩ := List.mem_map.mp hd
    have e := Classical.choose_spec (sel (f x)) x rfl
    show te X0 _ fun z _ ρ3 => ρ3 = ρ.set i (.va (f x)) ∧ z = .bl (Classical.choose (sel (f x)))
    rw [e]
    exact hs x hx
  · have e : (fun x => Classical.choose (sel (f x))) = q := funext fun x => Classical.choose_spec (sel (f x)) x rfl
    have e2 : (xs.map f).any (fun d => Classical.choose (sel d)) = xs.any q := by rw [List.any_map]; exact congrArg xs.any e
    have e3 : (xs.map f).all (fun d => Classical.choose (sel d)) = xs.all q := by rw [List.all_map]; exact congrArg xs.all e
    show Q (.bl (if b = true then (xs.map f).any _ else (xs.map f).all _))
    rw [e2, e3]
    exact hq
/-! the program's defs, fields -/
theorem dCall_ev {n : Nat} {φ : Ph} : dCall n φ A X ρ Q = A X ρ (kk fun ds ρ1 => ds.length = n ∧ φ ds (kk fun d => Q d .sh ρ1) (kk fun x => X x ρ1)) := rfl
def mK (C m : Str) (d : D) (κ : Kd) (Q : Prop) : Prop := κ = .sh ∧ match d with
  | .ins C' ns xs => C' = C ∧ m ∉ ns ∧ Q
  | _ => False
theorem mK_i {C C' m : Str} {ns : List Str} {xs : List D} {P : Prop} : mK C m (.ins C' ns xs) .sh P = (C' = C ∧ m ∉ ns ∧ P) := by unfold mK; simp
theorem dMeth_ev {C m : Str} {n : Nat} {φ : Ph} : dMeth C m n φ te A X ρ Q = te X ρ (kk fun d κ ρ1 => mK C m d κ (kk (A X ρ1 (kk fun ds ρ2 => ds.length = n ∧ φ (d :: ds) (kk fun z => Q z .sh ρ2) (kk fun x => X x ρ2))))) := by
  show te X ρ _ = te X ρ _
  congr 1
  funext d κ ρ1
  cases d <;> rfl
def fK (C f : Str) (d : D) (κ : Kd) (Q : D → Prop) : Prop := κ = .sh ∧ match d with
  | .ins C' ns xs => C' = C ∧ ns.length = xs.length ∧ oK ((ns.zip xs).lookup f) Q
  | _ => False
theorem fK_i {C C' f : Str} {ns : List Str} {xs : List D} {R : D → Prop} : fK C f (.ins C' ns xs) .sh R = (C' = C ∧ ns.length = xs.length ∧ oK ((ns.zip xs).lookup f) R) := by unfold fK; simp
theorem dFld_ev {C f : Str} : dFld C f te X ρ Q = te X ρ (kk fun d κ ρ1 => fK C f d κ (kk fun z => Q z .sh ρ1)) := by
  show te X ρ _ = te X ρ _
  congr 1
def nK (d : D) (Q : Int → Prop) : Prop := match d with
  | .int i => Q i
  | _ => False
theorem nK_i {j : Int} {f : Int → Prop} : nK (.int j) f = f j := rfl
theorem dNeg_ev : dNeg te X ρ Q = te X ρ (kk fun d _ ρ1 => nK d (kk fun n => Q (.int (-n)) .sh ρ1)) := by
  show te X ρ _ = te X ρ _
  congr 1
theorem dYes_ev {R : Bool → List Sl → Prop} : dYes X ρ R = R true ρ := rfl
end
end DL

-- part DL8
set_option Elab.async false
set_option linter.all false
set_option maxRecDepth 100000
set_option maxHeartbeats 2000000
/-! a store into a list of one's own -/
namespace DL
open PySem PySem.Spec PyProof.Rows L2 GxR GS GA GD
theorem RpL.set {K : PySem.W.Frag} {H : Hp} {A : AP} {d : D} {v : V} (hv : Rp K H A d v) : ∀ {ds : List D} {vs : List V} (j : Nat), RpL K H A ds vs → RpL K H A (ds.set j d) (vs.set j v)
  | [], _, j, h => by rw [h.unnil]; exact RpL.nil
  | e :: r, _, 0, h => by
    obtain ⟨w, t, rfl, h1, h2⟩ := h.uncons
    exact RpL.cons hv h2
  | e :: r, _, j + 1, h => by
    obtain ⟨w, t, rfl, h1, h2⟩ := h.uncons
    exact RpL.cons h1 (RpL.set hv j h2)
/-- xs[k] = e, xs a list of one's own, k written -/
def dStI (i : Nat) (k : Int) (te : DE) : DS := fun X N ρ => te X ρ fun d κ ρ1 => κ ≠ .bo ∧ owAt ρ1 i fun ds => ∃ j, ixN ds.length k = some j ∧ N.nx (ρ1.set i (.ow (ds.set j d)))
theorem dStI_ev {i : Nat} {k : Int} {te : DE} {X : XF} {N : DN} {ρ : List Sl} : dStI i k te X N ρ = te X ρ (kk fun d κ ρ1 => κ ≠ .bo ∧ owAt ρ1 i (kk fun ds => ∃ j, ixN ds.length k = some j ∧ N.nx (ρ1.set i (.ow (ds.set j d))))) := rfl
section
variable {X : Cx} {Ts : AP} {W : WX} {e : Expr} {te : DE} {i : Nat} {k : Int} {x : Str} {iq : Nat} {p ip sp pos : Pos}
theorem ds_stI (hN : X.N[i]? = some x) (hv : Vis X.env.scope x) (he : PE X e (upE X.K Ts W te)) (hd : (x == ("__debug__" : Str)) = false := by decide) (hcd : (x == ("__classdict__" : Str)) = false := by decide)
    (hs : swapsWithSole [.Subscript (.Name x p) (.Constant (.int k) iq ip) sp] e pos.line X.env = pure false := by rfl) (hw : swappedStores [.Subscript (.Name x p) (.Constant (.int k) iq ip) sp] e X.env = pure none := by rfl)
    (h1 : (assignEach [.Subscript (.Name x p) (.Constant (.int k) iq ip) sp] X.env).map (·.2) = [assign (.Subscript (.Name x p) (.Constant (.int k) iq ip) sp) X.env] := by rfl) :
    PS X (.Assign [.Subscript (.Name x p) (.Constant (.int k) iq ip) sp] e pos) (upS X.K Ts W (dStI i k te)) := by
  refine (ps_asg he (pg_sub (pe_var hN hv hd hcd) pe_int set_list) hs hw h1).imp fun E σ H h => ?_
  obtain ⟨A, O, ρ, Xf, N, m, h, c⟩ := h
  refine ⟨A, O, ρ, Xf, _, m, h, fun d κ ρ1 v H1 A1 O1 q s1 t1 m1 r1 => ?_, fun x ρ' cls od H' A' O' => c.x x ρ' cls od σ H' A' O'⟩
  obtain ⟨nb, q⟩ := q
  obtain ⟨ds, e1, j, hj, q⟩ := q.get
  obtain ⟨a, vs, g1, g2, g3, g4⟩ := m1.ow i ds e1
  obtain ⟨_, m2, t2⟩ := m1.put (es := ds.set j d) (vs := vs.set j v) e1 g1 g3 g2 (g4.set (r1.rp nb) j)
  exact ⟨_, g1, a, vs, k, j, rfl, rfl, g3, by rw [← g4.len]; exact hj, c.nx _ σ _ _ _ q (t1.trans t2 m.trk) m2⟩
end
/-! ### statement by statement -/
def kS {α : Sort _} (a : α) (_ : Tag a := ⟨⟩) : α := a
theorem kS_e {β : Sort _} (f : List Sl → β) (t : Tag f) (a : List Sl) : kS f t a = f a := rfl
section
variable {X : XF} {N : DN} {ρ : List Sl} {t u r : DS} {c : DT}
theorem dSeq_st : dSeq t u X N ρ = t X { N with nx := kS (u X N) } ρ := rfl
/-- an if with truth B behind which the slots keep I -/
theorem ifJ (B : Bool) (I : List Sl → Prop) {D : DN} (hc : ∀ R : Bool → List Sl → Prop, R B ρ → c X ρ R) (h1 : ∀ k : List Sl → Prop, (∀ ρ', I ρ' → k ρ') → B = true → t X ⟨k, D.rt, D.bk, D.ct⟩ ρ) (h2 : ∀ k : List Sl → Prop, (∀ ρ', I ρ' → k ρ') → B = false → u X ⟨k, D.rt, D.bk, D.ct⟩ ρ)
    (hn : ∀ ρ', I ρ' → D.nx ρ') : dIfS c t u X D ρ := by
  refine hc _ ?_
  cases B with
  | true => exact h1 D.nx hn rfl
  | false => exact h2 D.nx hn rfl
end
end DL

-- part DL9
set_option Elab.async false
set_option linter.all false
set_option maxRecDepth 100000
set_option maxHeartbeats 2000000
/-! isinstance of a built-in class; properties; exceptions with one field -/
namespace DL
open PySem PySem.Spec PyProof.Rows L2 GxR GS GA GD
/-! ### isinstance(x, T) -/
def tyD : D → Option String
  | .non => some "NoneType" | .bl _ => some "bool" | .int _ => some "int" | .str _ => some "str"
  | .lst _ => some "list" | .tup _ => some "tuple" | .scr _ => some "list" | .dct .. => some "dict" | .ins .. => none | .xc .. => none | .xn _ => none
def isD (T : String) (d : D) : Option Bool := (tyD d).bind fun t => kitB t T
theorem tyX_sqt {K : PySem.W.Frag} {H : Hp} {a : Addr} {vs : List V} (h : SqT K H a vs) : TyX K H (.ref a) (.type "tuple") := by
  rcases h with (h | ⟨o, h⟩) | ⟨o, its, n, h, e, _⟩
  · exact .base (.tup h)
  · exact .fTuple h
  · exact .kTuple h e
theorem tyX_sql {K : PySem.W.Frag} {H : Hp} {a : Addr} {vs : List V} (h : SqL K H a vs) : TyX K H (.ref a) (.type "list") := by
  rcases h with (h | ⟨o, h⟩) | ⟨o, its, n, h, e, _⟩
  · exact .base (.lst h)
  · exact .base (.frz h)
  · exact .kList h e
theorem tyX_of {K : PySem.W.Frag} {H : Hp} {A : AP} {d : D} {v : V} {t : String} (e : tyD d = some t) (h : Wk K H A d v) : TyX K H v (.type t) := by
  cases d with
  | non => cases e; rw [h.non]; exact .base .non
  | bl b => cases e; rw [h.bl]; exact .base (.bl b)
  | int i => cases e; rw [h.int]; exact .base (.int i)
  | str s => cases e; rw [h.str]; exact .base (.str s)
  | lst xs => cases e; obtain ⟨a, vs, rfl, h1, _⟩ := h.lst; exact .base (.lst h1)
  | tup xs => cases e; obtain ⟨a, vs, rfl, h1, _⟩ := h.tup; exact tyX_sqt h1
  | scr ns => cases e; obtain ⟨a, rfl, h1⟩ := h.scr; exact tyX_sql h1.sq
  | dct ks xs => cases e; obtain ⟨a, vs, rfl, h1, _⟩ := h; exact .base (.dK h1)
  | ins C ns xs => cases e
  | xc a dd f z => cases e
  | xn a => cases e
def dIsi (T : String) (te : DE) : DE := fun X ρ Q => te X ρ fun d _ ρ1 => oK (isD T d) fun b => Q (.bl b) .sh ρ1
theorem dIsi_ev {T : String} {te : DE} {X : XF} {ρ : List Sl} {Q : D → Kd → List Sl → Prop} : dIsi T te X ρ Q = te X ρ (kk fun d _ ρ1 => oK (isD T d) (kk fun b => Q (.bl b) .sh ρ1)) := rfl
section
variable {X : Cx} {Ts : AP} {W : WX} {e o : Expr} {te to : DE} {p p2 pos : Pos}
theorem de_isi {x : Str} {T : String} (hg : Gl X "isinstance") (hm : X.mg "isinstance" = none) (hv : bootBuiltins "isinstance" = some (.builtin "isinstance")) (gx : Gl X x) (mx : X.mg x = none) (vx : bootBuiltins x = some (.type T)) (he : PE X e (upE X.K Ts W te)) (hn : x ≠ "__name__" := by decide) (hd : (x == ("__debug__" : Str)) = false := by decide)
    (hs : starEach [e, .Name x p2] X.env = (false, eval e X.env) :: starEach [.Name x p2] X.env := by rfl) (hs2 : starEach [.Name x p2] X.env = (false, eval (.Name x p2) X.env) :: starEach [] X.env := by rfl) (hb : (backTo pos (starEach [.Name x p2] X.env)).any (·.1) = false := by rfl) (hb2 : (backTo pos (starEach [] X.env)).any (·.1) = false := by rfl) :
    PE X (.Call (.Name "isinstance" p) [e, .Name x p2] [] pos) (upE X.K Ts W (dIsi T te)) := by
  refine (pe_callB call_isi hg hm hv (pa_cons he (pa_cons (pe_bltn (v := .ty T) gx mx vx rfl hn hd) pa_nil hs2) hs) (by decide) (by decide) hs hb).imp fun σ H Q h => ?_
  obtain ⟨A, O, ρ, Xf, Qd, m, h, c⟩ := h
  refine ⟨A, O, ρ, Xf, _, m, h, fun d κ ρ1 v H1 A1 O1 h1 s1 t1 m1 r1 => ?_, c.x⟩
  obtain ⟨b, eb, h1⟩ := h1.get
  unfold isD at eb
  cases et : tyD d with
  | none => rw [et] at eb; cases eb
  | some t =>
    rw [et] at eb
    exact ⟨v, .ty T, .type t, .type T, b, rfl, .ty T, tyX_of et r1.wk, kit_ty eb, (c.move s1 t1 m).flat m1 h1 (by unfold Rp; rfl)⟩
end
theorem is_ss {s : Str} : isD "str" (.str s) = some true := by show kitB "str" "str" = _; decide +kernel
theorem is_sl {ds : List D} : isD "str" (.lst ds) = some false := by show kitB "list" "str" = _; decide +kernel
theorem is_st {ds : List D} : isD "str" (.tup ds) = some false := by show kitB "tuple" "str" = _; decide +kernel
theorem is_bb {b : Bool} : isD "bool" (.bl b) = some true := by show kitB "bool" "bool" = _; decide +kernel
/-! ### properties that let nothing out -/
def dProp (C : Str) (φ : Ph) (to : DE) : DE := fun X ρ Q => to X ρ fun d κ ρ1 => κ = .sh ∧ match d with
  | .ins C' ns xs => C' = C ∧ φ [.ins C' ns xs] (fun z => Q z .sh ρ1) fun _ => False
  | _ => False
def prK (C : Str) (φ : Ph) (d : D) (κ : Kd) (Q : D → Prop) : Prop := κ = .sh ∧ match d with
  | .ins C' ns xs => C' = C ∧ φ [.ins C' ns xs] Q fun _ => False
  | _ => False
theorem prK_i {C C' : Str} {φ : Ph} {ns : List Str} {xs : List D} {Q : D → Prop} : prK C φ (.ins C' ns xs) .sh Q = (C' = C ∧ φ [.ins C' ns xs] Q fun _ => False) := by unfold prK; simp
theorem dProp_ev {C : Str} {φ : Ph} {to : DE} {X : XF} {ρ : List Sl} {Q : D → Kd → List Sl → Prop} : dProp C φ to X ρ Q = to X ρ (kk fun d κ ρ1 => prK C φ d κ (kk fun z => Q z .sh ρ1)) := by
  show to X ρ _ = to X ρ _
  congr 1
section
variable {X : Cx} {Ts : AP} {W : WX} {e o : Expr} {te to : DE} {p p2 pos : Pos} {k : Nat} {fd : FuncData} {ps : List Str} {φ : Ph}
theorem de_prop {C f' : Str} {pa g : Addr} (he : PE X o (upE X.K Ts W to)) (c : Cls X.K (He.ga X.K C)) (hp : PropOf X.K (He.ga X.K C) f' pa g) (F : FnOk X.prog X.w X.K X.mg X.base (L2.CX X.prog X.w) k g fd ps (spD X.K Ts 1 φ)) (hr : Room (k + 1) X.A) (hb : Binds X.K fd ps [])
    (hab : attributeBase o f' X.env (eval o X.env) = eval o X.env := by rfl) : PE X (.Attribute o f' pos) (upE X.K Ts W (dProp C φ to)) := by
  refine (pe_prop he c hp (quiet F) hr hb .nil pass0 hab).imp fun σ H Q h => ?_
  obtain ⟨A, O, ρ, Xf, Qd, mm, h, cn⟩ := h
  refine ⟨A, O, ρ, Xf, _, mm, h, fun d κ ρ1 v H1 A1 O1 h1 s1 t1 m1 r1 => ?_, cn.x⟩
  obtain ⟨ek, h1⟩ := h1
  subst ek
  split at h1
  · obtain ⟨ec, h1⟩ := h1
    subst ec
    have r0 : Rp X.K H1 A1 _ v := r1
    have r2 : Rp X.K H1 A1 _ v := r0
    unfold Rp at r2
    obtain ⟨a, dx, vs, rfl, g1, _, gl, _⟩ := r2
    exact ⟨a, dx, _, rfl, g1, rfl, A1, _, _, _, m1.tab, m1.trk, RpL.cons r0 RpL.nil, h1, fun z u H2 A2 hz s2 ha r => (cn.move s1 t1 mm).sh m1 s2 hz (r.less ha), fun _ _ _ _ _ z => z.elim⟩
  · exact h1.elim
/-! ### raise C(e): C keeps one field -/
def fmtD : D → Prop
  | .str y => y.length ≤ 100000
  | .int i => 0 ≤ i ∧ i < 1000
  | _ => False
def dRaise1 (C f : Str) (te : DE) : DS := fun X N ρ => te X ρ fun d κ ρ1 => κ ≠ .bo ∧ fmtD d ∧ X ⟨C, some (f, d)⟩ ρ1
theorem dRaise1_ev {C f : Str} {te : DE} {Xf : XF} {N : DN} {ρ : List Sl} : dRaise1 C f te Xf N ρ = te Xf ρ (kk fun d κ ρ1 => κ ≠ .bo ∧ fmtD d ∧ Xf ⟨C, some (f, d)⟩ ρ1) := rfl
theorem str_len : ∀ n < 1000, (toString ((n : Nat) : Int) : Str).length ≤ 10 := by decide +kernel
theorem fmt_ok {K : PySem.W.Frag} {H : Hp} {A : AP} {d : D} {v : V} {m : Str} (hm : m.length ≤ 100) (hd : fmtD d) (r : Rp K H A d v) (a : V) :
    (fun (σ : L2.St) (H : Hp) (Q : VK) => tJs [tC (.str m), tFmt (tVar 1)] Str.empty σ H fun out H1 => Q (.str out) H1) [some a, some v] H (fun _ H' => H' = H) := by
  have e0 : (Str.empty ++ m : Str).length ≤ 100 := by
    have : (Str.empty ++ m : Str).length = m.length := by
      show (#[] ++ m.cps).size = m.cps.size
      simp
    omega
  have ap : ∀ a b : Str, (a ++ b).length = a.length + b.length := fun a b => Array.size_append
  cases d with
  | str y =>
    have ev : v = .str y := by unfold Rp at r; exact r
    have hd : y.length ≤ 100000 := hd
    refine ⟨m, rfl, by unfold sizeLine; omega, v, rfl, .inl ⟨y, ev, by unfold sizeLine; omega, y, rfl, ?_, rfl⟩⟩
    rw [ap]; unfold sizeLine; omega
  | int i =>
    have ev : v = .int i := by unfold Rp at r; exact r
    have hd : 0 ≤ i ∧ i < 1000 := hd
    obtain ⟨n, rfl⟩ : ∃ n : Nat, i = (n : Int) := ⟨i.toNat, by omega⟩
    have l := str_len n (by omega)
    have l2 : ((n : Int)).natAbs.log2 < 1920 := by
      have : ∀ n < 1000, n.log2 < 1920 := by decide +kernel
      exact this n (by omega)
    refine ⟨m, rfl, by unfold sizeLine; omega, v, rfl, .inr ⟨_, ev, l2, _, rfl, ?_, rfl⟩⟩
    rw [ap]; unfold sizeLine; omega
  | _ => exact hd.elim
theorem xd_heap' {H : Hp} {a dx : Addr} {o u w z : HO} (ha : H a = none) (ne : dx ≠ a) : upd (del (upd (upd (upd H a o) dx u) a w) a) dx z = upd H dx z := by
  funext b
  by_cases h1 : b = dx
  · rw [h1, upd_same, upd_same]
  · rw [upd_ne h1, upd_ne h1]
    by_cases h2 : b = a
    · rw [h2, del_same, ha]
    · rw [del_ne h2, upd_ne h2, upd_ne h1, upd_ne h2]
/-- te' is what the def's text asks -/
theorem ds_raise1 {C f x : Str} {fI : Addr} {kx : Nat} {fdx : FuncData} {te' : TE} (hc : X.calm = true) (tk : Takes X W) (T : OexC X.K (He.ga X.K C)) (iC : PySem.W.findIn X.K (.ref (He.ga X.K C)) "__init__" = some (some (.ref fI))) (tI : PySem.W.typeIn X.K (.ref fI) = some (.type "function"))
    (F1 : FnOk X.prog X.w X.K X.mg X.base CX0 kx fI fdx ["self", x] (SU.spS (He.ga X.K C) f te')) (hte : ∀ (d : D) (v : V) (H : Hp) (A : AP) (a : V), fmtD d → Rp X.K H A d v → te' [some a, some v] H (fun _ H' => H' = H)) (hr : Room (kx + 1) X.A) (hb : Binds X.K fdx ["self", x] [])
    (hg : Gl X C) (hm : X.mg C = some (.ref (He.ga X.K C))) (he : PE X e (upE X.K Ts W te)) (hdb : (C == ("__debug__" : Str)) = false := by decide) (hs : starEach [e] X.env = (false, eval e X.env) :: starEach [] X.env := by rfl) (hpl : (backTo pos (starEach [] X.env)).any (·.1) = false := by rfl) :
    PS X (.Raise (some (.Call (.Name C p) [e] [] pos)) none p2) (upS X.K Ts W (dRaise1 C f te)) := by
  refine (ps_raise hc tk (pmk_oex (dvs := []) T iC tI F1 hr hb .nil pass0 hg hm (pa_cons he pa_nil hs) hdb hs hpl)).imp fun E σ H h => ?_
  obtain ⟨A, O, ρ, Xf, N, m, h, c⟩ := h
  refine ⟨A, O, ρ, Xf, _, m, h, fun d κ ρ1 v H1 A1 O1 h1 s1 t1 m1 r1 => ?_, fun x ρ' cls od H' A' O' => c.x x ρ' cls od σ H' A' O'⟩
  obtain ⟨nb, fd1, h1⟩ := h1
  have r := r1.rp nb
  refine ⟨by show 1 ≤ 1000; omega, fun a ha => ⟨a, v, rfl, upd_same, ?_, fun dx hd ne => ⟨rfl, dx, [(f, v)], upd_same, ?_, ?_, ?_⟩⟩⟩
  · exact hte d v _ (fun _ => False) _ fd1 ((r.less (A' := fun _ => False) fun _ z => z.elim).sm (Sm.new ha))
  · rw [upd_ne ne, upd_same]
  · rw [upd_ne ne] at hd
    exact hd
  · have hd : H1 dx = none := by rw [upd_ne ne] at hd; exact hd
    rw [xd_heap' ha ne]
    have s2 := Sm.new (o := .xd [(f, v)]) hd
    exact c.x _ ρ1 _ _ σ _ _ _ h1 (t1.trans (Tr.of s2) m.trk) (m1.sm s2) ⟨rfl, dx, v, rfl, upd_same, r.sm s2⟩
end
end DL

-- part SU3
set_option Elab.async false
set_option linter.all false
set_option maxRecDepth 100000
set_option maxHeartbeats 2000000
/-! isinstance of a caught exception that has fields -/
namespace SU
open PySem PySem.Spec PySem.W PySem.Calls PyProof.Rows L2
section
variable {prog : Program} {w : World} {A : Around} {E : Value → Shared → Prop} {s : Shared} {K : PySem.W.Frag} {a D : Addr} {o : Obj} {od : Option Obj}
theorem cls_found (C : ExcC K D) : findObj K D od "__class__" = some (.bind (.builtin "getset_descriptor.__get__") (.builtin "object.__class__")) := by
  obtain ⟨cd, hc, _⟩ := any_some C.hd
  have h1 := C.ha
  have h2 := C.hn
  have h3 := C.ht
  unfold findObj
  rw [hc, Option.bind_some, h1, Option.bind_some]
  simp [h2, h3]
theorem cls_asked {R : Option Value → Shared → Prop} (C : ExcC K D) (X : K.In s.heap) (I : InstAt s.heap a o D od) (r : R (some (.ref D)) { s with toks := s.toks + 1 }) : wpAny (model prog w) A (getAttr? (.ref a) "__class__") R E s := by
  obtain ⟨hp, g, d, t, os⟩ := s
  have ty := I.type (M := model prog w)
  have ga := looks_findIn (M := model prog w) X C.hg
  have gt := looks_findIn (M := model prog w) X C.hk
  have fo := looks_find (M := model prog w) X I (cls_found C)
  have be : Looks (model prog w) hp (isInstance (.ref a) (.type "BaseException")) true := ty.andThen (looks_subIn X C.hs)
  have n1 : (Value.builtin "BaseException.__getattribute__" == Value.builtin "object.__getattribute__") = false := by decide +kernel
  have n2 : (onTheHeap (Value.ref D) && Value.builtin "BaseException.__getattribute__" == Value.builtin "object.__getattribute__") = false := by rw [n1, Bool.and_false]
  have n3 : (false && onTheHeap (Value.builtin "BaseException.__getattribute__")) = false := rfl
  have bnd := PySem.F.excAttr_ValueError.ga.bind (.ref a)
  unfold getAttr? getAttrBy? getAttrBy
  refine wpAny_bind (wpAny_mkText (wpAny_bind (wpAny_attempt (wpAny_holding (wpAny_bind (ty.at (wpAny_bind (ga.at ?_))))))))
  show wpAny _ _ (if (onTheHeap (Value.ref D) && Value.builtin "BaseException.__getattribute__" == Value.builtin "object.__getattribute__") = true then _ else _) _ _ _
  rw [n2, if_neg Bool.false_ne_true]
  unfold getAttrByItsOwn hookBefore
  refine wpAny_bind ?_
  have n4 : onTheHeap (Value.ref D) = true := rfl
  rw [if_pos n4]
  refine gt.at (wpAny_bind (wpAny_attempt (wpAny_holding ?_)))
  unfold callGetattribute
  rw [n3, if_neg Bool.false_ne_true]
  unfold boundAndCalled
  rw [bnd]
  refine wpAny_bind (wpAny_pure ?_)
  show wpAny _ _ (call (.builtin "BaseException.__getattribute__") [.ref a, .str "__class__" t]) _ _ _
  refine wpAny_call (codeAny_call_builtin PySem.F.excAttr_ValueError.ga.plain PySem.F.entry_bexc_ga (@check_slot (model prog w) _ _ ⟨hp, g, d, t + 1, os⟩ "BaseException.__getattribute__" "BaseException" "__getattribute__" (.ref a) [.str "__class__" t] [] _ (by decide +kernel) (by decide +kernel) be (PySem.F.args_bexc_ga (.ref a) (.str "__class__" t)) ?_))
  unfold Builtin.«object.__getattribute__»
  refine wpAny_bind (wpAny_of_eq (a := ((Value.ref a : Value), [Value.str "__class__" t])) (by first | rfl | (simp only [slotArgs]; rfl)) (wpAny_bind (wpAny_pure (wpAny_bind (ty.at (wpAny_bind (fo.at ?_)))))))
  show wpAny _ _ (holding [Value.builtin "object.__class__"] (call (.builtin "getset_descriptor.__get__") [.builtin "object.__class__", .ref a, .ref D]) >>= ret) _ _ _
  refine wpAny_bind (wpAny_holding (wpAny_call (class_get (s := ⟨hp, g, d, t + 1, os⟩) (ox := o) (od := od) X I C.hm (wpAny_pure ?_))))
  show wpAny _ _ (handedOut (.ref D)) _ _ _
  have ho : handedOut (.ref D) = _ := handedOut_of (v := .ref D) rfl
  rw [ho]
  first
    | exact wpAny_pure (wpAny_pure r)
    | exact wpAny_pure r
    | exact wpAny_pure (wpAny_bind (wpAny_pure (wpAny_pure r)))
theorem kit_od (C : ExcC K D) : KitX K (.ref a) (.ref D) (fun h => ∃ od, InstAt h a o D od) where
  ty := fun _ _ _ ⟨_, I⟩ => I.type
  it := fun _ _ X _ => by
    obtain ⟨cd, hc, _⟩ := any_some C.hd
    unfold clsIn at hc
    split at hc
    · rename_i lk
      intro A' Q' E' s' k q
      unfold isType loadHead
      exact wpAny_bind (wpAny_loadPart (k _ _ (X _ _ lk)) (wpAny_pure q))
    · cases hc
  ne := fun h tp dd its n sl X htp => by
    obtain ⟨cd, hc, _⟩ := any_some C.hd
    unfold clsIn at hc
    split at hc
    · rename_i lk
      refine Bool.eq_false_iff.mpr fun q => ?_
      have e : D = tp := Value.ref.inj (beq_iff_eq.mp q)
      rw [← e, X _ _ lk] at htp
      cases htp
    · cases hc
  ca := fun X ⟨_, I⟩ k => cls_asked C X I k
end
/-- isinstance(e, c): e is caught, has fields -/
theorem call_isF {X : Cx} {a D dd : Addr} {oe : Obj} {pn : List (Addr × Obj)} (C : ExcC X.K D) (hz : Zc (.ref D) (some dd) oe) (hf : ∃ vs, oe.data = .fields vs) :
    CallR (X.suite a ((a, oe) :: pn)) (.builtin "isinstance") (fun xs H Q => (∃ fs, H dd = some (.xd fs)) ∧ rIsE X.K D a xs H Q) := by
  intro pins s σ H xs us Q I r h
  obtain ⟨⟨fs, hfs⟩, c, cv, b, rfl, hcv, e, q⟩ := h
  cases r with
  | cons rx rr =>
    cases rr with
    | cons rt rr =>
      cases rr
      cases rx
      have ec := hcv _ rt
      subst ec
      obtain ⟨hget, _⟩ := I.pin (a, oe) (List.mem_append.mpr (.inl List.mem_cons_self))
      have hx : ObjOk X.prog X.w H s.heap dd (.xd fs) := I.hok dd _ hfs
      obtain ⟨mA, hns, hr⟩ := hx
      obtain ⟨ob, ho, hl⟩ := lookIn_ns hns
      obtain ⟨vs, hv⟩ := hf
      have J : InstAt s.heap a oe D (some ob) := ⟨hget, hz.1, by unfold notCls; rw [hv] <;> rfl, by rw [hz.2]; exact ho⟩
      exact kia_one (kit_od C) I.kIn ⟨_, J⟩ e (fun z => nomatch z) fun tk => ⟨.bl b, H, I.kept (t' := tk) fun _ _ z => z, rfl, q⟩
end SU

-- part DL10
set_option Elab.async false
set_option linter.all false
set_option maxRecDepth 100000
set_option maxHeartbeats 2000000
/-! try: .. except C as e: .., where C's instances have one field -/
namespace DL
open PySem PySem.Spec PyProof.Rows L2 GxR GS GA GD
def X0n : XF := fun _ _ => False
/-- em: whether what is raised is caught; the caught one is of C itself -/
def dTryAs (em : Str → Option Bool) (C : Str) (i : Nat) (tb : DS) (ts : Addr → Addr → DS) : DS := fun X N ρ => tb (fun x ρ1 => oK (em x.cls) fun b => if b = true then x.cls = C ∧ oK x.arg fun q => i < ρ1.length ∧ ∀ a dd, ts a dd X0n { nx := fun ρ2 => N.nx (ρ2.set i .no), rt := N.rt, bk := fun ρ2 => N.bk (ρ2.set i .no), ct := fun ρ2 => N.ct (ρ2.set i .no) } (ρ1.set i (.va (.xc a dd q.1 q.2))) else X x ρ1) N ρ
theorem dTryAs_ev {em : Str → Option Bool} {C : Str} {i : Nat} {tb : DS} {ts : Addr → Addr → DS} {X : XF} {N : DN} {ρ : List Sl} : dTryAs em C i tb ts X N ρ = tb (kk fun x ρ1 => oK (em x.cls) (kk fun b => iK b (x.cls = C ∧ oK x.arg (kk fun q => i < ρ1.length ∧ ∀ a dd, ts a dd X0n { nx := kk fun ρ2 => N.nx (ρ2.set i .no), rt := N.rt, bk := kk fun ρ2 => N.bk (ρ2.set i .no), ct := kk fun ρ2 => N.ct (ρ2.set i .no) } (ρ1.set i (.va (.xc a dd q.1 q.2))))) (X x ρ1))) N ρ := rfl
section
variable {X : Cx} {Ts : AP} {W : WX} {tb : DS} {ts : Addr → Addr → DS} {C x n : Str} {i : Nat} {em : Str → Option Bool} {body suite : List Stmt} {b₀ : Stmt} {np pos pos' : Pos}
theorem ds_tryAs (hs : X.stack = X.env :: X.outer) (hf : X.env.frame = some X.env.locals) (hN : X.N.Nodup) (hi : X.N[i]? = some n) (hln : X.env.kindOf n = some .local) (hc : Names X x (.ref (He.ga X.K C))) (tk : Takes X W)
    (hem : ∀ c b, em c = some b → PySem.W.exmOne X.K (.ref (He.ga X.K c)) (.ref (He.ga X.K C)) = some b)
    (hb : ∀ (W : WX) (pn : List (Addr × Obj)) (xe : Value → Shared → Prop), Takes (X.tr pn xe) W → PassesOwn (model X.prog X.w) X.A X.env xe → PSs (X.tr pn xe) body (upS X.K Ts W tb))
    (hsu : ∀ (a dd : Addr) (oe : Obj) (pn : List (Addr × Obj)), Zc (.ref (He.ga X.K C)) (some dd) oe → (∃ vs, oe.data = .fields vs) → PSs (X.suite a ((a, oe) :: pn)) (b₀ :: suite) (upS X.K Ts W (ts a dd))) :
    PS X (.Try body [.ExceptHandler (some (.Name x np)) (some n) (b₀ :: suite) pos'] [] [] pos) (upS X.K Ts W (dTryAs em C i tb ts)) := by
  have run := ps_try_as (np := np) (pos := pos) (pos' := pos') (Wout := W) (tb := fun W => upS X.K Ts W tb) (ts := fun a cls d E σ H => ∃ dd, cls = .ref (He.ga X.K C) ∧ d = some dd ∧ upS X.K Ts W (ts a dd) E σ H) hs hf hN hi hln hc tk hb fun a oe cls d pn hz hfd => by
    refine ⟨fun pins s σ H D I q => ?_⟩
    obtain ⟨dd, rfl, rfl, q⟩ := q
    exact (hsu a dd oe pn hz hfd).run pins s σ H D I q
  refine run.imp fun E σ H h => ?_
  obtain ⟨A, O, ρ, Xf, N, m, h, c⟩ := h
  refine ⟨A, O, ρ, _, N, m, h, ⟨c.nx, c.bk, c.ct, c.rt, fun y ρ1 cls od σ1 H1 A1 O1 hx t1 m1 r1 => ?_⟩⟩
  obtain ⟨b, eb, hx⟩ := hx.get
  have r0 := r1.1
  refine ⟨b, by rw [r0]; exact hem _ _ eb, fun hbt a ha => ?_, fun hbf => ?_⟩
  · rw [if_pos hbt] at hx
    obtain ⟨ec, hx⟩ := hx
    obtain ⟨q, eq, il, hx⟩ := hx.get
    obtain ⟨_, r2⟩ := r1
    rw [eq] at r2
    obtain ⟨dd, v, e1, e2, e3⟩ := r2
    have rx : Rp X.K H1 A1 (.xc a dd q.1 q.2) (.ref a) := by unfold Rp; exact ⟨rfl, v, e2, e3⟩
    obtain ⟨Om2, m2, t2⟩ := m1.setVa (i := i) rx
    have c2 := c.move (t1.trans t2 m.trk) m
    have back : ∀ {R : List Sl → Prop} {G : L2.St → Hp → Prop}, (∀ ρ' σ' H' A' O', R ρ' → Tr A1 Om2 H1 A' O' H' → Mt X.K Ts H' A' O' ρ' σ' → G σ' H') → ∀ ρ' σ' H' A' O', R (ρ'.set i .no) → Tr A1 Om2 H1 A' O' H' → Mt X.K Ts H' A' O' ρ' σ' → G (σ'.set i none) H' :=
      fun {R G} g ρ' σ' H' A' O' hr tr mt => by
        obtain ⟨_, n3, t3⟩ := mt.setNo (i := i) (x := none)
        exact g _ _ _ _ _ hr (tr.trans t3 m2.trk) n3
    refine ⟨dd, by rw [r0, ec], e1, A1, _, _, X0n, _, m2, hx a dd, ⟨back c2.nx, back c2.bk, back c2.ct, c2.rt, fun _ _ _ _ _ _ _ _ z => z.elim⟩⟩
  · rw [if_neg (by rw [hbf]; decide)] at hx
    exact c.x y ρ1 cls od σ1 H1 A1 O1 hx t1 m1 r1
end
/-! ### what a caught exception is asked -/
def xK (s : Sl) (a dd : Addr) (Q : Str → D → Prop) : Prop := match s with
  | .va (.xc a' dd' f z) => a' = a ∧ dd' = dd ∧ Q f z
  | _ => False
theorem xK_x {a a' dd dd' : Addr} {f : Str} {z : D} {Q : Str → D → Prop} : xK (.va (.xc a' dd' f z)) a dd Q = (a' = a ∧ dd' = dd ∧ Q f z) := rfl
/-- e.f -/
def dXf (a dd : Addr) (i : Nat) (f : Str) : DE := fun _ ρ Q => xK (sl ρ i) a dd fun g z => g = f ∧ Q z .sh ρ
theorem dXf_ev {a dd : Addr} {i : Nat} {f : Str} {X : XF} {ρ : List Sl} {Q : D → Kd → List Sl → Prop} : dXf a dd i f X ρ Q = xK (sl ρ i) a dd (kk fun g z => g = f ∧ Q z .sh ρ) := rfl
/-- isinstance(e, c), the answer is known -/
def dIsx (a dd : Addr) (i : Nat) (b : Bool) : DE := fun _ ρ Q => xK (sl ρ i) a dd fun _ _ => Q (.bl b) .sh ρ
theorem dIsx_ev {a dd : Addr} {i : Nat} {b : Bool} {X : XF} {ρ : List Sl} {Q : D → Kd → List Sl → Prop} : dIsx a dd i b X ρ Q = xK (sl ρ i) a dd (kk fun _ _ => Q (.bl b) .sh ρ) := rfl
theorem xK.get {ρ : List Sl} {i : Nat} {a dd : Addr} {Q : Str → D → Prop} (h : xK (sl ρ i) a dd Q) : ∃ f z, ρ[i]? = some (.va (.xc a dd f z)) ∧ Q f z := by
  unfold xK at h
  split at h
  · rename_i a' dd' f z e
    obtain ⟨rfl, rfl, q⟩ := h
    refine ⟨f, z, ?_, q⟩
    rw [sl_eq]
    by_cases hl : i < ρ.length
    · rw [if_pos hl, e]
    · have : sl ρ i = .no := by unfold sl; rw [List.getD_eq_getElem?_getD, List.getElem?_eq_none (by omega)]; rfl
      rw [this] at e
      cases e
  · exact h.elim
section
variable {X : Cx} {Ts : AP} {W : WX} {C f n : Str} {i : Nat} {a dd : Addr} {oe : Obj} {pn : List (Addr × Obj)} {p p2 pos : Pos}
theorem de_xf (T : XfC X.K (He.ga X.K C)) (hno : PySem.W.findIn X.K (.ref (He.ga X.K C)) f = some none) (hz : Zc (.ref (He.ga X.K C)) (some dd) oe) (hf : ∃ vs, oe.data = .fields vs) (hN : X.N[i]? = some n) (hv : Vis X.env.scope n) (hd : (n == ("__debug__" : Str)) = false := by decide) (hcd : (n == ("__classdict__" : Str)) = false := by decide)
    (hb : attributeBase (.Name n p) f X.env (eval (.Name n p) X.env) = eval (.Name n p) X.env := by rfl) :
    PE (X.suite a ((a, oe) :: pn)) (.Attribute (.Name n p) f pos) (upE X.K Ts W (dXf a dd i f)) := by
  refine (pe_xf (X := X) T hno hz hf (pe_var (X := X.suite a ((a, oe) :: pn)) hN hv hd hcd) hb).imp fun σ H Q h => ?_
  obtain ⟨A, O, ρ, Xf, Qd, m, h, c⟩ := h
  obtain ⟨g, z, e, rfl, q⟩ := xK.get h
  obtain ⟨v, e1, r⟩ := m.va i _ e
  have r0 := r
  unfold Rp at r0
  obtain ⟨rfl, w, r1, r2⟩ := r0
  refine ⟨_, e1, rfl, rfl, dd, _, w, rfl, r1, ?_, c.flat m q r2⟩
  simp [List.lookup]
theorem de_isx {ce : Expr} {cv : V} {cu : Value} {b : Bool} (E : ExcC X.K (He.ga X.K C)) (hz : Zc (.ref (He.ga X.K C)) (some dd) oe) (hf : ∃ vs, oe.data = .fields vs) (hN : X.N[i]? = some n) (hv : Vis X.env.scope n) (hg : Gl X "isinstance") (hm : X.mg "isinstance" = none) (hbt : bootBuiltins "isinstance" = some (.builtin "isinstance"))
    (hc : PE (X.suite a ((a, oe) :: pn)) ce (tC cv)) (hu : ∀ u, RelV cv u → u = cu) (hk : PySem.W.kitOne X.K (.ref (He.ga X.K C)) cu = some b) (hd : (n == ("__debug__" : Str)) = false := by decide) (hcd : (n == ("__classdict__" : Str)) = false := by decide)
    (hs : starEach [.Name n p, ce] X.env = (false, eval (.Name n p) X.env) :: starEach [ce] X.env := by rfl) (hs2 : starEach [ce] X.env = (false, eval ce X.env) :: starEach [] X.env := by rfl) (hpl : (backTo pos (starEach [ce] X.env)).any (·.1) = false := by rfl) :
    PE (X.suite a ((a, oe) :: pn)) (.Call (.Name "isinstance" p2) [.Name n p, ce] [] pos) (upE X.K Ts W (dIsx a dd i b)) := by
  refine (pe_callB (X := X.suite a ((a, oe) :: pn)) (SU.call_isF E hz hf) hg hm hbt (pa_cons (pe_var (X := X.suite a ((a, oe) :: pn)) hN hv hd hcd) (pa_cons hc pa_nil hs2) hs) (by decide) (by decide) hs hpl).imp fun σ H Q h => ?_
  obtain ⟨A, O, ρ, Xf, Qd, m, h, c⟩ := h
  obtain ⟨g, z, e, q⟩ := xK.get h
  obtain ⟨v, e1, r⟩ := m.va i _ e
  have r0 := r
  unfold Rp at r0
  obtain ⟨rfl, w, r1, r2⟩ := r0
  exact ⟨_, e1, ⟨_, r1⟩, cv, cu, b, rfl, hu, hk, c.flat m q (by unfold Rp; rfl)⟩
end
end DL
namespace DL
theorem xc_c {c : PySem.Str} {a : Option (PySem.Str × D)} : (Xc.mk c a).cls = c := rfl
theorem xc_a {c : PySem.Str} {a : Option (PySem.Str × D)} : (Xc.mk c a).arg = a := rfl
end DL
namespace DL
open PySem PySem.Spec PyProof.Rows L2 GxR GS GA GD
/-- a statement that is never reached -/
def dDead : DS := fun _ _ _ => False
theorem ds_dead {X : Cx} {Ts : AP} {W : WX} {st : Stmt} : PS X st (upS X.K Ts W dDead) := ⟨fun _ _ _ _ _ _ h => by obtain ⟨_, _, _, _, _, _, z, _⟩ := h; exact z.elim⟩
theorem code_ref {K : PySem.W.Frag} {x qual : Str} {params : Arguments} {body : List Stmt} {scope : Scope} {dvs : List V} {kws : List (Str × V)} {f : Addr} {fd : FuncData} (F : FunD K x qual params body scope dvs kws f fd) : ∃ c, fd.code = .ref c := by
  obtain ⟨oc, od, dV, kV, doc, pm, an, cdv, ct, osl, rfl, lk, hcd, _, _⟩ := F.ex
  show ∃ c, cdv = .ref c
  unfold PySem.W.codeIn at hcd
  split at hcd
  · exact ⟨_, rfl⟩
  · cases hcd
end DL
namespace DL
section
variable {X : XF} {ρ : List Sl} {t u : DS} {c : DT}
/-- as ifJ, where the test changes the slots -/
theorem ifJ1 (B : Bool) (ρ1 : List Sl) (I : List Sl → Prop) {D : DN} (hc : ∀ R : Bool → List Sl → Prop, R B ρ1 → c X ρ R) (h1 : ∀ k : List Sl → Prop, (∀ ρ', I ρ' → k ρ') → B = true → t X ⟨k, D.rt, D.bk, D.ct⟩ ρ1) (h2 : ∀ k : List Sl → Prop, (∀ ρ', I ρ' → k ρ') → B = false → u X ⟨k, D.rt, D.bk, D.ct⟩ ρ1)
    (hn : ∀ ρ', I ρ' → D.nx ρ') : dIfS c t u X D ρ := by
  refine hc _ ?_
  cases B with
  | true => exact h1 D.nx hn rfl
  | false => exact h2 D.nx hn rfl
end
end DL

-- part HdTup
set_option Elab.async false
set_option linter.all false
set_option maxRecDepth 100000
set_option maxHeartbeats 2000000
/-! a tuple of texts in the module -/
namespace Hd
open PySem PySem.Spec PyProof.Rows L2
def strTupB (K : PySem.W.Frag) (a : Addr) (ss : List Str) : Bool := match K.lookup a with
  | some ⟨.type c, none, .seq its _, sl⟩ => decide (c = "tuple") && (sl.isEmpty && decide ((its.toList.map fun u => match u with | .str y _ => some y | _ => none) = ss.map some))
  | _ => false
theorem strTup_vals : ∀ {us : List Value} {ss : List Str}, (us.map fun u => match u with | .str y _ => some y | _ => none) = ss.map some → Vals (ss.map V.str) us
  | [], [], _ => .nil
  | [], s :: r, h => by cases h
  | u :: r, [], h => by cases h
  | u :: r, s :: t, h => by
    rw [List.map_cons, List.map_cons, List.cons.injEq] at h
    obtain ⟨h1, h2⟩ := h
    refine .cons ?_ (strTup_vals h2)
    cases u with
    | str y tk => cases h1; exact ⟨tk, rfl⟩
    | _ => cases h1
theorem strTup_ok {K : PySem.W.Frag} {a : Addr} {ss : List Str} (h : strTupB K a ss = true) (hz : ss.length ≤ sizeLine) (H : Hp) : SqT K H a (ss.map V.str) := by
  unfold strTupB at h
  split at h
  · rename_i c its n sl q
    obtain ⟨h1, h2⟩ := He.ba h
    obtain ⟨h2, h3⟩ := He.ba h2
    have e1 : c = "tuple" := of_decide_eq_true h1
    have h3 := of_decide_eq_true h3
    subst e1
    refine .inr ⟨_, its, n, q, rfl, rfl, ?_, strTup_vals h3⟩
    have := congrArg List.length h3
    rw [List.length_map, List.length_map, Array.length_toList] at this
    omega
  · cases h
end Hd

-- part DL11
set_option Elab.async false
set_option linter.all false
set_option maxRecDepth 100000
set_option maxHeartbeats 2000000
/-! a, *b = list; texts: times, split, join; tables and tuples of the module; None among data -/
namespace DL
open PySem PySem.Spec PyProof.Rows L2 GxR GS GA GD PySem.W PySem.Calls
/-! ### a, *b = a list -/
section
variable {prog : Program} {w : World} {A : Around} {E : Value → Shared → Prop} {s : Shared}
theorem star_items {l : Addr} {its : Array Value} {Q : List Value → Shared → Prop} (hh : A.handled = none) (hl : s.heap.IsList l its) (h1 : 1 ≤ its.size) (hz : its.size ≤ sizeLine)
    (hQ : ∀ (h' : Heap) (tk : Nat), (∀ b o, s.heap.get? b = some o → h'.get? b = some o) → Q (its.toList.take 1 ++ [.ref h'.objs.size]) { s with heap := h'.push { cls := .type "list", data := .seq (its.toList.drop 1).toArray }, toks := tk }) :
    wpAny (model prog w) A (unpackItems (.ref l) 2 (some 1)) Q E s := by
  have lt : l < s.heap.objs.size := let ⟨o, ho, _⟩ := hl; Heap.lt_size ho
  have ne : l ≠ s.heap.objs.size := Nat.ne_of_lt lt
  unfold unpackItems
  refine wpAny_bind ?_
  unfold notIterableAtAll
  refine wpAny_bind (wpAny_specialOf hl.typeIs slot_list_iter.lookup (wpAny_pure ?_))
  simp only [Bool.false_eq_true, if_false]
  refine wpAny_bind (wpAny_holding (wpAny_pyIter_list hl (wpAny_bind (wpAny_holding (kun_draw ne 1 0 _ _ ⟨_, Heap.get?_push_size _ rfl, rfl, rfl⟩ (hl.push _) (by omega) fun g1 i1 b1 => ?_)))))
  have l1 : g1.IsList l its := (hl.push _).extBut b1.extBut ne
  rw [Nat.zero_add] at i1
  obtain ⟨oi, hi, _⟩ := id i1
  obtain ⟨ol, hol, _⟩ := id l1
  rw [List.drop_zero]
  have tl : (its.toList.take 1).length = 1 := by rw [List.length_take, Array.length_toList]; omega
  have dl : (its.toList.drop 1).length = its.size - 1 := by rw [List.length_drop, Array.length_toList]
  rw [if_neg (by omega : ¬ (its.toList.take 1).length < 1)]
  refine wpAny_bind (wpAny_holding (kun_collect (s := { s with heap := g1 }) (T := "list_iterator") (.inr (.inr (.inl rfl))) (Walks.list (A := A.in1) hh s.heap.objs.size l ne its) (fun _ _ z => z.1.typeIs) (k := 1) h1 ⟨i1, l1⟩ (Heap.lt_size hi) (Heap.lt_size hol) (fun g2 tk k2 => ?_) hz))
  show wpAny _ _ (if (its.toList.drop 1).length < 0 then _ else _) _ _ _
  rw [if_neg (by omega)]
  show wpAny _ _ (newList ((its.toList.drop 1).take ((its.toList.drop 1).length - 0)) >>= fun d => pure (its.toList.take 1 ++ [d] ++ (its.toList.drop 1).drop ((its.toList.drop 1).length - 0))) _ _ _
  rw [Nat.sub_zero, List.take_length, List.drop_length]
  refine wpAny_bind (wpAny_newList (wpAny_pure ?_) (by omega))
  rw [List.append_nil]
  exact hQ g2 tk fun b o e => k2 b o (Nat.ne_of_lt (Heap.lt_size e)) (b1.extBut b o (Nat.ne_of_lt (Heap.lt_size e)) (Heap.get?_push_of_some _ e))
end
section
variable {X : Cx} {Ts : AP} {W : WX} {e : Expr} {te : DE} {i j k : Nat} {x y : Str} {px py p2 pt pos : Pos}
def gStar (K : PySem.W.Frag) (i j : Nat) : TG := fun v σ H Q => ∃ a z xs, v = V.ref a ∧ SqL K H a (z :: xs) ∧ ∀ p, H p = none → Q ((σ.set i (some z)).set j (some (V.ref p))) (upd H p (.lst xs))
theorem pg_star (hc : X.calm = true) (hN : X.N.Nodup) (hi : X.N[i]? = some x) (hj : X.N[j]? = some y) (hx : Loc X.env.scope x) (hy : Loc X.env.scope y) (fx : X.fn x = true ∨ X.env.scope.names.lookup x = some .local) (fy : X.fn y = true ∨ X.env.scope.names.lookup y = some .local) :
    PG X (.Tuple [.Name x px, .Starred (.Name y py) p2] k pt) (gStar X.K i j) := by
  refine ⟨fun pins s σ H v u Q I r hw => ?_⟩
  obtain ⟨a, z, xs, rfl, hq, hw⟩ := hw
  cases r
  obtain ⟨its, rv, ⟨o, n, ho, hcl, hd, hdt⟩, hz⟩ := I.list hq
  have hl : s.heap.IsList a its.toArray := ⟨o, ho, hcl, n, hdt⟩
  have len : its.length = xs.length + 1 := by rw [← rv.length]; rfl
  rw [PyProof.Rows.assign_Tuple]
  refine wpAny_bind (wpAny_standAt ?_)
  unfold unpack
  show wpAny _ _ ((holding [Value.ref a] (unpackItems (.ref a) 2 (some 1))) >>= fun vs => assignInOrder _ vs) _ _ _
  refine wpAny_bind (wpAny_holding (star_items (I.ok.hd hc) hl (by rw [List.size_toArray]; omega) (by rw [List.size_toArray, ← rv.length]; exact hz) fun h' tk kp => ?_))
  have I1 : Inv X pins σ H { s with heap := h', toks := tk } := I.kept kp
  obtain ⟨u0, ur, rfl, r0, rr⟩ : ∃ u0 ur, its = u0 :: ur ∧ RelV z u0 ∧ Vals xs ur := by cases rv with | cons a b => exact ⟨_, _, rfl, a, b⟩
  have I2 := I1.lnew (t' := tk) rr (by have : (z :: xs).length ≤ sizeLine := hz; rw [List.length_cons] at this; omega)
  have P : PGs X [.Name x px, .Name y py] (gCons (gName i) (gCons (gName j) gNil)) := pgs_cons (pg_name hN hi hx fx) (pgs_cons (pg_name hN hj hy fy) pgs_nil)
  exact P.run pins _ σ _ [z, .ref h'.objs.size] [u0, .ref h'.objs.size] Q I2 (.cons r0 (.cons rfl .nil)) ⟨z, _, rfl, _, _, rfl, rfl, hw _ I1.fresh⟩
def dStarT (i j : Nat) (te : DE) : DS := fun X N ρ => te X ρ fun d κ ρ1 => κ ≠ .bo ∧ match d with
  | .lst (z :: xs) => N.nx ((ρ1.set i (.va z)).set j (.va (.lst xs)))
  | _ => False
def stK (d : D) (Q : D → List D → Prop) : Prop := match d with
  | .lst (z :: xs) => Q z xs
  | _ => False
theorem stK_l {z : D} {xs : List D} {Q : D → List D → Prop} : stK (.lst (z :: xs)) Q = Q z xs := rfl
theorem dStarT_ev {Xf : XF} {N : DN} {ρ : List Sl} : dStarT i j te Xf N ρ = te Xf ρ (kk fun d κ ρ1 => κ ≠ .bo ∧ stK d (kk fun z xs => N.nx ((ρ1.set i (.va z)).set j (.va (.lst xs))))) := by
  show te Xf ρ _ = te Xf ρ _
  congr 1
theorem ds_star (hc : X.calm = true) (hN : X.N.Nodup) (hi : X.N[i]? = some x) (hj : X.N[j]? = some y) (hx : Loc X.env.scope x) (hy : Loc X.env.scope y) (he : PE X e (upE X.K Ts W te)) (fx : X.fn x = true ∨ X.env.scope.names.lookup x = some .local := by first | exact .inl rfl | exact .inr rfl) (fy : X.fn y = true ∨ X.env.scope.names.lookup y = some .local := by first | exact .inl rfl | exact .inr rfl)
    (hs : swapsWithSole [.Tuple [.Name x px, .Starred (.Name y py) p2] k pt] e pos.line X.env = pure false := by rfl) (hw : swappedStores [.Tuple [.Name x px, .Starred (.Name y py) p2] k pt] e X.env = pure none := by rfl)
    (h1 : (assignEach [.Tuple [.Name x px, .Starred (.Name y py) p2] k pt] X.env).map (·.2) = [assign (.Tuple [.Name x px, .Starred (.Name y py) p2] k pt) X.env] := by rfl) :
    PS X (.Assign [.Tuple [.Name x px, .Starred (.Name y py) p2] k pt] e pos) (upS X.K Ts W (dStarT i j te)) := by
  refine (ps_asg he (pg_star hc hN hi hj hx hy fx fy) hs hw h1).imp fun E σ H h => ?_
  obtain ⟨A, O, ρ, Xf, N, m, h, c⟩ := h
  refine ⟨A, O, ρ, Xf, _, m, h, fun d κ ρ1 v H1 A1 O1 h1 s1 t1 m1 r1 => ?_, fun x ρ' cls od H' A' O' => c.x x ρ' cls od σ H' A' O'⟩
  obtain ⟨nb, h1⟩ := h1
  have r2 := r1.rp nb
  split at h1
  · rename_i z xs
    unfold Rp at r2
    obtain ⟨a, vs, rfl, g1, _, g2⟩ := r2
    obtain ⟨v0, vr, rfl, q1, q2⟩ := g2.uncons
    refine ⟨a, v0, vr, rfl, SqL.of g1, fun p hp => ?_⟩
    have nA : ¬ A1 p := fun z => m1.trk p z hp
    have sp := Sm.new (o := .lst vr) hp
    have m2 := m1.sm sp
    obtain ⟨_, m3, t3⟩ := m2.setVa (i := i) (q1.sm sp)
    obtain ⟨_, m4, t4⟩ := m3.setVa (i := j) (d := .lst xs) (v := .ref p) (by
      unfold Rp
      exact ⟨p, vr, rfl, upd_same, nA, q2.sm sp⟩)
    exact c.nx _ _ _ _ _ h1 (((t1.trans (Tr.of sp) m.trk).trans t3 m.trk).trans t4 m.trk) m4
  · exact h1.elim
end
/-! ### texts -/
/-- a text, n times -/
def tmS (z : Str) (n : Nat) : Str := ⟨(List.replicate n z.cps).foldl (· ++ ·) #[]⟩
theorem fold_len : ∀ (n : Nat) (c a : Array Nat), ((List.replicate n c).foldl (· ++ ·) a).size = a.size + n * c.size
  | 0, c, a => by simp
  | n + 1, c, a => by
    rw [List.replicate_succ, List.foldl_cons, fold_len n c (a ++ c), Array.size_append, Nat.succ_mul]
    omega
theorem tmS_len (z : Str) (n : Nat) : (tmS z n).length = n * z.length := by
  show ((List.replicate n z.cps).foldl (· ++ ·) #[]).size = _
  rw [fold_len]
  show 0 + n * z.cps.size = n * z.cps.size
  omega
def rTimes : R2 := fun v w H Q => ∃ (z : Str) (i : Int), v = V.str z ∧ w = V.int i ∧ 0 ≤ i ∧ i < 1000 ∧ z.length ≤ 1000 ∧ Q (.str (tmS z i.toNat)) H
theorem op_times {X : Cx} : OpR X (binaryOp .Mult) rTimes := by
  intro pins s σ H v w a b Q I ra rb h
  obtain ⟨z, n, rfl, rfl, h0, hn, hz, q⟩ := h
  obtain ⟨t, rfl⟩ := ra
  obtain ⟨u, rfl⟩ := rb
  have hb : z.length * n.toNat ≤ 1000000 := Nat.le_trans (Nat.mul_le_mul hz (by omega : n.toNat ≤ 1000)) (by omega)
  have fin : ∀ k, EP X pins σ Q (.str (tmS z n.toNat) s.toks) { s with toks := k } := fun k => ⟨.str (tmS z n.toNat), H, I.tok k, ⟨_, rfl⟩, q⟩
  have sz : (tmS z n.toNat).length ≤ sizeLine := by
    rw [tmS_len, Nat.mul_comm]
    unfold sizeLine
    omega
  refine PySem.P.mul_str (by rw [decide_eq_false (by omega : ¬ n < -(2 ^ 63)), decide_eq_false (by omega : ¬ n ≥ 2 ^ 63)]; rfl) (fun h1 _ => ?_) (fun h1 _ => ?_) ?_
  · have h3 : (z.length : Int) * n ≤ 1000000 := by
      have e : n = (n.toNat : Int) := by omega
      have h4 : ((z.length * n.toNat : Nat) : Int) ≤ ((1000000 : Nat) : Int) := Int.ofNat_le.mpr hb
      rw [Int.natCast_mul, ← e] at h4
      exact h4
    have : (z.length : Int) ≤ (2 ^ 63 - 1) / n := Int.le_ediv_of_mul_le (by omega) (by omega)
    omega
  · unfold Builtin.Str.tooLong
    exact decide_eq_false (by unfold sizeLine; omega)
  · by_cases h1 : n < 1
    · rw [if_pos h1]
      have e : n.toNat = 0 := by omega
      have e2 : tmS z n.toNat = Str.empty := by rw [e]; rfl
      rw [e2] at fin
      exact ⟨by decide, fin _⟩
    · rw [if_neg h1]
      by_cases h2 : (n == 1 || z.length == 0) = true
      · rw [if_pos h2]
        have e2 : tmS z n.toNat = z := by
          rcases Bool.or_eq_true _ _ |>.mp h2 with h2 | h2
          · have e : n.toNat = 1 := by have : n = 1 := by simpa using h2
                                       omega
            rw [e]
            show Str.mk (#[] ++ z.cps) = z
            rw [Array.empty_append]
          · have e : z.cps = #[] := by
              have hz0 : z.length = 0 := by simpa using h2
              have : z.cps.size = 0 := hz0
              exact Array.eq_empty_of_size_eq_zero this
            have l := tmS_len z n.toNat
            have : z.length = 0 := by simpa using h2
            rw [this, Nat.mul_zero] at l
            have e3 : (tmS z n.toNat).cps = #[] := Array.eq_empty_of_size_eq_zero l
            exact Str.ext' (e3.trans e.symm)
        refine ⟨.str z, H, I, ⟨_, rfl⟩, ?_⟩
        rw [e2] at q
        exact q
      · rw [if_neg h2]
        exact ⟨sz, fin _⟩
def gTimes : D → D → (D → Kd → Prop) → Prop
  | .str z, .int i, Q => 0 ≤ i ∧ i < 1000 ∧ z.length ≤ 1000 ∧ Q (.str (tmS z i.toNat)) .sh
  | _, _, _ => False
theorem gTimes_s {z : Str} {i : Int} {Q : D → Kd → Prop} : gTimes (.str z) (.int i) Q = (0 ≤ i ∧ i < 1000 ∧ z.length ≤ 1000 ∧ Q (.str (tmS z i.toNat)) .sh) := rfl
theorem dop_times {X : Cx} {Ts : AP} : DOp X Ts (binaryOp .Mult) gTimes := by
  refine ⟨_, op_times, fun W σ H A O ρ Xf Qd Q d e v w hd he m c q => ?_⟩
  unfold gTimes at q
  split at q
  · obtain ⟨h1, h2, h3, q⟩ := q
    exact ⟨_, _, hd.str, he.int, h1, h2, h3, c.flat m q Rp.str⟩
  · exact q.elim
/-- a text -/
def zK (d : D) (Q : Str → Prop) : Prop := match d with
  | .str a => Q a
  | _ => False
theorem zK_s {a : Str} {Q : Str → Prop} : zK (.str a) Q = Q a := rfl
theorem zK.get {d : D} {Q : Str → Prop} (h : zK d Q) : ∃ a, d = .str a ∧ Q a := by
  unfold zK at h
  split at h
  · exact ⟨_, rfl, h⟩
  · exact h.elim
/-- the texts of a list, a tuple -/
def ysK (d : D) (Q : List Str → Prop) : Prop := ∃ ys : List Str, (d = .lst (ys.map .str) ∨ d = .tup (ys.map .str)) ∧ Q ys
theorem ysK.mk (ys : List Str) {Q : List Str → Prop} (q : Q ys) : ysK (.lst (ys.map .str)) Q := ⟨ys, .inl rfl, q⟩
section
variable {X : Cx} {Ts : AP} {W : WX} {o e : Expr} {to te : DE} {apos pos : Pos}
/-- s.split(t) -/
def dSplit (to te : DE) : DE := fun X ρ Q => to X ρ fun d _ ρ1 => zK d fun a => te X ρ1 fun e _ ρ2 => zK e fun b => (b.length == 0) = false ∧ a.length + 2 ≤ sizeLine ∧ Q (.lst ((Txt.split a b).map .str)) .fr ρ2
theorem dSplit_ev {Xf : XF} {ρ : List Sl} {Q : D → Kd → List Sl → Prop} : dSplit to te Xf ρ Q = to Xf ρ (kk fun d _ ρ1 => zK d (kk fun a => te Xf ρ1 (kk fun e _ ρ2 => zK e (kk fun b => (b.length == 0) = false ∧ a.length + 2 ≤ sizeLine ∧ Q (.lst ((Txt.split a b).map .str)) .fr ρ2)))) := rfl
theorem de_split (ho : PE X o (upE X.K Ts W to)) (he : PE X e (upE X.K Ts W te)) (hs : starEach [e] X.env = [(false, eval e X.env)] := by rfl) (hbase : attributeBase o "split" X.env (eval o X.env) = eval o X.env := by rfl) (hline : (apos.endLine == pos.line) = true := by rfl) :
    PE X (.Call (.Attribute o "split" apos) [e] [] pos) (upE X.K Ts W (dSplit to te)) := by
  refine (pe_split ho he hs hbase hline).imp fun σ H Q h => ?_
  obtain ⟨A, O, ρ, Xf, Qd, m, h, c⟩ := h
  refine ⟨A, O, ρ, Xf, _, m, h, fun d κ ρ1 v H1 A1 O1 h1 s1 t1 m1 r1 => ?_, c.x⟩
  have c1 := c.move s1 t1 m
  obtain ⟨a, rfl, h1⟩ := h1.get
  refine ⟨⟨a, r1.wk.str⟩, A1, O1, ρ1, Xf, _, m1, h1, fun z κ2 ρ2 y H2 A2 O2 h2 s2 t2 m2 r2 => ?_, c1.x⟩
  obtain ⟨b, rfl, g1, g2, g3⟩ := h2.get
  exact ⟨a, b, r1.wk.str, by rw [r2.wk.str], g1, g2, fun p hp => (c1.move s2 t2 m1).fr m2 hp g3 RpL.strs⟩
/-- s.join(texts) -/
def dJoin (to te : DE) : DE := fun X ρ Q => to X ρ fun d _ ρ1 => zK d fun a => te X ρ1 fun e _ ρ2 => ysK e fun ys => (ys.map (·.length)).sum + ys.length * a.length ≤ 16777216 ∧ Q (.str (Txt.join a ys)) .sh ρ2
theorem dJoin_ev {Xf : XF} {ρ : List Sl} {Q : D → Kd → List Sl → Prop} : dJoin to te Xf ρ Q = to Xf ρ (kk fun d _ ρ1 => zK d (kk fun a => te Xf ρ1 (kk fun e _ ρ2 => ysK e (kk fun ys => (ys.map (·.length)).sum + ys.length * a.length ≤ 16777216 ∧ Q (.str (Txt.join a ys)) .sh ρ2)))) := rfl
theorem RpL.ofStrs {K : PySem.W.Frag} {H : Hp} {A : AP} : ∀ {ys : List Str} {vs : List V}, RpL K H A (ys.map .str) vs → vs = ys.map V.str
  | [], vs, h => h.unnil
  | y :: r, vs, h => by
    obtain ⟨v, t, rfl, h1, h2⟩ := h.uncons
    unfold Rp at h1
    rw [h1, RpL.ofStrs h2]
    rfl
theorem de_join (ho : PE X o (upE X.K Ts W to)) (he : PE X e (upE X.K Ts W te)) (hs : starEach [e] X.env = [(false, eval e X.env)] := by rfl) (hbase : attributeBase o "join" X.env (eval o X.env) = eval o X.env := by rfl) (hline : (apos.endLine == pos.line) = true := by rfl) :
    PE X (.Call (.Attribute o "join" apos) [e] [] pos) (upE X.K Ts W (dJoin to te)) := by
  refine (pe_m1 F.slot_str_join F.type_str_join mt_join ho he hs hbase hline).imp fun σ H Q h => ?_
  obtain ⟨A, O, ρ, Xf, Qd, m, h, c⟩ := h
  refine ⟨A, O, ρ, Xf, _, m, h, fun d κ ρ1 v H1 A1 O1 h1 s1 t1 m1 r1 => ?_, c.x⟩
  have c1 := c.move s1 t1 m
  obtain ⟨a, rfl, h1⟩ := h1.get
  refine ⟨⟨a, r1.wk.str⟩, A1, O1, ρ1, Xf, _, m1, h1, fun z κ2 ρ2 y H2 A2 O2 h2 s2 t2 m2 r2 => ?_, c1.x⟩
  obtain ⟨ys, hz, g1, g2⟩ := h2
  have c2 := c1.move s2 t2 m1
  rcases hz with rfl | rfl
  · obtain ⟨p, vs, rfl, q1, q2⟩ := r2.wk.lst
    exact ⟨a, p, ys, r1.wk.str, rfl, .inl (by rw [← RpL.ofStrs q2]; exact SqL.of q1), g1, c2.flat m2 g2 Rp.str⟩
  · obtain ⟨p, vs, rfl, q1, q2⟩ := r2.wk.tup
    exact ⟨a, p, ys, r1.wk.str, rfl, .inr (by rw [← RpL.ofStrs q2]; exact q1), g1, c2.flat m2 g2 Rp.str⟩
end
/-! ### tables and tuples of the module -/
section
variable {X : Cx} {Ts : AP} {W : WX} {e : Expr} {te : DE} {x : Str} {p pos : Pos} {a : Addr} {kvs : List (Str × Int)}
def dInTab (kvs : List (Str × Int)) (te : DE) : DE := fun X ρ Q => te X ρ fun d _ ρ1 => zK d fun z => Q (.bl (kvs.lookup z).isSome) .sh ρ1
theorem dInTab_ev {Xf : XF} {ρ : List Sl} {Q : D → Kd → List Sl → Prop} : dInTab kvs te Xf ρ Q = te Xf ρ (kk fun d _ ρ1 => zK d (kk fun z => Q (.bl (kvs.lookup z).isSome) .sh ρ1)) := rfl
theorem de_inTab (LK : KLook X.K X.w a kvs) (hg : Gl X x) (hm : X.mg x = some (.ref a)) (he : PE X e (upE X.K Ts W te)) (hd : (x == ("__debug__" : Str)) = false := by decide) (hk : behindInMarks .In (.Name x p) = false := by rfl) : PE X (.Compare e [.In] [.Name x p] pos) (upE X.K Ts W (dInTab kvs te)) := by
  refine (pe_cmpR op_inK he (pe_glob (v := .ref a) hg hm rfl hd) hk).imp fun σ H Q h => ?_
  obtain ⟨A, O, ρ, Xf, Qd, m, h, c⟩ := h
  refine ⟨A, O, ρ, Xf, _, m, h, fun d κ ρ1 v H1 A1 O1 h1 s1 t1 m1 r1 => ?_, c.x⟩
  obtain ⟨z, rfl, h1⟩ := h1.get
  exact ⟨a, z, _, r1.wk.str, rfl, (LK z).2, (c.move s1 t1 m).flat m1 h1 Rp.bl⟩
def dIxTab (kvs : List (Str × Int)) (te : DE) : DE := fun X ρ Q => te X ρ fun d _ ρ1 => zK d fun z => oK (kvs.lookup z) fun i => Q (.int i) .sh ρ1
theorem dIxTab_ev {Xf : XF} {ρ : List Sl} {Q : D → Kd → List Sl → Prop} : dIxTab kvs te Xf ρ Q = te Xf ρ (kk fun d _ ρ1 => zK d (kk fun z => oK (kvs.lookup z) (kk fun i => Q (.int i) .sh ρ1))) := rfl
theorem de_ixTab (LK : KLook X.K X.w a kvs) (hg : Gl X x) (hm : X.mg x = some (.ref a)) (he : PE X e (upE X.K Ts W te)) (hs : PlainIx e) (hd : (x == ("__debug__" : Str)) = false := by decide) : PE X (.Subscript (.Name x p) e pos) (upE X.K Ts W (dIxTab kvs te)) := by
  refine (pe_ix ix_kdict (pe_glob (v := .ref a) hg hm rfl hd) he hs).imp fun σ H Q h => ?_
  obtain ⟨A, O, ρ, Xf, Qd, m, h, c⟩ := h
  refine ⟨A, O, ρ, Xf, _, m, h, fun d κ ρ1 v H1 A1 O1 h1 s1 t1 m1 r1 => ?_, c.x⟩
  obtain ⟨z, rfl, h1⟩ := h1.get
  obtain ⟨i, ei, h1⟩ := oK.get h1
  exact ⟨a, z, .int i, rfl, r1.wk.str, (LK z).1 i ei, (c.move s1 t1 m).flat m1 h1 Rp.int⟩
theorem de_tupG {ss : List Str} (hB : ∀ H, SqT X.K H a (ss.map V.str)) (hg : Gl X x) (hm : X.mg x = some (.ref a)) (hd : (x == ("__debug__" : Str)) = false := by decide) : PE X (.Name x pos) (upE X.K Ts W (dC (.tup (ss.map .str)))) :=
  de_glob (v := .ref a) hg hm rfl (fun H A => Rp.tup (hB H) RpL.strs) hd
end
/-! ### x in data -/
def gInD (d e : D) (Q : D → Kd → Prop) : Prop := match e with
  | .lst ds => shp d = true ∧ shp (.lst ds) = true ∧ Q (.bl (ds.any fun z => eqD z d)) .sh
  | _ => False
theorem gInD_l {d : D} {ds : List D} {Q : D → Kd → Prop} : gInD d (.lst ds) Q = (shp d = true ∧ shp (.lst ds) = true ∧ Q (.bl (ds.any fun z => eqD z d)) .sh) := rfl
theorem pdL_map : ∀ ds : List D, pdL ds = ds.map pd
  | [] => by unfold pdL; rfl
  | d :: r => by unfold pdL; rw [pdL_map r]; rfl
theorem dop_inD {X : Cx} {Ts : AP} (hu : X.A.units + 65 < cLine) : DOp X Ts (compareOp .In) gInD := by
  refine ⟨_, op_inD hu, fun W σ H A O ρ Xf Qd Q d e v w hd he m c q => ?_⟩
  unfold gInD at q
  split at q
  · rename_i ds
    obtain ⟨h1, h2, q⟩ := q
    have e2 : (pdL ds).any (fun z => PyData.eqv z (pd d)) = ds.any fun z => eqD z d := by
      rw [pdL_map, List.any_map]
      rfl
    have s2 := shaped_of h2
    have d2 := he.dp (He.ba h2).1
    unfold pd at s2 d2
    refine ⟨pd d, pdL ds, hd.dp (He.ba h1).1, d2, shaped_of h1, s2, ?_⟩
    rw [e2]
    exact c.flat m q Rp.bl
  · exact q.elim
theorem units65 {k : Nat} {A : Around} (r : Room k A) : A.units + 65 < cLine := by have := r.un; omega
theorem is_tt {ds : List D} : isD "tuple" (.tup ds) = some true := by show kitB "tuple" "tuple" = _; decide +kernel
theorem is_ll {ds : List D} : isD "list" (.lst ds) = some true := by show kitB "list" "list" = _; decide +kernel
theorem is_tn : isD "tuple" .non = some false := by show kitB "NoneType" "tuple" = _; decide +kernel
theorem is_bn : isD "bool" .non = some false := by show kitB "NoneType" "bool" = _; decide +kernel
/-! ### a sign in a text; a op b op c; a text of the module -/
def gInS (d e : D) (Q : D → Kd → Prop) : Prop := zK e fun z => ∃ c : Nat, d = .str ⟨#[c]⟩ ∧ Q (.bl (decide (c ∈ z.cps.toList))) .sh
def gNinS (d e : D) (Q : D → Kd → Prop) : Prop := zK e fun z => ∃ c : Nat, d = .str ⟨#[c]⟩ ∧ Q (.bl (!decide (c ∈ z.cps.toList))) .sh
theorem inS_i {c : Nat} {P : Nat → Prop} : (∃ b : Nat, D.str ⟨#[c]⟩ = .str ⟨#[b]⟩ ∧ P b) = P c := propext ⟨fun ⟨b, e, h⟩ => by cases e; exact h, fun h => ⟨c, rfl, h⟩⟩
theorem gInS_s {c : Nat} {z : Str} {Q : D → Kd → Prop} : gInS (.str ⟨#[c]⟩) (.str z) Q = Q (.bl (decide (c ∈ z.cps.toList))) .sh := inS_i (P := fun c => Q (.bl (decide (c ∈ z.cps.toList))) .sh)
theorem gNinS_s {c : Nat} {z : Str} {Q : D → Kd → Prop} : gNinS (.str ⟨#[c]⟩) (.str z) Q = Q (.bl (!decide (c ∈ z.cps.toList))) .sh := inS_i (P := fun c => Q (.bl (!decide (c ∈ z.cps.toList))) .sh)
section
variable {X : Cx} {Ts : AP} {W : WX} {a b c : Expr} {ta tb tc : DE} {x : Str} {pos : Pos}
theorem dop_inS : DOp X Ts (compareOp .In) gInS := ⟨_, op_in_sign, fun W σ H A O ρ Xf Qd Q d e v w hd he m c q => by
  obtain ⟨z, rfl, k, rfl, q2⟩ := zK.get q
  exact ⟨k, z, hd.str, he.str, c.flat m q2 Rp.bl⟩⟩
theorem dop_ninS : DOp X Ts (compareOp .NotIn) gNinS := ⟨_, op_notIn_sign, fun W σ H A O ρ Xf Qd Q d e v w hd he m c q => by
  obtain ⟨z, rfl, k, rfl, q2⟩ := zK.get q
  exact ⟨k, z, hd.str, he.str, c.flat m q2 Rp.bl⟩⟩
def chK (z : D) (P R : Prop) (_ : Tag P := ⟨⟩) (_ : Tag R := ⟨⟩) : Prop := match z with
  | .bl true => P
  | .bl false => R
  | _ => False
theorem chK_b {k : Bool} {P R : Prop} (s : Tag P) (u : Tag R) : chK (.bl k) P R s u = iK k P R s u := by cases k <;> rfl
def dChn (g g' : D → D → (D → Kd → Prop) → Prop) (ta tb tc : DE) : DT := fun X ρ Q => ta X ρ fun d _ ρ1 => tb X ρ1 fun e _ ρ2 => g d e fun z _ => chK z (tc X ρ2 fun f _ ρ3 => g' e f fun y _ => tK y fun b => Q b ρ3) (Q false ρ2)
theorem dChn_ev {g g' : D → D → (D → Kd → Prop) → Prop} {Xf : XF} {ρ : List Sl} {Q : Bool → List Sl → Prop} : dChn g g' ta tb tc Xf ρ Q = ta Xf ρ (kk fun d _ ρ1 => tb Xf ρ1 (kk fun e _ ρ2 => g d e (kk fun z _ => chK z (tc Xf ρ2 (kk fun f _ ρ3 => g' e f (kk fun y _ => tK y (kk fun b => Q b ρ3)))) (Q false ρ2)))) := rfl
theorem dt_chain {op op' : CmpOp} {g g' : D → D → (D → Kd → Prop) → Prop} (ho : DOp X Ts (compareOp op) g) (ho' : DOp X Ts (compareOp op') g') (ha : PE X a (upE X.K Ts W ta)) (hb : PE X b (upE X.K Ts W tb)) (hc : PE X c (upE X.K Ts W tc)) (hm : lastMarks [op, op'] [b, c] = false := by with_unfolding_all rfl) :
    PT X (.Compare a [op, op'] [b, c] pos) (upT X.K Ts W (dChn g g' ta tb tc)) := by
  obtain ⟨r, h1, h2⟩ := ho
  obtain ⟨r', h1', h2'⟩ := ho'
  refine (pt_chain h1 h1' ha hb hc hm).imp fun σ H Q h => ?_
  obtain ⟨A, O, ρ, Xf, Qd, m, h, cn⟩ := h
  refine ⟨A, O, ρ, Xf, _, m, h, fun d κ ρ1 v H1 A1 O1 q1 s1 t1 m1 r1 => ?_, cn.x⟩
  have c1 := cn.move s1 t1 m
  refine ⟨A1, O1, ρ1, Xf, _, m1, q1, fun e κ2 ρ2 u H2 A2 O2 q2 s2 t2 m2 r2 => ?_, c1.x⟩
  have c2 := c1.move s2 t2 m1
  have wd := r1.wk.tr s2 t2 m1.sub
  refine h2 W σ H2 A2 O2 ρ2 Xf (fun z κ ρ3 => ρ3 = ρ2 ∧ chK z (tc Xf ρ2 fun f _ ρ3 => g' e f fun y _ => tK y fun b => Qd b ρ3) (Qd false ρ2)) _ d e v u wd r2.wk m2 ⟨fun z κ3 ρ3 w H3 A3 O3 q3 s3 t3 m3 r3 => ?_, fun x ρ' cls od H' A' O' => c2.x x ρ' cls od H' A' O'⟩ ?_
  · obtain ⟨rfl, q3⟩ := q3
    have c3 := c2.move s3 t3 m2
    unfold chK at q3
    split at q3
    · refine ⟨true, r3.bl, ?_⟩
      refine ⟨A3, O3, ρ3, Xf, _, m3, q3, fun f κ4 ρ4 y H4 A4 O4 q4 s4 t4 m4 r4 => ?_, c3.x⟩
      have c4 := c3.move s4 t4 m3
      have we := (r2.wk.tr s3 t3 m2.sub).tr s4 t4 m3.sub
      refine h2' W σ H4 A4 O4 ρ4 Xf (fun y κ ρ5 => ρ5 = ρ4 ∧ tK y fun b => Qd b ρ4) _ e f u y we r4.wk m4 ⟨fun z κ5 ρ5 w5 H5 A5 O5 q5 s5 t5 m5 r5 => ?_, fun x ρ' cls od H' A' O' => c4.x x ρ' cls od H' A' O'⟩ ?_
      · obtain ⟨rfl, q5⟩ := q5
        unfold tK at q5
        split at q5
        · exact ⟨_, r5.bl, c4.q _ _ _ _ _ q5 s5 t5 m5⟩
        · exact q5.elim
      · have e : (fun (y : D) (κ : Kd) => ρ4 = ρ4 ∧ tK y fun b => Qd b ρ4) = fun y _ => tK y fun b => Qd b ρ4 := by funext y κ; simp
        show g' _ _ (fun (y : D) (κ : Kd) => ρ4 = ρ4 ∧ tK y fun b => Qd b ρ4)
        rw [e]
        exact q4
    · exact ⟨false, r3.bl, false, rfl, c3.q _ _ _ _ _ q3 Sm.refl Tr.refl m3⟩
    · exact q3.elim
  · have e0 : (fun (z : D) (κ : Kd) => ρ2 = ρ2 ∧ chK z (tc Xf ρ2 fun f _ ρ3 => g' e f fun y _ => tK y fun b => Qd b ρ3) (Qd false ρ2)) = fun z _ => chK z (tc Xf ρ2 fun f _ ρ3 => g' e f fun y _ => tK y fun b => Qd b ρ3) (Qd false ρ2) := by funext y κ; simp
    show g _ _ (fun (z : D) (κ : Kd) => ρ2 = ρ2 ∧ chK z (tc Xf ρ2 fun f _ ρ3 => g' e f fun y _ => tK y fun b => Qd b ρ3) (Qd false ρ2))
    rw [e0]
    exact q2
/-- a text of the module -/
theorem de_strG {z : Str} (hm : ∃ t, X.mg x = some (.str z t)) (hg : Gl X x) (hd : (x == ("__debug__" : Str)) = false := by decide) : PE X (.Name x pos) (upE X.K Ts W (dC (.str z))) := by
  obtain ⟨t, hm⟩ := hm
  exact de_glob (v := .str z) hg hm ⟨t, rfl⟩ (fun H A => Rp.str) hd
end
end DL

-- part DL12
set_option Elab.async false
set_option linter.all false
set_option maxRecDepth 100000
set_option maxHeartbeats 2000000
/-! replace by written texts where a token is out; the place of a value in a list -/
namespace DL
open PySem PySem.Spec PyProof.Rows L2 GxR GS GA GD PySem.W PySem.Calls CwR
/-- e answers, and a token is out behind it -/
def PEO (X : Cx) (e : Expr) (t : TE) : Prop := ∀ (pins : List (Addr × Obj)) (s : Shared) (σ : L2.St) (H : Hp) (Q : VK), Inv X pins σ H s → t σ H Q → wpAny (model X.prog X.w) X.A (eval e X.env) (fun v s1 => 1 ≤ s1.toks ∧ EP X pins σ Q v s1) X.xe s
section
variable {X : Cx} {a b e : Expr} {es : List Expr} {ta tb te : TE} {tr : TA} {c : Str} {j : Nat} {p pos : Pos}
theorem PEO.imp {t t' : TE} (h : PEO X e t) (i : ∀ σ H Q, t' σ H Q → t σ H Q) : PEO X e t' := fun pins s σ H Q I q => h pins s σ H Q I (i σ H Q q)
theorem PET.imp {t t' : TE} (h : PET X e t) (i : ∀ σ H Q, t' σ H Q → t σ H Q) : PET X e t' := fun pins s σ H Q h0 I q => h pins s σ H Q h0 I (i σ H Q q)
theorem PAT.imp {t t' : TA} (h : PAT X es t) (i : ∀ σ H Q, t' σ H Q → t σ H Q) : PAT X es t' := fun pos pins s σ H Q h0 I q => h pos pins s σ H Q h0 I (i σ H Q q)
theorem peo_binR {op : Operator} {r : R2} (ho : OpR X (binaryOp op) r) (ha : PE X a ta) (hb : ∀ σ H Q, tb σ H Q → Q (V.str c) H) : PEO X (.BinOp a op (.Constant (.str c) j p) pos) (tOp r ta tb) := by
  intro pins s σ H Q I h
  refine wpAny_BinOp (thn (ha.run pins s σ H _ I h) fun v s1 ⟨x, H1, I1, r1, q1⟩ => Calls.Constant_str ?_)
  refine wpAny_mono (PySem.wpAny_toks (ho pins { s1 with toks := s1.toks + 1 } σ H1 x (.str c) v _ Q (I1.tok _) r1 ⟨_, rfl⟩ (hb _ _ _ q1))) (fun v s2 q => ⟨?_, q.2⟩) fun _ _ z => z.2
  have hk : s1.toks + 1 ≤ s2.toks := q.1
  omega
theorem peo_binL {op : Operator} {r : R2} (ho : OpR X (binaryOp op) r) (ha : ∀ σ H Q, ta σ H Q → Q (V.str c) H) (hb : PE X b tb) : PEO X (.BinOp (.Constant (.str c) j p) op b pos) (tOp r ta tb) := by
  intro pins s σ H Q I h
  refine wpAny_BinOp (Calls.Constant_str ?_)
  have I0 : Inv X pins σ H { s with toks := s.toks + 1 } := I.tok _
  refine wpAny_mono (PySem.wpAny_toks (hb.run pins { s with toks := s.toks + 1 } σ H _ I0 (ha _ _ _ h))) (fun u s2 q => ?_) fun _ _ z => z.2
  obtain ⟨hk, y, H2, I2, r2, q2⟩ := q
  refine wpAny_mono (PySem.wpAny_toks (ho pins s2 σ H2 (.str c) y _ u Q I2 ⟨_, rfl⟩ r2 q2)) (fun v s3 q => ⟨?_, q.2⟩) fun _ _ z => z.2
  have hk1 : s.toks + 1 ≤ s2.toks := hk
  have hk2 : s2.toks ≤ s3.toks := q.1
  omega
theorem pa_consO (he : PEO X e te) (hr : PAT X es tr) (hs : starEach (e :: es) X.env = (false, eval e X.env) :: starEach es X.env := by rfl) : PA X (e :: es) (tCons te tr) := by
  refine ⟨fun pos pins s σ H Q I h => ?_⟩
  rw [hs]
  show wpAny _ _ (spliced ((false, eval e X.env) :: backTo pos (starEach es X.env))) _ _ s
  exact Calls.spliced_cons (wpAny_mono (he pins s σ H _ I h) (fun v s1 ⟨hk, x, H1, I1, r1, q1⟩ => thn (hr pos pins s1 σ H1 _ hk I1 q1) fun us s2 ⟨xs, H2, I2, r2, q2⟩ => ⟨x :: xs, H2, I2, .cons r1 r2, q2⟩) fun _ _ z => z)
end
section
variable {X : Cx} {Ts : AP} {W : WX} {a b e o : Expr} {es : List Expr} {ta tb te to : DE} {tr : DA} {c y z : Str} {j k : Nat} {p c0 c1 apos pos : Pos}
theorem up_cons {σ : L2.St} {H : Hp} {Q : List V → Hp → Prop} (h : upA X.K Ts W (dCons te tr) σ H Q) : tCons (upE X.K Ts W te) (upA X.K Ts W tr) σ H Q := by
  obtain ⟨A, O, ρ, Xf, Qd, m, h, c⟩ := h
  refine ⟨A, O, ρ, Xf, _, m, h, fun d κ ρ1 v H1 A1 O1 h1 s1 t1 m1 r1 => ?_, c.x⟩
  have c1 := c.move s1 t1 m
  refine ⟨A1, O1, ρ1, Xf, _, m1, h1.2, fun ds ρ2 vs H2 A2 O2 h2 s2 t2 m2 r2 => ?_, c1.x⟩
  exact c1.q _ ρ2 _ H2 A2 O2 h2 s2 t2 m2 (RpL.cons ((r1.rp h1.1).tr t2 m1.sub) r2)
theorem up_str {σ : L2.St} {H : Hp} {Q : VK} (h : upE X.K Ts W (dC (.str c)) σ H Q) : Q (V.str c) H := by
  obtain ⟨A, O, ρ, Xf, Qd, m, h, c⟩ := h
  exact c.flat m h Rp.str
theorem dat_nil : PAT X [] (upA X.K Ts W dNil) := fun pos pins s σ H Q _ I h => da_nil.run pos pins s σ H Q I h
theorem dat_cons (he : PET X e (upE X.K Ts W te)) (hr : PAT X es (upA X.K Ts W tr)) (hs : starEach (e :: es) X.env = (false, eval e X.env) :: starEach es X.env := by rfl) : PAT X (e :: es) (upA X.K Ts W (dCons te tr)) :=
  PAT.imp (pat_cons he hr hs) fun _ _ _ h => up_cons h
theorem da_binR {op : Operator} {g : D → D → (D → Kd → Prop) → Prop} (ho : DOp X Ts (binaryOp op) g) (ha : PE X a (upE X.K Ts W ta)) (hr : PAT X es (upA X.K Ts W tr)) (hs : starEach (.BinOp a op (.Constant (.str c) j p) pos :: es) X.env = (false, eval (.BinOp a op (.Constant (.str c) j p) pos) X.env) :: starEach es X.env := by rfl) : PA X (.BinOp a op (.Constant (.str c) j p) pos :: es) (upA X.K Ts W (dCons (dBin g ta (dC (.str c))) tr)) := by
  obtain ⟨r, h1, h2⟩ := ho
  exact (pa_consO (PEO.imp (peo_binR (tb := upE X.K Ts W (dC (.str c))) h1 ha fun σ H Q h => up_str h) fun σ H Q h => up_bin h2 h) hr hs).imp fun _ _ _ h => up_cons h
theorem da_binL {op : Operator} {g : D → D → (D → Kd → Prop) → Prop} (ho : DOp X Ts (binaryOp op) g) (hb : PE X b (upE X.K Ts W tb)) (hr : PAT X es (upA X.K Ts W tr)) (hs : starEach (.BinOp (.Constant (.str c) j p) op b pos :: es) X.env = (false, eval (.BinOp (.Constant (.str c) j p) op b pos) X.env) :: starEach es X.env := by rfl) : PA X (.BinOp (.Constant (.str c) j p) op b pos :: es) (upA X.K Ts W (dCons (dBin g (dC (.str c)) tb) tr)) := by
  obtain ⟨r, h1, h2⟩ := ho
  exact (pa_consO (PEO.imp (peo_binL (ta := upE X.K Ts W (dC (.str c))) h1 (fun σ H Q h => up_str h) hb) fun σ H Q h => up_bin h2 h) hr hs).imp fun _ _ _ h => up_cons h
/-- o.replace of two written texts -/
def dRepl (y z : Str) (to : DE) : DE := fun X ρ Q => to X ρ fun d _ ρ1 => zK d fun x => x.length + (x.length + 1) * z.length ≤ 16777216 ∧ Q (.str (Txt.replace x y z)) .sh ρ1
theorem dRepl_ev {Xf : XF} {ρ : List Sl} {Q : D → Kd → List Sl → Prop} : dRepl y z to Xf ρ Q = to Xf ρ (kk fun d _ ρ1 => zK d (kk fun x => x.length + (x.length + 1) * z.length ≤ 16777216 ∧ Q (.str (Txt.replace x y z)) .sh ρ1)) := rfl
theorem det_repl (ho : PE X o (upE X.K Ts W to)) (hyz : (y == z) = false := by decide)
    (hst : starEach [.Constant (.str y) j c0, .Constant (.str z) k c1] X.env = [(false, eval (.Constant (.str y) j c0) X.env), (false, eval (.Constant (.str z) k c1) X.env)] := by rfl)
    (hbase : attributeBase o "replace" X.env (eval o X.env) = eval o X.env := by rfl) (hline : (apos.endLine == pos.line) = true := by rfl) :
    PET X (.Call (.Attribute o "replace" apos) [.Constant (.str y) j c0, .Constant (.str z) k c1] [] pos) (upE X.K Ts W (dRepl y z to)) := by
  refine PET.imp (pet_replC ho hyz hst hbase hline) fun σ H Q h => ?_
  obtain ⟨A, O, ρ, Xf, Qd, m, h, c⟩ := h
  refine ⟨A, O, ρ, Xf, _, m, h, fun d κ ρ1 v H1 A1 O1 h1 s1 t1 m1 r1 => ?_, c.x⟩
  obtain ⟨x, rfl, h1, h2⟩ := h1.get
  exact ⟨x, r1.wk.str, h1, (c.move s1 t1 m).flat m1 h2 Rp.str⟩
/-! ### list.index -/
def liK (d : D) (Q : List D → Prop) : Prop := match d with
  | .lst ds => Q ds
  | _ => False
theorem liK_l {ds : List D} {Q : List D → Prop} : liK (.lst ds) Q = Q ds := rfl
theorem liK.get {d : D} {Q : List D → Prop} (h : liK d Q) : ∃ ds, d = .lst ds ∧ Q ds := by
  unfold liK at h
  split at h
  · exact ⟨_, rfl, h⟩
  · exact h.elim
/-- the first place of a value -/
def idK (ds : List D) (e : D) (Q : Nat → Prop) : Prop := shp e = true ∧ shp (.lst ds) = true ∧ ∃ (j : Nat) (z : D), ds[j]? = some z ∧ eqD z e = true ∧ (∀ (m : Nat) (z' : D), m < j → ds[m]? = some z' → eqD z' e = false) ∧ Q j
theorem idK.mk {ds : List D} {e : D} {Q : Nat → Prop} {j : Nat} {z : D} (h1 : shp e = true) (h2 : shp (.lst ds) = true) (h3 : ds[j]? = some z) (h4 : eqD z e = true) (h5 : ∀ (m : Nat) (z' : D), m < j → ds[m]? = some z' → eqD z' e = false) (q : Q j) : idK ds e Q := ⟨h1, h2, j, z, h3, h4, h5, q⟩
def dIdx (to te : DE) : DE := fun X ρ Q => to X ρ fun d _ ρ1 => liK d fun ds => te X ρ1 fun e _ ρ2 => idK ds e fun j => Q (.int (j : Nat)) .sh ρ2
theorem dIdx_ev {Xf : XF} {ρ : List Sl} {Q : D → Kd → List Sl → Prop} : dIdx to te Xf ρ Q = to Xf ρ (kk fun d _ ρ1 => liK d (kk fun ds => te Xf ρ1 (kk fun e _ ρ2 => idK ds e (kk fun j => Q (.int (j : Nat)) .sh ρ2)))) := rfl
theorem pdL_get : ∀ (ds : List D) (m : Nat) (z : PyData), (pdL ds)[m]? = some z → ∃ d, ds[m]? = some d ∧ pd d = z := fun ds m z h => by
  rw [pdL_map, List.getElem?_map] at h
  cases e : ds[m]? with
  | none => rw [e] at h; cases h
  | some d => rw [e] at h; cases h; exact ⟨d, rfl, rfl⟩
theorem de_idx (hu : X.A.units + 65 < cLine) (ho : PE X o (upE X.K Ts W to)) (he : PE X e (upE X.K Ts W te)) (hs : starEach [e] X.env = (false, eval e X.env) :: starEach [] X.env := by rfl)
    (hbase : attributeBase o "index" X.env (eval o X.env) = eval o X.env := by rfl)
    (hfew : ((backTo pos (starEach [e] X.env)).all (fun x => !x.1) && (backToKw pos (keywordEach [] X.env)).all (fun x => x.1.isSome)
      && decide ([e].length + ([] : List Keyword).length + (if ([] : List Keyword).isEmpty then 0 else 1) < 30)) = true := by rfl)
    (hline : (apos.endLine == pos.line) = true := by rfl) (hplain : (backTo pos (starEach [] X.env)).any (·.1) = false := by rfl) :
    PE X (.Call (.Attribute o "index" apos) [e] [] pos) (upE X.K Ts W (dIdx to te)) := by
  refine (pe_bm F.plainAttrs_list F.slot_list_index F.type_list_index (mt_indexD hu) ho (pa_cons he pa_nil hs) hbase hfew hline hs hplain).imp fun σ H Q h => ?_
  obtain ⟨A, O, ρ, Xf, Qd, m, h, c⟩ := h
  refine ⟨A, O, ρ, Xf, _, m, h, fun d κ ρ1 v H1 A1 O1 h1 s1 t1 m1 r1 => ?_, c.x⟩
  have c1 := c.move s1 t1 m
  obtain ⟨ds, rfl, h1⟩ := h1.get
  have wk := r1.wk
  obtain ⟨l, vs, rfl, q1, q2⟩ := id wk.lst
  refine ⟨Or.inl ⟨rfl, _, SqL.of q1⟩, A1, O1, ρ1, Xf, _, m1, h1, fun z κ2 ρ2 y H2 A2 O2 h2 s2 t2 m2 r2 => ?_, c1.x⟩
  obtain ⟨g1, g2, j, z', g3, g4, g5, q⟩ := h2
  have c2 := c1.move s2 t2 m1
  have wd := (wk.tr s2 t2 m1.sub).dp (He.ba g2).1
  have we := r2.wk.dp (He.ba g1).1
  have sl := shaped_of g2
  unfold pd at wd sl
  refine ⟨l, y, pd z, pdL ds, j, pd z', rfl, rfl, wd, we, sl, shaped_of g1, ?_, g4, fun mm zz lt e2 => ?_, c2.flat m2 q Rp.int⟩
  · rw [pdL_map, List.getElem?_map, g3]
    rfl
  · obtain ⟨d2, e3, rfl⟩ := pdL_get _ _ _ e2
    exact g5 mm d2 lt e3
end
/-! ### a number among numbers -/
theorem has_two (n a b : Int) : hasD (.int n) [.int a, .int b] = (decide (n = a) || decide (n = b)) := by
  have e1 : hasD (.int n) [.int a, .int b] = (eqV (.int a) (.int n) || (eqV (.int b) (.int n) || false)) := rfl
  rw [e1, Bool.or_false]
  have e : ∀ a b : Int, eqV (.int a) (.int b) = decide (b = a) := fun a b => by
    show decide (a = b) = _
    exact decide_eq_decide.mpr eq_comm
  rw [e, e]
end DL

-- part DL13
set_option Elab.async false
set_option linter.all false
set_option maxRecDepth 100000
set_option maxHeartbeats 2000000
/-! try: .. except C as e: .., C's instances have no field; try: .. except C: .. -/
namespace DL
open PySem PySem.Spec PyProof.Rows L2 GxR GS GA GD
/-- em: whether what is raised is caught; the caught one is of C itself, without a field -/
def dTryAs0 (em : Str → Option Bool) (C : Str) (i : Nat) (tb : DS) (ts : Addr → DS) : DS := fun X N ρ => tb (fun x ρ1 => oK (em x.cls) fun b => if b = true then x.cls = C ∧ x.arg = none ∧ i < ρ1.length ∧ ∀ a, ts a X0n { nx := fun ρ2 => N.nx (ρ2.set i .no), rt := N.rt, bk := fun ρ2 => N.bk (ρ2.set i .no), ct := fun ρ2 => N.ct (ρ2.set i .no) } (ρ1.set i (.va (.xn a))) else X x ρ1) N ρ
theorem dTryAs0_ev {em : Str → Option Bool} {C : Str} {i : Nat} {tb : DS} {ts : Addr → DS} {X : XF} {N : DN} {ρ : List Sl} : dTryAs0 em C i tb ts X N ρ = tb (kk fun x ρ1 => oK (em x.cls) (kk fun b => iK b (x.cls = C ∧ x.arg = none ∧ i < ρ1.length ∧ ∀ a, ts a X0n { nx := kk fun ρ2 => N.nx (ρ2.set i .no), rt := N.rt, bk := kk fun ρ2 => N.bk (ρ2.set i .no), ct := kk fun ρ2 => N.ct (ρ2.set i .no) } (ρ1.set i (.va (.xn a)))) (X x ρ1))) N ρ := rfl
/-- em: whether what is raised is caught -/
def dTryOn (em : Str → Option Bool) (tb ts : DS) : DS := fun X N ρ => tb (fun x ρ1 => oK (em x.cls) fun b => if b = true then ts X0n N ρ1 else X x ρ1) N ρ
theorem dTryOn_ev {em : Str → Option Bool} {tb ts : DS} {X : XF} {N : DN} {ρ : List Sl} : dTryOn em tb ts X N ρ = tb (kk fun x ρ1 => oK (em x.cls) (kk fun b => iK b (ts X0n N ρ1) (X x ρ1))) N ρ := rfl
section
variable {X : Cx} {Ts : AP} {W : WX} {tb : DS} {C x n : Str} {i : Nat} {em : Str → Option Bool} {body suite : List Stmt} {b₀ : Stmt} {np pos pos' : Pos}
theorem ds_tryAs0 {ts : Addr → DS} (hs : X.stack = X.env :: X.outer) (hf : X.env.frame = some X.env.locals) (hN : X.N.Nodup) (hi : X.N[i]? = some n) (hln : X.env.kindOf n = some .local) (hc : Names X x (.ref (He.ga X.K C))) (tk : Takes X W)
    (hem : ∀ c b, em c = some b → PySem.W.exmOne X.K (.ref (He.ga X.K c)) (.ref (He.ga X.K C)) = some b)
    (hb : ∀ (W : WX) (pn : List (Addr × Obj)) (xe : Value → Shared → Prop), Takes (X.tr pn xe) W → PassesOwn (model X.prog X.w) X.A X.env xe → PSs (X.tr pn xe) body (upS X.K Ts W tb))
    (hsu : ∀ (a : Addr) (oe : Obj) (pn : List (Addr × Obj)), Zc (.ref (He.ga X.K C)) none oe → (∃ vs, oe.data = .fields vs) → PSs (X.suite a ((a, oe) :: pn)) (b₀ :: suite) (upS X.K Ts W (ts a))) :
    PS X (.Try body [.ExceptHandler (some (.Name x np)) (some n) (b₀ :: suite) pos'] [] [] pos) (upS X.K Ts W (dTryAs0 em C i tb ts)) := by
  have run := ps_try_as (np := np) (pos := pos) (pos' := pos') (Wout := W) (tb := fun W => upS X.K Ts W tb) (ts := fun a cls d E σ H => cls = .ref (He.ga X.K C) ∧ d = none ∧ upS X.K Ts W (ts a) E σ H) hs hf hN hi hln hc tk hb fun a oe cls d pn hz hfd => by
    refine ⟨fun pins s σ H D I q => ?_⟩
    obtain ⟨rfl, rfl, q⟩ := q
    exact (hsu a oe pn hz hfd).run pins s σ H D I q
  refine run.imp fun E σ H h => ?_
  obtain ⟨A, O, ρ, Xf, N, m, h, c⟩ := h
  refine ⟨A, O, ρ, _, N, m, h, ⟨c.nx, c.bk, c.ct, c.rt, fun y ρ1 cls od σ1 H1 A1 O1 hx t1 m1 r1 => ?_⟩⟩
  obtain ⟨b, eb, hx⟩ := hx.get
  have r0 := r1.1
  refine ⟨b, by rw [r0]; exact hem _ _ eb, fun hbt a ha => ?_, fun hbf => ?_⟩
  · rw [if_pos hbt] at hx
    obtain ⟨ec, eq, il, hx⟩ := hx
    obtain ⟨_, r2⟩ := r1
    rw [eq] at r2
    have rx : Rp X.K H1 A1 (.xn a) (.ref a) := by unfold Rp; rfl
    obtain ⟨Om2, m2, t2⟩ := m1.setVa (i := i) rx
    have c2 := c.move (t1.trans t2 m.trk) m
    have back : ∀ {R : List Sl → Prop} {G : L2.St → Hp → Prop}, (∀ ρ' σ' H' A' O', R ρ' → Tr A1 Om2 H1 A' O' H' → Mt X.K Ts H' A' O' ρ' σ' → G σ' H') → ∀ ρ' σ' H' A' O', R (ρ'.set i .no) → Tr A1 Om2 H1 A' O' H' → Mt X.K Ts H' A' O' ρ' σ' → G (σ'.set i none) H' :=
      fun {R G} g ρ' σ' H' A' O' hr tr mt => by
        obtain ⟨_, n3, t3⟩ := mt.setNo (i := i) (x := none)
        exact g _ _ _ _ _ hr (tr.trans t3 m2.trk) n3
    exact ⟨by rw [r0, ec], r2, A1, _, _, X0n, _, m2, hx a, ⟨back c2.nx, back c2.bk, back c2.ct, c2.rt, fun _ _ _ _ _ _ _ _ z => z.elim⟩⟩
  · rw [if_neg (by rw [hbf]; decide)] at hx
    exact c.x y ρ1 cls od σ1 H1 A1 O1 hx t1 m1 r1
theorem ds_tryOn {ts : DS} (hs : X.stack = X.env :: X.outer) (hf : X.env.frame = some X.env.locals) (hc : Names X x (.ref (He.ga X.K C))) (tk : Takes X W)
    (hem : ∀ c b, em c = some b → PySem.W.exmOne X.K (.ref (He.ga X.K c)) (.ref (He.ga X.K C)) = some b)
    (hb : ∀ (W : WX) (pn : List (Addr × Obj)) (xe : Value → Shared → Prop), Takes (X.tr pn xe) W → PassesOwn (model X.prog X.w) X.A X.env xe → PSs (X.tr pn xe) body (upS X.K Ts W tb))
    (hsu : ∀ (a : Addr) (oe : Obj) (pn : List (Addr × Obj)), PSs (X.suite a ((a, oe) :: pn)) (b₀ :: suite) (upS X.K Ts W ts)) :
    PS X (.Try body [.ExceptHandler (some (.Name x np)) none (b₀ :: suite) pos'] [] [] pos) (upS X.K Ts W (dTryOn em tb ts)) := by
  have run := ps_try_only (np := np) (pos := pos) (pos' := pos') (Wout := W) (tb := fun W => upS X.K Ts W tb) (ts := fun _ _ _ E σ H => upS X.K Ts W ts E σ H) hs hf hc tk hb fun a oe cls d pn hz hfd => hsu a oe pn
  refine run.imp fun E σ H h => ?_
  obtain ⟨A, O, ρ, Xf, N, m, h, c⟩ := h
  refine ⟨A, O, ρ, _, N, m, h, ⟨c.nx, c.bk, c.ct, c.rt, fun y ρ1 cls od σ1 H1 A1 O1 hx t1 m1 r1 => ?_⟩⟩
  obtain ⟨b, eb, hx⟩ := hx.get
  have r0 := r1.1
  refine ⟨b, by rw [r0]; exact hem _ _ eb, fun hbt a ha => ?_, fun hbf => ?_⟩
  · rw [if_pos hbt] at hx
    have c2 := c.move t1 m
    exact ⟨A1, O1, _, X0n, N, m1, hx, ⟨c2.nx, c2.bk, c2.ct, c2.rt, fun _ _ _ _ _ _ _ _ z => z.elim⟩⟩
  · rw [if_neg (by rw [hbf]; decide)] at hx
    exact c.x y ρ1 cls od σ1 H1 A1 O1 hx t1 m1 r1
end
/-! ### what a caught exception without a field is asked -/
def xnK (s : Sl) (a : Addr) (Q : Prop) : Prop := match s with
  | .va (.xn a') => a' = a ∧ Q
  | _ => False
theorem xnK_x {a a' : Addr} {Q : Prop} : xnK (.va (.xn a')) a Q = (a' = a ∧ Q) := rfl
def dIsx0 (a : Addr) (i : Nat) (b : Bool) : DE := fun _ ρ Q => xnK (sl ρ i) a (Q (.bl b) .sh ρ)
theorem dIsx0_ev {a : Addr} {i : Nat} {b : Bool} {X : XF} {ρ : List Sl} {Q : D → Kd → List Sl → Prop} : dIsx0 a i b X ρ Q = xnK (sl ρ i) a (Q (.bl b) .sh ρ) := rfl
theorem xnK.get {ρ : List Sl} {i : Nat} {a : Addr} {Q : Prop} (h : xnK (sl ρ i) a Q) : ρ[i]? = some (.va (.xn a)) ∧ Q := by
  unfold xnK at h
  split at h
  · rename_i a' e
    obtain ⟨rfl, q⟩ := h
    refine ⟨?_, q⟩
    rw [sl_eq]
    by_cases hl : i < ρ.length
    · rw [if_pos hl, e]
    · have : sl ρ i = .no := by unfold sl; rw [List.getD_eq_getElem?_getD, List.getElem?_eq_none (by omega)]; rfl
      rw [this] at e
      cases e
  · exact h.elim
section
variable {X : Cx} {Ts : AP} {W : WX} {C n : Str} {i : Nat} {a : Addr} {oe : Obj} {pn : List (Addr × Obj)} {p p2 pos : Pos}
theorem de_isx0 {ce : Expr} {cv : V} {cu : Value} {b : Bool} (E : ExcC X.K (He.ga X.K C)) (hz : Zc (.ref (He.ga X.K C)) none oe) (hf : ∃ vs, oe.data = .fields vs) (hN : X.N[i]? = some n) (hv : Vis X.env.scope n) (hg : Gl X "isinstance") (hm : X.mg "isinstance" = none) (hbt : bootBuiltins "isinstance" = some (.builtin "isinstance"))
    (hc : PE (X.suite a ((a, oe) :: pn)) ce (tC cv)) (hu : ∀ u, RelV cv u → u = cu) (hk : PySem.W.kitOne X.K (.ref (He.ga X.K C)) cu = some b) (hd : (n == ("__debug__" : Str)) = false := by decide) (hcd : (n == ("__classdict__" : Str)) = false := by decide)
    (hs : starEach [.Name n p, ce] X.env = (false, eval (.Name n p) X.env) :: starEach [ce] X.env := by rfl) (hs2 : starEach [ce] X.env = (false, eval ce X.env) :: starEach [] X.env := by rfl) (hpl : (backTo pos (starEach [ce] X.env)).any (·.1) = false := by rfl) :
    PE (X.suite a ((a, oe) :: pn)) (.Call (.Name "isinstance" p2) [.Name n p, ce] [] pos) (upE X.K Ts W (dIsx0 a i b)) := by
  refine (pe_callB (X := X.suite a ((a, oe) :: pn)) (call_isE E hz hf) hg hm hbt (pa_cons (pe_var (X := X.suite a ((a, oe) :: pn)) hN hv hd hcd) (pa_cons hc pa_nil hs2) hs) (by decide) (by decide) hs hpl).imp fun σ H Q h => ?_
  obtain ⟨A, O, ρ, Xf, Qd, m, h, c⟩ := h
  obtain ⟨e, q⟩ := xnK.get h
  obtain ⟨v, e1, r⟩ := m.va i _ e
  have r0 := r
  unfold Rp at r0
  subst r0
  exact ⟨_, e1, cv, cu, b, rfl, hu, hk, c.flat m q (by unfold Rp; rfl)⟩
end
end DL

-- part DL14
set_option Elab.async false
set_option linter.all false
set_option maxRecDepth 100000
set_option maxHeartbeats 2000000
/-! a list times a number, range(a, b), a store at a reckoned place -/
namespace DL
open PySem PySem.Spec PyProof.Rows L2 GxR GS GA GD
theorem RpL.reps {K : PySem.W.Frag} {H : Hp} {A : AP} {ds : List D} {vs : List V} (h : RpL K H A ds vs) : ∀ n : Nat, RpL K H A (List.replicate n ds).flatten (List.replicate n vs).flatten
  | 0 => RpL.nil
  | n + 1 => by
    rw [List.replicate_succ, List.replicate_succ, List.flatten_cons, List.flatten_cons]
    exact h.app (RpL.reps h n)
def gRep : D → D → (D → Kd → Prop) → Prop
  | .lst ds, .int i, Q => 0 ≤ i ∧ i < 1000 ∧ ds.length ≤ 1000 ∧ Q (.lst (List.replicate i.toNat ds).flatten) .fr
  | _, _, _ => False
theorem gRep_l {ds : List D} {i : Int} {Q : D → Kd → Prop} : gRep (.lst ds) (.int i) Q = (0 ≤ i ∧ i < 1000 ∧ ds.length ≤ 1000 ∧ Q (.lst (List.replicate i.toNat ds).flatten) .fr) := rfl
theorem dop_rep {X : Cx} {Ts : AP} : DOp X Ts (binaryOp .Mult) gRep := by
  refine ⟨_, op_rep, fun W σ H A O ρ Xf Qd Q d e v w hd he m c q => ?_⟩
  unfold gRep at q
  split at q
  · obtain ⟨h1, h2, h3, q⟩ := q
    obtain ⟨a, vs, rfl, ha, ra⟩ := hd.lst
    refine ⟨a, _, vs, rfl, he.int, ha, by omega, by omega, ?_, fun p hp => c.fr m hp q (ra.reps _)⟩
    rw [← ra.len]
    exact Nat.le_trans (Nat.mul_le_mul h3 (show Int.toNat _ ≤ 1000 by omega)) (by unfold sizeLine; decide)
  · exact q.elim
/-- what range(a, b) gives -/
def rngD2 (lo : Int) (n : Nat) : List D := (List.range n).map fun k : Nat => .int (lo + (k : Int))
theorem wlk_rng2 {K : PySem.W.Frag} {H : Hp} {A O : AP} {lent : Bool} {lo : Int} {n : Nat} : Wlk K H A O lent (Itr lo n) (rngD2 lo n) := by
  have e : n = (rngD2 lo n).length := by unfold rngD2; rw [List.length_map, List.length_range]
  refine ⟨fun _ => True, YFn fun i => .int (lo + i), e ▸ walk_range, fun H1 A1 O1 t l => trivial, fun i H1 A1 O1 x H2 hi t l y => ?_⟩
  obtain ⟨rfl, rfl⟩ := y
  refine ⟨Sm.refl, .int (lo + (i : Int)), ?_, Rp.int⟩
  unfold rngD2
  rw [List.getElem?_map, List.getElem?_range (by rw [← e] at hi; exact hi)]
  rfl
def diRng2 (ta : DA) : DI := fun X ρ Q => ta X ρ fun ds ρ1 => match ds with
  | [.int a, .int b] => (-(2 ^ 62) ≤ a ∧ a < 2 ^ 62) ∧ (-(2 ^ 62) ≤ b ∧ b < 2 ^ 62) ∧ Q (rngD2 a (b - a).toNat) false ρ1
  | _ => False
theorem di_rng2 {X : Cx} {Ts : AP} {W : WX} {tg : Expr} {a b : Expr} {ta : DA} {p pos : Pos} (hg : Gl X "range") (hm : X.mg "range" = none) (ha : PA X [a, b] (upW X.K Ts W ta)) (hs : starEach [a, b] X.env = [(false, eval a X.env), (false, eval b X.env)] := by rfl) (hs2 : starEach [b] X.env = [(false, eval b X.env)] := by rfl) : PI X tg (.Call (.Name "range" p) [a, b] [] pos) (upI X.K Ts W (diRng2 ta)) := by
  refine (pi_range2 hg hm ha hs hs2).imp fun σ H R h => ?_
  obtain ⟨A, O, ρ, Xf, Qd, m, h, c⟩ := h
  refine ⟨A, O, ρ, Xf, _, m, h, fun ds ρ1 vs H1 A1 O1 h1 s1 t1 m1 r1 => ?_, c.x⟩
  split at h1
  · obtain ⟨v, w, rfl, h2, h3⟩ := r1.two
    rw [h2.int, h3.int]
    obtain ⟨⟨q1, q2⟩, ⟨q3, q4⟩, q⟩ := h1
    exact ⟨_, _, rfl, ⟨q1, q2, q3, q4⟩, c.q _ _ ρ1 _ H1 A1 O1 q s1 t1 m1 wlk_rng2⟩
  · exact h1.elim
def rK2 (ds : List D) (Q : Int → Int → Prop) : Prop := match ds with
  | [.int a, .int b] => Q a b
  | _ => False
theorem rK2_i {a b : Int} {Q : Int → Int → Prop} : rK2 [.int a, .int b] Q = Q a b := rfl
theorem diRng2_ev {ta : DA} {X : XF} {ρ : List Sl} {Q : List D → Bool → List Sl → Prop} : diRng2 ta X ρ Q = ta X ρ (kk fun ds ρ1 => rK2 ds (kk fun a b => (-(2 ^ 62) ≤ a ∧ a < 2 ^ 62) ∧ (-(2 ^ 62) ≤ b ∧ b < 2 ^ 62) ∧ Q (rngD2 a (b - a).toNat) false ρ1)) := by
  show ta X ρ _ = ta X ρ _
  congr 1
/-- xs[e] = v, xs a list of one's own -/
def iKx (d : D) (Q : Int → Prop) : Prop := match d with
  | .int i => Q i
  | _ => False
theorem iKx_i {i : Int} {Q : Int → Prop} : iKx (.int i) Q = Q i := rfl
def dStE (i : Nat) (tk te : DE) : DS := fun X N ρ => te X ρ fun d κ ρ1 => κ ≠ .bo ∧ owAt ρ1 i fun _ => tk X ρ1 fun z _ ρ2 => match z with
  | .int k => owAt ρ2 i fun ds => ∃ j, ixN ds.length k = some j ∧ N.nx (ρ2.set i (.ow (ds.set j d)))
  | _ => False
theorem dStE_ev {i : Nat} {tk te : DE} {X : XF} {N : DN} {ρ : List Sl} : dStE i tk te X N ρ = te X ρ (kk fun d κ ρ1 => κ ≠ .bo ∧ owAt ρ1 i (kk fun _ => tk X ρ1 (kk fun z _ ρ2 => iKx z (kk fun k => owAt ρ2 i (kk fun ds => ∃ j, ixN ds.length k = some j ∧ N.nx (ρ2.set i (.ow (ds.set j d)))))))) := by
  show te X ρ _ = te X ρ _
  congr 1
section
variable {X : Cx} {Ts : AP} {W : WX} {e k : Expr} {te tk : DE} {i : Nat} {x : Str} {p sp pos : Pos}
theorem ds_stE (hN : X.N[i]? = some x) (hv : Vis X.env.scope x) (hk : PE X k (upE X.K Ts W tk)) (he : PE X e (upE X.K Ts W te)) (hd : (x == ("__debug__" : Str)) = false := by decide) (hcd : (x == ("__classdict__" : Str)) = false := by decide)
    (hs : swapsWithSole [.Subscript (.Name x p) k sp] e pos.line X.env = pure false := by rfl) (hw : swappedStores [.Subscript (.Name x p) k sp] e X.env = pure none := by rfl)
    (h1 : (assignEach [.Subscript (.Name x p) k sp] X.env).map (·.2) = [assign (.Subscript (.Name x p) k sp) X.env] := by rfl)
    (ha : ∀ v, assign (.Subscript (.Name x p) k sp) X.env v = (do
      let o ← holding [v] (eval (.Name x p) X.env)
      let j ← holding [v, o] (eval k X.env)
      standAt sp
      holding [v, o, j] (setItem o j v)
      release [v, o, j] []) := by intro _; rfl) :
    PS X (.Assign [.Subscript (.Name x p) k sp] e pos) (upS X.K Ts W (dStE i tk te)) := by
  refine (ps_asg he (pg_sub (pe_var hN hv hd hcd) hk set_list ha) hs hw h1).imp fun E σ H h => ?_
  obtain ⟨A, O, ρ, Xf, N, m, h, c⟩ := h
  refine ⟨A, O, ρ, Xf, _, m, h, fun d κ ρ1 v H1 A1 O1 q s1 t1 m1 r1 => ?_, fun x ρ' cls od H' A' O' => c.x x ρ' cls od σ H' A' O'⟩
  obtain ⟨nb, q⟩ := q
  obtain ⟨ds0, e1, q⟩ := q.get
  obtain ⟨a, vs0, g1, _⟩ := m1.ow i ds0 e1
  have c1 := c.move t1 m
  refine ⟨_, g1, A1, O1, ρ1, Xf, _, m1, q, fun z κ2 ρ2 w H2 A2 O2 q2 s2 t2 m2 r2 => ?_, fun x ρ' cls od H' A' O' => c1.x x ρ' cls od σ H' A' O'⟩
  split at q2
  · obtain ⟨ds, e2, j, hj, q2⟩ := q2.get
    obtain ⟨a2, vs, g2, g3, g4, g5⟩ := m2.ow i ds e2
    rw [g1] at g2
    cases g2
    obtain ⟨_, m3, t3⟩ := m2.put (es := ds.set j d) (vs := vs.set j v) e2 g1 g4 g3 (g5.set ((r1.rp nb).tr t2 m1.sub) j)
    refine ⟨a, vs, _, j, rfl, r2.wk.int, g4, by rw [← g5.len]; exact hj, ?_⟩
    exact (c1.move t2 m1).nx _ σ _ _ _ q2 t3 m3
  · exact q2.elim
end
end DL

-- part DO1
set_option Elab.async false
set_option linter.all false
set_option maxRecDepth 100000
set_option maxHeartbeats 2000000
/-! objects of one's own: states, readings with effects, statements -/
namespace DL
open PySem PySem.Spec PyProof.Rows L2 GxR GS GA GD
section
variable {K : PySem.W.Frag} {Ts A O A' O' : AP} {H H' : Hp} {ρ : List Sl} {σ : L2.St} {i : Nat} {s0 s : Sl} {o0 o : Option V} {g : Nat → List Addr}
/-- what stands in front and slot i become slot i -/
theorem MtG.mrg (m : MtG K Ts H A O (s0 :: ρ) (o0 :: σ) g) (hi : i < ρ.length) {R' : List Addr} (ht : ∀ P, TabG H P → TabG H' P) (hk : ∀ b u, H b = some u → (isM u → b ∉ g (i + 1)) → (∀ ps, u ≠ .tbl ps) → H' b = some u) (hf : ∀ b, H' b = none → H b = none)
    (hA : ∀ b u, H b = some u → isM u → ¬ A b → ¬ A' b) (hnew : ∀ b, A' b → A b ∨ H b = none) (hold : ∀ b, A b → b ∉ g (i + 1) → b ∉ g 0 → A' b) (htr : ∀ b, A' b → H' b ≠ none) (hR : ∀ b ∈ R', b ∈ g 0 ∨ b ∈ g (i + 1)) (hRA : ∀ b ∈ R', A' b) (hnd : R'.Nodup)
    (hs : SlAt K H' A' (fun b => (O b ∧ b ∉ g 0 ∧ b ∉ g (i + 1)) ∨ b ∈ R') s o R') :
    MtG K Ts H' A' (fun b => (O b ∧ b ∉ g 0 ∧ b ∉ g (i + 1)) ∨ b ∈ R') (ρ.set i s) (σ.set i o) (fun j => if j = i then R' else g (j + 1)) ∧ Tr A O H A' (fun b => (O b ∧ b ∉ g 0 ∧ b ∉ g (i + 1)) ∨ b ∈ R') H' := by
  have ml : ρ.length = σ.length := by have := m.len; rw [List.length_cons, List.length_cons] at this; omega
  have RO : ∀ b ∈ R', O b := fun b hb => (hR b hb).elim (fun z => m.mine z) fun z => m.mine z
  have hq : ∀ b u, H b = some u → ¬ O b → ¬ ((O b ∧ b ∉ g 0 ∧ b ∉ g (i + 1)) ∨ b ∈ R') := fun b u e n z => z.elim (fun y => n y.1) fun y => n (RO b y)
  refine ⟨⟨fun P h => ht P (m.tab P h), fun b h => h.elim (fun z => hold b (m.sub b z.1) z.2.2 z.2.1) (hRA b), htr, by rw [List.length_set, List.length_set, ml], fun j x y e1 e2 => ?_, fun j => ?_, fun j k b h1 h2 => ?_, fun b => ?_, fun j hj => ?_⟩, ⟨⟨fun b u e n t => hk b u e (fun z w => n z (m.mine w)) t, ht, hf⟩, hnew, fun b h n => hold b h (fun w => n (m.mine w)) fun w => n (m.mine w), fun b h => h.elim (fun z => .inl z.1) fun z => .inl (RO b z)⟩⟩
  · by_cases hij : j = i
    · subst hij
      rw [List.getElem?_set_self hi] at e1
      rw [List.getElem?_set_self (by rw [← ml]; exact hi)] at e2
      cases e1
      cases e2
      rw [if_pos rfl]
      exact hs
    · rw [getElem?_set_ne' (fun z => hij z.symm)] at e1 e2
      rw [if_neg hij]
      exact (m.at_ (j + 1) x y e1 e2).gen m.sub (fun b u e z => hk b u e fun w c => (z w).elim (fun n => n (m.mine c)) fun c2 => hij (by have := m.dis (j + 1) (i + 1) b c2 c; omega)) hA hq
  · split
    · exact hnd
    · exact m.nod _
  · have nR : ∀ {j : Nat} {b : Addr}, j ≠ i → b ∈ g (j + 1) → b ∉ R' := fun {j b} hj hb c => (hR b c).elim (fun w => absurd (m.dis (j + 1) 0 b hb w) (by omega)) fun w => hj (by have := m.dis (j + 1) (i + 1) b hb w; omega)
    by_cases hj : j = i
    · rw [if_pos hj] at h1
      by_cases hk : k = i
      · rw [hj, hk]
      · rw [if_neg hk] at h2
        exact absurd h1 (nR hk h2)
    · rw [if_neg hj] at h1
      by_cases hk : k = i
      · rw [if_pos hk] at h2
        exact absurd h2 (nR hj h1)
      · rw [if_neg hk] at h2
        have := m.dis (j + 1) (k + 1) b h1 h2
        omega
  · constructor
    · rintro (⟨h, n0, n⟩ | h)
      · obtain ⟨j, hj⟩ := (m.all b).mp h
        cases j with
        | zero => exact absurd hj n0
        | succ j => exact ⟨j, by rw [if_neg fun z => n (by rw [← z]; exact hj)]; exact hj⟩
      · exact ⟨i, by rw [if_pos rfl]; exact h⟩
    · rintro ⟨j, hj⟩
      split at hj
      · exact .inr hj
      · rename_i n
        exact .inl ⟨m.mine hj, fun c => absurd (m.dis (j + 1) 0 b hj c) (by omega), fun c => n (by have := m.dis (j + 1) (i + 1) b hj c; omega)⟩
  · rw [List.length_set] at hj
    rw [if_neg (by omega)]
    exact m.out (j + 1) (by rw [List.length_cons]; omega)
/-! ### fields -/
def putFd (f : Str) (v : Fd) : List (Str × Fd) → List (Str × Fd)
  | [] => [(f, v)]
  | (g, x) :: r => if g = f then (g, v) :: r else (g, x) :: putFd f v r
def fdOf : Sl → Option Fd
  | .va d => some (.va d)
  | .ow ds => some (.ow ds)
  | .od kvs => some (.od kvs)
  | .ot kvs => some (.ot kvs)
  | _ => none
theorem fdOf_at {v : V} {R : List Addr} {fd : Fd} (e : fdOf s = some fd) (h : SlAt K H A O s (some v) R) : FdAt K H A fd v R := by
  unfold fdOf at e
  split at e
  · cases e; obtain ⟨w, e1, e2, r⟩ := h; cases e1; exact ⟨e2, r⟩
  · cases e; obtain ⟨w, e1, r⟩ := h; cases e1; exact r
  · cases e; obtain ⟨w, e1, r⟩ := h; cases e1; exact r
  · cases e; obtain ⟨w, e1, r⟩ := h; cases e1; exact r
  · cases e
theorem FsAt.look {f : Str} {fd : Fd} : ∀ {fs : List (Str × Fd)} {ws : List (Str × V)} {R : List Addr}, FsAt K H A fs ws R → fs.lookup f = some fd → ∃ v R1, ws.lookup f = some v ∧ FdAt K H A fd v R1 ∧ ∀ b ∈ R1, b ∈ R
  | [], _, _, _, e => by cases e
  | (n, x) :: t, ws, R, h, e => by
    obtain ⟨v, u, R1, R2, e1, e2, h1, h2⟩ := h
    subst e1
    rw [List.lookup_cons] at e ⊢
    cases q : f == n with
    | true => rw [q] at e; cases e; exact ⟨v, R1, rfl, h1, fun b hb => by rw [e2]; exact List.mem_append_left _ hb⟩
    | false =>
      rw [q] at e
      obtain ⟨w, R3, h3, h4, h5⟩ := FsAt.look h2 e
      exact ⟨w, R3, h3, h4, fun b hb => by rw [e2]; exact List.mem_append_right _ (h5 b hb)⟩
theorem FsAt.names : ∀ {fs : List (Str × Fd)} {ws : List (Str × V)} {R : List Addr}, FsAt K H A fs ws R → ws.map (·.1) = fs.map (·.1)
  | [], _, _, h => by rw [h.1]; rfl
  | (n, x) :: t, ws, R, h => by
    obtain ⟨v, u, R1, R2, e1, e2, h1, h2⟩ := h
    rw [e1, List.map_cons, List.map_cons, FsAt.names h2]
theorem look_none {m : Str} : ∀ {ws : List (Str × V)}, m ∉ ws.map (·.1) → ws.lookup m = none
  | [], _ => rfl
  | (n, v) :: t, h => by
    rw [List.map_cons, List.mem_cons, not_or] at h
    rw [List.lookup_cons]
    have : (m == n) = false := beq_eq_false_iff_ne.mpr h.1
    rw [this]
    exact look_none h.2
/-- a field takes another value -/
theorem FsAt.put {f : Str} {fd : Fd} {v : V} {Rv : List Addr} (hv : FdAt K H A fd v Rv) : ∀ {fs : List (Str × Fd)} {ws : List (Str × V)} {R : List Addr}, FsAt K H A fs ws R → R.Nodup → Rv.Nodup → (∀ b ∈ Rv, b ∉ R) → ∃ R', FsAt K H A (putFd f fd fs) (putF f v ws) R' ∧ R'.Nodup ∧ ∀ b ∈ R', b ∈ Rv ∨ b ∈ R
  | [], ws, R, h, _, nv, _ => by
    rw [h.1]
    exact ⟨Rv, ⟨v, [], Rv, [], rfl, by rw [List.append_nil], hv, rfl, rfl⟩, nv, fun b hb => .inl hb⟩
  | (n, x) :: t, ws, R, h, nd, nv, nd2 => by
    obtain ⟨w, u, R1, R2, e1, e2, h1, h2⟩ := h
    subst e1
    subst e2
    have ndd := List.nodup_append.mp nd
    unfold putFd putF
    by_cases q : n = f
    · rw [if_pos q, if_pos q]
      exact ⟨Rv ++ R2, ⟨v, u, Rv, R2, rfl, rfl, hv, h2⟩, List.nodup_append.mpr ⟨nv, ndd.2.1, fun a ha b hb e => nd2 a ha (List.mem_append_right _ (e ▸ hb))⟩, fun b hb => (List.mem_append.mp hb).imp id fun z => List.mem_append_right _ z⟩
    · rw [if_neg q, if_neg q]
      obtain ⟨R3, h3, n3, s3⟩ := FsAt.put hv h2 ndd.2.1 nv fun b hb z => nd2 b hb (List.mem_append_right _ z)
      refine ⟨R1 ++ R3, ⟨w, _, R1, R3, rfl, rfl, h1, h3⟩, List.nodup_append.mpr ⟨ndd.1, n3, fun a ha b hb e => ?_⟩, fun b hb => (List.mem_append.mp hb).elim (fun z => .inr (List.mem_append_left _ z)) fun z => (s3 b z).imp id fun y => List.mem_append_right _ y⟩
      subst e
      exact (s3 a hb).elim (fun z => nd2 a z (List.mem_append_left _ ha)) fun z => ndd.2.2 a ha a z rfl
end
/-! ### readings with effects: the value stands in front of the slots -/
abbrev DX := XF → List Sl → (Sl → List Sl → Prop) → Prop
structure CnX (K : PySem.W.Frag) (Ts : AP) (W : WX) (σ : L2.St) (H : Hp) (A O : AP) (X : XF) (Qd : Sl → List Sl → Prop) (Q : VK) : Prop where
  q : ∀ s ρ' v H' A' O', Qd s ρ' → Tr A O H A' O' H' → Mt K Ts H' A' O' (s :: ρ') (some v :: σ) → Q v H'
  x : ∀ x ρ' cls od H' A' O', X x ρ' → Tr A O H A' O' H' → Mt K Ts H' A' O' ρ' σ → XR K H' A' x cls od → W cls od σ H'
def upX (K : PySem.W.Frag) (Ts : AP) (W : WX) (t : DX) : TE := fun σ H Q => ∃ A O ρ X Qd, Mt K Ts H A O ρ σ ∧ t X ρ Qd ∧ CnX K Ts W σ H A O X Qd Q
theorem CnX.move {K : PySem.W.Frag} {Ts A O A1 O1 : AP} {W : WX} {σ : L2.St} {H H1 : Hp} {X : XF} {Qd : Sl → List Sl → Prop} {Q : VK} {ρ : List Sl} (c : CnX K Ts W σ H A O X Qd Q) (t : Tr A O H A1 O1 H1) (m : Mt K Ts H A O ρ σ) : CnX K Ts W σ H1 A1 O1 X Qd Q where
  q := fun s ρ' v H' A' O' h t' m' => c.q s ρ' v H' A' O' h (t.trans t' m.trk) m'
  x := fun x ρ' cls od H' A' O' h t' m' r => c.x x ρ' cls od H' A' O' h (t.trans t' m.trk) m' r
/-- a new thing in front: from the state before to the one with it -/
theorem Rs.trc {K : PySem.W.Frag} {Ts A O A1 O1 : AP} {H H1 : Hp} {ρ : List Sl} {σ : L2.St} {κ : Kd} {d : D} {v : V} (t : Tr A O H A1 O1 H1) (r : Rs K Ts H H1 A1 O1 ρ σ κ d v) (nb : κ ≠ .bo) (m : Mt K Ts H1 A1 O1 ρ σ) : ∃ A2 O2, Mt K Ts H1 A2 O2 (slOf d κ :: ρ) (some v :: σ) ∧ Tr A O H A2 O2 H1 := by
  obtain ⟨A2, O2, m2, n1, n2, n3⟩ := r.cons nb m
  exact ⟨A2, O2, m2, ⟨t.kp, fun b z => (n1 b z).elim (t.new b) .inr, fun b z n => n2 b (t.old b z n), fun b z => (n3 b z).elim (t.own b) .inr⟩⟩
section
variable {X : Cx} {Ts : AP} {W : WX} {e : Expr} {te : DE} {tx : DX} {pos : Pos} {x : Str} {i : Nat}
def dxE (te : DE) : DX := fun X ρ Q => te X ρ fun d κ ρ1 => κ ≠ .bo ∧ Q (slOf d κ) ρ1
theorem dx_e (he : PE X e (upE X.K Ts W te)) : PE X e (upX X.K Ts W (dxE te)) := by
  refine he.imp fun σ H Q h => ?_
  obtain ⟨A, O, ρ, Xf, Qd, m, h, c⟩ := h
  refine ⟨A, O, ρ, Xf, _, m, h, fun d κ ρ1 v H1 A1 O1 h1 s1 t1 m1 r1 => ?_, c.x⟩
  obtain ⟨A2, O2, m2, t2⟩ := r1.trc t1 h1.1 m1
  exact c.q _ ρ1 v H1 A2 O2 h1.2 t2 m2
/-- name = e -/
def dSetX (i : Nat) (tx : DX) : DS := fun X N ρ => tx X ρ fun s ρ1 => i < ρ1.length ∧ N.nx (ρ1.set i s)
theorem ds_setX {pos' : Pos} (hN : X.N.Nodup) (hi : X.N[i]? = some x) (hx : Loc X.env.scope x) (he : PE X e (upX X.K Ts W tx)) (hs : swapsWith e (some (.Name x pos')) pos.line X.env = pure false := by rfl) (hf : X.fn x = true ∨ X.env.scope.names.lookup x = some .local := by first | exact .inl rfl | exact .inr rfl | assumption) :
    PS X (.Assign [.Name x pos'] e pos) (upS X.K Ts W (dSetX i tx)) := by
  refine (ps_set hN hi hx he hs hf).imp fun E σ H h => ?_
  obtain ⟨A, O, ρ, Xf, N, m, h, c⟩ := h
  refine ⟨A, O, ρ, Xf, _, m, h, fun s ρ1 v H1 A1 O1 h1 t1 m1 => ?_, fun x ρ' cls od H' A' O' => c.x x ρ' cls od σ H' A' O'⟩
  obtain ⟨O2, m2, t2⟩ := m1.mv h1.1
  exact c.nx _ _ _ _ _ h1.2 (t1.trans t2 m.trk) m2
def dDropX (tx : DX) : DS := fun X N ρ => tx X ρ fun _ ρ1 => N.nx ρ1
theorem ds_exprX (he : PE X e (upX X.K Ts W tx)) (hs : swapsWith e none pos.line X.env = pure false := by rfl) : PS X (.Expr e pos) (upS X.K Ts W (dDropX tx)) := by
  refine (ps_expr he hs).imp fun E σ H h => ?_
  obtain ⟨A, O, ρ, Xf, N, m, h, c⟩ := h
  refine ⟨A, O, ρ, Xf, _, m, h, fun s ρ1 v H1 A1 O1 h1 t1 m1 => ?_, fun x ρ' cls od H' A' O' => c.x x ρ' cls od σ H' A' O'⟩
  obtain ⟨O2, m2, t2⟩ := m1.uncons
  exact c.nx _ _ _ _ _ h1 (t1.trans t2 m.trk) m2
def dRetX (tx : DX) : DS := fun X N ρ => tx X ρ fun s ρ1 => N.rt s ρ1
theorem ds_retX (he : PE X e (upX X.K Ts W tx)) : PS X (.Return (some e) pos) (upS X.K Ts W (dRetX tx)) := by
  refine (ps_ret he).imp fun E σ H h => ?_
  obtain ⟨A, O, ρ, Xf, N, m, h, c⟩ := h
  exact ⟨A, O, ρ, Xf, _, m, h, fun s ρ1 v H1 A1 O1 h1 t1 m1 => c.rt s ρ1 v σ H1 A1 O1 h1 t1 m1, fun x ρ' cls od H' A' O' => c.x x ρ' cls od σ H' A' O'⟩
end
end DL

-- part DO2
set_option Elab.async false
set_option linter.all false
set_option maxRecDepth 100000
set_option maxHeartbeats 2000000
/-! an object's fields: looked at, stored, lists and dicts in them changed -/
namespace DL
open PySem PySem.Spec PyProof.Rows L2 GxR GS GA GD
section
variable {K : PySem.W.Frag} {A : AP} {H : Hp}
/-- an address that is none of R is written -/
theorem FdAt.upd {f : Fd} {v : V} {R : List Addr} {a : Addr} {u : HO} (ha : A a) (hm : ∀ u, H a = some u → isM u) (n : a ∉ R) (h : FdAt K H A f v R) : FdAt K (upd H a u) A f v R :=
  h.gen (fun b o e z t => by rw [upd_ne (fun y => by subst y; exact (z (hm o e)).elim (fun w => w ha) n)]; exact e) fun _ _ _ _ z => z
theorem FsAt.upd {fs : List (Str × Fd)} {ws : List (Str × V)} {R : List Addr} {a : Addr} {u : HO} (ha : A a) (hm : ∀ u, H a = some u → isM u) (n : a ∉ R) (h : FsAt K H A fs ws R) : FsAt K (upd H a u) A fs ws R :=
  FsAt.gen (fun b o e z t => by rw [upd_ne (fun y => by subst y; exact (z (hm o e)).elim (fun w => w ha) n)]; exact e) (fun _ _ _ _ z => z) h
/-- the thing of a field is written where it stands -/
theorem FsAt.wr {f : Str} {fd fd' : Fd} {b : Addr} {u : HO} (hA : A b) (hm : ∀ u, H b = some u → isM u) (hu : FdAt K (_root_.L2.upd H b u) A fd' (.ref b) [b]) : ∀ {fs : List (Str × Fd)} {ws : List (Str × V)} {R : List Addr}, FsAt K H A fs ws R → R.Nodup → fs.lookup f = some fd → (∀ v R1, FdAt K H A fd v R1 → R1 = [b] → v = .ref b) → (∃ v R1, ws.lookup f = some v ∧ FdAt K H A fd v R1 ∧ R1 = [b]) → FsAt K (_root_.L2.upd H b u) A (putFd f fd' fs) ws R
  | [], _, _, _, _, e, _, _ => by cases e
  | (n, x) :: t, ws, R, h, nd, e, hv, ⟨v0, R0, l0, h0, e0⟩ => by
    obtain ⟨v, w, R1, R2, e1, e2, h1, h2⟩ := h
    subst e1
    subst e2
    have ndd := List.nodup_append.mp nd
    rw [List.lookup_cons] at e l0
    unfold putFd
    by_cases q : n = f
    · rw [if_pos q]
      have qb : (f == n) = true := beq_iff_eq.mpr q.symm
      rw [qb] at e l0
      cases e
      cases l0
      have r1 : R1 = [b] := by rw [h1.det h0]; exact e0
      have ev := hv _ _ h1 r1
      subst r1
      subst ev
      exact ⟨.ref b, w, [b], R2, rfl, rfl, hu, h2.upd hA hm fun z => ndd.2.2 b (List.mem_singleton.mpr rfl) b z rfl⟩
    · rw [if_neg q]
      have qb : (f == n) = false := beq_eq_false_iff_ne.mpr fun z => q z.symm
      rw [qb] at e l0
      have bR2 : b ∈ R2 := by
        obtain ⟨v3, R3, l3, h3, s3⟩ := h2.look e
        have l1 : w.lookup f = some v0 := l0
        rw [l1] at l3
        cases l3
        exact s3 b (by rw [← h0.det h3, e0]; exact List.mem_singleton.mpr rfl)
      exact ⟨v, w, R1, R2, rfl, rfl, h1.upd hA hm fun z => ndd.2.2 b z b bR2 rfl, FsAt.wr hA hm hu h2 ndd.2.1 e hv ⟨v0, R0, l0, h0, e0⟩⟩
end
/-! ### looked at -/
def fdRd (fd : Fd) (Q : D → Kd → Prop) : Prop := match fd with
  | .va d => Q d .sh
  | .ow ds => Q (.lst ds) .bo
  | .od kvs => Q (slD (.od kvs)) .bo
  | .ot _ => False
  | .tq ds => Q (.tup ds) .sh
def obRd (s : Sl) (C : Str) (Q : List (Str × Fd) → Prop) : Prop := match s with
  | .ob _ C' fs => C' = C ∧ Q fs
  | .ro _ C' fs => C' = C ∧ Q fs
  | _ => False
def obWr (s : Sl) (C : Str) (Q : Addr → List (Str × Fd) → Prop) : Prop := match s with
  | .ob a C' fs => C' = C ∧ Q a fs
  | _ => False
theorem obRd.get {s : Sl} {C : Str} {Q : List (Str × Fd) → Prop} (h : obRd s C Q) : ∃ a fs, (s = .ob a C fs ∨ s = .ro a C fs) ∧ Q fs := by
  unfold obRd at h
  split at h
  · obtain ⟨rfl, h⟩ := h; exact ⟨_, _, .inl rfl, h⟩
  · obtain ⟨rfl, h⟩ := h; exact ⟨_, _, .inr rfl, h⟩
  · exact h.elim
theorem obWr.get {s : Sl} {C : Str} {Q : Addr → List (Str × Fd) → Prop} (h : obWr s C Q) : ∃ a fs, s = .ob a C fs ∧ Q a fs := by
  unfold obWr at h
  split at h
  · obtain ⟨rfl, h⟩ := h; exact ⟨_, _, rfl, h⟩
  · exact h.elim
theorem sl_get {ρ : List Sl} {i : Nat} {s : Sl} (h : sl ρ i = s) (n : s ≠ .no) : ρ[i]? = some s := by
  rw [sl_eq]
  by_cases l : i < ρ.length
  · rw [if_pos l, h]
  · have : sl ρ i = .no := by unfold sl; rw [List.getD_eq_getElem?_getD, List.getElem?_eq_none (by omega)]; rfl
    rw [this] at h
    exact absurd h.symm n
/-- x.f -/
def dOF (i : Nat) (C f : Str) : DE := fun _ ρ Q => obRd (sl ρ i) C fun fs => oK (fs.lookup f) fun fd => fdRd fd fun d κ => Q d κ ρ
section
variable {X : Cx} {Ts : AP} {W : WX} {e k : Expr} {te tk : DE} {tx : DX} {p pos : Pos} {x : Str} {i : Nat} {C f : Str}
theorem de_of (hN : X.N[i]? = some x) (hv : Vis X.env.scope x) (c : Cls X.K (He.ga X.K C)) (na : NoAttr X.K (He.ga X.K C) f) (hd : (x == ("__debug__" : Str)) = false := by decide) (hcd : (x == ("__classdict__" : Str)) = false := by decide)
    (hb : attributeBase (.Name x p) f X.env (eval (.Name x p) X.env) = eval (.Name x p) X.env := by rfl) : PE X (.Attribute (.Name x p) f pos) (upE X.K Ts W (dOF i C f)) := by
  refine (pe_fld (pe_var hN hv hd hcd) hb).imp fun σ H Q h => ?_
  obtain ⟨A, O, ρ, Xf, Qd, m, h, cn⟩ := h
  obtain ⟨a, fs, es, h⟩ := obRd.get h
  have es : ρ[i]? = some (.ob a C fs) ∨ ρ[i]? = some (.ro a C fs) := es.imp (fun z => sl_get z (by simp)) fun z => sl_get z (by simp)
  obtain ⟨dx, ws, R, e1, e2, e3⟩ := m.obj i a C fs es
  obtain ⟨fd, el, h⟩ := h.get
  obtain ⟨v, R1, l1, l2, _⟩ := e3.look el
  refine ⟨_, e1, a, _, dx, ws, v, rfl, e2, c, na, l1, ?_⟩
  unfold fdRd at h
  split at h
  · exact cn.flat m h l2.2
  · obtain ⟨b, us, rfl, _, r1, r2⟩ := l2
    exact cn.q _ .bo _ _ H _ _ h Sm.refl Tr.refl m ⟨b, us, rfl, r1, r2⟩
  · obtain ⟨b, us, rfl, _, r1, r2⟩ := l2
    exact cn.q _ .bo _ _ H _ _ h Sm.refl Tr.refl m ⟨b, us, rfl, r1, by rw [← r2.len, List.length_map, List.length_map], r2⟩
  · exact h.elim
  · exact cn.flat m h (l2.frz rfl (fun _ z => z) fun b hb => by rw [l2.1] at hb; cases hb)
/-! ### x.f = e -/
def dOS (i : Nat) (C f : Str) (tx : DX) : DS := fun X N ρ => tx X ρ fun s ρ1 => oK (fdOf s) fun fd => obWr (sl ρ1 i) C fun a fs => fs.length < 1000 ∧ N.nx (ρ1.set i (.ob a C (putFd f fd fs)))
theorem FsAt.len {K : PySem.W.Frag} {A : AP} {H : Hp} {fs : List (Str × Fd)} {ws : List (Str × V)} {R : List Addr} (h : FsAt K H A fs ws R) : ws.length = fs.length := by
  have := congrArg List.length h.names
  rw [List.length_map, List.length_map] at this
  exact this
/-- what stands in front goes into a field -/
theorem MtG.fst {K : PySem.W.Frag} {A1 O1 : AP} {H1 : Hp} {ρ1 : List Sl} {σ : L2.St} {g : Nat → List Addr} {s : Sl} {v : V} {a : Addr} {fs : List (Str × Fd)} {fd : Fd} (mg : MtG K Ts H1 A1 O1 (s :: ρ1) (some v :: σ) g) (ef : FdAt K H1 A1 fd v (g 0)) (es : ρ1[i]? = some (.ob a C fs)) :
    ∃ dx ws, σ[i]? = some (some (.ref a)) ∧ H1 a = some (.ins (He.ga K C) dx ws) ∧ ws.length = fs.length ∧ ∃ O2, Mt K Ts (L2.upd H1 a (.ins (He.ga K C) dx (putF f v ws))) A1 O2 (ρ1.set i (.ob a C (putFd f fd fs))) σ ∧ Tr A1 O1 H1 A1 O2 (L2.upd H1 a (.ins (He.ga K C) dx (putF f v ws))) := by
  have hi : i < ρ1.length := (List.getElem?_eq_some_iff.mp es).1
  obtain ⟨o, eo, v2, e1, dx, ws, R1, e2, e3, e4, e5⟩ := mg.get (i := i + 1) (s := .ob a C fs) (by rw [List.getElem?_cons_succ]; exact es)
  subst e1
  subst e2
  have eo : σ[i]? = some (some (.ref a)) := by rw [List.getElem?_cons_succ] at eo; exact eo
  have nd := mg.nod (i + 1)
  rw [e3] at nd
  have nd1 := List.nodup_cons.mp nd
  have n0 := mg.nod 0
  have d0 : ∀ b ∈ g 0, b ∉ g (i + 1) := fun b h1 h2 => absurd (mg.dis 0 (i + 1) b h1 h2) (by omega)
  have aO : O1 a := mg.mine (i := i + 1) (by rw [e3]; exact List.mem_cons_self)
  have aA := mg.sub a aO
  have hm : ∀ u, H1 a = some u → isM u := fun u q => by rw [e4] at q; cases q; trivial
  refine ⟨dx, ws, eo, e4, e5.len, ?_⟩
  obtain ⟨R', f1, f2, f3⟩ := (e5.upd (u := .ins (He.ga K C) dx (putF f v ws)) aA hm nd1.1).put (f := f) (FdAt.upd (u := .ins (He.ga K C) dx (putF f v ws)) aA hm (fun z => d0 a z (by rw [e3]; exact List.mem_cons_self)) ef) nd1.2 n0 fun b h1 h2 => d0 b h1 (by rw [e3]; exact List.mem_cons_of_mem _ h2)
  have aR' : a ∉ R' := fun z => (f3 a z).elim (fun w => d0 a w (by rw [e3]; exact List.mem_cons_self)) fun w => nd1.1 w
  obtain ⟨m2, t2⟩ := mg.mrg hi (H' := L2.upd H1 a (.ins (He.ga K C) dx (putF f v ws))) (A' := A1) (R' := a :: R') (s := .ob a C (putFd f fd fs)) (o := some (.ref a)) (fun P ⟨ps, e, t⟩ => ⟨ps, by rw [upd_ne (fun z => by rw [z, e4] at e; cases e)]; exact e, t⟩)
    (fun b u q n _ => by rw [upd_ne (fun z => by subst z; exact n (hm u q) (by rw [e3]; exact List.mem_cons_self))]; exact q) (fun b q => by
      by_cases hb : b = a
      · rw [hb, upd_same] at q; cases q
      · rw [upd_ne hb] at q; exact q) (fun _ _ _ _ z => z) (fun _ h => .inl h) (fun _ h _ _ => h) (fun b h => by
      by_cases hb : b = a
      · rw [hb, upd_same]; exact fun z => by cases z
      · rw [upd_ne hb]; exact mg.trk b h) (fun b hb => by
      rcases List.mem_cons.mp hb with rfl | hb
      · exact .inr (by rw [e3]; exact List.mem_cons_self)
      · exact (f3 b hb).imp id fun z => by rw [e3]; exact List.mem_cons_of_mem _ z) (fun b hb => by
      rcases List.mem_cons.mp hb with rfl | hb
      · exact aA
      · exact (f3 b hb).elim (fun z => mg.sub b (mg.mine z)) fun z => mg.sub b (mg.mine (i := i + 1) (by rw [e3]; exact List.mem_cons_of_mem _ z))) (List.nodup_cons.mpr ⟨aR', f2⟩) ⟨_, rfl, dx, _, R', rfl, rfl, upd_same, f1⟩
  have es2 : σ.set i (some (.ref a)) = σ := by
    rw [List.getElem?_eq_some_iff] at eo
    obtain ⟨h1, h2⟩ := eo
    rw [← h2]
    exact List.set_getElem_self h1
  rw [es2] at m2
  exact ⟨_, ⟨_, m2⟩, t2⟩
theorem ds_ostore {pos' : Pos} (hN : X.N[i]? = some x) (hv : Vis X.env.scope x) (he : PE X e (upX X.K Ts W tx)) (c : Cls X.K (He.ga X.K C)) (na : NoAttr X.K (He.ga X.K C) f) (hd : (x == ("__debug__" : Str)) = false := by decide) (hcd : (x == ("__classdict__" : Str)) = false := by decide)
    (hs : swapsWith e (some (.Attribute (.Name x p) f pos')) pos.line X.env = pure false := by rfl) : PS X (.Assign [.Attribute (.Name x p) f pos'] e pos) (upS X.K Ts W (dOS i C f tx)) := by
  refine (ps_fld (pe_var hN hv hd hcd) he hs).imp fun E σ H h => ?_
  obtain ⟨A, O, ρ, Xf, N, m, h, cn⟩ := h
  refine ⟨A, O, ρ, Xf, _, m, h, fun s ρ1 v H1 A1 O1 h1 t1 m1 => ?_, fun x ρ' cls od H' A' O' => cn.x x ρ' cls od σ H' A' O'⟩
  obtain ⟨fd, ef, h1⟩ := h1.get
  obtain ⟨a, fs, es, hl, h1⟩ := h1.get
  have es := sl_get es (by simp)
  obtain ⟨g, mg⟩ := m1
  obtain ⟨dx, ws, eo, e4, el, O2, m2, t2⟩ := mg.fst (f := f) (fdOf_at ef (mg.at_ 0 s (some v) rfl rfl)) es
  refine ⟨_, eo, a, _, dx, ws, rfl, e4, c, na, by rw [el]; exact hl, ?_⟩
  exact cn.nx _ _ _ _ _ h1 (t1.trans t2 m.trk) m2
/-! ### a list in a field -/
/-- the state behind a write to the thing of a field -/
theorem Mt.fwr {K : PySem.W.Frag} {A O : AP} {H : Hp} {ρ : List Sl} {σ : L2.St} {a : Addr} {fs : List (Str × Fd)} {fd : Fd} (m : Mt K Ts H A O ρ σ) (es : ρ[i]? = some (.ob a C fs)) (el : fs.lookup f = some fd) {b : Addr} (hv : ∀ v R1, FdAt K H A fd v R1 → R1 = [b] → v = .ref b)
    (hR : ∀ v R1, FdAt K H A fd v R1 → v = .ref b → R1 = [b] ∧ ∀ u, H b = some u → isM u) {dx : Addr} {ws : List (Str × V)} (e4 : H a = some (.ins (He.ga K C) dx ws)) (hb : ws.lookup f = some (.ref b)) {u : HO} {fd' : Fd} (hu : A b → FdAt K (L2.upd H b u) A fd' (.ref b) [b]) :
    ∃ O', Mt K Ts (L2.upd H b u) A O' (ρ.set i (.ob a C (putFd f fd' fs))) σ ∧ Tr A O H A O' (L2.upd H b u) := by
  obtain ⟨g, mg⟩ := m
  have hi : i < ρ.length := (List.getElem?_eq_some_iff.mp es).1
  obtain ⟨o, eo, v2, e1, dx', ws', R1, e2, e3, e4', e5⟩ := mg.get es
  subst e1
  subst e2
  rw [e4] at e4'
  cases e4'
  obtain ⟨v3, R3, l3, h3, s3⟩ := e5.look el
  rw [hb] at l3
  cases l3
  obtain ⟨r3, hm⟩ := hR _ _ h3 rfl
  subst r3
  have bR1 := s3 b (List.mem_singleton.mpr rfl)
  have bg : b ∈ g i := by rw [e3]; exact List.mem_cons_of_mem _ bR1
  have nd := mg.nod i
  rw [e3] at nd
  have nd1 := List.nodup_cons.mp nd
  have bA := mg.sub b (mg.mine bg)
  have ba : b ≠ a := fun z => nd1.1 (z ▸ bR1)
  obtain ⟨w, ew, _⟩ := h3.own b (List.mem_singleton.mpr rfl)
  refine mg.wr hi bg (fun x q ps z => by have := hm x q; rw [z] at this; exact this.elim) eo ⟨_, rfl, dx, ws, R1, rfl, e3, by rw [upd_ne fun z => ba z.symm]; exact e4, FsAt.wr bA hm (hu bA) e5 nd1.2 el hv ⟨_, _, hb, h3, rfl⟩⟩
/-- x.f.append(e) -/
def lwK (fd : Fd) (Q : List D → Prop) : Prop := match fd with
  | .ow ds => Q ds
  | _ => False
theorem lwK.get {fd : Fd} {Q : List D → Prop} (h : lwK fd Q) : ∃ ds, fd = .ow ds ∧ Q ds := by
  unfold lwK at h
  split at h
  · exact ⟨_, rfl, h⟩
  · exact h.elim
def dOApp (i : Nat) (C f : Str) (te : DE) : DS := fun X N ρ => obWr (sl ρ i) C fun _ fs0 => oK (fs0.lookup f) fun fd0 => lwK fd0 fun _ => te X ρ fun d κ ρ1 => κ ≠ .bo ∧ obWr (sl ρ1 i) C fun a fs => oK (fs.lookup f) fun fd => lwK fd fun ds => ds.length < sizeLine ∧ N.nx (ρ1.set i (.ob a C (putFd f (.ow (ds ++ [d])) fs)))
/-- where a list of a field stands -/
theorem Mt.fat {K : PySem.W.Frag} {A O : AP} {H : Hp} {ρ : List Sl} {σ : L2.St} {a : Addr} {fs : List (Str × Fd)} {ds : List D} (m : Mt K Ts H A O ρ σ) (es : ρ[i]? = some (.ob a C fs)) (el : fs.lookup f = some (.ow ds)) :
    ∃ dx ws b us, σ[i]? = some (some (V.ref a)) ∧ H a = some (.ins (He.ga K C) dx ws) ∧ ws.lookup f = some (.ref b) ∧ H b = some (.lst us) ∧ RpL K H A ds us := by
  obtain ⟨dx, ws, R, e1, e2, e3⟩ := m.obj i a C fs (.inl es)
  obtain ⟨v, R1, l1, ⟨b, us, rfl, _, r1, r2⟩, _⟩ := e3.look el
  exact ⟨dx, ws, b, us, e1, e2, l1, r1, r2⟩
theorem Mt.fput {K : PySem.W.Frag} {A O : AP} {H : Hp} {ρ : List Sl} {σ : L2.St} {a b : Addr} {fs : List (Str × Fd)} {ds es : List D} {dx : Addr} {ws : List (Str × V)} {us vs : List V} (m : Mt K Ts H A O ρ σ) (e : ρ[i]? = some (.ob a C fs)) (el : fs.lookup f = some (.ow ds)) (e2 : H a = some (.ins (He.ga K C) dx ws)) (l : ws.lookup f = some (.ref b)) (hb : H b = some (.lst us)) (r : RpL K H A es vs) :
    ∃ O', Mt K Ts (L2.upd H b (.lst vs)) A O' (ρ.set i (.ob a C (putFd f (.ow es) fs))) σ ∧ Tr A O H A O' (L2.upd H b (.lst vs)) := by
  have hm : ∀ u, H b = some u → isM u := fun u q => by rw [hb] at q; cases q; trivial
  refine m.fwr e el (b := b) (fun v R1 h z => ?_) (fun v R1 h z => ?_) e2 l fun bA => ⟨b, vs, rfl, rfl, upd_same, r.upd bA hm⟩
  · obtain ⟨c, us', rfl, e3, _⟩ := h
    rw [e3] at z
    rw [(List.cons.inj z).1]
  · obtain ⟨c, us', e4, e3, _⟩ := h
    rw [z] at e4
    cases e4
    exact ⟨e3, hm⟩
theorem ds_oapp {apos cpos pos' : Pos} (hN : X.N[i]? = some x) (hv : Vis X.env.scope x) (c : Cls X.K (He.ga X.K C)) (na : NoAttr X.K (He.ga X.K C) f) (he : PE X e (upE X.K Ts W te)) (hd : (x == ("__debug__" : Str)) = false := by decide) (hcd : (x == ("__classdict__" : Str)) = false := by decide)
    (hb : attributeBase (.Name x p) f X.env (eval (.Name x p) X.env) = eval (.Name x p) X.env := by rfl)
    (hbase : attributeBase (.Attribute (.Name x p) f pos) "append" X.env (eval (.Attribute (.Name x p) f pos) X.env) = eval (.Attribute (.Name x p) f pos) X.env := by rfl)
    (hfew : ((backTo cpos (starEach [e] X.env)).all (fun x => !x.1) && (backToKw cpos (keywordEach [] X.env)).all (fun x => x.1.isSome) && decide (([e] : List Expr).length + ([] : List Keyword).length + (if ([] : List Keyword).isEmpty then 0 else 1) < 30)) = true := by rfl)
    (hline : (apos.endLine == cpos.line) = true := by rfl) (hs : starEach [e] X.env = (false, eval e X.env) :: starEach [] X.env := by rfl) (hplain : (backTo cpos (starEach [] X.env)).any (·.1) = false := by rfl)
    (hsw : swapsWith (.Call (.Attribute (.Attribute (.Name x p) f pos) "append" apos) [e] [] cpos) none pos'.line X.env = pure false := by rfl) :
    PS X (.Expr (.Call (.Attribute (.Attribute (.Name x p) f pos) "append" apos) [e] [] cpos) pos') (upS X.K Ts W (dOApp i C f te)) := by
  refine (ps_expr (pe_bm PySem.F.plainAttrs_list PySem.F.slot_list_append PySem.F.type_list_append mt_append (pe_fld (pe_var hN hv hd hcd) hb) (pa_cons he pa_nil hs) hbase hfew hline hs hplain) hsw).imp fun E σ H h => ?_
  obtain ⟨A, O, ρ, Xf, N, m, h, cn⟩ := h
  obtain ⟨a, fs0, es, h⟩ := obWr.get h
  have es := sl_get es (by simp)
  obtain ⟨fd0, el0, h⟩ := h.get
  obtain ⟨ds0, rfl, h⟩ := h.get
  obtain ⟨dx, ws, b, us, e1, e2, l1, r1, r2⟩ := m.fat es el0
  refine ⟨_, e1, a, _, dx, ws, _, rfl, e2, c, na, l1, .inl ⟨rfl, us, SqL.of r1⟩, ?_⟩
  refine ⟨A, O, ρ, Xf, _, m, h, fun d κ ρ1 v H1 A1 O1 q s1 t1 m1 rv => ?_, fun x ρ' cls od H' A' O' => cn.x x ρ' cls od σ H' A' O'⟩
  obtain ⟨nb, q⟩ := q
  obtain ⟨a', fs, es1, q⟩ := obWr.get q
  have es1 := sl_get es1 (by simp)
  obtain ⟨fd, el, q⟩ := q.get
  obtain ⟨ds, rfl, q⟩ := q.get
  obtain ⟨dx', ws', b', us', e1', e2', l1', r1', r2'⟩ := m1.fat es1 el
  rw [e1] at e1'
  cases e1'
  have e2'' := s1.st a _ e2 fun ps z => by cases z
  rw [e2''] at e2'
  cases e2'
  rw [l1] at l1'
  cases l1'
  refine ⟨b, us', v, rfl, rfl, r1', by rw [← r2'.len]; exact q.1, ?_⟩
  obtain ⟨O2, m2, t2⟩ := m1.fput (es := ds ++ [d]) (vs := us' ++ [v]) es1 el e2'' l1 r1' (r2'.app (RpL.cons (rv.rp nb) RpL.nil))
  exact cn.nx _ σ _ _ _ q.2 (t1.trans t2 m.trk) m2
/-- x.f[k] = e -/
def dOSt (i : Nat) (C f : Str) (tk te : DE) : DS := fun X N ρ => te X ρ fun d κ ρ1 => κ ≠ .bo ∧ obWr (sl ρ1 i) C fun _ fs0 => oK (fs0.lookup f) fun fd0 => lwK fd0 fun _ => tk X ρ1 fun z _ ρ2 => match z with
  | .int k => obWr (sl ρ2 i) C fun a fs => oK (fs.lookup f) fun fd => lwK fd fun ds => ∃ j, ixN ds.length k = some j ∧ N.nx (ρ2.set i (.ob a C (putFd f (.ow (ds.set j d)) fs)))
  | _ => False
theorem ds_ost {sp : Pos} {pos' : Pos} (hN : X.N[i]? = some x) (hv : Vis X.env.scope x) (c : Cls X.K (He.ga X.K C)) (na : NoAttr X.K (He.ga X.K C) f) (hk : PE X k (upE X.K Ts W tk)) (he : PE X e (upE X.K Ts W te)) (hd : (x == ("__debug__" : Str)) = false := by decide) (hcd : (x == ("__classdict__" : Str)) = false := by decide)
    (hb : attributeBase (.Name x p) f X.env (eval (.Name x p) X.env) = eval (.Name x p) X.env := by rfl)
    (hs : swapsWithSole [.Subscript (.Attribute (.Name x p) f pos) k sp] e pos'.line X.env = pure false := by rfl) (hw : swappedStores [.Subscript (.Attribute (.Name x p) f pos) k sp] e X.env = pure none := by rfl)
    (h1 : (assignEach [.Subscript (.Attribute (.Name x p) f pos) k sp] X.env).map (·.2) = [assign (.Subscript (.Attribute (.Name x p) f pos) k sp) X.env] := by rfl)
    (ha : ∀ v, assign (.Subscript (.Attribute (.Name x p) f pos) k sp) X.env v = (do
      let o ← holding [v] (eval (.Attribute (.Name x p) f pos) X.env)
      let j ← holding [v, o] (eval k X.env)
      standAt sp
      holding [v, o, j] (setItem o j v)
      release [v, o, j] []) := by intro _; rfl) :
    PS X (.Assign [.Subscript (.Attribute (.Name x p) f pos) k sp] e pos') (upS X.K Ts W (dOSt i C f tk te)) := by
  refine (ps_asg he (pg_sub (pe_fld (pe_var hN hv hd hcd) hb) hk set_list ha) hs hw h1).imp fun E σ H h => ?_
  obtain ⟨A, O, ρ, Xf, N, m, h, cn⟩ := h
  refine ⟨A, O, ρ, Xf, _, m, h, fun d κ ρ1 v H1 A1 O1 q s1 t1 m1 rv => ?_, fun x ρ' cls od H' A' O' => cn.x x ρ' cls od σ H' A' O'⟩
  obtain ⟨nb, q⟩ := q
  obtain ⟨a, fs0, es, q⟩ := obWr.get q
  have es := sl_get es (by simp)
  obtain ⟨fd0, el0, q⟩ := q.get
  obtain ⟨ds0, rfl, q⟩ := q.get
  obtain ⟨dx, ws, b, us, e1, e2, l1, r1, r2⟩ := m1.fat es el0
  have cn1 := cn.move t1 m
  refine ⟨_, e1, a, _, dx, ws, _, rfl, e2, c, na, l1, A1, O1, ρ1, Xf, _, m1, q, fun z κ2 ρ2 w H2 A2 O2 q2 s2 t2 m2 rw2 => ?_, fun x ρ' cls od H' A' O' => cn1.x x ρ' cls od σ H' A' O'⟩
  split at q2
  · obtain ⟨a', fs, es1, q2⟩ := obWr.get q2
    have es1 := sl_get es1 (by simp)
    obtain ⟨fd, el, q2⟩ := q2.get
    obtain ⟨ds, rfl, q2⟩ := q2.get
    obtain ⟨j, hj, q2⟩ := q2
    obtain ⟨dx', ws', b', us', e1', e2', l1', r1', r2'⟩ := m2.fat es1 el
    rw [e1] at e1'
    cases e1'
    have e2'' := s2.st a _ e2 fun ps z => by cases z
    rw [e2''] at e2'
    cases e2'
    rw [l1] at l1'
    cases l1'
    refine ⟨b, us', _, j, rfl, rw2.wk.int, r1', by rw [← r2'.len]; exact hj, ?_⟩
    obtain ⟨O3, m3, t3⟩ := m2.fput (es := ds.set j d) (vs := us'.set j v) es1 el e2'' l1 r1' (r2'.set ((rv.rp nb).tr t2 m1.sub) j)
    exact (cn1.move t2 m1).nx _ σ _ _ _ q2 t3 m3
  · exact q2.elim
end
end DL

-- part DO3
set_option Elab.async false
set_option linter.all false
set_option maxRecDepth 100000
set_option maxHeartbeats 2000000
/-! defs and methods that are lent an object of one's own -/
namespace DL
open PySem PySem.Spec PyProof.Rows L2 GxR GS GA GD
section
variable {K : PySem.W.Frag} {Ts A O A' O' : AP} {H H' : Hp} {ρ : List Sl} {σ : L2.St}
def selG (ρ2 : List Sl) (g : Nat → List Addr) (k : Nat) : List Addr := match ρ2[k]? with
  | none => []
  | some .no => []
  | some _ => g k
/-- some of the slots -/
theorem Mt.sel {ρ2 : List Sl} {σ2 : L2.St} (m : Mt K Ts H A O ρ σ) (l : ρ2.length = σ2.length) (h : ∀ (k : Nat) (s : Sl) (o : Option V), ρ2[k]? = some s → σ2[k]? = some o → s = Sl.no ∨ (ρ[k]? = some s ∧ σ[k]? = some o)) : ∃ O', Mt K Ts H A O' ρ2 σ2 ∧ Tr A O H A O' H := by
  obtain ⟨g, m⟩ := m
  have sub : ∀ k b, b ∈ selG ρ2 g k → b ∈ g k := fun k b hb => by
    unfold selG at hb
    split at hb
    · cases hb
    · cases hb
    · exact hb
  refine ⟨fun b => ∃ k, b ∈ selG ρ2 g k, ⟨selG ρ2 g, m.tab, fun b ⟨k, hk⟩ => m.sub b (m.mine (sub k b hk)), m.trk, l, fun i s o e1 e2 => ?_, fun i => ?_, fun i j b h1 h2 => m.dis i j b (sub i b h1) (sub j b h2), fun b => Iff.rfl, fun i hi => ?_⟩, ⟨Kp.refl, fun _ h => .inl h, fun _ h _ => h, fun b ⟨k, hk⟩ => .inl (m.mine (sub k b hk))⟩⟩
  · rcases h i s o e1 e2 with rfl | ⟨h1, h2⟩
    · unfold selG
      rw [e1]
      exact rfl
    · have r := (m.at_ i s o h1 h2).gen (O' := fun b => ∃ k, b ∈ selG ρ2 g k) m.sub (fun _ _ e _ _ => e) (fun _ _ _ _ z => z) fun b u e n ⟨k, hk⟩ => n (m.mine (sub k b hk))
      unfold selG at r ⊢
      rw [e1]
      cases s with
      | no => exact rfl
      | _ => exact r
  · unfold selG
    split
    · exact List.nodup_nil
    · exact List.nodup_nil
    · exact m.nod i
  · unfold selG
    rw [List.getElem?_eq_none hi]
/-- what is kept of a lent slot -/
def keep1 : Sl → Sl → Sl
  | .ob a _ _, .ob a' C' fs' => if a = a' then .ob a' C' fs' else .no
  | _, _ => .no
def finS : List Sl → List Sl → List Sl
  | [], _ => []
  | _ :: r, [] => .no :: finS r []
  | s :: r, s' :: r' => keep1 s s' :: finS r r'
theorem finS_len : ∀ (ss ρ' : List Sl), (finS ss ρ').length = ss.length
  | [], _ => rfl
  | _ :: r, [] => by show (finS r []).length + 1 = _; rw [finS_len r []]; rfl
  | s :: r, s' :: r' => by show (finS r r').length + 1 = _; rw [finS_len r r']; rfl
theorem keep1_at {s s' t : Sl} (h : keep1 s s' = t) : t = .no ∨ ∃ a C fs C' fs', s = .ob a C fs ∧ s' = .ob a C' fs' ∧ t = .ob a C' fs' := by
  cases s with
  | ob a C fs =>
    cases s' with
    | ob a' C' fs' =>
      have h : (if a = a' then Sl.ob a' C' fs' else .no) = t := h
      by_cases e : a = a'
      · rw [if_pos e] at h
        subst e
        exact .inr ⟨a, C, fs, C', fs', rfl, rfl, h.symm⟩
      · rw [if_neg e] at h
        exact .inl h.symm
    | _ => exact .inl h.symm
  | _ => exact .inl (by rw [← h]; rfl)
theorem finS_at : ∀ (ss ρ' : List Sl) (k : Nat) (t : Sl), (finS ss ρ')[k]? = some t → t = .no ∨ ∃ a C fs C' fs', ss[k]? = some (.ob a C fs) ∧ ρ'[k]? = some (.ob a C' fs') ∧ t = .ob a C' fs'
  | [], _, k, t, h => by cases h
  | s :: r, [], 0, t, h => by cases h; exact .inl rfl
  | s :: r, [], k + 1, t, h => by
    have h : (finS r [])[k]? = some t := h
    rcases finS_at r [] k t h with e | ⟨a, C, fs, C', fs', h1, h2, h3⟩
    · exact .inl e
    · cases h2
  | s :: r, s' :: r', 0, t, h => by
    rcases keep1_at (Option.some.inj h) with e | ⟨a, C, fs, C', fs', rfl, rfl, e⟩
    · exact .inl e
    · exact .inr ⟨a, C, fs, C', fs', rfl, rfl, e⟩
  | s :: r, s' :: r', k + 1, t, h => finS_at r r' k t h
/-- the promise of a def by the slots of its arguments; what it gives, and the slots behind it -/
abbrev PhO := List Sl → (Sl → List Sl → Prop) → (Xc → List Sl → Prop) → Prop
def spO (K : PySem.W.Frag) (Ts : AP) (n : Nat) (φ : PhO) : Sp := fun vs H Q E => vs.length = n ∧ ∃ A O ss Qd Xd, Mt K Ts H A O ss (vs.map some) ∧ φ ss Qd Xd ∧
  (∀ s ss' v H' A' O', Qd s ss' → Tr A O H A' O' H' → Mt K Ts H' A' O' (s :: ss') (some v :: vs.map some) → Q v H') ∧
  ∀ x ss' cls od H' A' O', Xd x ss' → Tr A O H A' O' H' → Mt K Ts H' A' O' ss' (vs.map some) → XR K H' A' x cls od → E cls od H'
/-- a reading keeps the promise -/
abbrev MO (r : DS) (n N : Nat) (ph : PhO) : Prop := ∀ (ss : List Sl) (Qd : Sl → List Sl → Prop) (Xd : Xc → List Sl → Prop), ph ss Qd Xd → ss.length = n → r (fun x ρ => Xd x (finS ss ρ)) ⟨fun ρ => Qd (.va .non) (finS ss ρ), fun s ρ => Qd s (finS ss ρ), fun _ => False, fun _ => False⟩ (ss ++ List.replicate (N - n) .no)
theorem Mt.fin {H0 : Hp} {A0 O0 : AP} {ss : List Sl} {vs : List V} {ρ' : List Sl} {σ' : L2.St} (m0 : Mt K Ts H0 A0 O0 ss (vs.map some)) (m : Mt K Ts H A O ρ' σ') : ∃ O', Mt K Ts H A O' (finS ss ρ') (vs.map some) ∧ Tr A O H A O' H := by
  have l0 := m0.len
  refine m.sel (by rw [finS_len]; exact l0) fun k s o e1 e2 => ?_
  rcases finS_at _ _ _ _ e1 with e | ⟨a, C, fs, C', fs', h1, h2, rfl⟩
  · exact .inl e
  · obtain ⟨_, _, _, g1, _⟩ := m0.obj k a C fs (.inl h1)
    obtain ⟨_, _, _, g2, _⟩ := m.obj k a C' fs' (.inl h2)
    rw [g1] at e2
    exact .inr ⟨h2, by rw [g2, e2]⟩
theorem Mt.fin1 {H0 : Hp} {A0 O0 : AP} {ss : List Sl} {vs : List V} {ρ' : List Sl} {σ' : L2.St} {s : Sl} {v : V} (m0 : Mt K Ts H0 A0 O0 ss (vs.map some)) (m : Mt K Ts H A O (s :: ρ') (some v :: σ')) : ∃ O', Mt K Ts H A O' (s :: finS ss ρ') (some v :: vs.map some) ∧ Tr A O H A O' H := by
  have l0 := m0.len
  refine m.sel (by rw [List.length_cons, List.length_cons, finS_len, l0]) fun k s2 o e1 e2 => ?_
  cases k with
  | zero => exact .inr ⟨e1, e2⟩
  | succ k =>
    rw [List.getElem?_cons_succ] at e1 e2
    rcases finS_at _ _ _ _ e1 with e | ⟨a, C, fs, C', fs', h1, h2, rfl⟩
    · exact .inl e
    · obtain ⟨_, _, _, g1, _⟩ := m0.obj k a C fs (.inl h1)
      obtain ⟨_, _, _, g2, _⟩ := m.obj (k + 1) a C' fs' (.inl h2)
      rw [g1] at e2
      rw [List.getElem?_cons_succ] at g2
      exact .inr ⟨h2, by rw [List.getElem?_cons_succ, g2, e2]⟩
/-- slots that are unknown behind the others -/
theorem Mt.ext (m : Mt K Ts H A O ρ σ) (n : Nat) : Mt K Ts H A O (ρ ++ List.replicate n .no) (σ ++ List.replicate n none) := by
  obtain ⟨g, m⟩ := m
  refine ⟨g, m.tab, m.sub, m.trk, by rw [List.length_append, List.length_append, List.length_replicate, List.length_replicate, m.len], fun i s o e1 e2 => ?_, m.nod, m.dis, m.all, fun i hi => m.out i (by rw [List.length_append] at hi; omega)⟩
  by_cases hi : i < ρ.length
  · rw [List.getElem?_append_left hi] at e1
    rw [List.getElem?_append_left (by rw [← m.len]; exact hi)] at e2
    exact m.at_ i s o e1 e2
  · rw [List.getElem?_append_right (by omega)] at e1
    rw [List.eq_of_mem_replicate (List.mem_of_getElem? e1)]
    exact m.out i (by omega)
end
/-- a def keeps its promise -/
theorem fn_obj {P : Program} {w : World} {K : PySem.W.Frag} {Ts : AP} {mg : Str → Option Value} {base : Heap} {xn qual : Str} {params : Arguments} {body : List Stmt} {scope : Scope} {dvs : List V} {kws : List (Str × V)} {c f : Addr} {fd : FuncData} {N ps : List Str} {k n : Nat} {φ : PhO} (F : FunD K xn qual params body scope dvs kws f fd) (hc : fd.code = .ref c) (S : FnScope N ps scope) (hn : ps.length = n)
    (hbody : ∀ (A : Around) (outer : List Env) (s : Shared) (H : Hp) (E : XK), Room k (A.deeper (envOfC qual scope s.heap.objs.size f (.ref c))) → ∃ t : DS, PSs (cxOf (L2.CX P w) P w K mg base N qual scope f (.ref c) A outer s H E) body (upS K Ts (fun cls d _ H => E cls d H) t) ∧ MO t n N.length φ) : FnOk P w K mg base (L2.CX P w) (k + 1) f fd ps (spO K Ts n φ) := by
  refine okC F hc S (fun vs H Q E h => by rw [hn]; exact h.1) fun A outer s H vs Q E hr h => ?_
  obtain ⟨t, hp, ht⟩ := hbody A outer s H E hr
  refine ⟨_, hp, ?_⟩
  obtain ⟨hl, A0, O0, ss, Qd, Xd, m0, h, kq, kx⟩ := h
  have sl : ss.length = n := by have := m0.len; rw [List.length_map] at this; rw [this]; exact hl
  have m : Mt K Ts H A0 O0 (ss ++ List.replicate (N.length - n) .no) (L2.start N vs) := by
    have := m0.ext (N.length - n)
    unfold L2.start
    rw [hl]
    exact this
  refine ⟨A0, O0, _, _, _, m, ht ss Qd Xd h sl, ⟨fun ρ' σ' H' A' O' q t m' => ?_, fun _ _ _ _ _ q => q.elim, fun _ _ _ _ _ q => q.elim, fun s ρ' v σ' H' A' O' q t m' => ?_, fun x ρ' cls od σ' H' A' O' q t m' r' => ?_⟩⟩
  · obtain ⟨O2, m2, t2⟩ := m0.fin1 (m'.consVa (v := .non) (d := .non) (by unfold Rp; rfl))
    exact kq _ _ _ H' A' O2 q (t.trans t2 m0.trk) m2
  · obtain ⟨O2, m2, t2⟩ := m0.fin1 m'
    exact kq _ _ v H' A' O2 q (t.trans t2 m0.trk) m2
  · obtain ⟨O2, m2, t2⟩ := m0.fin m'
    exact kx x _ cls od H' A' O2 q (t.trans t2 m0.trk) m2 r'
end DL

-- part DO4
set_option Elab.async false
set_option linter.all false
set_option maxRecDepth 100000
set_option maxHeartbeats 2000000
/-! calls that lend an object -/
namespace DL
open PySem PySem.Spec PyProof.Rows L2 GxR GS GA GD
section
variable {K : PySem.W.Frag} {Ts A O A' O' : AP} {H H' : Hp} {ρ : List Sl} {σ : L2.St} {g : Nat → List Addr} {i p : Nat} {a : Addr} {C : Str} {fs : List (Str × Fd)} {ds : List D} {vs : List V}
/-- the slots of the arguments: data, the lent thing at p -/
def argS (ds : List D) (p : Nat) (s : Sl) : List Sl := (ds.map Sl.va).set p s
theorem arg_val (r : RpL K H A ds vs) (hp : ds[p]? = some (.xn a)) : vs[p]? = some (V.ref a) := by
  obtain ⟨v, e, q⟩ := r.get' hp
  unfold Rp at q
  rw [e, q]
/-- what the callee is given: the object of slot i, to change -/
theorem MtG.lend (m : MtG K Ts H A O ρ σ g) (es : ρ[i]? = some (.ob a C fs)) (r : RpL K H A ds vs) (hp : ds[p]? = some (.xn a)) : Mt K Ts H A (fun b => b ∈ g i) (argS ds p (.ob a C fs)) (vs.map some) := by
  have hpl : p < ds.length := (List.getElem?_eq_some_iff.mp hp).1
  have hv := arg_val r hp
  refine ⟨fun k => if k = p then g i else [], m.tab, fun b h => m.sub b (m.mine h), m.trk, by unfold argS; rw [List.length_set, List.length_map, List.length_map, r.len], fun k s o e1 e2 => ?_, fun k => ?_, fun j k b h1 h2 => ?_, fun b => ⟨fun h => ⟨p, by rw [if_pos rfl]; exact h⟩, fun ⟨k, h⟩ => ?_⟩, fun k hk => ?_⟩
  · unfold argS at e1
    by_cases hk : k = p
    · subst hk
      rw [List.getElem?_set_self (by rw [List.length_map]; exact hpl)] at e1
      cases e1
      rw [List.getElem?_map, hv] at e2
      cases e2
      rw [if_pos rfl]
      obtain ⟨o, e, v, e3, q⟩ := m.get es
      obtain ⟨dx, ws, R1, e4, q⟩ := q
      exact ⟨_, rfl, dx, ws, R1, rfl, q⟩
    · rw [getElem?_set_ne' (fun z => hk z.symm), List.getElem?_map] at e1
      rw [if_neg hk]
      cases hd : ds[k]? with
      | none => rw [hd] at e1; cases e1
      | some d =>
        rw [hd] at e1
        cases e1
        obtain ⟨v, e3, q⟩ := r.get' hd
        rw [List.getElem?_map, e3] at e2
        cases e2
        exact ⟨v, rfl, rfl, q⟩
  · split
    · exact m.nod i
    · exact List.nodup_nil
  · split at h1
    · split at h2
      · rename_i e1 e2; rw [e1, e2]
      · cases h2
    · cases h1
  · split at h
    · exact h
    · cases h
  · unfold argS at hk
    rw [List.length_set, List.length_map] at hk
    rw [if_neg (by omega)]
/-- .. to look at -/
theorem Mt.lendR (m : Mt K Ts H A O ρ σ) (es : ρ[i]? = some (.ob a C fs) ∨ ρ[i]? = some (.ro a C fs)) (r : RpL K H A ds vs) (hp : ds[p]? = some (.xn a)) : Mt K Ts H A (fun _ => False) (argS ds p (.ro a C fs)) (vs.map some) := by
  have hpl : p < ds.length := (List.getElem?_eq_some_iff.mp hp).1
  have hv := arg_val r hp
  obtain ⟨dx, ws, R, e1, e2, e3⟩ := m.obj i a C fs es
  refine ⟨fun _ => [], m.tab, fun b h => h.elim, m.trk, by unfold argS; rw [List.length_set, List.length_map, List.length_map, r.len], fun k s o e4 e5 => ?_, fun k => List.nodup_nil, fun j k b h1 h2 => (by cases h1), fun b => ⟨fun h => h.elim, fun ⟨k, h⟩ => (by cases h)⟩, fun k hk => rfl⟩
  unfold argS at e4
  by_cases hk : k = p
  · subst hk
    rw [List.getElem?_set_self (by rw [List.length_map]; exact hpl)] at e4
    cases e4
    rw [List.getElem?_map, hv] at e5
    cases e5
    exact ⟨rfl, _, a :: R, rfl, ⟨dx, ws, R, rfl, rfl, e2, e3⟩, fun b _ z => z⟩
  · rw [getElem?_set_ne' (fun z => hk z.symm), List.getElem?_map] at e4
    cases hd : ds[k]? with
    | none => rw [hd] at e4; cases e4
    | some d =>
      rw [hd] at e4
      cases e4
      obtain ⟨v, e6, q⟩ := r.get' hd
      rw [List.getElem?_map, e6] at e5
      cases e5
      exact ⟨v, rfl, rfl, q⟩
def backG (g' g : Nat → List Addr) (i p : Nat) : Nat → List Addr
  | 0 => g' 0
  | k + 1 => if k = i then g' (p + 1) else g k
/-- nothing that is lent -/
def ntl : Sl → Bool
  | .rl _ => false
  | .rd _ => false
  | .ro _ _ _ => false
  | _ => true
theorem SlAt.own_any {s : Sl} {o : Option V} {R : List Addr} (n : ntl s = true) (h : SlAt K H A O s o R) : SlAt K H A O' s o R := by
  unfold SlAt at h ⊢
  cases s with
  | ro a C fs => cases n
  | rl q => cases n
  | rd q => cases n
  | _ => exact h
/-- what the caller has behind it -/
theorem MtG.back (m : MtG K Ts H A O ρ σ g) (es : ρ[i]? = some (.ob a C fs)) {s : Sl} {v : V} {ss' : List Sl} {us : L2.St} (ns : ntl s = true) (nt : ntl (ss'.getD p .no) = true) (t : Tr A (fun b => b ∈ g i) H A' O' H') (m' : Mt K Ts H' A' O' (s :: ss') (some v :: us)) (hu : us[p]? = some (some (V.ref a))) :
    ∃ O2, Mt K Ts H' A' O2 (s :: ρ.set i (ss'.getD p .no)) (some v :: σ) ∧ Tr A O H A' O2 H' := by
  obtain ⟨g', m'⟩ := m'
  have hi : i < ρ.length := (List.getElem?_eq_some_iff.mp es).1
  obtain ⟨dx, ws, R, eσ, _⟩ := Mt.obj ⟨g, m⟩ i a C fs (.inl es)
  have hpu : p < us.length := (List.getElem?_eq_some_iff.mp hu).1
  have hps : p < ss'.length := by have := m'.len; rw [List.length_cons, List.length_cons] at this; omega
  have hOc : ∀ b, O' b → b ∈ g i ∨ H b = none := t.own
  have g'O : ∀ k b, b ∈ g' k → b ∈ g i ∨ H b = none := fun k b h => hOc b (m'.mine h)
  have nO : ∀ {k : Nat} {b : Addr}, k ≠ i → b ∈ g k → ¬ O' b := fun {k b} hk hb z => (hOc b z).elim (fun w => hk (m.dis k i b hb w)) fun w => m.trk b (m.sub b (m.mine hb)) w
  refine ⟨fun b => ∃ k, b ∈ backG g' g i p k, ⟨backG g' g i p, m'.tab, ?_, m'.trk, by rw [List.length_cons, List.length_cons, List.length_set, m.len], fun k x o e1 e2 => ?_, fun k => ?_, fun j k b h1 h2 => ?_, fun b => Iff.rfl, fun k hk => ?_⟩, ⟨⟨fun b u e n tb => t.kp.st b u e (fun z w => n z (m.mine w)) tb, t.kp.tb, t.kp.fr⟩, t.new, fun b hb n => t.old b hb fun w => n (m.mine w), ?_⟩⟩
  · rintro b ⟨k, hk⟩
    cases k with
    | zero => exact m'.sub b (m'.mine hk)
    | succ k =>
      have hk : b ∈ (if k = i then g' (p + 1) else g k) := hk
      split at hk
      · exact m'.sub b (m'.mine hk)
      · rename_i n
        exact t.old b (m.sub b (m.mine hk)) fun w => n (m.dis k i b hk w)
  · cases k with
    | zero =>
      cases e1
      cases e2
      exact (m'.at_ 0 _ _ rfl rfl).own_any ns
    | succ k =>
      rw [List.getElem?_cons_succ] at e1 e2
      show SlAt K H' A' _ x o (if k = i then g' (p + 1) else g k)
      by_cases hk : k = i
      · subst hk
        rw [List.getElem?_set_self hi] at e1
        cases e1
        rw [eσ] at e2
        cases e2
        rw [if_pos rfl]
        have h1 : (s :: ss')[p + 1]? = some (ss'.getD p .no) := by
          rw [List.getElem?_cons_succ, List.getD_eq_getElem?_getD, List.getElem?_eq_getElem hps]
          rfl
        exact (m'.at_ (p + 1) _ _ h1 (by rw [List.getElem?_cons_succ]; exact hu)).own_any nt
      · rw [getElem?_set_ne' (fun z => hk z.symm)] at e1
        rw [if_neg hk]
        refine (m.at_ k x o e1 e2).gen m.sub (fun b u e z tb => t.kp.st b u e (fun w c => (z w).elim (fun n => n (m.mine c)) fun c2 => hk (m.dis k i b c2 c)) tb) (fun b u e _ n z => (t.new b z).elim n fun w => by rw [w] at e; cases e) fun b u e n z => ?_
        obtain ⟨j, hj⟩ := z
        have fin : ∀ q, b ∈ g' q → False := fun q hq => (g'O q b hq).elim (fun w => n (m.mine w)) fun w => by rw [w] at e; cases e
        cases j with
        | zero => exact fin 0 hj
        | succ j =>
          have hj : b ∈ (if j = i then g' (p + 1) else g j) := hj
          split at hj
          · exact fin _ hj
          · exact n (m.mine hj)
  · cases k with
    | zero => exact m'.nod 0
    | succ k =>
      show (if k = i then g' (p + 1) else g k).Nodup
      split
      · exact m'.nod _
      · exact m.nod k
  · have key : ∀ {j k : Nat}, b ∈ (if j = i then g' (p + 1) else g j) → b ∈ (if k = i then g' (p + 1) else g k) → j = k := fun {j k} h1 h2 => by
      by_cases hj : j = i
      · rw [if_pos hj] at h1
        by_cases hk : k = i
        · rw [hj, hk]
        · rw [if_neg hk] at h2
          exact absurd (m'.mine h1) (nO hk h2)
      · rw [if_neg hj] at h1
        by_cases hk : k = i
        · rw [if_pos hk] at h2
          exact absurd (m'.mine h2) (nO hj h1)
        · rw [if_neg hk] at h2
          exact m.dis j k b h1 h2
    have key0 : ∀ {k : Nat}, b ∈ g' 0 → b ∈ (if k = i then g' (p + 1) else g k) → False := fun {k} h1 h2 => by
      by_cases hk : k = i
      · rw [if_pos hk] at h2
        exact absurd (m'.dis 0 (p + 1) b h1 h2) (by omega)
      · rw [if_neg hk] at h2
        exact nO hk h2 (m'.mine h1)
    cases j with
    | zero =>
      cases k with
      | zero => rfl
      | succ k => exact (key0 h1 h2).elim
    | succ j =>
      cases k with
      | zero => exact (key0 h2 h1).elim
      | succ k => rw [key h1 h2]
  · cases k with
    | zero => rw [List.length_cons] at hk; omega
    | succ k =>
      rw [List.length_cons, List.length_set] at hk
      show (if k = i then g' (p + 1) else g k) = []
      rw [if_neg (by omega)]
      exact m.out k (by omega)
  · rintro b ⟨k, hk⟩
    have fin : ∀ q, b ∈ g' q → O b ∨ H b = none := fun q hq => (g'O q b hq).imp (fun w => m.mine w) id
    cases k with
    | zero => exact fin 0 hk
    | succ k =>
      have hk : b ∈ (if k = i then g' (p + 1) else g k) := hk
      split at hk
      · exact fin _ hk
      · exact .inl (m.mine hk)
/-- .. where an exception came out -/
theorem MtG.backX (m : MtG K Ts H A O ρ σ g) (es : ρ[i]? = some (.ob a C fs)) {ss' : List Sl} {us : L2.St} (nt : ntl (ss'.getD p .no) = true) (t : Tr A (fun b => b ∈ g i) H A' O' H') (m' : Mt K Ts H' A' O' ss' us) (hu : us[p]? = some (some (V.ref a))) :
    ∃ O2, Mt K Ts H' A' O2 (ρ.set i (ss'.getD p .no)) σ ∧ Tr A O H A' O2 H' := by
  obtain ⟨O2, m2, t2⟩ := m.back (s := .va .non) (v := .non) es rfl nt t (m'.consVa (by unfold Rp; rfl)) hu
  obtain ⟨O3, m3, t3⟩ := m2.uncons
  exact ⟨O3, m3, t2.trans t3 (Mt.trk ⟨g, m⟩)⟩
end
end DL

-- part DO5
set_option Elab.async false
set_option linter.all false
set_option maxRecDepth 100000
set_option maxHeartbeats 2000000
/-! calls that lend an object: the rules -/
namespace DL
open PySem PySem.Spec PyProof.Rows L2 GxR GS GA GD
def lendK (s : Sl) (Q : Addr → Prop) : Prop := match s with
  | .ob a _ _ => Q a
  | .ro a _ _ => Q a
  | _ => False
theorem lendK_ob {a : Addr} {C : Str} {fs : List (Str × Fd)} {Q : Addr → Prop} : lendK (.ob a C fs) Q = Q a := rfl
theorem lendK_ro {a : Addr} {C : Str} {fs : List (Str × Fd)} {Q : Addr → Prop} : lendK (.ro a C fs) Q = Q a := rfl
/-- an object's name, lent -/
def dLend (i : Nat) : DE := fun _ ρ Q => lendK (sl ρ i) fun a => Q (.xn a) .sh ρ
theorem dLend_ev {i : Nat} {X : XF} {ρ : List Sl} {Q : D → Kd → List Sl → Prop} : dLend i X ρ Q = lendK (sl ρ i) (kk fun a => Q (.xn a) .sh ρ) := rfl
/-- its class is C, it has no attribute m -/
def obNm (s : Sl) (C m : Str) : Prop := match s with
  | .ob _ C' fs => C' = C ∧ m ∉ fs.map (·.1)
  | .ro _ C' fs => C' = C ∧ m ∉ fs.map (·.1)
  | _ => False
theorem obNm.get {s : Sl} {C m : Str} (h : obNm s C m) : ∃ a fs, (s = .ob a C fs ∨ s = .ro a C fs) ∧ m ∉ fs.map (·.1) := by
  unfold obNm at h
  split at h
  · obtain ⟨rfl, h⟩ := h; exact ⟨_, _, .inl rfl, h⟩
  · obtain ⟨rfl, h⟩ := h; exact ⟨_, _, .inr rfl, h⟩
  · exact h.elim
def obW (s : Sl) (Q : Addr → Str → List (Str × Fd) → Prop) : Prop := match s with
  | .ob a C fs => Q a C fs
  | _ => False
def obR (s : Sl) (Q : Addr → Str → List (Str × Fd) → Prop) : Prop := match s with
  | .ob a C fs => Q a C fs
  | .ro a C fs => Q a C fs
  | _ => False
theorem obW.get {s : Sl} {Q : Addr → Str → List (Str × Fd) → Prop} (h : obW s Q) : ∃ a C fs, s = .ob a C fs ∧ Q a C fs := by
  unfold obW at h
  split at h
  · exact ⟨_, _, _, rfl, h⟩
  · exact h.elim
theorem obR.get {s : Sl} {Q : Addr → Str → List (Str × Fd) → Prop} (h : obR s Q) : ∃ a C fs, (s = .ob a C fs ∨ s = .ro a C fs) ∧ Q a C fs := by
  unfold obR at h
  split at h
  · exact ⟨_, _, _, .inl rfl, h⟩
  · exact ⟨_, _, _, .inr rfl, h⟩
  · exact h.elim
/-- what is given, as a value -/
def resK (s : Sl) (Q : D → Kd → Prop) : Prop := match s with
  | .va d => Q d .sh
  | .ow ds => Q (.lst ds) .fr
  | .od kvs => Q (slD (.od kvs)) .sh
  | .ob a C fs => slFr (.ob a C fs) = true ∧ Q (slD (.ob a C fs)) .sh
  | _ => False
section
variable {X : Cx} {Ts : AP} {W : WX} {σ : L2.St} {H : Hp} {A O : AP} {ρ : List Sl} {Xf : XF} {Q : VK} {ds : List D} {vs : List V} {i p n : Nat} {φ : PhO} {a : Addr} {C : Str} {fs : List (Str × Fd)}
theorem up_lendX {Qd : Sl → List Sl → Prop} (m : Mt X.K Ts H A O ρ σ) (r : RpL X.K H A ds vs) (hn : vs.length = n) (es : ρ[i]? = some (.ob a C fs)) (hp : ds[p]? = some (.xn a)) (c : CnX X.K Ts W σ H A O Xf Qd Q)
    (h : φ (argS ds p (.ob a C fs)) (fun s ss' => ntl s = true ∧ ntl (ss'.getD p .no) = true ∧ Qd s (ρ.set i (ss'.getD p .no))) fun x ss' => ntl (ss'.getD p .no) = true ∧ Xf x (ρ.set i (ss'.getD p .no))) : spO X.K Ts n φ vs H Q (WE W σ) := by
  obtain ⟨g, m⟩ := m
  have hu : (vs.map some)[p]? = some (some (V.ref a)) := by rw [List.getElem?_map, arg_val r hp]; rfl
  refine ⟨hn, A, _, _, _, _, m.lend es r hp, h, fun s ss' v H' A' O' q t m' => ?_, fun x ss' cls od H' A' O' q t m' rx => ?_⟩
  · obtain ⟨O2, m2, t2⟩ := m.back es q.1 q.2.1 t m' hu
    exact c.q _ _ v H' A' O2 q.2.2 t2 m2
  · obtain ⟨O2, m2, t2⟩ := m.backX es q.1 t m' hu
    exact c.x x _ cls od H' A' O2 q.2 t2 m2 rx
theorem up_lendR {Qd : D → Kd → List Sl → Prop} (m : Mt X.K Ts H A O ρ σ) (r : RpL X.K H A ds vs) (hn : vs.length = n) (es : ρ[i]? = some (.ob a C fs) ∨ ρ[i]? = some (.ro a C fs)) (hp : ds[p]? = some (.xn a)) (c : Cn X.K Ts W σ H A O Xf Qd Q)
    (h : φ (argS ds p (.ro a C fs)) (fun s _ => resK s fun d κ => Qd d κ ρ) fun x _ => Xf x ρ) : spO X.K Ts n φ vs H Q (WE W σ) := by
  refine ⟨hn, A, _, _, _, _, m.lendR es r hp, h, fun s ss' v H' A' O' q t m' => ?_, fun x ss' cls od H' A' O' q t m' rx => ?_⟩
  · have sm : Sm H H' := t.kp.sm
    have old : ∀ b, A b → A' b := fun b hb => t.old b hb fun z => z
    have frz : slFr s = true → ∃ A2, (∀ b, A b → A2 b) ∧ Rp X.K H' A2 (slD s) v := fun hf => by
      obtain ⟨A2, O2, m2, r2, t2, _⟩ := m'.frz0 hf
      exact ⟨A2, fun b hb => t2.old b (old b hb) fun z => (t.own b z).elim id fun w => m.trk b hb w, r2⟩
    unfold resK at q
    split at q
    · obtain ⟨A2, n2, r2⟩ := frz rfl
      exact c.sh m sm q (r2.less n2)
    · obtain ⟨g', m'⟩ := m'
      obtain ⟨v2, e, p2, us, e2, e3, e4, r4⟩ := m'.at_ 0 _ _ rfl rfl
      cases e
      subst e2
      have pO : O' p2 := m'.mine (i := 0) (by rw [e3]; exact List.mem_singleton.mpr rfl)
      have hp2 : H p2 = none := (t.own p2 pO).elim (fun z => z.elim) id
      have n2 : ∀ b, A b ∨ b = p2 → A' b := fun b z => z.elim (old b) fun w => by rw [w]; exact m'.sub p2 pO
      exact c.q _ .fr ρ _ H' A O q sm (Tr.of sm) (m.sm sm) ⟨trivial, p2, rfl, hp2, fun z => m.trk p2 z hp2, m.fr hp2 sm e4 (r4.less n2)⟩
    · obtain ⟨A2, n2, r2⟩ := frz rfl
      exact c.sh m sm q (r2.less n2)
    · obtain ⟨A2, n2, r2⟩ := frz q.1
      exact c.sh m sm q.2 (r2.less n2)
    · exact q.elim
  · have sm : Sm H H' := t.kp.sm
    exact c.x x ρ cls od H' A O q (Tr.of sm) (m.sm sm) (rx.less fun b hb => t.old b hb fun z => z)
end
section
variable {X : Cx} {Ts : AP} {W : WX} {k n j p : Nat} {f : Addr} {fd : FuncData} {ps : List Str} {φ : PhO} {x y : Str} {pos apos npos : Pos} {e o : Expr} {es : List Expr} {ta : DA} {C m : Str} {g : Addr}
theorem de_lend (hN : X.N[j]? = some x) (hv : Vis X.env.scope x) (hd : (x == ("__debug__" : Str)) = false := by decide) (hcd : (x == ("__classdict__" : Str)) = false := by decide) : PE X (.Name x pos) (upE X.K Ts W (dLend j)) := by
  refine (pe_var hN hv hd hcd).imp fun σ H Q h => ?_
  obtain ⟨A, O, ρ, Xf, Qd, mm, h, c⟩ := h
  unfold dLend lendK at h
  split at h
  · rename_i a C fs e
    obtain ⟨_, _, _, e1, _⟩ := mm.obj j a C fs (.inl (sl_get e (by simp)))
    exact ⟨_, e1, c.flat mm h (by unfold Rp; rfl)⟩
  · rename_i a C fs e
    obtain ⟨_, _, _, e1, _⟩ := mm.obj j a C fs (.inr (sl_get e (by simp)))
    exact ⟨_, e1, c.flat mm h (by unfold Rp; rfl)⟩
  · exact h.elim
/-- y.m(e, ..), y an object that the method may change -/
def dMethX (C m : Str) (n : Nat) (φ : PhO) (j : Nat) (ta : DA) : DX := fun X ρ Q => obNm (sl ρ j) C m ∧ ta X ρ fun ds ρ1 => ds.length = n ∧ obWr (sl ρ1 j) C fun a fs =>
  φ (.ob a C fs :: ds.map .va) (fun s ss' => ntl s = true ∧ ntl (ss'.getD 0 .no) = true ∧ Q s (ρ1.set j (ss'.getD 0 .no))) fun x ss' => ntl (ss'.getD 0 .no) = true ∧ X x (ρ1.set j (ss'.getD 0 .no))
/-- .. that the method looks at -/
def dMethR (C m : Str) (n : Nat) (φ : PhO) (j : Nat) (ta : DA) : DE := fun X ρ Q => obNm (sl ρ j) C m ∧ ta X ρ fun ds ρ1 => ds.length = n ∧ obR (sl ρ1 j) fun a C' fs => C' = C ∧
  φ (.ro a C fs :: ds.map .va) (fun s _ => resK s fun d κ => Q d κ ρ1) fun x _ => X x ρ1
theorem pe_methS0 {pl : Sem Bool} {C g : Addr} {sp : Sp} {E : L2.St → XK} {CX : CXT} {to : TE} (he : PE X o to) (c : Cls X.K C) (hm : Meth X.K C m g) (F : FnOk X.prog X.w X.K X.mg X.base CX k g fd ps sp) (hr : Room k X.A) (hb : Binds X.K fd ps []) (hx : ∀ σ, PassesAt CX X σ (E σ))
    (ht : eval (.Call (.Attribute o m apos) [] [] pos) X.env = (do
      let u ← eval o X.env
      standAt apos.atName
      let (q, first) ← holding [u] (getMethod u m pl)
      callWith pos q first (backTo pos (starEach [] X.env)) (backToKw pos (keywordEach [] X.env))) := by rfl) :
    PE X (.Call (.Attribute o m apos) [] [] pos) (fun σ H Q => to σ H fun x H1 => ∃ a dx fs, x = .ref a ∧ H1 a = some (.ins C dx fs) ∧ fs.lookup m = none ∧ sp [x] H1 Q (E σ)) := by
  refine ⟨fun pins s σ H Q I h => ?_⟩
  refine PySem.W.methodCall_KW (pl := pl) (thn (he.run pins s σ H _ I h) fun u s1 ⟨x, H1, I1, rx, a, dx, fs, ex, ea, l, q⟩ => ?_) ht
  subst ex
  obtain rfl : u = Value.ref a := rx
  refine getmeth_ok I1 ea c hm l ?_
  exact PySem.W.callWith_K0 (first := [.ref a]) I1.kIn hm.kp (run_fnS (us := [.ref a]) (vs := [.ref a]) F hr hb (hx σ) I1 (.cons rfl .nil) q)
theorem look_obj {K : PySem.W.Frag} {H : Hp} {A : AP} {fs : List (Str × Fd)} {ws : List (Str × V)} {R : List Addr} (h : FsAt K H A fs ws R) (n : m ∉ fs.map (·.1)) : ws.lookup m = none := look_none (by rw [h.names]; exact n)
section
variable (hN : X.N[j]? = some y) (hv : Vis X.env.scope y) (c : Cls X.K (He.ga X.K C)) (hm : Meth X.K (He.ga X.K C) m g) (F : FnOk X.prog X.w X.K X.mg X.base (L2.CX X.prog X.w) k g fd ps (spO X.K Ts (n + 1) φ)) (hr : Room k X.A) (hb : Binds X.K fd ps []) (hx : Ps X W)
include hN hv c hm F hr hb hx
theorem dx_meth {pl : Sem Bool} (ha : PA X (e :: es) (upA X.K Ts W ta)) (hd : (y == ("__debug__" : Str)) = false := by decide) (hcd : (y == ("__classdict__" : Str)) = false := by decide)
    (hst : starEach (e :: es) X.env = (false, eval e X.env) :: starEach es X.env := by rfl) (hpl : (backTo pos (starEach es X.env)).any (·.1) = false := by rfl)
    (ht : eval (.Call (.Attribute (.Name y npos) m apos) (e :: es) [] pos) X.env = (do
      let u ← eval (.Name y npos) X.env
      standAt apos.atName
      let (q, first) ← holding [u] (getMethod u m pl)
      callWith pos q first (backTo pos (starEach (e :: es) X.env)) (backToKw pos (keywordEach [] X.env))) := by rfl) :
    PE X (.Call (.Attribute (.Name y npos) m apos) (e :: es) [] pos) (upX X.K Ts W (dMethX C m n φ j ta)) := by
  refine (pe_methS (pl := pl) (pe_var hN hv hd hcd) c hm F hr hb hx ha hst hpl ht).imp fun σ H Q h => ?_
  obtain ⟨A, O, ρ, Xf, Qd, mm, ⟨h0, h⟩, cn⟩ := h
  obtain ⟨a0, fs0, es0, nm⟩ := h0.get
  have es0 : ρ[j]? = some (.ob a0 C fs0) ∨ ρ[j]? = some (.ro a0 C fs0) := es0.imp (fun z => sl_get z (by simp)) fun z => sl_get z (by simp)
  obtain ⟨dx, ws, R, e1, e2, e3⟩ := mm.obj j a0 C fs0 es0
  refine ⟨_, e1, a0, dx, ws, rfl, e2, look_obj e3 nm, A, O, ρ, Xf, _, mm, h, fun ds ρ1 vs H1 A1 O1 h1 s1 t1 m1 r1 => ?_, fun x ρ' cls od H' A' O' => cn.x x ρ' cls od H' A' O'⟩
  obtain ⟨hl, h1⟩ := h1
  obtain ⟨a, fs, ea, h1⟩ := obWr.get h1
  have ea := sl_get ea (by simp)
  obtain ⟨_, _, _, e4, _⟩ := m1.obj j a C fs (.inl ea)
  rw [e1] at e4
  cases e4
  exact up_lendX (p := 0) (ds := .xn a0 :: ds) m1 (RpL.cons (by unfold Rp; rfl) r1) (by rw [List.length_cons, ← r1.len, hl]) ea rfl (cn.move t1 mm) h1
theorem de_methR {pl : Sem Bool} (ha : PA X (e :: es) (upA X.K Ts W ta)) (hd : (y == ("__debug__" : Str)) = false := by decide) (hcd : (y == ("__classdict__" : Str)) = false := by decide)
    (hst : starEach (e :: es) X.env = (false, eval e X.env) :: starEach es X.env := by rfl) (hpl : (backTo pos (starEach es X.env)).any (·.1) = false := by rfl)
    (ht : eval (.Call (.Attribute (.Name y npos) m apos) (e :: es) [] pos) X.env = (do
      let u ← eval (.Name y npos) X.env
      standAt apos.atName
      let (q, first) ← holding [u] (getMethod u m pl)
      callWith pos q first (backTo pos (starEach (e :: es) X.env)) (backToKw pos (keywordEach [] X.env))) := by rfl) :
    PE X (.Call (.Attribute (.Name y npos) m apos) (e :: es) [] pos) (upE X.K Ts W (dMethR C m n φ j ta)) := by
  refine (pe_methS (pl := pl) (pe_var hN hv hd hcd) c hm F hr hb hx ha hst hpl ht).imp fun σ H Q h => ?_
  obtain ⟨A, O, ρ, Xf, Qd, mm, ⟨h0, h⟩, cn⟩ := h
  obtain ⟨a0, fs0, es0, nm⟩ := h0.get
  have es0 : ρ[j]? = some (.ob a0 C fs0) ∨ ρ[j]? = some (.ro a0 C fs0) := es0.imp (fun z => sl_get z (by simp)) fun z => sl_get z (by simp)
  obtain ⟨dx, ws, R, e1, e2, e3⟩ := mm.obj j a0 C fs0 es0
  refine ⟨_, e1, a0, dx, ws, rfl, e2, look_obj e3 nm, A, O, ρ, Xf, _, mm, h, fun ds ρ1 vs H1 A1 O1 h1 s1 t1 m1 r1 => ?_, fun x ρ' cls od H' A' O' => cn.x x ρ' cls od H' A' O'⟩
  obtain ⟨hl, h1⟩ := h1
  obtain ⟨a, C', fs, ea, ec, h1⟩ := obR.get h1
  subst ec
  have ea : ρ1[j]? = some (.ob a C' fs) ∨ ρ1[j]? = some (.ro a C' fs) := ea.imp (fun z => sl_get z (by simp)) fun z => sl_get z (by simp)
  obtain ⟨_, _, _, e4, _⟩ := m1.obj j a C' fs ea
  rw [e1] at e4
  cases e4
  exact up_lendR (p := 0) (ds := .xn a0 :: ds) m1 (RpL.cons (by unfold Rp; rfl) r1) (by rw [List.length_cons, ← r1.len, hl]) ea rfl (cn.move s1 t1 mm) h1
end
end
end DL

-- part DO6
set_option Elab.async false
set_option linter.all false
set_option maxRecDepth 100000
set_option maxHeartbeats 2000000
/-! a class made, a method called with keywords, where exceptions are told by the slots -/
namespace DL
open PySem PySem.Spec PyProof.Rows L2 GxR GS GA GD
theorem run_makeS {X : Cx} {CX : CXT} {k : Nat} {f C : Addr} {fd : FuncData} {ps : List Str} {sp : Sp} {E : XK} {pins : List (Addr × Obj)} {σ : L2.St} {H : Hp} {s : Shared} {Q : VK} {us : List Value} {vs : List V} (M : Mk X.K C f) (F : FnOk X.prog X.w X.K X.mg X.base CX k f fd ps sp) (hr : Room (k + 1) X.A) (hb : Binds X.K fd ps []) (hx : PassesAt CX X σ E) (I : Inv X pins σ H s) (r : Vals vs us)
    (h : ∀ x dx, H x = none → H dx = none → dx ≠ x → sp (.ref x :: vs) (upd (upd H dx (.own x)) x (.ins C dx [])) (fun v H2 => v = .non ∧ Q (.ref x) H2) E) : wpAny (model X.prog X.w) X.A (call (.ref C) us) (EP X pins σ Q) X.xe s := by
  have hq := h (s.heap.objs.size + 1) s.heap.objs.size (HOk.fresh I.hok (Nat.le_succ _)) (HOk.fresh I.hok (Nat.le_refl _)) (Nat.ne_of_lt (Nat.lt_succ_self _))
  have I2 := Inv.made (C := C) I
  have r2 : Vals (V.ref (s.heap.objs.size + 1) :: vs) (Value.ref (s.heap.objs.size + 1) :: us) := Paired.cons rfl r
  have hl : (Value.ref (s.heap.objs.size + 1) :: us).length = ps.length := by rw [← r2.length]; exact F.len _ _ _ _ hq
  have b := hb _ (Value.ref (s.heap.objs.size + 1) :: us) I2.kIn (by rw [List.append_nil]; exact hl)
  rw [List.append_nil] at b
  refine wpAny_call (make_map I.kIn M.makes M.init (beq_iff_eq.mp M.fn) (codeAny_mono (F.run (X.A.under (.builtin "type.__call__" { pos := .ref C :: us })) X.stack _ _ { pos := .ref (s.heap.objs.size + 1) :: us } _ _ _ E (Room.make hr C us []) (Env0.make I2.env0 C us []) b r2 hq) fun r s' hq' => ?_))
  cases r with
  | error e => exact hx pins _ _ e s' I2 hq'
  | ok fl =>
    cases fl with
    | ret u =>
      obtain ⟨v, H', I3, rv, ev, q3⟩ := Inv.after I2 hq'
      subst ev
      exact ⟨rv, .ref (s.heap.objs.size + 1), H', I3, rfl, q3⟩
    | _ => exact hq'.elim
theorem run_fnKS {X : Cx} {CX : CXT} {k n : Nat} {f : Addr} {fd : FuncData} {ps ks : List Str} {sp : Sp} {E : XK} {pins : List (Addr × Obj)} {σ : L2.St} {H : Hp} {s : Shared} {Q : VK} {us ws : List Value} {vs zs : List V} {g : List Value → List Value → List Value} {gV : List V → List V → List V} (F : FnOk X.prog X.w X.K X.mg X.base CX k f fd ps sp) (hr : Room k X.A) (hb : KBn X.K fd ps n ks g gV) (hx : PassesAt CX X σ E) (I : Inv X pins σ H s) (r : Vals vs us) (r2 : Vals zs ws) (hn : us.length = n) (hk : ws.length = ks.length)
    (h : sp (gV vs zs) H Q E) : wpAny (model X.prog X.w) X.A (call (.ref f) us (ks.zip ws)) (EP X pins σ Q) X.xe s := by
  have b := hb.to s us ws I.kIn hn hk
  refine wpAny_call (codeAny_mono (F.run X.A X.stack s H { pos := us, kw := ks.zip ws } _ _ Q E hr I.env0 b (hb.rel r r2) h) fun r s' hq => ?_)
  cases r with
  | error e => exact hx pins H s e s' I hq
  | ok fl =>
    cases fl with
    | ret u =>
      obtain ⟨v, H', I3, rv, q3⟩ := Inv.after I hq
      exact ⟨v, H', I3, rv, q3⟩
    | _ => exact hq.elim
theorem pe_makeS {X : Cx} {CX : CXT} {k : Nat} {f C : Addr} {fd : FuncData} {ps : List Str} {sp : Sp} {E : L2.St → XK} {x : Str} {p pos : Pos} {e : Expr} {es : List Expr} {t : TA} (M : Mk X.K C f) (F : FnOk X.prog X.w X.K X.mg X.base CX k f fd ps sp) (hr : Room (k + 1) X.A) (hg : Gl X x) (hm : X.mg x = some (.ref C)) (hb : Binds X.K fd ps []) (hx : ∀ σ, PassesAt CX X σ (E σ)) (ha : PA X (e :: es) t) (hdb : (x == ("__debug__" : Str)) = false := by decide)
    (he : starEach (e :: es) X.env = (false, eval e X.env) :: starEach es X.env := by rfl) (hpl : (backTo pos (starEach es X.env)).any (·.1) = false := by rfl) :
    PE X (.Call (.Name x p) (e :: es) [] pos) (fun σ H Q => t σ H fun vs H1 => ∀ x dx, H1 x = none → H1 dx = none → dx ≠ x → sp (.ref x :: vs) (upd (upd H1 dx (.own x)) x (.ins C dx [])) (fun v H2 => v = .non ∧ Q (.ref x) H2) (E σ)) := by
  refine ⟨fun pins s σ H Q I h => wpAny_Call_Name_kw (ld_glob I hg hm ?_ hdb)⟩
  refine PySem.W.callWith_K (first := []) (h₀ := X.base) I.ok.mod.kin M.kp (thn (ha.run pos pins s σ H _ I h) fun us s2 ⟨vs, H2, I2, r, q2⟩ => ⟨I2.kIn, ?_⟩) he hpl
  exact run_makeS M F hr hb (hx σ) I2 r q2
theorem pe_methKS {X : Cx} {CX : CXT} {k n : Nat} {fd : FuncData} {ps ks : List Str} {sp : Sp} {C g : Addr} {m : Str} {E : L2.St → XK} {pl : Sem Bool} {pos apos : Pos} {o e : Expr} {es : List Expr} {kws : List Keyword} {to : TE} {t tk : TA} {gv : List Value → List Value → List Value} {gV : List V → List V → List V} (he : PE X o to) (c : Cls X.K C) (hm : Meth X.K C m g) (F : FnOk X.prog X.w X.K X.mg X.base CX k g fd ps sp) (hr : Room k X.A) (hb : KBn X.K fd ps (n + 1) ks gv gV) (hx : ∀ σ, PassesAt CX X σ (E σ)) (ha : PA X (e :: es) t) (hk : PK X kws tk)
    (hall : (backToKw pos (keywordEach kws X.env)).all (·.1.isSome) = true := by rfl) (hks : (backToKw pos (keywordEach kws X.env)).filterMap (·.1) = ks := by rfl)
    (hst : starEach (e :: es) X.env = (false, eval e X.env) :: starEach es X.env := by rfl) (hpl : ((backTo pos (starEach (e :: es) X.env)).any (·.1) || (backToKw pos (keywordEach kws X.env)).any (·.1.isNone)) = false := by rfl)
    (ht : eval (.Call (.Attribute o m apos) (e :: es) kws pos) X.env = (do
      let ov ← eval o X.env
      standAt apos.atName
      let (f, first) ← holding [ov] (getMethod ov m pl)
      callWith pos f first (backTo pos (starEach (e :: es) X.env)) (backToKw pos (keywordEach kws X.env))) := by rfl) :
    PE X (.Call (.Attribute o m apos) (e :: es) kws pos) (fun σ H Q => to σ H fun x H1 => ∃ a dx fs, x = .ref a ∧ H1 a = some (.ins C dx fs) ∧ fs.lookup m = none ∧ t σ H1 fun vs H2 => vs.length = n ∧ tk σ H2 fun zs H3 => zs.length = ks.length ∧ sp (gV (x :: vs) zs) H3 Q (E σ)) := by
  refine ⟨fun pins s σ H Q I h => ?_⟩
  refine PySem.W.methodCall_KW (pl := pl) (thn (he.run pins s σ H _ I h) fun u s1 ⟨x, H1, I1, rx, a, dx, fs, ex, ea, l, q⟩ => ?_) ht
  subst ex
  obtain rfl : u = Value.ref a := rx
  refine getmeth_ok I1 ea c hm l ?_
  refine PySem.W.callWith_KW (first := [.ref a]) (h₀ := X.base) I.ok.mod.kin hm.kp hall (thn (ha.run pos pins s1 σ H1 _ I1 q) fun us s2 ⟨vs, H2, I2, r, hn, q2⟩ => ?_) hpl hst
  refine thn (hk.run pos pins s2 σ H2 _ I2 q2) fun ws s3 ⟨zs, H3, I3, r3, hl, q3⟩ => ⟨I3.kIn, ?_⟩
  rw [hks]
  exact run_fnKS (us := .ref a :: us) (vs := .ref a :: vs) F hr hb (hx σ) I3 (.cons rfl r) r3 (by rw [List.length_cons, ← r.length, hn]) (by rw [← r3.length, hl]) q3
end DL

-- part DO7
set_option Elab.async false
set_option linter.all false
set_option maxRecDepth 100000
set_option maxHeartbeats 2000000
/-! calls that lend an object, methods with keywords or without arguments, properties, objects made -/
namespace DL
open PySem PySem.Spec PyProof.Rows L2 GxR GS GA GD
section
variable {K : PySem.W.Frag} {Ts A O A' O' : AP} {H H' : Hp} {ρ : List Sl} {σ : L2.St}
/-- a new object, kept apart, as a slot in front -/
theorem Mt.frO {x dx : Addr} {C : Str} (m : Mt K Ts H A O ρ σ) (hp : H x = none) (s : Sm H H') (h' : H' x = some (.ins (He.ga K C) dx [])) : Mt K Ts H' (fun b => A b ∨ b = x) (fun b => O b ∨ b = x) (Sl.ob x C [] :: ρ) (some (V.ref x) :: σ) := by
  obtain ⟨g, m⟩ := m
  have np : ∀ j, x ∉ g j := fun j z => m.trk x (m.sub x (m.mine z)) hp
  refine ⟨consG [x] g, fun P h => s.tb P (m.tab P h), fun b h => h.imp (m.sub b) id, fun b h z => h.elim (fun q => m.trk b q (s.fr b z)) fun q => (by subst q; rw [h'] at z; cases z), by rw [List.length_cons, List.length_cons, m.len], fun j x y e1 e2 => ?_, fun j => ?_, fun j k b h1 h2 => ?_, fun b => ?_, fun j hj => ?_⟩
  · cases j with
    | zero => cases e1; cases e2; exact ⟨_, rfl, dx, [], [], rfl, rfl, h', rfl, rfl⟩
    | succ j => exact (m.at_ j x y e1 e2).gen m.sub (fun b u e _ n => s.st b u e n) (fun b u e _ z q => q.elim z fun w => by rw [w, hp] at e; cases e) fun b u e z q => q.elim z fun w => by rw [w, hp] at e; cases e
  · cases j with
    | zero => show [x].Nodup; simp
    | succ j => exact m.nod j
  · cases j with
    | zero =>
      cases k with
      | zero => rfl
      | succ k => rw [List.mem_singleton.mp h1] at h2; exact absurd h2 (np k)
    | succ j =>
      cases k with
      | zero => rw [List.mem_singleton.mp h2] at h1; exact absurd h1 (np j)
      | succ k => rw [m.dis j k b h1 h2]
  · constructor
    · rintro (h | h)
      · obtain ⟨j, hj⟩ := (m.all b).mp h
        exact ⟨j + 1, hj⟩
      · exact ⟨0, by rw [h]; exact List.mem_singleton.mpr rfl⟩
    · rintro ⟨j, hj⟩
      cases j with
      | zero => exact .inr (List.mem_singleton.mp hj)
      | succ j => exact .inl (m.mine hj)
  · cases j with
    | zero => exact absurd hj (by rw [List.length_cons]; omega)
    | succ j => exact m.out j (by rw [List.length_cons] at hj; omega)
end
section
variable {X : Cx} {Ts : AP} {W : WX} {k n j p : Nat} {f : Addr} {fd : FuncData} {ps : List Str} {φ : PhO} {x y : Str} {pos apos npos p1 : Pos} {e o : Expr} {es : List Expr} {ta tk : DA} {C m : Str} {g : Addr}
/-! ### calls -/
/-- x(.., y, ..), y an object that the def may change -/
def dCallX (n : Nat) (φ : PhO) (j p : Nat) (ta : DA) : DX := fun X ρ Q => ta X ρ fun ds ρ1 => ds.length = n ∧ obW (sl ρ1 j) fun a C fs => ds[p]? = some (.xn a) ∧
  φ (argS ds p (.ob a C fs)) (fun s ss' => ntl s = true ∧ ntl (ss'.getD p .no) = true ∧ Q s (ρ1.set j (ss'.getD p .no))) fun x ss' => ntl (ss'.getD p .no) = true ∧ X x (ρ1.set j (ss'.getD p .no))
/-- .. that the def looks at -/
def dCallR (n : Nat) (φ : PhO) (j p : Nat) (ta : DA) : DE := fun X ρ Q => ta X ρ fun ds ρ1 => ds.length = n ∧ obR (sl ρ1 j) fun a C fs => ds[p]? = some (.xn a) ∧
  φ (argS ds p (.ro a C fs)) (fun s _ => resK s fun d κ => Q d κ ρ1) fun x _ => X x ρ1
section
variable (F : FnOk X.prog X.w X.K X.mg X.base (L2.CX X.prog X.w) k f fd ps (spO X.K Ts n φ)) (hr : Room k X.A) (hg : Gl X x) (hm : X.mg x = some (.ref f)) (hk : PySem.W.keepIn X.K (.ref f) = true) (hb : Binds X.K fd ps []) (hx : Ps X W) (ha : PA X (e :: es) (upA X.K Ts W ta))
include F hr hg hm hk hb hx ha
theorem dx_call (hdb : (x == ("__debug__" : Str)) = false := by decide) (he : starEach (e :: es) X.env = (false, eval e X.env) :: starEach es X.env := by rfl) (hpl : (backTo pos (starEach es X.env)).any (·.1) = false := by rfl) :
    PE X (.Call (.Name x p1) (e :: es) [] pos) (upX X.K Ts W (dCallX n φ j p ta)) := by
  refine (pe_callS F hr hg hm hk hb hx ha hdb he hpl).imp fun σ H Q h => ?_
  obtain ⟨A, O, ρ, Xf, Qd, m, h, c⟩ := h
  refine ⟨A, O, ρ, Xf, _, m, h, fun ds ρ1 vs H1 A1 O1 h1 s1 t1 m1 r1 => ?_, c.x⟩
  obtain ⟨hl, h1⟩ := h1
  obtain ⟨a, C, fs, ea, h1⟩ := obW.get h1
  exact up_lendX m1 r1 (by rw [← r1.len]; exact hl) (sl_get ea (by simp)) h1.1 (c.move t1 m) h1.2
theorem de_callR (hdb : (x == ("__debug__" : Str)) = false := by decide) (he : starEach (e :: es) X.env = (false, eval e X.env) :: starEach es X.env := by rfl) (hpl : (backTo pos (starEach es X.env)).any (·.1) = false := by rfl) :
    PE X (.Call (.Name x p1) (e :: es) [] pos) (upE X.K Ts W (dCallR n φ j p ta)) := by
  refine (pe_callS F hr hg hm hk hb hx ha hdb he hpl).imp fun σ H Q h => ?_
  obtain ⟨A, O, ρ, Xf, Qd, m, h, c⟩ := h
  refine ⟨A, O, ρ, Xf, _, m, h, fun ds ρ1 vs H1 A1 O1 h1 s1 t1 m1 r1 => ?_, c.x⟩
  obtain ⟨hl, h1⟩ := h1
  obtain ⟨a, C, fs, ea, h1⟩ := obR.get h1
  have ea : ρ1[j]? = some (.ob a C fs) ∨ ρ1[j]? = some (.ro a C fs) := ea.imp (fun z => sl_get z (by simp)) fun z => sl_get z (by simp)
  exact up_lendR m1 r1 (by rw [← r1.len]; exact hl) ea h1.1 (c.move s1 t1 m) h1.2
end
/-! ### methods without arguments -/
def dMethX0 (C m : Str) (φ : PhO) (j : Nat) : DX := fun X ρ Q => obNm (sl ρ j) C m ∧ obWr (sl ρ j) C fun a fs =>
  φ [.ob a C fs] (fun s ss' => ntl s = true ∧ ntl (ss'.getD 0 .no) = true ∧ Q s (ρ.set j (ss'.getD 0 .no))) fun x ss' => ntl (ss'.getD 0 .no) = true ∧ X x (ρ.set j (ss'.getD 0 .no))
def dMethR0 (C m : Str) (φ : PhO) (j : Nat) : DE := fun X ρ Q => obNm (sl ρ j) C m ∧ obR (sl ρ j) fun a C' fs => C' = C ∧
  φ [.ro a C fs] (fun s _ => resK s fun d κ => Q d κ ρ) fun x _ => X x ρ
section
variable (hN : X.N[j]? = some y) (hv : Vis X.env.scope y) (c : Cls X.K (He.ga X.K C)) (hm : Meth X.K (He.ga X.K C) m g) (F : FnOk X.prog X.w X.K X.mg X.base (L2.CX X.prog X.w) k g fd ps (spO X.K Ts 1 φ)) (hr : Room k X.A) (hb : Binds X.K fd ps []) (hx : Ps X W)
include hN hv c hm F hr hb hx
theorem dx_meth0 {pl : Sem Bool} (hd : (y == ("__debug__" : Str)) = false := by decide) (hcd : (y == ("__classdict__" : Str)) = false := by decide)
    (ht : eval (.Call (.Attribute (.Name y npos) m apos) [] [] pos) X.env = (do
      let u ← eval (.Name y npos) X.env
      standAt apos.atName
      let (q, first) ← holding [u] (getMethod u m pl)
      callWith pos q first (backTo pos (starEach [] X.env)) (backToKw pos (keywordEach [] X.env))) := by rfl) :
    PE X (.Call (.Attribute (.Name y npos) m apos) [] [] pos) (upX X.K Ts W (dMethX0 C m φ j)) := by
  refine (pe_methS0 (pl := pl) (pe_var hN hv hd hcd) c hm F hr hb hx ht).imp fun σ H Q h => ?_
  obtain ⟨A, O, ρ, Xf, Qd, mm, ⟨h0, h1⟩, cn⟩ := h
  obtain ⟨a0, fs0, es0, nm⟩ := h0.get
  have es0 : ρ[j]? = some (.ob a0 C fs0) ∨ ρ[j]? = some (.ro a0 C fs0) := es0.imp (fun z => sl_get z (by simp)) fun z => sl_get z (by simp)
  obtain ⟨dx, ws, R, e1, e2, e3⟩ := mm.obj j a0 C fs0 es0
  refine ⟨_, e1, a0, dx, ws, rfl, e2, look_obj e3 nm, ?_⟩
  obtain ⟨a, fs, ea, h1⟩ := obWr.get h1
  have ea := sl_get ea (by simp)
  obtain ⟨_, _, _, e4, _⟩ := mm.obj j a C fs (.inl ea)
  rw [e1] at e4
  cases e4
  exact up_lendX (p := 0) (ds := [.xn a0]) mm (RpL.cons (by unfold Rp; rfl) RpL.nil) rfl ea rfl cn h1
theorem de_methR0 {pl : Sem Bool} (hd : (y == ("__debug__" : Str)) = false := by decide) (hcd : (y == ("__classdict__" : Str)) = false := by decide)
    (ht : eval (.Call (.Attribute (.Name y npos) m apos) [] [] pos) X.env = (do
      let u ← eval (.Name y npos) X.env
      standAt apos.atName
      let (q, first) ← holding [u] (getMethod u m pl)
      callWith pos q first (backTo pos (starEach [] X.env)) (backToKw pos (keywordEach [] X.env))) := by rfl) :
    PE X (.Call (.Attribute (.Name y npos) m apos) [] [] pos) (upE X.K Ts W (dMethR0 C m φ j)) := by
  refine (pe_methS0 (pl := pl) (pe_var hN hv hd hcd) c hm F hr hb hx ht).imp fun σ H Q h => ?_
  obtain ⟨A, O, ρ, Xf, Qd, mm, ⟨h0, h1⟩, cn⟩ := h
  obtain ⟨a0, fs0, es0, nm⟩ := h0.get
  have es0 : ρ[j]? = some (.ob a0 C fs0) ∨ ρ[j]? = some (.ro a0 C fs0) := es0.imp (fun z => sl_get z (by simp)) fun z => sl_get z (by simp)
  obtain ⟨dx, ws, R, e1, e2, e3⟩ := mm.obj j a0 C fs0 es0
  refine ⟨_, e1, a0, dx, ws, rfl, e2, look_obj e3 nm, ?_⟩
  obtain ⟨a, C', fs, ea, ec, h1⟩ := obR.get h1
  subst ec
  have ea : ρ[j]? = some (.ob a C' fs) ∨ ρ[j]? = some (.ro a C' fs) := ea.imp (fun z => sl_get z (by simp)) fun z => sl_get z (by simp)
  obtain ⟨_, _, _, e4, _⟩ := mm.obj j a C' fs ea
  rw [e1] at e4
  cases e4
  exact up_lendR (p := 0) (ds := [.xn a0]) mm (RpL.cons (by unfold Rp; rfl) RpL.nil) rfl ea rfl cn h1
end
/-! ### a method with keywords -/
def dMethK (C m : Str) (n nk : Nat) (φ : PhO) (j : Nat) (ta tk : DA) : DX := fun X ρ Q => obNm (sl ρ j) C m ∧ ta X ρ fun ds ρ1 => ds.length = n ∧ tk X ρ1 fun zs ρ2 => zs.length = nk ∧ obWr (sl ρ2 j) C fun a fs =>
  φ (.ob a C fs :: (ds ++ zs).map .va) (fun s ss' => ntl s = true ∧ ntl (ss'.getD 0 .no) = true ∧ Q s (ρ2.set j (ss'.getD 0 .no))) fun x ss' => ntl (ss'.getD 0 .no) = true ∧ X x (ρ2.set j (ss'.getD 0 .no))
theorem dx_methK {pl : Sem Bool} {nk : Nat} {ks : List Str} {kws : List Keyword} {gv : List Value → List Value → List Value} (hN : X.N[j]? = some y) (hv : Vis X.env.scope y) (c : Cls X.K (He.ga X.K C)) (hm : Meth X.K (He.ga X.K C) m g) (F : FnOk X.prog X.w X.K X.mg X.base (L2.CX X.prog X.w) k g fd ps (spO X.K Ts (n + nk + 1) φ)) (hr : Room k X.A) (hb : KBn X.K fd ps (n + 1) ks gv fun vs zs => vs ++ zs) (hx : Ps X W)
    (ha : PA X (e :: es) (upA X.K Ts W ta)) (hkk : PK X kws (upA X.K Ts W tk)) (hnk : ks.length = nk) (hd : (y == ("__debug__" : Str)) = false := by decide) (hcd : (y == ("__classdict__" : Str)) = false := by decide)
    (hall : (backToKw pos (keywordEach kws X.env)).all (·.1.isSome) = true := by rfl) (hks : (backToKw pos (keywordEach kws X.env)).filterMap (·.1) = ks := by rfl)
    (hst : starEach (e :: es) X.env = (false, eval e X.env) :: starEach es X.env := by rfl) (hpl : ((backTo pos (starEach (e :: es) X.env)).any (·.1) || (backToKw pos (keywordEach kws X.env)).any (·.1.isNone)) = false := by rfl)
    (ht : eval (.Call (.Attribute (.Name y npos) m apos) (e :: es) kws pos) X.env = (do
      let u ← eval (.Name y npos) X.env
      standAt apos.atName
      let (q, first) ← holding [u] (getMethod u m pl)
      callWith pos q first (backTo pos (starEach (e :: es) X.env)) (backToKw pos (keywordEach kws X.env))) := by rfl) :
    PE X (.Call (.Attribute (.Name y npos) m apos) (e :: es) kws pos) (upX X.K Ts W (dMethK C m n nk φ j ta tk)) := by
  refine (pe_methKS (pl := pl) (pe_var hN hv hd hcd) c hm F hr hb hx ha hkk hall hks hst hpl ht).imp fun σ H Q h => ?_
  obtain ⟨A, O, ρ, Xf, Qd, mm, ⟨h0, h⟩, cn⟩ := h
  obtain ⟨a0, fs0, es0, nm⟩ := h0.get
  have es0 : ρ[j]? = some (.ob a0 C fs0) ∨ ρ[j]? = some (.ro a0 C fs0) := es0.imp (fun z => sl_get z (by simp)) fun z => sl_get z (by simp)
  obtain ⟨dx, ws, R, e1, e2, e3⟩ := mm.obj j a0 C fs0 es0
  refine ⟨_, e1, a0, dx, ws, rfl, e2, look_obj e3 nm, A, O, ρ, Xf, _, mm, h, fun ds ρ1 vs H1 A1 O1 h1 s1 t1 m1 r1 => ?_, fun x ρ' cls od H' A' O' => cn.x x ρ' cls od H' A' O'⟩
  obtain ⟨hl, h1⟩ := h1
  have cn1 := cn.move t1 mm
  refine ⟨by rw [← r1.len]; exact hl, A1, O1, ρ1, Xf, _, m1, h1, fun zs ρ2 us H2 A2 O2 h2 s2 t2 m2 r2 => ?_, fun x ρ' cls od H' A' O' => cn1.x x ρ' cls od H' A' O'⟩
  obtain ⟨hl2, h2⟩ := h2
  obtain ⟨a, fs, ea, h2⟩ := obWr.get h2
  have ea := sl_get ea (by simp)
  obtain ⟨_, _, _, e4, _⟩ := m2.obj j a C fs (.inl ea)
  rw [e1] at e4
  cases e4
  have r3 : RpL X.K H2 A2 (ds ++ zs) (vs ++ us) := (r1.tr t2 m1.sub).app r2
  refine ⟨by rw [← r2.len, hl2, hnk], ?_⟩
  exact up_lendX (p := 0) (ds := .xn a0 :: (ds ++ zs)) m2 (RpL.cons (by unfold Rp; rfl) r3) (by have e1 := r1.len; have e2 := r2.len; rw [List.length_append, List.length_cons]; omega) ea rfl (cn1.move t2 m1) h2
/-! ### properties of a lent object -/
def dPropR (C : Str) (φ : PhO) (j : Nat) : DE := fun X ρ Q => obR (sl ρ j) fun a C' fs => C' = C ∧ φ [.ro a C fs] (fun s _ => resK s fun d κ => Q d κ ρ) fun _ _ => False
theorem de_propR {f' : Str} {pa : Addr} (hN : X.N[j]? = some y) (hv : Vis X.env.scope y) (c : Cls X.K (He.ga X.K C)) (hp : PropOf X.K (He.ga X.K C) f' pa g) (F : FnOk X.prog X.w X.K X.mg X.base (L2.CX X.prog X.w) k g fd ps (spO X.K Ts 1 φ)) (hr : Room (k + 1) X.A) (hb : Binds X.K fd ps []) (hd : (y == ("__debug__" : Str)) = false := by decide) (hcd : (y == ("__classdict__" : Str)) = false := by decide)
    (hab : attributeBase (.Name y npos) f' X.env (eval (.Name y npos) X.env) = eval (.Name y npos) X.env := by rfl) : PE X (.Attribute (.Name y npos) f' pos) (upE X.K Ts W (dPropR C φ j)) := by
  refine (pe_prop (pe_var hN hv hd hcd) c hp (quiet F) hr hb .nil pass0 hab).imp fun σ H Q h => ?_
  obtain ⟨A, O, ρ, Xf, Qd, mm, h, cn⟩ := h
  obtain ⟨a, C', fs, ea, ec, h1⟩ := obR.get h
  subst ec
  have ea : ρ[j]? = some (.ob a C' fs) ∨ ρ[j]? = some (.ro a C' fs) := ea.imp (fun z => sl_get z (by simp)) fun z => sl_get z (by simp)
  obtain ⟨dx, ws, R, e1, e2, e3⟩ := mm.obj j a C' fs ea
  refine ⟨_, e1, a, dx, ws, rfl, e2, ?_⟩
  have c0 : Cn X.K Ts W0 σ H A O (fun _ _ => False) Qd Q := ⟨cn.q, fun _ _ _ _ _ _ _ z => z.elim⟩
  exact up_lendR (p := 0) (ds := [.xn a]) mm (RpL.cons (by unfold Rp; rfl) RpL.nil) rfl ea rfl c0 h1
/-! ### objects made -/
/-- C(e, ..), an object of one's own -/
def dMakeX (C : Str) (n : Nat) (φ : PhO) (ta : DA) : DX := fun X ρ Q => ta X ρ fun ds ρ1 => ds.length = n ∧ ∀ a,
  φ (.ob a C [] :: ds.map .va) (fun s ss' => s = .va .non ∧ ntl (ss'.getD 0 .no) = true ∧ Q (ss'.getD 0 .no) ρ1) fun x ss' => ntl (ss'.getD 0 .no) = true ∧ X x ρ1
/-- .. as data -/
def dMakeD (C : Str) (n : Nat) (φ : PhO) (ta : DA) : DE := fun X ρ Q => ta X ρ fun ds ρ1 => ds.length = n ∧ ∀ a,
  φ (.ob a C [] :: ds.map .va) (fun s ss' => s = .va .non ∧ ntl (ss'.getD 0 .no) = true ∧ slFr (ss'.getD 0 .no) = true ∧ Q (slD (ss'.getD 0 .no)) .sh ρ1) fun x ss' => ntl (ss'.getD 0 .no) = true ∧ X x ρ1
theorem Tr.frO {A O : AP} {H H2 : Hp} {x : Addr} (hx : H x = none) (s : Sm H H2) : Tr A O H (fun b => A b ∨ b = x) (fun b => O b ∨ b = x) H2 :=
  ⟨Kp.of s, fun _ z => z.imp id fun y => by rw [y]; exact hx, fun _ z _ => .inl z, fun _ z => z.imp id fun y => by rw [y]; exact hx⟩
/-- the class's __init__, run on a new object -/
theorem up_make {K : PySem.W.Frag} {σ : L2.St} {H : Hp} {A O : AP} {ρ : List Sl} {E : XK} {Q : VK} {ds : List D} {vs : List V} {x dx : Addr} {Qs : Sl → Prop} {Xs : Xc → Prop} (m : Mt K Ts H A O ρ σ) (r : RpL K H A ds vs) (hn : vs.length = n) (hx : H x = none) (hdx : H dx = none) (ne : dx ≠ x)
    (h : φ (.ob x C [] :: ds.map .va) (fun s ss' => s = .va .non ∧ ntl (ss'.getD 0 .no) = true ∧ Qs (ss'.getD 0 .no)) fun x ss' => ntl (ss'.getD 0 .no) = true ∧ Xs x)
    (kq : ∀ s H' A' O', Qs s → Sm H H' → Tr A O H A' O' H' → Mt K Ts H' A' O' (s :: ρ) (some (.ref x) :: σ) → Q (.ref x) H') (kx : ∀ e cls od H' A' O', Xs e → Tr A O H A' O' H' → Mt K Ts H' A' O' ρ σ → XR K H' A' e cls od → E cls od H') :
    spO K Ts (n + 1) φ (.ref x :: vs) (upd (upd H dx (.own x)) x (.ins (He.ga K C) dx [])) (fun v H2 => v = .non ∧ Q (.ref x) H2) E := by
  have hx2 : upd H dx (.own x) x = none := by rw [upd_ne (Ne.symm ne)]; exact hx
  have s2 : Sm H (upd (upd H dx (.own x)) x (.ins (He.ga K C) dx [])) := (Sm.new hdx).trans (Sm.new hx2)
  have hh : (upd (upd H dx (.own x)) x (.ins (He.ga K C) dx [])) x = some (.ins (He.ga K C) dx []) := upd_same
  generalize upd (upd H dx (.own x)) x (.ins (He.ga K C) dx []) = H2 at s2 hh ⊢
  have m2 := m.frO (C := C) hx s2 hh
  have t2 : Tr A O H _ _ H2 := Tr.frO hx s2
  have r2 : RpL K H2 (fun b => A b ∨ b = x) (.xn x :: ds) (.ref x :: vs) := RpL.cons (by unfold Rp; rfl) ((r.fresh hx).sm s2)
  obtain ⟨g, m2⟩ := m2
  have es : (Sl.ob x C [] :: ρ)[0]? = some (.ob x C []) := rfl
  have g0 : ∀ b, b ∈ g 0 → b = x := fun b hb => by
    obtain ⟨v, e, dx', ws, R1, e1, e2, e3, e4⟩ := m2.at_ 0 _ _ rfl rfl
    rw [e2] at hb
    cases e4.1
    rw [e4.2] at hb
    exact List.mem_singleton.mp hb
  have sm0 : ∀ {A' O' : AP} {H' : Hp}, Tr (fun b => A b ∨ b = x) (fun b => b ∈ g 0) H2 A' O' H' → Sm H H' := fun t =>
    ((Kp.of (O := fun _ => False) s2).trans t.kp fun b hb => .inr (by rw [g0 b hb]; exact hx)).sm
  refine ⟨by rw [List.length_cons, hn], _, _, _, _, _, m2.lend (p := 0) es r2 rfl, h, fun s ss' v H' A' O' q t m' => ?_, fun e ss' cls od H' A' O' q t m' rx => ?_⟩
  · obtain ⟨rfl, q1, q2⟩ := q
    obtain ⟨O2, m3, t3⟩ := m2.back (p := 0) es (by rfl) q1 t m' rfl
    obtain ⟨v2, e, h0⟩ := m3.va 0 _ rfl
    cases e
    unfold Rp at h0
    obtain ⟨O3, m4, t4⟩ := m3.uncons
    exact ⟨h0, kq _ H' A' O3 q2 (sm0 t) ((t2.trans t3 m.trk).trans t4 m.trk) m4⟩
  · obtain ⟨O2, m3, t3⟩ := m2.backX (p := 0) es q.1 t m' rfl
    obtain ⟨O3, m4, t4⟩ := m3.uncons
    exact kx e cls od H' A' O3 q.2 ((t2.trans t3 m.trk).trans t4 m.trk) m4 rx
section
variable (M : Mk X.K (He.ga X.K C) f) (F : FnOk X.prog X.w X.K X.mg X.base (L2.CX X.prog X.w) k f fd ps (spO X.K Ts (n + 1) φ)) (hr : Room (k + 1) X.A) (hg : Gl X C) (hm : X.mg C = some (.ref (He.ga X.K C))) (hb : Binds X.K fd ps []) (hx : Ps X W) (ha : PA X (e :: es) (upA X.K Ts W ta))
include M F hr hg hm hb hx ha
theorem dx_make (hdb : (C == ("__debug__" : Str)) = false := by decide) (he : starEach (e :: es) X.env = (false, eval e X.env) :: starEach es X.env := by rfl) (hpl : (backTo pos (starEach es X.env)).any (·.1) = false := by rfl) :
    PE X (.Call (.Name C p1) (e :: es) [] pos) (upX X.K Ts W (dMakeX C n φ ta)) := by
  refine (pe_makeS M F hr hg hm hb hx ha hdb he hpl).imp fun σ H Q h => ?_
  obtain ⟨A, O, ρ, Xf, Qd, m, h, c⟩ := h
  refine ⟨A, O, ρ, Xf, _, m, h, fun ds ρ1 vs H1 A1 O1 h1 s1 t1 m1 r1 x dx e1 e2 e3 => ?_, c.x⟩
  have c1 := c.move t1 m
  exact up_make (Qs := fun s => Qd s ρ1) (Xs := fun e => Xf e ρ1) m1 r1 (by rw [← r1.len]; exact h1.1) e1 e2 e3 (h1.2 x) (fun s H' A' O' q sm t m' => c1.q s ρ1 _ H' A' O' q t m') fun e cls od H' A' O' q t m' rx => c1.x e ρ1 cls od H' A' O' q t m' rx
theorem de_makeD (hdb : (C == ("__debug__" : Str)) = false := by decide) (he : starEach (e :: es) X.env = (false, eval e X.env) :: starEach es X.env := by rfl) (hpl : (backTo pos (starEach es X.env)).any (·.1) = false := by rfl) :
    PE X (.Call (.Name C p1) (e :: es) [] pos) (upE X.K Ts W (dMakeD C n φ ta)) := by
  refine (pe_makeS M F hr hg hm hb hx ha hdb he hpl).imp fun σ H Q h => ?_
  obtain ⟨A, O, ρ, Xf, Qd, m, h, c⟩ := h
  refine ⟨A, O, ρ, Xf, _, m, h, fun ds ρ1 vs H1 A1 O1 h1 s1 t1 m1 r1 x dx e1 e2 e3 => ?_, c.x⟩
  have c1 := c.move s1 t1 m
  refine up_make (Qs := fun s => slFr s = true ∧ Qd (slD s) .sh ρ1) (Xs := fun e => Xf e ρ1) m1 r1 (by rw [← r1.len]; exact h1.1) e1 e2 e3 (h1.2 x) (fun s H' A' O' q sm t m' => ?_) fun e cls od H' A' O' q t m' rx => c1.x e ρ1 cls od H' A' O' q t m' rx
  obtain ⟨A2, O2, m2, r2, t2, _⟩ := m'.frz0 q.1
  exact c1.q _ .sh ρ1 _ H' A2 O2 q.2 sm (t.trans t2 m1.trk) m2 r2
end
end
end DL

-- part DO8
set_option Elab.async false
set_option linter.all false
set_option maxRecDepth 100000
set_option maxHeartbeats 2000000
/-! a tuple known to have no dict of its own; dict of it -/
namespace DL
open PySem PySem.Spec PyProof.Rows L2 GxR GS GA GD
/-- tuple(list): the new tuple is known as it stands -/
theorem call_tupleZ {X : Cx} : CallR X (.type "tuple") fun xs H Q => ∃ p ys, xs = [V.ref p] ∧ SqL X.K H p ys ∧ ∀ (l : Addr) (o : Obj), H l = none → (o.cls = .type "tuple" ∧ o.dict = none ∧ ∃ its n, o.data = .seq its n) → Q (.ref l) (upd H l (.frz o (.tup ys))) := by
  intro pins s σ H xs us Q I r h
  obtain ⟨p, ys, rfl, hq, q⟩ := h
  obtain ⟨u, rfl, rx⟩ := vals1 r
  obtain rfl : u = Value.ref p := rx
  obtain ⟨its, r', pl, hz⟩ := Inv.list I hq
  have hlen := r'.length
  refine call_tuple_list pl.isList (fun h' kp => ?_) (by rw [List.size_toArray]; omega)
  have I1 := Inv.kept (t' := s.toks) I kp
  have I2 := Inv.laid (t' := s.toks) (a := h'.objs.size) (o := .frz { cls := .type "tuple", data := .seq its.toArray } (.tup ys)) I1 (fun b o e => Heap.get?_push_of_some { cls := .type "tuple", data := .seq its.toArray } e) (Nat.le_refl _)
    ⟨Heap.get?_push_size h' rfl, hz, its, r', IsTup.new h' its.toArray⟩
  exact ⟨V.ref h'.objs.size, _, I2, rfl, q h'.objs.size _ (HOk.fresh I1.hok (Nat.le_refl _)) ⟨rfl, rfl, _, _, rfl⟩⟩
open Classical in
/-- dict of such a tuple of pairs -/
theorem call_dictPT {X : Cx} (hcalm : X.calm = true) : CallR X (.type "dict") fun xs H Q => ∃ (a : Addr) (o : Obj) (ps : List Addr) (kvs : List (Key × V)), xs = [V.ref a] ∧ H a = some (.frz o (.tup (ps.map V.ref))) ∧ (o.cls = .type "tuple" ∧ o.dict = none ∧ ∃ its n, o.data = .seq its n) ∧
    Paired (fun p kv => SqT X.K H p [kV kv.1, kv.2]) ps kvs ∧ ∀ p, H p = none → Q (.ref p) (upd H p (.dK (mergeK [] kvs))) := by
  intro pins s σ H xs us Q I r h
  obtain ⟨a, o, ps, kvs, rfl, ha, ⟨oc, od, it0, n0, odt⟩, hp, q⟩ := h
  obtain ⟨u, rfl, rx⟩ := vals1 r
  obtain rfl : u = Value.ref a := rx
  obtain ⟨its, rv, pl, hz⟩ := Inv.tuple I (xs := ps.map V.ref) (.inl (.inr ⟨o, ha⟩))
  have ei := refs_at rv
  subst ei
  have hg : s.heap.get? a = some o := (I.hok a _ ha).1
  obtain ⟨o', ho', hc', n, hd'⟩ := pl
  rw [hg] at ho'
  cases ho'
  obtain ⟨prs, rel, hl, hpr⟩ := pairs_of I hp
  rw [List.length_map] at hz
  have hU : ∀ j : Nat, ∃ u : Value, ∀ q : Key × Value, prs[j]? = some q → ∃ b, ps[j]? = some b ∧ IsTup s.heap b #[u, q.2] ∧ keyIs q.1 u = true := fun j => by
    cases e : prs[j]? with
    | none => exact ⟨.none, fun q z => by cases z⟩
    | some q =>
      obtain ⟨b, u, e1, e2, e3⟩ := hpr j q e
      exact ⟨u, fun q' z => by cases z; exact ⟨b, e1, e2, e3⟩⟩
  let U : Nat → Value := fun j => Classical.choose (hU j)
  have hUs : ∀ (j : Nat) (q : Key × Value), prs[j]? = some q → ∃ b, ps[j]? = some b ∧ IsTup s.heap b #[U j, q.2] ∧ keyIs q.1 (U j) = true := fun j => Classical.choose_spec (hU j)
  let pv : List (Value × Value) := prs.mapIdx fun j q => (U j, q.2)
  have pl2 : pv.length = ps.length := by show (prs.mapIdx _).length = _; rw [List.length_mapIdx, hl]
  have pat : ∀ (j : Nat) (k v : Value), pv[j]? = some (k, v) → ∃ q : Key × Value, prs[j]? = some q ∧ k = U j ∧ v = q.2 := fun j k v e => by
    have e : (prs.mapIdx fun j q => (U j, q.2))[j]? = some (k, v) := e
    rw [List.getElem?_mapIdx] at e
    cases hq : prs[j]? with
    | none => rw [hq] at e; cases e
    | some q => rw [hq] at e; cases e; exact ⟨q, rfl, rfl, rfl⟩
  have hlen : (mergeK [] kvs).length ≤ sizeLine := by
    have h1 := length_mergeK kvs []
    have h2 := KV.length rel
    rw [List.length_nil] at h1
    omega
  refine PySem.call_dict_pairs (knd := mixKind X.prog X.w) (kvs := prs) (PairArg.tuple a (ps.map Value.ref).toArray (fun j => ps.getD j 0) pv) (I.ok.hd hcalm) ⟨⟨o, n, hg, hc', od, hd'⟩, by rw [List.size_toArray, List.length_map, pl2], fun j k v e => ?_⟩ ⟨by rw [hl, pl2], fun j k v e => ?_⟩ (by rw [pl2]; exact hz) fun h' tk hD kk => ?_
  · obtain ⟨q', eq, rfl, rfl⟩ := pat j k v e
    obtain ⟨b, e1, e2, e3⟩ := hUs j q' eq
    have gD : ps.getD j 0 = b := by rw [List.getD_eq_getElem?_getD, e1]; rfl
    refine ⟨?_, .inl ?_⟩
    · show _ = some (Value.ref (ps.getD j 0))
      rw [gD, List.getElem?_toArray, List.getElem?_map, e1]; rfl
    · show s.heap.IsTuple (ps.getD j 0) _
      rw [gD]; exact e2
  · obtain ⟨q, eq, rfl, rfl⟩ := pat j k v e
    obtain ⟨b, e1, e2, e3⟩ := hUs j q eq
    exact ⟨q.1, eq, e3⟩
  · have hm : (s.heap.objs.size == sysModules) = false := beq_eq_false_iff_ne.mpr (Nat.ne_of_gt I.big)
    exact ⟨V.ref s.heap.objs.size, _, Inv.laid (t' := tk) (a := s.heap.objs.size) (o := .dK (mergeK [] kvs)) I (fun b o e => kk b o (by simp) e) (Nat.le_refl _) ⟨hlen, hm, merged [] prs, KV.merge rel .nil, hD⟩, rfl, q _ (HOk.fresh I.hok (Nat.le_refl _))⟩
end DL

-- part DO9
set_option Elab.async false
set_option linter.all false
set_option maxRecDepth 100000
set_option maxHeartbeats 2000000
/-! dicts as data: looked up, asked, made of a tuple of pairs -/
namespace DL
open PySem PySem.Spec PyProof.Rows L2 GxR GS GA GD
/-- data as a key -/
def keyD : D → Option Key
  | .int i => some (.inl i)
  | .str s => some (.inr s)
  | _ => none
theorem keyD_v {K : PySem.W.Frag} {H : Hp} {A : AP} {d : D} {k : Key} {v : V} (e : keyD d = some k) (h : Wk K H A d v) : v = kV k := by
  unfold keyD at e
  split at e
  · cases e; exact h.int
  · cases e; exact h.str
  · cases e
theorem keyD_s {s : Str} : keyD (.str s) = some (.inr s) := rfl
theorem keyD_i {i : Int} : keyD (.int i) = some (.inl i) := rfl
/-- what stands under a key -/
def valA {α : Type} (kvs : List (Key × α)) (k : Key) : Option α := (kvs.find? fun kv => decide (kv.1 = k)).map (·.2)
theorem val_zip {K : PySem.W.Frag} {H : Hp} {A : AP} {k : Key} : ∀ {ks : List Key} {ds : List D} {vs : List V}, RpL K H A ds vs → (valA (ks.zip ds) k = none ∧ valV (ks.zip vs) k = none) ∨ ∃ d v, valA (ks.zip ds) k = some d ∧ valV (ks.zip vs) k = some v ∧ Rp K H A d v
  | [], ds, vs, _ => .inl ⟨rfl, rfl⟩
  | k0 :: ks, [], vs, r => by rw [r.unnil]; exact .inl ⟨rfl, rfl⟩
  | k0 :: ks, d :: ds, vs, r => by
    obtain ⟨v, t, rfl, h1, h2⟩ := r.uncons
    by_cases e : k0 = k
    · refine .inr ⟨d, v, ?_, ?_, h1⟩
      · unfold valA; rw [List.zip_cons_cons, List.find?_cons_of_pos (by simp [e])]; rfl
      · unfold valV; rw [List.zip_cons_cons, List.find?_cons_of_pos (by simp [e])]; rfl
    · have := val_zip (k := k) (ks := ks) h2
      unfold valA valV at this ⊢
      rw [List.zip_cons_cons, List.zip_cons_cons, List.find?_cons_of_neg (by simp [e]), List.find?_cons_of_neg (by simp [e])]
      exact this
def dinK (z d : D) (Q : Bool → Prop) : Prop := match d with
  | .dct ks ds => oK (keyD z) fun k => Q (valA (ks.zip ds) k).isSome
  | _ => False
theorem dinK_d {z : D} {ks : List Key} {ds : List D} {Q : Bool → Prop} : dinK z (.dct ks ds) Q = oK (keyD z) fun k => Q (valA (ks.zip ds) k).isSome := rfl
def dDIn (n : Bool) (ti td : DE) : DE := fun X ρ Q => ti X ρ fun z _ ρ1 => td X ρ1 fun d _ ρ2 => dinK z d fun b => Q (.bl (if n then !b else b)) .sh ρ2
def dgetK (d z : D) (Q : D → Prop) : Prop := match d with
  | .dct ks ds => oK (keyD z) fun k => oK (valA (ks.zip ds) k) Q
  | _ => False
theorem dgetK_d {z : D} {ks : List Key} {ds : List D} {Q : D → Prop} : dgetK (.dct ks ds) z Q = oK (keyD z) fun k => oK (valA (ks.zip ds) k) Q := rfl
def dDGet (td ti : DE) : DE := fun X ρ Q => td X ρ fun d _ ρ1 => ti X ρ1 fun z _ ρ2 => dgetK d z fun e => Q e .sh ρ2
section
variable {X : Cx} {Ts : AP} {W : WX} {e o i : Expr} {te to ti : DE} {pos p p2 : Pos} {x : Str} {j : Nat} {C f : Str}
theorem up_din {σ : L2.St} {H : Hp} {Q : VK} {n : Bool} (h : upE X.K Ts W (dDIn n ti to) σ H Q) : upE X.K Ts W ti σ H fun y H1 => upE X.K Ts W to σ H1 fun x H2 => ∃ a o, x = .ref a ∧ DGet H2 a y o ∧ Q (.bl (if n then !o.isSome else o.isSome)) H2 := by
  obtain ⟨A, O, ρ, Xf, Qd, m, h, c⟩ := h
  refine ⟨A, O, ρ, Xf, _, m, h, fun z κ ρ1 v H1 A1 O1 h1 s1 t1 m1 r1 => ?_, c.x⟩
  have c1 := c.move s1 t1 m
  refine ⟨A1, O1, ρ1, Xf, _, m1, h1, fun d κ2 ρ2 w H2 A2 O2 h2 s2 t2 m2 r2 => ?_, c1.x⟩
  have c2 := c1.move s2 t2 m1
  unfold dinK at h2
  split at h2
  · rename_i ks ds
    obtain ⟨k, ek, h2⟩ := h2.get
    have ev := keyD_v ek r1.wk
    obtain ⟨a, vs, rfl, g1, g2, g3⟩ := r2.wk
    refine ⟨a, valV (ks.zip vs) k, rfl, .inl ⟨_, k, .inl g1, ev, rfl⟩, c2.flat m2 ?_ Rp.bl⟩
    rcases val_zip (k := k) (ks := ks) g3 with ⟨q1, q2⟩ | ⟨d', v', q1, q2, _⟩
    · rw [q2]; rw [q1] at h2; exact h2
    · rw [q2]; rw [q1] at h2; exact h2
  · exact h2.elim
theorem de_din (hu : X.A.units + 1 < cLine) (hi : PE X i (upE X.K Ts W ti)) (ho : PE X o (upE X.K Ts W to)) (hm : behindInMarks .In o = false := by rfl) : PE X (.Compare i [.In] [o] pos) (upE X.K Ts W (dDIn false ti to)) :=
  (pe_cmp (pc_din hu hi ho) hm).imp fun σ H Q h => up_din h
theorem de_dnin (hu : X.A.units + 1 < cLine) (hi : PE X i (upE X.K Ts W ti)) (ho : PE X o (upE X.K Ts W to)) (hm : behindInMarks .NotIn o = false := by rfl) : PE X (.Compare i [.NotIn] [o] pos) (upE X.K Ts W (dDIn true ti to)) :=
  (pe_cmp (pc_dnotin hu hi ho) hm).imp fun σ H Q h => up_din h
theorem dt_din (hu : X.A.units + 1 < cLine) (hi : PE X i (upE X.K Ts W ti)) (ho : PE X o (upE X.K Ts W to)) (hm : behindInMarks .In o = false := by rfl) : PT X (.Compare i [.In] [o] pos) (upT X.K Ts W (dTst (dDIn false ti to))) :=
  (pt_cmp (pc_din hu hi ho) hm).imp fun σ H Q h => up_din (up_tst h)
theorem dt_dnin (hu : X.A.units + 1 < cLine) (hi : PE X i (upE X.K Ts W ti)) (ho : PE X o (upE X.K Ts W to)) (hm : behindInMarks .NotIn o = false := by rfl) : PT X (.Compare i [.NotIn] [o] pos) (upT X.K Ts W (dTst (dDIn true ti to))) :=
  (pt_cmp (pc_dnotin hu hi ho) hm).imp fun σ H Q h => up_din (up_tst h)
theorem de_dget (hu : X.A.units + 1 < cLine) (ho : PE X o (upE X.K Ts W to)) (hi : PE X i (upE X.K Ts W ti)) (hs : NoSl i) : PE X (.Subscript o i pos) (upE X.K Ts W (dDGet to ti)) := by
  refine (pe_dget hu ho hi hs).imp fun σ H Q h => ?_
  obtain ⟨A, O, ρ, Xf, Qd, m, h, c⟩ := h
  refine ⟨A, O, ρ, Xf, _, m, h, fun d κ ρ1 v H1 A1 O1 h1 s1 t1 m1 r1 => ?_, c.x⟩
  have c1 := c.move s1 t1 m
  refine ⟨A1, O1, ρ1, Xf, _, m1, h1, fun z κ2 ρ2 w H2 A2 O2 h2 s2 t2 m2 r2 => ?_, c1.x⟩
  have c2 := c1.move s2 t2 m1
  unfold dgetK at h2
  split at h2
  · rename_i ks ds
    obtain ⟨k, ek, h2⟩ := h2.get
    obtain ⟨e, ee, h2⟩ := h2.get
    have ev := keyD_v ek r2.wk
    obtain ⟨a, vs, rfl, g1, g2, g3⟩ := r1.wk.tr s2 t2 m1.sub
    rcases val_zip (k := k) (ks := ks) g3 with ⟨q1, q2⟩ | ⟨d', v', q1, q2, q3⟩
    · rw [q1] at ee; cases ee
    · rw [q1] at ee
      cases ee
      exact ⟨a, v', rfl, .inl ⟨_, k, .inl g1, ev, q2.symm⟩, c2.flat m2 h2 q3⟩
  · exact h2.elim
end
/-! ### dict(x.f), x.f such a tuple of pairs -/
def putA (kvs : List (Key × D)) (k : Key) (d : D) : List (Key × D) := if (kvs.any fun kv => decide (kv.1 = k)) = true then kvs.map fun kv => if kv.1 = k then (kv.1, d) else kv else kvs ++ [(k, d)]
def mergeA (more : List (Key × D)) : List (Key × D) := more.foldl (fun acc kv => putA acc kv.1 kv.2) []
/-- the pairs -/
def pairD : D → Option (Key × D)
  | .tup [k, d] => (keyD k).map fun k => (k, d)
  | _ => none
def pairsD : List D → Option (List (Key × D))
  | [] => some []
  | d :: r => (pairD d).bind fun p => (pairsD r).map fun t => p :: t
section
variable {K : PySem.W.Frag} {H : Hp} {A : AP}
abbrev KvR (K : PySem.W.Frag) (H : Hp) (A : AP) (p : Key × V) (q : Key × D) : Prop := p.1 = q.1 ∧ Rp K H A q.2 p.2
theorem put_rel {k : Key} {v : V} {d : D} {as : List (Key × V)} {bs : List (Key × D)} (h : Paired (KvR K H A) as bs) (r : Rp K H A d v) : Paired (KvR K H A) (putK as k v) (putA bs k d) := by
  have ea : (as.any fun kv => decide (kv.1 = k)) = bs.any fun kv => decide (kv.1 = k) := by
    induction h with
    | nil => rfl
    | cons h1 h2 ih => rw [List.any_cons, List.any_cons, ih, h1.1]
  unfold putK putA
  rw [ea]
  split
  · rename_i hc
    clear ea hc
    induction h with
    | nil => exact .nil
    | cons h1 h2 ih =>
      refine .cons ?_ ih
      obtain ⟨e1, e2⟩ := h1
      show KvR K H A (if _ then _ else _) (if _ then _ else _)
      rw [e1]
      split
      · exact ⟨rfl, r⟩
      · exact ⟨e1, e2⟩
  · exact GD.Paired.snoc h ⟨rfl, r⟩
theorem merge_rel {ms : List (Key × V)} {ns : List (Key × D)} (h : Paired (KvR K H A) ms ns) : ∀ {as : List (Key × V)} {bs : List (Key × D)}, Paired (KvR K H A) as bs → Paired (KvR K H A) (mergeK as ms) (ns.foldl (fun acc kv => putA acc kv.1 kv.2) bs) := by
  induction h with
  | nil => exact fun h => h
  | cons h1 h2 ih =>
    intro as bs h
    unfold mergeK at ih ⊢
    rw [List.foldl_cons, List.foldl_cons, h1.1]
    exact ih (put_rel h h1.2)
theorem kv_un {ms : List (Key × V)} {ns : List (Key × D)} (h : Paired (KvR K H A) ms ns) : ms = (ns.map (·.1)).zip (ms.map (·.2)) ∧ RpL K H A (ns.map (·.2)) (ms.map (·.2)) := by
  induction h with
  | nil => exact ⟨rfl, RpL.nil⟩
  | cons h1 h2 ih =>
    obtain ⟨e1, e2⟩ := ih
    refine ⟨?_, RpL.cons h1.2 e2⟩
    rw [List.map_cons, List.map_cons, List.zip_cons_cons, ← e1, ← h1.1]
theorem pairs_rel : ∀ {ds : List D} {vs : List V} {ns : List (Key × D)}, RpL K H A ds vs → pairsD ds = some ns → ∃ (ps : List Addr) (ms : List (Key × V)), vs = ps.map V.ref ∧ Paired (fun p kv => SqT K H p [kV kv.1, kv.2]) ps ms ∧ Paired (KvR K H A) ms ns
  | [], vs, ns, r, e => by cases e; exact ⟨[], [], r.unnil, .nil, .nil⟩
  | d :: t, vs, ns, r, e => by
    obtain ⟨v, w, rfl, h1, h2⟩ := r.uncons
    unfold pairsD at e
    cases ep : pairD d with
    | none => rw [ep] at e; cases e
    | some p =>
      rw [ep] at e
      cases eq : pairsD t with
      | none => rw [eq] at e; cases e
      | some m =>
        rw [eq] at e
        cases e
        obtain ⟨ps, ms, e1, e2, e3⟩ := pairs_rel h2 eq
        unfold pairD at ep
        split at ep
        · rename_i k d'
          cases ek : keyD k with
          | none => rw [ek] at ep; cases ep
          | some kk =>
            rw [ek] at ep
            cases ep
            unfold Rp at h1
            obtain ⟨a, us, rfl, g1, g2⟩ := h1
            obtain ⟨v1, u1, rfl, q1, g3⟩ := g2.uncons
            obtain ⟨v2, u2, rfl, q2, g4⟩ := g3.uncons
            obtain rfl := g4.unnil
            have ev := keyD_v ek (Wk.of q1)
            subst ev
            exact ⟨a :: ps, (kk, v2) :: ms, by rw [e1]; rfl, .cons g1 e2, .cons ⟨rfl, q2⟩ e3⟩
        · cases ep
end
def tqK (fd : Fd) (Q : List D → Prop) : Prop := match fd with
  | .tq ds => Q ds
  | _ => False
theorem tqK_q {ds : List D} {Q : List D → Prop} : tqK (.tq ds) Q = Q ds := rfl
theorem tqK.get {fd : Fd} {Q : List D → Prop} (h : tqK fd Q) : ∃ ds, fd = .tq ds ∧ Q ds := by
  unfold tqK at h
  split at h
  · exact ⟨_, rfl, h⟩
  · exact h.elim
def dDictF (i : Nat) (C f : Str) : DE := fun _ ρ Q => obRd (sl ρ i) C fun fs => oK (fs.lookup f) fun fd => tqK fd fun ds => oK (pairsD ds) fun ps => Q (.dct ((mergeA ps).map (·.1)) ((mergeA ps).map (·.2))) .fr ρ
section
variable {X : Cx} {Ts : AP} {W : WX} {e o : Expr} {te : DE} {pos p p2 p3 cpos : Pos} {x : Str} {i : Nat} {C f : Str}
theorem Mt.frD {K : PySem.W.Frag} {A O : AP} {H H' : Hp} {ρ : List Sl} {σ : L2.St} {p : Addr} {kvs : List (Key × D)} {vs : List V} (m : Mt K Ts H A O ρ σ) (hp : H p = none) (s : Sm H H') (h' : H' p = some (.dK ((kvs.map (·.1)).zip vs))) (r : RpL K H' (fun b => A b ∨ b = p) (kvs.map (·.2)) vs) : Mt K Ts H' (fun b => A b ∨ b = p) (fun b => O b ∨ b = p) (Sl.od kvs :: ρ) (some (V.ref p) :: σ) := by
  obtain ⟨g, m⟩ := m
  have np : ∀ j, p ∉ g j := fun j z => m.trk p (m.sub p (m.mine z)) hp
  refine ⟨consG [p] g, fun P h => s.tb P (m.tab P h), fun b h => h.imp (m.sub b) id, fun b h z => h.elim (fun q => m.trk b q (s.fr b z)) fun q => (by subst q; rw [h'] at z; cases z), by rw [List.length_cons, List.length_cons, m.len], fun j x y e1 e2 => ?_, fun j => ?_, fun j k b h1 h2 => ?_, fun b => ?_, fun j hj => ?_⟩
  · cases j with
    | zero => cases e1; cases e2; exact ⟨_, rfl, p, vs, rfl, rfl, h', r⟩
    | succ j => exact (m.at_ j x y e1 e2).gen m.sub (fun b u e _ n => s.st b u e n) (fun b u e _ z q => q.elim z fun w => by rw [w, hp] at e; cases e) fun b u e z q => q.elim z fun w => by rw [w, hp] at e; cases e
  · cases j with
    | zero => show [p].Nodup; simp
    | succ j => exact m.nod j
  · cases j with
    | zero =>
      cases k with
      | zero => rfl
      | succ k => rw [List.mem_singleton.mp h1] at h2; exact absurd h2 (np k)
    | succ j =>
      cases k with
      | zero => rw [List.mem_singleton.mp h2] at h1; exact absurd h1 (np j)
      | succ k => rw [m.dis j k b h1 h2]
  · constructor
    · rintro (h | h)
      · obtain ⟨j, hj⟩ := (m.all b).mp h
        exact ⟨j + 1, hj⟩
      · exact ⟨0, by rw [h]; exact List.mem_singleton.mpr rfl⟩
    · rintro ⟨j, hj⟩
      cases j with
      | zero => exact .inr (List.mem_singleton.mp hj)
      | succ j => exact .inl (m.mine hj)
  · cases j with
    | zero => exact absurd hj (by rw [List.length_cons]; omega)
    | succ j => exact m.out j (by rw [List.length_cons] at hj; omega)
theorem Cn.frD {K : PySem.W.Frag} {σ : L2.St} {H : Hp} {A O : AP} {Xf : XF} {Qd : D → Kd → List Sl → Prop} {Q : VK} {ρ : List Sl} {kvs : List (Key × D)} {p : Addr} {vs : List V} (c : Cn K Ts W σ H A O Xf Qd Q) (m : Mt K Ts H A O ρ σ) (hp : H p = none) (h : Qd (.dct (kvs.map (·.1)) (kvs.map (·.2))) .fr ρ) (r : RpL K H A (kvs.map (·.2)) vs) : Q (.ref p) (upd H p (.dK ((kvs.map (·.1)).zip vs))) := by
  have s := Sm.new (o := .dK ((kvs.map (·.1)).zip vs)) hp
  have ez : (kvs.map (·.1)).zip (kvs.map (·.2)) = kvs := by
    clear h r s
    induction kvs with
    | nil => rfl
    | cons a t ih => rw [List.map_cons, List.map_cons, List.zip_cons_cons, ih]
  refine c.q _ .fr ρ _ _ A O h s (Tr.of s) (m.sm s) ⟨by show List.length _ = List.length _; rw [List.length_map, List.length_map], p, rfl, hp, fun z => m.trk p z hp, ?_⟩
  show Mt K Ts _ _ _ (Sl.od ((kvs.map (·.1)).zip (kvs.map (·.2))) :: ρ) _
  rw [ez]
  exact m.frD hp s upd_same ((r.fresh hp).sm s)
theorem de_dictF (hcalm : X.calm = true) (hN : X.N[i]? = some x) (hv : Vis X.env.scope x) (c : Cls X.K (He.ga X.K C)) (na : NoAttr X.K (He.ga X.K C) f) (hg : Gl X "dict") (hm : X.mg "dict" = none) (hbt : bootBuiltins "dict" = some (.type "dict")) (hd : (x == ("__debug__" : Str)) = false := by decide) (hcd : (x == ("__classdict__" : Str)) = false := by decide)
    (hb : attributeBase (.Name x p) f X.env (eval (.Name x p) X.env) = eval (.Name x p) X.env := by rfl)
    (hs : starEach [.Attribute (.Name x p) f p2] X.env = (false, eval (.Attribute (.Name x p) f p2) X.env) :: starEach [] X.env := by rfl) (hpl : (backTo cpos (starEach [] X.env)).any (·.1) = false := by rfl) :
    PE X (.Call (.Name "dict" p3) [.Attribute (.Name x p) f p2] [] cpos) (upE X.K Ts W (dDictF i C f)) := by
  refine (pe_callTy (call_dictPT hcalm) hg hm hbt (pa_cons (pe_fld (pe_var hN hv hd hcd) hb) pa_nil hs) (by decide) (by decide) hs hpl).imp fun σ H Q h => ?_
  obtain ⟨A, O, ρ, Xf, Qd, m, h, cn⟩ := h
  obtain ⟨a, fs, es, h⟩ := obRd.get h
  have es : ρ[i]? = some (.ob a C fs) ∨ ρ[i]? = some (.ro a C fs) := es.imp (fun z => sl_get z (by simp)) fun z => sl_get z (by simp)
  obtain ⟨dx, ws, R, e1, e2, e3⟩ := m.obj i a C fs es
  obtain ⟨fd, el, h⟩ := h.get
  obtain ⟨v, R1, l1, l2, _⟩ := e3.look el
  obtain ⟨ds, rfl, h⟩ := tqK.get h
  obtain ⟨ps, ep, h⟩ := oK.get h
  obtain ⟨_, b, o, vs, rfl, g1, g2, g3⟩ := l2
  obtain ⟨qs, ms, rfl, k1, k2⟩ := pairs_rel g3 ep
  refine ⟨_, e1, a, _, dx, ws, _, rfl, e2, c, na, l1, b, o, qs, ms, rfl, g1, g2, k1, fun p hp => ?_⟩
  obtain ⟨q1, q2⟩ := kv_un (merge_rel k2 (as := []) (bs := []) .nil)
  rw [q1]
  exact cn.frD m hp h q2
end
end DL

-- part TM
set_option Elab.async false
set_option linter.all false
set_option maxRecDepth 100000
set_option maxHeartbeats 2000000
/-! try with several clauses, with or without a name -/
namespace TM
open PySem PySem.Spec PyProof.Rows L2
abbrev Hd1 := Value × Option Nat × (Addr → Value → Option Addr → TS)
def cut (o : Option Nat) (D : Ends) : Ends := match o with
  | none => D
  | some i => { nx := fun σ H => D.nx (σ.set i none) H, rt := D.rt, bk := fun σ H => D.bk (σ.set i none) H, ct := fun σ H => D.ct (σ.set i none) H }
def putv (o : Option Nat) (a : Addr) (σ : L2.St) : L2.St := match o with
  | none => σ
  | some i => σ.set i (some (.ref a))
def wManyA (K : PySem.W.Frag) (Wout : WX) (D : Ends) : List Hd1 → WX
  | [] => Wout
  | (c, o, ts) :: r => fun cls d σ H => ∃ b, PySem.W.exmOne K cls c = some b ∧ (b = true → ∀ a, H a = none → ts a cls d (cut o D) (putv o a σ) H) ∧ (b = false → wManyA K Wout D r cls d σ H)
inductive HdsA (X : Cx) : List ExceptHandler → List Hd1 → Prop where
  | nil : HdsA X [] []
  | cons {x : Str} {c : Value} {ts : Addr → Value → Option Addr → TS} {b₀ : Stmt} {suite : List Stmt} {np pos' : Pos} {hds : List ExceptHandler} {l : List Hd1} (hc : Names X x c)
      (hsu : ∀ (a : Addr) (oe : Obj) (cls : Value) (d : Option Addr) (pn : List (Addr × Obj)), Zc cls d oe → (∃ vs, oe.data = .fields vs) → PSs (X.suite a ((a, oe) :: pn)) (b₀ :: suite) (ts a cls d)) (r : HdsA X hds l) :
      HdsA X (.ExceptHandler (some (.Name x np)) none (b₀ :: suite) pos' :: hds) ((c, none, ts) :: l)
  | as {x n : Str} {i : Nat} {c : Value} {ts : Addr → Value → Option Addr → TS} {b₀ : Stmt} {suite : List Stmt} {np pos' : Pos} {hds : List ExceptHandler} {l : List Hd1} (hN : X.N.Nodup) (hi : X.N[i]? = some n) (hln : X.env.kindOf n = some .local) (hc : Names X x c)
      (hsu : ∀ (a : Addr) (oe : Obj) (cls : Value) (d : Option Addr) (pn : List (Addr × Obj)), Zc cls d oe → (∃ vs, oe.data = .fields vs) → PSs (X.suite a ((a, oe) :: pn)) (b₀ :: suite) (ts a cls d)) (r : HdsA X hds l) :
      HdsA X (.ExceptHandler (some (.Name x np)) (some n) (b₀ :: suite) pos' :: hds) ((c, some i, ts) :: l)
theorem ps_try_manyA {X : Cx} {body : List Stmt} {h₀ : ExceptHandler} {hds : List ExceptHandler} {l : List Hd1} {pos : Pos} {tb : WX → TS} {Wout : WX} (hs : X.stack = X.env :: X.outer) (hf : X.env.frame = some X.env.locals) (tk : Takes X Wout)
    (hb : ∀ (W : WX) (pn : List (Addr × Obj)) (xe : Value → Shared → Prop), Takes (X.tr pn xe) W → PassesOwn (model X.prog X.w) X.A X.env xe → PSs (X.tr pn xe) body (tb W)) (hh : HdsA X (h₀ :: hds) l) :
    PS X (.Try body (h₀ :: hds) [] [] pos) fun D σ H => tb (wManyA X.K Wout D l) D σ H := by
  refine ⟨fun pins s σ H D I h => ?_⟩
  have ok := I.ok
  have hfr : X.A.frames = some (X.env :: X.outer) := by rw [ok.frames, hs]
  refine wpAny_Try_except (wpAny_mono ((hb (wManyA X.K Wout D l) (X.pn ++ pins) (fun e s₁ => wpAny (model X.prog X.w) X.A (noteFrame e X.env) (fun _ s₂ => wpAny (model X.prog X.w) X.A (setFlight e none) (fun _ s₃ => wpAny (model X.prog X.w) X.A (handleBy e X.env (h₀ :: hds)) (SP X pins D) X.xe s₃) X.xe s₂) X.xe s₁) ?_ PassesOwn.looking).run [] s σ H D (Inv.toTry I _) h) (fun f s1 hsp => ?_) fun e s1 he => he)
  · intro u s' xx
    obtain ⟨a, B, sI, pins', σ', H', cls, d, rfl, J', nb, up, sky, na, os, ag, w⟩ := xx
    have J := Inv.ofTry J' ok
    have sky' : Sky B (X.env :: X.outer) a (Zc cls d) X.env.locals s'.heap := by rw [← hs]; exact sky
    refine Sky.land Zc.steady hfr hf sky' fun h3 fl3 up3 => ?_
    have J3 := Inv.landed (s' := { heap := h3, gens := s'.gens, drawn := s'.drawn, toks := s'.toks, os := s'.os }) J nb fl3.1 (up.trans up3) os ag
    obtain ⟨oe3, vs3, he3, hz3, hd3⟩ := HandSPX.FlyingZ.there fl3
    have nfr : a ∉ (X.env :: X.outer).filterMap (·.frame) := fun hm => by
      obtain ⟨_, o', e', hnf⟩ := Heap.FunFrames.mem fl3.2.2.1 hm
      rw [he3] at e'
      cases e'
      exact hnf vs3 hd3
    have nL : a ≠ X.env.locals := fun z => nfr (List.mem_filterMap.mpr ⟨X.env, List.mem_cons_self, by rw [hf, z]⟩)
    have nF : a ∉ X.fs := fun hm => by
      obtain ⟨e, he, q⟩ := List.mem_filterMap.mp hm
      exact nfr (List.mem_filterMap.mpr ⟨e, List.mem_cons_of_mem _ he, q⟩)
    have S3 := Inv.suite J3 he3 hd3 na nL nF
    have go : ∀ {hds' : List ExceptHandler} {l' : List Hd1}, HdsA X hds' l' → wManyA X.K Wout D l' cls d σ' H' → wpAny (model X.prog X.w) X.A (handleBy (.ref a) X.env hds') (SP X pins D) X.xe { heap := h3, gens := s'.gens, drawn := s'.drawn, toks := s'.toks, os := s'.os } := by
      intro hds' l' hk
      induction hk with
      | nil =>
        intro w
        refine wpAny_handleBy_nil ?_
        obtain ⟨k1, k2, k3, oe, vs, T, oT, ts', he, hz, hd, h1, hr⟩ := id fl3
        refine wpAny_bind (wpAny_field he hd h1 ?_)
        rw [if_neg (by simp)]
        refine wpAny_bind ?_
        rw [hf]
        refine HandSPX.setFlight_upZ fl3 fun h4 hh4 up4 => wpAny_throw (tk (.ref a) _ ?_)
        exact ⟨a, B, sI, pins, σ', H', cls, d, rfl, J, nb, (up.trans up3).trans up4, .inr (.inr (by rw [hs]; exact hh4)), na, os, ag, w⟩
      | @cons x c ts b₀ suite np pos' hds2 l2 hc hsu r ih =>
        intro w
        obtain ⟨b, hb1, hyes, hno⟩ := w
        refine wpAny_handleBy_cons (codeAny_handlers_test ?_) (fun q => by cases q)
        have LT : PySem.W.Looks (model X.prog X.w) h3 (typeOf (.ref a)) cls := fun A Q E s k q => wpAny_typeOf_ref (k a oe3 he3) (by rw [hz3.1]; exact q)
        have LM := PySem.W.exm_one J3.kIn LT hb1
        have test : ∀ {Q : Value → Shared → Prop} {E : Value → Shared → Prop}, Q c _ → wpAny (model X.prog X.w) (X.suite a ((a, oe3) :: (X.pn ++ pins))).A (eval (.Name x np) X.env) Q E { heap := h3, gens := s'.gens, drawn := s'.drawn, toks := s'.toks, os := s'.os } := fun {Q E} q => by
          obtain ⟨hg, hdbg, hm | ⟨hm, hv, hnn⟩⟩ := hc
          · exact ld_glob S3 hg hm q hdbg
          · exact ld_blt S3 hg hm hv q hnn hdbg
        refine test (PySem.W.Looks.here LM ?_)
        cases b with
        | false => exact ih (hno rfl)
        | true =>
          refine codeAny_handlers_suite (HandSPX.lands_againZ fl3 fun h4 fl4 up4 => ?_)
          have J4 := Inv.landed (s' := { heap := h4, gens := s'.gens, drawn := s'.drawn, toks := s'.toks, os := s'.os }) J nb fl4.1 ((up.trans up3).trans up4) os ag
          obtain ⟨oe4, vs4, he4, hz4, hd4⟩ := HandSPX.FlyingZ.there fl4
          have S4 := Inv.suite J4 he4 hd4 na nL nF
          refine wpAny_mono ((hsu a oe4 cls d (X.pn ++ pins) hz4 ⟨vs4, hd4⟩).run [] _ σ' H' D S4 (hyes rfl a na)) (fun f s6 hsp => ?_) fun _ _ z => z.elim
          cases f with
          | ret u => obtain ⟨v6, σ6, H6, S6, r6, q6⟩ := hsp; exact ⟨v6, σ6, H6, Inv.unsuite S6 ok, r6, q6⟩
          | _ => obtain ⟨σ6, H6, S6, q6⟩ := hsp; exact ⟨σ6, H6, Inv.unsuite S6 ok, q6⟩
      | @as x n i c ts b₀ suite np pos' hds2 l2 hN hi hln hc hsu r ih =>
        intro w
        obtain ⟨b, hb1, hyes, hno⟩ := w
        refine wpAny_handleBy_cons (codeAny_handlers_test ?_) (fun q => by cases q)
        have LT : PySem.W.Looks (model X.prog X.w) h3 (typeOf (.ref a)) cls := fun A Q E s k q => wpAny_typeOf_ref (k a oe3 he3) (by rw [hz3.1]; exact q)
        have LM := PySem.W.exm_one J3.kIn LT hb1
        have test : ∀ {Q : Value → Shared → Prop} {E : Value → Shared → Prop}, Q c _ → wpAny (model X.prog X.w) (X.suite a ((a, oe3) :: (X.pn ++ pins))).A (eval (.Name x np) X.env) Q E { heap := h3, gens := s'.gens, drawn := s'.drawn, toks := s'.toks, os := s'.os } := fun {Q E} q => by
          obtain ⟨hg, hdbg, hm | ⟨hm, hv, hnn⟩⟩ := hc
          · exact ld_glob S3 hg hm q hdbg
          · exact ld_blt S3 hg hm hv q hnn hdbg
        refine test (PySem.W.Looks.here LM ?_)
        cases b with
        | false => exact ih (hno rfl)
        | true =>
          refine codeAny_handlers_suite_as (HandSPX.lands_againZ fl3 fun h4 fl4 up4 => ?_)
          have J4 := Inv.landed (s' := { heap := h4, gens := s'.gens, drawn := s'.drawn, toks := s'.toks, os := s'.os }) J nb fl4.1 ((up.trans up3).trans up4) os ag
          obtain ⟨oe4, vs4, he4, hz4, hd4⟩ := HandSPX.FlyingZ.there fl4
          have S4 := Inv.suite J4 he4 hd4 na nL nF
          have hloc : L2.Loc X.env.scope n := .inl hln
          refine store_ok (X := X.suite a ((a, oe4) :: (X.pn ++ pins))) (v := V.ref a) S4 hN hi hloc rfl (fun s5 S5 => ?_) (.inr hln)
          refine wpAny_mono ((hsu a oe4 cls d (X.pn ++ pins) hz4 ⟨vs4, hd4⟩).run [] s5 (σ'.set i (some (.ref a))) H' (cut (some i) D) S5 (hyes rfl a na)) (fun f s6 hsp => ?_) fun _ _ z => z.elim
          cases f with
          | ret u => obtain ⟨v6, σ6, H6, S6, r6, q6⟩ := hsp; exact gone_ok (Inv.unsuite S6 ok) hN hi hln fun s7 J7 => ⟨v6, σ6.set i none, H6, J7, r6, q6⟩
          | _ => obtain ⟨σ6, H6, S6, q6⟩ := hsp; exact gone_ok (Inv.unsuite S6 ok) hN hi hln fun s7 J7 => ⟨σ6.set i none, H6, J7, q6⟩
    exact go hh w
  · cases f with
    | next => obtain ⟨σ', H', J', q⟩ := hsp; exact wpAny_execs_nil ⟨σ', H', Inv.ofTry J' ok, q⟩
    | ret u => obtain ⟨v, σ', H', J', r, q⟩ := hsp; exact ⟨v, σ', H', Inv.ofTry J' ok, r, q⟩
    | _ => obtain ⟨σ', H', J', q⟩ := hsp; exact ⟨σ', H', Inv.ofTry J' ok, q⟩
end TM

-- part DO10
set_option Elab.async false
set_option linter.all false
set_option maxRecDepth 100000
set_option maxHeartbeats 2000000
/-! try with several clauses over data -/
namespace DL
open PySem PySem.Spec PyProof.Rows L2 GxR GS GA GD TM
inductive Hx where
  | as (em : Str → Option Bool) (C : Str) (i : Nat) (ts : Addr → Addr → DS)
  | as0 (em : Str → Option Bool) (C : Str) (i : Nat) (ts : Addr → DS)
  | on (em : Str → Option Bool) (C : Str) (ts : DS)
def cutN (i : Nat) (N : DN) : DN := { nx := fun ρ2 => N.nx (ρ2.set i .no), rt := N.rt, bk := fun ρ2 => N.bk (ρ2.set i .no), ct := fun ρ2 => N.ct (ρ2.set i .no) }
def hxK (X : XF) (N : DN) : List Hx → XF
  | [] => X
  | .as em C i ts :: r => fun x ρ1 => oK (em x.cls) fun b => if b = true then x.cls = C ∧ oK x.arg fun q => i < ρ1.length ∧ ∀ a dd, ts a dd X0n (cutN i N) (ρ1.set i (.va (.xc a dd q.1 q.2))) else hxK X N r x ρ1
  | .as0 em C i ts :: r => fun x ρ1 => oK (em x.cls) fun b => if b = true then x.cls = C ∧ x.arg = none ∧ i < ρ1.length ∧ ∀ a, ts a X0n (cutN i N) (ρ1.set i (.va (.xn a))) else hxK X N r x ρ1
  | .on em C ts :: r => fun x ρ1 => oK (em x.cls) fun b => if b = true then ts X0n N ρ1 else hxK X N r x ρ1
def dTryM (tb : DS) (hs : List Hx) : DS := fun X N ρ => tb (hxK X N hs) N ρ
def toL (K : PySem.W.Frag) (Ts : AP) (W : WX) : Hx → Hd1
  | .as em C i ts => (.ref (He.ga K C), some i, fun a cls d E σ H => ∃ dd, cls = .ref (He.ga K C) ∧ d = some dd ∧ upS K Ts W (ts a dd) E σ H)
  | .as0 em C i ts => (.ref (He.ga K C), some i, fun a cls d E σ H => cls = .ref (He.ga K C) ∧ d = none ∧ upS K Ts W (ts a) E σ H)
  | .on em C ts => (.ref (He.ga K C), none, fun a cls d E σ H => upS K Ts W ts E σ H)
abbrev EmOk (X : Cx) (C : Str) (em : Str → Option Bool) : Prop := ∀ c b, em c = some b → PySem.W.exmOne X.K (.ref (He.ga X.K c)) (.ref (He.ga X.K C)) = some b
inductive HdsD (X : Cx) (Ts : AP) (W : WX) : List ExceptHandler → List Hx → Prop where
  | nil : HdsD X Ts W [] []
  | as {em : Str → Option Bool} {C x n : Str} {i : Nat} {ts : Addr → Addr → DS} {b₀ : Stmt} {suite : List Stmt} {np pos' : Pos} {hds : List ExceptHandler} {l : List Hx} (hN : X.N.Nodup) (hi : X.N[i]? = some n) (hln : X.env.kindOf n = some .local) (hc : Names X x (.ref (He.ga X.K C))) (hem : EmOk X C em)
      (hsu : ∀ (a dd : Addr) (oe : Obj) (pn : List (Addr × Obj)), Zc (.ref (He.ga X.K C)) (some dd) oe → (∃ vs, oe.data = .fields vs) → PSs (X.suite a ((a, oe) :: pn)) (b₀ :: suite) (upS X.K Ts W (ts a dd))) (r : HdsD X Ts W hds l) :
      HdsD X Ts W (.ExceptHandler (some (.Name x np)) (some n) (b₀ :: suite) pos' :: hds) (.as em C i ts :: l)
  | as0 {em : Str → Option Bool} {C x n : Str} {i : Nat} {ts : Addr → DS} {b₀ : Stmt} {suite : List Stmt} {np pos' : Pos} {hds : List ExceptHandler} {l : List Hx} (hN : X.N.Nodup) (hi : X.N[i]? = some n) (hln : X.env.kindOf n = some .local) (hc : Names X x (.ref (He.ga X.K C))) (hem : EmOk X C em)
      (hsu : ∀ (a : Addr) (oe : Obj) (pn : List (Addr × Obj)), Zc (.ref (He.ga X.K C)) none oe → (∃ vs, oe.data = .fields vs) → PSs (X.suite a ((a, oe) :: pn)) (b₀ :: suite) (upS X.K Ts W (ts a))) (r : HdsD X Ts W hds l) :
      HdsD X Ts W (.ExceptHandler (some (.Name x np)) (some n) (b₀ :: suite) pos' :: hds) (.as0 em C i ts :: l)
  | on {em : Str → Option Bool} {C x : Str} {ts : DS} {b₀ : Stmt} {suite : List Stmt} {np pos' : Pos} {hds : List ExceptHandler} {l : List Hx} (hc : Names X x (.ref (He.ga X.K C))) (hem : EmOk X C em)
      (hsu : ∀ (a : Addr) (oe : Obj) (pn : List (Addr × Obj)), PSs (X.suite a ((a, oe) :: pn)) (b₀ :: suite) (upS X.K Ts W ts)) (r : HdsD X Ts W hds l) :
      HdsD X Ts W (.ExceptHandler (some (.Name x np)) none (b₀ :: suite) pos' :: hds) (.on em C ts :: l)
section
variable {X : Cx} {Ts : AP} {W : WX} {tb : DS} {body : List Stmt} {h₀ : ExceptHandler} {hds : List ExceptHandler} {hs : List Hx} {pos : Pos}
theorem HdsD.toA (h : HdsD X Ts W hds hs) : HdsA X hds (hs.map (toL X.K Ts W)) := by
  induction h with
  | nil => exact .nil
  | as hN hi hln hc hem hsu r ih =>
    refine .as hN hi hln hc (fun a oe cls d pn hz hfd => ⟨fun pins s σ H D I q => ?_⟩) ih
    obtain ⟨dd, rfl, rfl, q⟩ := q
    exact (hsu a dd oe pn hz hfd).run pins s σ H D I q
  | as0 hN hi hln hc hem hsu r ih =>
    refine .as hN hi hln hc (fun a oe cls d pn hz hfd => ⟨fun pins s σ H D I q => ?_⟩) ih
    obtain ⟨rfl, rfl, q⟩ := q
    exact (hsu a oe pn hz hfd).run pins s σ H D I q
  | on hc hem hsu r ih => exact .cons hc (fun a oe cls d pn hz hfd => hsu a oe pn) ih
theorem HdsD.many {H : Hp} {A O : AP} {Xf : XF} {N : DN} {E : Ends} {ρ : List Sl} {σ : L2.St} (h : HdsD X Ts W hds hs) (c : CnS X.K Ts W H A O Xf N E) (m : Mt X.K Ts H A O ρ σ) {y : Xc} {ρ1 : List Sl} {cls : Value} {od : Option Addr} {σ1 : L2.St} {H1 : Hp} {A1 O1 : AP} (hx : hxK Xf N hs y ρ1) (t1 : Tr A O H A1 O1 H1) (m1 : Mt X.K Ts H1 A1 O1 ρ1 σ1) (r1 : XR X.K H1 A1 y cls od) :
    wManyA X.K W E (hs.map (toL X.K Ts W)) cls od σ1 H1 := by
  have back : ∀ {i : Nat} {Om2 : AP} {R : List Sl → Prop} {G : L2.St → Hp → Prop} {ρ9 : List Sl} {σ9 : L2.St} (m2 : Mt X.K Ts H1 A1 Om2 ρ9 σ9), (∀ ρ' σ' H' A' O', R ρ' → Tr A1 Om2 H1 A' O' H' → Mt X.K Ts H' A' O' ρ' σ' → G σ' H') → ∀ ρ' σ' H' A' O', R (ρ'.set i .no) → Tr A1 Om2 H1 A' O' H' → Mt X.K Ts H' A' O' ρ' σ' → G (σ'.set i none) H' :=
    fun {i Om2 R G ρ9 σ9} m2 g ρ' σ' H' A' O' hr tr mt => by
      obtain ⟨_, n3, t3⟩ := mt.setNo (i := i) (x := none)
      exact g _ _ _ _ _ hr (tr.trans t3 m2.trk) n3
  induction h with
  | nil => exact c.x y ρ1 cls od σ1 H1 A1 O1 hx t1 m1 r1
  | @as em C x n i ts b₀ suite np pos' hds l hN hi hln hc hem hsu r ih =>
    obtain ⟨b, eb, hx⟩ := oK.get hx
    have r0 := r1.1
    refine ⟨b, by rw [r0]; exact hem _ _ eb, fun hbt a ha => ?_, fun hbf => ?_⟩
    · rw [if_pos hbt] at hx
      obtain ⟨ec, hx⟩ := hx
      obtain ⟨q, eq, il, hx⟩ := hx.get
      obtain ⟨_, r2⟩ := r1
      rw [eq] at r2
      obtain ⟨dd, v, e1, e2, e3⟩ := r2
      have rx : Rp X.K H1 A1 (.xc a dd q.1 q.2) (.ref a) := by unfold Rp; exact ⟨rfl, v, e2, e3⟩
      obtain ⟨Om2, m2, t2⟩ := m1.setVa (i := i) rx
      have c2 := c.move (t1.trans t2 m.trk) m
      exact ⟨dd, by rw [r0, ec], e1, A1, _, _, X0n, _, m2, hx a dd, ⟨back m2 c2.nx, back m2 c2.bk, back m2 c2.ct, c2.rt, fun _ _ _ _ _ _ _ _ z => z.elim⟩⟩
    · rw [if_neg (by rw [hbf]; decide)] at hx
      exact ih hx
  | @as0 em C x n i ts b₀ suite np pos' hds l hN hi hln hc hem hsu r ih =>
    obtain ⟨b, eb, hx⟩ := oK.get hx
    have r0 := r1.1
    refine ⟨b, by rw [r0]; exact hem _ _ eb, fun hbt a ha => ?_, fun hbf => ?_⟩
    · rw [if_pos hbt] at hx
      obtain ⟨ec, eq, il, hx⟩ := hx
      obtain ⟨_, r2⟩ := r1
      rw [eq] at r2
      have rx : Rp X.K H1 A1 (.xn a) (.ref a) := by unfold Rp; rfl
      obtain ⟨Om2, m2, t2⟩ := m1.setVa (i := i) rx
      have c2 := c.move (t1.trans t2 m.trk) m
      exact ⟨by rw [r0, ec], r2, A1, _, _, X0n, _, m2, hx a, ⟨back m2 c2.nx, back m2 c2.bk, back m2 c2.ct, c2.rt, fun _ _ _ _ _ _ _ _ z => z.elim⟩⟩
    · rw [if_neg (by rw [hbf]; decide)] at hx
      exact ih hx
  | @on em C x ts b₀ suite np pos' hds l hc hem hsu r ih =>
    obtain ⟨b, eb, hx⟩ := oK.get hx
    have r0 := r1.1
    refine ⟨b, by rw [r0]; exact hem _ _ eb, fun hbt a ha => ?_, fun hbf => ?_⟩
    · rw [if_pos hbt] at hx
      have c2 := c.move t1 m
      exact ⟨A1, O1, ρ1, X0n, N, m1, hx, ⟨c2.nx, c2.bk, c2.ct, c2.rt, fun _ _ _ _ _ _ _ _ z => z.elim⟩⟩
    · rw [if_neg (by rw [hbf]; decide)] at hx
      exact ih hx
theorem ds_tryM (hs1 : X.stack = X.env :: X.outer) (hf : X.env.frame = some X.env.locals) (tk : Takes X W)
    (hb : ∀ (W : WX) (pn : List (Addr × Obj)) (xe : Value → Shared → Prop), Takes (X.tr pn xe) W → PassesOwn (model X.prog X.w) X.A X.env xe → PSs (X.tr pn xe) body (upS X.K Ts W tb)) (hh : HdsD X Ts W (h₀ :: hds) hs) :
    PS X (.Try body (h₀ :: hds) [] [] pos) (upS X.K Ts W (dTryM tb hs)) := by
  refine (ps_try_manyA (pos := pos) (Wout := W) (tb := fun W => upS X.K Ts W tb) hs1 hf tk hb hh.toA).imp fun E σ H h => ?_
  obtain ⟨A, O, ρ, Xf, N, m, h, c⟩ := h
  exact ⟨A, O, ρ, _, N, m, h, ⟨c.nx, c.bk, c.ct, c.rt, fun y ρ1 cls od σ1 H1 A1 O1 hx t1 m1 r1 => hh.many c m hx t1 m1 r1⟩⟩
end
theorem dTryM_ev {tb : DS} {hs : List Hx} {X : XF} {N : DN} {ρ : List Sl} : dTryM tb hs X N ρ = tb (kk (hxK X N hs)) N ρ := rfl
theorem hxK_nil {X : XF} {N : DN} : hxK X N [] = X := rfl
theorem hxK_as {X : XF} {N : DN} {em : Str → Option Bool} {C : Str} {i : Nat} {ts : Addr → Addr → DS} {r : List Hx} {x : Xc} {ρ1 : List Sl} : hxK X N (.as em C i ts :: r) x ρ1 = oK (em x.cls) (kk fun b => iK b (x.cls = C ∧ oK x.arg (kk fun q => i < ρ1.length ∧ ∀ a dd, ts a dd X0n (cutN i N) (ρ1.set i (.va (.xc a dd q.1 q.2))))) (hxK X N r x ρ1)) := rfl
theorem hxK_as0 {X : XF} {N : DN} {em : Str → Option Bool} {C : Str} {i : Nat} {ts : Addr → DS} {r : List Hx} {x : Xc} {ρ1 : List Sl} : hxK X N (.as0 em C i ts :: r) x ρ1 = oK (em x.cls) (kk fun b => iK b (x.cls = C ∧ x.arg = none ∧ i < ρ1.length ∧ ∀ a, ts a X0n (cutN i N) (ρ1.set i (.va (.xn a)))) (hxK X N r x ρ1)) := rfl
theorem hxK_on {X : XF} {N : DN} {em : Str → Option Bool} {C : Str} {ts : DS} {r : List Hx} {x : Xc} {ρ1 : List Sl} : hxK X N (.on em C ts :: r) x ρ1 = oK (em x.cls) (kk fun b => iK b (ts X0n N ρ1) (hxK X N r x ρ1)) := rfl
theorem cutN_rt {N : DN} {i : Nat} : (cutN i N).rt = N.rt := rfl
theorem cutN_nx {N : DN} {i : Nat} {ρ : List Sl} : (cutN i N).nx ρ = N.nx (ρ.set i .no) := rfl
end DL

-- part DO11
set_option Elab.async false
set_option linter.all false
set_option maxRecDepth 100000
set_option maxHeartbeats 2000000
/-! x.f = tuple(e); len of dicts; comprehensions with two names; clear; a list lent to a class -/
namespace DL
open PySem PySem.Spec PyProof.Rows L2 GxR GS GA GD
/-! ### x.f = tuple(e) -/
def tlK (d : D) (Q : List D → Prop) : Prop := match d with
  | .lst ds => Q ds
  | _ => False
theorem tlK_l {ds : List D} {Q : List D → Prop} : tlK (.lst ds) Q = Q ds := rfl
def dOTq (i : Nat) (C f : Str) (te : DE) : DS := fun X N ρ => te X ρ fun d _ ρ1 => tlK d fun ds => obWr (sl ρ1 i) C fun a fs => fs.length < 1000 ∧ N.nx (ρ1.set i (.ob a C (putFd f (.tq ds) fs)))
section
variable {X : Cx} {Ts : AP} {W : WX} {e : Expr} {te : DE} {p p3 pos cpos : Pos} {x : Str} {i : Nat} {C f : Str}
theorem ds_ostTq {pos' : Pos} (hN : X.N[i]? = some x) (hv : Vis X.env.scope x) (he : PE X e (upE X.K Ts W te)) (c : Cls X.K (He.ga X.K C)) (na : NoAttr X.K (He.ga X.K C) f) (hg : Gl X "tuple") (hm : X.mg "tuple" = none) (hbt : bootBuiltins "tuple" = some (.type "tuple")) (hd : (x == ("__debug__" : Str)) = false := by decide) (hcd : (x == ("__classdict__" : Str)) = false := by decide)
    (hst : starEach [e] X.env = (false, eval e X.env) :: starEach [] X.env := by rfl) (hpl : (backTo cpos (starEach [] X.env)).any (·.1) = false := by rfl)
    (hs : swapsWith (.Call (.Name "tuple" p3) [e] [] cpos) (some (.Attribute (.Name x p) f pos')) pos.line X.env = pure false := by rfl) : PS X (.Assign [.Attribute (.Name x p) f pos'] (.Call (.Name "tuple" p3) [e] [] cpos) pos) (upS X.K Ts W (dOTq i C f te)) := by
  refine (ps_fld (pe_var hN hv hd hcd) (pe_callTy call_tupleZ hg hm hbt (pa_cons he pa_nil hst) (by decide) (by decide) hst hpl) hs).imp fun E σ H h => ?_
  obtain ⟨A, O, ρ, Xf, N, m, h, cn⟩ := h
  refine ⟨A, O, ρ, Xf, _, m, h, fun d κ ρ1 v H1 A1 O1 h1 s1 t1 m1 r1 => ?_, fun x ρ' cls od H' A' O' => cn.x x ρ' cls od σ H' A' O'⟩
  unfold tlK at h1
  split at h1
  · rename_i ds
    obtain ⟨a, fs, es, hl, h1⟩ := obWr.get h1
    have es := sl_get es (by simp)
    obtain ⟨l, vs, rfl, g1, g2⟩ := r1.wk.lst
    refine ⟨l, vs, rfl, SqL.of g1, fun q o hq ho => ?_⟩
    have s2 := Sm.new (o := .frz o (.tup vs)) hq
    have rt : RpL X.K (L2.upd H1 q (.frz o (.tup vs))) A1 ds vs := g2.sm s2
    have m2 := (m1.sm s2).consVa (v := .ref q) (d := .tup ds) (by unfold Rp; exact ⟨q, vs, rfl, .inl (.inr ⟨o, upd_same⟩), rt⟩)
    obtain ⟨g, mg⟩ := m2
    have g0 : g 0 = [] := by obtain ⟨_, _, e, _⟩ := mg.at_ 0 _ _ rfl rfl; exact e
    obtain ⟨dx, ws, eo, e4, el, O2, m3, t3⟩ := mg.fst (f := f) (fd := .tq ds) (by rw [g0]; exact ⟨rfl, q, o, vs, rfl, upd_same, ho, rt⟩) es
    refine ⟨_, eo, a, _, dx, ws, rfl, e4, c, na, by rw [el]; exact hl, ?_⟩
    exact cn.nx _ _ _ _ _ h1 ((t1.trans (Tr.of s2) m.trk).trans t3 m.trk) m3
  · exact h1.elim
/-! ### len -/
def gLenA : List D → (D → Kd → Prop) → Prop
  | [.dct ks ds], Q => ks.length ≤ sizeLine ∧ Q (.int ks.length) .sh
  | ds, Q => gLen ds Q
theorem gLenA_d {ks : List Key} {ds : List D} {Q : D → Kd → Prop} : gLenA [.dct ks ds] Q = (ks.length ≤ sizeLine ∧ Q (.int ks.length) .sh) := rfl
theorem gLenA_l {ds : List D} {Q : D → Kd → Prop} : gLenA [.lst ds] Q = Q (.int ds.length) .sh := rfl
theorem gLenA_t {ds : List D} {Q : D → Kd → Prop} : gLenA [.tup ds] Q = Q (.int ds.length) .sh := rfl
theorem gLenA_s {s : Str} {Q : D → Kd → Prop} : gLenA [.str s] Q = (s.length ≤ sizeLine ∧ Q (.int s.length) .sh) := rfl
theorem dcl_lenA : DCl X Ts (.builtin "len") gLenA := by
  obtain ⟨r, h1, h2⟩ := dcl_len (X := X) (Ts := Ts)
  refine ⟨_, CallR.or h1 call_lenD, fun W σ H A O ρ Xf Qd Q ds vs hd m c q => ?_⟩
  unfold gLenA at q
  split at q
  · obtain ⟨v, rfl, w⟩ := hd.one
    obtain ⟨a, us, rfl, g1, g2, g3⟩ := w
    refine .inr ⟨a, _, rfl, g1, c.flat m q.2 ?_⟩
    unfold Rp
    rw [List.length_zip, ← g2, Nat.min_self]
  · exact .inl (h2 W σ H A O ρ Xf Qd Q _ vs hd m c q)
/-! ### x.clear() -/
def dClr (i : Nat) : DS := fun _ N ρ => owAt ρ i fun _ => N.nx (ρ.set i (.ow []))
theorem ds_clear {apos pos' : Pos} (hN : X.N[i]? = some x) (hv : Vis X.env.scope x) (hd : (x == ("__debug__" : Str)) = false := by decide) (hcd : (x == ("__classdict__" : Str)) = false := by decide)
    (hslot : Slot "list" "clear" "list.clear" := by exact PySem.F.slot_list_clear) (hty : typeOf (.builtin "list.clear") = pure (.type "method_descriptor") := by rfl)
    (hbase : attributeBase (.Name x p) "clear" X.env (eval (.Name x p) X.env) = eval (.Name x p) X.env := by rfl) (hline : (apos.endLine == cpos.line) = true := by rfl)
    (hsw : swapsWith (.Call (.Attribute (.Name x p) "clear" apos) [] [] cpos) none pos'.line X.env = pure false := by rfl) :
    PS X (.Expr (.Call (.Attribute (.Name x p) "clear" apos) [] [] cpos) pos') (upS X.K Ts W (dClr i)) := by
  refine (ps_expr (pe_bm0 PySem.F.plainAttrs_list hslot hty mt_clear (pe_var hN hv hd hcd) hbase hline) hsw).imp fun E σ H h => ?_
  obtain ⟨A, O, ρ, Xf, N, m, h, c⟩ := h
  obtain ⟨ds0, e0, h⟩ := h.get
  obtain ⟨a, vs0, h1, h2, h3, h4⟩ := m.ow i ds0 e0
  refine ⟨_, h1, .inl ⟨rfl, vs0, SqL.of h3⟩, a, vs0, rfl, rfl, h3, ?_⟩
  obtain ⟨_, m2, t2⟩ := m.put (es := []) (vs := []) e0 h1 h3 h2 RpL.nil
  exact c.nx _ σ _ _ _ h t2 m2
end
end DL

-- part DO12
set_option Elab.async false
set_option linter.all false
set_option maxRecDepth 100000
set_option maxHeartbeats 2000000
/-! comprehensions and generators with two names -/
namespace DL
open PySem PySem.Spec PyProof.Rows L2 GxR GS GA GD
theorem wipe2 (σ : L2.St) (i j : Nat) (x y : Option V) : ((wipe σ [i, j]).set i x).set j y = (σ.set i x).set j y := by
  show (((σ.set j none).set i none).set i x).set j y = _
  by_cases h : i = j
  · subst h; rw [List.set_set, List.set_set, List.set_set, List.set_set]
  · rw [List.set_set, List.set_comm none x (fun z => h z.symm), List.set_set]
theorem wipe2b (σ : L2.St) (i j : Nat) (x y : Option V) : wipe ((σ.set i x).set j y) [i, j] = wipe σ [i, j] := by
  show ((((σ.set i x).set j y).set j none).set i none) = (σ.set j none).set i none
  by_cases h : i = j
  · subst h; rw [List.set_set, List.set_set, List.set_set, List.set_set]
  · rw [List.set_set, List.set_comm x none h, List.set_set]
abbrev gPair (K : PySem.W.Frag) (i j : Nat) : TG := gTup K 2 (gCons (gName i) (gCons (gName j) gNil))
def dLcP (ti : DI) (i j : Nat) (tt : DT) (te : DE) : DE := fun X ρ Q => ti X ρ fun ds _ ρ1 => ds.length ≤ sizeLine ∧ ∃ f : D → Option D,
  (∀ d ∈ ds, ∃ a b, d = .tup [a, b] ∧ tt X0 ((ρ1.set i (.va a)).set j (.va b)) fun c ρ2 => if c = true then te X0 ρ2 fun z κ ρ3 => κ ≠ .bo ∧ ρ3 = (ρ1.set i (.va a)).set j (.va b) ∧ f d = some z else f d = none) ∧ Q (.lst (ds.filterMap f)) .fr ρ1
section
variable {X : Cx} {Ts : AP} {W : WX}
theorem up_lcP {ti : DI} {i j : Nat} {tt : DT} {te : DE} {σ : L2.St} {H : Hp} {Q : VK} (h : upE X.K Ts W (dLcP ti i j tt te) σ H Q) : tLc (upI X.K Ts W ti) (gPair X.K i j) (upT X.K Ts W0 tt) (upE X.K Ts W0 te) [i, j] σ H Q := by
  obtain ⟨A, O, ρ, Xf, Qd, m, h, c⟩ := h
  refine ⟨A, O, ρ, Xf, _, m, h, fun ds lent ρ1 J H1 A1 O1 h1 s1 t1 m1 w1 => ?_, c.x⟩
  obtain ⟨hz, f, hf, hq⟩ := h1
  have c1 := c.move s1 t1 m
  obtain ⟨G, Y, w, hG, hY⟩ := w1.ex
  intro Dd hD
  have mD : ∀ {H' : Hp}, Sm H1 H' → H' Dd ≠ none → Mt X.K Ts H' (fun b => A1 b ∨ b = Dd) O1 ρ1 σ := fun s n => m1.fresh hD s n
  have tD : ∀ {H' : Hp}, Sm H1 H' → Tr A1 O1 H1 (fun b => A1 b ∨ b = Dd) O1 H' := fun s => ⟨Kp.of s, fun b z => z.imp id fun q => by rw [q]; exact hD, fun b z _ => .inl z, fun b z => .inl z⟩
  refine lc_it w (Qd := fun H => Q (.ref Dd) H) (fun k H' => Sm H1 H' ∧ ∃ vs, H' Dd = some (.lst vs) ∧ RpL X.K H' (fun b => A1 b ∨ b = Dd) ((ds.take k).filterMap f) vs) ⟨Sm.new hD, [], upd_same, RpL.nil⟩ (fun k H' _ p => hG H' A1 O1 (Tr.of p.1) fun _ => p.1) (fun k x H' H'' hk p y => ?_) fun H' p => ?_
  · obtain ⟨p1, vs, p2, p3⟩ := p
    obtain ⟨s2, d, ed, rd⟩ := hY k H' (fun b => A1 b ∨ b = Dd) O1 x H'' hk (tD p1) (fun _ => p1) y
    have s12 := p1.trans s2
    have n2 : H'' Dd = some (.lst vs) := s2.st _ _ p2 fun _ z => by cases z
    have mm := mD s12 (by rw [n2]; exact fun z => by cases z)
    obtain ⟨da, db, edp, hf1⟩ := hf d (List.mem_of_getElem? ed)
    have rd0 := rd
    rw [edp] at rd0
    unfold Rp at rd0
    obtain ⟨q, us, rfl, g1, g2⟩ := rd0
    obtain ⟨va, u1, rfl, ra, g3⟩ := g2.uncons
    obtain ⟨vb, u2, rfl, rb, g4⟩ := g3.uncons
    obtain rfl := g4.unnil
    refine ⟨q, [va, vb], rfl, g1, rfl, va, [vb], rfl, vb, [], rfl, rfl, ?_⟩
    rw [wipe2]
    refine ⟨wipe2b σ i j (some va) (some vb), ?_⟩
    obtain ⟨O2', m2', t2'⟩ := mm.setVa (i := i) ra
    obtain ⟨_, m2, t2''⟩ := m2'.setVa (i := j) rb
    have t2 := t2'.trans t2'' mm.trk
    refine ⟨_, _, _, _, _, m2, hf1, ⟨fun b ρ2 H3 A3 O3 h3 s3 t3 m3 => ?_, fun x ρ' cls od H' A' O' z => z.elim⟩⟩
    have n3 : H3 Dd = some (.lst vs) := s3.st _ _ n2 fun _ z => by cases z
    have tk : (ds.take (k + 1)).filterMap f = (ds.take k).filterMap f ++ (match f d with | some z => [z] | none => []) := by
      rw [List.take_add_one, ed, List.filterMap_append]
      show _ ++ List.filterMap f [d] = _
      cases hfd : f d with
      | some z => rw [List.filterMap_cons_some hfd]; rfl
      | none => rw [List.filterMap_cons_none hfd]; rfl
    cases b with
    | false =>
      have h3 : f d = none := h3
      refine ifF rfl ⟨s12.trans s3, vs, n3, ?_⟩
      rw [tk, h3, List.append_nil]
      exact (p3.sm s2).sm s3
    | true =>
      refine ifT rfl ⟨A3, O3, ρ2, _, _, m3, h3, ⟨fun z κ ρ4 v H4 A4 O4 h4 s4 t4 m4 r4 => ?_, fun x ρ' cls od H' A' O' z => z.elim⟩⟩
      obtain ⟨nb, e4, ef⟩ := h4
      have n4 : H4 Dd = some (.lst vs) := s4.st _ _ n3 fun _ z => by cases z
      subst e4
      have st := m2.stay (t3.trans t4 m2.trk) (s3.trans s4) m4
      have rv : Rp X.K H4 (fun b => A1 b ∨ b = Dd) z v := (r4.rp nb).less st
      have pv : RpL X.K H4 (fun b => A1 b ∨ b = Dd) ((ds.take k).filterMap f) vs := ((p3.sm s2).sm s3).sm s4
      have hm : ∀ u, H4 Dd = some u → isM u := fun u e => by rw [n4] at e; cases e; trivial
      refine ⟨vs, n4, ?_, Sm.own ((s12.trans s3).trans s4) hD (fun P t => tabG_ne t n4 fun _ z => by cases z), vs ++ [v], upd_same, ?_⟩
      · rw [← p3.len]
        have h1 := List.length_filterMap_le f (ds.take k)
        rw [List.length_take] at h1
        omega
      · rw [tk, ef]
        exact (pv.upd (.inr rfl) hm).app (RpL.cons (rv.upd (.inr rfl) hm) RpL.nil)
  · obtain ⟨p1, vs, p2, p3⟩ := p
    rw [List.take_length] at p3
    refine c1.q _ .fr ρ1 _ H' A1 O1 hq p1 (Tr.of p1) (m1.sm p1) ⟨trivial, Dd, rfl, hD, fun z => m1.trk Dd z hD, m1.fr hD p1 p2 p3⟩
theorem de_lcP {elt tg iter : Expr} {ifs : List Expr} {scope : Scope} {own : List (Str × Nat)} {pos : Pos} {ti : DI} {i j : Nat} {tt : DT} {te : DE} (hc : X.calm = true) (hN : X.N.Nodup) (hi : PI X tg iter (upI X.K Ts W ti)) (ok : BlkOk X.N X.env.scope scope own) (ho : own.map (·.2) = [i, j])
    (hg : ∀ (s : Shared) (H : Hp) (C : Addr) (cl : List (Str × Addr)) (fp : List Addr), PG (X.blk s H scope (compEnvC scope cl C X.env) fp) tg (gPair X.K i j)) (ht : ∀ (s : Shared) (H : Hp) (C : Addr) (cl : List (Str × Addr)) (fp : List Addr), PTs (X.blk s H scope (compEnvC scope cl C X.env) fp) ifs (upT X.K Ts W0 tt))
    (he : ∀ (s : Shared) (H : Hp) (C : Addr) (cl : List (Str × Addr)) (fp : List Addr), PE (X.blk s H scope (compEnvC scope cl C X.env) fp) elt (upE X.K Ts W0 te)) (hs : ∀ x, foldedSetIterable iter X.env x = pure x := by intro _; rfl) :
    PE X (.ListComp elt [⟨tg, iter, ifs, 0⟩] scope pos) (upE X.K Ts W (dLcP ti i j tt te)) :=
  (pe_lc hc hN hi ok hg ht he hs).imp fun σ H Q h => by rw [ho]; exact up_lcP h
theorem ds_setLcP {i j l : Nat} {y : Str} {py : Pos} {elt tg iter : Expr} {ifs : List Expr} {scope : Scope} {own : List (Str × Nat)} {pos spos : Pos} {ti : DI} {tt : DT} {te : DE} (hc : X.calm = true) (hN : X.N.Nodup) (hy : X.N[l]? = some y) (hyl : X.env.scope.names.lookup y = some .local)
    (hsw : swapsWith (.ListComp elt [⟨tg, iter, ifs, 0⟩] scope pos) (some (.Name y py)) spos.line X.env = pure true) (hi : PI X tg iter (upI X.K Ts W ti)) (ok : BlkOk X.N X.env.scope scope own) (ho : own.map (·.2) = [i, j])
    (hg : ∀ (s : Shared) (H : Hp) (C : Addr) (cl : List (Str × Addr)) (fp : List Addr), PG (X.blk s H scope (compEnvC scope cl C X.env) fp) tg (gPair X.K i j)) (ht : ∀ (s : Shared) (H : Hp) (C : Addr) (cl : List (Str × Addr)) (fp : List Addr), PTs (X.blk s H scope (compEnvC scope cl C X.env) fp) ifs (upT X.K Ts W0 tt))
    (he : ∀ (s : Shared) (H : Hp) (C : Addr) (cl : List (Str × Addr)) (fp : List Addr), PE (X.blk s H scope (compEnvC scope cl C X.env) fp) elt (upE X.K Ts W0 te)) (hs : ∀ x, foldedSetIterable iter X.env x = pure x := by intro _; rfl) :
    PS X (.Assign [.Name y py] (.ListComp elt [⟨tg, iter, ifs, 0⟩] scope pos) spos) (upS X.K Ts W (dSet l (dLcP ti i j tt te))) := by
  refine (ps_setLc hc hN hy hyl hsw hi ok hg ht he hs).imp fun E σ H h => ?_
  obtain ⟨A, O, ρ, Xf, N, m, h, c⟩ := h
  show tLc _ _ _ _ (own.map (·.2)) σ H _
  rw [ho]
  refine up_lcP ⟨A, O, ρ, Xf, _, m, h, fun d κ ρ1 v H1 A1 O1 h1 s1 t1 m1 r1 => ?_, fun x ρ' cls od H' A' O' => c.x x ρ' cls od σ H' A' O'⟩
  obtain ⟨A2, O2, t2, m2⟩ := stored (i := l) t1 m1 s1 m.trk m.sub r1 h1.1 h1.2.1
  exact c.nx _ _ _ _ _ h1.2.2 t2 m2
/-! ### all(e for x, y in xs), any -/
def dGenP (b : Bool) (ti : DI) (i j : Nat) (te : DE) : DE := fun X ρ Q => ti X ρ fun ds _ ρ1 => ∃ f : D → Bool,
  (∀ d ∈ ds, ∃ p q, d = .tup [p, q] ∧ te X0 ((ρ1.set i (.va p)).set j (.va q)) fun z _ ρ3 => ρ3 = (ρ1.set i (.va p)).set j (.va q) ∧ z = .bl (f d)) ∧ Q (.bl (if b then ds.any f else ds.all f)) .sh ρ1
theorem up_genP {b : Bool} {P : Addr} {ti : DI} {i j : Nat} {te : DE} {σ : L2.St} {H : Hp} {Q : VK} (hP : Ts P) (h : upE X.K Ts W (dGenP b ti i j te) σ H Q) : tGen b P (upI X.K Ts W ti) (gPair X.K i j) (upE X.K Ts W0 te) [i, j] σ H Q := by
  unfold tGen
  obtain ⟨A, O, ρ, Xf, Qd, m, h, c⟩ := h
  refine ⟨A, O, ρ, Xf, _, m, h, fun ds lent ρ1 J H1 A1 O1 h1 s1 t1 m1 w1 => ?_, c.x⟩
  obtain ⟨f, hf, hq⟩ := h1
  have c1 := c.move s1 t1 m
  obtain ⟨G, Y, w, hG, hY⟩ := w1.ex
  have hT := m1.tab P hP
  refine gen_it w hT (fun k H' => Sm H1 H' ∧ ∀ x ∈ ds.take k, f x ≠ b) (fun H2 t => ⟨Sm.tab hT t, by simp⟩) (fun k H' _ p => hG H' A1 O1 (Tr.of p.1) fun _ => p.1) (fun k x H' H'' hk p y => ?_) fun H' p => ?_
  · obtain ⟨s2, d, ed, rd⟩ := hY k H' A1 O1 x H'' hk (Tr.of p.1) (fun _ => p.1) y
    have s12 := p.1.trans s2
    have hm : d ∈ ds := List.mem_of_getElem? ed
    obtain ⟨da, db, edp, hf1⟩ := hf d hm
    have rd0 := rd
    rw [edp] at rd0
    unfold Rp at rd0
    obtain ⟨q, us, rfl, g1, g2⟩ := rd0
    obtain ⟨va, u1, rfl, ra, g3⟩ := g2.uncons
    obtain ⟨vb, u2, rfl, rb, g4⟩ := g3.uncons
    obtain rfl := g4.unnil
    refine ⟨q, [va, vb], rfl, g1, rfl, va, [vb], rfl, vb, [], rfl, rfl, ?_⟩
    rw [wipe2]
    refine ⟨wipe2b σ i j (some va) (some vb), ?_⟩
    obtain ⟨O2', m2', t2'⟩ := (m1.sm s12).setVa (i := i) ra
    obtain ⟨_, m2, t2''⟩ := m2'.setVa (i := j) rb
    refine ⟨_, _, _, _, _, m2, hf1, ⟨fun z κ ρ4 v H4 A4 O4 h4 s4 t4 m4 r4 => ?_, fun x ρ' cls od H' A' O' z => z.elim⟩⟩
    obtain ⟨e4, rfl⟩ := h4
    refine ⟨f d, r4.bl, fun e => ?_, fun e => ⟨s12.trans s4, fun y hy => ?_⟩⟩
    · have e2 : (if b = true then ds.any f else ds.all f) = b := by
        cases b with
        | true => rw [if_pos rfl]; exact List.any_eq_true.mpr ⟨d, hm, e⟩
        | false =>
          rw [if_neg Bool.false_ne_true, List.all_eq_false]
          exact ⟨d, hm, by simp [e]⟩
      have hq2 : Qd (.bl b) .sh ρ1 := by rw [e2] at hq; exact hq
      exact c1.sh m1 (s12.trans s4) hq2 Rp.bl
    · rw [List.take_add_one, ed] at hy
      rcases List.mem_append.mp hy with hy | hy
      · exact p.2 y hy
      · have : y = d := by simpa using hy
        rw [this]; exact e
  · obtain ⟨p1, p2⟩ := p
    rw [List.take_length] at p2
    have e2 : (if b = true then ds.any f else ds.all f) = !b := by
      cases b with
      | true =>
        rw [if_pos rfl]
        show ds.any f = false
        rw [List.any_eq_false]
        exact fun x hx => by simpa using p2 x hx
      | false =>
        rw [if_neg Bool.false_ne_true]
        show ds.all f = true
        rw [List.all_eq_true]
        exact fun x hx => by simpa using p2 x hx
    have hq2 : Qd (.bl (!b)) .sh ρ1 := by rw [e2] at hq; exact hq
    exact c1.sh m1 p1 hq2 Rp.bl
theorem de_allP {c P : Addr} {elt tg iter : Expr} {p pos gpos : Pos} {scope : Scope} {own : List (Str × Nat)} {ti : DI} {i j : Nat} {te : DE} {k : Nat} (hr : Room k X.A) (hc : X.calm = true) (hN : X.N.Nodup) (hm : X.mg "all" = none) (TB : TabB X.base X.mg c P) (hP : Ts P) (hcode : X.env.code = .ref c) (ok : BlkOk X.N X.env.scope scope own) (ho : own.map (·.2) = [i, j]) (hi : PI X tg iter (upI X.K Ts W ti))
    (hg : ∀ (s : Shared) (H : Hp) (cl : List (Str × Addr)) (C : Addr) (code : Value) (fp : List Addr), PG (gcx X s H scope cl C code fp) tg (gPair X.K i j))
    (he : ∀ (s : Shared) (H : Hp) (cl : List (Str × Addr)) (C : Addr) (code : Value) (fp : List Addr), PE (gcx X s H scope cl C code fp) elt (upE X.K Ts W0 te))
    (hncell : ∀ y ∈ scope.names, y.2 ≠ .cell := by decide +kernel) (h0 : scope.names.lookup (".0" : Str) = some .local := by decide +kernel) (hco : scope.isCoroutine = false := by rfl) (hgl : Gl X "all" := by rfl) (hs : ∀ v, genFold iter X.env v = pure v := by intro _; rfl)
    (hst : starEach [.GeneratorExp elt [⟨tg, iter, [], 0⟩] scope gpos] X.env = (false, eval (.GeneratorExp elt [⟨tg, iter, [], 0⟩] scope gpos) X.env) :: starEach [] X.env := by rfl) :
    PE X (.Call (.Name "all" p) [.GeneratorExp elt [⟨tg, iter, [], 0⟩] scope gpos] [] pos) (upE X.K Ts W (dGenP false ti i j te)) :=
  (pe_all hr hc hN hm TB hcode ok hi hg he hncell h0 hco hgl hs hst).imp fun σ H Q h => by rw [ho]; exact up_genP hP h
end
theorem pg_pair {X : Cx} {i j : Nat} {x y : Str} {p q pos : Pos} {k : Nat} (hc : X.calm = true) (hN : X.N.Nodup) (hi : X.N[i]? = some x) (hj : X.N[j]? = some y) (hx : Loc X.env.scope x) (hy : Loc X.env.scope y) (hf : X.fn x = true ∨ X.env.scope.names.lookup x = some .local) (hf2 : X.fn y = true ∨ X.env.scope.names.lookup y = some .local) (hn : (assignEach [.Name x p, .Name y q] X.env).length = 2 := by rfl) (hst : (assignEach [.Name x p, .Name y q] X.env).findIdx? (·.1) = none := by rfl)
    (h1 : (assignEach [.Name x p, .Name y q] X.env).map (·.2) = assign (.Name x p) X.env :: (assignEach [.Name y q] X.env).map (·.2) := by rfl) (h2 : (assignEach [.Name y q] X.env).map (·.2) = assign (.Name y q) X.env :: (assignEach [] X.env).map (·.2) := by rfl) : PG X (.Tuple [.Name x p, .Name y q] k pos) (gPair X.K i j) :=
  pg_tup hc (pgs_cons (pg_name hN hi hx hf) (pgs_cons (pg_name hN hj hy hf2) pgs_nil h2) h1) hn hst
end DL

-- part DO13
set_option Elab.async false
set_option linter.all false
set_option maxRecDepth 100000
set_option maxHeartbeats 2000000
/-! how the readings over objects are reckoned -/
namespace DL
open PySem PySem.Spec PyProof.Rows L2 GxR GS GA GD
section
variable {X : XF} {N : DN} {ρ : List Sl} {Q : D → Kd → List Sl → Prop} {R : Sl → List Sl → Prop} {i j n p nk : Nat} {te tk : DE} {tx : DX} {ta tb : DA} {ti : DI} {c : DT} {C C' f m : Str} {φ : PhO} {a : Addr} {fs : List (Str × Fd)}
theorem dxE_ev : dxE te X ρ R = te X ρ (kk fun d κ ρ1 => κ ≠ .bo ∧ R (slOf d κ) ρ1) := rfl
theorem dSetX_ev : dSetX i tx X N ρ = tx X ρ (kk fun s ρ1 => i < ρ1.length ∧ N.nx (ρ1.set i s)) := rfl
theorem dDropX_ev : dDropX tx X N ρ = tx X ρ (kk fun _ ρ1 => N.nx ρ1) := rfl
theorem dRetX_ev : dRetX tx X N ρ = tx X ρ (kk fun s ρ1 => N.rt s ρ1) := rfl
theorem obRd_ob {P : List (Str × Fd) → Prop} : obRd (.ob a C' fs) C P = (C' = C ∧ P fs) := rfl
theorem obRd_ro {P : List (Str × Fd) → Prop} : obRd (.ro a C' fs) C P = (C' = C ∧ P fs) := rfl
theorem obWr_ob {P : Addr → List (Str × Fd) → Prop} : obWr (.ob a C' fs) C P = (C' = C ∧ P a fs) := rfl
theorem obNm_ob : obNm (.ob a C' fs) C m = (C' = C ∧ m ∉ fs.map (·.1)) := rfl
theorem obNm_ro : obNm (.ro a C' fs) C m = (C' = C ∧ m ∉ fs.map (·.1)) := rfl
theorem obW_ob {P : Addr → Str → List (Str × Fd) → Prop} : obW (.ob a C fs) P = P a C fs := rfl
theorem obR_ob {P : Addr → Str → List (Str × Fd) → Prop} : obR (.ob a C fs) P = P a C fs := rfl
theorem obR_ro {P : Addr → Str → List (Str × Fd) → Prop} : obR (.ro a C fs) P = P a C fs := rfl
theorem fdRd_va {d : D} {P : D → Kd → Prop} : fdRd (.va d) P = P d .sh := rfl
theorem fdRd_ow {ds : List D} {P : D → Kd → Prop} : fdRd (.ow ds) P = P (.lst ds) .bo := rfl
theorem fdRd_od {kvs : List (Key × D)} {P : D → Kd → Prop} : fdRd (.od kvs) P = P (.dct (kvs.map (·.1)) (kvs.map (·.2))) .bo := rfl
theorem fdRd_tq {ds : List D} {P : D → Kd → Prop} : fdRd (.tq ds) P = P (.tup ds) .sh := rfl
theorem lwK_ow {ds : List D} {P : List D → Prop} : lwK (.ow ds) P = P ds := rfl
theorem fdOf_va {d : D} : fdOf (.va d) = some (.va d) := rfl
theorem fdOf_ow {d : List D} : fdOf (.ow d) = some (.ow d) := rfl
theorem fdOf_od {d : List (Key × D)} : fdOf (.od d) = some (.od d) := rfl
theorem resK_va {d : D} {P : D → Kd → Prop} : resK (.va d) P = P d .sh := rfl
theorem resK_ow {ds : List D} {P : D → Kd → Prop} : resK (.ow ds) P = P (.lst ds) .fr := rfl
theorem ntl_va {d : D} : ntl (.va d) = true := rfl
theorem ntl_ow {d : List D} : ntl (.ow d) = true := rfl
theorem ntl_ob : ntl (.ob a C fs) = true := rfl
theorem ntl_no : ntl .no = true := rfl
theorem dOF_ev : dOF i C f X ρ Q = obRd (sl ρ i) C (kk fun fs => oK (fs.lookup f) (kk fun fd => fdRd fd (kk fun d κ => Q d κ ρ))) := rfl
theorem dOS_ev : dOS i C f tx X N ρ = tx X ρ (kk fun s ρ1 => oK (fdOf s) (kk fun fd => obWr (sl ρ1 i) C (kk fun a fs => fs.length < 1000 ∧ N.nx (ρ1.set i (.ob a C (putFd f fd fs)))))) := rfl
theorem dOTq_ev : dOTq i C f te X N ρ = te X ρ (kk fun d _ ρ1 => tlK d (kk fun ds => obWr (sl ρ1 i) C (kk fun a fs => fs.length < 1000 ∧ N.nx (ρ1.set i (.ob a C (putFd f (.tq ds) fs)))))) := rfl
theorem dOApp_ev : dOApp i C f te X N ρ = obWr (sl ρ i) C (kk fun _ fs0 => oK (fs0.lookup f) (kk fun fd0 => lwK fd0 (kk fun _ => te X ρ (kk fun d κ ρ1 => κ ≠ .bo ∧ obWr (sl ρ1 i) C (kk fun a fs => oK (fs.lookup f) (kk fun fd => lwK fd (kk fun ds => ds.length < sizeLine ∧ N.nx (ρ1.set i (.ob a C (putFd f (.ow (ds ++ [d])) fs)))))))))) := rfl
theorem dDictF_ev : dDictF i C f X ρ Q = obRd (sl ρ i) C (kk fun fs => oK (fs.lookup f) (kk fun fd => tqK fd (kk fun ds => oK (pairsD ds) (kk fun ps => Q (.dct ((mergeA ps).map (·.1)) ((mergeA ps).map (·.2))) .fr ρ)))) := rfl
theorem dDIn_ev {b : Bool} : dDIn b te tk X ρ Q = te X ρ (kk fun z _ ρ1 => tk X ρ1 (kk fun d _ ρ2 => dinK z d (kk fun c => Q (.bl (if b then !c else c)) .sh ρ2))) := rfl
theorem dDGet_ev : dDGet te tk X ρ Q = te X ρ (kk fun d _ ρ1 => tk X ρ1 (kk fun z _ ρ2 => dgetK d z (kk fun e => Q e .sh ρ2))) := rfl
theorem dClr_ev : dClr i X N ρ = owAt ρ i (kk fun _ => N.nx (ρ.set i (.ow []))) := rfl
theorem dMethX_ev : dMethX C m n φ j ta X ρ R = (obNm (sl ρ j) C m ∧ ta X ρ (kk fun ds ρ1 => ds.length = n ∧ obWr (sl ρ1 j) C (kk fun a fs => φ (.ob a C fs :: ds.map .va) (kk fun s ss' => ntl s = true ∧ ntl (ss'.getD 0 .no) = true ∧ R s (ρ1.set j (ss'.getD 0 .no))) (kk fun x ss' => ntl (ss'.getD 0 .no) = true ∧ X x (ρ1.set j (ss'.getD 0 .no)))))) := rfl
theorem dMethR_ev : dMethR C m n φ j ta X ρ Q = (obNm (sl ρ j) C m ∧ ta X ρ (kk fun ds ρ1 => ds.length = n ∧ obR (sl ρ1 j) (kk fun a C' fs => C' = C ∧ φ (.ro a C fs :: ds.map .va) (kk fun s _ => resK s (kk fun d κ => Q d κ ρ1)) (kk fun x _ => X x ρ1)))) := rfl
theorem dMethX0_ev : dMethX0 C m φ j X ρ R = (obNm (sl ρ j) C m ∧ obWr (sl ρ j) C (kk fun a fs => φ [.ob a C fs] (kk fun s ss' => ntl s = true ∧ ntl (ss'.getD 0 .no) = true ∧ R s (ρ.set j (ss'.getD 0 .no))) (kk fun x ss' => ntl (ss'.getD 0 .no) = true ∧ X x (ρ.set j (ss'.getD 0 .no))))) := rfl
theorem dMethR0_ev : dMethR0 C m φ j X ρ Q = (obNm (sl ρ j) C m ∧ obR (sl ρ j) (kk fun a C' fs => C' = C ∧ φ [.ro a C fs] (kk fun s _ => resK s (kk fun d κ => Q d κ ρ)) (kk fun x _ => X x ρ))) := rfl
theorem dMethK_ev : dMethK C m n nk φ j ta tb X ρ R = (obNm (sl ρ j) C m ∧ ta X ρ (kk fun ds ρ1 => ds.length = n ∧ tb X ρ1 (kk fun zs ρ2 => zs.length = nk ∧ obWr (sl ρ2 j) C (kk fun a fs => φ (.ob a C fs :: (ds ++ zs).map .va) (kk fun s ss' => ntl s = true ∧ ntl (ss'.getD 0 .no) = true ∧ R s (ρ2.set j (ss'.getD 0 .no))) (kk fun x ss' => ntl (ss'.getD 0 .no) = true ∧ X x (ρ2.set j (ss'.getD 0 .no))))))) := rfl
theorem dPropR_ev : dPropR C φ j X ρ Q = obR (sl ρ j) (kk fun a C' fs => C' = C ∧ φ [.ro a C fs] (kk fun s _ => resK s (kk fun d κ => Q d κ ρ)) fun _ _ => False) := rfl
theorem dCallX_ev : dCallX n φ j p ta X ρ R = ta X ρ (kk fun ds ρ1 => ds.length = n ∧ obW (sl ρ1 j) (kk fun a C fs => ds[p]? = some (.xn a) ∧ φ (argS ds p (.ob a C fs)) (kk fun s ss' => ntl s = true ∧ ntl (ss'.getD p .no) = true ∧ R s (ρ1.set j (ss'.getD p .no))) (kk fun x ss' => ntl (ss'.getD p .no) = true ∧ X x (ρ1.set j (ss'.getD p .no))))) := rfl
theorem dCallR_ev : dCallR n φ j p ta X ρ Q = ta X ρ (kk fun ds ρ1 => ds.length = n ∧ obR (sl ρ1 j) (kk fun a C fs => ds[p]? = some (.xn a) ∧ φ (argS ds p (.ro a C fs)) (kk fun s _ => resK s (kk fun d κ => Q d κ ρ1)) (kk fun x _ => X x ρ1))) := rfl
theorem dMakeX_ev : dMakeX C n φ ta X ρ R = ta X ρ (kk fun ds ρ1 => ds.length = n ∧ ∀ a, φ (.ob a C [] :: ds.map .va) (kk fun s ss' => s = .va .non ∧ ntl (ss'.getD 0 .no) = true ∧ R (ss'.getD 0 .no) ρ1) (kk fun x ss' => ntl (ss'.getD 0 .no) = true ∧ X x ρ1)) := rfl
theorem dMakeD_ev : dMakeD C n φ ta X ρ Q = ta X ρ (kk fun ds ρ1 => ds.length = n ∧ ∀ a, φ (.ob a C [] :: ds.map .va) (kk fun s ss' => s = .va .non ∧ ntl (ss'.getD 0 .no) = true ∧ slFr (ss'.getD 0 .no) = true ∧ Q (slD (ss'.getD 0 .no)) .sh ρ1) (kk fun x ss' => ntl (ss'.getD 0 .no) = true ∧ X x ρ1)) := rfl
/-! comprehensions with two names -/
def lcPK (ds : List D) (i j : Nat) (tt : DT) (te : DE) (ρ : List Sl) (Q : List D → Prop) : Prop := ds.length ≤ sizeLine ∧ ∃ f : D → Option D,
  (∀ d ∈ ds, ∃ a b, d = .tup [a, b] ∧ tt X0 ((ρ.set i (.va a)).set j (.va b)) fun c ρ2 => if c = true then te X0 ρ2 fun z κ ρ3 => κ ≠ .bo ∧ ρ3 = (ρ.set i (.va a)).set j (.va b) ∧ f d = some z else f d = none) ∧ Q (ds.filterMap f)
theorem dLcP_ev : dLcP ti i j c te X ρ Q = ti X ρ (kk fun ds _ ρ1 => lcPK ds i j c te ρ1 (kk fun zs => Q (.lst zs) .fr ρ1)) := rfl
theorem lcPK.map {α : Type} {f g : α → D} {xs : List α} (inj : ∀ x y, f x = f y → g x = g y → x = y) (q : α → Bool) (h : α → D) {Q : List D → Prop} (hz : xs.length ≤ sizeLine)
    (hs : ∀ x ∈ xs, ∀ o : Option D, o = (if q x = true then some (h x) else none) → c X0 ((ρ.set i (.va (f x))).set j (.va (g x))) (kk fun b ρ2 => iK b (te X0 ρ2 (kk fun z κ ρ3 => κ ≠ .bo ∧ ρ3 = (ρ.set i (.va (f x))).set j (.va (g x)) ∧ o = some z)) (o = none))) (hq : Q ((xs.filter q).map h)) : lcPK (xs.map fun x => .tup [f x, g x]) i j c te ρ Q := by
  classical
  have sel : ∀ d, ∃ o : Option D, ∀ x, d = D.tup [f x, g x] → o = if q x = true then some (h x) else none := fun d => by
    by_cases e : ∃ x, d = D.tup [f x, g x]
    · obtain ⟨x, rfl⟩ := e
      exact ⟨if q x = true then some (h x) else none, fun y hy => by
        injection hy with hy
        injection hy with h1 h2
        injection h2 with h2 _
        rw [inj _ _ h1 h2]⟩
    · exact ⟨none, fun x hx => absurd ⟨x, hx⟩ e⟩
  refine ⟨by rw [List.length_map]; exact hz, fun d => Classical.choose (sel d), fun d hd => ?_, ?_⟩
  · obtain ⟨x, hx, rfl⟩ := List.mem_map.mp hd
    exact ⟨f x, g x, rfl, hs x hx _ (Classical.choose_spec (sel _) x rfl)⟩
  · have e : (xs.map fun x => D.tup [f x, g x]).filterMap (fun d => Classical.choose (sel d)) = (xs.filter q).map h := by
      rw [List.filterMap_map, ← filterMap_if]
      congr 1
      funext x
      exact Classical.choose_spec (sel _) x rfl
    rw [e]
    exact hq
theorem lcPK.all {α : Type} {f g : α → D} {xs : List α} (inj : ∀ x y, f x = f y → g x = g y → x = y) (h : α → D) {Q : List D → Prop} (hz : xs.length ≤ sizeLine)
    (hs : ∀ x ∈ xs, te X0 ((ρ.set i (.va (f x))).set j (.va (g x))) (kk fun z κ ρ3 => κ ≠ .bo ∧ ρ3 = (ρ.set i (.va (f x))).set j (.va (g x)) ∧ z = h x)) (hq : Q (xs.map h)) : lcPK (xs.map fun x => .tup [f x, g x]) i j dYes te ρ Q := by
  refine lcPK.map inj (fun _ => true) h hz (fun x hx o ho => ?_) (by rw [List.filter_eq_self.mpr (fun _ _ => rfl)]; exact hq)
  rw [ho, if_pos rfl]
  show iK true (te X0 _ (kk fun z κ ρ3 => κ ≠ Kd.bo ∧ ρ3 = (ρ.set i (Sl.va (f x))).set j (.va (g x)) ∧ some (h x) = some z)) (some (h x) = none)
  rw [iK_true]
  have e : (kk fun z κ ρ3 => κ ≠ Kd.bo ∧ ρ3 = (ρ.set i (Sl.va (f x))).set j (.va (g x)) ∧ some (h x) = some z) = (kk fun z κ ρ3 => κ ≠ Kd.bo ∧ ρ3 = (ρ.set i (Sl.va (f x))).set j (.va (g x)) ∧ z = h x) := by
    unfold kk
    funext z κ ρ3
    rw [Option.some.injEq, eq_comm (a := h x)]
  rw [e]
  exact hs x hx
def genPK (b : Bool) (ds : List D) (i j : Nat) (te : DE) (ρ : List Sl) (Q : D → Prop) : Prop := ∃ f : D → Bool, (∀ d ∈ ds, ∃ p q, d = .tup [p, q] ∧ te X0 ((ρ.set i (.va p)).set j (.va q)) fun z _ ρ3 => ρ3 = (ρ.set i (.va p)).set j (.va q) ∧ z = .bl (f d)) ∧ Q (.bl (if b then ds.any f else ds.all f))
theorem dGenP_ev {b : Bool} : dGenP b ti i j te X ρ Q = ti X ρ (kk fun ds _ ρ1 => genPK b ds i j te ρ1 (kk fun z => Q z .sh ρ1)) := rfl
theorem genPK.map {α : Type} {f g : α → D} {xs : List α} (inj : ∀ x y, f x = f y → g x = g y → x = y) (b : Bool) (q : α → Bool) {Q : D → Prop} (hs : ∀ x ∈ xs, te X0 ((ρ.set i (.va (f x))).set j (.va (g x))) (kk fun z _ ρ3 => ρ3 = (ρ.set i (.va (f x))).set j (.va (g x)) ∧ z = .bl (q x))) (hq : Q (.bl (if b then xs.any q else xs.all q))) : genPK b (xs.map fun x => .tup [f x, g x]) i j te ρ Q := by
  classical
  have sel : ∀ d, ∃ o : Bool, ∀ x, d = D.tup [f x, g x] → o = q x := fun d => by
    by_cases e : ∃ x, d = D.tup [f x, g x]
    · obtain ⟨x, rfl⟩ := e
      exact ⟨q x, fun y hy => by
        injection hy with hy
        injection hy with h1 h2
        injection h2 with h2 _
        rw [inj _ _ h1 h2]⟩
    · exact ⟨false, fun x hx => absurd ⟨x, hx⟩ e⟩
  refine ⟨fun d => Classical.choose (sel d), fun d hd => ?_, ?_⟩
  · obtain ⟨x, hx, rfl⟩ := List.mem_map.mp hd
    have e := Classical.choose_spec (sel (D.tup [f x, g x])) x rfl
    refine ⟨f x, g x, rfl, ?_⟩
    show te X0 _ fun z _ ρ3 => ρ3 = _ ∧ z = .bl (Classical.choose (sel (D.tup [f x, g x])))
    rw [e]
    exact hs x hx
  · have e : (fun x => Classical.choose (sel (D.tup [f x, g x]))) = q := funext fun x => Classical.choose_spec (sel _) x rfl
    have e2 : (xs.map fun x => D.tup [f x, g x]).any (fun d => Classical.choose (sel d)) = xs.any q := by rw [List.any_map]; exact congrArg xs.any e
    have e3 : (xs.map fun x => D.tup [f x, g x]).all (fun d => Classical.choose (sel d)) = xs.all q := by rw [List.all_map]; exact congrArg xs.all e
    show Q (.bl (if b = true then (xs.map _).any _ else (xs.map _).all _))
    rw [e2, e3]
    exact hq
end
end DL

-- part DO14
set_option Elab.async false
set_option linter.all false
set_option maxRecDepth 100000
set_option maxHeartbeats 2000000
namespace DL
open PySem PySem.Spec PyProof.Rows L2 GxR GS GA GD
theorem finS_nil {ρ : List Sl} : finS [] ρ = [] := rfl
theorem finS_cons {s s' : Sl} {r r' : List Sl} : finS (s :: r) (s' :: r') = keep1 s s' :: finS r r' := rfl
theorem keep1_ob {a : Addr} {C C' : Str} {fs fs' : List (Str × Fd)} : keep1 (.ob a C fs) (.ob a C' fs') = .ob a C' fs' := if_pos rfl
theorem keep1_va {d : D} {s : Sl} : keep1 (.va d) s = .no := by cases s <;> rfl
theorem keep1_rl {d : List D} {s : Sl} : keep1 (.rl d) s = .no := by cases s <;> rfl
theorem keep1_ro {a : Addr} {C : Str} {fs : List (Str × Fd)} {s : Sl} : keep1 (.ro a C fs) s = .no := by cases s <;> rfl
theorem units1 {k : Nat} {A : Around} (hr : Room k A) : A.units + 1 < cLine := by have := units65 hr; omega
theorem getD_0 {s : Sl} {r : List Sl} : (s :: r).getD 0 .no = s := rfl
theorem getD_s {s : Sl} {r : List Sl} {i : Nat} : (s :: r).getD (i + 1) .no = r.getD i .no := rfl
theorem dDIn_t {te tk : DE} {X : XF} {ρ : List Sl} {Q : D → Kd → List Sl → Prop} : dDIn true te tk X ρ Q = te X ρ (kk fun z _ ρ1 => tk X ρ1 (kk fun d _ ρ2 => dinK z d (kk fun c => Q (.bl (!c)) .sh ρ2))) := rfl
theorem dDIn_f {te tk : DE} {X : XF} {ρ : List Sl} {Q : D → Kd → List Sl → Prop} : dDIn false te tk X ρ Q = te X ρ (kk fun z _ ρ1 => tk X ρ1 (kk fun d _ ρ2 => dinK z d (kk fun c => Q (.bl c) .sh ρ2))) := rfl
end DL

-- part DO15
set_option Elab.async false
set_option linter.all false
set_option maxRecDepth 100000
set_option maxHeartbeats 2000000
/-! for over a list of one's own that the body doesn't touch -/
namespace DL
open PySem PySem.Spec PyProof.Rows L2 GxR GS GA GD
section
variable {K : PySem.W.Frag} {Ts A O A' O' : AP} {H H' : Hp} {ρ : List Sl} {σ : L2.St} {j : Nat} {a : Addr} {ds : List D} {vs : List V}
/-- the list is laid aside -/
theorem Mt.mask (m : Mt K Ts H A O ρ σ) (e : ρ[j]? = some (.ow ds)) : ∃ a vs O0, σ[j]? = some (some (V.ref a)) ∧ H a = some (.lst vs) ∧ RpL K H A ds vs ∧ O a ∧ ¬ O0 a ∧ Mt K Ts H A O0 (ρ.set j (.va (.xn a))) σ ∧ Tr A O H A O0 H := by
  obtain ⟨g, m⟩ := m
  have hj : j < ρ.length := (List.getElem?_eq_some_iff.mp e).1
  obtain ⟨o, eo, v, e1, a, vs, e2, e3, e4, r⟩ := m.get e
  subst e1
  subst e2
  obtain ⟨m2, t⟩ := m.chg hj (H' := H) (A' := A) (s := .va (.xn a)) (o := some (.ref a)) (R' := []) (fun _ h => h) (fun _ _ e _ _ => e) (fun _ e => e) (fun _ _ _ _ z => z) (fun _ h => .inl h) (fun _ h _ => h) m.trk (fun b hb => by cases hb) (fun b hb => by cases hb) List.nodup_nil ⟨_, rfl, rfl, by unfold Rp; rfl⟩
  have es : σ.set j (some (.ref a)) = σ := by
    rw [List.getElem?_eq_some_iff] at eo
    obtain ⟨h1, h2⟩ := eo
    rw [← h2]
    exact List.set_getElem_self h1
  rw [es] at m2
  exact ⟨a, vs, (fun b => (O b ∧ b ∉ g j) ∨ b ∈ ([] : List Addr)), eo, e4, r, m.mine (by rw [e3]; exact List.mem_singleton.mpr rfl), fun z => z.elim (fun w => w.2 (by rw [e3]; exact List.mem_singleton.mpr rfl)) (fun w => by cases w), ⟨_, m2⟩, t⟩
/-- .. and taken back -/
theorem Mt.unmask (m : Mt K Ts H A O ρ σ) (e : ρ[j]? = some (.va (.xn a))) (h : H a = some (.lst vs)) (r : RpL K H A ds vs) (hA : A a) (hO : ¬ O a) (hn : ∀ s ∈ ρ, ntl s = true) : Mt K Ts H A (fun b => O b ∨ b = a) (ρ.set j (.ow ds)) σ := by
  obtain ⟨g, m⟩ := m
  have hj : j < ρ.length := (List.getElem?_eq_some_iff.mp e).1
  obtain ⟨o, eo, v, e1, e2, e3⟩ := m.get e
  subst e1
  have ev : v = .ref a := by unfold Rp at e3; exact e3
  subst ev
  have gj : g j = [] := e2
  refine ⟨fun i => if i = j then [a] else g i, m.tab, fun b z => z.elim (m.sub b) fun w => by rw [w]; exact hA, m.trk, by rw [List.length_set, m.len], fun i s o e4 e5 => ?_, fun i => ?_, fun i k b h1 h2 => ?_, fun b => ?_, fun i hi => ?_⟩
  · by_cases hij : i = j
    · subst hij
      rw [List.getElem?_set_self hj] at e4
      cases e4
      rw [eo] at e5
      cases e5
      rw [if_pos rfl]
      exact ⟨_, rfl, a, vs, rfl, rfl, h, r⟩
    · rw [getElem?_set_ne' (fun z => hij z.symm)] at e4
      rw [if_neg hij]
      have q := m.at_ i s o e4 e5
      unfold SlAt at q ⊢
      cases s with
      | rl d => have := hn _ (List.mem_of_getElem? e4); cases this
      | rd d => have := hn _ (List.mem_of_getElem? e4); cases this
      | ro a' C fs => have := hn _ (List.mem_of_getElem? e4); cases this
      | _ => exact q
  · split
    · simp
    · exact m.nod i
  · by_cases hi : i = j
    · rw [if_pos hi] at h1
      by_cases hk : k = j
      · rw [hi, hk]
      · rw [if_neg hk] at h2
        exact absurd (m.mine h2) (by rw [List.mem_singleton.mp h1]; exact hO)
    · rw [if_neg hi] at h1
      by_cases hk : k = j
      · rw [if_pos hk] at h2
        exact absurd (m.mine h1) (by rw [List.mem_singleton.mp h2]; exact hO)
      · rw [if_neg hk] at h2
        exact m.dis i k b h1 h2
  · constructor
    · rintro (z | z)
      · obtain ⟨i, hi⟩ := (m.all b).mp z
        exact ⟨i, by rw [if_neg fun w => by rw [w, gj] at hi; cases hi]; exact hi⟩
      · exact ⟨j, by rw [if_pos rfl, z]; exact List.mem_singleton.mpr rfl⟩
    · rintro ⟨i, hi⟩
      split at hi
      · exact .inr (List.mem_singleton.mp hi)
      · exact .inl (m.mine hi)
  · rw [List.length_set] at hi
    rw [if_neg (by omega)]
    exact m.out i hi
end
def okO (j : Nat) (a : Addr) (ρ : List Sl) : Prop := ρ[j]? = some (.va (.xn a)) ∧ ∀ s ∈ ρ, ntl s = true
def dForO (j : Nat) (g : DG) (tb : DS) : DS := fun X N ρ => owAt ρ j fun ds => ∀ a : Addr, ∃ I : Nat → List Sl → Prop, I 0 (ρ.set j (.va (.xn a))) ∧
  (∀ k d ρ', ds[k]? = some d → I k ρ' → g d ρ' fun ρ2 => tb X { nx := I (k + 1), ct := I (k + 1), bk := fun ρ' => okO j a ρ' ∧ N.nx (ρ'.set j (.ow ds)), rt := N.rt } ρ2) ∧ ∀ ρ', I ds.length ρ' → okO j a ρ' ∧ N.nx (ρ'.set j (.ow ds))
theorem ds_forO {X : Cx} {Ts : AP} {W : WX} {j : Nat} {y : Str} {np pos : Pos} {tg : Expr} {body : List Stmt} {g : DG} {tb : DS} (hp : PassesOwn (model X.prog X.w) X.A X.env X.xe) (hc : X.calm = true) (hN : X.N[j]? = some y) (hv : Vis X.env.scope y) (hg : PG X tg (upG X.K Ts g)) (hb : PSs X body (upS X.K Ts W tb)) (hd : (y == ("__debug__" : Str)) = false := by decide) (hcd : (y == ("__classdict__" : Str)) = false := by decide)
    (hs : ∀ x, foldedSetIterable (.Name y np) X.env x = pure x := by intro _; rfl) : PS X (.For tg (.Name y np) body [] pos) (upS X.K Ts W (dForO j g tb)) := by
  refine (ps_for hp hc (pi_any (pe_var hN hv hd hcd)) hg hb hs).imp fun E σ H h => ?_
  obtain ⟨A, O, ρ, Xf, N, m, h, c⟩ := h
  obtain ⟨ds, e, h⟩ := h.get
  obtain ⟨a, vs, O0, eσ, ha, r, hO, hO0, m0, t0⟩ := m.mask e
  refine ⟨_, eσ, .inl ⟨a, rfl, .inl ⟨⟨vs, SqL.of ha⟩, ?_⟩⟩⟩
  obtain ⟨I, i0, step, done⟩ := h a
  have c0 := c.move t0 m
  have still : ∀ {A' O' : AP} {H' : Hp}, Tr A O0 H A' O' H' → H' a = some (.lst vs) := fun t' => t'.kp.st a _ ha (fun _ => hO0) fun ps z => by cases z
  have back : ∀ {ρ' : List Sl} {σ' : L2.St} {H' : Hp} {A' O' : AP}, (okO j a ρ' ∧ N.nx (ρ'.set j (.ow ds))) → Tr A O0 H A' O' H' → Mt X.K Ts H' A' O' ρ' σ' → E.nx σ' H' := fun {ρ' σ' H' A' O'} q t' m' => by
    have rA : A' a := t'.old a (m.sub a hO) hO0
    have nO : ¬ O' a := fun z => (t'.own a z).elim hO0 fun w => by rw [ha] at w; cases w
    have m2 := m'.unmask q.1.1 (still t') (r.tr t' m0.sub) rA nO q.1.2
    have T := t0.trans t' m.trk
    exact c.nx _ σ' H' A' _ q.2 ⟨T.kp, T.new, T.old, fun b z => z.elim (T.own b) fun w => .inl (by rw [w]; exact hO)⟩ m2
  refine for_it (yat_len r.len.symm walk_list) (fun k σ' H' => ∃ A' O' ρ', Tr A O0 H A' O' H' ∧ Mt X.K Ts H' A' O' ρ' σ' ∧ I k ρ') ⟨A, O0, _, Tr.refl, m0, i0⟩ (fun k σ' H' hk p => ?_) (fun k x σ' H' H'' hk p y => ?_) fun σ' H' p => ?_
  · obtain ⟨A', O', ρ', t', m', _⟩ := p
    exact SqL.of (still t')
  · obtain ⟨A', O', ρ', t', m', i'⟩ := p
    obtain ⟨rfl, y⟩ := y
    obtain ⟨d, ed, rd⟩ := (r.tr t' m0.sub).get y
    refine ⟨A', O', ρ', d, _, m', rd, step k d ρ' ed i', fun ρ2 σ2 A2 O2 q t3 m3 => ?_⟩
    have t23 := t'.trans t3 m0.trk
    have c2 := c0.move t23 m0
    refine ⟨A2, O2, ρ2, Xf, _, m3, q, fun ρ4 σ4 H4 A4 O4 q4 t4 m4 => ?_, fun ρ4 σ4 H4 A4 O4 q4 t4 m4 => ?_, fun ρ4 σ4 H4 A4 O4 q4 t4 m4 => ?_, c2.rt, c2.x⟩
    · exact ⟨A4, O4, ρ4, t23.trans t4 m0.trk, m4, q4⟩
    · exact back q4 (t23.trans t4 m0.trk) m4
    · exact ⟨A4, O4, ρ4, t23.trans t4 m0.trk, m4, q4⟩
  · obtain ⟨A', O', ρ', t', m', i'⟩ := p
    exact back (done ρ' i') t' m'
def forOK (j : Nat) (ds : List D) (g : DG) (t : DS) (X : XF) (N : DN) (ρ : List Sl) : Prop := ∀ a : Addr, ∃ I : Nat → List Sl → Prop, I 0 (ρ.set j (.va (.xn a))) ∧
  (∀ k d ρ', ds[k]? = some d → I k ρ' → g d ρ' fun ρ2 => t X { nx := I (k + 1), ct := I (k + 1), bk := fun ρ' => okO j a ρ' ∧ N.nx (ρ'.set j (.ow ds)), rt := N.rt } ρ2) ∧ ∀ ρ', I ds.length ρ' → okO j a ρ' ∧ N.nx (ρ'.set j (.ow ds))
theorem dForO_ev {j : Nat} {g : DG} {t : DS} {X : XF} {N : DN} {ρ : List Sl} : dForO j g t X N ρ = owAt ρ j (kk fun ds => forOK j ds g t X N ρ) := rfl
theorem forOK.map {α : Type} {f : α → D} {xs : List α} {j : Nat} {g : DG} {t : DS} {X : XF} {N : DN} {ρ : List Sl} (I : Addr → Nat → List Sl → Prop) (h0 : ∀ a, I a 0 (ρ.set j (.va (.xn a))))
    (hs : ∀ a k x ρ', xs[k]? = some x → I a k ρ' → g (f x) ρ' (kk fun ρ2 => t X { nx := I a (k + 1), ct := I a (k + 1), bk := fun ρ' => okO j a ρ' ∧ N.nx (ρ'.set j (.ow (xs.map f))), rt := N.rt } ρ2))
    (hd : ∀ a ρ', I a xs.length ρ' → okO j a ρ' ∧ N.nx (ρ'.set j (.ow (xs.map f)))) : forOK j (xs.map f) g t X N ρ := fun a => ⟨I a, h0 a, fun k d ρ' hk i => by
  obtain ⟨x, hx, rfl⟩ := map_get hk
  exact hs a k x ρ' hx i, by rw [List.length_map]; exact hd a⟩
end DL

-- part DO16
set_option Elab.async false
set_option linter.all false
set_option maxRecDepth 100000
set_option maxHeartbeats 2000000
/-! a list of one's own lent to a def -/
namespace DL
open PySem PySem.Spec PyProof.Rows L2 GxR GS GA GD
theorem Mt.lendL {K : PySem.W.Frag} {Ts A O : AP} {H : Hp} {ρ : List Sl} {σ : L2.St} {a : Addr} {p : Nat} {ds ds0 : List D} {vs us : List V} (m : Mt K Ts H A O ρ σ) (ha : H a = some (.lst us)) (ra : RpL K H A ds0 us) (r : RpL K H A ds vs) (hp : ds[p]? = some (.xn a)) : Mt K Ts H A (fun _ => False) (argS ds p (.rl ds0)) (vs.map some) := by
  have hpl : p < ds.length := (List.getElem?_eq_some_iff.mp hp).1
  have hv := arg_val r hp
  refine ⟨fun _ => [], m.tab, fun b h => h.elim, m.trk, by unfold argS; rw [List.length_set, List.length_map, List.length_map, r.len], fun k s o e4 e5 => ?_, fun k => List.nodup_nil, fun j k b h1 h2 => (by cases h1), fun b => ⟨fun h => h.elim, fun ⟨k, h⟩ => (by cases h)⟩, fun k hk => rfl⟩
  unfold argS at e4
  by_cases hk : k = p
  · subst hk
    rw [List.getElem?_set_self (by rw [List.length_map]; exact hpl)] at e4
    cases e4
    rw [List.getElem?_map, hv] at e5
    cases e5
    exact ⟨rfl, _, [a], rfl, ⟨a, us, rfl, rfl, ha, ra⟩, fun b _ z => z⟩
  · rw [getElem?_set_ne' (fun z => hk z.symm), List.getElem?_map] at e4
    cases hd : ds[k]? with
    | none => rw [hd] at e4; cases e4
    | some d =>
      rw [hd] at e4
      cases e4
      obtain ⟨v, e6, q⟩ := r.get' hd
      rw [List.getElem?_map, e6] at e5
      cases e5
      exact ⟨v, rfl, rfl, q⟩
def dCallL (n : Nat) (φ : PhO) (j p : Nat) (ta : DA) : DE := fun X ρ Q => (∀ s ∈ ρ, ntl s = true) ∧ owAt ρ j fun ds0 => ∀ a : Addr, ta X0 (ρ.set j (.va (.xn a))) fun ds ρ1 => ds.length = n ∧ ρ1 = ρ.set j (.va (.xn a)) ∧ ds[p]? = some (.xn a) ∧
  φ (argS ds p (.rl ds0)) (fun s _ => resK s fun d κ => Q d κ ρ) fun x _ => X x ρ
section
variable {X : Cx} {Ts : AP} {W : WX} {k n j p : Nat} {f : Addr} {fd : FuncData} {ps : List Str} {φ : PhO} {x : Str} {pos p1 : Pos} {e : Expr} {es : List Expr} {ta : DA}
theorem up_resK {σ : L2.St} {H : Hp} {A O : AP} {ρ ss : List Sl} {Xf : XF} {Q : VK} {vs : List V} {Qd : D → Kd → List Sl → Prop} (m : Mt X.K Ts H A O ρ σ) (mc : Mt X.K Ts H A (fun _ => False) ss (vs.map some)) (hn : vs.length = n) (c : Cn X.K Ts W σ H A O Xf Qd Q)
    (h : φ ss (fun s _ => resK s fun d κ => Qd d κ ρ) fun x _ => Xf x ρ) : spO X.K Ts n φ vs H Q (WE W σ) := by
  refine ⟨hn, A, _, _, _, _, mc, h, fun s ss' v H' A' O' q t m' => ?_, fun x ss' cls od H' A' O' q t m' rx => ?_⟩
  · have sm : Sm H H' := t.kp.sm
    have old : ∀ b, A b → A' b := fun b hb => t.old b hb fun z => z
    have frz : slFr s = true → ∃ A2, (∀ b, A b → A2 b) ∧ Rp X.K H' A2 (slD s) v := fun hf => by
      obtain ⟨A2, O2, m2, r2, t2, _⟩ := m'.frz0 hf
      exact ⟨A2, fun b hb => t2.old b (old b hb) fun z => (t.own b z).elim id fun w => m.trk b hb w, r2⟩
    unfold resK at q
    split at q
    · obtain ⟨A2, n2, r2⟩ := frz rfl
      exact c.sh m sm q (r2.less n2)
    · obtain ⟨g', m'⟩ := m'
      obtain ⟨v2, e, p2, us, e2, e3, e4, r4⟩ := m'.at_ 0 _ _ rfl rfl
      cases e
      subst e2
      have pO : O' p2 := m'.mine (i := 0) (by rw [e3]; exact List.mem_singleton.mpr rfl)
      have hp2 : H p2 = none := (t.own p2 pO).elim (fun z => z.elim) id
      have n2 : ∀ b, A b ∨ b = p2 → A' b := fun b z => z.elim (old b) fun w => by rw [w]; exact m'.sub p2 pO
      exact c.q _ .fr ρ _ H' A O q sm (Tr.of sm) (m.sm sm) ⟨trivial, p2, rfl, hp2, fun z => m.trk p2 z hp2, m.fr hp2 sm e4 (r4.less n2)⟩
    · obtain ⟨A2, n2, r2⟩ := frz rfl
      exact c.sh m sm q (r2.less n2)
    · obtain ⟨A2, n2, r2⟩ := frz q.1
      exact c.sh m sm q.2 (r2.less n2)
    · exact q.elim
  · have sm : Sm H H' := t.kp.sm
    exact c.x x ρ cls od H' A O q (Tr.of sm) (m.sm sm) (rx.less fun b hb => t.old b hb fun z => z)
theorem de_callL (F : FnOk X.prog X.w X.K X.mg X.base (L2.CX X.prog X.w) k f fd ps (spO X.K Ts n φ)) (hr : Room k X.A) (hg : Gl X x) (hm : X.mg x = some (.ref f)) (hk : PySem.W.keepIn X.K (.ref f) = true) (hb : Binds X.K fd ps []) (hx : Ps X W) (ha : PA X (e :: es) (upA X.K Ts W ta))
    (hdb : (x == ("__debug__" : Str)) = false := by decide) (he : starEach (e :: es) X.env = (false, eval e X.env) :: starEach es X.env := by rfl) (hpl : (backTo pos (starEach es X.env)).any (·.1) = false := by rfl) :
    PE X (.Call (.Name x p1) (e :: es) [] pos) (upE X.K Ts W (dCallL n φ j p ta)) := by
  refine (pe_callS F hr hg hm hk hb hx ha hdb he hpl).imp fun σ H Q h => ?_
  obtain ⟨A, O, ρ, Xf, Qd, m, ⟨hnt, h⟩, c⟩ := h
  obtain ⟨ds0, ej, h⟩ := h.get
  obtain ⟨a, us, O0, eσ, hA, r0, hO, hO0, m0, t0⟩ := m.mask ej
  refine ⟨A, O0, _, X0, _, m0, h a, fun ds ρ1 vs H1 A1 O1 h1 s1 t1 m1 r1 => ?_, fun _ _ _ _ _ _ _ z => z.elim⟩
  obtain ⟨hl, rfl, hp, h1⟩ := h1
  have hj : j < ρ.length := (List.getElem?_eq_some_iff.mp ej).1
  have hA1 : H1 a = some (.lst us) := t1.kp.st a _ hA (fun _ => hO0) fun ps z => by cases z
  have aA1 : A1 a := t1.old a (m.sub a hO) hO0
  have nO1 : ¬ O1 a := fun z => (t1.own a z).elim hO0 fun w => by rw [hA] at w; cases w
  have ra := r0.tr t1 m0.sub
  have m2 := m1.unmask (j := j) (by rw [List.getElem?_set_self hj]) hA1 ra aA1 nO1 fun s hs => (List.mem_or_eq_of_mem_set hs).elim (hnt s) fun w => by rw [w]; rfl
  rw [List.set_set] at m2
  have es2 : ρ.set j (.ow ds0) = ρ := by
    rw [List.getElem?_eq_some_iff] at ej
    obtain ⟨h1, h2⟩ := ej
    rw [← h2]
    exact List.set_getElem_self h1
  rw [es2] at m2
  have T := t0.trans t1 m.trk
  have c2 := c.move (A1 := A1) (O1 := fun b => O1 b ∨ b = a) s1 ⟨T.kp, T.new, T.old, fun b z => z.elim (T.own b) fun w => .inl (by rw [w]; exact hO)⟩ m
  exact up_resK m2 (m2.lendL hA1 ra r1 hp) (by rw [← r1.len]; exact hl) c2 h1
end
theorem dCallL_ev {n : Nat} {φ : PhO} {j p : Nat} {ta : DA} {X : XF} {ρ : List Sl} {Q : D → Kd → List Sl → Prop} : dCallL n φ j p ta X ρ Q = ((∀ s ∈ ρ, ntl s = true) ∧ owAt ρ j (kk fun ds0 => ∀ a : Addr, ta X0 (ρ.set j (.va (.xn a))) (kk fun ds ρ1 => ds.length = n ∧ ρ1 = ρ.set j (.va (.xn a)) ∧ ds[p]? = some (.xn a) ∧ φ (argS ds p (.rl ds0)) (kk fun s _ => resK s (kk fun d κ => Q d κ ρ)) (kk fun x _ => X x ρ)))) := rfl
section
variable {X : Cx} {Ts : AP} {W : WX} {e : Expr} {te : DE} {tk : DA} {kws : List Keyword} {nm : Option Str} {kpos : Pos}
theorem dk_nil : PK X [] (upA X.K Ts W dNil) := ⟨fun pos pins s σ H Q I ⟨A, O, ρ, Xf, Qd, m, h, c⟩ => pk_nil.run pos pins s σ H Q I (c.q [] ρ [] H A O h Sm.refl Tr.refl m RpL.nil)⟩
theorem dk_cons (he : PE X e (upE X.K Ts W te)) (hr : PK X kws (upA X.K Ts W tk)) : PK X (⟨nm, e, kpos⟩ :: kws) (upA X.K Ts W (dCons te tk)) := ⟨fun pos pins s σ H Q I h => (pk_cons he hr).run pos pins s σ H Q I (up_cons h)⟩
end
end DL

-- part DO17
set_option Elab.async false
set_option linter.all false
set_option maxRecDepth 100000
set_option maxHeartbeats 2000000
/-! a list of one's own given back as one's own; one lent as data, where what comes back is flat -/
namespace DL
open PySem PySem.Spec PyProof.Rows L2 GxR GS GA GD
def mvG (g : Nat → List Addr) (j : Nat) : Nat → List Addr
  | 0 => g j
  | k + 1 => if k = j then [] else g k
theorem Mt.mvOut {K : PySem.W.Frag} {Ts A O : AP} {H : Hp} {ρ : List Sl} {σ : L2.St} {j : Nat} {ds : List D} (m : Mt K Ts H A O ρ σ) (e : ρ[j]? = some (.ow ds)) : ∃ a, σ[j]? = some (some (V.ref a)) ∧ Mt K Ts H A O (.ow ds :: ρ.set j .no) (some (.ref a) :: σ) := by
  obtain ⟨g, m⟩ := m
  have hj : j < ρ.length := (List.getElem?_eq_some_iff.mp e).1
  obtain ⟨o, eo, v, e1, a, vs, e2, e3, e4, r⟩ := m.get e
  subst e1
  subst e2
  refine ⟨a, eo, mvG g j, m.tab, m.sub, m.trk, by rw [List.length_cons, List.length_cons, List.length_set, m.len], fun k s o e5 e6 => ?_, fun k => ?_, fun i k b h1 h2 => ?_, fun b => ?_, fun k hk => ?_⟩
  · cases k with
    | zero => cases e5; cases e6; exact ⟨_, rfl, a, vs, rfl, e3, e4, r⟩
    | succ k =>
      rw [List.getElem?_cons_succ] at e5 e6
      by_cases hk : k = j
      · subst hk
        rw [List.getElem?_set_self hj] at e5
        cases e5
        exact if_pos rfl
      · rw [getElem?_set_ne' (fun z => hk z.symm)] at e5
        show SlAt K H A O s o (if k = j then [] else g k)
        rw [if_neg hk]
        exact m.at_ k s o e5 e6
  · cases k with
    | zero => exact m.nod j
    | succ k =>
      show (if k = j then [] else g k).Nodup
      split
      · exact List.nodup_nil
      · exact m.nod k
  · have key : ∀ {k : Nat}, b ∈ (if k = j then [] else g k) → k ≠ j ∧ b ∈ g k := fun {k} h => by
      by_cases hk : k = j
      · rw [if_pos hk] at h; cases h
      · rw [if_neg hk] at h; exact ⟨hk, h⟩
    cases i with
    | zero =>
      cases k with
      | zero => rfl
      | succ k => have q := key h2; exact absurd (m.dis j k b h1 q.2).symm q.1
    | succ i =>
      have q := key h1
      cases k with
      | zero => exact absurd (m.dis i j b q.2 h2) q.1
      | succ k => rw [m.dis i k b q.2 (key h2).2]
  · constructor
    · intro z
      obtain ⟨k, hk⟩ := (m.all b).mp z
      by_cases hkj : k = j
      · exact ⟨0, by subst hkj; exact hk⟩
      · exact ⟨k + 1, by show b ∈ (if k = j then [] else g k); rw [if_neg hkj]; exact hk⟩
    · rintro ⟨k, hk⟩
      cases k with
      | zero => exact m.mine (i := j) hk
      | succ k =>
        have hk : b ∈ (if k = j then [] else g k) := hk
        split at hk
        · cases hk
        · exact m.mine hk
  · cases k with
    | zero => rw [List.length_cons] at hk; omega
    | succ k =>
      rw [List.length_cons, List.length_set] at hk
      show (if k = j then [] else g k) = []
      split
      · rfl
      · exact m.out k (by omega)
/-- a list of one's own, moved -/
def dMvX (j : Nat) : DX := fun _ ρ Q => owAt ρ j fun ds => Q (.ow ds) (ρ.set j .no)
theorem dMvX_ev {j : Nat} {X : XF} {ρ : List Sl} {R : Sl → List Sl → Prop} : dMvX j X ρ R = owAt ρ j (kk fun ds => R (.ow ds) (ρ.set j .no)) := rfl
theorem dx_mv {X : Cx} {Ts : AP} {W : WX} {j : Nat} {y : Str} {pos : Pos} (hN : X.N[j]? = some y) (hv : Vis X.env.scope y) (hd : (y == ("__debug__" : Str)) = false := by decide) (hcd : (y == ("__classdict__" : Str)) = false := by decide) : PE X (.Name y pos) (upX X.K Ts W (dMvX j)) := by
  refine (pe_var hN hv hd hcd).imp fun σ H Q h => ?_
  obtain ⟨A, O, ρ, Xf, Qd, m, h, c⟩ := h
  obtain ⟨ds, e, h⟩ := h.get
  obtain ⟨a, e2, m2⟩ := m.mvOut e
  exact ⟨_, e2, c.q _ _ _ H A O h Tr.refl m2⟩
/-! ### lent as data -/
theorem Rp.flat {K : PySem.W.Frag} {A A' : AP} {H H' : Hp} {d : D} {v : V} (f : flD d = true) (h : Rp K H A d v) : Rp K H' A' d v := by
  unfold flD at f
  split at f
  · unfold Rp at h ⊢; exact h
  · unfold Rp at h ⊢; exact h
  · unfold Rp at h ⊢; exact h
  · unfold Rp at h ⊢; exact h
  · cases f
theorem RpL.flat {K : PySem.W.Frag} {A A' : AP} {H H' : Hp} : ∀ {ds : List D} {vs : List V}, ds.all flD = true → RpL K H A ds vs → RpL K H' A' ds vs
  | [], vs, _, h => by rw [h.unnil]; exact RpL.nil
  | d :: r, vs, f, h => by
    obtain ⟨v, t, rfl, h1, h2⟩ := h.uncons
    rw [List.all_cons, Bool.and_eq_true] at f
    exact RpL.cons (h1.flat f.1) (RpL.flat f.2 h2)
theorem Mt.lendV {K : PySem.W.Frag} {Ts A O : AP} {H : Hp} {ρ : List Sl} {σ : L2.St} {a : Addr} {p : Nat} {ds ds0 : List D} {vs us : List V} (m : Mt K Ts H A O ρ σ) (ha : H a = some (.lst us)) (ra : RpL K H A ds0 us) (r : RpL K H A ds vs) (hp : ds[p]? = some (.xn a)) : Mt K Ts H (fun b => A b ∧ b ≠ a) (fun _ => False) (argS ds p (.va (.lst ds0))) (vs.map some) := by
  have hpl : p < ds.length := (List.getElem?_eq_some_iff.mp hp).1
  have hv := arg_val r hp
  refine ⟨fun _ => [], m.tab, fun b h => h.elim, fun b h => m.trk b h.1, by unfold argS; rw [List.length_set, List.length_map, List.length_map, r.len], fun k s o e4 e5 => ?_, fun k => List.nodup_nil, fun j k b h1 h2 => (by cases h1), fun b => ⟨fun h => h.elim, fun ⟨k, h⟩ => (by cases h)⟩, fun k hk => rfl⟩
  unfold argS at e4
  by_cases hk : k = p
  · subst hk
    rw [List.getElem?_set_self (by rw [List.length_map]; exact hpl)] at e4
    cases e4
    rw [List.getElem?_map, hv] at e5
    cases e5
    refine ⟨_, rfl, rfl, ?_⟩
    unfold Rp
    exact ⟨a, us, rfl, ha, fun z => z.2 rfl, ra.less fun b z => z.1⟩
  · rw [getElem?_set_ne' (fun z => hk z.symm), List.getElem?_map] at e4
    cases hd : ds[k]? with
    | none => rw [hd] at e4; cases e4
    | some d =>
      rw [hd] at e4
      cases e4
      obtain ⟨v, e6, q⟩ := r.get' hd
      rw [List.getElem?_map, e6] at e5
      cases e5
      exact ⟨v, rfl, rfl, q.less fun b z => z.1⟩
def resF (s : Sl) (Q : D → Kd → Prop) : Prop := match s with
  | .va d => flD d = true ∧ Q d .sh
  | .ow ds => ds.all flD = true ∧ Q (.lst ds) .fr
  | _ => False
theorem resF_va {d : D} {P : D → Kd → Prop} : resF (.va d) P = (flD d = true ∧ P d .sh) := rfl
theorem resF_ow {ds : List D} {P : D → Kd → Prop} : resF (.ow ds) P = (ds.all flD = true ∧ P (.lst ds) .fr) := rfl
def dCallV (n : Nat) (φ : PhO) (j p : Nat) (ta : DA) : DE := fun X ρ Q => owAt ρ j fun ds0 => ∀ a : Addr, ta X0 (ρ.set j (.va (.xn a))) fun ds ρ1 => ds.length = n ∧ okO j a ρ1 ∧ ds[p]? = some (.xn a) ∧
  φ (argS ds p (.va (.lst ds0))) (fun s _ => resF s fun d κ => Q d κ (ρ1.set j (.ow ds0))) fun _ _ => False
theorem dCallV_ev {n : Nat} {φ : PhO} {j p : Nat} {ta : DA} {X : XF} {ρ : List Sl} {Q : D → Kd → List Sl → Prop} : dCallV n φ j p ta X ρ Q = owAt ρ j (kk fun ds0 => ∀ a : Addr, ta X0 (ρ.set j (.va (.xn a))) (kk fun ds ρ1 => ds.length = n ∧ okO j a ρ1 ∧ ds[p]? = some (.xn a) ∧ φ (argS ds p (.va (.lst ds0))) (kk fun s _ => resF s (kk fun d κ => Q d κ (ρ1.set j (.ow ds0)))) fun _ _ => False)) := rfl
section
variable {X : Cx} {Ts : AP} {W : WX} {k n j p : Nat} {f : Addr} {fd : FuncData} {ps : List Str} {φ : PhO} {x : Str} {pos p1 : Pos} {e : Expr} {es : List Expr} {ta : DA}
theorem up_resF {σ : L2.St} {H : Hp} {A O A2 : AP} {ρ ss : List Sl} {Xf : XF} {Q : VK} {vs : List V} {Qd : D → Kd → List Sl → Prop} (m : Mt X.K Ts H A O ρ σ) (mc : Mt X.K Ts H A2 (fun _ => False) ss (vs.map some)) (hn : vs.length = n) (c : Cn X.K Ts W σ H A O Xf Qd Q)
    (h : φ ss (fun s _ => resF s fun d κ => Qd d κ ρ) fun _ _ => False) : spO X.K Ts n φ vs H Q (WE W σ) := by
  refine ⟨hn, A2, _, _, _, _, mc, h, fun s ss' v H' A' O' q t m' => ?_, fun x ss' cls od H' A' O' q t m' rx => q.elim⟩
  have sm : Sm H H' := t.kp.sm
  unfold resF at q
  split at q
  · obtain ⟨v2, e, r⟩ := m'.va 0 _ rfl
    cases e
    exact c.sh m sm q.2 (r.flat q.1)
  · obtain ⟨g', m'⟩ := m'
    obtain ⟨v2, e, p2, us, e2, e3, e4, r4⟩ := m'.at_ 0 _ _ rfl rfl
    cases e
    subst e2
    have pO : O' p2 := m'.mine (i := 0) (by rw [e3]; exact List.mem_singleton.mpr rfl)
    have hp2 : H p2 = none := (t.own p2 pO).elim (fun z => z.elim) id
    exact c.q _ .fr ρ _ H' A O q.2 sm (Tr.of sm) (m.sm sm) ⟨trivial, p2, rfl, hp2, fun z => m.trk p2 z hp2, m.fr hp2 sm e4 (r4.flat q.1)⟩
  · exact q.elim
theorem de_callV (F : FnOk X.prog X.w X.K X.mg X.base (L2.CX X.prog X.w) k f fd ps (spO X.K Ts n φ)) (hr : Room k X.A) (hg : Gl X x) (hm : X.mg x = some (.ref f)) (hk : PySem.W.keepIn X.K (.ref f) = true) (hb : Binds X.K fd ps []) (hx : Ps X W) (ha : PA X (e :: es) (upA X.K Ts W ta))
    (hdb : (x == ("__debug__" : Str)) = false := by decide) (he : starEach (e :: es) X.env = (false, eval e X.env) :: starEach es X.env := by rfl) (hpl : (backTo pos (starEach es X.env)).any (·.1) = false := by rfl) :
    PE X (.Call (.Name x p1) (e :: es) [] pos) (upE X.K Ts W (dCallV n φ j p ta)) := by
  refine (pe_callS F hr hg hm hk hb hx ha hdb he hpl).imp fun σ H Q h => ?_
  obtain ⟨A, O, ρ, Xf, Qd, m, h, c⟩ := h
  obtain ⟨ds0, ej, h⟩ := h.get
  obtain ⟨a, us, O0, eσ, hA, r0, hO, hO0, m0, t0⟩ := m.mask ej
  refine ⟨A, O0, _, X0, _, m0, h a, fun ds ρ1 vs H1 A1 O1 h1 s1 t1 m1 r1 => ?_, fun _ _ _ _ _ _ _ z => z.elim⟩
  obtain ⟨hl, ho, hp, h1⟩ := h1
  have hA1 : H1 a = some (.lst us) := t1.kp.st a _ hA (fun _ => hO0) fun ps z => by cases z
  have aA1 : A1 a := t1.old a (m.sub a hO) hO0
  have nO1 : ¬ O1 a := fun z => (t1.own a z).elim hO0 fun w => by rw [hA] at w; cases w
  have ra := r0.tr t1 m0.sub
  have m2 := m1.unmask (j := j) ho.1 hA1 ra aA1 nO1 ho.2
  have T := t0.trans t1 m.trk
  have c2 := c.move (A1 := A1) (O1 := fun b => O1 b ∨ b = a) s1 ⟨T.kp, T.new, T.old, fun b z => z.elim (T.own b) fun w => .inl (by rw [w]; exact hO)⟩ m
  exact up_resF m2 (m2.lendV hA1 ra r1 hp) (by rw [← r1.len]; exact hl) c2 h1
end
end DL

-- part XU
set_option Elab.async false
set_option linter.all false
set_option maxRecDepth 100000
set_option maxHeartbeats 2000000
namespace K8
open PySem PySem.Spec PyProof.Rows L2 GxR GS GA GD DL
/-- the tables of the defs that hold generator expressions -/
def Tz (K : PySem.W.Frag) : AP := fun P => ∃ p ∈ tf, P = (He.cT K p).2
theorem Tz_mk {K : PySem.W.Frag} (p : Str × Option Str) (h : p ∈ tf) : Tz K (He.cT K p).2 := ⟨p, h, rfl⟩
/-- raise C("..") of a class without an __init__ of its own -/
def dRaise0 (C : Str) : DS := fun X _ ρ => X ⟨C, none⟩ ρ
theorem dRaise0_ev {C : Str} {Xf : XF} {N : DN} {ρ : List Sl} : dRaise0 C Xf N ρ = Xf ⟨C, none⟩ ρ := rfl
theorem ds_raise0 {X : Cx} {Ts : AP} {W : WX} {C m : Str} {p p2 pos pos' : Pos} {j : Nat} (hc : X.calm = true) (tk : Takes X W) (x : PySem.W.excIn X.K (He.ga X.K C) He.veBase "ValueError.__new__" = true ∧ PySem.W.keepIn X.K (.ref (He.ga X.K C)) = true ∧ PySem.W.subIn X.K (.ref (He.ga X.K C)) (.type "BaseException") = some true ∧ PySem.W.typeIn X.K (.ref (He.ga X.K C)) = some (.type "type")) (gC : X.mg C = some (.ref (He.ga X.K C))) (hg : Gl X C) (hdb : (C == ("__debug__" : Str)) = false := by decide) :
    PS X (.Raise (some (.Call (.Name C p) [.Constant (.str m) j p2] [] pos)) none pos') (upS X.K Ts W (dRaise0 C)) := by
  obtain ⟨x1, x2, x3, x4⟩ := x
  refine (ps_raise hc tk (pmk_own PySem.F.excBase_ValueError x1 gC x2 (raises_own x3 x4) hg hdb)).imp fun E σ H h => ?_
  obtain ⟨A, O, ρ, Xf, N, mm, h, c⟩ := h
  exact c.x _ ρ _ _ σ H A O h Tr.refl mm ⟨rfl, rfl⟩
section
variable {w : World} {K : PySem.W.Frag} {mg : Str → Option Value} {base : Heap}
theorem X_UnknownName (T : Tx w K mg base) : ∃ fdx, FnOk R.prog w K mg base CX0 1 (Hd.suA K suUnknownName) fdx ["self", "name"] (SU.spS (He.ga K "UnknownName") "name" (fun σ H Q => tJs [tC (.str "unknown name "), tFmt (tVar 1)] Str.empty σ H fun out H1 => Q (.str out) H1)) ∧
    OexC K (He.ga K "UnknownName") ∧ PySem.W.findIn K (.ref (He.ga K "UnknownName")) "__init__" = some (some (.ref (Hd.suA K suUnknownName))) ∧ PySem.W.typeIn K (.ref (Hd.suA K suUnknownName)) = some (.type "function") ∧ Binds K fdx ["self", "name"] [] := by
  obtain ⟨cc, fdx, S, hb, bx, iC, tI, no⟩ := T.sup_UnknownName
  refine ⟨fdx, S.ok (k := 0) T.free_super hb no (fun A outer s H E => pe_joined (.cons pe_str (.cons (pe_fmt (pe_var rfl (.inl ?_))) .nil))) (by decide) (by decide) rfl (fun env => rfl) (fun env => ⟨_, rfl⟩), S.oex, iC, tI, bx⟩
  show fdx.scope.names.lookup _ = _
  rw [S.fsc]
  rfl
end
/-- which exceptions the clauses take -/
def em_UnknownName : Str → Option Bool := fun c => if c = ("UnknownName" : Str) then some true else if c = ("InvalidEntry" : Str) then some false else none
def em_InvalidEntry : Str → Option Bool := fun c => if c = ("InvalidEntry" : Str) then some true else if c = ("UnknownName" : Str) then some false else none
theorem em_uu : em_UnknownName "UnknownName" = some true := by unfold em_UnknownName; rw [if_pos rfl]
theorem em_ui : em_UnknownName "InvalidEntry" = some false := by unfold em_UnknownName; rw [if_neg (by decide), if_pos rfl]
theorem em_ii : em_InvalidEntry "InvalidEntry" = some true := by unfold em_InvalidEntry; rw [if_pos rfl]
theorem em_iu : em_InvalidEntry "UnknownName" = some false := by unfold em_InvalidEntry; rw [if_neg (by decide), if_pos rfl]
section
variable {w : World} {K : PySem.W.Frag} {mg : Str → Option Value} {base : Heap}
theorem hem_UnknownName (T : Tx w K mg base) (c : Str) (b : Bool) (h : em_UnknownName c = some b) : PySem.W.exmOne K (.ref (He.ga K c)) (.ref (He.ga K "UnknownName")) = some b := by
  unfold em_UnknownName at h
  split at h
  · rename_i e; subst e; cases h; exact T.exm_UnknownName_UnknownName
  · split at h
    · rename_i e; subst e; cases h; exact T.exm_InvalidEntry_UnknownName
    · cases h
theorem hem_InvalidEntry (T : Tx w K mg base) (c : Str) (b : Bool) (h : em_InvalidEntry c = some b) : PySem.W.exmOne K (.ref (He.ga K c)) (.ref (He.ga K "InvalidEntry")) = some b := by
  unfold em_InvalidEntry at h
  split at h
  · rename_i e; subst e; cases h; exact T.exm_InvalidEntry_InvalidEntry
  · split at h
    · rename_i e; subst e; cases h; exact T.exm_UnknownName_InvalidEntry
    · cases h
end
end K8

-- part GU
set_option Elab.async false
set_option linter.all false
set_option maxRecDepth 100000
set_option maxHeartbeats 2000000
/-! a law whose own def is walked with its caller known (no repr is under way there) -/
namespace LG
open PySem PySem.Spec PyProof.Rows L2 LamX
/-- the promise of the law's def, called by the caller -/
def RunC (P : Program) (w : World) (K : PySem.W.Frag) (mg : Str → Option Value) (base : Heap) (CX : CXT) (f : Addr) (fd : FuncData) (ps : List Str) (sp : Sp) : Prop :=
  ∀ (s : Shared) (H : Hp) (args : Args) (us : List Value) (vs : List V) (Q : VK) (E : XK), Env0 P w K mg base callerA [] s H → BindsTo s fd args (ps.zip us) → Vals vs us → sp vs H Q E →
    codeAny (model P w) callerA (.call (.ref f) args) (CR CX [] P w H s Q E) s
section
variable {P : Program} {w : World} {K : PySem.W.Frag} {mg mb : Str → Option Value} {CX : CXT} {f a : Addr} {fd : FuncData} {x : Str} {sp : Sp} {s : Shared} {us : List Value} {ns : List Int} {cs : List (Addr × Addr)}
abbrev tbO : Obj := { cls := .none, data := .fields #[] }
abbrev lsO (us : List Value) : Obj := { cls := .type "list", data := .seq us.toArray }
/-- what is tracked: the tables, the script where it is none of the module -/
theorem tracked (nT : ∀ p ∈ cs, K.lookup p.2 = none) (KX : K.In s.heap) (hT : ∀ p ∈ cs, s.heap.get? p.2 = some tbO) (ha : s.heap.get? a = some (lsO us)) (hi : IntsAre us ns) (hl : ns.length ≤ sizeLine) :
    ∃ H : Hp, (∀ p ∈ cs, H p.2 = some (.tbl #[])) ∧ (∀ b, H b = none ∨ (b ∈ cs.map (·.2) ∧ H b = some (.tbl #[])) ∨ (b = a ∧ K.lookup a = none ∧ H b = some (.frz (lsO us) (.lst (ns.map V.int))))) ∧ SqL K H a (ns.map V.int) ∧ HOk P w H s.heap := by
  have rv := vals_ints hi
  have lv := hi.length
  have anT : a ∉ cs.map (·.2) := fun z => by
    obtain ⟨p, hp, e⟩ := List.mem_map.mp z
    have q := hT p hp
    rw [e, ha] at q
    have := congrArg Obj.data (Option.some.inj q)
    cases this
  have onT : ∀ b, b ∈ cs.map (·.2) → s.heap.get? b = some tbO := fun b hb => by
    obtain ⟨p, hp, e⟩ := List.mem_map.mp hb
    rw [← e]; exact hT p hp
  by_cases hk : K.lookup a = none
  · refine ⟨fun b => if b ∈ cs.map (·.2) then some (.tbl #[]) else if b = a then some (.frz (lsO us) (.lst (ns.map V.int))) else none, fun p hp => if_pos (List.mem_map.mpr ⟨p, hp, rfl⟩), fun b => ?_, .inl (.inr ⟨lsO us, (if_neg anT).trans (if_pos rfl)⟩), fun b u e => ?_⟩
    · by_cases h1 : b ∈ cs.map (·.2)
      · exact .inr (.inl ⟨h1, if_pos h1⟩)
      · by_cases h2 : b = a
        · exact .inr (.inr ⟨h2, hk, (if_neg h1).trans (if_pos h2)⟩)
        · exact .inl ((if_neg h1).trans (if_neg h2))
    · by_cases h1 : b ∈ cs.map (·.2)
      · have e := (if_pos h1).symm.trans e
        cases e
        exact onT b h1
      · have e := (if_neg h1).symm.trans e
        by_cases h2 : b = a
        · have e := (if_pos h2).symm.trans e
          cases e
          rw [h2]
          exact ⟨ha, by rw [List.length_map]; exact hl, us, _, rv, ha⟩
        · have e := (if_neg h2).symm.trans e
          cases e
  · obtain ⟨o, ho⟩ := Option.ne_none_iff_exists'.mp hk
    have eo := KX a o ho
    rw [ha] at eo
    cases eo
    refine ⟨fun b => if b ∈ cs.map (·.2) then some (.tbl #[]) else none, fun p hp => if_pos (List.mem_map.mpr ⟨p, hp, rfl⟩), fun b => ?_, .inr ⟨_, us.toArray, _, ho, rfl, rfl, rfl, by rw [List.size_toArray, lv]; exact hl, by simpa using rv⟩, fun b u e => ?_⟩
    · by_cases h1 : b ∈ cs.map (·.2)
      · exact .inr (.inl ⟨h1, if_pos h1⟩)
      · exact .inl (if_neg h1)
    · by_cases h1 : b ∈ cs.map (·.2)
      · have e := (if_pos h1).symm.trans e
        cases e
        exact onT b h1
      · have e := (if_neg h1).symm.trans e
        cases e
/-- the caller's call -/
theorem callC (KX : K.In s.heap) (hns : s.heap.Ns mainGlobals mg) (hb : s.heap.Ns builtinsNs mb) (hbb : ∀ x : Str, x ≠ "__name__" → mb x = bootBuiltins x) (hlim : s.heap.NoLimit) (hg : s.gens = #[])
    (hT : ∀ p ∈ cs, s.heap.get? p.2 = some tbO) (nT : ∀ p ∈ cs, K.lookup p.2 = none) (C : ∀ p ∈ cs, PySem.W.CodeHd s.heap p.1 p.2)
    (hbm : ∃ (bm : Addr) (ob : Obj), mg "__builtins__" = some (.ref bm) ∧ bm ≠ builtinsNs ∧ s.heap.get? bm = some ob ∧ ob.cls = .type "module" ∧ ob.dict = some builtinsNs ∧ ob.data = .plain)
    (ha : s.heap.get? a = some (lsO us)) (hi : IntsAre us ns) (hl : ns.length ≤ sizeLine)
    (F : ∀ base : Heap, K.In base → base.Ns mainGlobals mg → (∀ p ∈ cs, LamX.TabB base mg p.1 p.2) → RunC P w K mg base CX f fd [x] sp) (hbind : ∀ (s : Shared) (u : Value), BindsTo s fd ⟨[u], []⟩ [(x, u)])
    (hsp : ∀ H : Hp, (∀ p ∈ cs, H p.2 = some (.tbl #[])) → SqL K H a (ns.map V.int) → sp [.ref a] H (fun v _ => v = .bl true) fun _ _ _ => False) (hCX : ∀ H e s', CX [] H s (fun _ _ _ => False) e s' → False) :
    codeAny (model P w) callerA (.call (.ref f) ⟨[.ref a], []⟩) (fun r s' => r = .ok (.ret (.bool true)) ∧ OldK s.heap s'.heap ∧ s'.os = s.os ∧ AllBare s'.gens) s := by
  obtain ⟨H, hH, hO, hS, hok⟩ := tracked (P := P) (w := w) nT KX hT ha hi hl
  -- what is untracked: all that is no list and no table
  have un : ∀ {b : Addr} {o : Obj}, s.heap.get? b = some o → (∀ d n, o.data ≠ .seq d n) → o.data ≠ .fields #[] → H b = none := fun {b o} e n1 n2 => by
    rcases hO b with z | ⟨z, _⟩ | ⟨z, _⟩
    · exact z
    · obtain ⟨p, hp, q⟩ := List.mem_map.mp z
      have g := hT p hp
      rw [q, e] at g
      cases g
      exact absurd rfl n2
    · rw [z, ha] at e
      cases e
      exact absurd rfl (n1 _ _)
  have ns' : ∀ {b : Addr} {m : Str → Option Value}, s.heap.Ns b m → (hidT s.heap H).Ns b m := fun {b m} ⟨o, es, ep, e, d, r⟩ =>
    ⟨o, es, ep, hidT_get e (un e (fun _ _ z => by rw [d] at z; cases z) fun z => by rw [d] at z; cases z), d, r⟩
  have kin : K.In (hidT s.heap H) := fun b o e => hidT_get (KX b o e) (by
    rcases hO b with z | ⟨z, _⟩ | ⟨z, k, _⟩
    · exact z
    · obtain ⟨p, hp, q⟩ := List.mem_map.mp z
      rw [← q, nT p hp] at e
      cases e
    · rw [z, k] at e
      cases e)
  obtain ⟨ml, l1, l2⟩ := hlim
  have hM : L2.Mod K mg (hidT s.heap H) := ⟨kin, ns' hns, ⟨mb, ns' hb, hbb⟩, ⟨ml, ns' l1, l2⟩⟩
  have e0 : Env0 P w K mg (hidT s.heap H) callerA [] s H := ⟨rfl, hM, fun b o e => of_hidT e, Nat.le_of_eq (hidT_size _ _), trivial, fun b hb => absurd (show b ∈ ([] : List Addr) from hb) List.not_mem_nil, hok, .of_eq hg⟩
  have tabs : ∀ p ∈ cs, LamX.TabB (hidT s.heap H) mg p.1 p.2 := fun p hp => by
    have tp := hT p hp
    refine ⟨?_, ?_, fun z => ?_⟩
    · obtain ⟨o, u1, fl, tf, gs, tg, iF, tx, tt, e1, r1, r2, r3, rr⟩ := C p hp
      refine ⟨o, u1, fl, tf, gs, tg, iF, tx, tt, hidT_get e1 (un e1 (fun _ _ z => by rw [r2] at z; cases z) fun z => ?_), r1, r2, r3, rr⟩
      rw [r2] at z
      cases z
      simp at r3
    · obtain ⟨bm, ob, b1, b2, b3, b4, b5, b6⟩ := hbm
      refine ⟨bm, ob, b1, b2, fun q => ?_, fun q => ?_, hidT_get b3 (un b3 (fun _ _ z => by rw [b6] at z; cases z) fun z => by rw [b6] at z; cases z), b4, b5, b6⟩
      · obtain ⟨o, es, ep, e, hd, _⟩ := hns
        rw [q, e] at b3
        cases b3
        rw [hd] at b6
        cases b6
      · rw [q, tp] at b3
        cases b3
        cases b6
    · obtain ⟨o, es, ep, e, hd, _⟩ := hns
      rw [z, tp] at e
      cases e
      cases hd
  refine codeAny_mono (F _ kin (ns' hns) tabs s H ⟨[.ref a], []⟩ [.ref a] [.ref a] _ _ e0 (hbind s (.ref a)) (.cons rfl .nil) (hsp H hH hS)) fun r s' h => ?_
  match r, h with
  | .error e, h => exact (hCX H e s' h).elim
  | .ok .next, h => exact h.elim
  | .ok .brk, h => exact h.elim
  | .ok .cont, h => exact h.elim
  | .ok (.ret u), ⟨v, H', os, bare, un', hok', r', q⟩ =>
    have q : v = .bl true := q
    subst q
    obtain rfl : u = Value.bool true := r'
    have still : ∀ b o, b ∉ cs.map (·.2) → s.heap.get? b = some o → s'.heap.get? b = some o := fun b o nb e => by
      rcases hO b with z | ⟨z, _⟩ | ⟨z, _, g⟩
      · exact un'.keep b o e z (fun z => absurd (show b ∈ ([] : List Addr) from z) List.not_mem_nil) List.not_mem_nil
      · exact absurd z nb
      · have g1 := (hok b _ g).1
        have g2 := (hok' b _ (un'.frzs b _ _ g)).1
        rw [e] at g1
        cases g1
        exact g2
    have more : ∀ b, b ∈ cs.map (·.2) → ∃ m : Array Value, s'.heap.get? b = some { cls := .none, data := .fields m } := fun b hb => by
      obtain ⟨p, hp, e⟩ := List.mem_map.mp hb
      obtain ⟨m, z⟩ := un'.tbls p.2 #[] (hH p hp)
      rw [← e]
      exact ⟨_, hok' p.2 _ z⟩
    refine ⟨rfl, ⟨fun b o e => ?_, fun b o e => ?_⟩, os, bare⟩
    · by_cases hb : b ∈ cs.map (·.2)
      · obtain ⟨m, hm⟩ := more b hb
        obtain ⟨p, hp, ep⟩ := List.mem_map.mp hb
        have tp := hT p hp
        rw [ep, e] at tp
        cases tp
        rw [← ep] at hm ⊢
        exact .inr (.inl ⟨((C p hp).tab (hT p hp)).isCodeTable, rfl, #[], m, rfl, by rw [Array.empty_append]; exact hm⟩)
      · exact .inl (still b o hb e)
    · by_cases hb : b ∈ cs.map (·.2)
      · exact ⟨_, (more b hb).choose_spec⟩
      · exact ⟨o, still b o hb e⟩
end
/-- what is known of the law at the head's heap -/
def LawAtC (l : PySem.W.OpenLaw) (w : World) (K : PySem.W.Frag) (CX : CXT) (n : Nat) (x : Str) (mg : Str → Option Value) (fa : Addr) (h : Heap) : Prop :=
  ∃ (fd : FuncData) (cs : List (Addr × Addr)) (sp : Sp), (∀ p ∈ cs, h.get? p.2 = some tbO) ∧ (∀ p ∈ cs, K.lookup p.2 = none) ∧ (∀ p ∈ cs, PySem.W.CodeHd h p.1 p.2) ∧ (∀ (s : Shared) (u : Value), BindsTo s fd ⟨[u], []⟩ [(x, u)]) ∧
    (∀ (H : Hp) (a : Addr) (ns : List Int), ns.length ≤ n → (∀ z ∈ ns, Builtin.Int.intBits z ≤ 1048576) → (∀ p ∈ cs, H p.2 = some (.tbl #[])) → SqL K H a (ns.map V.int) → sp [.ref a] H (fun v _ => v = .bl true) fun _ _ _ => False) ∧
    ∀ base : Heap, K.In base → base.Ns mainGlobals mg → (∀ p ∈ cs, LamX.TabB base mg p.1 p.2) → RunC l.prog w K mg base CX fa fd [x] sp
theorem walkC {l : PySem.W.OpenLaw} {n : Nat} {q : Program} {loose : List Str} {XP : (Str → Option Value) → Heap → Prop} {YP : World → Heap → Prop} {d : DefRec} {CX : World → CXT} {x : Str} (hn : l.most = some n) (hz : n ≤ sizeLine) (hdf : d.params.defaults = [])
    (F : ∀ (w : World) (mg : Str → Option Value) (fa : Addr) (h : Heap), YP w h → h.Ns mainGlobals mg → mg d.name = some (.ref fa) → ∃ K : PySem.W.Frag, K.In h ∧ LawAtC l w K (CX w) n x mg fa h)
    (hCX : ∀ (w : World) (H : Hp) (s : Shared) (e : Value) (s' : Shared), CX w [] H s (fun _ _ _ => False) e s' → False) : PySem.W.WalkO q loose XP YP l.row.toRowW d [] (fun f vs => PySem.call f vs) := by
  refine Att.attach_callB hn hdf fun w t0 t1 mg mb fa o pm cd doc a vs ns G Y _ _ _ hmg hob hin hlen hbit hg => ?_
  obtain ⟨K, KX, fd, cs, sp, hT, nT, C, bd, hs, hF⟩ := F w mg fa _ Y G.T.g hmg
  exact callC KX G.T.g G.T.b G.T.builtins G.T.nolimit hg hT nT C G.T.bmain hob hin (Nat.le_trans hlen hz) hF bd (fun H h1 h2 => hs H a ns hlen hbit h1 h2) fun H e s' => hCX w H t1 e s'
section
open GR GD GS
variable {P : Program} {w : World} {K : PySem.W.Frag} {mg : Str → Option Value} {base : Heap} {x qual : Str} {params : Arguments} {body : List Stmt} {scope : Scope} {dvs : List V} {kws : List (Str × V)} {f : Addr} {fd : FuncData}
/-- .. by its body, the caller known -/
theorem okG {CX : CXT} {N ps : List Str} {k : Nat} {sp : Sp} {c : Addr} (F : FunD K x qual params body scope dvs kws f fd) (hc : fd.code = .ref c) (S : FnScope N ps scope) (hr : Room (k + 1) callerA) (len : ∀ vs H Q E, sp vs H Q E → vs.length = ps.length)
    (hbody : ∀ (s : Shared) (H : Hp) (vs : List V) (Q : VK) (E : XK), Room k (callerA.deeper (envOfC qual scope s.heap.objs.size f (.ref c))) → sp vs H Q E →
      ∃ t, PSs (cxOf CX P w K mg base N qual scope f (.ref c) callerA [] s H E) body t ∧ t { nx := fun _ H' => Q .non H', rt := Q } (start N vs) H) : RunC P w K mg base CX f fd ps sp := by
  obtain ⟨oc, od, dV, kV, doc, pm, an, cdv, ct, osl, rfl, lk, hcd, _, _⟩ := F.ex
  obtain rfl : cdv = .ref c := hc
  intro s H args us vs Q E e0 hb r hsp
  have hl := len _ _ _ _ hsp
  have kept : ∀ b o, base.get? b = some o → s.heap.get? b = some o := fun b o e => (e0.bs b o e).1
  have KX := e0.mod.kin.keeps kept
  have lim := e0.mod.nolimit.keeps kept
  refine codeAny_call_function hr.depth (KX _ _ lk) rfl S.co S.gen rfl (PySem.W.codeRec_of KX hcd) (hb _ _ _ _ (wpAny_newFunctionEnv_cells S.kind (fun y hy => ?_) fun env he s1 z => ?_))
  · rcases S.par y.1 (List.of_mem_zip hy).1 with q | q
    · exact .inl q
    · exact .inr ⟨q, PySem.W.cellsFrom_some _ _ _ (.inl q)⟩
  · subst he
    refine ⟨lim.keeps z.toInCall.keep, codeAny_func ?_⟩
    obtain ⟨t, ht, hq⟩ := hbody s H vs Q E (hr.deeper _) hsp
    have I : Inv (cxOf CX P w K mg base N qual scope f (.ref c) callerA [] s H E) [] (start N vs) H s1 := inv_start S hr.hd e0 hl r z
    refine wpAny_mono (ht.run [] s1 (start N vs) H _ I hq) (fun fl s' hs => ?_) fun _ _ h => h
    match fl, hs with
    | .ret u, ⟨v, _, H', J, rv, q⟩ => exact ⟨v, H', J.os, J.bare, J.base, J.hok, rv, q⟩
    | .next, ⟨_, H', J, q⟩ => exact ⟨V.non, H', J.os, J.bare, J.base, J.hok, (rfl : RelV V.non Value.none), q⟩
    | .brk, ⟨_, _, _, q⟩ => exact q.elim
    | .cont, ⟨_, _, _, q⟩ => exact q.elim
end
end LG

-- part GV
set_option Elab.async false
set_option linter.all false
set_option maxRecDepth 100000
set_option maxHeartbeats 2000000
/-! the law's def over data, its caller known; repr of data there -/
namespace DL
open PySem PySem.Spec PyProof.Rows L2 GxR GS GA GD
theorem fnG_data {P : Program} {w : World} {K : PySem.W.Frag} {mg : Str → Option Value} {base : Heap} {f : Addr} {fd : FuncData} {ps : List Str} {n k : Nat} {φ : Ph} {Ts : AP} {xn qual : Str} {params : Arguments} {body : List Stmt} {scope : Scope} {dvs : List V} {kws : List (Str × V)} {c : Addr} {N : List Str} (F : FunD K xn qual params body scope dvs kws f fd) (hc : fd.code = .ref c) (S : FnScope N ps scope) (hn : ps.length = n) (hr : Room (k + 1) callerA)
    (hbody : ∀ (s : Shared) (H : Hp) (E : XK), Room k (callerA.deeper (envOfC qual scope s.heap.objs.size f (.ref c))) → ∃ t : DS, PSs (cxOf (L2.CX P w) P w K mg base N qual scope f (.ref c) callerA [] s H E) body (upS K Ts (fun cls d _ H => E cls d H) t) ∧
      ∀ ds Qd Xd, φ ds Qd Xd → ds.length = n → t (fun x _ => Xd x) ⟨fun _ => Qd .non, fun s _ => slFr s = true ∧ Qd (slD s), fun _ => False, fun _ => False⟩ (ds.map Sl.va ++ List.replicate (N.length - n) .no)) : LG.RunC P w K mg base (L2.CX P w) f fd ps (spD K Ts n φ) := by
  refine LG.okG F hc S hr (fun vs H Q E h => by rw [hn]; exact h.1) fun s H vs Q E hr h => ?_
  obtain ⟨t, hp, ht⟩ := hbody s H E hr
  refine ⟨_, hp, ?_⟩
  obtain ⟨hl, A0, ds, Qd, Xd, tb, trk, r, h, kq, kx⟩ := h
  have dl : ds.length = n := by rw [r.len]; exact hl
  have sl : ∀ {i : Nat} {x : Sl}, (ds.map Sl.va ++ List.replicate (N.length - n) .no)[i]? = some x → x ≠ .no → ∃ d, ds[i]? = some d ∧ x = .va d := fun {i x} e nx => by
    by_cases hi : i < ds.length
    · rw [List.getElem?_append_left (by rw [List.length_map]; exact hi), List.getElem?_map] at e
      cases q : ds[i]? with
      | none => rw [q] at e; cases e
      | some d => rw [q] at e; cases e; exact ⟨d, rfl, rfl⟩
    · rw [List.getElem?_append_right (by rw [List.length_map]; omega)] at e
      exact absurd (List.eq_of_mem_replicate (List.mem_of_getElem? e)) nx
  have m : Mt K Ts H A0 (fun _ => False) (ds.map Sl.va ++ List.replicate (N.length - n) .no) (L2.start N vs) := by
    refine ⟨fun _ => [], tb, fun b z => z.elim, trk, ?_, fun i s o e1 e2 => ?_, fun _ => List.nodup_nil, fun _ _ _ h => (by cases h), fun b => ⟨fun z => z.elim, fun ⟨_, h⟩ => (by cases h)⟩, fun _ _ => rfl⟩
    · unfold L2.start
      rw [List.length_append, List.length_append, List.length_map, List.length_map, List.length_replicate, List.length_replicate, r.len, hl]
    · by_cases nx : s = .no
      · rw [nx]; rfl
      · obtain ⟨z, e3, rfl⟩ := sl e1 nx
        obtain ⟨v, g1, g2⟩ := r.get' e3
        unfold L2.start at e2
        rw [List.getElem?_append_left (by rw [List.length_map]; exact (List.getElem?_eq_some_iff.mp g1).1), List.getElem?_map, g1] at e2
        cases e2
        exact ⟨v, rfl, rfl, g2⟩
  have old : ∀ {A' O' : AP} {H' : Hp}, Tr A0 (fun _ => False) H A' O' H' → ∀ b, A0 b → A' b := fun t b z => t.old b z fun q => q
  refine ⟨A0, _, _, _, _, m, ht ds Qd Xd h dl, ⟨fun ρ' σ' H' A' O' q t m' => ?_, fun _ _ _ _ _ q => q.elim, fun _ _ _ _ _ q => q.elim, fun s ρ' v σ' H' A' O' q t m' => ?_, fun x ρ' cls od σ' H' A' O' q t m' r' => ?_⟩⟩
  · exact kq .non .non H' A' q t.kp.sm (old t) (by unfold Rp; rfl)
  · obtain ⟨A2, O2, m2, r2, t2, _⟩ := m'.frz0 q.1
    exact kq _ v H' A2 q.2 t.kp.sm (fun b hb => t2.old b (old t b hb) fun hO => (t.own b hO).elim id fun z => trk b hb z) r2
  · exact kx x cls od H' A' q t.kp.sm (old t) r'
/-! ### repr of a list, a tuple -/
def seqD : D → Bool
  | .lst _ => true
  | .tup _ => true
  | _ => false
mutual
theorem noDict : ∀ d : D, (pd d).hasDict = false
  | .non => by unfold pd PyData.hasDict; rfl
  | .bl _ => by unfold pd PyData.hasDict; rfl
  | .int _ => by unfold pd PyData.hasDict; rfl
  | .str _ => by unfold pd PyData.hasDict; rfl
  | .lst xs => by unfold pd PyData.hasDict; exact noDicts xs
  | .tup xs => by unfold pd PyData.hasDict; exact noDicts xs
  | .ins _ _ _ => by unfold pd PyData.hasDict; rfl
  | .dct _ _ => by unfold pd PyData.hasDict; rfl
  | .scr _ => by unfold pd PyData.hasDict; rfl
  | .xc _ _ _ _ => by unfold pd PyData.hasDict; rfl
  | .xn _ => by unfold pd PyData.hasDict; rfl
theorem noDicts : ∀ ds : List D, PyData.hasDictAll (pdL ds) = false
  | [] => by unfold pdL PyData.hasDictAll; rfl
  | d :: r => by unfold pdL PyData.hasDictAll; rw [noDict d, noDicts r]; rfl
end
def rRepr (K : PySem.W.Frag) : List V → Hp → VK → Prop := fun vs H Q => ∃ (a : Addr) (d : PyData), vs = [.ref a] ∧ Dp K H (.ref a) d ∧ d.showable = true ∧ d.hasDict = false ∧ d.depth ≤ 64 ∧ d.shown.length ≤ sizeLine ∧ Q (.str d.shown) H
theorem call_repr {X : Cx} (hg : X.A.guards = some []) (hu : X.A.units + 66 < cLine) : CallR X (.builtin "repr") (rRepr X.K) := by
  intro pins s σ H xs us Q I rv h
  obtain ⟨a, d, rfl, hd, h1, h2, h3, h4, q⟩ := h
  cases rv with
  | cons r1 r2 =>
    cases r2
    rename_i u
    obtain rfl : u = Value.ref a := r1
    obtain ⟨as, rd⟩ := Dp.reads I d (.ref a) (.ref a) hd rfl
    exact repr_of_reads' rd h1 (fun z => by rw [h2] at z; cases z) hg (by omega) (fun _ _ e => e) (fun h' u tk k => ⟨.str d.shown, H, I.kept k, ⟨u, rfl⟩, q⟩) h4
def gRepr : List D → (D → Kd → Prop) → Prop
  | [d], Q => seqD d = true ∧ okD d = true ∧ (pd d).showable = true ∧ dpt d ≤ 60 ∧ (pd d).shown.length ≤ sizeLine ∧ Q (.str (pd d).shown) .sh
  | _, _ => False
theorem gRepr_1 {d : D} {Q : D → Kd → Prop} : gRepr [d] Q = (seqD d = true ∧ okD d = true ∧ (pd d).showable = true ∧ dpt d ≤ 60 ∧ (pd d).shown.length ≤ sizeLine ∧ Q (.str (pd d).shown) .sh) := rfl
theorem dcl_repr {X : Cx} {Ts : AP} (hg : X.A.guards = some []) (hu : X.A.units + 66 < cLine) : DCl X Ts (.builtin "repr") gRepr := by
  refine ⟨_, call_repr hg hu, fun W σ H A O ρ Xf Qd Q ds vs hw m c g => ?_⟩
  unfold gRepr at g
  split at g
  · rename_i d
    obtain ⟨h1, h2, h3, h4, h5, q⟩ := g
    obtain ⟨v, rfl, wv⟩ := hw.one
    have dp := wv.dp h2
    have hv : ∃ a, v = .ref a := by
      cases d with
      | lst xs => obtain ⟨a, vs, e, _⟩ := wv.lst; exact ⟨a, e⟩
      | tup xs => obtain ⟨a, vs, e, _⟩ := wv.tup; exact ⟨a, e⟩
      | _ => cases h1
    obtain ⟨a, rfl⟩ := hv
    have := dpt_of d
    exact ⟨a, pd d, rfl, dp, h3, noDict d, by omega, h5, c.flat m q Rp.str⟩
  · exact g.elim
theorem units66 {k : Nat} {A : Around} (r : Room k A) : A.units + 66 < cLine := by have := r.un; omega
end DL

-- part DN1
set_option Elab.async false
set_option linter.all false
set_option maxRecDepth 100000
set_option maxHeartbeats 2000000
namespace DL
open PySem PySem.Spec PyProof.Rows L2 GxR GS GA GD DL
local macro_rules | `(tactic| walk_at "ev") => `(tactic| simp (dsimp := false) only [slD_va, slD_ow, slFr_va, slFr_ow, slFr_od, bK_rl, bK_od, vK_od, slOf_frd, k0, k1, k2, k3, iK_true, iK_false, iK_not, sl_0, sl_s, vK_va, vK_ow, bK_va, bK_ow, dVar_ev, dVarB_ev, dC_ev, dBin_ev, tK_bl, dTst_ev, dAnd_ev, dOr_ev, dNot_ev, dAndV_ev, dOrV_ev, dNotV_ev, dIf_ev, dNext_ev, dSeq_st, kS_e, dBreak_ev, dCont_ev, dRet_ev, dRetN_ev, dIfS_ev, dSet_ev, dDrop_ev, slOf_fr, slOf_sh, gAdd_i, gAdd_s, gAdd_l, gAdd_t, num_i, gEq_i, gEq_s, gEq_b, gEq_sn, gEq_ns, gEq_in, gEq_ni, gEq_nn, gEq_is, gEq_si, gNe_i, gNe_s, gNe_b, gNe_sn, gNe_ns, gNe_in, gNe_ni, gNe_nn, gEq_l, gEq_t, gNe_l, gNe_t,
    gIsN_n, gIsN_s, gIsN_i, gIsN_l, gIsN_t, gNotN_n, gNotN_s, gNotN_i, gNotN_l, gNotN_t, gIn_l, gIn_t, gNin_l, gNin_t, flD_s, flD_i, flD_n, flD_str, flD_int, has_strs, gIx_l, gIx_t, gIx_s, DL.at0, at1, at2, at3, at4, at5, dNoPart_ev, pK_i, dPart_ev, sK_l, sK_r, sK_t, sK_s, dSl_ev, dNil_ev, dCons_ev, dConsW_ev, itsD_l, itsD_t, dStar_ev, dLst_ev, dTup_ev, dBlt_ev, gLen_l, gLen_t, gLen_r, gLen_s, gInt_i, gInt_b, gAbs_i, gMax_i, gMin_i, gTuple_l, gTuple_t, gList_l, gList_t, oW_ow, owAt_ev, dApp_ev, dStI_ev, wK_sh, wK_fr, wK_bo, wK_t, wK_r, wK_s, diVal_ev, rK_i, diRng_ev, eK_sh, eK_fr, eK_bo, diEnum_ev, dgName_ev, dgNil_ev, dgCons_ev, dgTup_ev, dAsg_ev, dFor_ev, dWhile_ev, dLc_ev, dGen_ev, dCall_ev, mK_i, dMeth_ev, fK_i, dFld_ev, nK_i, dNeg_ev, dYes_ev, oK_some, List.length_map, rng_len, Int.toNat_natCast,
    List.map_cons, List.map_nil, List.length_cons, List.length_nil, List.length_set, List.replicate_succ, List.replicate_zero, List.nil_append, List.cons_append, List.set_cons_zero, List.set_cons_succ, Nat.reduceAdd, Nat.reduceSub, ne_eq, reduceCtorEq, not_false_eq_true, not_true_eq_false, true_and, and_true, Nat.reduceLT, Nat.reduceLeDiff, Nat.zero_le, Bool.false_eq_true])
local macro_rules | `(tactic| walk_at "st") => `(tactic| simp (dsimp := false) only [slD_va, slD_ow, slFr_va, slFr_ow, slFr_od, bK_rl, bK_od, vK_od, slOf_frd, k0, k1, k2, k3, iK_true, iK_false, iK_not, sl_0, sl_s, vK_va, vK_ow, bK_va, bK_ow, dVar_ev, dVarB_ev, dC_ev, dBin_ev, tK_bl, dTst_ev, dAnd_ev, dOr_ev, dNot_ev, dAndV_ev, dOrV_ev, dNotV_ev, dIf_ev, dNext_ev, dSeq_st, kS_e, dBreak_ev, dCont_ev, dRet_ev, dRetN_ev, dSet_ev, dDrop_ev, slOf_fr, slOf_sh, gAdd_i, gAdd_s, gAdd_l, gAdd_t, num_i, gEq_i, gEq_s, gEq_b, gEq_sn, gEq_ns, gEq_in, gEq_ni, gEq_nn, gEq_is, gEq_si, gNe_i, gNe_s, gNe_b, gNe_sn, gNe_ns, gNe_in, gNe_ni, gNe_nn, gEq_l, gEq_t, gNe_l, gNe_t,
    gIsN_n, gIsN_s, gIsN_i, gIsN_l, gIsN_t, gNotN_n, gNotN_s, gNotN_i, gNotN_l, gNotN_t, gIn_l, gIn_t, gNin_l, gNin_t, flD_s, flD_i, flD_n, flD_str, flD_int, has_strs, gIx_l, gIx_t, gIx_s, DL.at0, at1, at2, at3, at4, at5, dNoPart_ev, pK_i, dPart_ev, sK_l, sK_r, sK_t, sK_s, dSl_ev, dNil_ev, dCons_ev, dConsW_ev, itsD_l, itsD_t, dStar_ev, dLst_ev, dTup_ev, dBlt_ev, gLen_l, gLen_t, gLen_r, gLen_s, gInt_i, gInt_b, gAbs_i, gMax_i, gMin_i, gTuple_l, gTuple_t, gList_l, gList_t, oW_ow, owAt_ev, dApp_ev, dStI_ev, wK_sh, wK_fr, wK_bo, wK_t, wK_r, wK_s, diVal_ev, rK_i, diRng_ev, eK_sh, eK_fr, eK_bo, diEnum_ev, dgName_ev, dgNil_ev, dgCons_ev, dgTup_ev, dAsg_ev, dFor_ev, dWhile_ev, dLc_ev, dGen_ev, dCall_ev, mK_i, dMeth_ev, fK_i, dFld_ev, nK_i, dNeg_ev, dYes_ev, oK_some, List.length_map, rng_len, Int.toNat_natCast,
    List.map_cons, List.map_nil, List.length_cons, List.length_nil, List.length_set, List.replicate_succ, List.replicate_zero, List.nil_append, List.cons_append, List.set_cons_zero, List.set_cons_succ, Nat.reduceAdd, Nat.reduceSub, ne_eq, reduceCtorEq, not_false_eq_true, not_true_eq_false, true_and, and_true, Nat.reduceLT, Nat.reduceLeDiff, Nat.zero_le, Bool.false_eq_true])
def In9 (n : Int) : Prop := 0 ≤ n ∧ n < 1009
theorem in9 (i : Int) : In9 (i % 1009) := ⟨Int.emod_nonneg _ (by decide), Int.emod_lt_of_pos _ (by decide)⟩
theorem log2_small {i : Int} {b : Nat} (h0 : 0 ≤ i) (h : i < 2 ^ b) : i.natAbs.log2 ≤ b := by
  by_cases z : i.natAbs = 0
  · rw [z]; show Nat.log2 0 ≤ b; rw [Nat.log2_zero]; omega
  · have : i.natAbs < 2 ^ b := by
      have e : ((i.natAbs : Nat) : Int) = i := by omega
      have : ((i.natAbs : Nat) : Int) < ((2 ^ b : Nat) : Int) := by rw [e]; simpa using h
      exact Int.ofNat_lt.mp this
    exact Nat.le_of_lt ((Nat.log2_lt z).mpr this)
theorem log2_mono {i j : Int} (h0 : 0 ≤ i) (h : i ≤ j) : i.natAbs.log2 ≤ j.natAbs.log2 := by
  have hij : i.natAbs ≤ j.natAbs := by omega
  by_cases z : i.natAbs = 0
  · rw [z]; show Nat.log2 0 ≤ _; rw [Nat.log2_zero]; omega
  · have hz : j.natAbs ≠ 0 := by omega
    exact (Nat.le_log2 hz).mpr (Nat.le_trans ((Nat.le_log2 z).mp (Nat.le_refl _)) hij)
abbrev N_law_row : List Str := ["cell", "many", "row", "rest", "mixed", "k"]
def r_law_row : DS :=
  (dSeq (dSet 2 (dLst dNil))
  (dSeq (dSet 3 (dBlt gAbs (dConsW (dVarB 0) dNil)))
  (dSeq (dSet 4 (dBin gMod (dBlt gInt (dConsW (dBin gAdd (dBin gMul (dVarB 3) (dC (.int 48271))) (dC (.int 69621))) dNil)) (dC (.int 2147483647))))
  (dSeq (dFor (diRng (dConsW (dVarB 1) dNil)) (dgName 5) (dSeq (dSet 4 (dBin gMod (dBlt gInt (dConsW (dBin gAdd (dBin gMul (dVarB 4) (dC (.int 16807))) (dBin gMul (dC (.int 271)) (dBin gAdd (dVarB 5) (dC (.int 3))))) dNil)) (dC (.int 2147483629))))
  (dIfS (dTst (dBin gGe (dBlt gAbs (dConsW (dVarB 0) dNil)) (dBin gPow (dC (.int 10)) (dC (.int 18))))) (dSeq (dApp 2 (dBin gMod (dBlt gInt (dConsW (dVarB 3) dNil)) (dC (.int 1009))))
  (dSet 3 (dBin gDiv (dVarB 3) (dC (.int 1009))))) (dApp 2 (dBin gMod (dBlt gInt (dConsW (dBin gDiv (dVarB 4) (dC (.int 7))) dNil)) (dC (.int 1009)))))))
  (dRet (dVar 2))))))
/- theorem M_law_row : MD r_law_row 2 6 ph_law_row := fun ds Qd Xd h hl => by -/
def ph__law_row : Ph := fun ds Qd _ => ∃ (cell : Int) (m : Nat), ds = [.int cell, .int m] ∧ cell.natAbs.log2 < 4000000 ∧ m ≤ 4000 ∧ ∀ ns : List Int, ns.length = m → (∀ n ∈ ns, In9 n) → Qd (.lst (ns.map .int))
theorem M_law_row : MD r_law_row 2 6 ph__law_row := fun ds Qd Xd h hl => by
  obtain ⟨cell, m, rfl, hc, hm, q⟩ := h
  unfold r_law_row
  walk_at "ev"
  have e0 : (0 : Int) ≤ (if cell < 0 then -cell else cell) := by split <;> omega
  have en : (if cell < 0 then -cell else cell).natAbs = cell.natAbs := by split <;> omega
  generalize hr : (if cell < 0 then -cell else cell) = ab at e0 en
  have cm : ∀ r : Int, 0 ≤ r → r ≤ ab → CMulB r 48271 := fun r h0 h1 => by
    have := log2_mono h0 h1
    rw [en] at this
    show r.natAbs.log2 + (48271 : Nat).log2 < _
    have : (48271 : Nat).log2 = 15 := by decide
    omega
  refine ⟨cm ab e0 (Int.le_refl _), by decide, by omega, by omega, forK.rng (fun k ρ => ∃ (ns : List Int) (r mx : Int) (x : Sl), ρ = [.va (.int cell), .va (.int m), .ow (ns.map .int), .va (.int r), .va (.int mx), x] ∧ ns.length = k ∧ (∀ n ∈ ns, In9 n) ∧ 0 ≤ r ∧ r ≤ ab ∧ 0 ≤ mx ∧ mx < 2147483648)
    ⟨[], ab, _, _, rfl, rfl, by simp, e0, Int.le_refl _, Int.emod_nonneg _ (by decide), by
      have := Int.emod_lt_of_pos (ab * 48271 + 69621) (show (0 : Int) < 2147483647 by decide)
      omega⟩ ?_ ?_⟩
  · rintro k ρ' lt ⟨ns, r, mx, x, rfl, hl, h9, r0, r1, m0, m1⟩
    walk_at "ev"
    have c1 : CMulB mx 16807 := by
      have := log2_small (b := 31) m0 (by omega)
      show mx.natAbs.log2 + (16807 : Nat).log2 < _
      have : (16807 : Nat).log2 = 14 := by decide
      omega
    have c2 : CMulB 271 ((k : Int) + 3) := by
      have := log2_small (i := (k : Int) + 3) (b := 13) (by omega) (by show _ < (2 : Int) ^ 13; omega)
      show (271 : Nat).log2 + ((k : Int) + 3).natAbs.log2 < _
      have : (271 : Nat).log2 = 8 := by decide
      omega
    have z := Int.emod_nonneg (mx * 16807 + 271 * ((k : Int) + 3)) (show (2147483629 : Int) ≠ 0 by decide)
    have z2 := Int.emod_lt_of_pos (mx * 16807 + 271 * ((k : Int) + 3)) (show (0 : Int) < 2147483629 by decide)
    have nl : ns.length < sizeLine := by unfold sizeLine; omega
    refine ⟨c1, c2, by decide, ⟨by decide, by decide, by decide⟩, ?_⟩
    have e9 : ∀ y : Int, In9 y → ∀ n ∈ ns ++ [y], In9 n := fun y hy n hn => (List.mem_append.mp hn).elim (h9 n) fun z => by rw [List.mem_singleton.mp z]; exact hy
    refine iK_d (fun _ => ?_) fun _ => ?_
    · walk_at "ev"
      refine ⟨by decide, nl, ⟨by decide, by decide⟩, ns ++ [r % 1009], r / 1009, _, _, by rw [List.map_append]; rfl, by rw [List.length_append, hl]; rfl, e9 _ (in9 _), by omega, by omega, z, by omega⟩
    · walk_at "ev"
      refine ⟨⟨by decide, by decide⟩, by decide, nl, ns ++ [(mx * 16807 + 271 * ((k : Int) + 3)) % 2147483629 / 7 % 1009], r, _, _, by rw [List.map_append]; rfl, by rw [List.length_append, hl]; rfl, e9 _ (in9 _), r0, r1, z, by omega⟩
  · rintro ρ' ⟨ns, r, mx, x, rfl, hl, h9, _⟩
    walk_at "ev"
    exact q ns hl h9
abbrev N_law_numbers : List Str := ["script", "many", "cells", "each", "numbers", "cell", "number"]
def r_law_numbers : DS :=
  (dSeq (dSet 2 (dSl (dVarB 0) dNoPart (dPart (dC (.int 63)))))
  (dSeq (dSet 3 (dBin gAdd (dC (.int 1)) (dBin gDiv (dVarB 1) (dBlt gMax (dConsW (dC (.int 1)) (dConsW (dBlt gLen (dConsW (dVarB 2) dNil)) dNil))))))
  (dSeq (dSet 4 (dLst dNil))
  (dSeq (dFor (diVal (dVar 2)) (dgName 5) (dFor (diVal (dCall 2 ph__law_row (dCons (dVar 5) (dCons (dVar 3) dNil)))) (dgName 6) (dApp 4 (dVar 6))))
  (dSeq (dWhile (dTst (dBin gLt (dBlt gLen (dConsW (dVarB 4) dNil)) (dVarB 1))) (dApp 4 (dC (.int 0))))
  (dRet (dSl (dVarB 4) dNoPart (dPart (dVarB 1)))))))))
/- theorem M_law_numbers : MD r_law_numbers 2 7 ph_law_numbers := fun ds Qd Xd h hl => by -/
def ph__law_numbers : Ph := fun ds Qd _ => ∃ (d : D) (sc : List Int) (m : Nat), ds = [d, .int m] ∧ (d = .scr sc ∨ d = .lst (sc.map .int)) ∧ (∀ c ∈ sc, c.natAbs.log2 < 4000000) ∧ sc.length ≤ 63 ∧ m ≤ 400 ∧ ∀ ns : List Int, ns.length = m → (∀ n ∈ ns, In9 n) → Qd (.lst (ns.map .int))
theorem M_law_numbers : MD r_law_numbers 2 7 ph__law_numbers := fun ds Qd Xd h hl => by
  obtain ⟨d, sc, m, rfl, hd0, hs, hl, hm, q⟩ := h
  unfold r_law_numbers
  have sk : ∀ lo hi f, sK d lo hi f = f (.lst (cutD (sc.map .int) lo hi)) .fr := fun lo hi f => by rcases hd0 with rfl | rfl <;> rfl
  walk_at "ev"
  simp (dsimp := false) only [sk]
  walk_at "ev"
  have ec : cutD (sc.map D.int) none (some 63) = sc.map D.int := (cutD_take _ 63).trans (List.take_of_length_le (by rw [List.length_map]; exact hl))
  simp only [ec, List.length_map]
  have hd : 0 < (if (sc.length : Int) > 1 then (sc.length : Int) else 1) ∧ (if (sc.length : Int) > 1 then (sc.length : Int) else 1) < 1073741824 := by split <;> omega
  generalize (if (sc.length : Int) > 1 then (sc.length : Int) else 1) = dv at hd
  have q0 : 0 ≤ (m : Int) / dv := Int.ediv_nonneg (by omega) (by omega)
  have q1 : (m : Int) / dv ≤ m := Int.ediv_le_self _ (by omega)
  obtain ⟨e, he, hle⟩ : ∃ e : Nat, (1 : Int) + m / dv = (e : Int) ∧ e ≤ 401 := ⟨(1 + (m : Int) / dv).toNat, by omega, by omega⟩
  rw [he]
  refine ⟨hd, forK.map (fun k ρ => ∃ (ns : List Int) (x y : Sl), ρ = [.va d, .va (.int m), .va (.lst (sc.map .int)), .va (.int e), .ow (ns.map .int), x, y] ∧ ns.length ≤ k * 401 ∧ ∀ n ∈ ns, In9 n) ⟨[], _, _, rfl, by simp, by simp⟩ ?_ ?_⟩
  · rintro k c ρ' hc lt ⟨ns, x, y, rfl, nl, h9⟩
    walk_at "ev"
    refine ⟨c, e, rfl, hs c (List.mem_of_getElem? hc), by omega, fun rs rl r9 => ?_⟩
    walk_at "ev"
    refine forK.map (fun j ρ => ∃ (ns : List Int) (y : Sl), ρ = [.va d, .va (.int m), .va (.lst (sc.map .int)), .va (.int e), .ow (ns.map .int), .va (.int c), y] ∧ ns.length ≤ k * 401 + j ∧ ∀ n ∈ ns, In9 n) ⟨ns, _, rfl, by omega, h9⟩ ?_ ?_
    · rintro j u ρ' hu lj ⟨ms, z, rfl, ml, m9⟩
      walk_at "ev"
      refine ⟨by unfold sizeLine; omega, ms ++ [u], _, by rw [List.map_append]; rfl, by rw [List.length_append]; show _ + 1 ≤ _; omega, fun n hn => (List.mem_append.mp hn).elim (m9 n) fun z => by rw [List.mem_singleton.mp z]; exact r9 u (List.mem_of_getElem? hu)⟩
    · rintro ρ' ⟨ms, z, rfl, ml, m9⟩
      exact ⟨ms, _, _, rfl, by omega, m9⟩
  · rintro ρ' ⟨ns, x, y, rfl, nl, h9⟩
    walk_at "ev"
    refine whileK.mk (fun n ρ => ∃ (ns : List Int), ρ = [.va d, .va (.int m), .va (.lst (sc.map .int)), .va (.int e), .ow (ns.map .int), x, y] ∧ ns.length ≤ 63 * 401 + m ∧ (∀ n ∈ ns, In9 n) ∧ n = m - ns.length) _ ⟨ns, rfl, by
      have := Nat.mul_le_mul_right 401 hl
      omega, h9, rfl⟩ ?_
    rintro n ρ1 ⟨ns, rfl, nl, h9, rfl⟩
    walk_at "ev"
    refine iK_d (fun c => ?_) fun c => ?_
    · walk_at "ev"
      refine ⟨by unfold sizeLine; omega, m - (ns.length + 1), by omega, ns ++ [0], by rw [List.map_append]; rfl, by rw [List.length_append]; show _ + 1 ≤ _; omega, fun n hn => (List.mem_append.mp hn).elim (h9 n) fun z => by rw [List.mem_singleton.mp z]; exact ⟨by decide, by decide⟩, by rw [List.length_append]; rfl⟩
    · walk_at "ev"
      rw [cutD_take, ← List.map_take]
      exact q _ (by rw [List.length_take]; omega) fun n hn => h9 n (List.mem_of_mem_take hn)
end DL

-- part PZ
set_option Elab.async false
set_option linter.all false
set_option maxRecDepth 100000
set_option maxHeartbeats 2000000
/-! names, ledgers, plain -/
namespace K8
open PySem PySem.Spec PyProof.Rows L2 GxR GS GA GD DL
def letters : Str := "abcdefghijklmnopqrstuvwxyz"
def signs : Str := "abcdefghijklmnopqrstuvwxyz0123456789"
def isName (t : Str) : Bool := (decide (1 ≤ t.length) && decide (t.length ≤ 12)) && ((t.cps.toList.head?.any fun c => decide (c ∈ letters.cps.toList)) && t.cps.toList.all fun c => decide (c ∈ signs.cps.toList))
structure Gr where
  gv : Str
  rc : Str
  rt : Str
  mp : Bool
def prD (x : Str × Str) : D := .tup [.str x.1, .str x.2]
def grD (g : Gr) : D := .ins "Grant" ["giver", "receiver", "right", "may_pass"] [.str g.gv, .str g.rc, .str g.rt, .bl g.mp]
def inD (n : Nat) : D := .int (n : Int)
def omA (ps : List (Str × Str)) : List (Key × D) := ps.map fun x => (.inr x.1, .str x.2)
/-- a ledger's fields -/
def lgF (ps : List (Str × Str)) (gs : List Gr) (rm : List Bool) (st : List Nat) : List (Str × Fd) := [("owners", .tq (ps.map prD)), ("_owner_of", .od (omA ps)), ("_grants", .ow (gs.map grD)), ("_removed", .ow (rm.map .bl)), ("_standing", .ow (st.map inD))]
def grF (g : Gr) : List (Str × Fd) := [("giver", .va (.str g.gv)), ("receiver", .va (.str g.rc)), ("right", .va (.str g.rt)), ("may_pass", .va (.bl g.mp))]
section
variable {ps : List (Str × Str)} {gs gs' : List Gr} {rm rm' : List Bool} {st st' : List Nat}
theorem lg_owners : (lgF ps gs rm st).lookup ("owners" : Str) = some (.tq (ps.map prD)) := rfl
theorem lg_owner_of : (lgF ps gs rm st).lookup ("_owner_of" : Str) = some (.od (omA ps)) := rfl
theorem lg_grants : (lgF ps gs rm st).lookup ("_grants" : Str) = some (.ow (gs.map grD)) := rfl
theorem lg_removed : (lgF ps gs rm st).lookup ("_removed" : Str) = some (.ow (rm.map .bl)) := rfl
theorem lg_standing : (lgF ps gs rm st).lookup ("_standing" : Str) = some (.ow (st.map inD)) := rfl
theorem lg_gput {g : Gr} : putFd "_grants" (.ow (gs.map grD ++ [grD g])) (lgF ps gs rm st) = lgF ps (gs ++ [g]) rm st := by
  unfold lgF; rw [List.map_append]; rfl
theorem lg_rput {b : Bool} : putFd "_removed" (.ow (rm.map .bl ++ [.bl b])) (lgF ps gs rm st) = lgF ps gs (rm ++ [b]) st := by
  unfold lgF; rw [List.map_append]; rfl
theorem lg_sput {n : Nat} : putFd "_standing" (.ow (st.map inD ++ [inD n])) (lgF ps gs rm st) = lgF ps gs rm (st ++ [n]) := by
  unfold lgF; rw [List.map_append]; rfl
theorem lg_owner : ("owner" : Str) ∉ (lgF ps gs rm st).map (·.1) := by show _ ∉ (["owners", "_owner_of", "_grants", "_removed", "_standing"] : List Str); decide
theorem lg_standing_of : ("_standing_of" : Str) ∉ (lgF ps gs rm st).map (·.1) := by show _ ∉ (["owners", "_owner_of", "_grants", "_removed", "_standing"] : List Str); decide
theorem lg_may_pass : ("may_pass" : Str) ∉ (lgF ps gs rm st).map (·.1) := by show _ ∉ (["owners", "_owner_of", "_grants", "_removed", "_standing"] : List Str); decide
theorem lg_grant : ("grant" : Str) ∉ (lgF ps gs rm st).map (·.1) := by show _ ∉ (["owners", "_owner_of", "_grants", "_removed", "_standing"] : List Str); decide
end
theorem fg_giver {a b c d : D} : ((["giver", "receiver", "right", "may_pass"] : List Str).zip [a, b, c, d]).lookup ("giver" : Str) = some a := rfl
theorem fg_receiver {a b c d : D} : ((["giver", "receiver", "right", "may_pass"] : List Str).zip [a, b, c, d]).lookup ("receiver" : Str) = some b := rfl
theorem fg_right {a b c d : D} : ((["giver", "receiver", "right", "may_pass"] : List Str).zip [a, b, c, d]).lookup ("right" : Str) = some c := rfl
theorem fg_may_pass {a b c d : D} : ((["giver", "receiver", "right", "may_pass"] : List Str).zip [a, b, c, d]).lookup ("may_pass" : Str) = some d := rfl
theorem slD_gr {a : Addr} {x y z : Str} {b : Bool} : slD (.ob a "Grant" [("giver", .va (.str x)), ("receiver", .va (.str y)), ("right", .va (.str z)), ("may_pass", .va (.bl b))]) = grD ⟨x, y, z, b⟩ := rfl
theorem slFr_gr {a : Addr} {x y z w : D} : slFr (.ob a "Grant" [("giver", .va x), ("receiver", .va y), ("right", .va z), ("may_pass", .va w)]) = true := rfl
def ownerOf (ps : List (Str × Str)) (r : Str) : Option Str := (ps.find? fun x => decide (x.1 = r)).map (·.2)
theorem val_om {ps : List (Str × Str)} {r : Str} : valA (omA ps) (.inr r) = (ownerOf ps r).map .str := by
  unfold ownerOf omA
  induction ps with
  | nil => rfl
  | cons x t ih =>
    rw [List.map_cons]
    unfold valA at ih ⊢
    by_cases e : x.1 = r
    · rw [List.find?_cons_of_pos (by simp [e]), List.find?_cons_of_pos (by simp [e])]; rfl
    · rw [List.find?_cons_of_neg (by simp [e]), List.find?_cons_of_neg (by simp [e])]; exact ih
theorem put_new {acc : List (Key × D)} {k : Key} {d : D} (h : k ∉ acc.map (·.1)) : putA acc k d = acc ++ [(k, d)] := by
  unfold putA
  rw [if_neg]
  rw [List.any_eq_true]
  rintro ⟨x, hx, e⟩
  exact h (List.mem_map.mpr ⟨x, hx, by simpa using e⟩)
theorem put_old {acc : List (Key × D)} {k : Key} {d : D} (h : k ∈ acc.map (·.1)) : (putA acc k d).length = acc.length := by
  unfold putA
  rw [if_pos, List.length_map]
  obtain ⟨x, hx, e⟩ := List.mem_map.mp h
  rw [List.any_eq_true]
  exact ⟨x, hx, by simpa using e⟩
theorem fold_le : ∀ (more acc : List (Key × D)), (more.foldl (fun acc kv => putA acc kv.1 kv.2) acc).length ≤ acc.length + more.length
  | [], acc => by simp
  | kv :: r, acc => by
    rw [List.foldl_cons, List.length_cons]
    have h := fold_le r (putA acc kv.1 kv.2)
    by_cases e : kv.1 ∈ acc.map (·.1)
    · rw [put_old e] at h; omega
    · rw [put_new e, List.length_append] at h
      rw [put_new e]
      have : [(kv.1, kv.2)].length = 1 := rfl
      omega
theorem fold_eq : ∀ (more acc : List (Key × D)), (acc ++ more).map (·.1) |>.Nodup → more.foldl (fun acc kv => putA acc kv.1 kv.2) acc = acc ++ more
  | [], acc, _ => by simp
  | kv :: r, acc, h => by
    have n : kv.1 ∉ acc.map (·.1) := fun z => by
      rw [List.map_append, List.nodup_append] at h
      exact h.2.2 _ z _ (List.mem_map.mpr ⟨kv, List.mem_cons_self, rfl⟩) rfl
    rw [List.foldl_cons, put_new n, fold_eq r (acc ++ [(kv.1, kv.2)]) (by rw [List.append_assoc]; exact h), List.append_assoc]
    rfl
theorem fold_lt : ∀ (more acc : List (Key × D)), (acc.map (·.1)).Nodup → ¬ ((acc ++ more).map (·.1)).Nodup → (more.foldl (fun acc kv => putA acc kv.1 kv.2) acc).length < acc.length + more.length
  | [], acc, h1, h => by rw [List.append_nil] at h; exact absurd h1 h
  | kv :: r, acc, h1, h => by
    rw [List.foldl_cons, List.length_cons]
    by_cases e : kv.1 ∈ acc.map (·.1)
    · have h2 := fold_le r (putA acc kv.1 kv.2)
      rw [put_old e] at h2
      omega
    · rw [put_new e]
      have h2 := fold_lt r (acc ++ [(kv.1, kv.2)]) (by
        rw [List.map_append, List.nodup_append]
        refine ⟨h1, by simp, fun a ha b hb z => ?_⟩
        have hb : b = kv.1 := by simpa using hb
        exact e (by rw [← hb, ← z]; exact ha)) (by rw [List.append_assoc]; exact h)
      rw [List.length_append] at h2
      have : [(kv.1, kv.2)].length = 1 := rfl
      omega
theorem om_keys {ps : List (Str × Str)} : (omA ps).map (·.1) = (ps.map (·.1)).map Sum.inr := by
  unfold omA
  rw [List.map_map, List.map_map]
  rfl
theorem nodup_inr {l : List Str} : (l.map (Sum.inr : Str → Key)).Nodup ↔ l.Nodup := by
  unfold List.Nodup
  rw [List.pairwise_map]
  constructor
  · exact fun h => h.imp fun n e => n (by rw [e])
  · exact fun h => h.imp fun n e => n (by cases e; rfl)
theorem merge_ok {ps : List (Str × Str)} (h : (ps.map (·.1)).Nodup) : mergeA (omA ps) = omA ps := by
  unfold mergeA
  rw [fold_eq (omA ps) [] (by rw [List.nil_append, om_keys, nodup_inr]; exact h)]
  rfl
theorem merge_lt {ps : List (Str × Str)} (h : ¬ (ps.map (·.1)).Nodup) : (mergeA (omA ps)).length < ps.length := by
  have := fold_lt (omA ps) [] (by simp) (by rw [List.nil_append, om_keys, nodup_inr]; exact h)
  have e : (omA ps).length = ps.length := by unfold omA; rw [List.length_map]
  unfold mergeA
  rw [e, List.length_nil] at this
  omega
theorem merge_le {ps : List (Str × Str)} : (mergeA (omA ps)).length ≤ ps.length := by
  have := fold_le (omA ps) []
  have e : (omA ps).length = ps.length := by unfold omA; rw [List.length_map]
  unfold mergeA
  rw [e, List.length_nil] at this
  omega
theorem pairs_om : ∀ {ps : List (Str × Str)}, pairsD (ps.map prD) = some (omA ps)
  | [] => rfl
  | x :: r => by
    rw [List.map_cons]
    unfold pairsD
    rw [pairs_om]
    rfl
theorem zip_self {α β : Type} : ∀ (l : List (α × β)), (l.map (·.1)).zip (l.map (·.2)) = l
  | [] => rfl
  | x :: r => by rw [List.map_cons, List.map_cons, List.zip_cons_cons, zip_self r]
theorem pairs_om' {ps : List (Str × Str)} : pairsD (ps.map fun x => D.tup [.str x.1, .str x.2]) = some (omA ps) := pairs_om
def psOk (ps : List (Str × Str)) : Bool := (ps.all fun x => isName x.1 && isName x.2) && decide ((ps.map (·.1)).Nodup)
theorem lk0 {x : Fd} : (putFd "owners" x []).lookup ("owners" : Str) = some x := rfl
theorem lk1 {x y : Fd} : (putFd "_owner_of" y (putFd "owners" x [])).lookup ("owners" : Str) = some x := rfl
theorem lk2 {x y : Fd} : (putFd "_owner_of" y (putFd "owners" x [])).lookup ("_owner_of" : Str) = some y := rfl
theorem lgput {ps : List (Str × Str)} : putFd "_standing" (.ow []) (putFd "_removed" (.ow []) (putFd "_grants" (.ow []) (putFd "_owner_of" (.od (omA ps)) (putFd "owners" (.tq (ps.map prD)) [])))) = lgF ps [] [] [] := rfl
theorem lgput2 {x y a b c : Fd} : (putFd "owners" x []).length < 1000 ∧ (putFd "_owner_of" y (putFd "owners" x [])).length < 1000 ∧ (putFd "_grants" a (putFd "_owner_of" y (putFd "owners" x []))).length < 1000 ∧ (putFd "_removed" b (putFd "_grants" a (putFd "_owner_of" y (putFd "owners" x [])))).length < 1000 := ⟨by show 1 < 1000; decide, by show 2 < 1000; decide, by show 3 < 1000; decide, by show 4 < 1000; decide⟩
/-- what each ledger keeps -/
structure Lok (ps : List (Str × Str)) (gs : List Gr) (rm : List Bool) (st : List Nat) : Prop where
  np : ps.length ≤ 1000
  ng : gs.length ≤ 1000
  lr : rm.length = gs.length
  lt : ∀ k ∈ st, k < gs.length
  ns : st.length ≤ gs.length
end K8

-- part NA
set_option Elab.async false
set_option linter.all false
set_option maxRecDepth 100000
set_option maxHeartbeats 2000000
namespace K8
open PySem PySem.Spec PyProof.Rows L2 GxR GS GA GD DL
local macro_rules | `(tactic| walk_at "ev") => `(tactic| simp (dsimp := false) only [finS_nil, finS_cons, keep1_ob, keep1_va, keep1_rl, keep1_ro, getD_0, getD_s, bK_rl, bK_od, bK_rd, vK_od, slD_va, slD_ow, slFr_va, slFr_ow, slFr_od, slOf_frd, dxE_ev, dCallL_ev, dCallV_ev, resF_va, resF_ow, dMvX_ev, dForO_ev, dSetX_ev, dDropX_ev, dRetX_ev, obRd_ob, obRd_ro, obWr_ob, obNm_ob, obNm_ro, obW_ob, obR_ob, obR_ro, fdRd_va, fdRd_ow, fdRd_od, fdRd_tq, lwK_ow, fdOf_va, fdOf_ow, fdOf_od, resK_va, resK_ow, ntl_va, ntl_ow, ntl_ob, ntl_no, dOF_ev, dOS_ev, dOTq_ev, tlK_l, dOApp_ev, dDictF_ev, tqK_q, dDIn_t, dDIn_f, dinK_d, dDGet_ev, dgetK_d, keyD_s, keyD_i, dClr_ev, dMethX_ev, dMethR_ev, dMethX0_ev, dMethR0_ev, dMethK_ev, dPropR_ev, dCallX_ev, dCallR_ev, dMakeX_ev, dMakeD_ev, dLend_ev, lendK_ob, lendK_ro, dLcP_ev, dGenP_ev, dTryM_ev, hxK_nil, hxK_as, hxK_as0, hxK_on, cutN_rt, cutN_nx, gLenA_d, gLenA_l, gLenA_t, gLenA_s, k0, k1, k2, k3, iK_true, iK_false, iK_not, sl_0, sl_s, vK_va, vK_ow, bK_va, bK_ow, dVar_ev, dVarB_ev, dC_ev, dBin_ev, tK_bl, dTst_ev, dAnd_ev, dOr_ev, dNot_ev, dAndV_ev, dOrV_ev, dNotV_ev, dIf_ev, dNext_ev, dSeq_st, kS_e, dBreak_ev, dCont_ev, dRet_ev, dRetN_ev, dIfS_ev, dSet_ev, dDrop_ev, slOf_fr, slOf_sh, gAdd_i, gAdd_s, gAdd_l, gAdd_t, num_i, gEq_i, gEq_s, gEq_b, gEq_sn, gEq_ns, gEq_in, gEq_ni, gEq_nn, gEq_is, gEq_si, gNe_i, gNe_s, gNe_b, gNe_sn, gNe_ns, gNe_in, gNe_ni, gNe_nn, gEq_l, gEq_t, gNe_l, gNe_t,
    gIsN_n, gIsN_s, gIsN_i, gIsN_l, gIsN_t, gNotN_n, gNotN_s, gNotN_i, gNotN_l, gNotN_t, gIn_l, gIn_t, gNin_l, gNin_t, flD_s, flD_i, flD_n, flD_str, flD_int, has_strs, gRep_l, diRng2_ev, rK2_i, dStE_ev, iKx_i, gIx_l, gIx_t, gIx_s, DL.at0, at1, at2, at3, at4, at5, dNoPart_ev, pK_i, dPart_ev, sK_l, sK_r, sK_t, sK_s, dSl_ev, dNil_ev, dCons_ev, dConsW_ev, itsD_l, itsD_t, dStar_ev, dLst_ev, dTup_ev, dBlt_ev, gLen_l, gLen_t, gLen_r, gLen_s, gInt_i, gInt_b, gAbs_i, gMax_i, gMin_i, gTuple_l, gTuple_t, gList_l, gList_t, oW_ow, owAt_ev, decide_true, decide_false, Bool.not_true, Bool.not_false, gRepr_1, dStarT_ev, dRepl_ev, dTryAs0_ev, dTryOn_ev, dIsx0_ev, xnK_x, dIdx_ev, liK_l, has_two, stK_l, gTimes_s, zK_s, dSplit_ev, dJoin_ev, dInTab_ev, dIxTab_ev, gInD_l, gInS_s, gNinS_s, chK_b, dChn_ev, is_tt, is_ll, is_tn, is_bn, dTryAs_ev, dXf_ev, dIsx_ev, xK_x, dRaise1_ev, dIsi_ev, is_ss, is_sl, is_st, is_bb, dProp_ev, prK_i, xc_c, xc_a, dApp_ev, dStI_ev, wK_sh, wK_fr, wK_bo, wK_t, wK_r, wK_s, diVal_ev, rK_i, diRng_ev, eK_sh, eK_fr, eK_bo, diEnum_ev, dgName_ev, dgNil_ev, dgCons_ev, dgTup_ev, dAsg_ev, dFor_ev, dWhile_ev, dLc_ev, dGen_ev, dCall_ev, mK_i, dMeth_ev, fK_i, dFld_ev, nK_i, dNeg_ev, dYes_ev, oK_some, List.length_map, rng_len, Int.toNat_natCast,
    List.map_cons, List.map_nil, List.length_cons, List.length_nil, List.length_set, List.replicate_succ, List.replicate_zero, List.nil_append, List.cons_append, List.set_cons_zero, List.set_cons_succ, Nat.reduceAdd, Nat.reduceSub, ne_eq, reduceCtorEq, not_false_eq_true, not_true_eq_false, true_and, and_true, Nat.reduceLT, Nat.reduceLeDiff, Nat.zero_le, Bool.false_eq_true])
local macro_rules | `(tactic| walk_at "st") => `(tactic| simp (dsimp := false) only [finS_nil, finS_cons, keep1_ob, keep1_va, keep1_rl, keep1_ro, getD_0, getD_s, bK_rl, bK_od, bK_rd, vK_od, slD_va, slD_ow, slFr_va, slFr_ow, slFr_od, slOf_frd, dxE_ev, dCallL_ev, dCallV_ev, resF_va, resF_ow, dMvX_ev, dForO_ev, dSetX_ev, dDropX_ev, dRetX_ev, obRd_ob, obRd_ro, obWr_ob, obNm_ob, obNm_ro, obW_ob, obR_ob, obR_ro, fdRd_va, fdRd_ow, fdRd_od, fdRd_tq, lwK_ow, fdOf_va, fdOf_ow, fdOf_od, resK_va, resK_ow, ntl_va, ntl_ow, ntl_ob, ntl_no, dOF_ev, dOS_ev, dOTq_ev, tlK_l, dOApp_ev, dDictF_ev, tqK_q, dDIn_t, dDIn_f, dinK_d, dDGet_ev, dgetK_d, keyD_s, keyD_i, dClr_ev, dMethX_ev, dMethR_ev, dMethX0_ev, dMethR0_ev, dMethK_ev, dPropR_ev, dCallX_ev, dCallR_ev, dMakeX_ev, dMakeD_ev, dLend_ev, lendK_ob, lendK_ro, dLcP_ev, dGenP_ev, dTryM_ev, hxK_nil, hxK_as, hxK_as0, hxK_on, cutN_rt, cutN_nx, gLenA_d, gLenA_l, gLenA_t, gLenA_s, k0, k1, k2, k3, iK_true, iK_false, iK_not, sl_0, sl_s, vK_va, vK_ow, bK_va, bK_ow, dVar_ev, dVarB_ev, dC_ev, dBin_ev, tK_bl, dTst_ev, dAnd_ev, dOr_ev, dNot_ev, dAndV_ev, dOrV_ev, dNotV_ev, dIf_ev, dNext_ev, dSeq_st, kS_e, dBreak_ev, dCont_ev, dRet_ev, dRetN_ev, dSet_ev, dDrop_ev, slOf_fr, slOf_sh, gAdd_i, gAdd_s, gAdd_l, gAdd_t, num_i, gEq_i, gEq_s, gEq_b, gEq_sn, gEq_ns, gEq_in, gEq_ni, gEq_nn, gEq_is, gEq_si, gNe_i, gNe_s, gNe_b, gNe_sn, gNe_ns, gNe_in, gNe_ni, gNe_nn, gEq_l, gEq_t, gNe_l, gNe_t,
    gIsN_n, gIsN_s, gIsN_i, gIsN_l, gIsN_t, gNotN_n, gNotN_s, gNotN_i, gNotN_l, gNotN_t, gIn_l, gIn_t, gNin_l, gNin_t, flD_s, flD_i, flD_n, flD_str, flD_int, has_strs, gRep_l, diRng2_ev, rK2_i, dStE_ev, iKx_i, gIx_l, gIx_t, gIx_s, DL.at0, at1, at2, at3, at4, at5, dNoPart_ev, pK_i, dPart_ev, sK_l, sK_r, sK_t, sK_s, dSl_ev, dNil_ev, dCons_ev, dConsW_ev, itsD_l, itsD_t, dStar_ev, dLst_ev, dTup_ev, dBlt_ev, gLen_l, gLen_t, gLen_r, gLen_s, gInt_i, gInt_b, gAbs_i, gMax_i, gMin_i, gTuple_l, gTuple_t, gList_l, gList_t, oW_ow, owAt_ev, decide_true, decide_false, Bool.not_true, Bool.not_false, gRepr_1, dStarT_ev, dRepl_ev, dTryAs0_ev, dTryOn_ev, dIsx0_ev, xnK_x, dIdx_ev, liK_l, has_two, stK_l, gTimes_s, zK_s, dSplit_ev, dJoin_ev, dInTab_ev, dIxTab_ev, gInD_l, gInS_s, gNinS_s, chK_b, dChn_ev, is_tt, is_ll, is_tn, is_bn, dTryAs_ev, dXf_ev, dIsx_ev, xK_x, dRaise1_ev, dIsi_ev, is_ss, is_sl, is_st, is_bb, dProp_ev, prK_i, xc_c, xc_a, dApp_ev, dStI_ev, wK_sh, wK_fr, wK_bo, wK_t, wK_r, wK_s, diVal_ev, rK_i, diRng_ev, eK_sh, eK_fr, eK_bo, diEnum_ev, dgName_ev, dgNil_ev, dgCons_ev, dgTup_ev, dAsg_ev, dFor_ev, dWhile_ev, dLc_ev, dGen_ev, dCall_ev, mK_i, dMeth_ev, fK_i, dFld_ev, nK_i, dNeg_ev, dYes_ev, oK_some, List.length_map, rng_len, Int.toNat_natCast,
    List.map_cons, List.map_nil, List.length_cons, List.length_nil, List.length_set, List.replicate_succ, List.replicate_zero, List.nil_append, List.cons_append, List.set_cons_zero, List.set_cons_succ, Nat.reduceAdd, Nat.reduceSub, ne_eq, reduceCtorEq, not_false_eq_true, not_true_eq_false, true_and, and_true, Nat.reduceLT, Nat.reduceLeDiff, Nat.zero_le, Bool.false_eq_true])
theorem chD_map (z : Str) : chD z = z.cps.toList.map fun c => D.str ⟨#[c]⟩ := rfl
theorem inj_ch (x y : Nat) (h : D.str ⟨#[x]⟩ = D.str ⟨#[y]⟩) : x = y := by cases h; rfl
theorem head_ch {z : Str} (h : 1 ≤ z.length) : ∃ c r, z.cps.toList = c :: r := by
  cases e : z.cps.toList with
  | nil =>
    have : z.cps.size = 0 := by rw [← Array.length_toList, e]; rfl
    have h : 1 ≤ z.cps.size := h
    omega
  | cons c r => exact ⟨c, r, rfl⟩
theorem isName_eq (z : Str) : isName z = (decide (1 ≤ z.length) && decide (z.length ≤ 12) && ((z.cps.toList.head?.any fun c => decide (c ∈ letters.cps.toList)) && z.cps.toList.all fun c => decide (c ∈ signs.cps.toList))) := rfl
abbrev Nis_name : List Str := ["text", "sign"]
def ris_name : DS :=
  (dSeq (dIfS (dOr (dNot (dChn gLe gLe (dC (.int 1)) (dBlt gLenA (dConsW (dVarB 0) dNil)) (dC (.int 12)))) (dTst (dBin gNinS (dBin gIx (dVarB 0) (dC (.int 0))) (dC (.str "abcdefghijklmnopqrstuvwxyz"))))) (dRet (dC (.bl false))) dNext)
  (dRet (dGen false (diVal (dVarB 0)) 1 (dBin gInS (dVarB 1) (dC (.str "abcdefghijklmnopqrstuvwxyz0123456789"))))))
/- theorem Mis_name : MD ris_name 1 2 phis_name := fun ds Qd Xd h hl => by -/
def ph_is_name : Ph := fun ds Qd _ => ∃ z : Str, ds = [.str z] ∧ z.length ≤ sizeLine ∧ Qd (.bl (isName z))
theorem Mis_name : MD ris_name 1 2 ph_is_name := fun ds Qd Xd h hl => by
  obtain ⟨z, rfl, hz, q⟩ := h
  unfold ris_name
  walk_at "ev"
  have no : isName z = false → Qd (.bl false) := fun e => e ▸ q
  refine ⟨hz, ?_⟩
  refine iK_d (fun h1 => ?_) fun h1 => ?_
  · walk_at "ev"
    refine iK_d (fun h2 => ?_) fun h2 => ?_
    · obtain ⟨c, r, e⟩ := head_ch (z := z) (by omega)
      refine ⟨hz, oK.mk (x := c) (by rw [e]; exact DL.at0) ?_⟩
      walk_at "ev"
      have e0 : isName z = (decide (c ∈ letters.cps.toList) && z.cps.toList.all fun c => decide (c ∈ signs.cps.toList)) := by
        rw [isName_eq, decide_eq_true (by omega : 1 ≤ z.length), decide_eq_true (by omega : z.length ≤ 12), e]
        rfl
      refine iK_d (fun h3 => ?_) fun h3 => ?_
      · walk_at "ev"
        rw [chD_map]
        refine genK.map (q := fun c => decide (c ∈ signs.cps.toList)) inj_ch false (fun x hx => ?_) ?_
        · walk_at "ev"
          rfl
        · walk_at "ev"
          rw [e0, decide_eq_true (show c ∈ letters.cps.toList from h3)] at q
          exact q
      · walk_at "ev"
        refine no ?_
        rw [e0, decide_eq_false (show ¬ c ∈ letters.cps.toList from h3)]
        rfl
    · walk_at "ev"
      refine no ?_
      rw [isName_eq, decide_eq_false (by omega : ¬ z.length ≤ 12)]
      simp
  · walk_at "ev"
    refine no ?_
    rw [isName_eq, decide_eq_false (by omega : ¬ 1 ≤ z.length)]
    simp
end K8

-- part NG
set_option Elab.async false
set_option linter.all false
set_option maxRecDepth 100000
set_option maxHeartbeats 2000000
namespace K8
open PySem PySem.Spec PyProof.Rows L2 GxR GS GA GD DL
local macro_rules | `(tactic| walk_at "ev") => `(tactic| simp (dsimp := false) only [em_uu, em_ui, em_ii, em_iu, pairs_om', pairs_om, zip_self, dRaise0_ev, lk0, lk1, lk2, fg_giver, fg_receiver, fg_right, fg_may_pass, slD_gr, slFr_gr, Option.map_none, Option.map_some, Option.isSome_none, Option.isSome_some, lg_owners, lg_owner_of, lg_grants, lg_removed, lg_standing, lg_gput, lg_rput, lg_sput, val_om, finS_nil, finS_cons, keep1_ob, keep1_va, keep1_rl, keep1_ro, getD_0, getD_s, bK_rl, bK_od, bK_rd, vK_od, slD_va, slD_ow, slFr_va, slFr_ow, slFr_od, slOf_frd, dxE_ev, dCallL_ev, dCallV_ev, resF_va, resF_ow, dMvX_ev, dForO_ev, dSetX_ev, dDropX_ev, dRetX_ev, obRd_ob, obRd_ro, obWr_ob, obNm_ob, obNm_ro, obW_ob, obR_ob, obR_ro, fdRd_va, fdRd_ow, fdRd_od, fdRd_tq, lwK_ow, fdOf_va, fdOf_ow, fdOf_od, resK_va, resK_ow, ntl_va, ntl_ow, ntl_ob, ntl_no, dOF_ev, dOS_ev, dOTq_ev, tlK_l, dOApp_ev, dDictF_ev, tqK_q, dDIn_t, dDIn_f, dinK_d, dDGet_ev, dgetK_d, keyD_s, keyD_i, dClr_ev, dMethX_ev, dMethR_ev, dMethX0_ev, dMethR0_ev, dMethK_ev, dPropR_ev, dCallX_ev, dCallR_ev, dMakeX_ev, dMakeD_ev, dLend_ev, lendK_ob, lendK_ro, dLcP_ev, dGenP_ev, dTryM_ev, hxK_nil, hxK_as, hxK_as0, hxK_on, cutN_rt, cutN_nx, gLenA_d, gLenA_l, gLenA_t, gLenA_s, k0, k1, k2, k3, iK_true, iK_false, iK_not, sl_0, sl_s, vK_va, vK_ow, bK_va, bK_ow, dVar_ev, dVarB_ev, dC_ev, dBin_ev, tK_bl, dTst_ev, dAnd_ev, dOr_ev, dNot_ev, dAndV_ev, dOrV_ev, dNotV_ev, dIf_ev, dNext_ev, dSeq_st, kS_e, dBreak_ev, dCont_ev, dRet_ev, dRetN_ev, dIfS_ev, dSet_ev, dDrop_ev, slOf_fr, slOf_sh, gAdd_i, gAdd_s, gAdd_l, gAdd_t, num_i, gEq_i, gEq_s, gEq_b, gEq_sn, gEq_ns, gEq_in, gEq_ni, gEq_nn, gEq_is, gEq_si, gNe_i, gNe_s, gNe_b, gNe_sn, gNe_ns, gNe_in, gNe_ni, gNe_nn, gEq_l, gEq_t, gNe_l, gNe_t,
    gIsN_n, gIsN_s, gIsN_i, gIsN_l, gIsN_t, gNotN_n, gNotN_s, gNotN_i, gNotN_l, gNotN_t, gIn_l, gIn_t, gNin_l, gNin_t, flD_s, flD_i, flD_n, flD_str, flD_int, has_strs, gRep_l, diRng2_ev, rK2_i, dStE_ev, iKx_i, gIx_l, gIx_t, gIx_s, DL.at0, at1, at2, at3, at4, at5, dNoPart_ev, pK_i, dPart_ev, sK_l, sK_r, sK_t, sK_s, dSl_ev, dNil_ev, dCons_ev, dConsW_ev, itsD_l, itsD_t, dStar_ev, dLst_ev, dTup_ev, dBlt_ev, gLen_l, gLen_t, gLen_r, gLen_s, gInt_i, gInt_b, gAbs_i, gMax_i, gMin_i, gTuple_l, gTuple_t, gList_l, gList_t, oW_ow, owAt_ev, decide_true, decide_false, Bool.not_true, Bool.not_false, gRepr_1, dStarT_ev, dRepl_ev, dTryAs0_ev, dTryOn_ev, dIsx0_ev, xnK_x, dIdx_ev, liK_l, has_two, stK_l, gTimes_s, zK_s, dSplit_ev, dJoin_ev, dInTab_ev, dIxTab_ev, gInD_l, gInS_s, gNinS_s, chK_b, dChn_ev, is_tt, is_ll, is_tn, is_bn, dTryAs_ev, dXf_ev, dIsx_ev, xK_x, dRaise1_ev, dIsi_ev, is_ss, is_sl, is_st, is_bb, dProp_ev, prK_i, xc_c, xc_a, dApp_ev, dStI_ev, wK_sh, wK_fr, wK_bo, wK_t, wK_r, wK_s, diVal_ev, rK_i, diRng_ev, eK_sh, eK_fr, eK_bo, diEnum_ev, dgName_ev, dgNil_ev, dgCons_ev, dgTup_ev, dAsg_ev, dFor_ev, dWhile_ev, dLc_ev, dGen_ev, dCall_ev, mK_i, dMeth_ev, fK_i, dFld_ev, nK_i, dNeg_ev, dYes_ev, oK_some, List.length_map, rng_len, Int.toNat_natCast,
    List.map_cons, List.map_nil, List.length_cons, List.length_nil, List.length_set, List.replicate_succ, List.replicate_zero, List.nil_append, List.cons_append, List.set_cons_zero, List.set_cons_succ, Nat.reduceAdd, Nat.reduceSub, ne_eq, reduceCtorEq, not_false_eq_true, not_true_eq_false, true_and, and_true, Nat.reduceLT, Nat.reduceLeDiff, Nat.zero_le, Bool.false_eq_true])
local macro_rules | `(tactic| walk_at "st") => `(tactic| simp (dsimp := false) only [em_uu, em_ui, em_ii, em_iu, pairs_om', pairs_om, zip_self, dRaise0_ev, lk0, lk1, lk2, fg_giver, fg_receiver, fg_right, fg_may_pass, slD_gr, slFr_gr, Option.map_none, Option.map_some, Option.isSome_none, Option.isSome_some, lg_owners, lg_owner_of, lg_grants, lg_removed, lg_standing, lg_gput, lg_rput, lg_sput, val_om, finS_nil, finS_cons, keep1_ob, keep1_va, keep1_rl, keep1_ro, getD_0, getD_s, bK_rl, bK_od, bK_rd, vK_od, slD_va, slD_ow, slFr_va, slFr_ow, slFr_od, slOf_frd, dxE_ev, dCallL_ev, dCallV_ev, resF_va, resF_ow, dMvX_ev, dForO_ev, dSetX_ev, dDropX_ev, dRetX_ev, obRd_ob, obRd_ro, obWr_ob, obNm_ob, obNm_ro, obW_ob, obR_ob, obR_ro, fdRd_va, fdRd_ow, fdRd_od, fdRd_tq, lwK_ow, fdOf_va, fdOf_ow, fdOf_od, resK_va, resK_ow, ntl_va, ntl_ow, ntl_ob, ntl_no, dOF_ev, dOS_ev, dOTq_ev, tlK_l, dOApp_ev, dDictF_ev, tqK_q, dDIn_t, dDIn_f, dinK_d, dDGet_ev, dgetK_d, keyD_s, keyD_i, dClr_ev, dMethX_ev, dMethR_ev, dMethX0_ev, dMethR0_ev, dMethK_ev, dPropR_ev, dCallX_ev, dCallR_ev, dMakeX_ev, dMakeD_ev, dLend_ev, lendK_ob, lendK_ro, dLcP_ev, dGenP_ev, dTryM_ev, hxK_nil, hxK_as, hxK_as0, hxK_on, cutN_rt, cutN_nx, gLenA_d, gLenA_l, gLenA_t, gLenA_s, k0, k1, k2, k3, iK_true, iK_false, iK_not, sl_0, sl_s, vK_va, vK_ow, bK_va, bK_ow, dVar_ev, dVarB_ev, dC_ev, dBin_ev, tK_bl, dTst_ev, dAnd_ev, dOr_ev, dNot_ev, dAndV_ev, dOrV_ev, dNotV_ev, dIf_ev, dNext_ev, dSeq_st, kS_e, dBreak_ev, dCont_ev, dRet_ev, dRetN_ev, dSet_ev, dDrop_ev, slOf_fr, slOf_sh, gAdd_i, gAdd_s, gAdd_l, gAdd_t, num_i, gEq_i, gEq_s, gEq_b, gEq_sn, gEq_ns, gEq_in, gEq_ni, gEq_nn, gEq_is, gEq_si, gNe_i, gNe_s, gNe_b, gNe_sn, gNe_ns, gNe_in, gNe_ni, gNe_nn, gEq_l, gEq_t, gNe_l, gNe_t,
    gIsN_n, gIsN_s, gIsN_i, gIsN_l, gIsN_t, gNotN_n, gNotN_s, gNotN_i, gNotN_l, gNotN_t, gIn_l, gIn_t, gNin_l, gNin_t, flD_s, flD_i, flD_n, flD_str, flD_int, has_strs, gRep_l, diRng2_ev, rK2_i, dStE_ev, iKx_i, gIx_l, gIx_t, gIx_s, DL.at0, at1, at2, at3, at4, at5, dNoPart_ev, pK_i, dPart_ev, sK_l, sK_r, sK_t, sK_s, dSl_ev, dNil_ev, dCons_ev, dConsW_ev, itsD_l, itsD_t, dStar_ev, dLst_ev, dTup_ev, dBlt_ev, gLen_l, gLen_t, gLen_r, gLen_s, gInt_i, gInt_b, gAbs_i, gMax_i, gMin_i, gTuple_l, gTuple_t, gList_l, gList_t, oW_ow, owAt_ev, decide_true, decide_false, Bool.not_true, Bool.not_false, gRepr_1, dStarT_ev, dRepl_ev, dTryAs0_ev, dTryOn_ev, dIsx0_ev, xnK_x, dIdx_ev, liK_l, has_two, stK_l, gTimes_s, zK_s, dSplit_ev, dJoin_ev, dInTab_ev, dIxTab_ev, gInD_l, gInS_s, gNinS_s, chK_b, dChn_ev, is_tt, is_ll, is_tn, is_bn, dTryAs_ev, dXf_ev, dIsx_ev, xK_x, dRaise1_ev, dIsi_ev, is_ss, is_sl, is_st, is_bb, dProp_ev, prK_i, xc_c, xc_a, dApp_ev, dStI_ev, wK_sh, wK_fr, wK_bo, wK_t, wK_r, wK_s, diVal_ev, rK_i, diRng_ev, eK_sh, eK_fr, eK_bo, diEnum_ev, dgName_ev, dgNil_ev, dgCons_ev, dgTup_ev, dAsg_ev, dFor_ev, dWhile_ev, dLc_ev, dGen_ev, dCall_ev, mK_i, dMeth_ev, fK_i, dFld_ev, nK_i, dNeg_ev, dYes_ev, oK_some, List.length_map, rng_len, Int.toNat_natCast,
    List.map_cons, List.map_nil, List.length_cons, List.length_nil, List.length_set, List.replicate_succ, List.replicate_zero, List.nil_append, List.cons_append, List.set_cons_zero, List.set_cons_succ, Nat.reduceAdd, Nat.reduceSub, ne_eq, reduceCtorEq, not_false_eq_true, not_true_eq_false, true_and, and_true, Nat.reduceLT, Nat.reduceLeDiff, Nat.zero_le, Bool.false_eq_true])
local macro_rules | `(tactic| walk_at "lg") => `(tactic| simp (dsimp := false) only [lg_owners, lg_owner_of, lg_grants, lg_removed, lg_standing])
theorem grput {d1 d2 d3 d4 : D} : putFd "may_pass" (.va d4) (putFd "right" (.va d3) (putFd "receiver" (.va d2) (putFd "giver" (.va d1) []))) = ([("giver", Fd.va d1), ("receiver", .va d2), ("right", .va d3), ("may_pass", .va d4)] : List (Str × Fd)) := rfl
theorem mul1000 : (1000 : Nat) ≤ sizeLine := by unfold sizeLine; omega
theorem inD_inj (x y : Nat) (h : inD x = inD y) : x = y := by unfold inD at h; injection h with h; omega
theorem grD_inj (x y : Gr) (h : grD x = grD y) : x = y := by
  cases x; cases y
  unfold grD at h
  injection h with _ _ h
  injection h with h1 h
  injection h with h2 h
  injection h with h3 h
  injection h with h4 h
  cases h1; cases h2; cases h3; cases h4
  rfl
def stOf (gs : List Gr) (st : List Nat) (r : Str) : List Nat := st.filter fun k => (gs[k]?).any fun g => decide (g.rt = r)
def mayP (o : Str) (gs : List Gr) (st : List Nat) (p r : Str) : Bool := decide (o = p) || (stOf gs st r).any fun k => (gs[k]?).any fun g => decide (g.rc = p) && g.mp
theorem gr_at {gs : List Gr} {k : Nat} (h : k < gs.length) : ∃ g, gs[k]? = some g ∧ atI (gs.map grD) (k : Int) = some (grD g) := by
  refine ⟨gs[k], List.getElem?_eq_getElem h, ?_⟩
  exact atI_nat (by rw [List.getElem?_map, List.getElem?_eq_getElem h]; rfl)
theorem rows_eq {gs : List Gr} : ∀ {l : List Nat}, (∀ k ∈ l, k < gs.length) → (l.map fun k => ((gs[k]?).map grD).getD .non) = (l.filterMap fun k => gs[k]?).map grD
  | [], _ => rfl
  | k :: r, h => by
    have hk := h k List.mem_cons_self
    rw [List.map_cons, List.filterMap_cons, List.getElem?_eq_getElem hk]
    show _ :: _ = _
    rw [rows_eq fun j hj => h j (List.mem_cons_of_mem _ hj)]
    rfl
theorem rows_any {gs : List Gr} {P : Gr → Bool} : ∀ {l : List Nat}, (l.any fun k => (gs[k]?).any P) = (l.filterMap fun k => gs[k]?).any P
  | [] => rfl
  | k :: r => by
    rw [List.any_cons, List.filterMap_cons, rows_any]
    cases gs[k]? with
    | none => rfl
    | some g => rfl
abbrev NGrant___init__ : List Str := ["self", "giver", "receiver", "right", "may_pass"]
def rGrant___init__ : DS :=
  (dSeq (dOS 0 "Grant" "giver" (dxE (dVar 1)))
  (dSeq (dOS 0 "Grant" "receiver" (dxE (dVar 2)))
  (dSeq (dOS 0 "Grant" "right" (dxE (dVar 3)))
  (dOS 0 "Grant" "may_pass" (dxE (dVar 4))))))
/- theorem MGrant___init__ : MO rGrant___init__ 5 5 phGrant___init__ := fun ds Qd Xd h hl => by -/
def ph_Grant___init__ : PhO := fun ss Qd _ => ∃ (a : Addr) (d1 d2 d3 d4 : D), ss = [.ob a "Grant" [], .va d1, .va d2, .va d3, .va d4] ∧ Qd (.va .non) [.ob a "Grant" [("giver", .va d1), ("receiver", .va d2), ("right", .va d3), ("may_pass", .va d4)], .no, .no, .no, .no]
theorem MGrant___init__ : MO rGrant___init__ 5 5 ph_Grant___init__ := fun ss Qd Xd h hl => by
  obtain ⟨a, d1, d2, d3, d4, rfl, q⟩ := h
  unfold rGrant___init__
  walk_at "ev"
  rw [grput]
  exact ⟨by show 1 < 1000; decide, by show 2 < 1000; decide, by show 3 < 1000; decide, q⟩
abbrev NLedger_owner : List Str := ["self", "right"]
def rLedger_owner : DS :=
  (dSeq (dIfS (dTst (dDIn true (dVarB 1) (dOF 0 "Ledger" "_owner_of"))) (dRaise1 "UnknownName" "name" (dVar 1)) dNext)
  (dRet (dDGet (dOF 0 "Ledger" "_owner_of") (dVarB 1))))
/- theorem MLedger_owner : MO rLedger_owner 2 2 phLedger_owner := fun ds Qd Xd h hl => by -/
def ph_Ledger_owner : PhO := fun ss Qd Xd => ∃ (a : Addr) (ps : List (Str × Str)) (gs : List Gr) (rm : List Bool) (st : List Nat) (r : Str), ss = [.ro a "Ledger" (lgF ps gs rm st), .va (.str r)] ∧ r.length ≤ 100000 ∧ match ownerOf ps r with
  | some o => Qd (.va (.str o)) [.no, .no]
  | none => Xd ⟨"UnknownName", some ("name", .str r)⟩ [.no, .no]
theorem MLedger_owner : MO rLedger_owner 2 2 ph_Ledger_owner := fun ss Qd Xd h hl => by
  obtain ⟨a, ps, gs, rm, st, r, rfl, hr, q⟩ := h
  unfold rLedger_owner
  walk_at "ev"
  cases e : ownerOf ps r with
  | none =>
    rw [e] at q
    walk_at "ev"
    exact ⟨hr, q⟩
  | some o =>
    rw [e] at q
    walk_at "ev"
    rw [e]
    walk_at "ev"
    exact q
abbrev NLedger__standing_of : List Str := ["self", "right", "number"]
def rLedger__standing_of : DS :=
  (dRet (dLc (diVal (dOF 0 "Ledger" "_standing")) 2 (dTst (dBin gEq (dFld "Grant" "right" (dBin gIx (dOF 0 "Ledger" "_grants") (dVarB 2))) (dVarB 1))) (dVar 2)))
/- theorem MLedger__standing_of : MO rLedger__standing_of 2 3 phLedger__standing_of := fun ds Qd Xd h hl => by -/
def ph_Ledger__standing_of : PhO := fun ss Qd Xd => ∃ (a : Addr) (ps : List (Str × Str)) (gs : List Gr) (rm : List Bool) (st : List Nat) (r : Str), ss = [.ro a "Ledger" (lgF ps gs rm st), .va (.str r)] ∧ Lok ps gs rm st ∧ Qd (.ow ((stOf gs st r).map inD)) [.no, .no]
theorem MLedger__standing_of : MO rLedger__standing_of 2 3 ph_Ledger__standing_of := fun ss Qd Xd h hl => by
  obtain ⟨a, ps, gs, rm, st, r, rfl, ok, q⟩ := h
  have hz : st.length ≤ sizeLine := Nat.le_trans ok.ns (Nat.le_trans ok.ng mul1000)
  unfold rLedger__standing_of
  walk_at "ev"
  refine lcK.map inD_inj (fun k => (gs[k]?).any fun g => decide (g.rt = r)) inD hz (fun k hk o ho => ?_) ?_
  · obtain ⟨g, eg, ea⟩ := gr_at (ok.lt k hk)
    unfold inD
    walk_at "ev"
    refine oK.mk ea ?_
    unfold grD
    walk_at "ev"
    rw [eg] at ho
    refine iK_d (fun h => ?_) fun h => ?_
    · walk_at "ev"
      rw [ho]
      have h : g.rt = r := h
      simp [h, inD]
    · rw [ho]
      have h : ¬ g.rt = r := h
      simp [h]
  · walk_at "ev"
    exact q
abbrev NLedger_grants : List Str := ["self", "one"]
def rLedger_grants : DS :=
  (dRet (dLc (diVal (dOF 0 "Ledger" "_grants")) 1 dYes (dMakeD "Grant" 4 ph_Grant___init__ (dCons (dFld "Grant" "giver" (dVar 1)) (dCons (dFld "Grant" "receiver" (dVar 1)) (dCons (dFld "Grant" "right" (dVar 1)) (dCons (dFld "Grant" "may_pass" (dVar 1)) dNil)))))))
/- theorem MLedger_grants : MO rLedger_grants 1 2 phLedger_grants := fun ds Qd Xd h hl => by -/
def ph_Ledger_grants : PhO := fun ss Qd Xd => ∃ (a : Addr) (ps : List (Str × Str)) (gs : List Gr) (rm : List Bool) (st : List Nat), ss = [.ro a "Ledger" (lgF ps gs rm st)] ∧ Lok ps gs rm st ∧ Qd (.ow (gs.map grD)) [.no]
theorem MLedger_grants : MO rLedger_grants 1 2 ph_Ledger_grants := fun ss Qd Xd h hl => by
  obtain ⟨a, ps, gs, rm, st, rfl, ok, q⟩ := h
  have hz : gs.length ≤ sizeLine := Nat.le_trans ok.ng mul1000
  unfold rLedger_grants
  walk_at "ev"
  refine lcK.all grD_inj grD hz (fun g hk => ?_) ?_
  · unfold grD
    walk_at "ev"
    intro b
    refine ⟨b, _, _, _, _, rfl, ?_⟩
    walk_at "ev"
    rfl
  · walk_at "ev"
    exact q
abbrev NLedger_may_pass : List Str := ["self", "person", "right", "rows", "number", "row"]
def rLedger_may_pass : DS :=
  (dSeq (dIfS (dTst (dBin gEq (dMethR "Ledger" "owner" 1 ph_Ledger_owner 0 (dCons (dVar 2) dNil)) (dVarB 1))) (dRet (dC (.bl true))) dNext)
  (dSeq (dSet 3 (dLc (diVal (dMethR "Ledger" "_standing_of" 1 ph_Ledger__standing_of 0 (dCons (dVar 2) dNil))) 4 dYes (dBin gIx (dOF 0 "Ledger" "_grants") (dVarB 4))))
  (dRet (dGen true (diVal (dVarB 3)) 5 (dAndV (dBin gEq (dFld "Grant" "receiver" (dVar 5)) (dVarB 1)) (dFld "Grant" "may_pass" (dVar 5)))))))
/- theorem MLedger_may_pass : MO rLedger_may_pass 3 6 phLedger_may_pass := fun ds Qd Xd h hl => by -/
def ph_Ledger_may_pass : PhO := fun ss Qd Xd => ∃ (a : Addr) (ps : List (Str × Str)) (gs : List Gr) (rm : List Bool) (st : List Nat) (p r : Str), ss = [.ro a "Ledger" (lgF ps gs rm st), .va (.str p), .va (.str r)] ∧ Lok ps gs rm st ∧ r.length ≤ 100000 ∧ match ownerOf ps r with
  | some o => Qd (.va (.bl (mayP o gs st p r))) [.no, .no, .no]
  | none => Xd ⟨"UnknownName", some ("name", .str r)⟩ [.no, .no, .no]
theorem MLedger_may_pass : MO rLedger_may_pass 3 6 ph_Ledger_may_pass := fun ss Qd Xd h hl => by
  obtain ⟨a, ps, gs, rm, st, p, r, rfl, ok, hr, q⟩ := h
  unfold rLedger_may_pass
  walk_at "ev"
  refine ⟨lg_owner, a, ps, gs, rm, st, r, rfl, hr, ?_⟩
  cases e : ownerOf ps r with
  | none =>
    rw [e] at q
    walk_at "ev"
    exact q
  | some o =>
    rw [e] at q
    walk_at "ev"
    refine iK_d (fun h => ?_) fun h => ?_
    · walk_at "ev"
      have e2 : mayP o gs st p r = true := by unfold mayP; rw [decide_eq_true h, Bool.true_or]
      have q : Qd (.va (.bl (mayP o gs st p r))) [.no, .no, .no] := q
      rw [e2] at q
      exact q
    · walk_at "ev"
      refine ⟨lg_standing_of, a, ps, gs, rm, st, r, rfl, ok, ?_⟩
      walk_at "ev"
      have hz : (stOf gs st r).length ≤ sizeLine := Nat.le_trans (List.length_filter_le _ _) (Nat.le_trans ok.ns (Nat.le_trans ok.ng mul1000))
      refine lcK.all inD_inj (fun k => ((gs[k]?).map grD).getD .non) hz (fun k hk => ?_) ?_
      · obtain ⟨g, eg, ea⟩ := gr_at (ok.lt k (List.mem_filter.mp hk).1)
        unfold inD
        walk_at "ev"
        refine oK.mk ea ?_
        walk_at "ev"
        rw [eg]
        rfl
      · rw [rows_eq (l := stOf gs st r) fun k hk => ok.lt k (List.mem_filter.mp hk).1]
        walk_at "ev"
        refine genK.map grD_inj true (fun g => decide (g.rc = p) && g.mp) (fun g hg => ?_) ?_
        · unfold grD
          walk_at "ev"
          refine iK_d (fun h2 => ?_) fun h2 => ?_
          · walk_at "ev"
            have h2 : g.rc = p := h2
            rw [decide_eq_true h2]; rfl
          · walk_at "ev"
            have h2 : ¬ g.rc = p := h2
            rw [decide_eq_false h2]; rfl
        · walk_at "ev"
          have e2 : mayP o gs st p r = ((stOf gs st r).filterMap fun k => gs[k]?).any fun g => decide (g.rc = p) && g.mp := by
            unfold mayP; rw [decide_eq_false h, Bool.false_or, rows_any]
          have q : Qd (.va (.bl (mayP o gs st p r))) [.no, .no, .no] := q
          rw [e2] at q
          exact q
abbrev NLedger_grant : List Str := ["self", "giver", "receiver", "right", "may_pass", "can_pass", "number"]
def rLedger_grant : DS :=
  (dSeq (dSet 5 (dMethR "Ledger" "may_pass" 2 ph_Ledger_may_pass 0 (dCons (dVar 1) (dCons (dVar 3) dNil))))
  (dSeq (dIfS (dOr (dNot (dTst (dCall 1 ph_is_name (dCons (dVar 2) dNil)))) (dOr (dTst (dBin gEq (dVarB 2) (dVarB 1))) (dNot (dTst (dVarB 5))))) (dRaise0 "InvalidEntry") dNext)
  (dSeq (dSet 6 (dBlt gLenA (dConsW (dOF 0 "Ledger" "_grants") dNil)))
  (dSeq (dOApp 0 "Ledger" "_grants" (dMakeD "Grant" 4 ph_Grant___init__ (dCons (dVar 1) (dCons (dVar 2) (dCons (dVar 3) (dCons (dVar 4) dNil))))))
  (dSeq (dOApp 0 "Ledger" "_removed" (dC (.bl false)))
  (dSeq (dOApp 0 "Ledger" "_standing" (dVar 6))
  (dRet (dVar 6))))))))
/- theorem MLedger_grant : MO rLedger_grant 5 7 phLedger_grant := fun ds Qd Xd h hl => by -/
def ph_Ledger_grant : PhO := fun ss Qd Xd => ∃ (a : Addr) (ps : List (Str × Str)) (gs : List Gr) (rm : List Bool) (st : List Nat) (gv rc rt : Str) (mp : Bool), ss = [.ob a "Ledger" (lgF ps gs rm st), .va (.str gv), .va (.str rc), .va (.str rt), .va (.bl mp)] ∧ Lok ps gs rm st ∧ gs.length < 1000 ∧ rc.length ≤ 100000 ∧ rt.length ≤ 100000 ∧ match ownerOf ps rt with
  | none => Xd ⟨"UnknownName", some ("name", .str rt)⟩ [.ob a "Ledger" (lgF ps gs rm st), .no, .no, .no, .no]
  | some o => if (isName rc && (!decide (rc = gv) && mayP o gs st gv rt)) = true then Qd (.va (inD gs.length)) [.ob a "Ledger" (lgF ps (gs ++ [⟨gv, rc, rt, mp⟩]) (rm ++ [false]) (st ++ [gs.length])), .no, .no, .no, .no]
    else Xd ⟨"InvalidEntry", none⟩ [.ob a "Ledger" (lgF ps gs rm st), .no, .no, .no, .no]
theorem MLedger_grant : MO rLedger_grant 5 7 ph_Ledger_grant := fun ss Qd Xd h hl => by
  obtain ⟨a, ps, gs, rm, st, gv, rc, rt, mp, rfl, ok, hg, h1, h2, q⟩ := h
  unfold rLedger_grant
  walk_at "ev"
  refine ⟨lg_may_pass, a, ps, gs, rm, st, gv, rt, rfl, ok, h2, ?_⟩
  have hz : gs.length < sizeLine := Nat.lt_of_lt_of_le hg mul1000
  cases e : ownerOf ps rt with
  | none =>
    rw [e] at q
    walk_at "ev"
    exact q
  | some o =>
    rw [e] at q
    walk_at "ev"
    refine ⟨rc, rfl, Nat.le_trans h1 (by unfold sizeLine; omega), ?_⟩
    have q : if (isName rc && (!decide (rc = gv) && mayP o gs st gv rt)) = true then Qd (.va (inD gs.length)) [.ob a "Ledger" (lgF ps (gs ++ [⟨gv, rc, rt, mp⟩]) (rm ++ [false]) (st ++ [gs.length])), .no, .no, .no, .no]
      else Xd ⟨"InvalidEntry", none⟩ [.ob a "Ledger" (lgF ps gs rm st), .no, .no, .no, .no] := q
    walk_at "ev"
    refine iK_b (fun hn => ?_) fun hn => ?_
    · rw [hn, Bool.true_and] at q
      walk_at "ev"
      refine iK_d (fun hr => ?_) fun hr => ?_
      · have hr : rc = gv := hr
        rw [decide_eq_true hr] at q
        walk_at "ev"
        exact q
      · have hr : ¬ rc = gv := hr
        rw [decide_eq_false hr, Bool.not_false, Bool.true_and] at q
        walk_at "ev"
        refine iK_b (fun hm => ?_) fun hm => ?_
        · rw [hm, if_pos rfl] at q
          walk_at "ev"
          refine fun b => ⟨b, _, _, _, _, rfl, ?_⟩
          walk_at "ev"
          refine ⟨hz, by rw [ok.lr]; exact hz, Nat.lt_of_le_of_lt ok.ns hz, ?_⟩
          rw [show D.int (gs.length : Int) = inD gs.length from rfl, lg_sput]
          exact q
        · rw [hm] at q
          walk_at "ev"
          exact q
    · rw [hn] at q
      walk_at "ev"
      exact q
abbrev NLedger___init__ : List Str := ["self", "owners", "right", "owner"]
def rLedger___init__ : DS :=
  (dSeq (dOTq 0 "Ledger" "owners" (dLcP (diVal (dVarB 1)) 2 3 dYes (dTup (dCons (dVar 2) (dCons (dVar 3) dNil)))))
  (dSeq (dIfS (dNot (dTst (dGenP false (diVal (dOF 0 "Ledger" "owners")) 2 3 (dAndV (dCall 1 ph_is_name (dCons (dVar 2) dNil)) (dCall 1 ph_is_name (dCons (dVar 3) dNil)))))) (dRaise0 "InvalidEntry") dNext)
  (dSeq (dOS 0 "Ledger" "_owner_of" (dxE (dDictF 0 "Ledger" "owners")))
  (dSeq (dIfS (dTst (dBin gLt (dBlt gLenA (dConsW (dOF 0 "Ledger" "_owner_of") dNil)) (dBlt gLenA (dConsW (dOF 0 "Ledger" "owners") dNil)))) (dRaise0 "InvalidEntry") dNext)
  (dSeq (dOS 0 "Ledger" "_grants" (dxE (dLst dNil)))
  (dSeq (dOS 0 "Ledger" "_removed" (dxE (dLst dNil)))
  (dOS 0 "Ledger" "_standing" (dxE (dLst dNil)))))))))
/- theorem MLedger___init__ : MO rLedger___init__ 2 4 phLedger___init__ := fun ds Qd Xd h hl => by -/
theorem prD_inj (x y : Str × Str) (h1 : D.str x.1 = D.str y.1) (h2 : D.str x.2 = D.str y.2) : x = y := by
  cases x; cases y; cases h1; cases h2; rfl
theorem prD_eq {ps : List (Str × Str)} : ps.map prD = ps.map fun x => D.tup [.str x.1, .str x.2] := rfl
def ph_Ledger___init__ : PhO := fun ss Qd Xd => ∃ (a : Addr) (ps : List (Str × Str)) (s : Sl), ss = [.ob a "Ledger" [], s] ∧ (s = .va (.lst (ps.map prD)) ∨ s = .rl (ps.map prD)) ∧ ps.length ≤ 1000 ∧ (∀ x ∈ ps, x.1.length ≤ 100000 ∧ x.2.length ≤ 100000) ∧
  if psOk ps = true then Qd (.va .non) [.ob a "Ledger" (lgF ps [] [] []), .no] else ∀ fs, Xd ⟨"InvalidEntry", none⟩ [.ob a "Ledger" fs, .no]
theorem MLedger___init__ : MO rLedger___init__ 2 4 ph_Ledger___init__ := fun ss Qd Xd h hl => by
  obtain ⟨a, ps, s, rfl, hs, hp, hx, q⟩ := h
  have hz : ps.length ≤ sizeLine := Nat.le_trans hp mul1000
  unfold rLedger___init__
  rcases hs with rfl | rfl
  all_goals
    walk_at "ev"
    rw [prD_eq]
    refine lcPK.all prD_inj prD hz (fun x h => ?_) ?_
    · walk_at "ev"
      exact ⟨by unfold sizeLine; omega, rfl⟩
    · walk_at "ev"
      rw [prD_eq]
      refine genPK.map prD_inj false (fun x => isName x.1 && isName x.2) (fun x h => ?_) ?_
      · walk_at "ev"
        refine ⟨x.1, rfl, Nat.le_trans (hx x h).1 (by unfold sizeLine; omega), ?_⟩
        walk_at "ev"
        refine iK_b (fun hn => ?_) fun hn => ?_
        · walk_at "ev"
          refine ⟨x.2, rfl, Nat.le_trans (hx x h).2 (by unfold sizeLine; omega), ?_⟩
          walk_at "ev"
          rw [hn]; rfl
        · walk_at "ev"
          rw [hn]; rfl
      · walk_at "ev"
        refine iK_b (fun hn => ?_) fun hn => ?_
        · have hn : (ps.all fun x => isName x.1 && isName x.2) = true := by simpa using hn
          walk_at "ev"
          refine ⟨by show 1 < 1000; decide, Nat.le_trans merge_le hz, ?_⟩
          refine iK_d (fun hlt => ?_) fun hlt => ?_
          · walk_at "ev"
            have nd : ¬ (ps.map (·.1)).Nodup := fun nd => by
              rw [merge_ok nd] at hlt
              have e : (omA ps).length = ps.length := by unfold omA; rw [List.length_map]
              omega
            unfold psOk at q
            rw [hn, decide_eq_false nd] at q
            exact q _
          · have nd : (ps.map (·.1)).Nodup := Decidable.byContradiction fun nd => by
              have := merge_lt nd
              omega
            rw [merge_ok nd]
            unfold psOk at q
            rw [hn, decide_eq_true nd] at q
            walk_at "ev"
            exact ⟨by show 2 < 1000; decide, by show 3 < 1000; decide, by show 4 < 1000; decide, q⟩
        · have hn : (ps.all fun x => isName x.1 && isName x.2) = false := by simpa using hn
          walk_at "ev"
          unfold psOk at q
          rw [hn] at q
          exact q _
end K8

-- part DG
set_option Elab.async false
set_option linter.all false
set_option maxRecDepth 100000
set_option maxHeartbeats 2000000
namespace K8
open PySem PySem.Spec PyProof.Rows L2 GxR GS GA GD DL
section
variable {w : World} {K : PySem.W.Frag} {mg : Str → Option Value} {base : Heap}
theorem scis_name : FnScope Nis_name ["text"] (defScope sis_name) := ⟨rfl, rfl, rfl, by decide +kernel, rfl, by decide +kernel, by decide +kernel⟩
theorem Dis_name (T : Tx w K mg base) : ∃ fd, FnOk R.prog w K mg base (L2.CX R.prog w) 2 (He.ga K "is_name") fd ["text"] (spD K (Tz K) 1 ph_is_name) ∧ Binds K fd ["text"] [] ∧ PySem.W.keepIn K (.ref (He.ga K "is_name")) = true := by
  obtain ⟨fd, F⟩ := T.F_is_name
  have TB := T.tb ("is_name", none) (by simp [tf])
  have tP := Tz_mk (K := K) ("is_name", none) (by simp [tf])
  have nd := scis_name.nd
  refine ⟨fd, fn_data (k := 1) F (codeOf_at (p := ("is_name", none)) F) scis_name rfl (fun A outer s H E hr => ⟨ris_name, ?_, Mis_name⟩), F.bindsN (ps := ["text"]) fun _ _ _ _ _ _ us hl => match us, hl with | [_], _ => rfl, F.kp⟩
  exact (ds_cons (ds_if (PW.pt (dw_or (dt_not (dt_chain dop_le dop_le de_int (de_callB dcl_lenA (by rfl) T.free_len PySem.boot_len (da_consW (vB 0) dw_nil)) de_int)) (dw_or1 (dt_cmp dop_ninS (de_ix (vB 0) de_int (fun _ _ => rfl)) (de_strG T.str_LETTERS rfl) (by rfl))))) (ds_one (ds_ret de_bl)) ds_nil)
      (ds_one (ds_ret (de_all (own := [("sign", 1)]) (te := (dBin gInS (dVarB 1) (dC (.str "abcdefghijklmnopqrstuvwxyz0123456789")))) hr rfl nd T.free_all TB tP rfl (blkOk_by (own := [("sign", 1)]) (N := Nis_name) (sc := defScope sis_name) (by decide +kernel)) rfl (di_val (vB 0)) (fun _ _ _ _ _ _ => pg_name (i := 1) nd rfl (by first | exact Or.inl rfl | exact Or.inr rfl)) (fun _ _ _ _ _ _ => (de_cmp dop_inS (vB 1) (de_strG T.str_SIGNS rfl) (by rfl)))))))
theorem scGrant___init__ : FnScope NGrant___init__ ["self", "giver", "receiver", "right", "may_pass"] (defScope sGrant___init__) := ⟨rfl, rfl, rfl, by decide +kernel, rfl, by decide +kernel, by decide +kernel⟩
theorem DGrant___init__ (T : Tx w K mg base) : ∃ fd, FnOk R.prog w K mg base (L2.CX R.prog w) 1 (He.fAd K ("Grant", some "__init__")) fd ["self", "giver", "receiver", "right", "may_pass"] (spO K (Tz K) 5 ph_Grant___init__) ∧ Binds K fd ["self", "giver", "receiver", "right", "may_pass"] [] ∧ PySem.W.keepIn K (.ref (He.fAd K ("Grant", some "__init__"))) = true := by
  obtain ⟨fd, F⟩ := T.F_Grant___init__
  have nd := scGrant___init__.nd
  refine ⟨fd, fn_obj (k := 0) F (codeOf_at (p := ("Grant", some "__init__")) F) scGrant___init__ rfl (fun A outer s H E hr => ⟨rGrant___init__, ?_, MGrant___init__⟩), F.bindsN (ps := ["self", "giver", "receiver", "right", "may_pass"]) fun _ _ _ _ _ _ us hl => match us, hl with | [_, _, _, _, _], _ => rfl, F.kp⟩
  exact (ds_cons (ds_ostore (i := 0) (C := "Grant") (f := "giver") rfl (by first | exact Or.inl rfl | exact Or.inr (Or.inl rfl) | exact Or.inr (Or.inr rfl)) (dx_e (vV 1)) T.cls_Grant T.noat_Grant_giver)
      (ds_cons (ds_ostore (i := 0) (C := "Grant") (f := "receiver") rfl (by first | exact Or.inl rfl | exact Or.inr (Or.inl rfl) | exact Or.inr (Or.inr rfl)) (dx_e (vV 2)) T.cls_Grant T.noat_Grant_receiver)
      (ds_cons (ds_ostore (i := 0) (C := "Grant") (f := "right") rfl (by first | exact Or.inl rfl | exact Or.inr (Or.inl rfl) | exact Or.inr (Or.inr rfl)) (dx_e (vV 3)) T.cls_Grant T.noat_Grant_right)
      (ds_one (ds_ostore (i := 0) (C := "Grant") (f := "may_pass") rfl (by first | exact Or.inl rfl | exact Or.inr (Or.inl rfl) | exact Or.inr (Or.inr rfl)) (dx_e (vV 4)) T.cls_Grant T.noat_Grant_may_pass)))))
theorem scLedger___init__ : FnScope NLedger___init__ ["self", "owners"] (defScope sLedger___init__) := ⟨rfl, rfl, rfl, by decide +kernel, rfl, by decide +kernel, by decide +kernel⟩
theorem DLedger___init__ (T : Tx w K mg base) : ∃ fd, FnOk R.prog w K mg base (L2.CX R.prog w) 4 (He.fAd K ("Ledger", some "__init__")) fd ["self", "owners"] (spO K (Tz K) 2 ph_Ledger___init__) ∧ Binds K fd ["self", "owners"] [] ∧ PySem.W.keepIn K (.ref (He.fAd K ("Ledger", some "__init__"))) = true := by
  obtain ⟨fd, F⟩ := T.F_Ledger___init__
  obtain ⟨fd_is_name, G_is_name, b_is_name, k_is_name⟩ := Dis_name T
  have TB := T.tb ("Ledger", some "__init__") (by simp [tf])
  have tP := Tz_mk (K := K) ("Ledger", some "__init__") (by simp [tf])
  have nd := scLedger___init__.nd
  refine ⟨fd, fn_obj (k := 3) F (codeOf_at (p := ("Ledger", some "__init__")) F) scLedger___init__ rfl (fun A outer s H E hr => ⟨rLedger___init__, ?_, MLedger___init__⟩), F.bindsN (ps := ["self", "owners"]) fun _ _ _ _ _ _ us hl => match us, hl with | [_, _], _ => rfl, F.kp⟩
  exact (ds_cons (ds_ostTq (i := 0) (C := "Ledger") (f := "owners") rfl (by first | exact Or.inl rfl | exact Or.inr (Or.inl rfl) | exact Or.inr (Or.inr rfl)) (de_lcP (own := [("right", 2), ("owner", 3)]) (tt := dYes) (te := (dTup (dCons (dVar 2) (dCons (dVar 3) dNil)))) rfl nd (di_val (vB 1)) (blkOk_by (own := [("right", 2), ("owner", 3)]) (N := NLedger___init__) (sc := defScope sLedger___init__) (by decide +kernel)) rfl (fun _ _ _ _ _ => pg_pair (i := 2) (j := 3) rfl nd rfl rfl (by first | exact Or.inl rfl | exact Or.inr rfl) (by first | exact Or.inl rfl | exact Or.inr rfl) (by first | exact Or.inl rfl | exact Or.inr rfl) (by first | exact Or.inl rfl | exact Or.inr rfl)) (fun _ _ _ _ _ => dts_nil) (fun _ _ _ _ _ => (de_tup (da_cons (vV 2) (da_cons (vV 3) da_nil))))) T.cls_Ledger T.noat_Ledger_owners rfl T.free_tuple (by decide +kernel))
      (ds_cons (ds_if (dt_not (dt_val (de_allP (own := [("right", 2), ("owner", 3)]) (te := (dAndV (dCall 1 ph_is_name (dCons (dVar 2) dNil)) (dCall 1 ph_is_name (dCons (dVar 3) dNil)))) hr rfl nd T.free_all TB tP rfl (blkOk_by (own := [("right", 2), ("owner", 3)]) (N := NLedger___init__) (sc := defScope sLedger___init__) (by decide +kernel)) rfl (di_val (de_of (i := 0) (C := "Ledger") (f := "owners") rfl (by first | exact Or.inl rfl | exact Or.inr (Or.inl rfl) | exact Or.inr (Or.inr rfl)) T.cls_Ledger T.noat_Ledger_owners)) (fun _ _ _ _ _ _ => pg_pair (i := 2) (j := 3) rfl nd rfl rfl (by first | exact Or.inl rfl | exact Or.inr rfl) (by first | exact Or.inl rfl | exact Or.inr rfl) (by first | exact Or.inl rfl | exact Or.inr rfl) (by first | exact Or.inl rfl | exact Or.inr rfl)) (fun _ _ _ _ _ _ => (de_and (de_call G_is_name ((room_gen hr).mono (by decide)) rfl T.glo_is_name k_is_name b_is_name Ps.no (da_cons (vV 2) da_nil)) (de_one (de_call G_is_name ((room_gen hr).mono (by decide)) rfl T.glo_is_name k_is_name b_is_name Ps.no (da_cons (vV 3) da_nil)))))))) (ds_one (ds_raise0 (C := "InvalidEntry") rfl (takes_of rfl rfl rfl rfl) T.exc_InvalidEntry T.glo_InvalidEntry rfl)) ds_nil)
      (ds_cons (ds_ostore (i := 0) (C := "Ledger") (f := "_owner_of") rfl (by first | exact Or.inl rfl | exact Or.inr (Or.inl rfl) | exact Or.inr (Or.inr rfl)) (dx_e (de_dictF (i := 0) (C := "Ledger") (f := "owners") rfl rfl (by first | exact Or.inl rfl | exact Or.inr (Or.inl rfl) | exact Or.inr (Or.inr rfl)) T.cls_Ledger T.noat_Ledger_owners rfl T.free_dict (by decide +kernel))) T.cls_Ledger T.noat_Ledger__owner_of)
      (ds_cons (ds_if (dt_cmp dop_lt (de_callB dcl_lenA (by rfl) T.free_len PySem.boot_len (da_consW (de_of (i := 0) (C := "Ledger") (f := "_owner_of") rfl (by first | exact Or.inl rfl | exact Or.inr (Or.inl rfl) | exact Or.inr (Or.inr rfl)) T.cls_Ledger T.noat_Ledger__owner_of) dw_nil)) (de_callB dcl_lenA (by rfl) T.free_len PySem.boot_len (da_consW (de_of (i := 0) (C := "Ledger") (f := "owners") rfl (by first | exact Or.inl rfl | exact Or.inr (Or.inl rfl) | exact Or.inr (Or.inr rfl)) T.cls_Ledger T.noat_Ledger_owners) dw_nil)) (nomark _)) (ds_one (ds_raise0 (C := "InvalidEntry") rfl (takes_of rfl rfl rfl rfl) T.exc_InvalidEntry T.glo_InvalidEntry rfl)) ds_nil)
      (ds_cons (ds_ostore (i := 0) (C := "Ledger") (f := "_grants") rfl (by first | exact Or.inl rfl | exact Or.inr (Or.inl rfl) | exact Or.inr (Or.inr rfl)) (dx_e (de_lst da_nil)) T.cls_Ledger T.noat_Ledger__grants)
      (ds_cons (ds_ostore (i := 0) (C := "Ledger") (f := "_removed") rfl (by first | exact Or.inl rfl | exact Or.inr (Or.inl rfl) | exact Or.inr (Or.inr rfl)) (dx_e (de_lst da_nil)) T.cls_Ledger T.noat_Ledger__removed)
      (ds_one (ds_ostore (i := 0) (C := "Ledger") (f := "_standing") rfl (by first | exact Or.inl rfl | exact Or.inr (Or.inl rfl) | exact Or.inr (Or.inr rfl)) (dx_e (de_lst da_nil)) T.cls_Ledger T.noat_Ledger__standing))))))))
theorem scLedger_owner : FnScope NLedger_owner ["self", "right"] (defScope sLedger_owner) := ⟨rfl, rfl, rfl, by decide +kernel, rfl, by decide +kernel, by decide +kernel⟩
theorem DLedger_owner (T : Tx w K mg base) : ∃ fd, FnOk R.prog w K mg base (L2.CX R.prog w) 3 (He.fAd K ("Ledger", some "owner")) fd ["self", "right"] (spO K (Tz K) 2 ph_Ledger_owner) ∧ Binds K fd ["self", "right"] [] ∧ PySem.W.keepIn K (.ref (He.fAd K ("Ledger", some "owner"))) = true := by
  obtain ⟨fd, F⟩ := T.F_Ledger_owner

  obtain ⟨fdx_UnknownName, FX_UnknownName, ox_UnknownName, iC_UnknownName, tI_UnknownName, bx_UnknownName⟩ := X_UnknownName T
  have nd := scLedger_owner.nd
  refine ⟨fd, fn_obj (k := 2) F (codeOf_at (p := ("Ledger", some "owner")) F) scLedger_owner rfl (fun A outer s H E hr => ⟨rLedger_owner, ?_, MLedger_owner⟩), F.bindsN (ps := ["self", "right"]) fun _ _ _ _ _ _ us hl => match us, hl with | [_, _], _ => rfl, F.kp⟩
  exact (ds_cons (ds_if (dt_dnin (units1 hr) (vB 1) (de_of (i := 0) (C := "Ledger") (f := "_owner_of") rfl (by first | exact Or.inl rfl | exact Or.inr (Or.inl rfl) | exact Or.inr (Or.inr rfl)) T.cls_Ledger T.noat_Ledger__owner_of)) (ds_one (ds_raise1 (C := "UnknownName") (f := "name") rfl (takes_of rfl rfl rfl rfl) ox_UnknownName iC_UnknownName tI_UnknownName FX_UnknownName (fun d v H A a hd r => fmt_ok (by decide +kernel) hd r a) (hr.mono (by decide)) bx_UnknownName rfl T.glo_UnknownName (vV 1))) ds_nil)
      (ds_one (ds_ret (de_dget (units1 hr) (de_of (i := 0) (C := "Ledger") (f := "_owner_of") rfl (by first | exact Or.inl rfl | exact Or.inr (Or.inl rfl) | exact Or.inr (Or.inr rfl)) T.cls_Ledger T.noat_Ledger__owner_of) (vB 1) (fun _ _ => rfl)))))
theorem scLedger__standing_of : FnScope NLedger__standing_of ["self", "right"] (defScope sLedger__standing_of) := ⟨rfl, rfl, rfl, by decide +kernel, rfl, by decide +kernel, by decide +kernel⟩
theorem DLedger__standing_of (T : Tx w K mg base) : ∃ fd, FnOk R.prog w K mg base (L2.CX R.prog w) 1 (He.fAd K ("Ledger", some "_standing_of")) fd ["self", "right"] (spO K (Tz K) 2 ph_Ledger__standing_of) ∧ Binds K fd ["self", "right"] [] ∧ PySem.W.keepIn K (.ref (He.fAd K ("Ledger", some "_standing_of"))) = true := by
  obtain ⟨fd, F⟩ := T.F_Ledger__standing_of
  have nd := scLedger__standing_of.nd
  refine ⟨fd, fn_obj (k := 0) F (codeOf_at (p := ("Ledger", some "_standing_of")) F) scLedger__standing_of rfl (fun A outer s H E hr => ⟨rLedger__standing_of, ?_, MLedger__standing_of⟩), F.bindsN (ps := ["self", "right"]) fun _ _ _ _ _ _ us hl => match us, hl with | [_, _], _ => rfl, F.kp⟩
  exact (ds_one (ds_ret (de_lc (own := [("number", 2)]) (tt := (dTst (dBin gEq (dFld "Grant" "right" (dBin gIx (dOF 0 "Ledger" "_grants") (dVarB 2))) (dVarB 1)))) (te := (dVar 2)) rfl nd (di_val (de_of (i := 0) (C := "Ledger") (f := "_standing") rfl (by first | exact Or.inl rfl | exact Or.inr (Or.inl rfl) | exact Or.inr (Or.inr rfl)) T.cls_Ledger T.noat_Ledger__standing)) (blkOk_by (own := [("number", 2)]) (N := NLedger__standing_of) (sc := defScope sLedger__standing_of) (by decide +kernel)) rfl (fun _ _ _ _ _ => pg_name (i := 2) nd rfl (by first | exact Or.inl rfl | exact Or.inr rfl)) (fun _ _ _ _ _ => dts_one (dt_cmp (dop_eq hr.units) (de_fld (C := "Grant") (de_ix (de_of (i := 0) (C := "Ledger") (f := "_grants") rfl (by first | exact Or.inl rfl | exact Or.inr (Or.inl rfl) | exact Or.inr (Or.inr rfl)) T.cls_Ledger T.noat_Ledger__grants) (vB 2) (fun _ _ => rfl)) T.cls_Grant T.noat_Grant_right) (vB 1) (nomark _))) (fun _ _ _ _ _ => (vV 2)))))
theorem scLedger_grants : FnScope NLedger_grants ["self"] (defScope sLedger_grants) := ⟨rfl, rfl, rfl, by decide +kernel, rfl, by decide +kernel, by decide +kernel⟩
theorem DLedger_grants (T : Tx w K mg base) : ∃ fd, FnOk R.prog w K mg base (L2.CX R.prog w) 3 (Hd.gtrA K "Ledger" "grants") fd ["self"] (spO K (Tz K) 1 ph_Ledger_grants) ∧ Binds K fd ["self"] [] := by
  obtain ⟨_, fd, F⟩ := T.P_Ledger_grants
  obtain ⟨cc, hcc⟩ := code_ref F
  obtain ⟨fd_Grant___init__, G_Grant___init__, b_Grant___init__, k_Grant___init__⟩ := DGrant___init__ T
  have nd := scLedger_grants.nd
  refine ⟨fd, fn_obj (k := 2) F hcc scLedger_grants rfl (fun A outer s H E hr => ⟨rLedger_grants, ?_, MLedger_grants⟩), F.bindsN (ps := ["self"]) fun _ _ _ _ _ _ us hl => match us, hl with | [_], _ => rfl⟩
  exact (ds_one (ds_ret (de_lc (own := [("one", 1)]) (tt := dYes) (te := (dMakeD "Grant" 4 ph_Grant___init__ (dCons (dFld "Grant" "giver" (dVar 1)) (dCons (dFld "Grant" "receiver" (dVar 1)) (dCons (dFld "Grant" "right" (dVar 1)) (dCons (dFld "Grant" "may_pass" (dVar 1)) dNil)))))) rfl nd (di_val (de_of (i := 0) (C := "Ledger") (f := "_grants") rfl (by first | exact Or.inl rfl | exact Or.inr (Or.inl rfl) | exact Or.inr (Or.inr rfl)) T.cls_Ledger T.noat_Ledger__grants)) (blkOk_by (own := [("one", 1)]) (N := NLedger_grants) (sc := defScope sLedger_grants) (by decide +kernel)) rfl (fun _ _ _ _ _ => pg_name (i := 1) nd rfl (by first | exact Or.inl rfl | exact Or.inr rfl)) (fun _ _ _ _ _ => dts_nil) (fun _ _ _ _ _ => (de_makeD (C := "Grant") (n := 4) T.mkr_Grant G_Grant___init__ (hr.mono (by decide)) rfl T.glo_Grant b_Grant___init__ Ps.no (da_cons (de_fld (C := "Grant") (vV 1) T.cls_Grant T.noat_Grant_giver) (da_cons (de_fld (C := "Grant") (vV 1) T.cls_Grant T.noat_Grant_receiver) (da_cons (de_fld (C := "Grant") (vV 1) T.cls_Grant T.noat_Grant_right) (da_cons (de_fld (C := "Grant") (vV 1) T.cls_Grant T.noat_Grant_may_pass) da_nil)))))))))
theorem scLedger_may_pass : FnScope NLedger_may_pass ["self", "person", "right"] (defScope sLedger_may_pass) := ⟨rfl, rfl, rfl, by decide +kernel, rfl, by decide +kernel, by decide +kernel⟩
theorem DLedger_may_pass (T : Tx w K mg base) : ∃ fd, FnOk R.prog w K mg base (L2.CX R.prog w) 4 (He.fAd K ("Ledger", some "may_pass")) fd ["self", "person", "right"] (spO K (Tz K) 3 ph_Ledger_may_pass) ∧ Binds K fd ["self", "person", "right"] [] ∧ PySem.W.keepIn K (.ref (He.fAd K ("Ledger", some "may_pass"))) = true := by
  obtain ⟨fd, F⟩ := T.F_Ledger_may_pass
  obtain ⟨fd_Ledger_owner, G_Ledger_owner, b_Ledger_owner, k_Ledger_owner⟩ := DLedger_owner T
  obtain ⟨fd_Ledger__standing_of, G_Ledger__standing_of, b_Ledger__standing_of, k_Ledger__standing_of⟩ := DLedger__standing_of T
  have TB := T.tb ("Ledger", some "may_pass") (by simp [tf])
  have tP := Tz_mk (K := K) ("Ledger", some "may_pass") (by simp [tf])
  have nd := scLedger_may_pass.nd
  refine ⟨fd, fn_obj (k := 3) F (codeOf_at (p := ("Ledger", some "may_pass")) F) scLedger_may_pass rfl (fun A outer s H E hr => ⟨rLedger_may_pass, ?_, MLedger_may_pass⟩), F.bindsN (ps := ["self", "person", "right"]) fun _ _ _ _ _ _ us hl => match us, hl with | [_, _, _], _ => rfl, F.kp⟩
  exact (ds_cons (ds_if (dt_cmp (dop_eq hr.units) (de_methR (C := "Ledger") (n := 1) (j := 0) rfl (by first | exact Or.inl rfl | exact Or.inr (Or.inl rfl) | exact Or.inr (Or.inr rfl)) T.cls_Ledger T.meth_Ledger_owner G_Ledger_owner (hr.mono (by decide)) b_Ledger_owner (Ps.of (takes_of rfl rfl rfl rfl)) (da_cons (vV 2) da_nil)) (vB 1) (nomark _)) (ds_one (ds_ret de_bl)) ds_nil)
      (ds_cons (ds_setLc (j := 3) (own := [("number", 4)]) (tt := dYes) (te := (dBin gIx (dOF 0 "Ledger" "_grants") (dVarB 4))) rfl nd rfl rfl (sw_true rfl rfl rfl (by decide +kernel)) (di_val (de_methR (C := "Ledger") (n := 1) (j := 0) rfl (by first | exact Or.inl rfl | exact Or.inr (Or.inl rfl) | exact Or.inr (Or.inr rfl)) T.cls_Ledger T.meth_Ledger__standing_of G_Ledger__standing_of (hr.mono (by decide)) b_Ledger__standing_of (Ps.of (takes_of rfl rfl rfl rfl)) (da_cons (vV 2) da_nil))) (blkOk_by (own := [("number", 4)]) (N := NLedger_may_pass) (sc := defScope sLedger_may_pass) (by decide +kernel)) rfl (fun _ _ _ _ _ => pg_name (i := 4) nd rfl (by first | exact Or.inl rfl | exact Or.inr rfl)) (fun _ _ _ _ _ => dts_nil) (fun _ _ _ _ _ => (de_ix (de_of (i := 0) (C := "Ledger") (f := "_grants") rfl (by first | exact Or.inl rfl | exact Or.inr (Or.inl rfl) | exact Or.inr (Or.inr rfl)) T.cls_Ledger T.noat_Ledger__grants) (vB 4) (fun _ _ => rfl))))
      (ds_one (ds_ret (de_any (own := [("row", 5)]) (te := (dAndV (dBin gEq (dFld "Grant" "receiver" (dVar 5)) (dVarB 1)) (dFld "Grant" "may_pass" (dVar 5)))) hr rfl nd T.free_any TB tP rfl (blkOk_by (own := [("row", 5)]) (N := NLedger_may_pass) (sc := defScope sLedger_may_pass) (by decide +kernel)) rfl (di_val (vB 3)) (fun _ _ _ _ _ _ => pg_name (i := 5) nd rfl (by first | exact Or.inl rfl | exact Or.inr rfl)) (fun _ _ _ _ _ _ => (de_and (de_cmp (dop_eq (room_gen hr).units) (de_fld (C := "Grant") (vV 5) T.cls_Grant T.noat_Grant_receiver) (vB 1) (nomark _)) (de_one (de_fld (C := "Grant") (vV 5) T.cls_Grant T.noat_Grant_may_pass)))))))))
theorem scLedger_grant : FnScope NLedger_grant ["self", "giver", "receiver", "right", "may_pass"] (defScope sLedger_grant) := ⟨rfl, rfl, rfl, by decide +kernel, rfl, by decide +kernel, by decide +kernel⟩
theorem DLedger_grant (T : Tx w K mg base) : ∃ fd, FnOk R.prog w K mg base (L2.CX R.prog w) 5 (He.fAd K ("Ledger", some "grant")) fd ["self", "giver", "receiver", "right", "may_pass"] (spO K (Tz K) 5 ph_Ledger_grant) ∧ (∃ gv, KBn K fd ["self", "giver", "receiver", "right", "may_pass"] 4 ["may_pass"] gv fun vs zs => vs ++ zs) ∧ PySem.W.keepIn K (.ref (He.fAd K ("Ledger", some "grant"))) = true := by
  obtain ⟨fd, F⟩ := T.F_Ledger_grant
  obtain ⟨fd_Ledger_may_pass, G_Ledger_may_pass, b_Ledger_may_pass, k_Ledger_may_pass⟩ := DLedger_may_pass T
  obtain ⟨fd_is_name, G_is_name, b_is_name, k_is_name⟩ := Dis_name T
  obtain ⟨fd_Grant___init__, G_Grant___init__, b_Grant___init__, k_Grant___init__⟩ := DGrant___init__ T
  have nd := scLedger_grant.nd
  refine ⟨fd, fn_obj (k := 4) F (codeOf_at (p := ("Ledger", some "grant")) F) scLedger_grant rfl (fun A outer s H E hr => ⟨rLedger_grant, ?_, MLedger_grant⟩), by
    have z : ∃ mv : List Value, KBn K fd ["self", "giver", "receiver", "right", "may_pass"] 4 ["may_pass"] (fun us ws => us ++ ws) fun vs zs => vs ++ zs := by
      refine FunD.kbinds0 F 4 ["may_pass"] [] (fun vs mz zs => vs ++ zs) (fun z => by cases z) (fun q hq => by cases hq) (fun h1 h2 h3 => h1.append h3) fun D doc pm an cdv ct us mv ws h1 h2 h3 => ?_
      match us, h1, mv, h2, ws, h3 with
      | [_, _, _, _], _, [], _, [_], _ => rfl
    obtain ⟨_, z⟩ := z
    exact ⟨_, z⟩, F.kp⟩
  exact (ds_cons (ds_set (i := 5) nd rfl (by first | exact Or.inl rfl | exact Or.inr rfl) (de_methR (C := "Ledger") (n := 2) (j := 0) rfl (by first | exact Or.inl rfl | exact Or.inr (Or.inl rfl) | exact Or.inr (Or.inr rfl)) T.cls_Ledger T.meth_Ledger_may_pass G_Ledger_may_pass (hr.mono (by decide)) b_Ledger_may_pass (Ps.of (takes_of rfl rfl rfl rfl)) (da_cons (vV 1) (da_cons (vV 3) da_nil))))
      (ds_cons (ds_if (PW.pt (dw_or (dt_not (dt_val (de_call G_is_name (hr.mono (by decide)) rfl T.glo_is_name k_is_name b_is_name (Ps.of (takes_of rfl rfl rfl rfl)) (da_cons (vV 2) da_nil)))) (dw_or (dt_cmp (dop_eq hr.units) (vB 2) (vB 1) (nomark _)) (dw_or1 (dt_not (dt_val (vB 5))))))) (ds_one (ds_raise0 (C := "InvalidEntry") rfl (takes_of rfl rfl rfl rfl) T.exc_InvalidEntry T.glo_InvalidEntry rfl)) ds_nil)
      (ds_cons (ds_set (i := 6) nd rfl (by first | exact Or.inl rfl | exact Or.inr rfl) (de_callB dcl_lenA (by rfl) T.free_len PySem.boot_len (da_consW (de_of (i := 0) (C := "Ledger") (f := "_grants") rfl (by first | exact Or.inl rfl | exact Or.inr (Or.inl rfl) | exact Or.inr (Or.inr rfl)) T.cls_Ledger T.noat_Ledger__grants) dw_nil)))
      (ds_cons (ds_oapp (i := 0) (C := "Ledger") (f := "_grants") rfl (by first | exact Or.inl rfl | exact Or.inr (Or.inl rfl) | exact Or.inr (Or.inr rfl)) T.cls_Ledger T.noat_Ledger__grants (de_makeD (C := "Grant") (n := 4) T.mkr_Grant G_Grant___init__ (hr.mono (by decide)) rfl T.glo_Grant b_Grant___init__ (Ps.of (takes_of rfl rfl rfl rfl)) (da_cons (vV 1) (da_cons (vV 2) (da_cons (vV 3) (da_cons (vV 4) da_nil))))))
      (ds_cons (ds_oapp (i := 0) (C := "Ledger") (f := "_removed") rfl (by first | exact Or.inl rfl | exact Or.inr (Or.inl rfl) | exact Or.inr (Or.inr rfl)) T.cls_Ledger T.noat_Ledger__removed de_bl)
      (ds_cons (ds_oapp (i := 0) (C := "Ledger") (f := "_standing") rfl (by first | exact Or.inl rfl | exact Or.inr (Or.inl rfl) | exact Or.inr (Or.inr rfl)) T.cls_Ledger T.noat_Ledger__standing (vV 6))
      (ds_one (ds_ret (vV 6)))))))))
end
end K8

-- part NB
set_option Elab.async false
set_option linter.all false
set_option maxRecDepth 100000
set_option maxHeartbeats 2000000
namespace K8
open PySem PySem.Spec PyProof.Rows L2 GxR GS GA GD DL
local macro_rules | `(tactic| walk_at "ev") => `(tactic| simp (dsimp := false) only [em_uu, em_ui, em_ii, em_iu, pairs_om', pairs_om, zip_self, dRaise0_ev, lk0, lk1, lk2, fg_giver, fg_receiver, fg_right, fg_may_pass, slD_gr, slFr_gr, Option.map_none, Option.map_some, Option.isSome_none, Option.isSome_some, lg_owners, lg_owner_of, lg_grants, lg_removed, lg_standing, lg_gput, lg_rput, lg_sput, val_om, finS_nil, finS_cons, keep1_ob, keep1_va, keep1_rl, keep1_ro, getD_0, getD_s, bK_rl, bK_od, bK_rd, vK_od, slD_va, slD_ow, slFr_va, slFr_ow, slFr_od, slOf_frd, dxE_ev, dCallL_ev, dCallV_ev, resF_va, resF_ow, dMvX_ev, dForO_ev, dSetX_ev, dDropX_ev, dRetX_ev, obRd_ob, obRd_ro, obWr_ob, obNm_ob, obNm_ro, obW_ob, obR_ob, obR_ro, fdRd_va, fdRd_ow, fdRd_od, fdRd_tq, lwK_ow, fdOf_va, fdOf_ow, fdOf_od, resK_va, resK_ow, ntl_va, ntl_ow, ntl_ob, ntl_no, dOF_ev, dOS_ev, dOTq_ev, tlK_l, dOApp_ev, dDictF_ev, tqK_q, dDIn_t, dDIn_f, dinK_d, dDGet_ev, dgetK_d, keyD_s, keyD_i, dClr_ev, dMethX_ev, dMethR_ev, dMethX0_ev, dMethR0_ev, dMethK_ev, dPropR_ev, dCallX_ev, dCallR_ev, dMakeX_ev, dMakeD_ev, dLend_ev, lendK_ob, lendK_ro, dLcP_ev, dGenP_ev, dTryM_ev, hxK_nil, hxK_as, hxK_as0, hxK_on, cutN_rt, cutN_nx, gLenA_d, gLenA_l, gLenA_t, gLenA_s, k0, k1, k2, k3, iK_true, iK_false, iK_not, sl_0, sl_s, vK_va, vK_ow, bK_va, bK_ow, dVar_ev, dVarB_ev, dC_ev, dBin_ev, tK_bl, dTst_ev, dAnd_ev, dOr_ev, dNot_ev, dAndV_ev, dOrV_ev, dNotV_ev, dIf_ev, dNext_ev, dSeq_st, kS_e, dBreak_ev, dCont_ev, dRet_ev, dRetN_ev, dIfS_ev, dSet_ev, dDrop_ev, slOf_fr, slOf_sh, gAdd_i, gAdd_s, gAdd_l, gAdd_t, num_i, gEq_i, gEq_s, gEq_b, gEq_sn, gEq_ns, gEq_in, gEq_ni, gEq_nn, gEq_is, gEq_si, gNe_i, gNe_s, gNe_b, gNe_sn, gNe_ns, gNe_in, gNe_ni, gNe_nn, gEq_l, gEq_t, gNe_l, gNe_t,
    gIsN_n, gIsN_s, gIsN_i, gIsN_l, gIsN_t, gNotN_n, gNotN_s, gNotN_i, gNotN_l, gNotN_t, gIn_l, gIn_t, gNin_l, gNin_t, flD_s, flD_i, flD_n, flD_str, flD_int, has_strs, gRep_l, diRng2_ev, rK2_i, dStE_ev, iKx_i, gIx_l, gIx_t, gIx_s, DL.at0, at1, at2, at3, at4, at5, dNoPart_ev, pK_i, dPart_ev, sK_l, sK_r, sK_t, sK_s, dSl_ev, dNil_ev, dCons_ev, dConsW_ev, itsD_l, itsD_t, dStar_ev, dLst_ev, dTup_ev, dBlt_ev, gLen_l, gLen_t, gLen_r, gLen_s, gInt_i, gInt_b, gAbs_i, gMax_i, gMin_i, gTuple_l, gTuple_t, gList_l, gList_t, oW_ow, owAt_ev, decide_true, decide_false, Bool.not_true, Bool.not_false, gRepr_1, dStarT_ev, dRepl_ev, dTryAs0_ev, dTryOn_ev, dIsx0_ev, xnK_x, dIdx_ev, liK_l, has_two, stK_l, gTimes_s, zK_s, dSplit_ev, dJoin_ev, dInTab_ev, dIxTab_ev, gInD_l, gInS_s, gNinS_s, chK_b, dChn_ev, is_tt, is_ll, is_tn, is_bn, dTryAs_ev, dXf_ev, dIsx_ev, xK_x, dRaise1_ev, dIsi_ev, is_ss, is_sl, is_st, is_bb, dProp_ev, prK_i, xc_c, xc_a, dApp_ev, dStI_ev, wK_sh, wK_fr, wK_bo, wK_t, wK_r, wK_s, diVal_ev, rK_i, diRng_ev, eK_sh, eK_fr, eK_bo, diEnum_ev, dgName_ev, dgNil_ev, dgCons_ev, dgTup_ev, dAsg_ev, dFor_ev, dWhile_ev, dLc_ev, dGen_ev, dCall_ev, mK_i, dMeth_ev, fK_i, dFld_ev, nK_i, dNeg_ev, dYes_ev, oK_some, List.length_map, rng_len, Int.toNat_natCast,
    List.map_cons, List.map_nil, List.length_cons, List.length_nil, List.length_set, List.replicate_succ, List.replicate_zero, List.nil_append, List.cons_append, List.set_cons_zero, List.set_cons_succ, Nat.reduceAdd, Nat.reduceSub, ne_eq, reduceCtorEq, not_false_eq_true, not_true_eq_false, true_and, and_true, Nat.reduceLT, Nat.reduceLeDiff, Nat.zero_le, Bool.false_eq_true])
local macro_rules | `(tactic| walk_at "st") => `(tactic| simp (dsimp := false) only [em_uu, em_ui, em_ii, em_iu, pairs_om', pairs_om, zip_self, dRaise0_ev, lk0, lk1, lk2, fg_giver, fg_receiver, fg_right, fg_may_pass, slD_gr, slFr_gr, Option.map_none, Option.map_some, Option.isSome_none, Option.isSome_some, lg_owners, lg_owner_of, lg_grants, lg_removed, lg_standing, lg_gput, lg_rput, lg_sput, val_om, finS_nil, finS_cons, keep1_ob, keep1_va, keep1_rl, keep1_ro, getD_0, getD_s, bK_rl, bK_od, bK_rd, vK_od, slD_va, slD_ow, slFr_va, slFr_ow, slFr_od, slOf_frd, dxE_ev, dCallL_ev, dCallV_ev, resF_va, resF_ow, dMvX_ev, dForO_ev, dSetX_ev, dDropX_ev, dRetX_ev, obRd_ob, obRd_ro, obWr_ob, obNm_ob, obNm_ro, obW_ob, obR_ob, obR_ro, fdRd_va, fdRd_ow, fdRd_od, fdRd_tq, lwK_ow, fdOf_va, fdOf_ow, fdOf_od, resK_va, resK_ow, ntl_va, ntl_ow, ntl_ob, ntl_no, dOF_ev, dOS_ev, dOTq_ev, tlK_l, dOApp_ev, dDictF_ev, tqK_q, dDIn_t, dDIn_f, dinK_d, dDGet_ev, dgetK_d, keyD_s, keyD_i, dClr_ev, dMethX_ev, dMethR_ev, dMethX0_ev, dMethR0_ev, dMethK_ev, dPropR_ev, dCallX_ev, dCallR_ev, dMakeX_ev, dMakeD_ev, dLend_ev, lendK_ob, lendK_ro, dLcP_ev, dGenP_ev, dTryM_ev, hxK_nil, hxK_as, hxK_as0, hxK_on, cutN_rt, cutN_nx, gLenA_d, gLenA_l, gLenA_t, gLenA_s, k0, k1, k2, k3, iK_true, iK_false, iK_not, sl_0, sl_s, vK_va, vK_ow, bK_va, bK_ow, dVar_ev, dVarB_ev, dC_ev, dBin_ev, tK_bl, dTst_ev, dAnd_ev, dOr_ev, dNot_ev, dAndV_ev, dOrV_ev, dNotV_ev, dIf_ev, dNext_ev, dSeq_st, kS_e, dBreak_ev, dCont_ev, dRet_ev, dRetN_ev, dSet_ev, dDrop_ev, slOf_fr, slOf_sh, gAdd_i, gAdd_s, gAdd_l, gAdd_t, num_i, gEq_i, gEq_s, gEq_b, gEq_sn, gEq_ns, gEq_in, gEq_ni, gEq_nn, gEq_is, gEq_si, gNe_i, gNe_s, gNe_b, gNe_sn, gNe_ns, gNe_in, gNe_ni, gNe_nn, gEq_l, gEq_t, gNe_l, gNe_t,
    gIsN_n, gIsN_s, gIsN_i, gIsN_l, gIsN_t, gNotN_n, gNotN_s, gNotN_i, gNotN_l, gNotN_t, gIn_l, gIn_t, gNin_l, gNin_t, flD_s, flD_i, flD_n, flD_str, flD_int, has_strs, gRep_l, diRng2_ev, rK2_i, dStE_ev, iKx_i, gIx_l, gIx_t, gIx_s, DL.at0, at1, at2, at3, at4, at5, dNoPart_ev, pK_i, dPart_ev, sK_l, sK_r, sK_t, sK_s, dSl_ev, dNil_ev, dCons_ev, dConsW_ev, itsD_l, itsD_t, dStar_ev, dLst_ev, dTup_ev, dBlt_ev, gLen_l, gLen_t, gLen_r, gLen_s, gInt_i, gInt_b, gAbs_i, gMax_i, gMin_i, gTuple_l, gTuple_t, gList_l, gList_t, oW_ow, owAt_ev, decide_true, decide_false, Bool.not_true, Bool.not_false, gRepr_1, dStarT_ev, dRepl_ev, dTryAs0_ev, dTryOn_ev, dIsx0_ev, xnK_x, dIdx_ev, liK_l, has_two, stK_l, gTimes_s, zK_s, dSplit_ev, dJoin_ev, dInTab_ev, dIxTab_ev, gInD_l, gInS_s, gNinS_s, chK_b, dChn_ev, is_tt, is_ll, is_tn, is_bn, dTryAs_ev, dXf_ev, dIsx_ev, xK_x, dRaise1_ev, dIsi_ev, is_ss, is_sl, is_st, is_bb, dProp_ev, prK_i, xc_c, xc_a, dApp_ev, dStI_ev, wK_sh, wK_fr, wK_bo, wK_t, wK_r, wK_s, diVal_ev, rK_i, diRng_ev, eK_sh, eK_fr, eK_bo, diEnum_ev, dgName_ev, dgNil_ev, dgCons_ev, dgTup_ev, dAsg_ev, dFor_ev, dWhile_ev, dLc_ev, dGen_ev, dCall_ev, mK_i, dMeth_ev, fK_i, dFld_ev, nK_i, dNeg_ev, dYes_ev, oK_some, List.length_map, rng_len, Int.toNat_natCast,
    List.map_cons, List.map_nil, List.length_cons, List.length_nil, List.length_set, List.replicate_succ, List.replicate_zero, List.nil_append, List.cons_append, List.set_cons_zero, List.set_cons_succ, Nat.reduceAdd, Nat.reduceSub, ne_eq, reduceCtorEq, not_false_eq_true, not_true_eq_false, true_and, and_true, Nat.reduceLT, Nat.reduceLeDiff, Nat.zero_le, Bool.false_eq_true])
/-- a grant as a tuple of the law's -/
def gtD (g : Gr) : D := .tup [.str g.gv, .str g.rc, .str g.rt, .bl g.mp]
def lawMay (ps : List (Str × Str)) (gs : List Gr) (st : List Nat) (p r : Str) : Bool := decide ((r, p) ∈ ps) || st.any fun k => (gs[k]?).any fun g => decide (g.rc = p) && (decide (g.rt = r) && g.mp)
theorem gtD_eq (g : Gr) : gtD g = .tup [.str g.gv, .str g.rc, .str g.rt, .bl g.mp] := rfl
theorem inD_eq (n : Nat) : inD n = .int (n : Int) := rfl
theorem is_ii {i : Int} : isD "int" (.int i) = some true := by show kitB "int" "int" = _; decide +kernel
theorem is_ib {i : Int} : isD "bool" (.int i) = some false := by show kitB "int" "bool" = _; decide +kernel
theorem eqD_pair {a b c d : Str} : eqD (.tup [.str a, .str b]) (.tup [.str c, .str d]) = (decide (a = c) && decide (b = d)) := by
  simp [eqD, pd, pdL, PyData.eqv, PyData.eqvAll]
  rfl
theorem shp_pair {a b : Str} (h1 : PyData.strOk a = true) (h2 : PyData.strOk b = true) : shp (.tup [.str a, .str b]) = true := by
  simp [shp, okD, okL, h1, h2, dpt, dptL]
abbrev PsS (ps : List (Str × Str)) : Prop := ∀ x ∈ ps, PyData.strOk x.1 = true ∧ PyData.strOk x.2 = true
theorem okL_prs : ∀ {ps : List (Str × Str)}, PsS ps → okL (ps.map prD) = true ∧ dptL (ps.map prD) ≤ 2
  | [], _ => ⟨rfl, by simp [dptL]⟩
  | x :: r, h => by
    obtain ⟨h1, h2⟩ := okL_prs (ps := r) fun y hy => h y (List.mem_cons_of_mem _ hy)
    obtain ⟨a, b⟩ := h x List.mem_cons_self
    refine ⟨?_, ?_⟩
    · rw [List.map_cons]; unfold okL; rw [h1]; unfold prD; simp [okD, okL, a, b]
    · have e : dpt (prD x) ≤ 2 := by simp [prD, dpt, dptL]
      rw [List.map_cons]; unfold dptL; omega
theorem shp_prs {ps : List (Str × Str)} (h : PsS ps) : shp (.lst (ps.map prD)) = true := by
  obtain ⟨h1, h2⟩ := okL_prs h
  unfold shp okD dpt
  rw [h1, decide_eq_true (by omega)]
  rfl
theorem any_pair {ps : List (Str × Str)} {r p : Str} : ((ps.map prD).any fun z => eqD z (.tup [.str r, .str p])) = decide ((r, p) ∈ ps) := by
  induction ps with
  | nil => rfl
  | cons x t ih =>
    rw [List.map_cons, List.any_cons, ih]
    show (eqD (.tup [.str x.1, .str x.2]) _ || _) = _
    rw [eqD_pair, Bool.eq_iff_iff]
    simp only [Bool.or_eq_true, Bool.and_eq_true, decide_eq_true_eq, List.mem_cons]
    constructor
    · rintro (⟨h1, h2⟩ | h)
      · exact .inl (by rw [← h1, ← h2])
      · exact .inr h
    · rintro (h | h)
      · exact .inl ⟨by rw [← h], by rw [← h]⟩
      · exact .inr h
theorem gt_at {gs : List Gr} {k : Nat} (h : k < gs.length) : ∃ g, gs[k]? = some g ∧ atI (gs.map gtD) (k : Int) = some (gtD g) := by
  refine ⟨gs[k], List.getElem?_eq_getElem h, ?_⟩
  exact atI_nat (by rw [List.getElem?_map, List.getElem?_eq_getElem h]; rfl)
theorem filter_pos {l : List Nat} {P : Nat → Bool} : decide ((0 : Int) < ((l.filter P).length : Int)) = l.any P := by
  rw [Bool.eq_iff_iff, decide_eq_true_eq, List.any_eq_true]
  constructor
  · intro h
    have h : 0 < (l.filter P).length := by omega
    obtain ⟨a, ha⟩ := List.exists_mem_of_length_pos h
    exact ⟨a, List.mem_filter.mp ha⟩
  · rintro ⟨a, ha, e⟩
    have := List.length_pos_of_mem (List.mem_filter.mpr ⟨ha, e⟩)
    omega
abbrev N_law_is_integer : List Str := ["actual"]
def r_law_is_integer : DS :=
  (dRet (dAndV (dIsi "int" (dVarB 0)) (dNotV (dIsi "bool" (dVarB 0)))))
/- theorem M_law_is_integer : MD r_law_is_integer 1 1 ph_law_is_integer := fun ds Qd Xd h hl => by -/
def ph__law_is_integer : Ph := fun ds Qd _ => ∃ i : Int, ds = [.int i] ∧ Qd (.bl true)
theorem M_law_is_integer : MD r_law_is_integer 1 1 ph__law_is_integer := fun ds Qd Xd h hl => by
  obtain ⟨i, rfl, q⟩ := h
  unfold r_law_is_integer
  walk_at "ev"
  rw [is_ii]
  walk_at "ev"
  rw [is_ib]
  walk_at "ev"
  exact q
abbrev N_law_may : List Str := ["owners", "grants", "stood", "person", "right", "k"]
def r_law_may : DS :=
  (dSeq (dIfS (dTst (dBin gInD (dTup (dCons (dVar 4) (dCons (dVar 3) dNil))) (dVarB 0))) (dRet (dC (.bl true))) dNext)
  (dRet (dBin gGt (dBlt gLenA (dConsW (dLc (diVal (dVarB 2)) 5 (dAnd (dTst (dBin gEq (dBin gIx (dBin gIx (dVarB 1) (dVarB 5)) (dC (.int 1))) (dVarB 3))) (dAnd (dTst (dBin gEq (dBin gIx (dBin gIx (dVarB 1) (dVarB 5)) (dC (.int 2))) (dVarB 4))) (dTst (dBin gIx (dBin gIx (dVarB 1) (dVarB 5)) (dC (.int 3)))))) (dVar 5)) dNil)) (dC (.int 0)))))
/- theorem M_law_may : MO r_law_may 5 6 ph_law_may := fun ds Qd Xd h hl => by -/
def ph__law_may : PhO := fun ss Qd _ => ∃ (ps : List (Str × Str)) (gs : List Gr) (st : List Nat) (p r : Str), ss = [.va (.lst (ps.map prD)), .va (.lst (gs.map gtD)), .va (.lst (st.map inD)), .va (.str p), .va (.str r)] ∧ PsS ps ∧ PyData.strOk p = true ∧ PyData.strOk r = true ∧ (∀ k ∈ st, k < gs.length) ∧ st.length ≤ 1000 ∧ Qd (.va (.bl (lawMay ps gs st p r))) [.no, .no, .no, .no, .no]
theorem M_law_may : MO r_law_may 5 6 ph__law_may := fun ss Qd Xd h hl => by
  obtain ⟨ps, gs, st, p, r, rfl, h1, h2, h3, hk, hs, q⟩ := h
  unfold r_law_may
  walk_at "ev"
  refine ⟨by unfold sizeLine; omega, shp_pair h3 h2, shp_prs h1, ?_⟩
  rw [any_pair]
  refine iK_d (fun hm => ?_) fun hm => ?_
  · walk_at "ev"
    unfold lawMay at q
    rw [decide_eq_true hm, Bool.true_or] at q
    exact q
  · walk_at "ev"
    refine lcK.map inD_inj (fun k => (gs[k]?).any fun g => decide (g.rc = p) && (decide (g.rt = r) && g.mp)) inD (Nat.le_trans hs (by unfold sizeLine; omega)) (fun k hk2 o ho => ?_) ?_
    · obtain ⟨g, eg, ea⟩ := gt_at (hk k hk2)
      rw [eg] at ho
      simp (dsimp := false) only [inD_eq]
      walk_at "ev"
      refine oK.mk ea ?_
      simp (dsimp := false) only [gtD_eq]
      walk_at "ev"
      refine iK_d (fun a1 => ?_) fun a1 => ?_
      · have a1 : g.rc = p := a1
        walk_at "ev"
        refine oK.mk ea ?_
        simp (dsimp := false) only [gtD_eq]
        walk_at "ev"
        refine iK_d (fun a2 => ?_) fun a2 => ?_
        · have a2 : g.rt = r := a2
          walk_at "ev"
          refine oK.mk ea ?_
          simp (dsimp := false) only [gtD_eq]
          walk_at "ev"
          refine iK_b (fun a3 => ?_) fun a3 => ?_
          · walk_at "ev"
            rw [ho]
            simp [a1, a2, a3, inD]
          · rw [ho]
            simp [a3]
        · have a2 : ¬ g.rt = r := a2
          walk_at "ev"
          rw [ho]
          simp [a2]
      · have a1 : ¬ g.rc = p := a1
        walk_at "ev"
        rw [ho]
        simp [a1]
    · walk_at "ev"
      unfold lawMay at q
      rw [decide_eq_false hm, Bool.false_or] at q
      rw [filter_pos]
      exact q
end K8

-- part NC
set_option Elab.async false
set_option linter.all false
set_option maxRecDepth 100000
set_option maxHeartbeats 2000000
namespace K8
open PySem PySem.Spec PyProof.Rows L2 GxR GS GA GD DL
local macro_rules | `(tactic| walk_at "ev") => `(tactic| simp (dsimp := false) only [em_uu, em_ui, em_ii, em_iu, pairs_om', pairs_om, zip_self, dRaise0_ev, lk0, lk1, lk2, fg_giver, fg_receiver, fg_right, fg_may_pass, slD_gr, slFr_gr, Option.map_none, Option.map_some, Option.isSome_none, Option.isSome_some, lg_owners, lg_owner_of, lg_grants, lg_removed, lg_standing, lg_gput, lg_rput, lg_sput, val_om, finS_nil, finS_cons, keep1_ob, keep1_va, keep1_rl, keep1_ro, getD_0, getD_s, bK_rl, bK_od, bK_rd, vK_od, slD_va, slD_ow, slFr_va, slFr_ow, slFr_od, slOf_frd, dxE_ev, dCallL_ev, dCallV_ev, resF_va, resF_ow, dMvX_ev, dForO_ev, dSetX_ev, dDropX_ev, dRetX_ev, obRd_ob, obRd_ro, obWr_ob, obNm_ob, obNm_ro, obW_ob, obR_ob, obR_ro, fdRd_va, fdRd_ow, fdRd_od, fdRd_tq, lwK_ow, fdOf_va, fdOf_ow, fdOf_od, resK_va, resK_ow, ntl_va, ntl_ow, ntl_ob, ntl_no, dOF_ev, dOS_ev, dOTq_ev, tlK_l, dOApp_ev, dDictF_ev, tqK_q, dDIn_t, dDIn_f, dinK_d, dDGet_ev, dgetK_d, keyD_s, keyD_i, dClr_ev, dMethX_ev, dMethR_ev, dMethX0_ev, dMethR0_ev, dMethK_ev, dPropR_ev, dCallX_ev, dCallR_ev, dMakeX_ev, dMakeD_ev, dLend_ev, lendK_ob, lendK_ro, dLcP_ev, dGenP_ev, dTryM_ev, hxK_nil, hxK_as, hxK_as0, hxK_on, cutN_rt, cutN_nx, gLenA_d, gLenA_l, gLenA_t, gLenA_s, k0, k1, k2, k3, iK_true, iK_false, iK_not, sl_0, sl_s, vK_va, vK_ow, bK_va, bK_ow, dVar_ev, dVarB_ev, dC_ev, dBin_ev, tK_bl, dTst_ev, dAnd_ev, dOr_ev, dNot_ev, dAndV_ev, dOrV_ev, dNotV_ev, dIf_ev, dNext_ev, dSeq_st, kS_e, dBreak_ev, dCont_ev, dRet_ev, dRetN_ev, dIfS_ev, dSet_ev, dDrop_ev, slOf_fr, slOf_sh, gAdd_i, gAdd_s, gAdd_l, gAdd_t, num_i, gEq_i, gEq_s, gEq_b, gEq_sn, gEq_ns, gEq_in, gEq_ni, gEq_nn, gEq_is, gEq_si, gNe_i, gNe_s, gNe_b, gNe_sn, gNe_ns, gNe_in, gNe_ni, gNe_nn, gEq_l, gEq_t, gNe_l, gNe_t,
    gIsN_n, gIsN_s, gIsN_i, gIsN_l, gIsN_t, gNotN_n, gNotN_s, gNotN_i, gNotN_l, gNotN_t, gIn_l, gIn_t, gNin_l, gNin_t, flD_s, flD_i, flD_n, flD_str, flD_int, has_strs, gRep_l, diRng2_ev, rK2_i, dStE_ev, iKx_i, gIx_l, gIx_t, gIx_s, DL.at0, at1, at2, at3, at4, at5, dNoPart_ev, pK_i, dPart_ev, sK_l, sK_r, sK_t, sK_s, dSl_ev, dNil_ev, dCons_ev, dConsW_ev, itsD_l, itsD_t, dStar_ev, dLst_ev, dTup_ev, dBlt_ev, gLen_l, gLen_t, gLen_r, gLen_s, gInt_i, gInt_b, gAbs_i, gMax_i, gMin_i, gTuple_l, gTuple_t, gList_l, gList_t, oW_ow, owAt_ev, decide_true, decide_false, Bool.not_true, Bool.not_false, gRepr_1, dStarT_ev, dRepl_ev, dTryAs0_ev, dTryOn_ev, dIsx0_ev, xnK_x, dIdx_ev, liK_l, has_two, stK_l, gTimes_s, zK_s, dSplit_ev, dJoin_ev, dInTab_ev, dIxTab_ev, gInD_l, gInS_s, gNinS_s, chK_b, dChn_ev, is_tt, is_ll, is_tn, is_bn, dTryAs_ev, dXf_ev, dIsx_ev, xK_x, dRaise1_ev, dIsi_ev, is_ss, is_sl, is_st, is_bb, dProp_ev, prK_i, xc_c, xc_a, dApp_ev, dStI_ev, wK_sh, wK_fr, wK_bo, wK_t, wK_r, wK_s, diVal_ev, rK_i, diRng_ev, eK_sh, eK_fr, eK_bo, diEnum_ev, dgName_ev, dgNil_ev, dgCons_ev, dgTup_ev, dAsg_ev, dFor_ev, dWhile_ev, dLc_ev, dGen_ev, dCall_ev, mK_i, dMeth_ev, fK_i, dFld_ev, nK_i, dNeg_ev, dYes_ev, oK_some, List.length_map, rng_len, Int.toNat_natCast,
    List.map_cons, List.map_nil, List.length_cons, List.length_nil, List.length_set, List.replicate_succ, List.replicate_zero, List.nil_append, List.cons_append, List.set_cons_zero, List.set_cons_succ, Nat.reduceAdd, Nat.reduceSub, ne_eq, reduceCtorEq, not_false_eq_true, not_true_eq_false, true_and, and_true, Nat.reduceLT, Nat.reduceLeDiff, Nat.zero_le, Bool.false_eq_true])
local macro_rules | `(tactic| walk_at "st") => `(tactic| simp (dsimp := false) only [em_uu, em_ui, em_ii, em_iu, pairs_om', pairs_om, zip_self, dRaise0_ev, lk0, lk1, lk2, fg_giver, fg_receiver, fg_right, fg_may_pass, slD_gr, slFr_gr, Option.map_none, Option.map_some, Option.isSome_none, Option.isSome_some, lg_owners, lg_owner_of, lg_grants, lg_removed, lg_standing, lg_gput, lg_rput, lg_sput, val_om, finS_nil, finS_cons, keep1_ob, keep1_va, keep1_rl, keep1_ro, getD_0, getD_s, bK_rl, bK_od, bK_rd, vK_od, slD_va, slD_ow, slFr_va, slFr_ow, slFr_od, slOf_frd, dxE_ev, dCallL_ev, dCallV_ev, resF_va, resF_ow, dMvX_ev, dForO_ev, dSetX_ev, dDropX_ev, dRetX_ev, obRd_ob, obRd_ro, obWr_ob, obNm_ob, obNm_ro, obW_ob, obR_ob, obR_ro, fdRd_va, fdRd_ow, fdRd_od, fdRd_tq, lwK_ow, fdOf_va, fdOf_ow, fdOf_od, resK_va, resK_ow, ntl_va, ntl_ow, ntl_ob, ntl_no, dOF_ev, dOS_ev, dOTq_ev, tlK_l, dOApp_ev, dDictF_ev, tqK_q, dDIn_t, dDIn_f, dinK_d, dDGet_ev, dgetK_d, keyD_s, keyD_i, dClr_ev, dMethX_ev, dMethR_ev, dMethX0_ev, dMethR0_ev, dMethK_ev, dPropR_ev, dCallX_ev, dCallR_ev, dMakeX_ev, dMakeD_ev, dLend_ev, lendK_ob, lendK_ro, dLcP_ev, dGenP_ev, dTryM_ev, hxK_nil, hxK_as, hxK_as0, hxK_on, cutN_rt, cutN_nx, gLenA_d, gLenA_l, gLenA_t, gLenA_s, k0, k1, k2, k3, iK_true, iK_false, iK_not, sl_0, sl_s, vK_va, vK_ow, bK_va, bK_ow, dVar_ev, dVarB_ev, dC_ev, dBin_ev, tK_bl, dTst_ev, dAnd_ev, dOr_ev, dNot_ev, dAndV_ev, dOrV_ev, dNotV_ev, dIf_ev, dNext_ev, dSeq_st, kS_e, dBreak_ev, dCont_ev, dRet_ev, dRetN_ev, dSet_ev, dDrop_ev, slOf_fr, slOf_sh, gAdd_i, gAdd_s, gAdd_l, gAdd_t, num_i, gEq_i, gEq_s, gEq_b, gEq_sn, gEq_ns, gEq_in, gEq_ni, gEq_nn, gEq_is, gEq_si, gNe_i, gNe_s, gNe_b, gNe_sn, gNe_ns, gNe_in, gNe_ni, gNe_nn, gEq_l, gEq_t, gNe_l, gNe_t,
    gIsN_n, gIsN_s, gIsN_i, gIsN_l, gIsN_t, gNotN_n, gNotN_s, gNotN_i, gNotN_l, gNotN_t, gIn_l, gIn_t, gNin_l, gNin_t, flD_s, flD_i, flD_n, flD_str, flD_int, has_strs, gRep_l, diRng2_ev, rK2_i, dStE_ev, iKx_i, gIx_l, gIx_t, gIx_s, DL.at0, at1, at2, at3, at4, at5, dNoPart_ev, pK_i, dPart_ev, sK_l, sK_r, sK_t, sK_s, dSl_ev, dNil_ev, dCons_ev, dConsW_ev, itsD_l, itsD_t, dStar_ev, dLst_ev, dTup_ev, dBlt_ev, gLen_l, gLen_t, gLen_r, gLen_s, gInt_i, gInt_b, gAbs_i, gMax_i, gMin_i, gTuple_l, gTuple_t, gList_l, gList_t, oW_ow, owAt_ev, decide_true, decide_false, Bool.not_true, Bool.not_false, gRepr_1, dStarT_ev, dRepl_ev, dTryAs0_ev, dTryOn_ev, dIsx0_ev, xnK_x, dIdx_ev, liK_l, has_two, stK_l, gTimes_s, zK_s, dSplit_ev, dJoin_ev, dInTab_ev, dIxTab_ev, gInD_l, gInS_s, gNinS_s, chK_b, dChn_ev, is_tt, is_ll, is_tn, is_bn, dTryAs_ev, dXf_ev, dIsx_ev, xK_x, dRaise1_ev, dIsi_ev, is_ss, is_sl, is_st, is_bb, dProp_ev, prK_i, xc_c, xc_a, dApp_ev, dStI_ev, wK_sh, wK_fr, wK_bo, wK_t, wK_r, wK_s, diVal_ev, rK_i, diRng_ev, eK_sh, eK_fr, eK_bo, diEnum_ev, dgName_ev, dgNil_ev, dgCons_ev, dgTup_ev, dAsg_ev, dFor_ev, dWhile_ev, dLc_ev, dGen_ev, dCall_ev, mK_i, dMeth_ev, fK_i, dFld_ev, nK_i, dNeg_ev, dYes_ev, oK_some, List.length_map, rng_len, Int.toNat_natCast,
    List.map_cons, List.map_nil, List.length_cons, List.length_nil, List.length_set, List.replicate_succ, List.replicate_zero, List.nil_append, List.cons_append, List.set_cons_zero, List.set_cons_succ, Nat.reduceAdd, Nat.reduceSub, ne_eq, reduceCtorEq, not_false_eq_true, not_true_eq_false, true_and, and_true, Nat.reduceLT, Nat.reduceLeDiff, Nat.zero_le, Bool.false_eq_true])
/-- the grants that stand, as the law replays them -/
def lawSt (ps : List (Str × Str)) (gs : List Gr) (tk : List Nat) : Nat → List Nat
  | 0 => []
  | k + 1 => if (gs[k]?).any (fun g => lawMay ps gs (lawSt ps gs tk k) g.gv g.rt) && !decide (k ∈ tk) then lawSt ps gs tk k ++ [k] else lawSt ps gs tk k
theorem lawSt_lt {ps : List (Str × Str)} {gs : List Gr} {tk : List Nat} : ∀ {n : Nat}, ∀ k ∈ lawSt ps gs tk n, k < n
  | 0, k, h => by cases h
  | n + 1, k, h => by
    unfold lawSt at h
    split at h
    · rcases List.mem_append.mp h with h | h
      · exact Nat.lt_succ_of_lt (lawSt_lt k h)
      · rw [List.mem_singleton.mp h]; exact Nat.lt_succ_self _
    · exact Nat.lt_succ_of_lt (lawSt_lt k h)
theorem lawSt_len {ps : List (Str × Str)} {gs : List Gr} {tk : List Nat} : ∀ {n : Nat}, (lawSt ps gs tk n).length ≤ n
  | 0 => Nat.le_refl _
  | n + 1 => by
    have := lawSt_len (ps := ps) (gs := gs) (tk := tk) (n := n)
    unfold lawSt
    split
    · rw [List.length_append]; show _ + 1 ≤ _; omega
    · omega
theorem fl_nats {l : List Nat} : (l.map inD).all flD = true := by
  rw [List.all_map, List.all_eq_true]
  exact fun _ _ => rfl
theorem has_nats {k : Nat} {l : List Nat} : hasD (.int (k : Int)) (l.map inD) = decide (k ∈ l) := by
  unfold hasD inV
  rw [List.map_map, List.any_map, Bool.eq_iff_iff, List.any_eq_true, decide_eq_true_eq]
  constructor
  · rintro ⟨y, hy, e⟩
    have e : ((y : Int) == (k : Int)) = true := e
    have e := beq_iff_eq.mp e
    have : y = k := by omega
    rw [← this]; exact hy
  · intro h
    exact ⟨k, h, by show ((k : Int) == (k : Int)) = true; simp⟩
abbrev GsS (gs : List Gr) : Prop := ∀ g ∈ gs, PyData.strOk g.gv = true ∧ PyData.strOk g.rc = true ∧ PyData.strOk g.rt = true
abbrev N_law_standing : List Str := ["owners", "grants", "taken", "stood", "k", "good", "j", "giver", "receiver", "right", "passing"]
def r_law_standing : DS :=
  (dSeq (dSet 3 (dLst dNil))
  (dSeq (dFor (diRng (dConsW (dBlt gLenA (dConsW (dVarB 1) dNil)) dNil)) (dgName 4) (dSeq (dAsg (dBin gIx (dVarB 1) (dVarB 4)) (dgTup 4 (dgCons (dgName 7) (dgCons (dgName 8) (dgCons (dgName 9) (dgCons (dgName 10) dgNil))))))
  (dSeq (dSet 5 (dBin gInD (dTup (dCons (dVar 9) (dCons (dVar 7) dNil))) (dVarB 0)))
  (dSeq (dForO 3 (dgName 6) (dIfS (dAnd (dTst (dBin gEq (dBin gIx (dBin gIx (dVarB 1) (dVarB 6)) (dC (.int 1))) (dVarB 7))) (dAnd (dTst (dBin gEq (dBin gIx (dBin gIx (dVarB 1) (dVarB 6)) (dC (.int 2))) (dVarB 9))) (dTst (dBin gIx (dBin gIx (dVarB 1) (dVarB 6)) (dC (.int 3)))))) (dSet 5 (dC (.bl true))) dNext))
  (dIfS (dAnd (dTst (dVarB 5)) (dTst (dBin gNin (dVarB 4) (dVarB 2)))) (dApp 3 (dVar 4)) dNext)))))
  (dRetX (dMvX 3))))
/- theorem M_law_standing : MO r_law_standing 3 11 ph_law_standing := fun ds Qd Xd h hl => by -/
def ph__law_standing : PhO := fun ss Qd _ => ∃ (ps : List (Str × Str)) (gs : List Gr) (tk : List Nat), ss = [.va (.lst (ps.map prD)), .va (.lst (gs.map gtD)), .va (.lst (tk.map inD))] ∧ PsS ps ∧ GsS gs ∧ gs.length ≤ 1000 ∧ Qd (.ow ((lawSt ps gs tk gs.length).map inD)) [.no, .no, .no]
theorem M_law_standing : MO r_law_standing 3 11 ph__law_standing := fun ss Qd Xd h hl => by
  obtain ⟨ps, gs, tk, rfl, h1, h2, h3, q⟩ := h
  unfold r_law_standing
  walk_at "ev"
  refine ⟨by omega, by omega, forK.rng (fun k ρ => ∃ s4 s5 s6 s7 s8 s9 s10, (ntl s4 = true ∧ ntl s5 = true ∧ ntl s6 = true ∧ ntl s7 = true ∧ ntl s8 = true ∧ ntl s9 = true ∧ ntl s10 = true) ∧ ρ = [.va (.lst (ps.map prD)), .va (.lst (gs.map gtD)), .va (.lst (tk.map inD)), .ow ((lawSt ps gs tk k).map inD), s4, s5, s6, s7, s8, s9, s10]) ⟨.no, .no, .no, .no, .no, .no, .no, ⟨rfl, rfl, rfl, rfl, rfl, rfl, rfl⟩, rfl⟩ (fun k ρ' hk i => ?_) (fun ρ' i => ?_)⟩
  · obtain ⟨s4, s5, s6, s7, s8, s9, s10, ⟨n4, n5, n6, n7, n8, n9, n10⟩, rfl⟩ := i
    obtain ⟨g, eg, ea⟩ := gt_at hk
    obtain ⟨o1, o2, o3⟩ := h2 g (List.mem_of_getElem? eg)
    walk_at "ev"
    refine oK.mk ea ?_
    simp (dsimp := false) only [gtD_eq]
    walk_at "ev"
    refine ⟨by unfold sizeLine; omega, shp_pair o3 o1, shp_prs h1, ?_⟩
    rw [any_pair]
    have lt : ∀ i ∈ lawSt ps gs tk k, i < gs.length := fun i hi => Nat.lt_trans (lawSt_lt i hi) hk
    refine forOK.map (fun a i ρ => ∃ s6, ntl s6 = true ∧ ρ = [.va (.lst (ps.map prD)), .va (.lst (gs.map gtD)), .va (.lst (tk.map inD)), .va (.xn a), .va (.int (k : Int)), .va (.bl (decide ((g.rt, g.gv) ∈ ps) || ((lawSt ps gs tk k).take i).any fun j => (gs[j]?).any fun h => decide (h.rc = g.gv) && (decide (h.rt = g.rt) && h.mp))), s6, .va (.str g.gv), .va (.str g.rc), .va (.str g.rt), .va (.bl g.mp)]) (fun a => ⟨s6, n6, ?_⟩) (fun a i j ρ' hj hi => ?_) (fun a ρ' hi => ?_)
    · rw [List.take_zero, List.any_nil, Bool.or_false]
      rfl
    · obtain ⟨s6, n6, rfl⟩ := hi
      obtain ⟨h, eh, eb⟩ := gt_at (lt j (List.mem_of_getElem? hj))
      have tk1 : ((lawSt ps gs tk k).take (i + 1)).any (fun j => (gs[j]?).any fun h => decide (h.rc = g.gv) && (decide (h.rt = g.rt) && h.mp)) = (((lawSt ps gs tk k).take i).any (fun j => (gs[j]?).any fun h => decide (h.rc = g.gv) && (decide (h.rt = g.rt) && h.mp)) || (decide (h.rc = g.gv) && (decide (h.rt = g.rt) && h.mp))) := by
        rw [List.take_add_one, hj, List.any_append, show (some j).toList = [j] from rfl, List.any_cons, List.any_nil, Bool.or_false, eh]
        rfl
      simp (dsimp := false) only [inD_eq]
      walk_at "ev"
      refine oK.mk eb ?_
      simp (dsimp := false) only [gtD_eq]
      walk_at "ev"
      refine iK_d (fun a1 => ?_) fun a1 => ?_
      · have a1 : h.rc = g.gv := a1
        walk_at "ev"
        refine oK.mk eb ?_
        simp (dsimp := false) only [gtD_eq]
        walk_at "ev"
        refine iK_d (fun a2 => ?_) fun a2 => ?_
        · have a2 : h.rt = g.rt := a2
          walk_at "ev"
          refine oK.mk eb ?_
          simp (dsimp := false) only [gtD_eq]
          walk_at "ev"
          refine iK_b (fun a3 => ?_) fun a3 => ?_
          · walk_at "ev"
            exact ⟨.va (.int (j : Int)), rfl, by rw [tk1]; simp [a1, a2, a3]⟩
          · walk_at "ev"
            exact ⟨.va (.int (j : Int)), rfl, by rw [tk1]; simp [a3]⟩
        · have a2 : ¬ h.rt = g.rt := a2
          walk_at "ev"
          exact ⟨.va (.int (j : Int)), rfl, by rw [tk1]; simp [a2]⟩
      · have a1 : ¬ h.rc = g.gv := a1
        walk_at "ev"
        exact ⟨.va (.int (j : Int)), rfl, by rw [tk1]; simp [a1]⟩
    · obtain ⟨s6, n6, rfl⟩ := hi
      rw [List.take_length]
      refine ⟨⟨rfl, fun s hs => ?_⟩, ?_⟩
      · simp only [List.mem_cons, List.not_mem_nil, or_false] at hs
        rcases hs with rfl | rfl | rfl | rfl | rfl | rfl | rfl | rfl | rfl | rfl | rfl
        all_goals first | exact n6 | rfl
      · walk_at "ev"
        have e1 : lawSt ps gs tk (k + 1) = if lawMay ps gs (lawSt ps gs tk k) g.gv g.rt && !decide (k ∈ tk) then lawSt ps gs tk k ++ [k] else lawSt ps gs tk k := by
          show (if (gs[k]?).any _ && _ then _ else _) = _
          rw [eg]
          rfl
        refine iK_b (fun hg => ?_) fun hg => ?_
        · have hg : lawMay ps gs (lawSt ps gs tk k) g.gv g.rt = true := hg
          rw [hg, Bool.true_and] at e1
          walk_at "ev"
          refine ⟨fl_nats, ?_⟩
          rw [has_nats]
          refine iK_d (fun hm => ?_) fun hm => ?_
          · walk_at "ev"
            rw [decide_eq_true hm, Bool.not_true, if_neg Bool.false_ne_true] at e1
            exact ⟨_, _, _, _, _, _, _, ⟨rfl, rfl, n6, rfl, rfl, rfl, rfl⟩, by rw [e1]⟩
          · rw [decide_eq_false hm, Bool.not_false, if_pos rfl] at e1
            walk_at "ev"
            refine ⟨?_, _, _, _, _, _, _, _, ⟨rfl, rfl, n6, rfl, rfl, rfl, rfl⟩, by rw [e1, List.map_append]; rfl⟩
            exact Nat.lt_of_le_of_lt lawSt_len (Nat.lt_of_lt_of_le hk (Nat.le_trans h3 mul1000))
        · have hg : lawMay ps gs (lawSt ps gs tk k) g.gv g.rt = false := hg
          rw [hg, Bool.false_and, if_neg Bool.false_ne_true] at e1
          walk_at "ev"
          exact ⟨_, _, _, _, _, _, _, ⟨rfl, rfl, n6, rfl, rfl, rfl, rfl⟩, by rw [e1]⟩
  · obtain ⟨s4, s5, s6, s7, s8, s9, s10, _, rfl⟩ := i
    walk_at "ev"
    exact q
end K8

-- part PN
set_option Elab.async false
set_option linter.all false
set_option maxRecDepth 100000
set_option maxHeartbeats 2000000
/-! the law's names, plain -/
namespace K8
open PySem PySem.Spec PyProof.Rows L2 GxR GS GA GD DL
def mkS (l : List Nat) : Str := ⟨l.toArray⟩
theorem mkS_len (l : List Nat) : (mkS l).length = l.length := by
  show l.toArray.size = _
  rw [List.size_toArray]
theorem mkS_snoc (l : List Nat) (c : Nat) : mkS l ++ ⟨#[c]⟩ = mkS (l ++ [c]) := by
  show Str.mk (l.toArray ++ [c].toArray) = Str.mk (l ++ [c]).toArray
  rw [List.append_toArray]
theorem mkS_app (l r : List Nat) : mkS l ++ mkS r = mkS (l ++ r) := by
  show Str.mk (l.toArray ++ r.toArray) = Str.mk (l ++ r).toArray
  rw [List.append_toArray]
theorem mkS_inj {l r : List Nat} (h : mkS l = mkS r) : l = r := by
  have : l.toArray = r.toArray := congrArg Str.cps h
  have := congrArg Array.toList this
  simpa using this
theorem cutS_take (l : List Nat) (p : Nat) : cutS (mkS l) none (some (p : Int)) = mkS (l.take p) := by
  unfold cutS mkS
  have e1 : HT.sIx (Str.mk l.toArray).length 0 none = 0 := rfl
  have e2 : HT.sIx (Str.mk l.toArray).length (Str.mk l.toArray).length (some (p : Int)) = min p l.length := by
    have e : (Str.mk l.toArray).length = l.length := List.size_toArray ..
    rw [e]
    show (if (p : Int) < 0 then ((p : Int) + (l.length : Int)).toNat else min (p : Int).toNat l.length) = _
    rw [if_neg (by omega)]
    rfl
  rw [e1, e2]
  show Str.mk (List.take (min p l.length - 0) (List.drop 0 l)).toArray = _
  rw [Nat.sub_zero, List.drop_zero]
  congr 2
  rw [List.take_eq_take_iff]
  omega
theorem cutS_drop (l : List Nat) (p : Nat) : cutS (mkS l) (some (p : Int)) none = mkS (l.drop p) := by
  unfold cutS mkS
  have e : (Str.mk l.toArray).length = l.length := List.size_toArray ..
  have e1 : HT.sIx (Str.mk l.toArray).length 0 (some (p : Int)) = min p l.length := by
    rw [e]
    show (if (p : Int) < 0 then ((p : Int) + (l.length : Int)).toNat else min (p : Int).toNat l.length) = _
    rw [if_neg (by omega)]
    rfl
  have e2 : HT.sIx (Str.mk l.toArray).length (Str.mk l.toArray).length none = l.length := e
  rw [e1, e2]
  show Str.mk (List.take (l.length - min p l.length) (List.drop (min p l.length) l)).toArray = _
  congr 2
  rw [List.take_of_length_le (by rw [List.length_drop]; exact Nat.le_refl _)]
  by_cases h : p ≤ l.length
  · rw [Nat.min_eq_left h]
  · rw [Nat.min_eq_right (by omega), List.drop_of_length_le (by omega), List.drop_of_length_le (by omega)]
/-- the sign at a place, as a law picks it -/
def sg (i : Int) : Nat := signs.cps.toList.getD i.toNat 0
theorem sg_at {i : Int} (h0 : 0 ≤ i) (h1 : i < 36) : signs.cps[i.toNat]? = some (sg i) := by
  have hl : signs.cps.toList.length = 36 := by decide +kernel
  unfold sg
  rw [← Array.getElem?_toList, List.getD_eq_getElem?_getD, List.getElem?_eq_getElem (by omega)]
  rfl
theorem sg_mem {i : Int} (h0 : 0 ≤ i) (h1 : i < 36) : sg i ∈ signs.cps.toList := by
  have := sg_at h0 h1
  rw [← Array.getElem?_toList] at this
  exact List.mem_of_getElem? this
theorem sg_letter {i : Int} (h0 : 0 ≤ i) (h1 : i < 26) : sg i ∈ letters.cps.toList := by
  have h : ∀ k < 26, signs.cps.toList.getD k 0 ∈ letters.cps.toList := by decide +kernel
  exact h i.toNat (by omega)
theorem sg_inj {i j : Int} (h0 : 0 ≤ i) (h1 : i < 36) (h2 : 0 ≤ j) (h3 : j < 36) (h : sg i = sg j) : i = j := by
  have key : ∀ a < 36, ∀ b < 36, signs.cps.toList.getD a 0 = signs.cps.toList.getD b 0 → a = b := by decide +kernel
  have := key i.toNat (by omega) j.toNat (by omega) h
  omega
/-- the number at a place -/
def nu (ns : List Int) (i : Nat) : Int := ns.getD i 0
theorem nu_in9 {ns : List Int} (h : ∀ n ∈ ns, DL.In9 n) (i : Nat) : DL.In9 (nu ns i) := by
  unfold nu
  rw [List.getD_eq_getElem?_getD]
  cases e : ns[i]? with
  | none => exact ⟨by decide, by decide⟩
  | some x => exact h x (List.mem_of_getElem? e)
theorem atn {ns : List Int} {i : Int} {j : Nat} (e : i = (j : Int)) (h : j < ns.length) : atI (ns.map D.int) i = some (.int (nu ns j)) := at_ix (k := j) e (by
  unfold nu
  rw [List.getD_eq_getElem?_getD, List.getElem?_eq_getElem h]
  rfl)
theorem signs_at {i : Int} (h0 : 0 ≤ i) (h1 : i < 36) : atI signs.cps.toList i = some (sg i) := by
  have e : i = ((i.toNat : Nat) : Int) := by omega
  rw [e]
  refine atI_nat ?_
  have := sg_at h0 h1
  rw [← Array.getElem?_toList] at this
  rw [this]
  rw [← e]
theorem sum_one (l : List Nat) : ((l.map fun c => mkS [c]).map (·.length)).sum = l.length := by
  induction l with
  | nil => rfl
  | cons c r ih =>
    rw [List.map_cons, List.map_cons, List.sum_cons, ih, List.length_cons]
    show 1 + _ = _
    omega
theorem joinL_ch : ∀ l : List Nat, TL.joinL [] (l.map fun c => [c]) = l
  | [] => rfl
  | [c] => rfl
  | c :: d :: r => by
    show [c] ++ ([] ++ TL.joinL [] ((d :: r).map fun c => [c])) = _
    rw [joinL_ch (d :: r)]
    rfl
theorem join_ch (l : List Nat) : Txt.join "" (l.map fun c => mkS [c]) = mkS l := by
  refine TL.ext_tl ?_
  rw [TL.join_eq, TL.tl_join, List.map_map]
  have e : (List.map (TL.tl ∘ fun c => mkS [c]) l) = l.map fun c => [c] := List.map_congr_left fun c _ => rfl
  have e2 : TL.tl ("" : Str) = [] := by decide +kernel
  rw [e, e2, joinL_ch]
  rfl
theorem mkS_cons (c : Nat) (l : List Nat) : (⟨#[c]⟩ : Str) ++ mkS l = mkS (c :: l) := by
  show Str.mk ([c].toArray ++ l.toArray) = Str.mk (c :: l).toArray
  rw [List.append_toArray]
  rfl
theorem m36 (x : Int) : 0 ≤ x % 36 ∧ x % 36 < 36 := ⟨Int.emod_nonneg _ (by decide), Int.emod_lt_of_pos _ (by decide)⟩

def nmR (n : Int) : List Nat := (List.range (n % 11).toNat).map fun k : Nat => sg ((n + 7 * (k : Int) * (k : Int)) % 36)
def nmO (n : Int) (k : Nat) : List Nat := if (n / 121 + (k : Int)) % 3 = 0 then (nmR n).drop 1 else nmR n
def nmP (n : Int) (k : Nat) : Nat := min (n / 11 % (n % 11 + 1)).toNat (nmO n k).length
def nmS (n : Int) : Int := if n / 363 % 2 = 1 then 31 else 5
def nmL (n : Int) (k : Nat) : List Nat := sg ((n + 3 * (k : Int)) % 26) :: ((nmO n k).take (nmP n k) ++ (sg ((n + nmS n * (k : Int)) % 36) :: (nmO n k).drop (nmP n k)))
def lawNames (n : Int) (m : Nat) : List Str := (List.range m).map fun k => mkS (nmL n k)
theorem nmR_len {n : Int} : (nmR n).length ≤ 10 := by
  unfold nmR
  rw [List.length_map, List.length_range]
  have := Int.emod_lt_of_pos n (b := 11) (by decide)
  omega
theorem nmO_len {n : Int} {k : Nat} : (nmO n k).length ≤ 10 := by
  unfold nmO
  split
  · rw [List.length_drop]; have := nmR_len (n := n); omega
  · exact nmR_len
end K8

-- part NE
set_option Elab.async false
set_option linter.all false
set_option maxRecDepth 100000
set_option maxHeartbeats 2000000
namespace K8
open PySem PySem.Spec PyProof.Rows L2 GxR GS GA GD DL
local macro_rules | `(tactic| walk_at "ev") => `(tactic| simp (dsimp := false) only [em_uu, em_ui, em_ii, em_iu, pairs_om', pairs_om, zip_self, dRaise0_ev, lk0, lk1, lk2, fg_giver, fg_receiver, fg_right, fg_may_pass, slD_gr, slFr_gr, Option.map_none, Option.map_some, Option.isSome_none, Option.isSome_some, lg_owners, lg_owner_of, lg_grants, lg_removed, lg_standing, lg_gput, lg_rput, lg_sput, val_om, finS_nil, finS_cons, keep1_ob, keep1_va, keep1_rl, keep1_ro, getD_0, getD_s, bK_rl, bK_od, bK_rd, vK_od, slD_va, slD_ow, slFr_va, slFr_ow, slFr_od, slOf_frd, dxE_ev, dCallL_ev, dCallV_ev, resF_va, resF_ow, dMvX_ev, dForO_ev, dSetX_ev, dDropX_ev, dRetX_ev, obRd_ob, obRd_ro, obWr_ob, obNm_ob, obNm_ro, obW_ob, obR_ob, obR_ro, fdRd_va, fdRd_ow, fdRd_od, fdRd_tq, lwK_ow, fdOf_va, fdOf_ow, fdOf_od, resK_va, resK_ow, ntl_va, ntl_ow, ntl_ob, ntl_no, dOF_ev, dOS_ev, dOTq_ev, tlK_l, dOApp_ev, dDictF_ev, tqK_q, dDIn_t, dDIn_f, dinK_d, dDGet_ev, dgetK_d, keyD_s, keyD_i, dClr_ev, dMethX_ev, dMethR_ev, dMethX0_ev, dMethR0_ev, dMethK_ev, dPropR_ev, dCallX_ev, dCallR_ev, dMakeX_ev, dMakeD_ev, dLend_ev, lendK_ob, lendK_ro, dLcP_ev, dGenP_ev, dTryM_ev, hxK_nil, hxK_as, hxK_as0, hxK_on, cutN_rt, cutN_nx, gLenA_d, gLenA_l, gLenA_t, gLenA_s, k0, k1, k2, k3, iK_true, iK_false, iK_not, sl_0, sl_s, vK_va, vK_ow, bK_va, bK_ow, dVar_ev, dVarB_ev, dC_ev, dBin_ev, tK_bl, dTst_ev, dAnd_ev, dOr_ev, dNot_ev, dAndV_ev, dOrV_ev, dNotV_ev, dIf_ev, dNext_ev, dSeq_st, kS_e, dBreak_ev, dCont_ev, dRet_ev, dRetN_ev, dIfS_ev, dSet_ev, dDrop_ev, slOf_fr, slOf_sh, gAdd_i, gAdd_s, gAdd_l, gAdd_t, num_i, gEq_i, gEq_s, gEq_b, gEq_sn, gEq_ns, gEq_in, gEq_ni, gEq_nn, gEq_is, gEq_si, gNe_i, gNe_s, gNe_b, gNe_sn, gNe_ns, gNe_in, gNe_ni, gNe_nn, gEq_l, gEq_t, gNe_l, gNe_t,
    gIsN_n, gIsN_s, gIsN_i, gIsN_l, gIsN_t, gNotN_n, gNotN_s, gNotN_i, gNotN_l, gNotN_t, gIn_l, gIn_t, gNin_l, gNin_t, flD_s, flD_i, flD_n, flD_str, flD_int, has_strs, gRep_l, diRng2_ev, rK2_i, dStE_ev, iKx_i, gIx_l, gIx_t, gIx_s, DL.at0, at1, at2, at3, at4, at5, dNoPart_ev, pK_i, dPart_ev, sK_l, sK_r, sK_t, sK_s, dSl_ev, dNil_ev, dCons_ev, dConsW_ev, itsD_l, itsD_t, dStar_ev, dLst_ev, dTup_ev, dBlt_ev, gLen_l, gLen_t, gLen_r, gLen_s, gInt_i, gInt_b, gAbs_i, gMax_i, gMin_i, gTuple_l, gTuple_t, gList_l, gList_t, oW_ow, owAt_ev, decide_true, decide_false, Bool.not_true, Bool.not_false, gRepr_1, dStarT_ev, dRepl_ev, dTryAs0_ev, dTryOn_ev, dIsx0_ev, xnK_x, dIdx_ev, liK_l, has_two, stK_l, gTimes_s, zK_s, dSplit_ev, dJoin_ev, dInTab_ev, dIxTab_ev, gInD_l, gInS_s, gNinS_s, chK_b, dChn_ev, is_tt, is_ll, is_tn, is_bn, dTryAs_ev, dXf_ev, dIsx_ev, xK_x, dRaise1_ev, dIsi_ev, is_ss, is_sl, is_st, is_bb, dProp_ev, prK_i, xc_c, xc_a, dApp_ev, dStI_ev, wK_sh, wK_fr, wK_bo, wK_t, wK_r, wK_s, diVal_ev, rK_i, diRng_ev, eK_sh, eK_fr, eK_bo, diEnum_ev, dgName_ev, dgNil_ev, dgCons_ev, dgTup_ev, dAsg_ev, dFor_ev, dWhile_ev, dLc_ev, dGen_ev, dCall_ev, mK_i, dMeth_ev, fK_i, dFld_ev, nK_i, dNeg_ev, dYes_ev, oK_some, List.length_map, rng_len, Int.toNat_natCast,
    List.map_cons, List.map_nil, List.length_cons, List.length_nil, List.length_set, List.replicate_succ, List.replicate_zero, List.nil_append, List.cons_append, List.set_cons_zero, List.set_cons_succ, Nat.reduceAdd, Nat.reduceSub, ne_eq, reduceCtorEq, not_false_eq_true, not_true_eq_false, true_and, and_true, Nat.reduceLT, Nat.reduceLeDiff, Nat.zero_le, Bool.false_eq_true])
local macro_rules | `(tactic| walk_at "st") => `(tactic| simp (dsimp := false) only [em_uu, em_ui, em_ii, em_iu, pairs_om', pairs_om, zip_self, dRaise0_ev, lk0, lk1, lk2, fg_giver, fg_receiver, fg_right, fg_may_pass, slD_gr, slFr_gr, Option.map_none, Option.map_some, Option.isSome_none, Option.isSome_some, lg_owners, lg_owner_of, lg_grants, lg_removed, lg_standing, lg_gput, lg_rput, lg_sput, val_om, finS_nil, finS_cons, keep1_ob, keep1_va, keep1_rl, keep1_ro, getD_0, getD_s, bK_rl, bK_od, bK_rd, vK_od, slD_va, slD_ow, slFr_va, slFr_ow, slFr_od, slOf_frd, dxE_ev, dCallL_ev, dCallV_ev, resF_va, resF_ow, dMvX_ev, dForO_ev, dSetX_ev, dDropX_ev, dRetX_ev, obRd_ob, obRd_ro, obWr_ob, obNm_ob, obNm_ro, obW_ob, obR_ob, obR_ro, fdRd_va, fdRd_ow, fdRd_od, fdRd_tq, lwK_ow, fdOf_va, fdOf_ow, fdOf_od, resK_va, resK_ow, ntl_va, ntl_ow, ntl_ob, ntl_no, dOF_ev, dOS_ev, dOTq_ev, tlK_l, dOApp_ev, dDictF_ev, tqK_q, dDIn_t, dDIn_f, dinK_d, dDGet_ev, dgetK_d, keyD_s, keyD_i, dClr_ev, dMethX_ev, dMethR_ev, dMethX0_ev, dMethR0_ev, dMethK_ev, dPropR_ev, dCallX_ev, dCallR_ev, dMakeX_ev, dMakeD_ev, dLend_ev, lendK_ob, lendK_ro, dLcP_ev, dGenP_ev, dTryM_ev, hxK_nil, hxK_as, hxK_as0, hxK_on, cutN_rt, cutN_nx, gLenA_d, gLenA_l, gLenA_t, gLenA_s, k0, k1, k2, k3, iK_true, iK_false, iK_not, sl_0, sl_s, vK_va, vK_ow, bK_va, bK_ow, dVar_ev, dVarB_ev, dC_ev, dBin_ev, tK_bl, dTst_ev, dAnd_ev, dOr_ev, dNot_ev, dAndV_ev, dOrV_ev, dNotV_ev, dIf_ev, dNext_ev, dSeq_st, kS_e, dBreak_ev, dCont_ev, dRet_ev, dRetN_ev, dSet_ev, dDrop_ev, slOf_fr, slOf_sh, gAdd_i, gAdd_s, gAdd_l, gAdd_t, num_i, gEq_i, gEq_s, gEq_b, gEq_sn, gEq_ns, gEq_in, gEq_ni, gEq_nn, gEq_is, gEq_si, gNe_i, gNe_s, gNe_b, gNe_sn, gNe_ns, gNe_in, gNe_ni, gNe_nn, gEq_l, gEq_t, gNe_l, gNe_t,
    gIsN_n, gIsN_s, gIsN_i, gIsN_l, gIsN_t, gNotN_n, gNotN_s, gNotN_i, gNotN_l, gNotN_t, gIn_l, gIn_t, gNin_l, gNin_t, flD_s, flD_i, flD_n, flD_str, flD_int, has_strs, gRep_l, diRng2_ev, rK2_i, dStE_ev, iKx_i, gIx_l, gIx_t, gIx_s, DL.at0, at1, at2, at3, at4, at5, dNoPart_ev, pK_i, dPart_ev, sK_l, sK_r, sK_t, sK_s, dSl_ev, dNil_ev, dCons_ev, dConsW_ev, itsD_l, itsD_t, dStar_ev, dLst_ev, dTup_ev, dBlt_ev, gLen_l, gLen_t, gLen_r, gLen_s, gInt_i, gInt_b, gAbs_i, gMax_i, gMin_i, gTuple_l, gTuple_t, gList_l, gList_t, oW_ow, owAt_ev, decide_true, decide_false, Bool.not_true, Bool.not_false, gRepr_1, dStarT_ev, dRepl_ev, dTryAs0_ev, dTryOn_ev, dIsx0_ev, xnK_x, dIdx_ev, liK_l, has_two, stK_l, gTimes_s, zK_s, dSplit_ev, dJoin_ev, dInTab_ev, dIxTab_ev, gInD_l, gInS_s, gNinS_s, chK_b, dChn_ev, is_tt, is_ll, is_tn, is_bn, dTryAs_ev, dXf_ev, dIsx_ev, xK_x, dRaise1_ev, dIsi_ev, is_ss, is_sl, is_st, is_bb, dProp_ev, prK_i, xc_c, xc_a, dApp_ev, dStI_ev, wK_sh, wK_fr, wK_bo, wK_t, wK_r, wK_s, diVal_ev, rK_i, diRng_ev, eK_sh, eK_fr, eK_bo, diEnum_ev, dgName_ev, dgNil_ev, dgCons_ev, dgTup_ev, dAsg_ev, dFor_ev, dWhile_ev, dLc_ev, dGen_ev, dCall_ev, mK_i, dMeth_ev, fK_i, dFld_ev, nK_i, dNeg_ev, dYes_ev, oK_some, List.length_map, rng_len, Int.toNat_natCast,
    List.map_cons, List.map_nil, List.length_cons, List.length_nil, List.length_set, List.replicate_succ, List.replicate_zero, List.nil_append, List.cons_append, List.set_cons_zero, List.set_cons_succ, Nat.reduceAdd, Nat.reduceSub, ne_eq, reduceCtorEq, not_false_eq_true, not_true_eq_false, true_and, and_true, Nat.reduceLT, Nat.reduceLeDiff, Nat.zero_le, Bool.false_eq_true])
theorem n10 {n : Int} (hn : DL.In9 n) : n.natAbs.log2 ≤ 10 := log2_small hn.1 (by have := hn.2; show _ < (2 : Int) ^ 10; omega)
abbrev N_law_names : List Str := ["number", "many", "letters", "size", "rest", "place", "names", "k", "own", "spot", "step"]
def r_law_names : DS :=
  (dSeq (dSet 2 (dC (.str "abcdefghijklmnopqrstuvwxyz0123456789")))
  (dSeq (dSet 3 (dBin gMod (dBlt gInt (dConsW (dVarB 0) dNil)) (dC (.int 11))))
  (dSeq (dSet 4 (dJoin (dC (.str "")) (dLc (diRng (dConsW (dVarB 3) dNil)) 7 dYes (dBin gIx (dVarB 2) (dBin gMod (dBlt gInt (dConsW (dBin gAdd (dVarB 0) (dBin gMul (dBin gMul (dC (.int 7)) (dVarB 7)) (dVarB 7))) dNil)) (dC (.int 36)))))))
  (dSeq (dSet 5 (dBin gMod (dBlt gInt (dConsW (dBin gDiv (dVarB 0) (dC (.int 11))) dNil)) (dBin gAdd (dVarB 3) (dC (.int 1)))))
  (dSeq (dSet 6 (dLst dNil))
  (dSeq (dFor (diRng (dConsW (dVarB 1) dNil)) (dgName 7) (dSeq (dSet 8 (dVar 4))
  (dSeq (dIfS (dTst (dBin gEq (dBin gMod (dBlt gInt (dConsW (dBin gAdd (dBin gDiv (dVarB 0) (dC (.int 121))) (dVarB 7)) dNil)) (dC (.int 3))) (dC (.int 0)))) (dSet 8 (dSl (dVarB 4) (dPart (dC (.int 1))) dNoPart)) dNext)
  (dSeq (dSet 9 (dBlt gMin (dConsW (dVarB 5) (dConsW (dBlt gLenA (dConsW (dVarB 8) dNil)) dNil))))
  (dSeq (dSet 10 (dC (.int 5)))
  (dSeq (dIfS (dTst (dBin gEq (dBin gMod (dBlt gInt (dConsW (dBin gDiv (dVarB 0) (dC (.int 363))) dNil)) (dC (.int 2))) (dC (.int 1)))) (dSet 10 (dC (.int 31))) dNext)
  (dApp 6 (dBin gAdd (dBin gAdd (dBin gAdd (dBin gIx (dVarB 2) (dBin gMod (dBlt gInt (dConsW (dBin gAdd (dVarB 0) (dBin gMul (dC (.int 3)) (dVarB 7))) dNil)) (dC (.int 26)))) (dSl (dVarB 8) dNoPart (dPart (dVarB 9)))) (dBin gIx (dVarB 2) (dBin gMod (dBlt gInt (dConsW (dBin gAdd (dVarB 0) (dBin gMul (dVarB 10) (dVarB 7))) dNil)) (dC (.int 36))))) (dSl (dVarB 8) (dPart (dVarB 9)) dNoPart)))))))))
  (dRet (dVar 6))))))))
/- theorem M_law_names : MD r_law_names 2 11 ph_law_names := fun ds Qd Xd h hl => by -/
def ph__law_names : Ph := fun ds Qd _ => ∃ (n : Int) (m : Nat), ds = [.int n, .int (m : Int)] ∧ DL.In9 n ∧ m ≤ 12 ∧ Qd (.lst ((lawNames n m).map .str))
theorem M_law_names : MD r_law_names 2 11 ph__law_names := fun ds Qd Xd h hl => by
  obtain ⟨n, m, rfl, hn, hm, q⟩ := h
  unfold r_law_names
  have z11 : 0 ≤ n % 11 ∧ n % 11 < 11 := ⟨Int.emod_nonneg _ (by decide), Int.emod_lt_of_pos _ (by decide)⟩
  walk_at "st"
  refine ⟨by decide, by omega, by omega, lcK.rng (fun k => .str (mkS [sg ((n + 7 * (k : Int) * (k : Int)) % 36)])) (by unfold sizeLine; omega) (fun k lt => ?_) ?_⟩
  · have k11 : k < 11 := by omega
    walk_at "ev"
    have h1 := log2_small (i := (k : Int)) (b := 4) (by omega) (by show _ < (2 : Int) ^ 4; omega)
    have h3 := log2_small (i := 7 * (k : Int)) (b := 7) (by omega) (by show _ < (2 : Int) ^ 7; omega)
    refine ⟨?_, ?_, by decide, by decide, oK.mk (signs_at (m36 _).1 (m36 _).2) ?_⟩
    · show (7 : Nat).log2 + _ < _
      have : (7 : Nat).log2 = 2 := by decide
      omega
    · show _ + _ < _
      omega
    · walk_at "ev"
      rfl
  · walk_at "st"
    have e1 : ((List.range (n % 11).toNat).map fun k : Nat => D.str (mkS [sg ((n + 7 * (k : Int) * (k : Int)) % 36)])) = ((nmR n).map fun c => mkS [c]).map D.str := by
      unfold nmR
      rw [List.map_map, List.map_map]
      rfl
    have lr := nmR_len (n := n)
    rw [e1]
    refine ysK.mk _ ?_
    refine ⟨by rw [sum_one, List.length_map]; show _ + _ * 0 ≤ _; omega, ?_⟩
    rw [join_ch]
    walk_at "st"
    have hs : 0 < n % 11 + 1 := by omega
    refine ⟨⟨by decide, by decide⟩, hs, by omega, by omega, forK.rng (fun k ρ => ∃ s7 s8 s9 s10, ρ = [.va (.int n), .va (.int (m : Int)), .va (.str "abcdefghijklmnopqrstuvwxyz0123456789"), .va (.int (n % 11)), .va (.str (mkS (nmR n))), .va (.int (n / 11 % (n % 11 + 1))), .ow ((lawNames n k).map .str), s7, s8, s9, s10]) ⟨.no, .no, .no, .no, rfl⟩ (fun k ρ' hk i => ?_) (fun ρ' i => ?_)⟩
    · obtain ⟨s7, s8, s9, s10, rfl⟩ := i
      walk_at "st"
      refine ifJ (decide ((n / 121 + (k : Int)) % 3 = 0)) (fun ρ => ∃ s9 s10, ρ = [.va (.int n), .va (.int (m : Int)), .va (.str "abcdefghijklmnopqrstuvwxyz0123456789"), .va (.int (n % 11)), .va (.str (mkS (nmR n))), .va (.int (n / 11 % (n % 11 + 1))), .ow ((lawNames n k).map .str), .va (.int (k : Int)), .va (.str (mkS (nmO n k))), s9, s10]) (fun R r => ?_) (fun c J b => ?_) (fun c J b => ?_) ?_
      · walk_at "ev"
        exact ⟨⟨by decide, by decide⟩, by decide, r⟩
      · walk_at "ev"
        rw [show cutS (mkS (nmR n)) (some 1) none = mkS ((nmR n).drop 1) from cutS_drop (nmR n) 1]
        refine ⟨by rw [mkS_len]; unfold sizeLine; omega, J _ ⟨s9, s10, ?_⟩⟩
        unfold nmO
        rw [if_pos (of_decide_eq_true b)]
      · walk_at "ev"
        refine J _ ⟨s9, s10, ?_⟩
        unfold nmO
        rw [if_neg (of_decide_eq_false b)]
      · rintro ρ' ⟨t9, t10, rfl⟩
        have lo := nmO_len (n := n) (k := k)
        walk_at "st"
        refine ⟨by rw [mkS_len]; unfold sizeLine; omega, ?_⟩
        have hp : 0 ≤ n / 11 % (n % 11 + 1) := Int.emod_nonneg _ (by omega)
        have eP : (if (((mkS (nmO n k)).length : Nat) : Int) < n / 11 % (n % 11 + 1) then (((mkS (nmO n k)).length : Nat) : Int) else n / 11 % (n % 11 + 1)) = ((nmP n k : Nat) : Int) := by
          rw [mkS_len]
          unfold nmP
          generalize n / 11 % (n % 11 + 1) = y at hp ⊢
          split <;> omega
        refine ifJ (decide (n / 363 % 2 = 1)) (fun ρ => ρ = [.va (.int n), .va (.int (m : Int)), .va (.str "abcdefghijklmnopqrstuvwxyz0123456789"), .va (.int (n % 11)), .va (.str (mkS (nmR n))), .va (.int (n / 11 % (n % 11 + 1))), .ow ((lawNames n k).map .str), .va (.int (k : Int)), .va (.str (mkS (nmO n k))), .va (.int ((nmP n k : Nat) : Int)), .va (.int (nmS n))]) (fun R r => ?_) (fun c J b => ?_) (fun c J b => ?_) ?_
        · walk_at "ev"
          exact ⟨⟨by decide, by decide⟩, by decide, r⟩
        · walk_at "ev"
          refine J _ ?_
          unfold nmS
          rw [if_pos (of_decide_eq_true b), eP]
        · walk_at "ev"
          refine J _ ?_
          unfold nmS
          rw [if_neg (of_decide_eq_false b), eP]
        · rintro ρ' rfl
          walk_at "ev"
          have hS : 0 ≤ nmS n ∧ nmS n < 32 := by unfold nmS; split <;> omega
          have m26 : 0 ≤ (n + 3 * (k : Int)) % 26 ∧ (n + 3 * (k : Int)) % 26 < 36 := ⟨Int.emod_nonneg _ (by decide), by have := Int.emod_lt_of_pos (n + 3 * (k : Int)) (b := 26) (by decide); omega⟩
          have l1 := log2_small (i := (k : Int)) (b := 4) (by omega) (by show _ < (2 : Int) ^ 4; omega)
          have l2 := log2_small (i := nmS n) (b := 5) hS.1 (by show _ < (2 : Int) ^ 5; omega)
          refine ⟨?_, by decide, by decide, oK.mk (signs_at m26.1 m26.2) ?_⟩
          · show (3 : Nat).log2 + _ < _
            have : (3 : Nat).log2 = 1 := by decide
            omega
          walk_at "ev"
          have zl : (mkS (nmO n k)).length ≤ sizeLine := by rw [mkS_len]; unfold sizeLine; omega
          rw [cutS_take, mkS_cons, mkS_len]
          refine ⟨zl, ?_, ?_, by decide, by decide, oK.mk (signs_at (m36 _).1 (m36 _).2) ?_⟩
          · show 1 + _ ≤ _
            rw [mkS_len, List.length_take]
            unfold sizeLine
            omega
          · show _ + _ < _
            omega
          walk_at "ev"
          rw [cutS_drop, mkS_snoc, mkS_app]
          have ll : (lawNames n k).length = k := by unfold lawNames; rw [List.length_map, List.length_range]
          have es : lawNames n (k + 1) = lawNames n k ++ [mkS (nmL n k)] := by
            unfold lawNames
            rw [List.range_succ, List.map_append]
            rfl
          have el : sg ((n + 3 * (k : Int)) % 26) :: (nmO n k).take (nmP n k) ++ [sg ((n + nmS n * (k : Int)) % 36)] ++ (nmO n k).drop (nmP n k) = nmL n k := by
            unfold nmL
            rw [List.append_assoc]
            rfl
          refine ⟨?_, zl, ?_, by rw [ll]; unfold sizeLine; omega, _, _, _, _, by rw [el, es, List.map_append]; rfl⟩
          · rw [mkS_len, List.length_cons, List.length_take]
            show _ + 1 ≤ _
            unfold sizeLine
            omega
          · rw [mkS_len, mkS_len, List.length_append, List.length_cons, List.length_take, List.length_drop]
            show _ + 1 + _ ≤ _
            unfold sizeLine
            omega
    · obtain ⟨s7, s8, s9, s10, rfl⟩ := i
      walk_at "ev"
      exact q
end K8

-- part NO
set_option Elab.async false
set_option linter.all false
set_option maxRecDepth 100000
set_option maxHeartbeats 2000000
namespace K8
open PySem PySem.Spec PyProof.Rows L2 GxR GS GA GD DL
local macro_rules | `(tactic| walk_at "ev") => `(tactic| simp (dsimp := false) only [em_uu, em_ui, em_ii, em_iu, pairs_om', pairs_om, zip_self, dRaise0_ev, lk0, lk1, lk2, fg_giver, fg_receiver, fg_right, fg_may_pass, slD_gr, slFr_gr, Option.map_none, Option.map_some, Option.isSome_none, Option.isSome_some, lg_owners, lg_owner_of, lg_grants, lg_removed, lg_standing, lg_gput, lg_rput, lg_sput, val_om, finS_nil, finS_cons, keep1_ob, keep1_va, keep1_rl, keep1_ro, getD_0, getD_s, bK_rl, bK_od, bK_rd, vK_od, slD_va, slD_ow, slFr_va, slFr_ow, slFr_od, slOf_frd, dxE_ev, dCallL_ev, dCallV_ev, resF_va, resF_ow, dMvX_ev, dForO_ev, dSetX_ev, dDropX_ev, dRetX_ev, obRd_ob, obRd_ro, obWr_ob, obNm_ob, obNm_ro, obW_ob, obR_ob, obR_ro, fdRd_va, fdRd_ow, fdRd_od, fdRd_tq, lwK_ow, fdOf_va, fdOf_ow, fdOf_od, resK_va, resK_ow, ntl_va, ntl_ow, ntl_ob, ntl_no, dOF_ev, dOS_ev, dOTq_ev, tlK_l, dOApp_ev, dDictF_ev, tqK_q, dDIn_t, dDIn_f, dinK_d, dDGet_ev, dgetK_d, keyD_s, keyD_i, dClr_ev, dMethX_ev, dMethR_ev, dMethX0_ev, dMethR0_ev, dMethK_ev, dPropR_ev, dCallX_ev, dCallR_ev, dMakeX_ev, dMakeD_ev, dLend_ev, lendK_ob, lendK_ro, dLcP_ev, dGenP_ev, dTryM_ev, hxK_nil, hxK_as, hxK_as0, hxK_on, cutN_rt, cutN_nx, gLenA_d, gLenA_l, gLenA_t, gLenA_s, k0, k1, k2, k3, iK_true, iK_false, iK_not, sl_0, sl_s, vK_va, vK_ow, bK_va, bK_ow, dVar_ev, dVarB_ev, dC_ev, dBin_ev, tK_bl, dTst_ev, dAnd_ev, dOr_ev, dNot_ev, dAndV_ev, dOrV_ev, dNotV_ev, dIf_ev, dNext_ev, dSeq_st, kS_e, dBreak_ev, dCont_ev, dRet_ev, dRetN_ev, dIfS_ev, dSet_ev, dDrop_ev, slOf_fr, slOf_sh, gAdd_i, gAdd_s, gAdd_l, gAdd_t, num_i, gEq_i, gEq_s, gEq_b, gEq_sn, gEq_ns, gEq_in, gEq_ni, gEq_nn, gEq_is, gEq_si, gNe_i, gNe_s, gNe_b, gNe_sn, gNe_ns, gNe_in, gNe_ni, gNe_nn, gEq_l, gEq_t, gNe_l, gNe_t,
    gIsN_n, gIsN_s, gIsN_i, gIsN_l, gIsN_t, gNotN_n, gNotN_s, gNotN_i, gNotN_l, gNotN_t, gIn_l, gIn_t, gNin_l, gNin_t, flD_s, flD_i, flD_n, flD_str, flD_int, has_strs, gRep_l, diRng2_ev, rK2_i, dStE_ev, iKx_i, gIx_l, gIx_t, gIx_s, DL.at0, at1, at2, at3, at4, at5, dNoPart_ev, pK_i, dPart_ev, sK_l, sK_r, sK_t, sK_s, dSl_ev, dNil_ev, dCons_ev, dConsW_ev, itsD_l, itsD_t, dStar_ev, dLst_ev, dTup_ev, dBlt_ev, gLen_l, gLen_t, gLen_r, gLen_s, gInt_i, gInt_b, gAbs_i, gMax_i, gMin_i, gTuple_l, gTuple_t, gList_l, gList_t, oW_ow, owAt_ev, decide_true, decide_false, Bool.not_true, Bool.not_false, gRepr_1, dStarT_ev, dRepl_ev, dTryAs0_ev, dTryOn_ev, dIsx0_ev, xnK_x, dIdx_ev, liK_l, has_two, stK_l, gTimes_s, zK_s, dSplit_ev, dJoin_ev, dInTab_ev, dIxTab_ev, gInD_l, gInS_s, gNinS_s, chK_b, dChn_ev, is_tt, is_ll, is_tn, is_bn, dTryAs_ev, dXf_ev, dIsx_ev, xK_x, dRaise1_ev, dIsi_ev, is_ss, is_sl, is_st, is_bb, dProp_ev, prK_i, xc_c, xc_a, dApp_ev, dStI_ev, wK_sh, wK_fr, wK_bo, wK_t, wK_r, wK_s, diVal_ev, rK_i, diRng_ev, eK_sh, eK_fr, eK_bo, diEnum_ev, dgName_ev, dgNil_ev, dgCons_ev, dgTup_ev, dAsg_ev, dFor_ev, dWhile_ev, dLc_ev, dGen_ev, dCall_ev, mK_i, dMeth_ev, fK_i, dFld_ev, nK_i, dNeg_ev, dYes_ev, oK_some, List.length_map, rng_len, Int.toNat_natCast,
    List.map_cons, List.map_nil, List.length_cons, List.length_nil, List.length_set, List.replicate_succ, List.replicate_zero, List.nil_append, List.cons_append, List.set_cons_zero, List.set_cons_succ, Nat.reduceAdd, Nat.reduceSub, ne_eq, reduceCtorEq, not_false_eq_true, not_true_eq_false, true_and, and_true, Nat.reduceLT, Nat.reduceLeDiff, Nat.zero_le, Bool.false_eq_true])
local macro_rules | `(tactic| walk_at "st") => `(tactic| simp (dsimp := false) only [em_uu, em_ui, em_ii, em_iu, pairs_om', pairs_om, zip_self, dRaise0_ev, lk0, lk1, lk2, fg_giver, fg_receiver, fg_right, fg_may_pass, slD_gr, slFr_gr, Option.map_none, Option.map_some, Option.isSome_none, Option.isSome_some, lg_owners, lg_owner_of, lg_grants, lg_removed, lg_standing, lg_gput, lg_rput, lg_sput, val_om, finS_nil, finS_cons, keep1_ob, keep1_va, keep1_rl, keep1_ro, getD_0, getD_s, bK_rl, bK_od, bK_rd, vK_od, slD_va, slD_ow, slFr_va, slFr_ow, slFr_od, slOf_frd, dxE_ev, dCallL_ev, dCallV_ev, resF_va, resF_ow, dMvX_ev, dForO_ev, dSetX_ev, dDropX_ev, dRetX_ev, obRd_ob, obRd_ro, obWr_ob, obNm_ob, obNm_ro, obW_ob, obR_ob, obR_ro, fdRd_va, fdRd_ow, fdRd_od, fdRd_tq, lwK_ow, fdOf_va, fdOf_ow, fdOf_od, resK_va, resK_ow, ntl_va, ntl_ow, ntl_ob, ntl_no, dOF_ev, dOS_ev, dOTq_ev, tlK_l, dOApp_ev, dDictF_ev, tqK_q, dDIn_t, dDIn_f, dinK_d, dDGet_ev, dgetK_d, keyD_s, keyD_i, dClr_ev, dMethX_ev, dMethR_ev, dMethX0_ev, dMethR0_ev, dMethK_ev, dPropR_ev, dCallX_ev, dCallR_ev, dMakeX_ev, dMakeD_ev, dLend_ev, lendK_ob, lendK_ro, dLcP_ev, dGenP_ev, dTryM_ev, hxK_nil, hxK_as, hxK_as0, hxK_on, cutN_rt, cutN_nx, gLenA_d, gLenA_l, gLenA_t, gLenA_s, k0, k1, k2, k3, iK_true, iK_false, iK_not, sl_0, sl_s, vK_va, vK_ow, bK_va, bK_ow, dVar_ev, dVarB_ev, dC_ev, dBin_ev, tK_bl, dTst_ev, dAnd_ev, dOr_ev, dNot_ev, dAndV_ev, dOrV_ev, dNotV_ev, dIf_ev, dNext_ev, dSeq_st, kS_e, dBreak_ev, dCont_ev, dRet_ev, dRetN_ev, dSet_ev, dDrop_ev, slOf_fr, slOf_sh, gAdd_i, gAdd_s, gAdd_l, gAdd_t, num_i, gEq_i, gEq_s, gEq_b, gEq_sn, gEq_ns, gEq_in, gEq_ni, gEq_nn, gEq_is, gEq_si, gNe_i, gNe_s, gNe_b, gNe_sn, gNe_ns, gNe_in, gNe_ni, gNe_nn, gEq_l, gEq_t, gNe_l, gNe_t,
    gIsN_n, gIsN_s, gIsN_i, gIsN_l, gIsN_t, gNotN_n, gNotN_s, gNotN_i, gNotN_l, gNotN_t, gIn_l, gIn_t, gNin_l, gNin_t, flD_s, flD_i, flD_n, flD_str, flD_int, has_strs, gRep_l, diRng2_ev, rK2_i, dStE_ev, iKx_i, gIx_l, gIx_t, gIx_s, DL.at0, at1, at2, at3, at4, at5, dNoPart_ev, pK_i, dPart_ev, sK_l, sK_r, sK_t, sK_s, dSl_ev, dNil_ev, dCons_ev, dConsW_ev, itsD_l, itsD_t, dStar_ev, dLst_ev, dTup_ev, dBlt_ev, gLen_l, gLen_t, gLen_r, gLen_s, gInt_i, gInt_b, gAbs_i, gMax_i, gMin_i, gTuple_l, gTuple_t, gList_l, gList_t, oW_ow, owAt_ev, decide_true, decide_false, Bool.not_true, Bool.not_false, gRepr_1, dStarT_ev, dRepl_ev, dTryAs0_ev, dTryOn_ev, dIsx0_ev, xnK_x, dIdx_ev, liK_l, has_two, stK_l, gTimes_s, zK_s, dSplit_ev, dJoin_ev, dInTab_ev, dIxTab_ev, gInD_l, gInS_s, gNinS_s, chK_b, dChn_ev, is_tt, is_ll, is_tn, is_bn, dTryAs_ev, dXf_ev, dIsx_ev, xK_x, dRaise1_ev, dIsi_ev, is_ss, is_sl, is_st, is_bb, dProp_ev, prK_i, xc_c, xc_a, dApp_ev, dStI_ev, wK_sh, wK_fr, wK_bo, wK_t, wK_r, wK_s, diVal_ev, rK_i, diRng_ev, eK_sh, eK_fr, eK_bo, diEnum_ev, dgName_ev, dgNil_ev, dgCons_ev, dgTup_ev, dAsg_ev, dFor_ev, dWhile_ev, dLc_ev, dGen_ev, dCall_ev, mK_i, dMeth_ev, fK_i, dFld_ev, nK_i, dNeg_ev, dYes_ev, oK_some, List.length_map, rng_len, Int.toNat_natCast,
    List.map_cons, List.map_nil, List.length_cons, List.length_nil, List.length_set, List.replicate_succ, List.replicate_zero, List.nil_append, List.cons_append, List.set_cons_zero, List.set_cons_succ, Nat.reduceAdd, Nat.reduceSub, ne_eq, reduceCtorEq, not_false_eq_true, not_true_eq_false, true_and, and_true, Nat.reduceLT, Nat.reduceLeDiff, Nat.zero_le, Bool.false_eq_true])
theorem st_ix {l : List Str} {i : Int} {j : Nat} (e : i = (j : Int)) (h : j < l.length) : atI (l.map D.str) i = some (.str (l.getD j ⟨#[]⟩)) := at_ix (k := j) e (by
  rw [List.getD_eq_getElem?_getD, List.getElem?_eq_getElem h]
  rfl)
def rgt (ns : List Int) (a : Nat) : List Str := (lawNames (nu ns (a + 1)) 3).take (nu ns (a + 2) % 4).toNat
def lawOwn (ns : List Int) (a : Nat) : List (Str × Str) := (List.range (rgt ns a).length).map fun k => ((rgt ns a).getD k ⟨#[]⟩, (lawNames (nu ns a) 5).getD (nu ns (a + 3 + k) % 3).toNat ⟨#[]⟩)
theorem names_len {n : Int} {m : Nat} : (lawNames n m).length = m := by unfold lawNames; rw [List.length_map, List.length_range]
theorem rgt_len {ns : List Int} {a : Nat} : (rgt ns a).length ≤ 3 := by
  unfold rgt
  rw [List.length_take, names_len]
  omega
abbrev N_law_owners : List Str := ["numbers", "at", "people", "rights", "k"]
def r_law_owners : DS :=
  (dSeq (dSet 2 (dCall 2 ph__law_names (dCons (dBin gIx (dVarB 0) (dVarB 1)) (dCons (dC (.int 5)) dNil))))
  (dSeq (dSet 3 (dSl (dCall 2 ph__law_names (dCons (dBin gIx (dVarB 0) (dBin gAdd (dVarB 1) (dC (.int 1)))) (dCons (dC (.int 3)) dNil))) dNoPart (dPart (dBin gMod (dBlt gInt (dConsW (dBin gIx (dVarB 0) (dBin gAdd (dVarB 1) (dC (.int 2)))) dNil)) (dC (.int 4))))))
  (dRet (dLc (diRng (dConsW (dBlt gLenA (dConsW (dVarB 3) dNil)) dNil)) 4 dYes (dTup (dCons (dBin gIx (dVarB 3) (dVarB 4)) (dCons (dBin gIx (dVarB 2) (dBin gMod (dBlt gInt (dConsW (dBin gIx (dVarB 0) (dBin gAdd (dBin gAdd (dVarB 1) (dC (.int 3))) (dVarB 4))) dNil)) (dC (.int 3)))) dNil)))))))
/- theorem M_law_owners : MD r_law_owners 2 5 ph_law_owners := fun ds Qd Xd h hl => by -/
def ph__law_owners : Ph := fun ds Qd _ => ∃ (ns : List Int) (a : Nat), ds = [.lst (ns.map .int), .int (a : Int)] ∧ (∀ n ∈ ns, DL.In9 n) ∧ a + 6 ≤ ns.length ∧ a ≤ 1000 ∧ Qd (.lst ((lawOwn ns a).map prD))
theorem M_law_owners : MD r_law_owners 2 5 ph__law_owners := fun ds Qd Xd h hl => by
  obtain ⟨ns, a, rfl, hn, ha, hb, q⟩ := h
  unfold r_law_owners
  walk_at "st"
  refine oK.mk (atn (j := a) (by omega) (by omega)) ?_
  walk_at "ev"
  refine ⟨nu ns a, 5, rfl, nu_in9 hn a, by omega, ?_⟩
  walk_at "st"
  refine oK.mk (atn (j := a + 1) (by omega) (by omega)) ?_
  walk_at "ev"
  refine ⟨nu ns (a + 1), 3, rfl, nu_in9 hn (a + 1), by omega, ?_⟩
  walk_at "st"
  refine oK.mk (atn (j := a + 2) (by omega) (by omega)) ?_
  walk_at "st"
  have z4 : 0 ≤ nu ns (a + 2) % 4 ∧ nu ns (a + 2) % 4 < 4 := ⟨Int.emod_nonneg _ (by decide), Int.emod_lt_of_pos _ (by decide)⟩
  have eR : DL.cutD ((lawNames (nu ns (a + 1)) 3).map D.str) none (some (nu ns (a + 2) % 4)) = (rgt ns a).map D.str := by
    unfold rgt
    rw [show (nu ns (a + 2) % 4) = (((nu ns (a + 2) % 4).toNat : Nat) : Int) by omega, cutD_take, List.map_take]
    congr 1
  rw [eR, List.length_map]
  have lr := rgt_len (ns := ns) (a := a)
  refine ⟨by decide, by omega, by omega, ?_⟩
  refine lcK.rng (fun k => prD ((rgt ns a).getD k ⟨#[]⟩, (lawNames (nu ns a) 5).getD (nu ns (a + 3 + k) % 3).toNat ⟨#[]⟩)) (by unfold sizeLine; omega) (fun k hk => ?_) ?_
  · walk_at "ev"
    have z3 : 0 ≤ nu ns (a + 3 + k) % 3 ∧ nu ns (a + 3 + k) % 3 < 3 := ⟨Int.emod_nonneg _ (by decide), Int.emod_lt_of_pos _ (by decide)⟩
    refine oK.mk (st_ix (j := k) rfl hk) ?_
    walk_at "ev"
    refine oK.mk (atn (j := a + 3 + k) (by omega) (by omega)) ?_
    walk_at "ev"
    refine ⟨by decide, oK.mk (st_ix (j := (nu ns (a + 3 + k) % 3).toNat) (by omega) (by rw [names_len]; omega)) ?_⟩
    walk_at "ev"
    exact ⟨by unfold sizeLine; omega, rfl⟩
  · walk_at "ev"
    have e : (List.range (rgt ns a).length).map (fun k => prD ((rgt ns a).getD k ⟨#[]⟩, (lawNames (nu ns a) 5).getD (nu ns (a + 3 + k) % 3).toNat ⟨#[]⟩)) = (lawOwn ns a).map prD := by
      unfold lawOwn
      rw [List.map_map]
      rfl
    rw [e]
    exact q
end K8

-- part ND
set_option Elab.async false
set_option linter.all false
set_option maxRecDepth 100000
set_option maxHeartbeats 2000000
namespace K8
open PySem PySem.Spec PyProof.Rows L2 GxR GS GA GD DL
local macro_rules | `(tactic| walk_at "ev") => `(tactic| simp (dsimp := false) only [em_uu, em_ui, em_ii, em_iu, pairs_om', pairs_om, zip_self, dRaise0_ev, lk0, lk1, lk2, fg_giver, fg_receiver, fg_right, fg_may_pass, slD_gr, slFr_gr, Option.map_none, Option.map_some, Option.isSome_none, Option.isSome_some, lg_owners, lg_owner_of, lg_grants, lg_removed, lg_standing, lg_gput, lg_rput, lg_sput, val_om, finS_nil, finS_cons, keep1_ob, keep1_va, keep1_rl, keep1_ro, getD_0, getD_s, bK_rl, bK_od, bK_rd, vK_od, slD_va, slD_ow, slFr_va, slFr_ow, slFr_od, slOf_frd, dxE_ev, dCallL_ev, dCallV_ev, resF_va, resF_ow, dMvX_ev, dForO_ev, dSetX_ev, dDropX_ev, dRetX_ev, obRd_ob, obRd_ro, obWr_ob, obNm_ob, obNm_ro, obW_ob, obR_ob, obR_ro, fdRd_va, fdRd_ow, fdRd_od, fdRd_tq, lwK_ow, fdOf_va, fdOf_ow, fdOf_od, resK_va, resK_ow, ntl_va, ntl_ow, ntl_ob, ntl_no, dOF_ev, dOS_ev, dOTq_ev, tlK_l, dOApp_ev, dDictF_ev, tqK_q, dDIn_t, dDIn_f, dinK_d, dDGet_ev, dgetK_d, keyD_s, keyD_i, dClr_ev, dMethX_ev, dMethR_ev, dMethX0_ev, dMethR0_ev, dMethK_ev, dPropR_ev, dCallX_ev, dCallR_ev, dMakeX_ev, dMakeD_ev, dLend_ev, lendK_ob, lendK_ro, dLcP_ev, dGenP_ev, dTryM_ev, hxK_nil, hxK_as, hxK_as0, hxK_on, cutN_rt, cutN_nx, gLenA_d, gLenA_l, gLenA_t, gLenA_s, k0, k1, k2, k3, iK_true, iK_false, iK_not, sl_0, sl_s, vK_va, vK_ow, bK_va, bK_ow, dVar_ev, dVarB_ev, dC_ev, dBin_ev, tK_bl, dTst_ev, dAnd_ev, dOr_ev, dNot_ev, dAndV_ev, dOrV_ev, dNotV_ev, dIf_ev, dNext_ev, dSeq_st, kS_e, dBreak_ev, dCont_ev, dRet_ev, dRetN_ev, dIfS_ev, dSet_ev, dDrop_ev, slOf_fr, slOf_sh, gAdd_i, gAdd_s, gAdd_l, gAdd_t, num_i, gEq_i, gEq_s, gEq_b, gEq_sn, gEq_ns, gEq_in, gEq_ni, gEq_nn, gEq_is, gEq_si, gNe_i, gNe_s, gNe_b, gNe_sn, gNe_ns, gNe_in, gNe_ni, gNe_nn, gEq_l, gEq_t, gNe_l, gNe_t,
    gIsN_n, gIsN_s, gIsN_i, gIsN_l, gIsN_t, gNotN_n, gNotN_s, gNotN_i, gNotN_l, gNotN_t, gIn_l, gIn_t, gNin_l, gNin_t, flD_s, flD_i, flD_n, flD_str, flD_int, has_strs, gRep_l, diRng2_ev, rK2_i, dStE_ev, iKx_i, gIx_l, gIx_t, gIx_s, DL.at0, at1, at2, at3, at4, at5, dNoPart_ev, pK_i, dPart_ev, sK_l, sK_r, sK_t, sK_s, dSl_ev, dNil_ev, dCons_ev, dConsW_ev, itsD_l, itsD_t, dStar_ev, dLst_ev, dTup_ev, dBlt_ev, gLen_l, gLen_t, gLen_r, gLen_s, gInt_i, gInt_b, gAbs_i, gMax_i, gMin_i, gTuple_l, gTuple_t, gList_l, gList_t, oW_ow, owAt_ev, decide_true, decide_false, Bool.not_true, Bool.not_false, gRepr_1, dStarT_ev, dRepl_ev, dTryAs0_ev, dTryOn_ev, dIsx0_ev, xnK_x, dIdx_ev, liK_l, has_two, stK_l, gTimes_s, zK_s, dSplit_ev, dJoin_ev, dInTab_ev, dIxTab_ev, gInD_l, gInS_s, gNinS_s, chK_b, dChn_ev, is_tt, is_ll, is_tn, is_bn, dTryAs_ev, dXf_ev, dIsx_ev, xK_x, dRaise1_ev, dIsi_ev, is_ss, is_sl, is_st, is_bb, dProp_ev, prK_i, xc_c, xc_a, dApp_ev, dStI_ev, wK_sh, wK_fr, wK_bo, wK_t, wK_r, wK_s, diVal_ev, rK_i, diRng_ev, eK_sh, eK_fr, eK_bo, diEnum_ev, dgName_ev, dgNil_ev, dgCons_ev, dgTup_ev, dAsg_ev, dFor_ev, dWhile_ev, dLc_ev, dGen_ev, dCall_ev, mK_i, dMeth_ev, fK_i, dFld_ev, nK_i, dNeg_ev, dYes_ev, oK_some, List.length_map, rng_len, Int.toNat_natCast,
    List.map_cons, List.map_nil, List.length_cons, List.length_nil, List.length_set, List.replicate_succ, List.replicate_zero, List.nil_append, List.cons_append, List.set_cons_zero, List.set_cons_succ, Nat.reduceAdd, Nat.reduceSub, ne_eq, reduceCtorEq, not_false_eq_true, not_true_eq_false, true_and, and_true, Nat.reduceLT, Nat.reduceLeDiff, Nat.zero_le, Bool.false_eq_true])
local macro_rules | `(tactic| walk_at "st") => `(tactic| simp (dsimp := false) only [em_uu, em_ui, em_ii, em_iu, pairs_om', pairs_om, zip_self, dRaise0_ev, lk0, lk1, lk2, fg_giver, fg_receiver, fg_right, fg_may_pass, slD_gr, slFr_gr, Option.map_none, Option.map_some, Option.isSome_none, Option.isSome_some, lg_owners, lg_owner_of, lg_grants, lg_removed, lg_standing, lg_gput, lg_rput, lg_sput, val_om, finS_nil, finS_cons, keep1_ob, keep1_va, keep1_rl, keep1_ro, getD_0, getD_s, bK_rl, bK_od, bK_rd, vK_od, slD_va, slD_ow, slFr_va, slFr_ow, slFr_od, slOf_frd, dxE_ev, dCallL_ev, dCallV_ev, resF_va, resF_ow, dMvX_ev, dForO_ev, dSetX_ev, dDropX_ev, dRetX_ev, obRd_ob, obRd_ro, obWr_ob, obNm_ob, obNm_ro, obW_ob, obR_ob, obR_ro, fdRd_va, fdRd_ow, fdRd_od, fdRd_tq, lwK_ow, fdOf_va, fdOf_ow, fdOf_od, resK_va, resK_ow, ntl_va, ntl_ow, ntl_ob, ntl_no, dOF_ev, dOS_ev, dOTq_ev, tlK_l, dOApp_ev, dDictF_ev, tqK_q, dDIn_t, dDIn_f, dinK_d, dDGet_ev, dgetK_d, keyD_s, keyD_i, dClr_ev, dMethX_ev, dMethR_ev, dMethX0_ev, dMethR0_ev, dMethK_ev, dPropR_ev, dCallX_ev, dCallR_ev, dMakeX_ev, dMakeD_ev, dLend_ev, lendK_ob, lendK_ro, dLcP_ev, dGenP_ev, dTryM_ev, hxK_nil, hxK_as, hxK_as0, hxK_on, cutN_rt, cutN_nx, gLenA_d, gLenA_l, gLenA_t, gLenA_s, k0, k1, k2, k3, iK_true, iK_false, iK_not, sl_0, sl_s, vK_va, vK_ow, bK_va, bK_ow, dVar_ev, dVarB_ev, dC_ev, dBin_ev, tK_bl, dTst_ev, dAnd_ev, dOr_ev, dNot_ev, dAndV_ev, dOrV_ev, dNotV_ev, dIf_ev, dNext_ev, dSeq_st, kS_e, dBreak_ev, dCont_ev, dRet_ev, dRetN_ev, dSet_ev, dDrop_ev, slOf_fr, slOf_sh, gAdd_i, gAdd_s, gAdd_l, gAdd_t, num_i, gEq_i, gEq_s, gEq_b, gEq_sn, gEq_ns, gEq_in, gEq_ni, gEq_nn, gEq_is, gEq_si, gNe_i, gNe_s, gNe_b, gNe_sn, gNe_ns, gNe_in, gNe_ni, gNe_nn, gEq_l, gEq_t, gNe_l, gNe_t,
    gIsN_n, gIsN_s, gIsN_i, gIsN_l, gIsN_t, gNotN_n, gNotN_s, gNotN_i, gNotN_l, gNotN_t, gIn_l, gIn_t, gNin_l, gNin_t, flD_s, flD_i, flD_n, flD_str, flD_int, has_strs, gRep_l, diRng2_ev, rK2_i, dStE_ev, iKx_i, gIx_l, gIx_t, gIx_s, DL.at0, at1, at2, at3, at4, at5, dNoPart_ev, pK_i, dPart_ev, sK_l, sK_r, sK_t, sK_s, dSl_ev, dNil_ev, dCons_ev, dConsW_ev, itsD_l, itsD_t, dStar_ev, dLst_ev, dTup_ev, dBlt_ev, gLen_l, gLen_t, gLen_r, gLen_s, gInt_i, gInt_b, gAbs_i, gMax_i, gMin_i, gTuple_l, gTuple_t, gList_l, gList_t, oW_ow, owAt_ev, decide_true, decide_false, Bool.not_true, Bool.not_false, gRepr_1, dStarT_ev, dRepl_ev, dTryAs0_ev, dTryOn_ev, dIsx0_ev, xnK_x, dIdx_ev, liK_l, has_two, stK_l, gTimes_s, zK_s, dSplit_ev, dJoin_ev, dInTab_ev, dIxTab_ev, gInD_l, gInS_s, gNinS_s, chK_b, dChn_ev, is_tt, is_ll, is_tn, is_bn, dTryAs_ev, dXf_ev, dIsx_ev, xK_x, dRaise1_ev, dIsi_ev, is_ss, is_sl, is_st, is_bb, dProp_ev, prK_i, xc_c, xc_a, dApp_ev, dStI_ev, wK_sh, wK_fr, wK_bo, wK_t, wK_r, wK_s, diVal_ev, rK_i, diRng_ev, eK_sh, eK_fr, eK_bo, diEnum_ev, dgName_ev, dgNil_ev, dgCons_ev, dgTup_ev, dAsg_ev, dFor_ev, dWhile_ev, dLc_ev, dGen_ev, dCall_ev, mK_i, dMeth_ev, fK_i, dFld_ev, nK_i, dNeg_ev, dYes_ev, oK_some, List.length_map, rng_len, Int.toNat_natCast,
    List.map_cons, List.map_nil, List.length_cons, List.length_nil, List.length_set, List.replicate_succ, List.replicate_zero, List.nil_append, List.cons_append, List.set_cons_zero, List.set_cons_succ, Nat.reduceAdd, Nat.reduceSub, ne_eq, reduceCtorEq, not_false_eq_true, not_true_eq_false, true_and, and_true, Nat.reduceLT, Nat.reduceLeDiff, Nat.zero_le, Bool.false_eq_true])
theorem okL_of : ∀ {xs : List D}, (∀ x ∈ xs, okD x = true) → okL xs = true
  | [], _ => by simp [okL]
  | x :: r, h => by
    simp only [okL, Bool.and_eq_true]
    exact ⟨h x (List.mem_cons_self ..), okL_of fun y hy => h y (List.mem_cons_of_mem _ hy)⟩
theorem dptL_le {n : Nat} : ∀ {xs : List D}, (∀ x ∈ xs, dpt x ≤ n) → dptL xs ≤ n
  | [], _ => by simp [dptL]
  | x :: r, h => by
    simp only [dptL]
    exact Nat.max_le.mpr ⟨h x (List.mem_cons_self ..), dptL_le fun y hy => h y (List.mem_cons_of_mem _ hy)⟩
theorem eqD_refl {d : D} (h : shp d = true) : eqD d d = true := by
  unfold eqD
  unfold shp at h
  exact SeqAt.eqv_refl _ (lay_of d (He.ba h).1)
theorem shp_gts {gs : List Gr} (h : GsS gs) : shp (.lst (gs.map gtD)) = true := by
  have h1 : okL (gs.map gtD) = true := okL_of fun x hx => by
    obtain ⟨g, hg, rfl⟩ := List.mem_map.mp hx
    obtain ⟨a, b, c⟩ := h g hg
    simp [gtD, okD, okL, a, b, c]
  have h2 : dptL (gs.map gtD) ≤ 3 := dptL_le fun x hx => by
    obtain ⟨g, hg, rfl⟩ := List.mem_map.mp hx
    simp [gtD, dpt, dptL]
  unfold shp okD dpt
  rw [h1, decide_eq_true (by omega)]
  rfl
abbrev N_law_granted : List Str := ["ledger", "giver", "receiver", "right", "passing", "e", "number"]
def r_law_granted : DS :=
  (dTryM (dSeq (dSetX 6 (dMethK "Ledger" "grant" 3 1 ph_Ledger_grant 0 (dCons (dVar 1) (dCons (dVar 2) (dCons (dVar 3) dNil))) (dCons (dVar 4) dNil)))
  (dRet (dBin gIx (dLst (dCons (dTup (dCons (dC (.str "wrong")) (dCons (dC (.int 0)) dNil))) (dCons (dTup (dCons (dC (.str "number")) (dCons (dVar 6) dNil))) dNil))) (dBlt gInt (dConsW (dCall 1 ph__law_is_integer (dCons (dVar 6) dNil)) dNil)))))
  [.as em_UnknownName "UnknownName" 5 (fun a dd => (dRet (dTup (dCons (dC (.str "unknown")) (dCons (dXf a dd 5 "name") dNil))))), .as0 em_InvalidEntry "InvalidEntry" 5 (fun a => (dRet (dTup (dCons (dC (.str "refused")) (dCons (dBlt gInt (dConsW (dAndV (dIsx0 a 5 true) (dIsx0 a 5 true)) dNil)) dNil)))))])
/- theorem M_law_granted : MO r_law_granted 5 7 ph_law_granted := fun ds Qd Xd h hl => by -/
def ph__law_granted : PhO := fun ss Qd Xd => ∃ (a : Addr) (ps : List (Str × Str)) (gs : List Gr) (rm : List Bool) (st : List Nat) (gv rc rt : Str) (mp : Bool), ss = [.ob a "Ledger" (lgF ps gs rm st), .va (.str gv), .va (.str rc), .va (.str rt), .va (.bl mp)] ∧ Lok ps gs rm st ∧ gs.length < 1000 ∧ rc.length ≤ 100000 ∧ rt.length ≤ 100000 ∧ match ownerOf ps rt with
  | none => Qd (.va (.tup [.str "unknown", .str rt])) [.ob a "Ledger" (lgF ps gs rm st), .no, .no, .no, .no]
  | some o => if (isName rc && (!decide (rc = gv) && mayP o gs st gv rt)) = true then Qd (.va (.tup [.str "number", inD gs.length])) [.ob a "Ledger" (lgF ps (gs ++ [⟨gv, rc, rt, mp⟩]) (rm ++ [false]) (st ++ [gs.length])), .no, .no, .no, .no]
    else Qd (.va (.tup [.str "refused", .int 1])) [.ob a "Ledger" (lgF ps gs rm st), .no, .no, .no, .no]
theorem M_law_granted : MO r_law_granted 5 7 ph__law_granted := fun ss Qd Xd h hl => by
  obtain ⟨a, ps, gs, rm, st, gv, rc, rt, mp, rfl, ok, hg, h1, h2, q⟩ := h
  unfold r_law_granted
  walk_at "ev"
  refine ⟨lg_grant, a, ps, gs, rm, st, gv, rc, rt, mp, rfl, ok, hg, h1, h2, ?_⟩
  cases e : ownerOf ps rt with
  | none =>
    rw [e] at q
    walk_at "ev"
    intro a1 dd
    exact ⟨by unfold sizeLine; omega, q⟩
  | some o =>
    rw [e] at q
    have q : if (isName rc && (!decide (rc = gv) && mayP o gs st gv rt)) = true then Qd (.va (.tup [.str "number", inD gs.length])) [.ob a "Ledger" (lgF ps (gs ++ [⟨gv, rc, rt, mp⟩]) (rm ++ [false]) (st ++ [gs.length])), .no, .no, .no, .no]
      else Qd (.va (.tup [.str "refused", .int 1])) [.ob a "Ledger" (lgF ps gs rm st), .no, .no, .no, .no] := q
    show if _ then _ else _
    split
    · rename_i c
      rw [if_pos c] at q
      walk_at "ev"
      have s2 : 2 ≤ sizeLine := by unfold sizeLine; omega
      refine ⟨s2, s2, s2, _, rfl, ?_⟩
      walk_at "ev"
      rw [if_pos trivial]
      walk_at "ev"
      exact q
    · rename_i c
      rw [if_neg c] at q
      walk_at "ev"
      intro a1
      exact ⟨by unfold sizeLine; omega, q⟩
abbrev N_law_refused : List Str := ["owners", "e"]
def r_law_refused : DS :=
  (dSeq (dTryAs0 em_InvalidEntry "InvalidEntry" 1 (dDropX (dMakeX "Ledger" 1 ph_Ledger___init__ (dCons (dVar 0) dNil)))
  (fun a => (dRet (dAndV (dIsx0 a 1 true) (dNotV (dIsx0 a 1 false))))))
  (dRet (dC (.bl false))))
/- theorem M_law_refused : MD r_law_refused 1 2 ph_law_refused := fun ds Qd Xd h hl => by -/
def ph__law_refused : Ph := fun ds Qd _ => ∃ ps : List (Str × Str), ds = [.lst (ps.map prD)] ∧ ps.length ≤ 1000 ∧ (∀ x ∈ ps, x.1.length ≤ 100000 ∧ x.2.length ≤ 100000) ∧ Qd (.bl (!psOk ps))
theorem M_law_refused : MD r_law_refused 1 2 ph__law_refused := fun ds Qd Xd h hl => by
  obtain ⟨ps, rfl, h1, h2, q⟩ := h
  unfold r_law_refused
  walk_at "ev"
  intro a
  refine ⟨a, ps, _, rfl, .inl rfl, h1, h2, ?_⟩
  split
  · rename_i c
    rw [c] at q
    walk_at "ev"
    exact q
  · rename_i c
    have c : psOk ps = false := by simpa using c
    rw [c] at q
    intro fs
    walk_at "ev"
    exact fun _ => q
abbrev N_law_told : List Str := ["ledger", "grants", "told", "grant"]
def r_law_told : DS :=
  (dSeq (dSet 2 (dPropR "Ledger" ph_Ledger_grants 0))
  (dSeq (dIfS (dTst (dBin gNe (dLc (diVal (dVarB 2)) 3 dYes (dTup (dCons (dFld "Grant" "giver" (dVar 3)) (dCons (dFld "Grant" "receiver" (dVar 3)) (dCons (dFld "Grant" "right" (dVar 3)) (dCons (dFld "Grant" "may_pass" (dVar 3)) dNil)))))) (dVarB 1))) (dRet (dC (.bl false))) dNext)
  (dSeq (dClr 2)
  (dRet (dBin gEq (dLc (diVal (dPropR "Ledger" ph_Ledger_grants 0)) 3 dYes (dTup (dCons (dFld "Grant" "giver" (dVar 3)) (dCons (dFld "Grant" "receiver" (dVar 3)) (dCons (dFld "Grant" "right" (dVar 3)) (dCons (dFld "Grant" "may_pass" (dVar 3)) dNil)))))) (dVarB 1))))))
/- theorem M_law_told : MO r_law_told 2 4 ph_law_told := fun ds Qd Xd h hl => by -/
def ph__law_told : PhO := fun ss Qd Xd => ∃ (a : Addr) (ps : List (Str × Str)) (gs : List Gr) (rm : List Bool) (st : List Nat), ss = [.ro a "Ledger" (lgF ps gs rm st), .va (.lst (gs.map gtD))] ∧ Lok ps gs rm st ∧ GsS gs ∧ Qd (.va (.bl true)) [.no, .no]
theorem M_law_told : MO r_law_told 2 4 ph__law_told := fun ss Qd Xd h hl => by
  obtain ⟨a, ps, gs, rm, st, rfl, ok, hs, q⟩ := h
  unfold r_law_told
  have hz : gs.length ≤ sizeLine := Nat.le_trans ok.ng mul1000
  walk_at "ev"
  refine ⟨a, ps, gs, rm, st, rfl, ok, ?_⟩
  walk_at "ev"
  refine lcK.all grD_inj gtD hz (fun g hk => ?_) ?_
  · unfold grD
    walk_at "ev"
    exact ⟨by unfold sizeLine; omega, rfl⟩
  · walk_at "ev"
    refine ⟨shp_gts hs, shp_gts hs, ?_⟩
    rw [eqD_refl (shp_gts hs)]
    walk_at "ev"
    refine ⟨a, ps, gs, rm, st, rfl, ok, ?_⟩
    walk_at "ev"
    refine lcK.all grD_inj gtD hz (fun g hk => ?_) ?_
    · unfold grD
      walk_at "ev"
      exact ⟨by unfold sizeLine; omega, rfl⟩
    · walk_at "ev"
      refine ⟨shp_gts hs, shp_gts hs, ?_⟩
      rw [eqD_refl (shp_gts hs)]
      exact q
end K8

-- part NP
set_option Elab.async false
set_option linter.all false
set_option maxRecDepth 100000
set_option maxHeartbeats 2000000
/-! what the law knows of the grants it enters, plain -/
namespace K8
open PySem PySem.Spec PyProof.Rows L2 GxR GS GA GD DL
theorem owner_mem {ps : List (Str × Str)} {r o : Str} (h : ownerOf ps r = some o) : (r, o) ∈ ps := by
  unfold ownerOf at h
  cases e : ps.find? fun x => decide (x.1 = r) with
  | none => rw [e] at h; cases h
  | some x =>
    rw [e] at h
    have h : x.2 = o := Option.some.inj h
    have h1 := List.mem_of_find?_eq_some e
    have h2 := List.find?_some e
    have h2 : x.1 = r := of_decide_eq_true h2
    rw [← h, ← h2]
    exact h1
theorem mem_owner {ps : List (Str × Str)} {r p : Str} (nd : (ps.map (·.1)).Nodup) (h : (r, p) ∈ ps) : ownerOf ps r = some p := by
  unfold ownerOf
  induction ps with
  | nil => cases h
  | cons x t ih =>
    rw [List.map_cons, List.nodup_cons] at nd
    rcases List.mem_cons.mp h with h | h
    · rw [← h, List.find?_cons_of_pos (by simp)]; rfl
    · rw [List.find?_cons_of_neg]
      · exact ih nd.2 h
      · have : x.1 ≠ r := fun z => nd.1 (List.mem_map.mpr ⟨_, h, z.symm⟩)
        simp [this]
/-- the ledger's word and the law's -/
theorem may_eq {ps : List (Str × Str)} {gs : List Gr} {st : List Nat} {p r o : Str} (nd : (ps.map (·.1)).Nodup) (h : ownerOf ps r = some o) : mayP o gs st p r = lawMay ps gs st p r := by
  have e1 : decide (o = p) = decide ((r, p) ∈ ps) := by
    rw [Bool.eq_iff_iff, decide_eq_true_eq, decide_eq_true_eq]
    constructor
    · rintro rfl; exact owner_mem h
    · intro z
      have := mem_owner nd z
      rw [h] at this
      exact Option.some.inj this
  unfold mayP lawMay stOf
  rw [e1, List.any_filter]
  congr 2
  funext k
  cases gs[k]? with
  | none => rfl
  | some g =>
    show (decide (g.rt = r) && (decide (g.rc = p) && g.mp)) = (decide (g.rc = p) && (decide (g.rt = r) && g.mp))
    cases decide (g.rt = r) <;> cases decide (g.rc = p) <;> rfl
/-- each giver may hand the right on when the grant is entered -/
def Val (ps : List (Str × Str)) (gs : List Gr) : Prop := ∀ (k : Nat) (g : Gr), gs[k]? = some g → lawMay ps gs (List.range k) g.gv g.rt = true
theorem lawSt_all {ps : List (Str × Str)} {gs : List Gr} (v : Val ps gs) : ∀ {k : Nat}, k ≤ gs.length → lawSt ps gs [] k = List.range k
  | 0, _ => rfl
  | k + 1, h => by
    have hk : k < gs.length := h
    have ih := lawSt_all v (k := k) (by omega)
    unfold lawSt
    rw [ih, List.getElem?_eq_getElem hk]
    have := v k gs[k] (List.getElem?_eq_getElem hk)
    rw [if_pos (by show (lawMay ps gs (List.range k) _ _ && _) = true; rw [this]; rfl), List.range_succ]
theorem lawMay_app {ps : List (Str × Str)} {gs hs : List Gr} {k : Nat} {p r : Str} (h : k ≤ gs.length) : lawMay ps (gs ++ hs) (List.range k) p r = lawMay ps gs (List.range k) p r := by
  unfold lawMay
  congr 1
  rw [Bool.eq_iff_iff, List.any_eq_true, List.any_eq_true]
  constructor
  · rintro ⟨i, hi, e⟩
    refine ⟨i, hi, ?_⟩
    rw [List.getElem?_append_left (by have := List.mem_range.mp hi; omega)] at e
    exact e
  · rintro ⟨i, hi, e⟩
    refine ⟨i, hi, ?_⟩
    rw [List.getElem?_append_left (by have := List.mem_range.mp hi; omega)]
    exact e
theorem Val.nil {ps : List (Str × Str)} : Val ps [] := fun k g e => by cases e
theorem Val.snoc {ps : List (Str × Str)} {gs : List Gr} {g : Gr} (v : Val ps gs) (h : lawMay ps gs (List.range gs.length) g.gv g.rt = true) : Val ps (gs ++ [g]) := fun k g' e => by
  by_cases hk : k < gs.length
  · rw [List.getElem?_append_left hk] at e
    rw [lawMay_app (by omega)]
    exact v k g' e
  · have hl := (List.getElem?_eq_some_iff.mp e).1
    rw [List.length_append] at hl
    have hl : k < gs.length + 1 := hl
    have e2 : k = gs.length := by omega
    subst e2
    rw [List.getElem?_append_right (Nat.le_refl _), Nat.sub_self] at e
    cases e
    rw [lawMay_app (Nat.le_refl _)]
    exact h
/-! ### names -/
theorem isName_ok {t : Str} (h : isName t = true) : PyData.strOk t = true := by
  have hs : ∀ c ∈ signs.cps.toList, c < 1114112 := by decide +kernel
  unfold isName at h
  simp only [Bool.and_eq_true] at h
  unfold PyData.strOk
  rw [Array.all_eq_true_iff_forall_mem]
  intro c hc
  have := List.all_eq_true.mp h.2.2 c (Array.mem_toList_iff.mpr hc)
  exact decide_eq_true (hs c (of_decide_eq_true this))
theorem nmR_mem {n : Int} {c : Nat} (h : c ∈ nmR n) : c ∈ signs.cps.toList := by
  unfold nmR at h
  obtain ⟨k, _, rfl⟩ := List.mem_map.mp h
  exact sg_mem (m36 _).1 (m36 _).2
theorem nmO_mem {n : Int} {k c : Nat} (h : c ∈ nmO n k) : c ∈ signs.cps.toList := by
  unfold nmO at h
  split at h
  · exact nmR_mem (List.mem_of_mem_drop h)
  · exact nmR_mem h
theorem m26 (x : Int) : 0 ≤ x % 26 ∧ x % 26 < 26 := ⟨Int.emod_nonneg _ (by decide), Int.emod_lt_of_pos _ (by decide)⟩
theorem nm_name {n : Int} {k : Nat} : isName (mkS (nmL n k)) = true := by
  have lo := nmO_len (n := n) (k := k)
  have h1 := sg_letter (m26 (n + 3 * (k : Int))).1 (m26 (n + 3 * (k : Int))).2
  have hl : (nmL n k).length = (nmO n k).length + 2 := by
    unfold nmL
    rw [List.length_cons, List.length_append, List.length_cons, List.length_take, List.length_drop]
    omega
  unfold isName
  rw [mkS_len, hl, decide_eq_true (by omega), decide_eq_true (by omega)]
  have e : (mkS (nmL n k)).cps.toList = nmL n k := rfl
  rw [e, Bool.true_and, Bool.true_and, Bool.and_eq_true]
  refine ⟨decide_eq_true h1, ?_⟩
  rw [List.all_eq_true]
  intro c hc
  refine decide_eq_true ?_
  have hls : ∀ c ∈ letters.cps.toList, c ∈ signs.cps.toList := by decide +kernel
  unfold nmL at hc
  rcases List.mem_cons.mp hc with rfl | hc
  · exact hls _ h1
  · rcases List.mem_append.mp hc with hc | hc
    · exact nmO_mem (List.mem_of_mem_take hc)
    · rcases List.mem_cons.mp hc with rfl | hc
      · exact sg_mem (m36 _).1 (m36 _).2
      · exact nmO_mem (List.mem_of_mem_drop hc)
theorem names_name {n : Int} {m : Nat} {x : Str} (h : x ∈ lawNames n m) : isName x = true := by
  unfold lawNames at h
  obtain ⟨k, _, rfl⟩ := List.mem_map.mp h
  exact nm_name
/-- few names differ in their first letters -/
theorem names_nodup {n : Int} {m : Nat} (hm : m ≤ 8) : (lawNames n m).Nodup := by
  unfold lawNames List.Nodup
  rw [List.pairwise_map]
  refine List.Pairwise.imp_of_mem (fun {a b} ha hb hab e => ?_) (List.nodup_range (n := m))
  have ha := List.mem_range.mp ha
  have hb := List.mem_range.mp hb
  have e := mkS_inj e
  unfold nmL at e
  have e := (List.cons.inj e).1
  have x1 := m26 (n + 3 * (a : Int))
  have x2 := m26 (n + 3 * (b : Int))
  have := sg_inj x1.1 (by omega) x2.1 (by omega) e
  omega
end K8

-- part DH
set_option Elab.async false
set_option linter.all false
set_option maxRecDepth 100000
set_option maxHeartbeats 2000000
namespace K8
open PySem PySem.Spec PyProof.Rows L2 GxR GS GA GD DL
section
variable {w : World} {K : PySem.W.Frag} {mg : Str → Option Value} {base : Heap}
theorem sc_law_row : FnScope N_law_row ["cell", "many"] (defScope s_law_row) := ⟨rfl, rfl, rfl, by decide +kernel, rfl, by decide +kernel, by decide +kernel⟩
theorem D_law_row (T : Tx w K mg base) : ∃ fd, FnOk R.prog w K mg base (L2.CX R.prog w) 1 (He.ga K "_law_row") fd ["cell", "many"] (spD K (Tz K) 2 ph__law_row) ∧ Binds K fd ["cell", "many"] [] ∧ PySem.W.keepIn K (.ref (He.ga K "_law_row")) = true := by
  obtain ⟨fd, F⟩ := T.F__law_row
  have nd := sc_law_row.nd
  refine ⟨fd, fn_data (k := 0) F (codeOf_at (p := ("_law_row", none)) F) sc_law_row rfl (fun A outer s H E hr => ⟨r_law_row, ?_, M_law_row⟩), F.bindsN (ps := ["cell", "many"]) fun _ _ _ _ _ _ us hl => match us, hl with | [_, _], _ => rfl, F.kp⟩
  exact (ds_cons (ds_set (i := 2) nd rfl (by first | exact Or.inl rfl | exact Or.inr rfl) (de_lst da_nil))
      (ds_cons (ds_set (i := 3) nd rfl (by first | exact Or.inl rfl | exact Or.inr rfl) (de_callB dcl_abs (by rfl) T.free_abs (by decide +kernel) (da_consW (vB 0) dw_nil)))
      (ds_cons (ds_set (i := 4) nd rfl (by first | exact Or.inl rfl | exact Or.inr rfl) (de_bin dop_mod (de_callTy dcl_int (by rfl) T.free_int (by decide +kernel) (da_consW (de_bin dop_add (de_bin dop_mul (vB 3) de_int) de_int) dw_nil)) de_int))
      (ds_cons (ds_for (passes_of rfl) rfl (di_rng rfl T.free_range (da_consW (vB 1) dw_nil)) (dg_name (i := 5) nd rfl (by first | exact Or.inl rfl | exact Or.inr rfl)) (ds_cons (ds_set (i := 4) nd rfl (by first | exact Or.inl rfl | exact Or.inr rfl) (de_bin dop_mod (de_callTy dcl_int (by rfl) T.free_int (by decide +kernel) (da_consW (de_bin dop_add (de_bin dop_mul (vB 4) de_int) (de_bin dop_mul de_int (de_bin dop_add (vB 5) de_int))) dw_nil)) de_int))
      (ds_one (ds_if (dt_cmp dop_ge (de_callB dcl_abs (by rfl) T.free_abs (by decide +kernel) (da_consW (vB 0) dw_nil)) (de_bin dop_pow de_int de_int) (nomark _)) (ds_cons (ds_append (i := 2) rfl (by first | exact Or.inl rfl | exact Or.inr (Or.inl rfl) | exact Or.inr (Or.inr rfl)) (de_bin dop_mod (de_callTy dcl_int (by rfl) T.free_int (by decide +kernel) (da_consW (vB 3) dw_nil)) de_int))
      (ds_one (ds_set (i := 3) nd rfl (by first | exact Or.inl rfl | exact Or.inr rfl) (de_bin dop_div (vB 3) de_int)))) (ds_one (ds_append (i := 2) rfl (by first | exact Or.inl rfl | exact Or.inr (Or.inl rfl) | exact Or.inr (Or.inr rfl)) (de_bin dop_mod (de_callTy dcl_int (by rfl) T.free_int (by decide +kernel) (da_consW (de_bin dop_div (vB 4) de_int) dw_nil)) de_int)))))))
      (ds_one (ds_ret (vV 2)))))))
theorem sc_law_numbers : FnScope N_law_numbers ["script", "many"] (defScope s_law_numbers) := ⟨rfl, rfl, rfl, by decide +kernel, rfl, by decide +kernel, by decide +kernel⟩
theorem D_law_numbers (T : Tx w K mg base) : ∃ fd, FnOk R.prog w K mg base (L2.CX R.prog w) 2 (He.ga K "_law_numbers") fd ["script", "many"] (spD K (Tz K) 2 ph__law_numbers) ∧ Binds K fd ["script", "many"] [] ∧ PySem.W.keepIn K (.ref (He.ga K "_law_numbers")) = true := by
  obtain ⟨fd, F⟩ := T.F__law_numbers
  obtain ⟨fd__law_row, G__law_row, b__law_row, k__law_row⟩ := D_law_row T
  have nd := sc_law_numbers.nd
  refine ⟨fd, fn_data (k := 1) F (codeOf_at (p := ("_law_numbers", none)) F) sc_law_numbers rfl (fun A outer s H E hr => ⟨r_law_numbers, ?_, M_law_numbers⟩), F.bindsN (ps := ["script", "many"]) fun _ _ _ _ _ _ us hl => match us, hl with | [_, _], _ => rfl, F.kp⟩
  exact (ds_cons (ds_set (i := 2) nd rfl (by first | exact Or.inl rfl | exact Or.inr rfl) (de_slice (vB 0) do_none (do_some de_int)))
      (ds_cons (ds_set (i := 3) nd rfl (by first | exact Or.inl rfl | exact Or.inr rfl) (de_bin dop_add de_int (de_bin dop_div (vB 1) (de_callB (dcl_max rfl) (by rfl) T.free_max (by decide +kernel) (da_consW de_int (da_consW (de_callB dcl_len (by rfl) T.free_len PySem.boot_len (da_consW (vB 2) dw_nil)) dw_nil))))))
      (ds_cons (ds_set (i := 4) nd rfl (by first | exact Or.inl rfl | exact Or.inr rfl) (de_lst da_nil))
      (ds_cons (ds_for (passes_of rfl) rfl (di_val (vV 2)) (dg_name (i := 5) nd rfl (by first | exact Or.inl rfl | exact Or.inr rfl)) (ds_one (ds_for (passes_of rfl) rfl (di_val (de_call G__law_row (hr.mono (by decide)) rfl T.glo__law_row k__law_row b__law_row (Ps.of (takes_of rfl rfl rfl rfl)) (da_cons (vV 5) (da_cons (vV 3) da_nil)))) (dg_name (i := 6) nd rfl (by first | exact Or.inl rfl | exact Or.inr rfl)) (ds_one (ds_append (i := 4) rfl (by first | exact Or.inl rfl | exact Or.inr (Or.inl rfl) | exact Or.inr (Or.inr rfl)) (vV 6))))))
      (ds_cons (ds_while (passes_of rfl) (dt_cmp dop_lt (de_callB dcl_len (by rfl) T.free_len PySem.boot_len (da_consW (vB 4) dw_nil)) (vB 1) (nomark _)) (ds_one (ds_append (i := 4) rfl (by first | exact Or.inl rfl | exact Or.inr (Or.inl rfl) | exact Or.inr (Or.inr rfl)) de_int)))
      (ds_one (ds_ret (de_slice (vB 4) do_none (do_some (vB 1))))))))))
theorem sc_law_is_integer : FnScope N_law_is_integer ["actual"] (defScope s_law_is_integer) := ⟨rfl, rfl, rfl, by decide +kernel, rfl, by decide +kernel, by decide +kernel⟩
theorem D_law_is_integer (T : Tx w K mg base) : ∃ fd, FnOk R.prog w K mg base (L2.CX R.prog w) 1 (He.ga K "_law_is_integer") fd ["actual"] (spD K (Tz K) 1 ph__law_is_integer) ∧ Binds K fd ["actual"] [] ∧ PySem.W.keepIn K (.ref (He.ga K "_law_is_integer")) = true := by
  obtain ⟨fd, F⟩ := T.F__law_is_integer
  have nd := sc_law_is_integer.nd
  refine ⟨fd, fn_data (k := 0) F (codeOf_at (p := ("_law_is_integer", none)) F) sc_law_is_integer rfl (fun A outer s H E hr => ⟨r_law_is_integer, ?_, M_law_is_integer⟩), F.bindsN (ps := ["actual"]) fun _ _ _ _ _ _ us hl => match us, hl with | [_], _ => rfl, F.kp⟩
  exact (ds_one (ds_ret (de_and (de_isi (T := "int") rfl T.free_isinstance (by decide +kernel) rfl T.free_int rfl (vB 0)) (de_one (de_not (de_isi (T := "bool") rfl T.free_isinstance (by decide +kernel) rfl T.free_bool rfl (vB 0)))))))
theorem sc_law_may : FnScope N_law_may ["owners", "grants", "stood", "person", "right"] (defScope s_law_may) := ⟨rfl, rfl, rfl, by decide +kernel, rfl, by decide +kernel, by decide +kernel⟩
theorem D_law_may (T : Tx w K mg base) : ∃ fd, FnOk R.prog w K mg base (L2.CX R.prog w) 1 (He.ga K "_law_may") fd ["owners", "grants", "stood", "person", "right"] (spO K (Tz K) 5 ph__law_may) ∧ Binds K fd ["owners", "grants", "stood", "person", "right"] [] ∧ PySem.W.keepIn K (.ref (He.ga K "_law_may")) = true := by
  obtain ⟨fd, F⟩ := T.F__law_may
  have nd := sc_law_may.nd
  refine ⟨fd, fn_obj (k := 0) F (codeOf_at (p := ("_law_may", none)) F) sc_law_may rfl (fun A outer s H E hr => ⟨r_law_may, ?_, M_law_may⟩), F.bindsN (ps := ["owners", "grants", "stood", "person", "right"]) fun _ _ _ _ _ _ us hl => match us, hl with | [_, _, _, _, _], _ => rfl, F.kp⟩
  exact (ds_cons (ds_if (dt_cmp (dop_inD (units65 hr)) (de_tup (da_cons (vV 4) (da_cons (vV 3) da_nil))) (vB 0) (by rfl)) (ds_one (ds_ret de_bl)) ds_nil)
      (ds_one (ds_ret (de_cmp dop_gt (de_callB dcl_lenA (by rfl) T.free_len PySem.boot_len (da_consW (de_lc (own := [("k", 5)]) (tt := (dAnd (dTst (dBin gEq (dBin gIx (dBin gIx (dVarB 1) (dVarB 5)) (dC (.int 1))) (dVarB 3))) (dAnd (dTst (dBin gEq (dBin gIx (dBin gIx (dVarB 1) (dVarB 5)) (dC (.int 2))) (dVarB 4))) (dTst (dBin gIx (dBin gIx (dVarB 1) (dVarB 5)) (dC (.int 3))))))) (te := (dVar 5)) rfl nd (di_val (vB 2)) (blkOk_by (own := [("k", 5)]) (N := N_law_may) (sc := defScope s_law_may) (by decide +kernel)) rfl (fun _ _ _ _ _ => pg_name (i := 5) nd rfl (by first | exact Or.inl rfl | exact Or.inr rfl)) (fun _ _ _ _ _ => dts_one (PW.pt (dw_and (dt_cmp (dop_eq hr.units) (de_ix (de_ix (vB 1) (vB 5) (fun _ _ => rfl)) de_int (fun _ _ => rfl)) (vB 3) (nomark _)) (dw_and (dt_cmp (dop_eq hr.units) (de_ix (de_ix (vB 1) (vB 5) (fun _ _ => rfl)) de_int (fun _ _ => rfl)) (vB 4) (nomark _)) (dw_and1 (dt_val (de_ix (de_ix (vB 1) (vB 5) (fun _ _ => rfl)) de_int (fun _ _ => rfl)))))))) (fun _ _ _ _ _ => (vV 5))) dw_nil)) de_int (nomark _)))))
theorem sc_law_standing : FnScope N_law_standing ["owners", "grants", "taken"] (defScope s_law_standing) := ⟨rfl, rfl, rfl, by decide +kernel, rfl, by decide +kernel, by decide +kernel⟩
theorem D_law_standing (T : Tx w K mg base) : ∃ fd, FnOk R.prog w K mg base (L2.CX R.prog w) 1 (He.ga K "_law_standing") fd ["owners", "grants", "taken"] (spO K (Tz K) 3 ph__law_standing) ∧ Binds K fd ["owners", "grants", "taken"] [] ∧ PySem.W.keepIn K (.ref (He.ga K "_law_standing")) = true := by
  obtain ⟨fd, F⟩ := T.F__law_standing
  have nd := sc_law_standing.nd
  refine ⟨fd, fn_obj (k := 0) F (codeOf_at (p := ("_law_standing", none)) F) sc_law_standing rfl (fun A outer s H E hr => ⟨r_law_standing, ?_, M_law_standing⟩), F.bindsN (ps := ["owners", "grants", "taken"]) fun _ _ _ _ _ _ us hl => match us, hl with | [_, _, _], _ => rfl, F.kp⟩
  exact (ds_cons (ds_set (i := 3) nd rfl (by first | exact Or.inl rfl | exact Or.inr rfl) (de_lst da_nil))
      (ds_cons (ds_for (passes_of rfl) rfl (di_rng rfl T.free_range (da_consW (de_callB dcl_lenA (by rfl) T.free_len PySem.boot_len (da_consW (vB 1) dw_nil)) dw_nil)) (dg_name (i := 4) nd rfl (by first | exact Or.inl rfl | exact Or.inr rfl)) (ds_cons (ds_asg (de_ix (vB 1) (vB 4) (fun _ _ => rfl)) (dg_tup rfl (dgs_cons (dg_name (i := 7) nd rfl (by first | exact Or.inl rfl | exact Or.inr rfl)) (dgs_cons (dg_name (i := 8) nd rfl (by first | exact Or.inl rfl | exact Or.inr rfl)) (dgs_cons (dg_name (i := 9) nd rfl (by first | exact Or.inl rfl | exact Or.inr rfl)) (dgs_cons (dg_name (i := 10) nd rfl (by first | exact Or.inl rfl | exact Or.inr rfl)) dgs_nil))))))
      (ds_cons (ds_set (i := 5) nd rfl (by first | exact Or.inl rfl | exact Or.inr rfl) (de_cmp (dop_inD (units65 hr)) (de_tup (da_cons (vV 9) (da_cons (vV 7) da_nil))) (vB 0) (by rfl)))
      (ds_cons (ds_forO (j := 3) (passes_of rfl) rfl rfl (by first | exact Or.inl rfl | exact Or.inr (Or.inl rfl) | exact Or.inr (Or.inr rfl)) (dg_name (i := 6) nd rfl (by first | exact Or.inl rfl | exact Or.inr rfl)) (ds_one (ds_if (PW.pt (dw_and (dt_cmp (dop_eq hr.units) (de_ix (de_ix (vB 1) (vB 6) (fun _ _ => rfl)) de_int (fun _ _ => rfl)) (vB 7) (nomark _)) (dw_and (dt_cmp (dop_eq hr.units) (de_ix (de_ix (vB 1) (vB 6) (fun _ _ => rfl)) de_int (fun _ _ => rfl)) (vB 9) (nomark _)) (dw_and1 (dt_val (de_ix (de_ix (vB 1) (vB 6) (fun _ _ => rfl)) de_int (fun _ _ => rfl))))))) (ds_one (ds_set (i := 5) nd rfl (by first | exact Or.inl rfl | exact Or.inr rfl) de_bl)) ds_nil)))
      (ds_one (ds_if (PW.pt (dw_and (dt_val (vB 5)) (dw_and1 (dt_cmp dop_nin (vB 4) (vB 2) (by rfl))))) (ds_one (ds_append (i := 3) rfl (by first | exact Or.inl rfl | exact Or.inr (Or.inl rfl) | exact Or.inr (Or.inr rfl)) (vV 4))) ds_nil))))))
      (ds_one (ds_retX (dx_mv (j := 3) rfl (by first | exact Or.inl rfl | exact Or.inr (Or.inl rfl) | exact Or.inr (Or.inr rfl)))))))
theorem sc_law_granted : FnScope N_law_granted ["ledger", "giver", "receiver", "right", "passing"] (defScope s_law_granted) := ⟨rfl, rfl, rfl, by decide +kernel, rfl, by decide +kernel, by decide +kernel⟩
theorem D_law_granted (T : Tx w K mg base) : ∃ fd, FnOk R.prog w K mg base (L2.CX R.prog w) 6 (He.ga K "_law_granted") fd ["ledger", "giver", "receiver", "right", "passing"] (spO K (Tz K) 5 ph__law_granted) ∧ Binds K fd ["ledger", "giver", "receiver", "right", "passing"] [] ∧ PySem.W.keepIn K (.ref (He.ga K "_law_granted")) = true := by
  obtain ⟨fd, F⟩ := T.F__law_granted
  obtain ⟨fd_Ledger_grant, G_Ledger_grant, ⟨_, kb_Ledger_grant⟩, k_Ledger_grant⟩ := DLedger_grant T
  obtain ⟨fd__law_is_integer, G__law_is_integer, b__law_is_integer, k__law_is_integer⟩ := D_law_is_integer T
  obtain ⟨_, _, _, _, _, _, _, no_UnknownName⟩ := T.sup_UnknownName
  have nd := sc_law_granted.nd
  refine ⟨fd, fn_obj (k := 5) F (codeOf_at (p := ("_law_granted", none)) F) sc_law_granted rfl (fun A outer s H E hr => ⟨r_law_granted, ?_, M_law_granted⟩), F.bindsN (ps := ["ledger", "giver", "receiver", "right", "passing"]) fun _ _ _ _ _ _ us hl => match us, hl with | [_, _, _, _, _], _ => rfl, F.kp⟩
  exact (ds_one (ds_tryM rfl rfl (takes_of rfl rfl rfl rfl) (fun W pn xe tk _ => (ds_cons (ds_setX (i := 6) nd rfl (by first | exact Or.inl rfl | exact Or.inr rfl) (dx_methK (C := "Ledger") (n := 3) (nk := 1) (j := 0) (ks := ["may_pass"]) rfl (by first | exact Or.inl rfl | exact Or.inr (Or.inl rfl) | exact Or.inr (Or.inr rfl)) T.cls_Ledger T.meth_Ledger_grant G_Ledger_grant (hr.mono (by decide)) kb_Ledger_grant (Ps.of tk) (da_cons (vV 1) (da_cons (vV 2) (da_cons (vV 3) da_nil))) (dk_cons (vV 4) dk_nil) rfl))
      (ds_one (ds_ret (de_ix (de_lst (da_cons (de_tup (da_cons de_str (da_cons de_int da_nil))) (da_cons (de_tup (da_cons de_str (da_cons (vV 6) da_nil))) da_nil))) (de_callTy dcl_int (by rfl) T.free_int (by decide +kernel) (da_consW (de_call G__law_is_integer (hr.mono (by decide)) rfl T.glo__law_is_integer k__law_is_integer b__law_is_integer (Ps.of tk) (da_cons (vV 6) da_nil)) dw_nil)) (fun _ _ => rfl))))))
      (.as (C := "UnknownName") (i := 5) nd rfl rfl ⟨rfl, by decide, .inl T.glo_UnknownName⟩ (hem_UnknownName T) (fun a dd oe pn hz hf => (ds_one (ds_ret (de_tup (da_cons de_str (da_cons (de_xf (C := "UnknownName") (f := "name") T.xc_UnknownName.1 no_UnknownName hz hf rfl (by first | exact Or.inl rfl | exact Or.inr (Or.inl rfl) | exact Or.inr (Or.inr rfl))) da_nil))))))
      (.as0 (C := "InvalidEntry") (i := 5) nd rfl rfl ⟨rfl, by decide, .inl T.glo_InvalidEntry⟩ (hem_InvalidEntry T) (fun a oe pn hz hf => (ds_one (ds_ret (de_tup (da_cons de_str (da_cons (de_callTy dcl_int (by rfl) T.free_int (by decide +kernel) (da_consW (de_and (de_isx0 (C := "InvalidEntry") T.xc_InvalidEntry.2 hz hf rfl (by first | exact Or.inl rfl | exact Or.inr (Or.inl rfl) | exact Or.inr (Or.inr rfl)) rfl T.free_isinstance (by decide +kernel) (pe_glob (v := .ref (He.ga K "WhoevermayError")) rfl T.glo_WhoevermayError rfl) (fun _ h => h) T.kit_InvalidEntry_WhoevermayError) (de_one (de_isx0 (C := "InvalidEntry") T.xc_InvalidEntry.2 hz hf rfl (by first | exact Or.inl rfl | exact Or.inr (Or.inl rfl) | exact Or.inr (Or.inr rfl)) rfl T.free_isinstance (by decide +kernel) (pe_bltn (v := .ty "ValueError") rfl T.free_ValueError rfl rfl) (fun _ h => h) T.kit_InvalidEntry_ValueError))) dw_nil)) da_nil))))))
      .nil))))
theorem sc_law_refused : FnScope N_law_refused ["owners"] (defScope s_law_refused) := ⟨rfl, rfl, rfl, by decide +kernel, rfl, by decide +kernel, by decide +kernel⟩
theorem D_law_refused (T : Tx w K mg base) : ∃ fd, FnOk R.prog w K mg base (L2.CX R.prog w) 6 (He.ga K "_law_refused") fd ["owners"] (spD K (Tz K) 1 ph__law_refused) ∧ Binds K fd ["owners"] [] ∧ PySem.W.keepIn K (.ref (He.ga K "_law_refused")) = true := by
  obtain ⟨fd, F⟩ := T.F__law_refused
  obtain ⟨fd_Ledger___init__, G_Ledger___init__, b_Ledger___init__, k_Ledger___init__⟩ := DLedger___init__ T
  have nd := sc_law_refused.nd
  refine ⟨fd, fn_data (k := 5) F (codeOf_at (p := ("_law_refused", none)) F) sc_law_refused rfl (fun A outer s H E hr => ⟨r_law_refused, ?_, M_law_refused⟩), F.bindsN (ps := ["owners"]) fun _ _ _ _ _ _ us hl => match us, hl with | [_], _ => rfl, F.kp⟩
  exact (ds_cons (ds_tryAs0 (C := "InvalidEntry") (i := 1) rfl rfl nd rfl rfl ⟨rfl, by decide, .inl T.glo_InvalidEntry⟩ (takes_of rfl rfl rfl rfl) (hem_InvalidEntry T)
      (fun W pn xe tk _ => (ds_one (ds_exprX (dx_make (C := "Ledger") (n := 1) T.mkr_Ledger G_Ledger___init__ (hr.mono (by decide)) rfl T.glo_Ledger b_Ledger___init__ (Ps.of tk) (da_cons (vV 0) da_nil)))))
      (fun a oe pn hz hf => (ds_one (ds_ret (de_and (de_isx0 (C := "InvalidEntry") T.xc_InvalidEntry.2 hz hf rfl (by first | exact Or.inl rfl | exact Or.inr (Or.inl rfl) | exact Or.inr (Or.inr rfl)) rfl T.free_isinstance (by decide +kernel) (pe_glob (v := .ref (He.ga K "WhoevermayError")) rfl T.glo_WhoevermayError rfl) (fun _ h => h) T.kit_InvalidEntry_WhoevermayError) (de_one (de_not (de_isx0 (C := "InvalidEntry") T.xc_InvalidEntry.2 hz hf rfl (by first | exact Or.inl rfl | exact Or.inr (Or.inl rfl) | exact Or.inr (Or.inr rfl)) rfl T.free_isinstance (by decide +kernel) (pe_glob (v := .ref (He.ga K "UnknownName")) rfl T.glo_UnknownName rfl) (fun _ h => h) T.kit_InvalidEntry_UnknownName))))))))
      (ds_one (ds_ret de_bl)))
theorem sc_law_told : FnScope N_law_told ["ledger", "grants"] (defScope s_law_told) := ⟨rfl, rfl, rfl, by decide +kernel, rfl, by decide +kernel, by decide +kernel⟩
theorem D_law_told (T : Tx w K mg base) : ∃ fd, FnOk R.prog w K mg base (L2.CX R.prog w) 5 (He.ga K "_law_told") fd ["ledger", "grants"] (spO K (Tz K) 2 ph__law_told) ∧ Binds K fd ["ledger", "grants"] [] ∧ PySem.W.keepIn K (.ref (He.ga K "_law_told")) = true := by
  obtain ⟨fd, F⟩ := T.F__law_told
  obtain ⟨fd_Ledger_grants, G_Ledger_grants, b_Ledger_grants⟩ := DLedger_grants T
  have nd := sc_law_told.nd
  refine ⟨fd, fn_obj (k := 4) F (codeOf_at (p := ("_law_told", none)) F) sc_law_told rfl (fun A outer s H E hr => ⟨r_law_told, ?_, M_law_told⟩), F.bindsN (ps := ["ledger", "grants"]) fun _ _ _ _ _ _ us hl => match us, hl with | [_, _], _ => rfl, F.kp⟩
  exact (ds_cons (ds_set (i := 2) nd rfl (by first | exact Or.inl rfl | exact Or.inr rfl) (de_propR (C := "Ledger") (j := 0) rfl (by first | exact Or.inl rfl | exact Or.inr (Or.inl rfl) | exact Or.inr (Or.inr rfl)) T.cls_Ledger T.P_Ledger_grants.1 G_Ledger_grants (hr.mono (by decide)) b_Ledger_grants))
      (ds_cons (ds_if (dt_cmp (dop_ne hr.units) (de_lc (own := [("grant", 3)]) (tt := dYes) (te := (dTup (dCons (dFld "Grant" "giver" (dVar 3)) (dCons (dFld "Grant" "receiver" (dVar 3)) (dCons (dFld "Grant" "right" (dVar 3)) (dCons (dFld "Grant" "may_pass" (dVar 3)) dNil)))))) rfl nd (di_val (vB 2)) (blkOk_by (own := [("grant", 3)]) (N := N_law_told) (sc := defScope s_law_told) (by decide +kernel)) rfl (fun _ _ _ _ _ => pg_name (i := 3) nd rfl (by first | exact Or.inl rfl | exact Or.inr rfl)) (fun _ _ _ _ _ => dts_nil) (fun _ _ _ _ _ => (de_tup (da_cons (de_fld (C := "Grant") (vV 3) T.cls_Grant T.noat_Grant_giver) (da_cons (de_fld (C := "Grant") (vV 3) T.cls_Grant T.noat_Grant_receiver) (da_cons (de_fld (C := "Grant") (vV 3) T.cls_Grant T.noat_Grant_right) (da_cons (de_fld (C := "Grant") (vV 3) T.cls_Grant T.noat_Grant_may_pass) da_nil))))))) (vB 1) (nomark _)) (ds_one (ds_ret de_bl)) ds_nil)
      (ds_cons (ds_clear (i := 2) rfl (by first | exact Or.inl rfl | exact Or.inr (Or.inl rfl) | exact Or.inr (Or.inr rfl)))
      (ds_one (ds_ret (de_cmp (dop_eq hr.units) (de_lc (own := [("grant", 3)]) (tt := dYes) (te := (dTup (dCons (dFld "Grant" "giver" (dVar 3)) (dCons (dFld "Grant" "receiver" (dVar 3)) (dCons (dFld "Grant" "right" (dVar 3)) (dCons (dFld "Grant" "may_pass" (dVar 3)) dNil)))))) rfl nd (di_val (de_propR (C := "Ledger") (j := 0) rfl (by first | exact Or.inl rfl | exact Or.inr (Or.inl rfl) | exact Or.inr (Or.inr rfl)) T.cls_Ledger T.P_Ledger_grants.1 G_Ledger_grants (hr.mono (by decide)) b_Ledger_grants)) (blkOk_by (own := [("grant", 3)]) (N := N_law_told) (sc := defScope s_law_told) (by decide +kernel)) rfl (fun _ _ _ _ _ => pg_name (i := 3) nd rfl (by first | exact Or.inl rfl | exact Or.inr rfl)) (fun _ _ _ _ _ => dts_nil) (fun _ _ _ _ _ => (de_tup (da_cons (de_fld (C := "Grant") (vV 3) T.cls_Grant T.noat_Grant_giver) (da_cons (de_fld (C := "Grant") (vV 3) T.cls_Grant T.noat_Grant_receiver) (da_cons (de_fld (C := "Grant") (vV 3) T.cls_Grant T.noat_Grant_right) (da_cons (de_fld (C := "Grant") (vV 3) T.cls_Grant T.noat_Grant_may_pass) da_nil))))))) (vB 1) (nomark _)))))))
theorem sc_law_names : FnScope N_law_names ["number", "many"] (defScope s_law_names) := ⟨rfl, rfl, rfl, by decide +kernel, rfl, by decide +kernel, by decide +kernel⟩
theorem D_law_names (T : Tx w K mg base) : ∃ fd, FnOk R.prog w K mg base (L2.CX R.prog w) 1 (He.ga K "_law_names") fd ["number", "many"] (spD K (Tz K) 2 ph__law_names) ∧ Binds K fd ["number", "many"] [] ∧ PySem.W.keepIn K (.ref (He.ga K "_law_names")) = true := by
  obtain ⟨fd, F⟩ := T.F__law_names
  have nd := sc_law_names.nd
  refine ⟨fd, fn_data (k := 0) F (codeOf_at (p := ("_law_names", none)) F) sc_law_names rfl (fun A outer s H E hr => ⟨r_law_names, ?_, M_law_names⟩), F.bindsN (ps := ["number", "many"]) fun _ _ _ _ _ _ us hl => match us, hl with | [_, _], _ => rfl, F.kp⟩
  exact (ds_cons (ds_set (i := 2) nd rfl (by first | exact Or.inl rfl | exact Or.inr rfl) de_str)
      (ds_cons (ds_set (i := 3) nd rfl (by first | exact Or.inl rfl | exact Or.inr rfl) (de_bin dop_mod (de_callTy dcl_int (by rfl) T.free_int (by decide +kernel) (da_consW (vB 0) dw_nil)) de_int))
      (ds_cons (ds_set (i := 4) nd rfl (by first | exact Or.inl rfl | exact Or.inr rfl) (de_join de_str (de_lc (own := [("k", 7)]) (tt := dYes) (te := (dBin gIx (dVarB 2) (dBin gMod (dBlt gInt (dConsW (dBin gAdd (dVarB 0) (dBin gMul (dBin gMul (dC (.int 7)) (dVarB 7)) (dVarB 7))) dNil)) (dC (.int 36))))) rfl nd (di_rng rfl T.free_range (da_consW (vB 3) dw_nil)) (blkOk_by (own := [("k", 7)]) (N := N_law_names) (sc := defScope s_law_names) (by decide +kernel)) rfl (fun _ _ _ _ _ => pg_name (i := 7) nd rfl (by first | exact Or.inl rfl | exact Or.inr rfl)) (fun _ _ _ _ _ => dts_nil) (fun _ _ _ _ _ => (de_ix (vB 2) (de_bin dop_mod (de_callTy dcl_int (by rfl) T.free_int (by decide +kernel) (da_consW (de_bin dop_add (vB 0) (de_bin dop_mul (de_bin dop_mul de_int (vB 7)) (vB 7))) dw_nil)) de_int) (fun _ _ => rfl))))))
      (ds_cons (ds_set (i := 5) nd rfl (by first | exact Or.inl rfl | exact Or.inr rfl) (de_bin dop_mod (de_callTy dcl_int (by rfl) T.free_int (by decide +kernel) (da_consW (de_bin dop_div (vB 0) de_int) dw_nil)) (de_bin dop_add (vB 3) de_int)))
      (ds_cons (ds_set (i := 6) nd rfl (by first | exact Or.inl rfl | exact Or.inr rfl) (de_lst da_nil))
      (ds_cons (ds_for (passes_of rfl) rfl (di_rng rfl T.free_range (da_consW (vB 1) dw_nil)) (dg_name (i := 7) nd rfl (by first | exact Or.inl rfl | exact Or.inr rfl)) (ds_cons (ds_set (i := 8) nd rfl (by first | exact Or.inl rfl | exact Or.inr rfl) (vV 4))
      (ds_cons (ds_if (dt_cmp (dop_eq hr.units) (de_bin dop_mod (de_callTy dcl_int (by rfl) T.free_int (by decide +kernel) (da_consW (de_bin dop_add (de_bin dop_div (vB 0) de_int) (vB 7)) dw_nil)) de_int) de_int (nomark _)) (ds_one (ds_set (i := 8) nd rfl (by first | exact Or.inl rfl | exact Or.inr rfl) (de_slice (vB 4) (do_some de_int) do_none))) ds_nil)
      (ds_cons (ds_set (i := 9) nd rfl (by first | exact Or.inl rfl | exact Or.inr rfl) (de_callB (dcl_min rfl) (by rfl) T.free_min (by decide +kernel) (da_consW (vB 5) (da_consW (de_callB dcl_lenA (by rfl) T.free_len PySem.boot_len (da_consW (vB 8) dw_nil)) dw_nil))))
      (ds_cons (ds_set (i := 10) nd rfl (by first | exact Or.inl rfl | exact Or.inr rfl) de_int)
      (ds_cons (ds_if (dt_cmp (dop_eq hr.units) (de_bin dop_mod (de_callTy dcl_int (by rfl) T.free_int (by decide +kernel) (da_consW (de_bin dop_div (vB 0) de_int) dw_nil)) de_int) de_int (nomark _)) (ds_one (ds_set (i := 10) nd rfl (by first | exact Or.inl rfl | exact Or.inr rfl) de_int)) ds_nil)
      (ds_one (ds_append (i := 6) rfl (by first | exact Or.inl rfl | exact Or.inr (Or.inl rfl) | exact Or.inr (Or.inr rfl)) (de_bin dop_add (de_bin dop_add (de_bin dop_add (de_ix (vB 2) (de_bin dop_mod (de_callTy dcl_int (by rfl) T.free_int (by decide +kernel) (da_consW (de_bin dop_add (vB 0) (de_bin dop_mul de_int (vB 7))) dw_nil)) de_int) (fun _ _ => rfl)) (de_slice (vB 8) do_none (do_some (vB 9)))) (de_ix (vB 2) (de_bin dop_mod (de_callTy dcl_int (by rfl) T.free_int (by decide +kernel) (da_consW (de_bin dop_add (vB 0) (de_bin dop_mul (vB 10) (vB 7))) dw_nil)) de_int) (fun _ _ => rfl))) (de_slice (vB 8) (do_some (vB 9)) do_none))))))))))
      (ds_one (ds_ret (vV 6)))))))))
theorem sc_law_owners : FnScope N_law_owners ["numbers", "at"] (defScope s_law_owners) := ⟨rfl, rfl, rfl, by decide +kernel, rfl, by decide +kernel, by decide +kernel⟩
theorem D_law_owners (T : Tx w K mg base) : ∃ fd, FnOk R.prog w K mg base (L2.CX R.prog w) 2 (He.ga K "_law_owners") fd ["numbers", "at"] (spD K (Tz K) 2 ph__law_owners) ∧ Binds K fd ["numbers", "at"] [] ∧ PySem.W.keepIn K (.ref (He.ga K "_law_owners")) = true := by
  obtain ⟨fd, F⟩ := T.F__law_owners
  obtain ⟨fd__law_names, G__law_names, b__law_names, k__law_names⟩ := D_law_names T
  have nd := sc_law_owners.nd
  refine ⟨fd, fn_data (k := 1) F (codeOf_at (p := ("_law_owners", none)) F) sc_law_owners rfl (fun A outer s H E hr => ⟨r_law_owners, ?_, M_law_owners⟩), F.bindsN (ps := ["numbers", "at"]) fun _ _ _ _ _ _ us hl => match us, hl with | [_, _], _ => rfl, F.kp⟩
  exact (ds_cons (ds_set (i := 2) nd rfl (by first | exact Or.inl rfl | exact Or.inr rfl) (de_call G__law_names (hr.mono (by decide)) rfl T.glo__law_names k__law_names b__law_names (Ps.of (takes_of rfl rfl rfl rfl)) (da_cons (de_ix (vB 0) (vB 1) (fun _ _ => rfl)) (da_cons de_int da_nil))))
      (ds_cons (ds_set (i := 3) nd rfl (by first | exact Or.inl rfl | exact Or.inr rfl) (de_slice (de_call G__law_names (hr.mono (by decide)) rfl T.glo__law_names k__law_names b__law_names (Ps.of (takes_of rfl rfl rfl rfl)) (da_cons (de_ix (vB 0) (de_bin dop_add (vB 1) de_int) (fun _ _ => rfl)) (da_cons de_int da_nil))) do_none (do_some (de_bin dop_mod (de_callTy dcl_int (by rfl) T.free_int (by decide +kernel) (da_consW (de_ix (vB 0) (de_bin dop_add (vB 1) de_int) (fun _ _ => rfl)) dw_nil)) de_int))))
      (ds_one (ds_ret (de_lc (own := [("k", 4)]) (tt := dYes) (te := (dTup (dCons (dBin gIx (dVarB 3) (dVarB 4)) (dCons (dBin gIx (dVarB 2) (dBin gMod (dBlt gInt (dConsW (dBin gIx (dVarB 0) (dBin gAdd (dBin gAdd (dVarB 1) (dC (.int 3))) (dVarB 4))) dNil)) (dC (.int 3)))) dNil)))) rfl nd (di_rng rfl T.free_range (da_consW (de_callB dcl_lenA (by rfl) T.free_len PySem.boot_len (da_consW (vB 3) dw_nil)) dw_nil)) (blkOk_by (own := [("k", 4)]) (N := N_law_owners) (sc := defScope s_law_owners) (by decide +kernel)) rfl (fun _ _ _ _ _ => pg_name (i := 4) nd rfl (by first | exact Or.inl rfl | exact Or.inr rfl)) (fun _ _ _ _ _ => dts_nil) (fun _ _ _ _ _ => (de_tup (da_cons (de_ix (vB 3) (vB 4) (fun _ _ => rfl)) (da_cons (de_ix (vB 2) (de_bin dop_mod (de_callTy dcl_int (by rfl) T.free_int (by decide +kernel) (da_consW (de_ix (vB 0) (de_bin dop_add (de_bin dop_add (vB 1) de_int) (vB 4)) (fun _ _ => rfl)) dw_nil)) de_int) (fun _ _ => rfl)) da_nil)))))))))
end
end K8

-- part DO18
set_option Elab.async false
set_option linter.all false
set_option maxRecDepth 100000
set_option maxHeartbeats 2000000
/-! an object made of a list of one's own that changes later -/
namespace DL
open PySem PySem.Spec PyProof.Rows L2 GxR GS GA GD
section
variable {K : PySem.W.Frag} {Ts A O : AP} {H : Hp} {ρ : List Sl} {σ : L2.St} {a : Addr} {k : Nat} {us : List V} {ds0 : List D}
theorem Mt.toRl (m : Mt K Ts H A O ρ σ) (e : ρ[k]? = some (.va (.xn a))) (h : H a = some (.lst us)) (r : RpL K H A ds0 us) (hO : ¬ O a) : Mt K Ts H A O (ρ.set k (.rl ds0)) σ := by
  obtain ⟨g, m⟩ := m
  have hk : k < ρ.length := (List.getElem?_eq_some_iff.mp e).1
  obtain ⟨o, eo, v, e1, e2, e3⟩ := m.get e
  subst e1
  have ev : v = .ref a := by unfold Rp at e3; exact e3
  subst ev
  refine ⟨g, m.tab, m.sub, m.trk, by rw [List.length_set, m.len], fun i s o e4 e5 => ?_, m.nod, m.dis, m.all, fun i hi => m.out i (by rw [List.length_set] at hi; exact hi)⟩
  by_cases hik : i = k
  · subst hik
    rw [List.getElem?_set_self hk] at e4
    cases e4
    rw [eo] at e5
    cases e5
    exact ⟨e2, _, [a], rfl, ⟨a, us, rfl, rfl, h, r⟩, fun b hb z => hO (by rw [List.mem_singleton.mp hb] at z; exact z)⟩
  · rw [getElem?_set_ne' (fun z => hik z.symm)] at e4
    exact m.at_ i s o e4 e5
theorem Tr.more {A' O' : AP} {H' : Hp} (t : Tr A O H A' O' H') : Tr A (fun b => O b ∨ b = a) H A' (fun b => O' b ∨ b = a) H' :=
  ⟨⟨fun b u e n tb => t.kp.st b u e (fun z w => n z (.inl w)) tb, t.kp.tb, t.kp.fr⟩, t.new, fun b hb n => t.old b hb fun w => n (.inl w), fun b z => z.elim (fun w => (t.own b w).imp .inl id) fun w => .inl (.inr w)⟩
end
section
variable {Ts : AP} {n : Nat} {φ : PhO} {C : Str}
theorem up_makeL {K : PySem.W.Frag} {σ : L2.St} {H : Hp} {A O : AP} {ρ : List Sl} {E : XK} {Q : VK} {ds ds0 : List D} {vs us : List V} {x dx a : Addr} {j p : Nat} {Qs : Sl → Prop} {Xs : Xc → Prop} (m : Mt K Ts H A O ρ σ) (ho : okO j a ρ) (ha : H a = some (.lst us)) (ra : RpL K H A ds0 us) (aA : A a) (nO : ¬ O a) (r : RpL K H A ds vs) (hp : ds[p]? = some (.xn a)) (hn : vs.length = n) (hx : H x = none) (hdx : H dx = none) (ne : dx ≠ x)
    (h : φ (.ob x C [] :: argS ds p (.rl ds0)) (fun s ss' => s = .va .non ∧ ntl (ss'.getD 0 .no) = true ∧ Qs (ss'.getD 0 .no)) fun x ss' => ntl (ss'.getD 0 .no) = true ∧ Xs x)
    (kq : ∀ s H' A' O', Qs s → Tr A (fun b => O b ∨ b = a) H A' O' H' → Mt K Ts H' A' O' (s :: ρ.set j (.ow ds0)) (some (.ref x) :: σ) → Q (.ref x) H') (kx : ∀ e cls od H' A' O', Xs e → Tr A (fun b => O b ∨ b = a) H A' O' H' → Mt K Ts H' A' O' (ρ.set j (.ow ds0)) σ → XR K H' A' e cls od → E cls od H') :
    spO K Ts (n + 1) φ (.ref x :: vs) (upd (upd H dx (.own x)) x (.ins (He.ga K C) dx [])) (fun v H2 => v = .non ∧ Q (.ref x) H2) E := by
  have hx2 : upd H dx (.own x) x = none := by rw [upd_ne (Ne.symm ne)]; exact hx
  have s2 : Sm H (upd (upd H dx (.own x)) x (.ins (He.ga K C) dx [])) := (Sm.new hdx).trans (Sm.new hx2)
  have hh : (upd (upd H dx (.own x)) x (.ins (He.ga K C) dx [])) x = some (.ins (He.ga K C) dx []) := upd_same
  generalize upd (upd H dx (.own x)) x (.ins (He.ga K C) dx []) = H2 at s2 hh ⊢
  have m2 := m.frO (C := C) hx s2 hh
  have t2 : Tr A O H _ _ H2 := Tr.frO hx s2
  have r2 : RpL K H2 (fun b => A b ∨ b = x) (.xn x :: ds) (.ref x :: vs) := RpL.cons (by unfold Rp; rfl) ((r.fresh hx).sm s2)
  have ha2 : H2 a = some (.lst us) := s2.st a _ ha fun ps z => by cases z
  have ra2 : RpL K H2 (fun b => A b ∨ b = x) ds0 us := (ra.fresh hx).sm s2
  have ax : a ≠ x := fun z => by rw [z, hx] at ha; cases ha
  obtain ⟨g, m2⟩ := m2
  have es : (Sl.ob x C [] :: ρ)[0]? = some (.ob x C []) := rfl
  have g0 : ∀ b, b ∈ g 0 → b = x := fun b hb => by
    obtain ⟨v, e, dx', ws, R1, e1, e2, e3, e4⟩ := m2.at_ 0 _ _ rfl rfl
    rw [e2] at hb
    cases e4.1
    rw [e4.2] at hb
    exact List.mem_singleton.mp hb
  have ag : a ∉ g 0 := fun z => ax (g0 a z)
  have ml : Mt K Ts H2 (fun b => A b ∨ b = x) (fun b => b ∈ g 0) (.ob x C [] :: argS ds p (.rl ds0)) ((V.ref x :: vs).map some) := by
    have e2 : (argS (.xn x :: ds) 0 (.ob x C []))[p + 1]? = some (.va (.xn a)) := by
      show (ds.map Sl.va)[p]? = _
      rw [List.getElem?_map, hp]
      rfl
    exact (m2.lend (p := 0) es r2 rfl).toRl e2 ha2 ra2 ag
  have key : ∀ {A' O' : AP} {H' : Hp}, Tr (fun b => A b ∨ b = x) (fun b => b ∈ g 0) H2 A' O' H' → H' a = some (.lst us) ∧ RpL K H' A' ds0 us ∧ A' a := fun t => ⟨t.kp.st a _ ha2 (fun _ => ag) (fun ps z => by cases z), ra2.tr t fun b hb => .inr (g0 b hb), t.old a (.inl aA) ag⟩
  have nO2 : ∀ {A' O' : AP} {H' : Hp}, Tr (fun b => A b ∨ b = x) (fun b => O b ∨ b = x) H2 A' O' H' → ¬ O' a := fun t z => (t.own a z).elim (fun w => w.elim nO ax) fun w => by rw [ha2] at w; cases w
  refine ⟨by rw [List.length_cons, hn], _, _, _, _, _, ml, h, fun s ss' v H' A' O' q t m' => ?_, fun e ss' cls od H' A' O' q t m' rx => ?_⟩
  · obtain ⟨rfl, q1, q2⟩ := q
    obtain ⟨O2, m3, t3⟩ := m2.back (p := 0) es (by rfl) q1 t m' rfl
    obtain ⟨v2, e, h0⟩ := m3.va 0 _ rfl
    cases e
    unfold Rp at h0
    obtain ⟨O3, m4, t4⟩ := m3.uncons
    obtain ⟨k1, k2, k3⟩ := key t
    have T := t3.trans t4 (Mt.trk ⟨g, m2⟩)
    have m5 := m4.unmask (j := j + 1) (a := a) (ds := ds0) (by show ρ[j]? = _; exact ho.1) k1 k2 k3 (nO2 T) (by
      intro s hs
      rcases List.mem_cons.mp hs with rfl | hs
      · exact q1
      · exact ho.2 s hs)
    exact ⟨h0, kq _ H' A' _ q2 (t2.trans T m.trk).more m5⟩
  · obtain ⟨O2, m3, t3⟩ := m2.backX (p := 0) es q.1 t m' rfl
    obtain ⟨O3, m4, t4⟩ := m3.uncons
    obtain ⟨k1, k2, k3⟩ := key t
    have T := t3.trans t4 (Mt.trk ⟨g, m2⟩)
    have m5 := m4.unmask (j := j) (a := a) (ds := ds0) ho.1 k1 k2 k3 (nO2 T) ho.2
    exact kx e cls od H' A' _ q.2 (t2.trans T m.trk).more m5 rx
/-- C(.., y, ..), y a list of one's own that is looked at -/
def dMakeL (C : Str) (n : Nat) (φ : PhO) (j p : Nat) (ta : DA) : DX := fun X ρ Q => owAt ρ j fun ds0 => ∀ a : Addr, ta X0 (ρ.set j (.va (.xn a))) fun ds ρ1 => ds.length = n ∧ okO j a ρ1 ∧ ds[p]? = some (.xn a) ∧ ∀ x,
  φ (.ob x C [] :: argS ds p (.rl ds0)) (fun s ss' => s = .va .non ∧ ntl (ss'.getD 0 .no) = true ∧ Q (ss'.getD 0 .no) (ρ1.set j (.ow ds0))) fun x ss' => ntl (ss'.getD 0 .no) = true ∧ X x (ρ1.set j (.ow ds0))
theorem dMakeL_ev {j p : Nat} {ta : DA} {X : XF} {ρ : List Sl} {R : Sl → List Sl → Prop} : dMakeL C n φ j p ta X ρ R = owAt ρ j (kk fun ds0 => ∀ a : Addr, ta X0 (ρ.set j (.va (.xn a))) (kk fun ds ρ1 => ds.length = n ∧ okO j a ρ1 ∧ ds[p]? = some (.xn a) ∧ ∀ x,
  φ (.ob x C [] :: argS ds p (.rl ds0)) (kk fun s ss' => s = .va .non ∧ ntl (ss'.getD 0 .no) = true ∧ R (ss'.getD 0 .no) (ρ1.set j (.ow ds0))) (kk fun x ss' => ntl (ss'.getD 0 .no) = true ∧ X x (ρ1.set j (.ow ds0))))) := rfl
variable {X : Cx} {W : WX} {k j p : Nat} {f : Addr} {fd : FuncData} {ps : List Str} {pos p1 : Pos} {e : Expr} {es : List Expr} {ta : DA}
theorem dx_makeL (M : Mk X.K (He.ga X.K C) f) (F : FnOk X.prog X.w X.K X.mg X.base (L2.CX X.prog X.w) k f fd ps (spO X.K Ts (n + 1) φ)) (hr : Room (k + 1) X.A) (hg : Gl X C) (hm : X.mg C = some (.ref (He.ga X.K C))) (hb : Binds X.K fd ps []) (hx : Ps X W) (ha : PA X (e :: es) (upA X.K Ts W ta)) (hdb : (C == ("__debug__" : Str)) = false := by decide) (he : starEach (e :: es) X.env = (false, eval e X.env) :: starEach es X.env := by rfl) (hpl : (backTo pos (starEach es X.env)).any (·.1) = false := by rfl) :
    PE X (.Call (.Name C p1) (e :: es) [] pos) (upX X.K Ts W (dMakeL C n φ j p ta)) := by
  refine (pe_makeS M F hr hg hm hb hx ha hdb he hpl).imp fun σ H Q h => ?_
  obtain ⟨A, O, ρ, Xf, Qd, m, h, c⟩ := h
  obtain ⟨ds0, ej, h⟩ := h.get
  obtain ⟨a, us, O0, eσ, hA, r0, hO, hO0, m0, t0⟩ := m.mask ej
  refine ⟨A, O0, _, X0, _, m0, h a, fun ds ρ1 vs H1 A1 O1 h1 s1 t1 m1 r1 x dx e1 e2 e3 => ?_, fun _ _ _ _ _ _ _ z => z.elim⟩
  obtain ⟨hl, ho, hp, h1⟩ := h1
  have hA1 : H1 a = some (.lst us) := t1.kp.st a _ hA (fun _ => hO0) fun ps z => by cases z
  have aA1 : A1 a := t1.old a (m.sub a hO) hO0
  have nO1 : ¬ O1 a := fun z => (t1.own a z).elim hO0 fun w => by rw [hA] at w; cases w
  have ra := r0.tr t1 m0.sub
  have T := t0.trans t1 m.trk
  have c1 := c.move (A1 := A1) (O1 := fun b => O1 b ∨ b = a) (H1 := H1) ⟨T.kp, T.new, T.old, fun b z => z.elim (T.own b) fun w => .inl (by rw [w]; exact hO)⟩ m
  exact up_makeL (Qs := fun s => Qd s (ρ1.set j (.ow ds0))) (Xs := fun e => Xf e (ρ1.set j (.ow ds0))) m1 ho hA1 ra aA1 nO1 r1 hp (by rw [← r1.len]; exact hl) e1 e2 e3 (h1 x) (fun s H' A' O' q t m' => c1.q s _ _ H' A' O' q t m') fun e cls od H' A' O' q t m' rx => c1.x e _ cls od H' A' O' q t m' rx
end
end DL

-- part DO19
set_option Elab.async false
set_option linter.all false
set_option maxRecDepth 100000
set_option maxHeartbeats 2000000
/-! tests with effects -/
namespace DL
open PySem PySem.Spec PyProof.Rows L2 GxR GS GA GD
structure CnBX (K : PySem.W.Frag) (Ts : AP) (W : WX) (σ : L2.St) (H : Hp) (A O : AP) (X : XF) (Qd : Bool → List Sl → Prop) (Q : Bool → Hp → Prop) : Prop where
  q : ∀ b ρ' H' A' O', Qd b ρ' → Tr A O H A' O' H' → Mt K Ts H' A' O' ρ' σ → Q b H'
  x : ∀ x ρ' cls od H' A' O', X x ρ' → Tr A O H A' O' H' → Mt K Ts H' A' O' ρ' σ → XR K H' A' x cls od → W cls od σ H'
def upTX (K : PySem.W.Frag) (Ts : AP) (W : WX) (t : DT) : TT := fun σ H Q => ∃ A O ρ X Qd, Mt K Ts H A O ρ σ ∧ t X ρ Qd ∧ CnBX K Ts W σ H A O X Qd Q
theorem CnBX.move {K : PySem.W.Frag} {Ts A O A1 O1 : AP} {W : WX} {σ : L2.St} {H H1 : Hp} {X : XF} {ρ : List Sl} {Qd : Bool → List Sl → Prop} {Q : Bool → Hp → Prop} (c : CnBX K Ts W σ H A O X Qd Q) (t : Tr A O H A1 O1 H1) (m : Mt K Ts H A O ρ σ) : CnBX K Ts W σ H1 A1 O1 X Qd Q where
  q := fun b ρ' H' A' O' h t' m' => c.q b ρ' H' A' O' h (t.trans t' m.trk) m'
  x := fun x ρ' cls od H' A' O' h t' m' r => c.x x ρ' cls od H' A' O' h (t.trans t' m.trk) m' r
def vaX (s : Sl) (Q : D → Prop) : Prop := match s with
  | .va d => Q d
  | _ => False
theorem vaX_va {d : D} {Q : D → Prop} : vaX (.va d) Q = Q d := rfl
theorem vaX.get {s : Sl} {Q : D → Prop} (h : vaX s Q) : ∃ d, s = .va d ∧ Q d := by
  cases s with
  | va d => exact ⟨d, rfl, h⟩
  | _ => exact h.elim
section
variable {X : Cx} {Ts : AP} {W : WX} {a b e : Expr} {tx : DX} {tb : DE} {pos : Pos} {g : D → D → (D → Kd → Prop) → Prop} {t u : DT} {rest : List Expr}
theorem dtx_t (h : PT X e (upT X.K Ts W t)) : PT X e (upTX X.K Ts W t) :=
  h.imp fun σ H Q ⟨A, O, ρ, Xf, Qd, m, h, c⟩ => ⟨A, O, ρ, Xf, Qd, m, h, fun b ρ' H' A' O' q _ t' m' => c.q b ρ' H' A' O' q t' m', c.x⟩
theorem dwx_t (h : PW X e (upT X.K Ts W t)) : PW X e (upTX X.K Ts W t) :=
  h.imp fun σ H Q ⟨A, O, ρ, Xf, Qd, m, h, c⟩ => ⟨A, O, ρ, Xf, Qd, m, h, fun b ρ' H' A' O' q _ t' m' => c.q b ρ' H' A' O' q t' m', c.x⟩
/-- a op b, a with effects -/
def dTstX (g : D → D → (D → Kd → Prop) → Prop) (tx : DX) (tb : DE) : DT := fun X ρ Q => tx X ρ fun s ρ1 => vaX s fun d => tb X ρ1 fun e _ ρ2 => g d e fun z _ => match z with
  | .bl c => Q c ρ2
  | _ => False
theorem dTstX_ev {X : XF} {ρ : List Sl} {Q : Bool → List Sl → Prop} : dTstX g tx tb X ρ Q = tx X ρ (kk fun s ρ1 => vaX s (kk fun d => tb X ρ1 (kk fun e _ ρ2 => g d e (kk fun z _ => tK z (kk fun c => Q c ρ2))))) := by
  rfl
theorem dtx_cmp {op : CmpOp} (ho : DOp X Ts (compareOp op) g) (ha : PE X a (upX X.K Ts W tx)) (hb : PE X b (upE X.K Ts W tb)) (hm : behindInMarks op b = false) : PT X (.Compare a [op] [b] pos) (upTX X.K Ts W (dTstX g tx tb)) := by
  obtain ⟨r, h1, h2⟩ := ho
  refine (pt_cmpR h1 ha hb hm).imp fun σ H Q h => ?_
  obtain ⟨A, O, ρ, Xf, Qd, m, h, c⟩ := h
  refine ⟨A, O, ρ, Xf, _, m, h, fun s ρ1 v H1 A1 O1 h1 t1 m1 => ?_, c.x⟩
  obtain ⟨d, rfl, h1⟩ := h1.get
  obtain ⟨v2, e2, r1⟩ := m1.va 0 d rfl
  cases e2
  obtain ⟨O2, m2, t2⟩ := m1.uncons
  have t12 := t1.trans t2 m.trk
  have c1 := c.move t12 m
  refine ⟨A1, O2, ρ1, Xf, _, m2, h1, fun e κ2 ρ2 w H3 A3 O3 h3 s3 t3 m3 r3 => ?_, c1.x⟩
  have c2 := c1.move t3 m2
  refine h2 W σ H3 A3 O3 ρ2 Xf (fun z _ ρ' => match z with | .bl c => Qd c ρ' | _ => False) _ d e v w ((Wk.of r1).tr s3 t3 m2.sub) r3.wk m3 ⟨fun z κ ρ' v' H' A' O' q s' t' m' r' => ?_, c2.x⟩ h3
  split at q
  · rename_i b
    have r2 := r'.wk
    unfold Wk Rp at r2
    exact ⟨b, r2, c2.q b ρ' H' A' O' q t' m'⟩
  · exact q.elim
/-- a value with effects as a test -/
def dTstXV (tx : DX) : DT := fun X ρ Q => tx X ρ fun s ρ1 => vaX s fun z => match z with
  | .bl c => Q c ρ1
  | _ => False
theorem dTstXV_ev {X : XF} {ρ : List Sl} {Q : Bool → List Sl → Prop} : dTstXV tx X ρ Q = tx X ρ (kk fun s ρ1 => vaX s (kk fun z => tK z (kk fun c => Q c ρ1))) := rfl
theorem dtx_val (h : PE X e (upX X.K Ts W tx)) (he : ∀ whole, isTrue e X.env whole = (do let v ← whole; standAt e.pos; holding [v] (truthy v)) := by intro _; rfl) : PT X e (upTX X.K Ts W (dTstXV tx)) :=
  (pt_val h he).imp fun σ H Q h => by
    obtain ⟨A, O, ρ, Xf, Qd, m, h, c⟩ := h
    refine ⟨A, O, ρ, Xf, _, m, h, fun s ρ1 v H1 A1 O1 h1 t1 m1 => ?_, c.x⟩
    obtain ⟨d, rfl, h1⟩ := h1.get
    obtain ⟨v2, e2, r1⟩ := m1.va 0 d rfl
    cases e2
    obtain ⟨O2, m2, t2⟩ := m1.uncons
    clear h1
    rename_i h1
    split at h1
    · rename_i b
      unfold Rp at r1
      exact ⟨b, r1, c.q b ρ1 H1 A1 O2 h1 (t1.trans t2 m.trk) m2⟩
    · exact h1.elim
theorem dwx_and1 (ha : PT X a (upTX X.K Ts W t)) : PW X (.BoolOp .And [a] pos) (upTX X.K Ts W t) := pw_and1 ha
theorem dwx_or1 (ha : PT X a (upTX X.K Ts W t)) : PW X (.BoolOp .Or [a] pos) (upTX X.K Ts W t) := pw_or1 ha
theorem dwx_and (ha : PT X a (upTX X.K Ts W t)) (hb : PW X (.BoolOp .And (b :: rest) pos) (upTX X.K Ts W u)) : PW X (.BoolOp .And (a :: b :: rest) pos) (upTX X.K Ts W (dAnd t u)) := by
  refine (pw_and ha hb).imp fun σ H Q h => ?_
  obtain ⟨A, O, ρ, Xf, Qd, m, h, c⟩ := h
  refine ⟨A, O, ρ, Xf, _, m, h, fun b ρ1 H1 A1 O1 h1 t1 m1 => ?_, c.x⟩
  cases b with
  | true => exact ⟨A1, O1, ρ1, Xf, Qd, m1, h1, c.move t1 m⟩
  | false => exact c.q false ρ1 H1 A1 O1 h1 t1 m1
theorem dwx_or (ha : PT X a (upTX X.K Ts W t)) (hb : PW X (.BoolOp .Or (b :: rest) pos) (upTX X.K Ts W u)) : PW X (.BoolOp .Or (a :: b :: rest) pos) (upTX X.K Ts W (dOr t u)) := by
  refine (pw_or ha hb).imp fun σ H Q h => ?_
  obtain ⟨A, O, ρ, Xf, Qd, m, h, c⟩ := h
  refine ⟨A, O, ρ, Xf, _, m, h, fun b ρ1 H1 A1 O1 h1 t1 m1 => ?_, c.x⟩
  cases b with
  | true => exact c.q true ρ1 H1 A1 O1 h1 t1 m1
  | false => exact ⟨A1, O1, ρ1, Xf, Qd, m1, h1, c.move t1 m⟩
theorem dtx_not (ha : PT X a (upTX X.K Ts W t)) : PT X (.UnaryOp .Not a pos) (upTX X.K Ts W (dNot t)) := by
  refine (pt_not ha).imp fun σ H Q h => ?_
  obtain ⟨A, O, ρ, Xf, Qd, m, h, c⟩ := h
  exact ⟨A, O, ρ, Xf, _, m, h, fun b ρ1 H1 A1 O1 h1 t1 m1 => c.q _ ρ1 H1 A1 O1 h1 t1 m1, c.x⟩
theorem ds_ifX {c : Expr} {a b : List Stmt} {tc : DT} {ta tb : DS} (hc : PT X c (upTX X.K Ts W tc)) (ha : PSs X a (upS X.K Ts W ta)) (hb : PSs X b (upS X.K Ts W tb)) : PS X (.If c a b pos) (upS X.K Ts W (dIfS tc ta tb)) := by
  refine (ps_if hc ha hb).imp fun E σ H h => ?_
  obtain ⟨A, O, ρ, Xf, N, m, h, c⟩ := h
  refine ⟨A, O, ρ, Xf, _, m, h, fun b ρ1 H1 A1 O1 h1 t1 m1 => ?_, fun x ρ' cls od H' A' O' => c.x x ρ' cls od σ H' A' O'⟩
  cases b with
  | true => exact ⟨A1, O1, ρ1, Xf, N, m1, h1, c.move t1 m⟩
  | false => exact ⟨A1, O1, ρ1, Xf, N, m1, h1, c.move t1 m⟩
/-- a op b as a value, a with effects -/
def dBinX (g : D → D → (D → Kd → Prop) → Prop) (tx : DX) (tb : DE) : DX := fun X ρ Q => tx X ρ fun s ρ1 => vaX s fun d => tb X ρ1 fun e _ ρ2 => g d e fun z κ => κ ≠ .bo ∧ Q (slOf z κ) ρ2
theorem dBinX_ev {X : XF} {ρ : List Sl} {Q : Sl → List Sl → Prop} : dBinX g tx tb X ρ Q = tx X ρ (kk fun s ρ1 => vaX s (kk fun d => tb X ρ1 (kk fun e _ ρ2 => g d e (kk fun z κ => κ ≠ .bo ∧ Q (slOf z κ) ρ2)))) := rfl
theorem dx_cmp {op : CmpOp} (ho : DOp X Ts (compareOp op) g) (ha : PE X a (upX X.K Ts W tx)) (hb : PE X b (upE X.K Ts W tb)) (hm : behindInMarks op b = false) : PE X (.Compare a [op] [b] pos) (upX X.K Ts W (dBinX g tx tb)) := by
  obtain ⟨r, h1, h2⟩ := ho
  refine (pe_cmpR h1 ha hb hm).imp fun σ H Q h => ?_
  obtain ⟨A, O, ρ, Xf, Qd, m, h, c⟩ := h
  refine ⟨A, O, ρ, Xf, _, m, h, fun s ρ1 v H1 A1 O1 h1 t1 m1 => ?_, c.x⟩
  obtain ⟨d, rfl, h1⟩ := h1.get
  obtain ⟨v2, e2, r1⟩ := m1.va 0 d rfl
  cases e2
  obtain ⟨O2, m2, t2⟩ := m1.uncons
  have c1 := c.move (t1.trans t2 m.trk) m
  refine ⟨A1, O2, ρ1, Xf, _, m2, h1, fun e κ2 ρ2 w H3 A3 O3 h3 s3 t3 m3 r3 => ?_, c1.x⟩
  have c2 := c1.move t3 m2
  refine h2 W σ H3 A3 O3 ρ2 Xf (fun z κ ρ' => κ ≠ .bo ∧ Qd (slOf z κ) ρ') _ d e v w ((Wk.of r1).tr s3 t3 m2.sub) r3.wk m3 ⟨fun z κ ρ' v' H' A' O' q s' t' m' r' => ?_, c2.x⟩ h3
  obtain ⟨A2, O2, m4, t4⟩ := r'.trc t' q.1 m'
  exact c2.q _ ρ' v' H' A2 O2 q.2 t4 m4
end
end DL

-- part DO20
set_option Elab.async false
set_option linter.all false
set_option maxRecDepth 100000
set_option maxHeartbeats 2000000
/-! slots that are not needed any more are forgotten behind a loop's body -/
namespace DL
open PySem PySem.Spec PyProof.Rows L2 GxR GS GA GD
def fgt : List Bool → List Sl → List Sl
  | [], ρ => ρ
  | _ :: _, [] => []
  | true :: m, _ :: ρ => .no :: fgt m ρ
  | false :: m, s :: ρ => s :: fgt m ρ
theorem fgt_nil {ρ : List Sl} : fgt [] ρ = ρ := by cases ρ <;> rfl
theorem fgt_t {m : List Bool} {s : Sl} {ρ : List Sl} : fgt (true :: m) (s :: ρ) = .no :: fgt m ρ := rfl
theorem fgt_f {m : List Bool} {s : Sl} {ρ : List Sl} : fgt (false :: m) (s :: ρ) = s :: fgt m ρ := rfl
theorem fgt_len : ∀ (m : List Bool) (ρ : List Sl), (fgt m ρ).length = ρ.length
  | [], ρ => by rw [fgt_nil]
  | _ :: _, [] => rfl
  | true :: m, _ :: ρ => by rw [fgt_t, List.length_cons, List.length_cons, fgt_len m ρ]
  | false :: m, _ :: ρ => by rw [fgt_f, List.length_cons, List.length_cons, fgt_len m ρ]
theorem fgt_at : ∀ (m : List Bool) (ρ : List Sl) (k : Nat) (s : Sl), (fgt m ρ)[k]? = some s → s = .no ∨ ρ[k]? = some s
  | [], ρ, k, s, h => by rw [fgt_nil] at h; exact .inr h
  | _ :: _, [], k, s, h => by cases h
  | true :: m, _ :: ρ, 0, s, h => by cases h; exact .inl rfl
  | false :: m, _ :: ρ, 0, s, h => .inr h
  | true :: m, _ :: ρ, k + 1, s, h => by rw [fgt_t, List.getElem?_cons_succ] at h; rw [List.getElem?_cons_succ]; exact fgt_at m ρ k s h
  | false :: m, _ :: ρ, k + 1, s, h => by rw [fgt_f, List.getElem?_cons_succ] at h; rw [List.getElem?_cons_succ]; exact fgt_at m ρ k s h
theorem Mt.fgt {K : PySem.W.Frag} {Ts A O : AP} {H : Hp} {ρ : List Sl} {σ : L2.St} (m : Mt K Ts H A O ρ σ) (b : List Bool) : ∃ O', Mt K Ts H A O' (fgt b ρ) σ ∧ Tr A O H A O' H :=
  m.sel (by rw [fgt_len]; exact m.len) fun k s o e1 e2 => (fgt_at b ρ k s e1).imp id fun e => ⟨e, e2⟩
def dWk (b : List Bool) (t : DS) : DS := fun X N ρ => t X ⟨fun ρ' => N.nx (fgt b ρ'), N.rt, N.bk, fun ρ' => N.ct (fgt b ρ')⟩ ρ
theorem dWk_ev {b : List Bool} {t : DS} {X : XF} {N : DN} {ρ : List Sl} : dWk b t X N ρ = t X ⟨kk fun ρ' => N.nx (fgt b ρ'), N.rt, N.bk, kk fun ρ' => N.ct (fgt b ρ')⟩ ρ := rfl
theorem ds_wk {X : Cx} {Ts : AP} {W : WX} {ss : List Stmt} {t : DS} {b : List Bool} (h : PSs X ss (upS X.K Ts W t)) : PSs X ss (upS X.K Ts W (dWk b t)) := by
  refine h.imp fun E σ H h => ?_
  obtain ⟨A, O, ρ, Xf, N, m, h, c⟩ := h
  refine ⟨A, O, ρ, Xf, _, m, h, ⟨fun ρ' σ' H' A' O' q t' m' => ?_, c.bk, fun ρ' σ' H' A' O' q t' m' => ?_, c.rt, c.x⟩⟩
  · obtain ⟨O2, m2, t2⟩ := m'.fgt b
    exact c.nx _ _ _ _ _ q (t'.trans t2 m.trk) m2
  · obtain ⟨O2, m2, t2⟩ := m'.fgt b
    exact c.ct _ _ _ _ _ q (t'.trans t2 m.trk) m2
end DL
namespace DL
open PySem PySem.Spec PyProof.Rows L2 GxR GS GA GD
/-- a list, a dict of one's own becomes data -/
def fz1 (s : Sl) (i : Nat) (ρ : List Sl) : List Sl := match s with
  | .ow ds => ρ.set i (.va (.lst ds))
  | .od kvs => ρ.set i (.va (slD (.od kvs)))
  | _ => ρ
theorem fz1_ow {ds : List D} {i : Nat} {ρ : List Sl} : fz1 (.ow ds) i ρ = ρ.set i (.va (.lst ds)) := rfl
theorem fz1_od {ds : List (Key × D)} {i : Nat} {ρ : List Sl} : fz1 (.od ds) i ρ = ρ.set i (.va (slD (.od ds))) := rfl
theorem fz1_va {d : D} {i : Nat} {ρ : List Sl} : fz1 (.va d) i ρ = ρ := rfl
def dFz (i : Nat) (t : DS) : DS := fun X N ρ => t X ⟨fun ρ' => N.nx (fz1 (sl ρ' i) i ρ'), N.rt, N.bk, N.ct⟩ ρ
theorem dFz_ev {i : Nat} {t : DS} {X : XF} {N : DN} {ρ : List Sl} : dFz i t X N ρ = t X ⟨kk fun ρ' => N.nx (fz1 (sl ρ' i) i ρ'), N.rt, N.bk, N.ct⟩ ρ := rfl
theorem sl_at {ρ : List Sl} {i : Nat} (n : sl ρ i ≠ .no) : ρ[i]? = some (sl ρ i) := by
  unfold sl at n ⊢
  rw [List.getD_eq_getElem?_getD] at n ⊢
  cases e : ρ[i]? with
  | none => rw [e] at n; exact absurd rfl n
  | some s => rfl
theorem ds_fz {X : Cx} {Ts : AP} {W : WX} {st : Stmt} {t : DS} {i : Nat} (h : PS X st (upS X.K Ts W t)) : PS X st (upS X.K Ts W (dFz i t)) := by
  refine h.imp fun E σ H h => ?_
  obtain ⟨A, O, ρ, Xf, N, m, h, c⟩ := h
  refine ⟨A, O, ρ, Xf, _, m, h, ⟨fun ρ' σ' H' A' O' q t' m' => ?_, c.bk, c.ct, c.rt, c.x⟩⟩
  cases e : sl ρ' i with
  | ow ds =>
    have e2 : ρ'[i]? = some (.ow ds) := by rw [← e]; exact sl_at (by rw [e]; exact fun z => by cases z)
    obtain ⟨v, A2, O2, _, m2, _, t2, _⟩ := m'.frz e2 rfl
    have q : N.nx (fz1 (sl ρ' i) i ρ') := q
    rw [e] at q
    exact c.nx _ _ _ _ _ q (t'.trans t2 m.trk) m2
  | od ds =>
    have e2 : ρ'[i]? = some (.od ds) := by rw [← e]; exact sl_at (by rw [e]; exact fun z => by cases z)
    obtain ⟨v, A2, O2, _, m2, _, t2, _⟩ := m'.frz e2 rfl
    have q : N.nx (fz1 (sl ρ' i) i ρ') := q
    rw [e] at q
    exact c.nx _ _ _ _ _ q (t'.trans t2 m.trk) m2
  | _ =>
    have q : N.nx (fz1 (sl ρ' i) i ρ') := q
    rw [e] at q
    exact c.nx _ _ _ _ _ q t' m'
end DL
namespace DL
open PySem PySem.Spec PyProof.Rows L2 GxR GS GA GD
theorem Wlk.less {K : PySem.W.Frag} {H : Hp} {A O O2 : AP} {lent : Bool} {J : It} {ds : List D} (w : Wlk K H A O lent J ds) (t : Tr A O H A O2 H) (trk : ∀ b, A b → H b ≠ none) : Wlk K H A O2 lent J ds := by
  obtain ⟨G, Y, h1, h2, h3⟩ := w.ex
  exact ⟨G, Y, h1, fun H1 A1 O1 t1 l => h2 H1 A1 O1 (t.trans t1 trk) l, fun i H1 A1 O1 x H2 hi t1 l y => h3 i H1 A1 O1 x H2 hi (t.trans t1 trk) l y⟩
/-- .. forgotten behind what a loop goes over -/
def diWk (b : List Bool) (ti : DI) : DI := fun X ρ Q => ti X ρ fun ds l ρ1 => Q ds l (fgt b ρ1)
theorem diWk_ev {b : List Bool} {ti : DI} {X : XF} {ρ : List Sl} {R : List D → Bool → List Sl → Prop} : diWk b ti X ρ R = ti X ρ (kk fun ds l ρ1 => R ds l (fgt b ρ1)) := rfl
theorem di_wk {X : Cx} {Ts : AP} {W : WX} {tg e : Expr} {ti : DI} {b : List Bool} (h : PI X tg e (upI X.K Ts W ti)) : PI X tg e (upI X.K Ts W (diWk b ti)) := by
  refine h.imp fun σ H R h => ?_
  obtain ⟨A, O, ρ, Xf, Qd, m, h, c⟩ := h
  refine ⟨A, O, ρ, Xf, _, m, h, fun ds l ρ1 J H1 A1 O1 h1 s1 t1 m1 w1 => ?_, c.x⟩
  obtain ⟨O2, m2, t2⟩ := m1.fgt b
  exact c.q ds l _ J H1 A1 O2 h1 s1 (t1.trans t2 m.trk) m2 (w1.less t2 m1.trk)
/-- .. ahead of a statement -/
def dPre (b : List Bool) (t : DS) : DS := fun X N ρ => t X N (fgt b ρ)
theorem dPre_ev {b : List Bool} {t : DS} {X : XF} {N : DN} {ρ : List Sl} : dPre b t X N ρ = t X N (fgt b ρ) := rfl
theorem ds_pre {X : Cx} {Ts : AP} {W : WX} {st : Stmt} {t : DS} {b : List Bool} (h : PS X st (upS X.K Ts W t)) : PS X st (upS X.K Ts W (dPre b t)) := by
  refine h.imp fun E σ H h => ?_
  obtain ⟨A, O, ρ, Xf, N, m, h, c⟩ := h
  obtain ⟨O2, m2, t2⟩ := m.fgt b
  exact ⟨A, O2, _, Xf, N, m2, h, c.move t2 m⟩
end DL

-- part NQ
set_option Elab.async false
set_option linter.all false
set_option maxRecDepth 100000
set_option maxHeartbeats 2000000
namespace K8
open PySem PySem.Spec PyProof.Rows L2 GxR GS GA GD DL
local macro_rules | `(tactic| walk_at "ev") => `(tactic| simp (dsimp := false) only [dWk_ev, diWk_ev, dPre_ev, fgt_nil, fgt_t, fgt_f, dFz_ev, fz1_ow, fz1_od, fz1_va, dTstX_ev, dTstXV_ev, dBinX_ev, vaX_va, dMakeL_ev, em_uu, em_ui, em_ii, em_iu, pairs_om', pairs_om, zip_self, dRaise0_ev, lk0, lk1, lk2, fg_giver, fg_receiver, fg_right, fg_may_pass, slD_gr, slFr_gr, Option.map_none, Option.map_some, Option.isSome_none, Option.isSome_some, lg_owners, lg_owner_of, lg_grants, lg_removed, lg_standing, lg_gput, lg_rput, lg_sput, val_om, finS_nil, finS_cons, keep1_ob, keep1_va, keep1_rl, keep1_ro, getD_0, getD_s, bK_rl, bK_od, bK_rd, vK_od, slD_va, slD_ow, slFr_va, slFr_ow, slFr_od, slOf_frd, dxE_ev, dCallL_ev, dCallV_ev, resF_va, resF_ow, dMvX_ev, dForO_ev, dSetX_ev, dDropX_ev, dRetX_ev, obRd_ob, obRd_ro, obWr_ob, obNm_ob, obNm_ro, obW_ob, obR_ob, obR_ro, fdRd_va, fdRd_ow, fdRd_od, fdRd_tq, lwK_ow, fdOf_va, fdOf_ow, fdOf_od, resK_va, resK_ow, ntl_va, ntl_ow, ntl_ob, ntl_no, dOF_ev, dOS_ev, dOTq_ev, tlK_l, dOApp_ev, dDictF_ev, tqK_q, dDIn_t, dDIn_f, dinK_d, dDGet_ev, dgetK_d, keyD_s, keyD_i, dClr_ev, dMethX_ev, dMethR_ev, dMethX0_ev, dMethR0_ev, dMethK_ev, dPropR_ev, dCallX_ev, dCallR_ev, dMakeX_ev, dMakeD_ev, dLend_ev, lendK_ob, lendK_ro, dLcP_ev, dGenP_ev, dTryM_ev, hxK_nil, hxK_as, hxK_as0, hxK_on, cutN_rt, cutN_nx, gLenA_d, gLenA_l, gLenA_t, gLenA_s, k0, k1, k2, k3, iK_true, iK_false, iK_not, sl_0, sl_s, vK_va, vK_ow, bK_va, bK_ow, dVar_ev, dVarB_ev, dC_ev, dBin_ev, tK_bl, dTst_ev, dAnd_ev, dOr_ev, dNot_ev, dAndV_ev, dOrV_ev, dNotV_ev, dIf_ev, dNext_ev, dSeq_st, kS_e, dBreak_ev, dCont_ev, dRet_ev, dRetN_ev, dIfS_ev, dSet_ev, dDrop_ev, slOf_fr, slOf_sh, gAdd_i, gAdd_s, gAdd_l, gAdd_t, num_i, gEq_i, gEq_s, gEq_b, gEq_sn, gEq_ns, gEq_in, gEq_ni, gEq_nn, gEq_is, gEq_si, gNe_i, gNe_s, gNe_b, gNe_sn, gNe_ns, gNe_in, gNe_ni, gNe_nn, gEq_l, gEq_t, gNe_l, gNe_t,
    gIsN_n, gIsN_s, gIsN_i, gIsN_l, gIsN_t, gNotN_n, gNotN_s, gNotN_i, gNotN_l, gNotN_t, gIn_l, gIn_t, gNin_l, gNin_t, flD_s, flD_i, flD_n, flD_str, flD_int, has_strs, gRep_l, diRng2_ev, rK2_i, dStE_ev, iKx_i, gIx_l, gIx_t, gIx_s, DL.at0, at1, at2, at3, at4, at5, dNoPart_ev, pK_i, dPart_ev, sK_l, sK_r, sK_t, sK_s, dSl_ev, dNil_ev, dCons_ev, dConsW_ev, itsD_l, itsD_t, dStar_ev, dLst_ev, dTup_ev, dBlt_ev, gLen_l, gLen_t, gLen_r, gLen_s, gInt_i, gInt_b, gAbs_i, gMax_i, gMin_i, gTuple_l, gTuple_t, gList_l, gList_t, oW_ow, owAt_ev, decide_true, decide_false, Bool.not_true, Bool.not_false, gRepr_1, dStarT_ev, dRepl_ev, dTryAs0_ev, dTryOn_ev, dIsx0_ev, xnK_x, dIdx_ev, liK_l, has_two, stK_l, gTimes_s, zK_s, dSplit_ev, dJoin_ev, dInTab_ev, dIxTab_ev, gInD_l, gInS_s, gNinS_s, chK_b, dChn_ev, is_tt, is_ll, is_tn, is_bn, dTryAs_ev, dXf_ev, dIsx_ev, xK_x, dRaise1_ev, dIsi_ev, is_ss, is_sl, is_st, is_bb, dProp_ev, prK_i, xc_c, xc_a, dApp_ev, dStI_ev, wK_sh, wK_fr, wK_bo, wK_t, wK_r, wK_s, diVal_ev, rK_i, diRng_ev, eK_sh, eK_fr, eK_bo, diEnum_ev, dgName_ev, dgNil_ev, dgCons_ev, dgTup_ev, dAsg_ev, dFor_ev, dWhile_ev, dLc_ev, dGen_ev, dCall_ev, mK_i, dMeth_ev, fK_i, dFld_ev, nK_i, dNeg_ev, dYes_ev, oK_some, List.length_map, rng_len, Int.toNat_natCast,
    List.map_cons, List.map_nil, List.length_cons, List.length_nil, List.length_set, List.replicate_succ, List.replicate_zero, List.nil_append, List.cons_append, List.set_cons_zero, List.set_cons_succ, Nat.reduceAdd, Nat.reduceSub, ne_eq, reduceCtorEq, not_false_eq_true, not_true_eq_false, true_and, and_true, Nat.reduceLT, Nat.reduceLeDiff, Nat.zero_le, Bool.false_eq_true])
local macro_rules | `(tactic| walk_at "st") => `(tactic| simp (dsimp := false) only [dWk_ev, diWk_ev, dPre_ev, fgt_nil, fgt_t, fgt_f, dFz_ev, fz1_ow, fz1_od, fz1_va, dTstX_ev, dTstXV_ev, dBinX_ev, vaX_va, dMakeL_ev, em_uu, em_ui, em_ii, em_iu, pairs_om', pairs_om, zip_self, dRaise0_ev, lk0, lk1, lk2, fg_giver, fg_receiver, fg_right, fg_may_pass, slD_gr, slFr_gr, Option.map_none, Option.map_some, Option.isSome_none, Option.isSome_some, lg_owners, lg_owner_of, lg_grants, lg_removed, lg_standing, lg_gput, lg_rput, lg_sput, val_om, finS_nil, finS_cons, keep1_ob, keep1_va, keep1_rl, keep1_ro, getD_0, getD_s, bK_rl, bK_od, bK_rd, vK_od, slD_va, slD_ow, slFr_va, slFr_ow, slFr_od, slOf_frd, dxE_ev, dCallL_ev, dCallV_ev, resF_va, resF_ow, dMvX_ev, dForO_ev, dSetX_ev, dDropX_ev, dRetX_ev, obRd_ob, obRd_ro, obWr_ob, obNm_ob, obNm_ro, obW_ob, obR_ob, obR_ro, fdRd_va, fdRd_ow, fdRd_od, fdRd_tq, lwK_ow, fdOf_va, fdOf_ow, fdOf_od, resK_va, resK_ow, ntl_va, ntl_ow, ntl_ob, ntl_no, dOF_ev, dOS_ev, dOTq_ev, tlK_l, dOApp_ev, dDictF_ev, tqK_q, dDIn_t, dDIn_f, dinK_d, dDGet_ev, dgetK_d, keyD_s, keyD_i, dClr_ev, dMethX_ev, dMethR_ev, dMethX0_ev, dMethR0_ev, dMethK_ev, dPropR_ev, dCallX_ev, dCallR_ev, dMakeX_ev, dMakeD_ev, dLend_ev, lendK_ob, lendK_ro, dLcP_ev, dGenP_ev, dTryM_ev, hxK_nil, hxK_as, hxK_as0, hxK_on, cutN_rt, cutN_nx, gLenA_d, gLenA_l, gLenA_t, gLenA_s, k0, k1, k2, k3, iK_true, iK_false, iK_not, sl_0, sl_s, vK_va, vK_ow, bK_va, bK_ow, dVar_ev, dVarB_ev, dC_ev, dBin_ev, tK_bl, dTst_ev, dAnd_ev, dOr_ev, dNot_ev, dAndV_ev, dOrV_ev, dNotV_ev, dIf_ev, dNext_ev, dSeq_st, kS_e, dBreak_ev, dCont_ev, dRet_ev, dRetN_ev, dSet_ev, dDrop_ev, slOf_fr, slOf_sh, gAdd_i, gAdd_s, gAdd_l, gAdd_t, num_i, gEq_i, gEq_s, gEq_b, gEq_sn, gEq_ns, gEq_in, gEq_ni, gEq_nn, gEq_is, gEq_si, gNe_i, gNe_s, gNe_b, gNe_sn, gNe_ns, gNe_in, gNe_ni, gNe_nn, gEq_l, gEq_t, gNe_l, gNe_t,
    gIsN_n, gIsN_s, gIsN_i, gIsN_l, gIsN_t, gNotN_n, gNotN_s, gNotN_i, gNotN_l, gNotN_t, gIn_l, gIn_t, gNin_l, gNin_t, flD_s, flD_i, flD_n, flD_str, flD_int, has_strs, gRep_l, diRng2_ev, rK2_i, dStE_ev, iKx_i, gIx_l, gIx_t, gIx_s, DL.at0, at1, at2, at3, at4, at5, dNoPart_ev, pK_i, dPart_ev, sK_l, sK_r, sK_t, sK_s, dSl_ev, dNil_ev, dCons_ev, dConsW_ev, itsD_l, itsD_t, dStar_ev, dLst_ev, dTup_ev, dBlt_ev, gLen_l, gLen_t, gLen_r, gLen_s, gInt_i, gInt_b, gAbs_i, gMax_i, gMin_i, gTuple_l, gTuple_t, gList_l, gList_t, oW_ow, owAt_ev, decide_true, decide_false, Bool.not_true, Bool.not_false, gRepr_1, dStarT_ev, dRepl_ev, dTryAs0_ev, dTryOn_ev, dIsx0_ev, xnK_x, dIdx_ev, liK_l, has_two, stK_l, gTimes_s, zK_s, dSplit_ev, dJoin_ev, dInTab_ev, dIxTab_ev, gInD_l, gInS_s, gNinS_s, chK_b, dChn_ev, is_tt, is_ll, is_tn, is_bn, dTryAs_ev, dXf_ev, dIsx_ev, xK_x, dRaise1_ev, dIsi_ev, is_ss, is_sl, is_st, is_bb, dProp_ev, prK_i, xc_c, xc_a, dApp_ev, dStI_ev, wK_sh, wK_fr, wK_bo, wK_t, wK_r, wK_s, diVal_ev, rK_i, diRng_ev, eK_sh, eK_fr, eK_bo, diEnum_ev, dgName_ev, dgNil_ev, dgCons_ev, dgTup_ev, dAsg_ev, dFor_ev, dWhile_ev, dLc_ev, dGen_ev, dCall_ev, mK_i, dMeth_ev, fK_i, dFld_ev, nK_i, dNeg_ev, dYes_ev, oK_some, List.length_map, rng_len, Int.toNat_natCast,
    List.map_cons, List.map_nil, List.length_cons, List.length_nil, List.length_set, List.replicate_succ, List.replicate_zero, List.nil_append, List.cons_append, List.set_cons_zero, List.set_cons_succ, Nat.reduceAdd, Nat.reduceSub, ne_eq, reduceCtorEq, not_false_eq_true, not_true_eq_false, true_and, and_true, Nat.reduceLT, Nat.reduceLeDiff, Nat.zero_le, Bool.false_eq_true])
/-- what the law fills in -/
structure Fil (ps : List (Str × Str)) (pe : List Str) (gs : List Gr) (m : Nat) : Prop where
  val : Val ps gs
  len : gs.length ≤ m
  mem : ∀ g ∈ gs, g.gv ∈ pe ∧ g.rc ∈ pe ∧ g.gv ≠ g.rc ∧ ∃ o, (g.rt, o) ∈ ps
theorem Fil.nil {ps : List (Str × Str)} {pe : List Str} {m : Nat} : Fil ps pe [] m := ⟨Val.nil, Nat.zero_le _, fun g h => by cases h⟩
def prT (x : Str × Str) : D := .tup [.str x.1, .str x.2]
/-- those who may hand on, with the right -/
def May (ps : List (Str × Str)) (pe : List Str) (gs : List Gr) (l : List (Str × Str)) : Prop := ∀ x ∈ l, x.1 ∈ pe ∧ (∃ o, (x.2, o) ∈ ps) ∧ lawMay ps gs (List.range gs.length) x.1 x.2 = true
structure PeS (pe : List Str) : Prop where
  ok : ∀ p ∈ pe, PyData.strOk p = true
  two : ∀ p, ∃ q ∈ pe, q ≠ p
  le : pe.length ≤ 100
theorem Fil.gs {ps : List (Str × Str)} {pe : List Str} {gs : List Gr} {m : Nat} (h : Fil ps pe gs m) (hp : PsS ps) (he : PeS pe) : GsS gs := fun g hg => by
  obtain ⟨a, b, _, o, c⟩ := h.mem g hg
  exact ⟨he.ok _ a, he.ok _ b, (hp _ c).1⟩
theorem Fil.st {ps : List (Str × Str)} {pe : List Str} {gs : List Gr} {m : Nat} (h : Fil ps pe gs m) : lawSt ps gs [] gs.length = List.range gs.length := lawSt_all h.val (Nat.le_refl _)
theorem ix_map {α : Type} {f : α → D} {l : List α} {i : Int} (h0 : 0 ≤ i) (h : i < l.length) : ∃ x, x ∈ l ∧ atI (l.map f) i = some (f x) := by
  have h2 : i.toNat < l.length := by omega
  refine ⟨l[i.toNat], List.getElem_mem h2, ?_⟩
  exact at_ix (k := i.toNat) (by omega) (List.getElem?_eq_getElem h2)
theorem emod_lt' (i : Int) {n : Nat} (h : (0 : Int) < (n : Int)) : 0 ≤ i % (n : Int) ∧ i % (n : Int) < (n : Int) := ⟨Int.emod_nonneg _ (by omega), Int.emod_lt_of_pos _ h⟩
abbrev N_law_filled : List Str := ["owners", "people", "numbers", "at", "many", "grants", "k", "stood", "pairs", "right", "owner", "person", "others", "receiver", "giver"]
def r_law_filled : DS :=
  (dSeq (dSet 5 (dLst dNil))
  (dSeq (dFor (diWk [false, false, false, false, true, false, true, true, true, true, true, true, true, true, true] (diRng (dConsW (dVarB 4) dNil))) (dgName 6) (dWk [false, false, false, false, true, false, true, true, true, true, true, true, true, true, true] (dSeq (dFz 7 (dSet 7 (dCallV 3 ph__law_standing 5 1 (dCons (dVar 0) (dCons (dVar 5) (dCons (dLst dNil) dNil))))))
  (dSeq (dSet 8 (dLst dNil))
  (dSeq (dFor (diWk [false, false, false, false, true, false, false, false, false, true, true, true, true, true, true] (diVal (dVar 0))) (dgTup 2 (dgCons (dgName 9) (dgCons (dgName 10) dgNil))) (dWk [false, false, false, false, true, false, false, false, false, true, true, true, true, true, true] (dFor (diWk [false, false, false, false, true, false, false, false, false, false, true, true, true, true, true] (diVal (dVar 1))) (dgName 11) (dWk [false, false, false, false, true, false, false, false, false, false, true, true, true, true, true] (dIfS (dTst (dCallV 5 ph__law_may 5 1 (dCons (dVar 0) (dCons (dVar 5) (dCons (dVar 7) (dCons (dVar 11) (dCons (dVar 9) dNil))))))) (dApp 8 (dTup (dCons (dVar 11) (dCons (dVar 9) dNil)))) dNext)))))
  (dIfS (dTst (dBin gGt (dBlt gLenA (dConsW (dVarB 8) dNil)) (dC (.int 0)))) (dSeq (dAsg (dBin gIx (dVarB 8) (dBin gMod (dBlt gInt (dConsW (dBin gIx (dVarB 2) (dBin gAdd (dVarB 3) (dBin gMul (dC (.int 2)) (dVarB 6)))) dNil)) (dBlt gLenA (dConsW (dVarB 8) dNil)))) (dgTup 2 (dgCons (dgName 14) (dgCons (dgName 9) dgNil))))
  (dSeq (dFz 12 (dSet 12 (dLc (diVal (dVarB 1)) 11 (dTst (dBin gNe (dVarB 11) (dVarB 14))) (dVar 11))))
  (dSeq (dSet 13 (dBin gIx (dVarB 12) (dBin gMod (dBlt gInt (dConsW (dBin gIx (dVarB 2) (dBin gAdd (dBin gAdd (dVarB 3) (dBin gMul (dC (.int 2)) (dVarB 6))) (dC (.int 1)))) dNil)) (dBlt gLenA (dConsW (dVarB 12) dNil)))))
  (dApp 5 (dTup (dCons (dVar 14) (dCons (dVar 13) (dCons (dVar 9) (dCons (dBin gGt (dBin gMod (dBlt gInt (dConsW (dBin gDiv (dBin gIx (dVarB 2) (dBin gAdd (dBin gAdd (dVarB 3) (dBin gMul (dC (.int 2)) (dVarB 6))) (dC (.int 1)))) (dC (.int 7))) dNil)) (dC (.int 3))) (dC (.int 0))) dNil))))))))) dNext))))))
  (dRet (dVar 5))))
/- theorem M_law_filled : MD r_law_filled 5 15 ph_law_filled := fun ds Qd Xd h hl => by -/
def ph__law_filled : Ph := fun ds Qd _ => ∃ (ps : List (Str × Str)) (pe : List Str) (ns : List Int) (a m : Nat), ds = [.lst (ps.map prD), .lst (pe.map .str), .lst (ns.map .int), .int (a : Int), .int (m : Int)] ∧ PsS ps ∧ PeS pe ∧ ps.length ≤ 100 ∧ (∀ n ∈ ns, DL.In9 n) ∧ a + 2 * m ≤ ns.length ∧ a ≤ 1000 ∧ m ≤ 100 ∧ ∀ gs, Fil ps pe gs m → Qd (.lst (gs.map gtD))
theorem M_law_filled : MD r_law_filled 5 15 ph__law_filled := fun ds Qd Xd h hl => by
  obtain ⟨ps, pe, ns, a, m, rfl, hp, he, lp, hn, hb, ha, hm, q⟩ := h
  unfold r_law_filled
  walk_at "ev"
  refine ⟨by omega, by omega, forK.rng (fun k ρ => ∃ gs, Fil ps pe gs k ∧ ρ = [.va (.lst (ps.map prD)), .va (.lst (pe.map .str)), .va (.lst (ns.map .int)), .va (.int (a : Int)), .no, .ow (gs.map gtD), .no, .no, .no, .no, .no, .no, .no, .no, .no]) ⟨[], Fil.nil, rfl⟩ (fun k ρ' hk i => ?_) (fun ρ' i => ?_)⟩
  · obtain ⟨gs, fi, rfl⟩ := i
    walk_at "ev"
    intro aa
    refine ⟨⟨rfl, by simp [ntl]⟩, rfl, ps, gs, [], rfl, hp, fi.gs hp he, Nat.le_trans fi.len (by omega), ?_⟩
    walk_at "ev"
    refine ⟨fl_nats, ?_⟩
    simp (dsimp := false) only [fi.st]
    have hg := fi.len
    have hgs := fi.gs hp he
    refine forK.map (fun i ρ => ∃ l, May ps pe gs l ∧ l.length ≤ 100 * i ∧ ρ = [.va (.lst (ps.map prD)), .va (.lst (pe.map .str)), .va (.lst (ns.map .int)), .va (.int (a : Int)), .no, .ow (gs.map gtD), .va (.int (k : Int)), .va (.lst ((List.range gs.length).map inD)), .ow (l.map prT), .no, .no, .no, .no, .no, .no]) ⟨[], (fun x h => by cases h), Nat.zero_le _, rfl⟩ (fun i x ρ' hi li h => ?_) (fun ρ' h => ?_)
    · obtain ⟨l, ml, ll, rfl⟩ := h
      have hx := List.mem_of_getElem? hi
      unfold prD
      walk_at "ev"
      refine forK.map (fun j ρ => ∃ l, May ps pe gs l ∧ l.length ≤ 100 * i + j ∧ ρ = [.va (.lst (ps.map prD)), .va (.lst (pe.map .str)), .va (.lst (ns.map .int)), .va (.int (a : Int)), .no, .ow (gs.map gtD), .va (.int (k : Int)), .va (.lst ((List.range gs.length).map inD)), .ow (l.map prT), .va (.str x.1), .no, .no, .no, .no, .no]) ⟨l, ml, ll, rfl⟩ (fun j p ρ' hj lj h => ?_) (fun ρ' h => ?_)
      · obtain ⟨l, ml, ll, rfl⟩ := h
        have hpe := List.mem_of_getElem? hj
        walk_at "ev"
        intro aa
        refine ⟨⟨rfl, by simp [ntl]⟩, rfl, ps, gs, List.range gs.length, p, x.1, rfl, hp, he.ok p hpe, (hp x hx).1, (fun k hk => List.mem_range.mp hk), by rw [List.length_range]; omega, ?_⟩
        walk_at "ev"
        refine ⟨rfl, ?_⟩
        refine iK_b (fun hm => ?_) fun hm => ?_
        · walk_at "ev"
          have := he.le
          refine ⟨by unfold sizeLine; omega, by unfold sizeLine; omega, l ++ [(p, x.1)], fun y hy => ?_, by rw [List.length_append]; show _ + 1 ≤ _; omega, by rw [List.map_append]; rfl⟩
          rcases List.mem_append.mp hy with hy | hy
          · exact ml y hy
          · rw [List.mem_singleton.mp hy]
            exact ⟨hpe, ⟨x.2, hx⟩, hm⟩
        · walk_at "ev"
          exact ⟨l, ml, by omega, rfl⟩
      · obtain ⟨l, ml, ll, rfl⟩ := h
        walk_at "ev"
        have := he.le
        exact ⟨l, ml, by omega, rfl⟩
    · obtain ⟨l, ml, ll, rfl⟩ := h
      walk_at "ev"
      refine iK_d (fun h0 => ?_) fun h0 => ?_
      · walk_at "ev"
        have b2 : ∀ j : Nat, j ≤ 1000 → CMulB 2 (j : Int) := fun j hj => by
          have := log2_small (i := (j : Int)) (b := 10) (by omega) (by show _ < (2 : Int) ^ 10; omega)
          show (2 : Nat).log2 + _ < _
          have : (2 : Nat).log2 = 1 := by decide
          omega
        refine ⟨b2 k (by omega), oK.mk (atn (j := a + 2 * k) (by omega) (by omega)) ?_⟩
        walk_at "ev"
        obtain ⟨x, hx, ex⟩ := ix_map (f := prT) (l := l) (i := nu ns (a + 2 * k) % (l.length : Int)) (emod_lt' _ h0).1 (emod_lt' _ h0).2
        refine ⟨h0, oK.mk ex ?_⟩
        unfold prT
        walk_at "ev"
        obtain ⟨x1, ⟨o, xo⟩, x3⟩ := ml x hx
        refine lcK.map (f := D.str) (fun _ _ e => by injection e) (fun p => !decide (p = x.1)) D.str (by have := he.le; unfold sizeLine; omega) (fun p hpp oo ho => ?_) ?_
        · walk_at "ev"
          refine iK_d (fun e => ?_) fun e => ?_
          · have e : p = x.1 := e
            rw [ho]
            simp [e]
          · have e : ¬ p = x.1 := e
            walk_at "ev"
            rw [ho]
            simp [e]
        · walk_at "ev"
          have hq : (0 : Int) < ((pe.filter fun p => !decide (p = x.1)).length : Int) := by
            obtain ⟨y, hy, ny⟩ := he.two x.1
            have := List.length_pos_of_mem (List.mem_filter (p := fun p => !decide (p = x.1)) |>.mpr ⟨hy, by simp [ny]⟩)
            omega
          refine ⟨b2 k (by omega), oK.mk (atn (j := a + 2 * k + 1) (by omega) (by omega)) ?_⟩
          walk_at "ev"
          obtain ⟨y, hy, ey⟩ := ix_map (f := D.str) (l := pe.filter fun p => !decide (p = x.1)) (i := nu ns (a + 2 * k + 1) % ((pe.filter fun p => !decide (p = x.1)).length : Int)) (emod_lt' _ hq).1 (emod_lt' _ hq).2
          refine ⟨hq, oK.mk ey ?_⟩
          walk_at "ev"
          refine ⟨b2 k (by omega), oK.mk (atn (j := a + 2 * k + 1) (by omega) (by omega)) ?_⟩
          walk_at "ev"
          obtain ⟨y1, y2⟩ := List.mem_filter.mp hy
          refine ⟨⟨by decide, by decide⟩, by decide, by unfold sizeLine; omega, by unfold sizeLine; omega, gs ++ [⟨x.1, y, x.2, decide (0 < nu ns (a + 2 * k + 1) / 7 % 3)⟩], ⟨fi.val.snoc x3, by rw [List.length_append]; show _ + 1 ≤ _; omega, fun g hg => ?_⟩, by rw [List.map_append]; rfl⟩
          rcases List.mem_append.mp hg with hg | hg
          · exact fi.mem g hg
          · rw [List.mem_singleton.mp hg]
            exact ⟨x1, y1, fun e => (by have e : x.1 = y := e; simp [e] at y2), o, xo⟩
      · walk_at "ev"
        exact ⟨gs, ⟨fi.val, by omega, fi.mem⟩, rfl⟩
  · obtain ⟨gs, fi, rfl⟩ := i
    walk_at "ev"
    exact q gs fi
end K8

-- part DI
set_option Elab.async false
set_option linter.all false
set_option maxRecDepth 100000
set_option maxHeartbeats 2000000
namespace K8
open PySem PySem.Spec PyProof.Rows L2 GxR GS GA GD DL
section
variable {w : World} {K : PySem.W.Frag} {mg : Str → Option Value} {base : Heap}
theorem sc_law_filled : FnScope N_law_filled ["owners", "people", "numbers", "at", "many"] (defScope s_law_filled) := ⟨rfl, rfl, rfl, by decide +kernel, rfl, by decide +kernel, by decide +kernel⟩
theorem D_law_filled (T : Tx w K mg base) : ∃ fd, FnOk R.prog w K mg base (L2.CX R.prog w) 2 (He.ga K "_law_filled") fd ["owners", "people", "numbers", "at", "many"] (spD K (Tz K) 5 ph__law_filled) ∧ Binds K fd ["owners", "people", "numbers", "at", "many"] [] ∧ PySem.W.keepIn K (.ref (He.ga K "_law_filled")) = true := by
  obtain ⟨fd, F⟩ := T.F__law_filled
  obtain ⟨fd__law_standing, G__law_standing, b__law_standing, k__law_standing⟩ := D_law_standing T
  obtain ⟨fd__law_may, G__law_may, b__law_may, k__law_may⟩ := D_law_may T
  have nd := sc_law_filled.nd
  refine ⟨fd, fn_data (k := 1) F (codeOf_at (p := ("_law_filled", none)) F) sc_law_filled rfl (fun A outer s H E hr => ⟨r_law_filled, ?_, M_law_filled⟩), F.bindsN (ps := ["owners", "people", "numbers", "at", "many"]) fun _ _ _ _ _ _ us hl => match us, hl with | [_, _, _, _, _], _ => rfl, F.kp⟩
  exact (ds_cons (ds_set (i := 5) nd rfl (by first | exact Or.inl rfl | exact Or.inr rfl) (de_lst da_nil))
      (ds_cons (ds_for (passes_of rfl) rfl (di_wk (b := [false, false, false, false, true, false, true, true, true, true, true, true, true, true, true]) (di_rng rfl T.free_range (da_consW (vB 4) dw_nil))) (dg_name (i := 6) nd rfl (by first | exact Or.inl rfl | exact Or.inr rfl)) (ds_wk (b := [false, false, false, false, true, false, true, true, true, true, true, true, true, true, true]) (ds_cons (ds_fz (i := 7) (ds_set (i := 7) nd rfl (by first | exact Or.inl rfl | exact Or.inr rfl) (de_callV (j := 5) (p := 1) G__law_standing (hr.mono (by decide)) rfl T.glo__law_standing k__law_standing b__law_standing (Ps.of (takes_of rfl rfl rfl rfl)) (da_cons (vV 0) (da_cons (vV 5) (da_cons (de_lst da_nil) da_nil))))))
      (ds_cons (ds_set (i := 8) nd rfl (by first | exact Or.inl rfl | exact Or.inr rfl) (de_lst da_nil))
      (ds_cons (ds_for (passes_of rfl) rfl (di_wk (b := [false, false, false, false, true, false, false, false, false, true, true, true, true, true, true]) (di_val (vV 0))) (dg_tup rfl (dgs_cons (dg_name (i := 9) nd rfl (by first | exact Or.inl rfl | exact Or.inr rfl)) (dgs_cons (dg_name (i := 10) nd rfl (by first | exact Or.inl rfl | exact Or.inr rfl)) dgs_nil))) (ds_wk (b := [false, false, false, false, true, false, false, false, false, true, true, true, true, true, true]) (ds_one (ds_for (passes_of rfl) rfl (di_wk (b := [false, false, false, false, true, false, false, false, false, false, true, true, true, true, true]) (di_val (vV 1))) (dg_name (i := 11) nd rfl (by first | exact Or.inl rfl | exact Or.inr rfl)) (ds_wk (b := [false, false, false, false, true, false, false, false, false, false, true, true, true, true, true]) (ds_one (ds_if (dt_val (de_callV (j := 5) (p := 1) G__law_may (hr.mono (by decide)) rfl T.glo__law_may k__law_may b__law_may (Ps.of (takes_of rfl rfl rfl rfl)) (da_cons (vV 0) (da_cons (vV 5) (da_cons (vV 7) (da_cons (vV 11) (da_cons (vV 9) da_nil))))))) (ds_one (ds_append (i := 8) rfl (by first | exact Or.inl rfl | exact Or.inr (Or.inl rfl) | exact Or.inr (Or.inr rfl)) (de_tup (da_cons (vV 11) (da_cons (vV 9) da_nil))))) ds_nil)))))))
      (ds_one (ds_if (dt_cmp dop_gt (de_callB dcl_lenA (by rfl) T.free_len PySem.boot_len (da_consW (vB 8) dw_nil)) de_int (nomark _)) (ds_cons (ds_asg (de_ix (vB 8) (de_bin dop_mod (de_callTy dcl_int (by rfl) T.free_int (by decide +kernel) (da_consW (de_ix (vB 2) (de_bin dop_add (vB 3) (de_bin dop_mul de_int (vB 6))) (fun _ _ => rfl)) dw_nil)) (de_callB dcl_lenA (by rfl) T.free_len PySem.boot_len (da_consW (vB 8) dw_nil))) (fun _ _ => rfl)) (dg_tup rfl (dgs_cons (dg_name (i := 14) nd rfl (by first | exact Or.inl rfl | exact Or.inr rfl)) (dgs_cons (dg_name (i := 9) nd rfl (by first | exact Or.inl rfl | exact Or.inr rfl)) dgs_nil))))
      (ds_cons (ds_fz (i := 12) (ds_setLc (j := 12) (own := [("person", 11)]) (tt := (dTst (dBin gNe (dVarB 11) (dVarB 14)))) (te := (dVar 11)) rfl nd rfl rfl (sw_true rfl rfl rfl (by decide +kernel)) (di_val (vB 1)) (blkOk_by (own := [("person", 11)]) (N := N_law_filled) (sc := defScope s_law_filled) (by decide +kernel)) rfl (fun _ _ _ _ _ => pg_name (i := 11) nd rfl (by first | exact Or.inl rfl | exact Or.inr rfl)) (fun _ _ _ _ _ => dts_one (dt_cmp (dop_ne hr.units) (vB 11) (vB 14) (nomark _))) (fun _ _ _ _ _ => (vV 11))))
      (ds_cons (ds_set (i := 13) nd rfl (by first | exact Or.inl rfl | exact Or.inr rfl) (de_ix (vB 12) (de_bin dop_mod (de_callTy dcl_int (by rfl) T.free_int (by decide +kernel) (da_consW (de_ix (vB 2) (de_bin dop_add (de_bin dop_add (vB 3) (de_bin dop_mul de_int (vB 6))) de_int) (fun _ _ => rfl)) dw_nil)) (de_callB dcl_lenA (by rfl) T.free_len PySem.boot_len (da_consW (vB 12) dw_nil))) (fun _ _ => rfl)))
      (ds_one (ds_append (i := 5) rfl (by first | exact Or.inl rfl | exact Or.inr (Or.inl rfl) | exact Or.inr (Or.inr rfl)) (de_tup (da_cons (vV 14) (da_cons (vV 13) (da_cons (vV 9) (da_cons (de_cmp dop_gt (de_bin dop_mod (de_callTy dcl_int (by rfl) T.free_int (by decide +kernel) (da_consW (de_bin dop_div (de_ix (vB 2) (de_bin dop_add (de_bin dop_add (vB 3) (de_bin dop_mul de_int (vB 6))) de_int) (fun _ _ => rfl)) de_int) dw_nil)) de_int) de_int (nomark _)) da_nil)))))))))) ds_nil)))))))
      (ds_one (ds_ret (vV 5)))))
end
end K8

-- part NR
set_option Elab.async false
set_option linter.all false
set_option maxRecDepth 100000
set_option maxHeartbeats 2000000
namespace K8
open PySem PySem.Spec PyProof.Rows L2 GxR GS GA GD DL
local macro_rules | `(tactic| walk_at "ev") => `(tactic| simp (dsimp := false) only [dWk_ev, diWk_ev, dPre_ev, fgt_nil, fgt_t, fgt_f, dFz_ev, fz1_ow, fz1_od, fz1_va, dTstX_ev, dTstXV_ev, dBinX_ev, vaX_va, dMakeL_ev, em_uu, em_ui, em_ii, em_iu, pairs_om', pairs_om, zip_self, dRaise0_ev, lk0, lk1, lk2, fg_giver, fg_receiver, fg_right, fg_may_pass, slD_gr, slFr_gr, Option.map_none, Option.map_some, Option.isSome_none, Option.isSome_some, lg_owners, lg_owner_of, lg_grants, lg_removed, lg_standing, lg_gput, lg_rput, lg_sput, val_om, finS_nil, finS_cons, keep1_ob, keep1_va, keep1_rl, keep1_ro, getD_0, getD_s, bK_rl, bK_od, bK_rd, vK_od, slD_va, slD_ow, slFr_va, slFr_ow, slFr_od, slOf_frd, dxE_ev, dCallL_ev, dCallV_ev, resF_va, resF_ow, dMvX_ev, dForO_ev, dSetX_ev, dDropX_ev, dRetX_ev, obRd_ob, obRd_ro, obWr_ob, obNm_ob, obNm_ro, obW_ob, obR_ob, obR_ro, fdRd_va, fdRd_ow, fdRd_od, fdRd_tq, lwK_ow, fdOf_va, fdOf_ow, fdOf_od, resK_va, resK_ow, ntl_va, ntl_ow, ntl_ob, ntl_no, dOF_ev, dOS_ev, dOTq_ev, tlK_l, dOApp_ev, dDictF_ev, tqK_q, dDIn_t, dDIn_f, dinK_d, dDGet_ev, dgetK_d, keyD_s, keyD_i, dClr_ev, dMethX_ev, dMethR_ev, dMethX0_ev, dMethR0_ev, dMethK_ev, dPropR_ev, dCallX_ev, dCallR_ev, dMakeX_ev, dMakeD_ev, dLend_ev, lendK_ob, lendK_ro, dLcP_ev, dGenP_ev, dTryM_ev, hxK_nil, hxK_as, hxK_as0, hxK_on, cutN_rt, cutN_nx, gLenA_d, gLenA_l, gLenA_t, gLenA_s, k0, k1, k2, k3, iK_true, iK_false, iK_not, sl_0, sl_s, vK_va, vK_ow, bK_va, bK_ow, dVar_ev, dVarB_ev, dC_ev, dBin_ev, tK_bl, dTst_ev, dAnd_ev, dOr_ev, dNot_ev, dAndV_ev, dOrV_ev, dNotV_ev, dIf_ev, dNext_ev, dSeq_st, kS_e, dBreak_ev, dCont_ev, dRet_ev, dRetN_ev, dIfS_ev, dSet_ev, dDrop_ev, slOf_fr, slOf_sh, gAdd_i, gAdd_s, gAdd_l, gAdd_t, num_i, gEq_i, gEq_s, gEq_b, gEq_sn, gEq_ns, gEq_in, gEq_ni, gEq_nn, gEq_is, gEq_si, gNe_i, gNe_s, gNe_b, gNe_sn, gNe_ns, gNe_in, gNe_ni, gNe_nn, gEq_l, gEq_t, gNe_l, gNe_t,
    gIsN_n, gIsN_s, gIsN_i, gIsN_l, gIsN_t, gNotN_n, gNotN_s, gNotN_i, gNotN_l, gNotN_t, gIn_l, gIn_t, gNin_l, gNin_t, flD_s, flD_i, flD_n, flD_str, flD_int, has_strs, gRep_l, diRng2_ev, rK2_i, dStE_ev, iKx_i, gIx_l, gIx_t, gIx_s, DL.at0, at1, at2, at3, at4, at5, dNoPart_ev, pK_i, dPart_ev, sK_l, sK_r, sK_t, sK_s, dSl_ev, dNil_ev, dCons_ev, dConsW_ev, itsD_l, itsD_t, dStar_ev, dLst_ev, dTup_ev, dBlt_ev, gLen_l, gLen_t, gLen_r, gLen_s, gInt_i, gInt_b, gAbs_i, gMax_i, gMin_i, gTuple_l, gTuple_t, gList_l, gList_t, oW_ow, owAt_ev, decide_true, decide_false, Bool.not_true, Bool.not_false, gRepr_1, dStarT_ev, dRepl_ev, dTryAs0_ev, dTryOn_ev, dIsx0_ev, xnK_x, dIdx_ev, liK_l, has_two, stK_l, gTimes_s, zK_s, dSplit_ev, dJoin_ev, dInTab_ev, dIxTab_ev, gInD_l, gInS_s, gNinS_s, chK_b, dChn_ev, is_tt, is_ll, is_tn, is_bn, dTryAs_ev, dXf_ev, dIsx_ev, xK_x, dRaise1_ev, dIsi_ev, is_ss, is_sl, is_st, is_bb, dProp_ev, prK_i, xc_c, xc_a, dApp_ev, dStI_ev, wK_sh, wK_fr, wK_bo, wK_t, wK_r, wK_s, diVal_ev, rK_i, diRng_ev, eK_sh, eK_fr, eK_bo, diEnum_ev, dgName_ev, dgNil_ev, dgCons_ev, dgTup_ev, dAsg_ev, dFor_ev, dWhile_ev, dLc_ev, dGen_ev, dCall_ev, mK_i, dMeth_ev, fK_i, dFld_ev, nK_i, dNeg_ev, dYes_ev, oK_some, List.length_map, rng_len, Int.toNat_natCast,
    List.map_cons, List.map_nil, List.length_cons, List.length_nil, List.length_set, List.replicate_succ, List.replicate_zero, List.nil_append, List.cons_append, List.set_cons_zero, List.set_cons_succ, Nat.reduceAdd, Nat.reduceSub, ne_eq, reduceCtorEq, not_false_eq_true, not_true_eq_false, true_and, and_true, Nat.reduceLT, Nat.reduceLeDiff, Nat.zero_le, Bool.false_eq_true])
local macro_rules | `(tactic| walk_at "st") => `(tactic| simp (dsimp := false) only [dWk_ev, diWk_ev, dPre_ev, fgt_nil, fgt_t, fgt_f, dFz_ev, fz1_ow, fz1_od, fz1_va, dTstX_ev, dTstXV_ev, dBinX_ev, vaX_va, dMakeL_ev, em_uu, em_ui, em_ii, em_iu, pairs_om', pairs_om, zip_self, dRaise0_ev, lk0, lk1, lk2, fg_giver, fg_receiver, fg_right, fg_may_pass, slD_gr, slFr_gr, Option.map_none, Option.map_some, Option.isSome_none, Option.isSome_some, lg_owners, lg_owner_of, lg_grants, lg_removed, lg_standing, lg_gput, lg_rput, lg_sput, val_om, finS_nil, finS_cons, keep1_ob, keep1_va, keep1_rl, keep1_ro, getD_0, getD_s, bK_rl, bK_od, bK_rd, vK_od, slD_va, slD_ow, slFr_va, slFr_ow, slFr_od, slOf_frd, dxE_ev, dCallL_ev, dCallV_ev, resF_va, resF_ow, dMvX_ev, dForO_ev, dSetX_ev, dDropX_ev, dRetX_ev, obRd_ob, obRd_ro, obWr_ob, obNm_ob, obNm_ro, obW_ob, obR_ob, obR_ro, fdRd_va, fdRd_ow, fdRd_od, fdRd_tq, lwK_ow, fdOf_va, fdOf_ow, fdOf_od, resK_va, resK_ow, ntl_va, ntl_ow, ntl_ob, ntl_no, dOF_ev, dOS_ev, dOTq_ev, tlK_l, dOApp_ev, dDictF_ev, tqK_q, dDIn_t, dDIn_f, dinK_d, dDGet_ev, dgetK_d, keyD_s, keyD_i, dClr_ev, dMethX_ev, dMethR_ev, dMethX0_ev, dMethR0_ev, dMethK_ev, dPropR_ev, dCallX_ev, dCallR_ev, dMakeX_ev, dMakeD_ev, dLend_ev, lendK_ob, lendK_ro, dLcP_ev, dGenP_ev, dTryM_ev, hxK_nil, hxK_as, hxK_as0, hxK_on, cutN_rt, cutN_nx, gLenA_d, gLenA_l, gLenA_t, gLenA_s, k0, k1, k2, k3, iK_true, iK_false, iK_not, sl_0, sl_s, vK_va, vK_ow, bK_va, bK_ow, dVar_ev, dVarB_ev, dC_ev, dBin_ev, tK_bl, dTst_ev, dAnd_ev, dOr_ev, dNot_ev, dAndV_ev, dOrV_ev, dNotV_ev, dIf_ev, dNext_ev, dSeq_st, kS_e, dBreak_ev, dCont_ev, dRet_ev, dRetN_ev, dSet_ev, dDrop_ev, slOf_fr, slOf_sh, gAdd_i, gAdd_s, gAdd_l, gAdd_t, num_i, gEq_i, gEq_s, gEq_b, gEq_sn, gEq_ns, gEq_in, gEq_ni, gEq_nn, gEq_is, gEq_si, gNe_i, gNe_s, gNe_b, gNe_sn, gNe_ns, gNe_in, gNe_ni, gNe_nn, gEq_l, gEq_t, gNe_l, gNe_t,
    gIsN_n, gIsN_s, gIsN_i, gIsN_l, gIsN_t, gNotN_n, gNotN_s, gNotN_i, gNotN_l, gNotN_t, gIn_l, gIn_t, gNin_l, gNin_t, flD_s, flD_i, flD_n, flD_str, flD_int, has_strs, gRep_l, diRng2_ev, rK2_i, dStE_ev, iKx_i, gIx_l, gIx_t, gIx_s, DL.at0, at1, at2, at3, at4, at5, dNoPart_ev, pK_i, dPart_ev, sK_l, sK_r, sK_t, sK_s, dSl_ev, dNil_ev, dCons_ev, dConsW_ev, itsD_l, itsD_t, dStar_ev, dLst_ev, dTup_ev, dBlt_ev, gLen_l, gLen_t, gLen_r, gLen_s, gInt_i, gInt_b, gAbs_i, gMax_i, gMin_i, gTuple_l, gTuple_t, gList_l, gList_t, oW_ow, owAt_ev, decide_true, decide_false, Bool.not_true, Bool.not_false, gRepr_1, dStarT_ev, dRepl_ev, dTryAs0_ev, dTryOn_ev, dIsx0_ev, xnK_x, dIdx_ev, liK_l, has_two, stK_l, gTimes_s, zK_s, dSplit_ev, dJoin_ev, dInTab_ev, dIxTab_ev, gInD_l, gInS_s, gNinS_s, chK_b, dChn_ev, is_tt, is_ll, is_tn, is_bn, dTryAs_ev, dXf_ev, dIsx_ev, xK_x, dRaise1_ev, dIsi_ev, is_ss, is_sl, is_st, is_bb, dProp_ev, prK_i, xc_c, xc_a, dApp_ev, dStI_ev, wK_sh, wK_fr, wK_bo, wK_t, wK_r, wK_s, diVal_ev, rK_i, diRng_ev, eK_sh, eK_fr, eK_bo, diEnum_ev, dgName_ev, dgNil_ev, dgCons_ev, dgTup_ev, dAsg_ev, dFor_ev, dWhile_ev, dLc_ev, dGen_ev, dCall_ev, mK_i, dMeth_ev, fK_i, dFld_ev, nK_i, dNeg_ev, dYes_ev, oK_some, List.length_map, rng_len, Int.toNat_natCast,
    List.map_cons, List.map_nil, List.length_cons, List.length_nil, List.length_set, List.replicate_succ, List.replicate_zero, List.nil_append, List.cons_append, List.set_cons_zero, List.set_cons_succ, Nat.reduceAdd, Nat.reduceSub, ne_eq, reduceCtorEq, not_false_eq_true, not_true_eq_false, true_and, and_true, Nat.reduceLT, Nat.reduceLeDiff, Nat.zero_le, Bool.false_eq_true])
theorem map_getD {l : List Str} {d : Str} : (List.range l.length).map (fun k => l.getD k d) = l := by
  apply List.ext_getElem
  · rw [List.length_map, List.length_range]
  · intro i h1 h2
    rw [List.getElem_map, List.getElem_range, List.getD_eq_getElem?_getD, List.getElem?_eq_getElem h2]
    rfl
theorem own_fst {ns : List Int} {a : Nat} : (lawOwn ns a).map (·.1) = rgt ns a := by
  unfold lawOwn
  rw [List.map_map]
  exact map_getD
theorem own_len {ns : List Int} {a : Nat} : (lawOwn ns a).length ≤ 3 := by
  have := rgt_len (ns := ns) (a := a)
  rw [← own_fst, List.length_map] at this
  exact this
theorem own_nd {ns : List Int} {a : Nat} : ((lawOwn ns a).map (·.1)).Nodup := by
  rw [own_fst]
  exact List.Nodup.sublist (List.take_sublist _ _) (names_nodup (by decide))
theorem names_getD {n : Int} {m : Nat} {d : Str} {k : Nat} (h : k < m) : isName ((lawNames n m).getD k d) = true := by
  have hl : k < (lawNames n m).length := by rw [names_len]; exact h
  rw [List.getD_eq_getElem?_getD, List.getElem?_eq_getElem hl]
  exact names_name (List.getElem_mem hl)
theorem own_name {ns : List Int} {a : Nat} : ∀ x ∈ lawOwn ns a, isName x.1 = true ∧ isName x.2 = true := fun x hx => by
  refine ⟨?_, ?_⟩
  · have h : x.1 ∈ rgt ns a := by rw [← own_fst]; exact List.mem_map.mpr ⟨x, hx, rfl⟩
    unfold rgt at h
    exact names_name (List.mem_of_mem_take h)
  · unfold lawOwn at hx
    obtain ⟨k, hk, rfl⟩ := List.mem_map.mp hx
    have z3 : 0 ≤ nu ns (a + 3 + k) % 3 ∧ nu ns (a + 3 + k) % 3 < 3 := ⟨Int.emod_nonneg _ (by decide), Int.emod_lt_of_pos _ (by decide)⟩
    exact names_getD (by omega)
theorem isName_len {t : Str} (h : isName t = true) : t.length ≤ 12 := by
  unfold isName at h
  simp only [Bool.and_eq_true, decide_eq_true_eq] at h
  exact h.1.2
theorem own_ok {ns : List Int} {a : Nat} : psOk (lawOwn ns a) = true := by
  unfold psOk
  rw [Bool.and_eq_true, decide_eq_true_eq, List.all_eq_true]
  exact ⟨fun x hx => by rw [(own_name x hx).1, (own_name x hx).2]; rfl, own_nd⟩
theorem own_str {ns : List Int} {a : Nat} : PsS (lawOwn ns a) := fun x hx => ⟨isName_ok (own_name x hx).1, isName_ok (own_name x hx).2⟩
theorem pes {n : Int} {m : Nat} (h2 : 2 ≤ m) (h8 : m ≤ 8) : PeS (lawNames n m) := by
  refine ⟨fun p hp => isName_ok (names_name hp), fun p => ?_, by rw [names_len]; omega⟩
  have l := names_len (n := n) (m := m)
  have nd := names_nodup (n := n) h8
  have h0 : 0 < (lawNames n m).length := by omega
  have h1 : 1 < (lawNames n m).length := by omega
  by_cases e : (lawNames n m)[0] = p
  · refine ⟨(lawNames n m)[1], List.getElem_mem h1, fun z => ?_⟩
    have := (List.getElem_inj nd).mp (e.trans z.symm)
    omega
  · exact ⟨_, List.getElem_mem h0, e⟩
theorem isName_zed : isName "Zed" = false ∧ isName "" = false ∧ isName "7up" = false ∧ isName "Right" = false := by decide +kernel
/-- a ledger of which nothing was taken back -/
def lg0 (ps : List (Str × Str)) (gs : List Gr) : List (Str × Fd) := lgF ps gs (List.replicate gs.length false) (List.range gs.length)
theorem lg0_nil {ps : List (Str × Str)} : lgF ps [] [] [] = lg0 ps [] := rfl
theorem lg0_snoc {ps : List (Str × Str)} {gs : List Gr} {g : Gr} : lgF ps (gs ++ [g]) (List.replicate gs.length false ++ [false]) (List.range gs.length ++ [gs.length]) = lg0 ps (gs ++ [g]) := by
  unfold lg0
  rw [List.length_append]
  show _ = lgF _ _ (List.replicate (gs.length + 1) false) (List.range (gs.length + 1))
  rw [List.replicate_succ', List.range_succ]
theorem lok0 {ps : List (Str × Str)} {gs : List Gr} (h1 : ps.length ≤ 1000) (h2 : gs.length ≤ 1000) : Lok ps gs (List.replicate gs.length false) (List.range gs.length) := ⟨h1, h2, List.length_replicate, fun k hk => List.mem_range.mp hk, by rw [List.length_range]; exact Nat.le_refl _⟩
theorem shp_prt {ps : List (Str × Str)} (h : PsS ps) : shp (.tup (ps.map prD)) = true := by
  obtain ⟨h1, h2⟩ := okL_prs h
  unfold shp okD dpt
  rw [h1, decide_eq_true (by omega)]
  rfl
theorem mulB {i j : Int} (h1 : 0 ≤ i) (h2 : i < 1024) (h3 : 0 ≤ j) (h4 : j < 1024) : CMulB i j := by
  have a := log2_small (i := i) (b := 10) h1 (by show _ < (2 : Int) ^ 10; omega)
  have b := log2_small (i := j) (b := 10) h3 (by show _ < (2 : Int) ^ 10; omega)
  show _ + _ < _
  omega
theorem emod_p (i : Int) {n : Int} (h : 0 < n) : 0 ≤ i % n ∧ i % n < n := ⟨Int.emod_nonneg _ (by omega), Int.emod_lt_of_pos _ h⟩
theorem ix_last {α : Type} {f : α → D} {l : List α} (h : 0 < l.length) : ∃ x, x ∈ l ∧ atI (l.map f) (-1) = some (f x) := by
  have h2 : l.length - 1 < l.length := by omega
  refine ⟨l[l.length - 1], List.getElem_mem h2, ?_⟩
  unfold atI ixN
  rw [List.length_map, if_neg (by omega), if_pos (by omega)]
  have e : ((-1 : Int) + (l.length : Int)).toNat = l.length - 1 := by omega
  rw [e, Option.bind_some, List.getElem?_map, List.getElem?_eq_getElem h2]
  rfl
theorem Fil.mono {ps : List (Str × Str)} {pe : List Str} {gs : List Gr} {m n : Nat} (h : Fil ps pe gs m) (l : m ≤ n) : Fil ps pe gs n := ⟨h.val, Nat.le_trans h.len l, h.mem⟩
def dueD (c : Bool) (n : Nat) : D := match c with
  | true => .tup [.str "number", inD n]
  | false => .tup [.str "refused", .int 1]
theorem dueD_t {n : Nat} : dueD true n = .tup [.str "number", inD n] := rfl
theorem dueD_f {n : Nat} : dueD false n = .tup [.str "refused", .int 1] := rfl
theorem shp_due {s : Str} {i : Int} (h : PyData.strOk s = true) : shp (.tup [.str s, .int i]) = true := by
  simp [shp, okD, okL, h, dpt, dptL]
theorem shp_num {n : Nat} : shp (.tup [.str "number", inD n]) = true := shp_due (by decide +kernel)
theorem shp_unk {s t : Str} (h : PyData.strOk s = true) (h2 : PyData.strOk t = true) : shp (.tup [.str s, .str t]) = true := shp_pair h h2
theorem wild_name {pe : List Str} {x : Str} (hm : ∀ p ∈ pe, isName p = true) (h : x ∈ pe ++ (["Zed", "", "7up"] : List Str)) : isName x = pe.contains x ∧ x.length ≤ 12 := by
  have z := isName_zed
  rcases List.mem_append.mp h with h | h
  · refine ⟨?_, isName_len (hm x h)⟩
    rw [hm x h]
    exact (List.contains_iff_mem.mpr h).symm
  · have nc : isName x = false → pe.contains x = false := fun e => by
      rw [Bool.eq_false_iff]
      intro c
      have := hm x (List.contains_iff_mem.mp c)
      rw [e] at this
      cases this
    simp only [List.mem_cons, List.not_mem_nil, or_false] at h
    rcases h with rfl | rfl | rfl
    · exact ⟨by rw [nc z.1, z.1], by decide⟩
    · exact ⟨by rw [nc z.2.1, z.2.1], by decide⟩
    · exact ⟨by rw [nc z.2.2.1, z.2.2.1], by decide⟩
theorem owner_none {ps : List (Str × Str)} {r : Str} (hn : ∀ x ∈ ps, isName x.1 = true ∧ isName x.2 = true) (h : isName r = false) : ownerOf ps r = none := by
  cases e : ownerOf ps r with
  | none => rfl
  | some o => have := (hn _ (owner_mem e)).1; rw [h] at this; cases this
theorem psOk_bad {ps : List (Str × Str)} {x : Str × Str} (h : x ∈ ps) (b : (isName x.1 && isName x.2) = false) : psOk ps = false := by
  unfold psOk
  rw [Bool.and_eq_false_iff]
  refine .inl ?_
  rw [Bool.eq_false_iff]
  intro z
  have := List.all_eq_true.mp z x h
  rw [b] at this
  cases this
theorem psOk_two {ps : List (Str × Str)} {x : Str × Str} {p : Str} (h : x ∈ ps) : psOk (ps ++ [(x.1, p)]) = false := by
  unfold psOk
  rw [Bool.and_eq_false_iff]
  refine .inr (decide_eq_false fun nd => ?_)
  rw [List.map_append, List.nodup_append] at nd
  exact nd.2.2 x.1 (List.mem_map.mpr ⟨x, h, rfl⟩) x.1 (List.mem_singleton.mpr rfl) rfl
def grow (c : Bool) (gs : List Gr) (g : Gr) : List Gr := match c with
  | true => gs ++ [g]
  | false => gs
/-- two statements, behind which I holds -/
theorem seqJ {X : XF} {N : DN} {ρ : List Sl} {t u : DS} (I : List Sl → Prop) (h1 : ∀ k : List Sl → Prop, (∀ ρ', I ρ' → k ρ') → t X ⟨k, N.rt, N.bk, N.ct⟩ ρ) (h2 : ∀ ρ', I ρ' → u X N ρ') : dSeq t u X N ρ := h1 _ h2
abbrev Nlaw : List Str := ["script", "numbers", "owners", "people", "handed", "ledger", "grants", "k", "made", "place", "bad", "right", "person", "at", "wild", "stood", "due", "more", "owner"]
def rlaw : DS :=
  (dSeq (dFz 1 (dSet 1 (dCall 2 ph__law_numbers (dCons (dVar 0) (dCons (dC (.int 110)) dNil)))))
  (dSeq (dFz 2 (dSet 2 (dCall 2 ph__law_owners (dCons (dVar 1) (dCons (dC (.int 0)) dNil)))))
  (dSeq (dFz 3 (dSet 3 (dCall 2 ph__law_names (dCons (dBin gIx (dVarB 1) (dC (.int 0))) (dCons (dC (.int 5)) dNil)))))
  (dSeq (dSet 4 (dBlt gList (dConsW (dVarB 2) dNil)))
  (dSeq (dSetX 5 (dMakeL "Ledger" 1 ph_Ledger___init__ 4 0 (dCons (dVar 4) dNil)))
  (dSeq (dApp 4 (dTup (dCons (dC (.str "x")) (dCons (dC (.str "y")) dNil))))
  (dSeq (dIfS (dTst (dBin gNe (dOF 5 "Ledger" "owners") (dBlt gTuple (dConsW (dVarB 2) dNil)))) (dRet (dC (.bl false))) dNext)
  (dSeq (dFor (diWk [true, false, false, false, true, false, true, true, true, true, true, true, true, true, true, true, true, true, true] (diVal (dVar 2))) (dgTup 2 (dgCons (dgName 11) (dgCons (dgName 12) dgNil))) (dWk [true, false, false, false, true, false, true, true, true, true, true, true, true, true, true, true, true, true, true] (dIfS (dTst (dBin gNe (dMethR "Ledger" "owner" 1 ph_Ledger_owner 5 (dCons (dVar 11) dNil)) (dVarB 12))) (dRet (dC (.bl false))) dNext)))
  (dSeq (dSet 6 (dLst dNil))
  (dSeq (dFor (diWk [true, false, false, false, true, false, false, true, true, true, true, true, true, true, true, true, true, true, true] (diRng (dConsW (dBin gMod (dBlt gInt (dConsW (dBin gIx (dVarB 1) (dC (.int 8))) dNil)) (dC (.int 13))) dNil))) (dgName 7) (dWk [true, false, false, false, true, false, false, true, true, true, true, true, true, true, true, true, true, true, true] (dSeq (dSet 13 (dBin gAdd (dC (.int 10)) (dBin gMul (dC (.int 5)) (dVarB 7))))
  (dSeq (dFz 14 (dSet 14 (dLst (dCons (dBin gIx (dVarB 3) (dBin gMod (dBlt gInt (dConsW (dBin gIx (dVarB 1) (dVarB 13)) dNil)) (dC (.int 5)))) (dCons (dBin gIx (dBin gAdd (dVarB 3) (dLst (dCons (dC (.str "Zed")) (dCons (dC (.str "")) (dCons (dC (.str "7up")) dNil))))) (dBin gMod (dBlt gInt (dConsW (dBin gIx (dVarB 1) (dBin gAdd (dVarB 13) (dC (.int 1)))) dNil)) (dC (.int 8)))) (dCons (dBin gGt (dBin gMod (dBlt gInt (dConsW (dBin gIx (dVarB 1) (dBin gAdd (dVarB 13) (dC (.int 3)))) dNil)) (dC (.int 3))) (dC (.int 0))) dNil))))))
  (dSeq (dFz 11 (dSet 11 (dSl (dLc (diVal (dVarB 2)) 18 dYes (dBin gIx (dVarB 18) (dC (.int 0)))) dNoPart (dPart (dBin gAdd (dC (.int 1)) (dBin gMod (dBlt gInt (dConsW (dBin gIx (dVarB 1) (dBin gAdd (dVarB 13) (dC (.int 2)))) dNil)) (dC (.int 3))))))))
  (dIfS (dTst (dBin gGt (dBlt gLenA (dConsW (dVarB 11) dNil)) (dC (.int 0)))) (dSeq (dSet 11 (dBin gIx (dVarB 11) (dNeg (dC (.int 1)))))
  (dSeq (dFz 15 (dSet 15 (dCallV 3 ph__law_standing 6 1 (dCons (dVar 2) (dCons (dVar 6) (dCons (dLst dNil) dNil))))))
  (dSeq (dSet 16 (dTup (dCons (dC (.str "refused")) (dCons (dC (.int 1)) dNil))))
  (dSeq (dIfS (dAnd (dTst (dBin gIn (dBin gIx (dVarB 14) (dC (.int 1))) (dVarB 3))) (dAnd (dTst (dBin gNe (dBin gIx (dVarB 14) (dC (.int 0))) (dBin gIx (dVarB 14) (dC (.int 1))))) (dTst (dCallV 5 ph__law_may 6 1 (dCons (dVar 2) (dCons (dVar 6) (dCons (dVar 15) (dCons (dBin gIx (dVarB 14) (dC (.int 0))) (dCons (dVar 11) dNil))))))))) (dSet 16 (dTup (dCons (dC (.str "number")) (dCons (dBlt gLenA (dConsW (dVarB 6) dNil)) dNil)))) dNext)
  (dSeq (dIfS (dTstX gNe (dCallX 5 ph__law_granted 5 0 (dCons (dLend 5) (dCons (dBin gIx (dVarB 14) (dC (.int 0))) (dCons (dBin gIx (dVarB 14) (dC (.int 1))) (dCons (dVar 11) (dCons (dBin gIx (dVarB 14) (dC (.int 2))) dNil)))))) (dVarB 16)) (dRet (dC (.bl false))) dNext)
  (dSeq (dIfS (dTst (dBin gEq (dBin gIx (dVarB 16) (dC (.int 0))) (dC (.str "number")))) (dApp 6 (dTup (dCons (dBin gIx (dVarB 14) (dC (.int 0))) (dCons (dBin gIx (dVarB 14) (dC (.int 1))) (dCons (dVar 11) (dCons (dBin gIx (dVarB 14) (dC (.int 2))) dNil)))))) dNext)
  (dSeq (dFz 17 (dSet 17 (dCall 5 ph__law_filled (dCons (dVar 2) (dCons (dVar 3) (dCons (dVar 1) (dCons (dBin gAdd (dVarB 13) (dC (.int 3))) (dCons (dC (.int 1)) dNil))))))))
  (dIfS (dAnd (dTst (dBin gGt (dBlt gLenA (dConsW (dVarB 17) dNil)) (dC (.int 0)))) (dTst (dBin gEq (dBin gMod (dBlt gInt (dConsW (dBin gIx (dVarB 1) (dBin gAdd (dVarB 13) (dC (.int 4)))) dNil)) (dC (.int 2))) (dC (.int 0))))) (dSeq (dIfS (dTstX gNe (dCallX 5 ph__law_granted 5 0 (dCons (dLend 5) (dCons (dBin gIx (dBin gIx (dVarB 17) (dC (.int 0))) (dC (.int 0))) (dCons (dBin gIx (dBin gIx (dVarB 17) (dC (.int 0))) (dC (.int 1))) (dCons (dBin gIx (dBin gIx (dVarB 17) (dC (.int 0))) (dC (.int 2))) (dCons (dBin gIx (dBin gIx (dVarB 17) (dC (.int 0))) (dC (.int 3))) dNil)))))) (dTup (dCons (dC (.str "number")) (dCons (dBlt gLenA (dConsW (dVarB 6) dNil)) dNil)))) (dRet (dC (.bl false))) dNext)
  (dApp 6 (dBin gIx (dVarB 17) (dC (.int 0))))) dNext)))))))) dNext))))))
  (dSeq (dIfS (dOr (dTstX gNe (dCallX 5 ph__law_granted 5 0 (dCons (dLend 5) (dCons (dBin gIx (dVarB 3) (dC (.int 0))) (dCons (dBin gIx (dVarB 3) (dC (.int 0))) (dCons (dC (.str "Right")) (dCons (dC (.bl true)) dNil)))))) (dTup (dCons (dC (.str "unknown")) (dCons (dC (.str "Right")) dNil)))) (dNot (dTst (dCallR 2 ph__law_told 5 0 (dCons (dLend 5) (dCons (dVar 6) dNil)))))) (dRet (dC (.bl false))) dNext)
  (dSeq (dSet 8 (dMakeD "Grant" 4 ph_Grant___init__ (dCons (dBin gIx (dVarB 3) (dC (.int 0))) (dCons (dBin gIx (dVarB 3) (dC (.int 1))) (dCons (dC (.str "right")) (dCons (dC (.bl true)) dNil))))))
  (dSeq (dIfS (dTst (dBin gNe (dTup (dCons (dFld "Grant" "giver" (dVar 8)) (dCons (dFld "Grant" "receiver" (dVar 8)) (dCons (dFld "Grant" "right" (dVar 8)) (dCons (dFld "Grant" "may_pass" (dVar 8)) dNil))))) (dTup (dCons (dBin gIx (dVarB 3) (dC (.int 0))) (dCons (dBin gIx (dVarB 3) (dC (.int 1))) (dCons (dC (.str "right")) (dCons (dC (.bl true)) dNil))))))) (dRet (dC (.bl false))) dNext)
  (dSeq (dSet 9 (dBin gMod (dBlt gInt (dConsW (dBin gIx (dVarB 1) (dC (.int 90))) dNil)) (dBin gAdd (dBlt gLenA (dConsW (dVarB 2) dNil)) (dC (.int 1)))))
  (dSeq (dSet 10 (dBin gIx (dLst (dCons (dTup (dCons (dC (.str "Right")) (dCons (dBin gIx (dVarB 3) (dC (.int 0))) dNil))) (dCons (dTup (dCons (dC (.str "right0")) (dCons (dC (.str "Zed")) dNil))) (dCons (dTup (dCons (dC (.str "")) (dCons (dBin gIx (dVarB 3) (dC (.int 1))) dNil))) dNil)))) (dBin gMod (dBlt gInt (dConsW (dBin gIx (dVarB 1) (dC (.int 91))) dNil)) (dC (.int 3)))))
  (dSeq (dIfS (dNot (dTst (dCall 1 ph__law_refused (dCons (dBin gAdd (dBin gAdd (dSl (dVarB 2) dNoPart (dPart (dVarB 9))) (dLst (dCons (dVar 10) dNil))) (dSl (dVarB 2) (dPart (dVarB 9)) dNoPart)) dNil)))) (dRet (dC (.bl false))) dNext)
  (dRet (dOrV (dBin gEq (dBlt gLenA (dConsW (dVarB 2) dNil)) (dC (.int 0))) (dCall 1 ph__law_refused (dCons (dBin gAdd (dVarB 2) (dLst (dCons (dTup (dCons (dBin gIx (dBin gIx (dVarB 2) (dBin gMod (dBlt gInt (dConsW (dBin gIx (dVarB 1) (dC (.int 92))) dNil)) (dBlt gLenA (dConsW (dVarB 2) dNil)))) (dC (.int 0))) (dCons (dBin gIx (dVarB 3) (dC (.int 4))) dNil))) dNil))) dNil))))))))))))))))))))
/- theorem Mlaw : MD rlaw 1 19 phlaw := fun ds Qd Xd h hl => by -/
def ph_law : Ph := fun ds Qd _ => ∃ (d : D) (cs : List Int), ds = [d] ∧ (d = .scr cs ∨ d = .lst (cs.map .int)) ∧ (∀ c ∈ cs, c.natAbs.log2 < 4000000) ∧ cs.length ≤ 63 ∧ Qd (.bl true)
theorem Mlaw : MD rlaw 1 19 ph_law := fun ds Qd Xd h hl => by
  obtain ⟨d, cs, rfl, hd, hc, hcl, q⟩ := h
  unfold rlaw
  walk_at "st"
  refine ⟨d, cs, 110, rfl, hd, hc, hcl, by decide, fun ns ln hn => ?_⟩
  walk_at "st"
  refine ⟨ns, 0, rfl, hn, by omega, by decide, ?_⟩
  walk_at "st"
  refine oK.mk (atn (j := 0) rfl (by omega)) ?_
  walk_at "st"
  refine ⟨nu ns 0, 5, rfl, nu_in9 hn 0, by decide, ?_⟩
  walk_at "st"
  have hps := own_str (ns := ns) (a := 0)
  have hpl := own_len (ns := ns) (a := 0)
  have hpn := own_name (ns := ns) (a := 0)
  have hpd := own_nd (ns := ns) (a := 0)
  have hok := own_ok (ns := ns) (a := 0)
  have hpe := pes (n := nu ns 0) (m := 5) (by decide) (by decide)
  have hpm : ∀ p ∈ lawNames (nu ns 0) 5, isName p = true := fun p hp => names_name hp
  have ple : (lawNames (nu ns 0) 5).length = 5 := names_len
  generalize lawOwn ns 0 = ps at hps hpl hpn hpd hok ⊢
  generalize lawNames (nu ns 0) 5 = pe at hpe hpm ple ⊢
  intro ah
  refine ⟨⟨rfl, by simp [ntl]⟩, rfl, fun b => ⟨b, ps, _, rfl, .inr rfl, by omega, fun x hx => ⟨Nat.le_trans (isName_len (hpn x hx).1) (by decide), Nat.le_trans (isName_len (hpn x hx).2) (by decide)⟩, ?_⟩⟩
  rw [if_pos hok]
  walk_at "st"
  refine ⟨by unfold sizeLine; omega, by unfold sizeLine; omega, ?_⟩
  walk_at "ev"
  refine ⟨shp_prt hps, shp_prt hps, ?_⟩
  rw [eqD_refl (shp_prt hps)]
  walk_at "st"
  refine forK.map (fun k ρ => ρ = [.no, .va (.lst (ns.map .int)), .va (.lst (ps.map prD)), .va (.lst (pe.map .str)), .no, .ob b "Ledger" (lgF ps [] [] []), .no, .no, .no, .no, .no, .no, .no, .no, .no, .no, .no, .no, .no]) rfl (fun k x ρ' hk lk h => ?_) (fun ρ' h => ?_)
  · subst h
    have hx := List.mem_of_getElem? hk
    unfold prD
    walk_at "ev"
    refine ⟨lg_owner, b, ps, [], [], [], x.1, rfl, Nat.le_trans (isName_len (hpn x hx).1) (by decide), ?_⟩
    rw [mem_owner hpd (show (x.1, x.2) ∈ ps from hx)]
    walk_at "ev"
  · subst h
    walk_at "st"
    rw [lg0_nil]
    refine oK.mk (atn (j := 8) (by decide) (by omega)) ?_
    walk_at "st"
    have z13 : 0 ≤ nu ns 8 % 13 ∧ nu ns 8 % 13 < 13 := ⟨Int.emod_nonneg _ (by decide), Int.emod_lt_of_pos _ (by decide)⟩
    refine ⟨by decide, by omega, by omega, forK.rng (fun k ρ => ∃ gs, Fil ps pe gs (2 * k) ∧ ρ = [.no, .va (.lst (ns.map .int)), .va (.lst (ps.map prD)), .va (.lst (pe.map .str)), .no, .ob b "Ledger" (lg0 ps gs), .ow (gs.map gtD), .no, .no, .no, .no, .no, .no, .no, .no, .no, .no, .no, .no]) ⟨[], Fil.nil, rfl⟩ (fun k ρ' hk i => ?_) (fun ρ' i => ?_)⟩
    · obtain ⟨gs, fi, rfl⟩ := i
      have hk : k < 13 := by omega
      have gl := fi.len
      walk_at "st"
      refine ⟨mulB (by omega) (by omega) (by omega) (by omega), oK.mk (atn (j := 10 + 5 * k) (by omega) (by omega)) ?_⟩
      walk_at "st"
      obtain ⟨x0, hx0, e0⟩ := ix_map (f := D.str) (l := pe) (i := nu ns (10 + 5 * k) % 5) (emod_p _ (by decide)).1 (by rw [ple]; exact (emod_p _ (by decide)).2)
      refine ⟨by decide, oK.mk e0 ?_⟩
      walk_at "st"
      refine ⟨by unfold sizeLine; omega, by unfold sizeLine; omega, oK.mk (atn (j := 10 + 5 * k + 1) (by omega) (by omega)) ?_⟩
      walk_at "st"
      obtain ⟨x1, hx1, e1⟩ := ix_map (f := D.str) (l := pe ++ (["Zed", "", "7up"] : List Str)) (i := nu ns (10 + 5 * k + 1) % 8) (emod_p _ (by decide)).1 (by rw [List.length_append, ple]; exact (emod_p _ (by decide)).2)
      rw [List.map_append] at e1
      refine ⟨by decide, oK.mk e1 ?_⟩
      walk_at "st"
      refine oK.mk (atn (j := 10 + 5 * k + 3) (by omega) (by omega)) ?_
      walk_at "st"
      refine ⟨by decide, by unfold sizeLine; omega, ?_⟩
      refine lcK.all (f := prD) (fun x y e => by cases x; cases y; unfold prD at e; injection e with e; injection e with e1 e; injection e with e2 e; cases e1; cases e2; rfl) (fun x => .str x.1) (by unfold sizeLine; omega) (fun x hx => ?_) ?_
      · unfold prD
        walk_at "st"
      · walk_at "st"
        refine oK.mk (atn (j := 10 + 5 * k + 2) (by omega) (by omega)) ?_
        walk_at "st"
        have z3 := emod_p (nu ns (10 + 5 * k + 2)) (n := 3) (by decide)
        have eR : DL.cutD (ps.map fun x => D.str x.1) none (some (1 + nu ns (10 + 5 * k + 2) % 3)) = ((ps.map (·.1)).take (1 + nu ns (10 + 5 * k + 2) % 3).toNat).map D.str := by
          rw [show (1 + nu ns (10 + 5 * k + 2) % 3) = (((1 + nu ns (10 + 5 * k + 2) % 3).toNat : Nat) : Int) by omega, cutD_take, List.map_take, List.map_map, Int.toNat_natCast]
          rfl
        simp (dsimp := false) only [eR]
        have hR : ∀ r ∈ (ps.map (·.1)).take (1 + nu ns (10 + 5 * k + 2) % 3).toNat, ∃ o, (r, o) ∈ ps := fun r hr => by
          obtain ⟨x, hx, rfl⟩ := List.mem_map.mp (List.mem_of_mem_take hr)
          exact ⟨x.2, hx⟩
        have lR : ((ps.map (·.1)).take (1 + nu ns (10 + 5 * k + 2) % 3).toNat).length ≤ 3 := by rw [List.length_take, List.length_map]; omega
        generalize (ps.map (·.1)).take (1 + nu ns (10 + 5 * k + 2) % 3).toNat = R at hR lR ⊢
        refine ⟨by decide, ?_⟩
        walk_at "ev"
        refine iK_d (fun h0 => ?_) fun h0 => ?_
        · walk_at "st"
          obtain ⟨r, hr, er⟩ := ix_last (f := D.str) (l := R) (by omega)
          obtain ⟨o, ho⟩ := hR r hr
          refine oK.mk er ?_
          walk_at "st"
          intro aa
          refine ⟨⟨rfl, by simp [ntl]⟩, rfl, ps, gs, [], rfl, hps, fi.gs hps hpe, by omega, ?_⟩
          walk_at "st"
          refine ⟨fl_nats, ?_⟩
          simp (dsimp := false) only [fi.st]
          generalize hb : decide (0 < nu ns (10 + 5 * k + 3) % 3) = bp
          refine ⟨by unfold sizeLine; omega, ?_⟩
          refine ifJ (pe.contains x1 && (!decide (x0 = x1) && lawMay ps gs (List.range gs.length) x0 r)) (fun ρ => ρ = [.no, .va (.lst (ns.map .int)), .va (.lst (ps.map prD)), .va (.lst (pe.map .str)), .no, .ob b "Ledger" (lg0 ps gs), .ow (gs.map gtD), .va (.int (k : Int)), .no, .no, .no, .va (.str r), .no, .va (.int (10 + 5 * (k : Int))), .va (.lst [.str x0, .str x1, .bl bp]), .va (.lst ((List.range gs.length).map inD)), .va (dueD (pe.contains x1 && (!decide (x0 = x1) && lawMay ps gs (List.range gs.length) x0 r)) gs.length), .no, .no]) (fun R' q' => ?_) (fun K J c => ?_) (fun K J c => ?_) ?_
          · walk_at "ev"
            refine iK_b (fun c1 => ?_) fun c1 => ?_
            · rw [c1, Bool.true_and] at q'
              walk_at "ev"
              refine iK_d (fun c2 => ?_) fun c2 => ?_
              · have c2 : x0 = x1 := c2
                rw [decide_eq_true c2] at q'
                exact q'
              · have c2 : ¬ x0 = x1 := c2
                rw [decide_eq_false c2] at q'
                walk_at "ev"
                intro aa
                refine ⟨⟨rfl, by simp [ntl]⟩, rfl, ps, gs, List.range gs.length, x0, r, rfl, hps, hpe.ok x0 hx0, (hps _ ho).1, (fun k hk => List.mem_range.mp hk), by rw [List.length_range]; omega, ?_⟩
                walk_at "ev"
                exact ⟨rfl, q'⟩
            · rw [c1] at q'
              exact q'
          · rw [c] at J
            walk_at "st"
            exact ⟨by unfold sizeLine; omega, J _ rfl⟩
          · rw [c] at J
            walk_at "st"
            exact J _ rfl
          · rintro ρ' rfl
            walk_at "st"
            obtain ⟨wn, wl⟩ := wild_name hpm hx1
            have rl : r.length ≤ 12 := isName_len (hpn _ ho).1
            have cond : (isName x1 && (!decide (x1 = x0) && mayP o gs (List.range gs.length) x0 r)) = (pe.contains x1 && (!decide (x0 = x1) && lawMay ps gs (List.range gs.length) x0 r)) := by
              rw [wn, may_eq hpd (mem_owner hpd ho), show decide (x1 = x0) = decide (x0 = x1) by rw [decide_eq_decide]; exact ⟨Eq.symm, Eq.symm⟩]
            have inv : ∀ c, (pe.contains x1 && (!decide (x0 = x1) && lawMay ps gs (List.range gs.length) x0 r)) = c → Fil ps pe (grow c gs ⟨x0, x1, r, bp⟩) (2 * k + 1) := fun c e => by
              cases c with
              | false => exact fi.mono (by omega)
              | true =>
                simp only [Bool.and_eq_true, Bool.not_eq_true', decide_eq_false_iff_not] at e
                refine ⟨fi.val.snoc e.2.2, by show (gs ++ [_]).length ≤ _; rw [List.length_append]; show _ + 1 ≤ _; omega, fun g hg => ?_⟩
                rcases List.mem_append.mp hg with hg | hg
                · exact fi.mem g hg
                · rw [List.mem_singleton.mp hg]
                  exact ⟨hx0, List.contains_iff_mem.mp e.1, e.2.1, o, ho⟩
            generalize (pe.contains x1 && (!decide (x0 = x1) && lawMay ps gs (List.range gs.length) x0 r)) = cc at cond inv ⊢
            have inv := inv cc rfl
            have sN : PyData.strOk "number" = true := by decide +kernel
            have sR : PyData.strOk "refused" = true := by decide +kernel
            refine ifJ1 false [.no, .va (.lst (ns.map .int)), .va (.lst (ps.map prD)), .va (.lst (pe.map .str)), .no, .ob b "Ledger" (lg0 ps (grow cc gs ⟨x0, x1, r, bp⟩)), .ow (gs.map gtD), .va (.int (k : Int)), .no, .no, .no, .va (.str r), .no, .va (.int (10 + 5 * (k : Int))), .va (.lst [.str x0, .str x1, .bl bp]), .va (.lst ((List.range gs.length).map inD)), .va (dueD cc gs.length), .no, .no] (fun ρ => ρ = [.no, .va (.lst (ns.map .int)), .va (.lst (ps.map prD)), .va (.lst (pe.map .str)), .no, .ob b "Ledger" (lg0 ps (grow cc gs ⟨x0, x1, r, bp⟩)), .ow (gs.map gtD), .va (.int (k : Int)), .no, .no, .no, .va (.str r), .no, .va (.int (10 + 5 * (k : Int))), .va (.lst [.str x0, .str x1, .bl bp]), .va (.lst ((List.range gs.length).map inD)), .va (dueD cc gs.length), .no, .no]) (fun R' q' => ?_) (fun K J c => by cases c) (fun K J c => J _ rfl) ?_
            · walk_at "ev"
              refine ⟨rfl, b, ps, gs, List.replicate gs.length false, List.range gs.length, x0, x1, r, bp, rfl, lok0 (by omega) (by omega), by omega, Nat.le_trans wl (by decide), Nat.le_trans rl (by decide), ?_⟩
              rw [mem_owner hpd ho]
              show if (isName x1 && (!decide (x1 = x0) && mayP o gs (List.range gs.length) x0 r)) = true then _ else _
              rw [cond]
              cases cc with
              | true =>
                rw [if_pos rfl, lg0_snoc]
                walk_at "ev"
                simp (dsimp := false) only [dueD_t]
                walk_at "ev"
                refine ⟨shp_num, shp_num, ?_⟩
                rw [eqD_refl shp_num]
                exact q'
              | false =>
                rw [if_neg Bool.false_ne_true]
                walk_at "ev"
                simp (dsimp := false) only [dueD_f]
                walk_at "ev"
                refine ⟨shp_due sR, shp_due sR, ?_⟩
                rw [eqD_refl (shp_due sR)]
                exact q'
            · rintro ρ' rfl
              walk_at "st"
              refine ifJ cc (fun ρ => ρ = [.no, .va (.lst (ns.map .int)), .va (.lst (ps.map prD)), .va (.lst (pe.map .str)), .no, .ob b "Ledger" (lg0 ps (grow cc gs ⟨x0, x1, r, bp⟩)), .ow ((grow cc gs ⟨x0, x1, r, bp⟩).map gtD), .va (.int (k : Int)), .no, .no, .no, .va (.str r), .no, .va (.int (10 + 5 * (k : Int))), .va (.lst [.str x0, .str x1, .bl bp]), .va (.lst ((List.range gs.length).map inD)), .va (dueD cc gs.length), .no, .no]) (fun R' q' => ?_) (fun K J c => ?_) (fun K J c => ?_) ?_
              · cases cc with
                | true =>
                  simp (dsimp := false) only [dueD_t]
                  walk_at "ev"
                  exact q'
                | false =>
                  simp (dsimp := false) only [dueD_f]
                  walk_at "ev"
                  rw [decide_eq_false (by decide)]
                  exact q'
              · subst c
                walk_at "st"
                refine ⟨by unfold sizeLine; omega, by unfold sizeLine; omega, J _ ?_⟩
                show _ = [Sl.no, _, _, _, _, _, Sl.ow ((gs ++ [(⟨x0, x1, r, bp⟩ : Gr)]).map gtD), _, _, _, _, _, _, _, _, _, _, _, _]
                rw [List.map_append]
                rfl
              · subst c
                walk_at "st"
                exact J _ rfl
              · rintro ρ' rfl
                generalize grow cc gs ⟨x0, x1, r, bp⟩ = gs1 at inv ⊢
                generalize dueD cc gs.length = dd
                have g1l := inv.len
                walk_at "st"
                refine ⟨ps, pe, ns, 13 + 5 * k, 1, by rw [show ((13 + 5 * k : Nat) : Int) = 10 + 5 * (k : Int) + 3 by omega]; rfl, hps, hpe, by omega, hn, by omega, by omega, by decide, fun more fm => ?_⟩
                walk_at "ev"
                refine iK_d (fun hm => ?_) fun hm => ?_
                · walk_at "st"
                  refine oK.mk (atn (j := 10 + 5 * k + 4) (by omega) (by omega)) ?_
                  walk_at "ev"
                  refine ⟨by decide, iK_d (fun hz => ?_) fun hz => ?_⟩
                  · obtain ⟨g, rfl⟩ : ∃ g, more = [g] := by
                      have := fm.len
                      match more, hm, this with
                      | [g], _, _ => exact ⟨g, rfl⟩
                    obtain ⟨m1, m2, m3, o2, m4⟩ := fm.mem g List.mem_cons_self
                    have m5 : lawMay ps [g] (List.range 0) g.gv g.rt = true := fm.val 0 g rfl
                    have m6 : (g.rt, g.gv) ∈ ps := by
                      unfold lawMay at m5
                      simpa using m5
                    have m7 : ownerOf ps g.rt = some g.gv := mem_owner hpd m6
                    simp (dsimp := false) only [List.map_cons, List.map_nil, gtD_eq]
                    walk_at "st"
                    refine ifJ1 false [.no, .va (.lst (ns.map .int)), .va (.lst (ps.map prD)), .va (.lst (pe.map .str)), .no, .ob b "Ledger" (lg0 ps (gs1 ++ [g])), .ow (gs1.map gtD), .va (.int (k : Int)), .no, .no, .no, .va (.str r), .no, .va (.int (10 + 5 * (k : Int))), .va (.lst [.str x0, .str x1, .bl bp]), .va (.lst ((List.range gs.length).map inD)), .va dd, .va (.lst [gtD g]), .no] (fun ρ => ρ = [.no, .va (.lst (ns.map .int)), .va (.lst (ps.map prD)), .va (.lst (pe.map .str)), .no, .ob b "Ledger" (lg0 ps (gs1 ++ [g])), .ow (gs1.map gtD), .va (.int (k : Int)), .no, .no, .no, .va (.str r), .no, .va (.int (10 + 5 * (k : Int))), .va (.lst [.str x0, .str x1, .bl bp]), .va (.lst ((List.range gs.length).map inD)), .va dd, .va (.lst [gtD g]), .no]) (fun R' q' => ?_) (fun K J c => by cases c) (fun K J c => J _ rfl) ?_
                    · walk_at "ev"
                      refine ⟨rfl, b, ps, gs1, List.replicate gs1.length false, List.range gs1.length, g.gv, g.rc, g.rt, g.mp, rfl, lok0 (by omega) (by omega), by omega, Nat.le_trans (isName_len (hpm _ m2)) (by decide), Nat.le_trans (isName_len (hpn _ m4).1) (by decide), ?_⟩
                      rw [m7]
                      show if (isName g.rc && (!decide (g.rc = g.gv) && mayP g.gv gs1 (List.range gs1.length) g.gv g.rt)) = true then _ else _
                      have m8 : mayP g.gv gs1 (List.range gs1.length) g.gv g.rt = true := by unfold mayP; rw [decide_eq_true rfl, Bool.true_or]
                      rw [m8, hpm _ m2, decide_eq_false (fun e => m3 e.symm), if_pos (show (true && (!false && true)) = true from rfl), lg0_snoc]
                      walk_at "ev"
                      refine ⟨by unfold sizeLine; omega, shp_num, shp_num, ?_⟩
                      rw [show D.int (gs1.length : Int) = inD gs1.length from rfl, eqD_refl shp_num]
                      exact q'
                    · rintro ρ' rfl
                      simp (dsimp := false) only [gtD_eq]
                      walk_at "st"
                      refine ⟨by unfold sizeLine; omega, gs1 ++ [g], ⟨inv.val.snoc ?_, by rw [List.length_append]; show _ + 1 ≤ _; omega, fun x hx => ?_⟩, by rw [List.map_append]; rfl⟩
                      · unfold lawMay
                        rw [decide_eq_true m6, Bool.true_or]
                      · rcases List.mem_append.mp hx with hx | hx
                        · exact inv.mem x hx
                        · rw [List.mem_singleton.mp hx]
                          exact ⟨m1, m2, m3, o2, m4⟩
                  · walk_at "st"
                    exact ⟨gs1, inv.mono (by omega), rfl⟩
                · walk_at "st"
                  exact ⟨gs1, inv.mono (by omega), rfl⟩
        · walk_at "st"
          exact ⟨gs, fi.mono (by omega), rfl⟩
    · obtain ⟨gs, fi, rfl⟩ := i
      have gl := fi.len
      walk_at "st"
      obtain ⟨p0, hp0, ep0⟩ := ix_map (f := D.str) (l := pe) (i := 0) (by decide) (by omega)
      obtain ⟨p1, hp1, ep1⟩ := ix_map (f := D.str) (l := pe) (i := 1) (by decide) (by omega)
      obtain ⟨p4, hp4, ep4⟩ := ix_map (f := D.str) (l := pe) (i := 4) (by decide) (by omega)
      have sU : shp (.tup [.str "unknown", .str "Right"]) = true := shp_pair (by decide +kernel) (by decide +kernel)
      refine ifJ1 false [.no, .va (.lst (ns.map .int)), .va (.lst (ps.map prD)), .va (.lst (pe.map .str)), .no, .ob b "Ledger" (lg0 ps gs), .va (.lst (gs.map gtD)), .no, .no, .no, .no, .no, .no, .no, .no, .no, .no, .no, .no] (fun ρ => ρ = [.no, .va (.lst (ns.map .int)), .va (.lst (ps.map prD)), .va (.lst (pe.map .str)), .no, .ob b "Ledger" (lg0 ps gs), .va (.lst (gs.map gtD)), .no, .no, .no, .no, .no, .no, .no, .no, .no, .no, .no, .no]) (fun R' q' => ?_) (fun K J c => by cases c) (fun K J c => J _ rfl) ?_
      · walk_at "ev"
        refine oK.mk ep0 ?_
        walk_at "ev"
        refine oK.mk ep0 ?_
        walk_at "ev"
        refine ⟨rfl, b, ps, gs, List.replicate gs.length false, List.range gs.length, p0, p0, "Right", true, rfl, lok0 (by omega) (by omega), by omega, Nat.le_trans (isName_len (hpm _ hp0)) (by decide), by decide, ?_⟩
        rw [owner_none hpn isName_zed.2.2.2]
        walk_at "ev"
        refine ⟨by unfold sizeLine; omega, sU, sU, ?_⟩
        rw [eqD_refl sU]
        walk_at "ev"
        refine ⟨rfl, b, ps, gs, List.replicate gs.length false, List.range gs.length, rfl, lok0 (by omega) (by omega), fi.gs hps hpe, ?_⟩
        walk_at "ev"
        exact q'
      · rintro ρ' rfl
        walk_at "st"
        refine oK.mk ep0 ?_
        walk_at "st"
        refine oK.mk ep1 ?_
        walk_at "st"
        intro ga
        refine ⟨ga, _, _, _, _, rfl, ?_⟩
        walk_at "st"
        unfold grD
        walk_at "ev"
        have sG : shp (.tup [.str p0, .str p1, .str "right", .bl true]) = true := by
          have a := isName_ok (hpm _ hp0)
          have b := isName_ok (hpm _ hp1)
          have c : PyData.strOk "right" = true := by decide +kernel
          simp [shp, okD, okL, a, b, c, dpt, dptL]
        refine ⟨by unfold sizeLine; omega, oK.mk ep0 ?_⟩
        walk_at "ev"
        refine oK.mk ep1 ?_
        walk_at "ev"
        refine ⟨by unfold sizeLine; omega, sG, sG, ?_⟩
        rw [eqD_refl sG]
        walk_at "st"
        refine oK.mk (atn (j := 90) (by decide) (by omega)) ?_
        walk_at "st"
        have z0 := emod_p (nu ns 90) (n := (ps.length : Int) + 1) (by omega)
        refine ⟨by omega, oK.mk ep0 ?_⟩
        walk_at "st"
        refine ⟨by unfold sizeLine; omega, by unfold sizeLine; omega, oK.mk ep1 ?_⟩
        walk_at "st"
        refine ⟨by unfold sizeLine; omega, by unfold sizeLine; omega, oK.mk (atn (j := 91) (by decide) (by omega)) ?_⟩
        walk_at "st"
        obtain ⟨bad, hbad, eb⟩ := ix_map (f := prD) (l := [("Right", p0), ("right0", "Zed"), ("", p1)]) (i := nu ns 91 % 3) (emod_p _ (by decide)).1 (emod_p _ (by decide)).2
        refine ⟨by decide, oK.mk eb ?_⟩
        walk_at "st"
        walk_at "ev"
        have ej : (nu ns 90 % ((ps.length : Int) + 1)) = (((nu ns 90 % ((ps.length : Int) + 1)).toNat : Nat) : Int) := by omega
        generalize (nu ns 90 % ((ps.length : Int) + 1)).toNat = j at ej
        simp (dsimp := false) only [ej, cutD_take, cutD_drop]
        have hbn : (isName bad.1 && isName bad.2) = false := by
          simp only [List.mem_cons, List.not_mem_nil, or_false] at hbad
          rcases hbad with rfl | rfl | rfl
          · rw [isName_zed.2.2.2]; rfl
          · rw [isName_zed.1, Bool.and_false]
          · rw [isName_zed.2.1]; rfl
        have hbl : bad.1.length ≤ 100000 ∧ bad.2.length ≤ 100000 := by
          simp only [List.mem_cons, List.not_mem_nil, or_false] at hbad
          have l0 := isName_len (hpm _ hp0)
          have l1 := isName_len (hpm _ hp1)
          rcases hbad with rfl | rfl | rfl
          · exact ⟨(by decide : ("Right" : Str).length ≤ 100000), Nat.le_trans l0 (by decide)⟩
          · exact ⟨by decide, by decide⟩
          · exact ⟨(by decide : ("" : Str).length ≤ 100000), Nat.le_trans l1 (by decide)⟩
        have hpx : ∀ x ∈ ps, x.1.length ≤ 100000 ∧ x.2.length ≤ 100000 := fun x hx => ⟨Nat.le_trans (isName_len (hpn x hx).1) (by decide), Nat.le_trans (isName_len (hpn x hx).2) (by decide)⟩
        refine ⟨by unfold sizeLine; omega, by rw [List.length_take, List.length_map]; unfold sizeLine; omega, by rw [List.length_append, List.length_take, List.length_drop, List.length_map]; show min _ _ + 1 + _ ≤ _; unfold sizeLine; omega, ps.take j ++ [bad] ++ ps.drop j, by rw [List.map_append, List.map_append, List.map_take, List.map_drop]; rfl, by rw [List.length_append, List.length_append, List.length_take, List.length_drop]; show min _ _ + 1 + _ ≤ _; omega, fun x hx => ?_, ?_⟩
        · rcases List.mem_append.mp hx with hx | hx
          · rcases List.mem_append.mp hx with hx | hx
            · exact hpx x (List.mem_of_mem_take hx)
            · rw [List.mem_singleton.mp hx]; exact hbl
          · exact hpx x (List.mem_of_mem_drop hx)
        · rw [psOk_bad (List.mem_append_left _ (List.mem_append_right _ (List.mem_singleton.mpr rfl))) hbn]
          walk_at "ev"
          refine iK_d (fun hz => ?_) fun hz => ?_
          · walk_at "ev"
            exact q
          · walk_at "ev"
            refine oK.mk (atn (j := 92) (by decide) (by omega)) ?_
            walk_at "ev"
            have hz2 : (0 : Int) < (ps.length : Int) := by omega
            obtain ⟨x, hx, ex⟩ := ix_map (f := prD) (l := ps) (i := nu ns 92 % (ps.length : Int)) (emod_lt' _ hz2).1 (emod_lt' _ hz2).2
            refine ⟨hz2, oK.mk ex ?_⟩
            simp (dsimp := false) only [prD]
            walk_at "ev"
            refine oK.mk ep4 ?_
            walk_at "ev"
            refine ⟨by unfold sizeLine; omega, by unfold sizeLine; omega, by unfold sizeLine; omega, ps ++ [(x.1, p4)], by rw [List.map_append]; rfl, by rw [List.length_append]; show _ + 1 ≤ _; omega, fun y hy => ?_, ?_⟩
            · rcases List.mem_append.mp hy with hy | hy
              · exact hpx y hy
              · rw [List.mem_singleton.mp hy]
                exact ⟨(hpx x hx).1, Nat.le_trans (isName_len (hpm _ hp4)) (by decide)⟩
            · rw [psOk_two hx]
              walk_at "ev"
              exact q
end K8

-- part DZ
set_option Elab.async false
set_option linter.all false
set_option maxRecDepth 100000
set_option maxHeartbeats 2000000
namespace K8
open PySem PySem.Spec PyProof.Rows L2 GxR GS GA GD DL
section
variable {w : World} {K : PySem.W.Frag} {mg : Str → Option Value} {base : Heap}
theorem sclaw : FnScope Nlaw ["script"] (defScope slaw) := ⟨rfl, rfl, rfl, by decide +kernel, rfl, by decide +kernel, by decide +kernel⟩
theorem Dlaw (T : Tx w K mg base) {fd : FuncData} (F : FunD K "law" "law" (defArgs slaw) (defBody slaw) (defScope slaw) [] [] (He.fAd K ("law", none)) fd) : FnOk R.prog w K mg base (L2.CX R.prog w) 7 (He.ga K "law") fd ["script"] (spD K (Tz K) 1 ph_law) := by
  obtain ⟨fd__law_numbers, G__law_numbers, b__law_numbers, k__law_numbers⟩ := D_law_numbers T
  obtain ⟨fd__law_owners, G__law_owners, b__law_owners, k__law_owners⟩ := D_law_owners T
  obtain ⟨fd__law_names, G__law_names, b__law_names, k__law_names⟩ := D_law_names T
  obtain ⟨fd_Ledger___init__, G_Ledger___init__, b_Ledger___init__, k_Ledger___init__⟩ := DLedger___init__ T
  obtain ⟨fd_Ledger_owner, G_Ledger_owner, b_Ledger_owner, k_Ledger_owner⟩ := DLedger_owner T
  obtain ⟨fd__law_standing, G__law_standing, b__law_standing, k__law_standing⟩ := D_law_standing T
  obtain ⟨fd__law_may, G__law_may, b__law_may, k__law_may⟩ := D_law_may T
  obtain ⟨fd__law_granted, G__law_granted, b__law_granted, k__law_granted⟩ := D_law_granted T
  obtain ⟨fd__law_filled, G__law_filled, b__law_filled, k__law_filled⟩ := D_law_filled T
  obtain ⟨fd__law_told, G__law_told, b__law_told, k__law_told⟩ := D_law_told T
  obtain ⟨fd_Grant___init__, G_Grant___init__, b_Grant___init__, k_Grant___init__⟩ := DGrant___init__ T
  obtain ⟨fd__law_refused, G__law_refused, b__law_refused, k__law_refused⟩ := D_law_refused T
  have nd := sclaw.nd
  refine fn_data (k := 6) F (codeOf_at (p := ("law", none)) F) sclaw rfl (fun A outer s H E hr => ⟨rlaw, ?_, Mlaw⟩)
  exact (ds_cons (ds_fz (i := 1) (ds_set (i := 1) nd rfl (by first | exact Or.inl rfl | exact Or.inr rfl) (de_call G__law_numbers (hr.mono (by decide)) rfl T.glo__law_numbers k__law_numbers b__law_numbers (Ps.of (takes_of rfl rfl rfl rfl)) (da_cons (vV 0) (da_cons de_int da_nil)))))
      (ds_cons (ds_fz (i := 2) (ds_set (i := 2) nd rfl (by first | exact Or.inl rfl | exact Or.inr rfl) (de_call G__law_owners (hr.mono (by decide)) rfl T.glo__law_owners k__law_owners b__law_owners (Ps.of (takes_of rfl rfl rfl rfl)) (da_cons (vV 1) (da_cons de_int da_nil)))))
      (ds_cons (ds_fz (i := 3) (ds_set (i := 3) nd rfl (by first | exact Or.inl rfl | exact Or.inr rfl) (de_call G__law_names (hr.mono (by decide)) rfl T.glo__law_names k__law_names b__law_names (Ps.of (takes_of rfl rfl rfl rfl)) (da_cons (de_ix (vB 1) de_int (fun _ _ => rfl)) (da_cons de_int da_nil)))))
      (ds_cons (ds_set (i := 4) nd rfl (by first | exact Or.inl rfl | exact Or.inr rfl) (de_callTy dcl_list (by rfl) T.free_list (by decide +kernel) (da_consW (vB 2) dw_nil)))
      (ds_cons (ds_setX (i := 5) nd rfl (by first | exact Or.inl rfl | exact Or.inr rfl) (dx_makeL (C := "Ledger") (n := 1) (j := 4) (p := 0) T.mkr_Ledger G_Ledger___init__ (hr.mono (by decide)) rfl T.glo_Ledger b_Ledger___init__ (Ps.of (takes_of rfl rfl rfl rfl)) (da_cons (vV 4) da_nil)))
      (ds_cons (ds_append (i := 4) rfl (by first | exact Or.inl rfl | exact Or.inr (Or.inl rfl) | exact Or.inr (Or.inr rfl)) (de_tup (da_cons de_str (da_cons de_str da_nil))))
      (ds_cons (ds_if (dt_cmp (dop_ne hr.units) (de_of (i := 5) (C := "Ledger") (f := "owners") rfl (by first | exact Or.inl rfl | exact Or.inr (Or.inl rfl) | exact Or.inr (Or.inr rfl)) T.cls_Ledger T.noat_Ledger_owners) (de_callTy dcl_tuple (by rfl) T.free_tuple (by decide +kernel) (da_consW (vB 2) dw_nil)) (nomark _)) (ds_one (ds_ret de_bl)) ds_nil)
      (ds_cons (ds_for (passes_of rfl) rfl (di_wk (b := [true, false, false, false, true, false, true, true, true, true, true, true, true, true, true, true, true, true, true]) (di_val (vV 2))) (dg_tup rfl (dgs_cons (dg_name (i := 11) nd rfl (by first | exact Or.inl rfl | exact Or.inr rfl)) (dgs_cons (dg_name (i := 12) nd rfl (by first | exact Or.inl rfl | exact Or.inr rfl)) dgs_nil))) (ds_wk (b := [true, false, false, false, true, false, true, true, true, true, true, true, true, true, true, true, true, true, true]) (ds_one (ds_if (dt_cmp (dop_ne hr.units) (de_methR (C := "Ledger") (n := 1) (j := 5) rfl (by first | exact Or.inl rfl | exact Or.inr (Or.inl rfl) | exact Or.inr (Or.inr rfl)) T.cls_Ledger T.meth_Ledger_owner G_Ledger_owner (hr.mono (by decide)) b_Ledger_owner (Ps.of (takes_of rfl rfl rfl rfl)) (da_cons (vV 11) da_nil)) (vB 12) (nomark _)) (ds_one (ds_ret de_bl)) ds_nil))))
      (ds_cons (ds_set (i := 6) nd rfl (by first | exact Or.inl rfl | exact Or.inr rfl) (de_lst da_nil))
      (ds_cons (ds_for (passes_of rfl) rfl (di_wk (b := [true, false, false, false, true, false, false, true, true, true, true, true, true, true, true, true, true, true, true]) (di_rng rfl T.free_range (da_consW (de_bin dop_mod (de_callTy dcl_int (by rfl) T.free_int (by decide +kernel) (da_consW (de_ix (vB 1) de_int (fun _ _ => rfl)) dw_nil)) de_int) dw_nil))) (dg_name (i := 7) nd rfl (by first | exact Or.inl rfl | exact Or.inr rfl)) (ds_wk (b := [true, false, false, false, true, false, false, true, true, true, true, true, true, true, true, true, true, true, true]) (ds_cons (ds_set (i := 13) nd rfl (by first | exact Or.inl rfl | exact Or.inr rfl) (de_bin dop_add de_int (de_bin dop_mul de_int (vB 7))))
      (ds_cons (ds_fz (i := 14) (ds_set (i := 14) nd rfl (by first | exact Or.inl rfl | exact Or.inr rfl) (de_lst (da_cons (de_ix (vB 3) (de_bin dop_mod (de_callTy dcl_int (by rfl) T.free_int (by decide +kernel) (da_consW (de_ix (vB 1) (vB 13) (fun _ _ => rfl)) dw_nil)) de_int) (fun _ _ => rfl)) (da_cons (de_ix (de_bin dop_add (vB 3) (de_lst (da_cons de_str (da_cons de_str (da_cons de_str da_nil))))) (de_bin dop_mod (de_callTy dcl_int (by rfl) T.free_int (by decide +kernel) (da_consW (de_ix (vB 1) (de_bin dop_add (vB 13) de_int) (fun _ _ => rfl)) dw_nil)) de_int) (fun _ _ => rfl)) (da_cons (de_cmp dop_gt (de_bin dop_mod (de_callTy dcl_int (by rfl) T.free_int (by decide +kernel) (da_consW (de_ix (vB 1) (de_bin dop_add (vB 13) de_int) (fun _ _ => rfl)) dw_nil)) de_int) de_int (nomark _)) da_nil))))))
      (ds_cons (ds_fz (i := 11) (ds_set (i := 11) nd rfl (by first | exact Or.inl rfl | exact Or.inr rfl) (de_slice (de_lc (own := [("owner", 18)]) (tt := dYes) (te := (dBin gIx (dVarB 18) (dC (.int 0)))) rfl nd (di_val (vB 2)) (blkOk_by (own := [("owner", 18)]) (N := Nlaw) (sc := defScope slaw) (by decide +kernel)) rfl (fun _ _ _ _ _ => pg_name (i := 18) nd rfl (by first | exact Or.inl rfl | exact Or.inr rfl)) (fun _ _ _ _ _ => dts_nil) (fun _ _ _ _ _ => (de_ix (vB 18) de_int (fun _ _ => rfl)))) do_none (do_some (de_bin dop_add de_int (de_bin dop_mod (de_callTy dcl_int (by rfl) T.free_int (by decide +kernel) (da_consW (de_ix (vB 1) (de_bin dop_add (vB 13) de_int) (fun _ _ => rfl)) dw_nil)) de_int))))))
      (ds_one (ds_if (dt_cmp dop_gt (de_callB dcl_lenA (by rfl) T.free_len PySem.boot_len (da_consW (vB 11) dw_nil)) de_int (nomark _)) (ds_cons (ds_set (i := 11) nd rfl (by first | exact Or.inl rfl | exact Or.inr rfl) (de_ix (vB 11) (de_neg de_int) (fun _ _ => rfl)))
      (ds_cons (ds_fz (i := 15) (ds_set (i := 15) nd rfl (by first | exact Or.inl rfl | exact Or.inr rfl) (de_callV (j := 6) (p := 1) G__law_standing (hr.mono (by decide)) rfl T.glo__law_standing k__law_standing b__law_standing (Ps.of (takes_of rfl rfl rfl rfl)) (da_cons (vV 2) (da_cons (vV 6) (da_cons (de_lst da_nil) da_nil))))))
      (ds_cons (ds_set (i := 16) nd rfl (by first | exact Or.inl rfl | exact Or.inr rfl) (de_tup (da_cons de_str (da_cons de_int da_nil))))
      (ds_cons (ds_if (PW.pt (dw_and (dt_cmp dop_in (de_ix (vB 14) de_int (fun _ _ => rfl)) (vB 3) (by rfl)) (dw_and (dt_cmp (dop_ne hr.units) (de_ix (vB 14) de_int (fun _ _ => rfl)) (de_ix (vB 14) de_int (fun _ _ => rfl)) (nomark _)) (dw_and1 (dt_val (de_callV (j := 6) (p := 1) G__law_may (hr.mono (by decide)) rfl T.glo__law_may k__law_may b__law_may (Ps.of (takes_of rfl rfl rfl rfl)) (da_cons (vV 2) (da_cons (vV 6) (da_cons (vV 15) (da_cons (de_ix (vB 14) de_int (fun _ _ => rfl)) (da_cons (vV 11) da_nil))))))))))) (ds_one (ds_set (i := 16) nd rfl (by first | exact Or.inl rfl | exact Or.inr rfl) (de_tup (da_cons de_str (da_cons (de_callB dcl_lenA (by rfl) T.free_len PySem.boot_len (da_consW (vB 6) dw_nil)) da_nil))))) ds_nil)
      (ds_cons (ds_ifX (dtx_cmp (dop_ne hr.units) (dx_call (j := 5) (p := 0) G__law_granted (hr.mono (by decide)) rfl T.glo__law_granted k__law_granted b__law_granted (Ps.of (takes_of rfl rfl rfl rfl)) (da_cons (de_lend (j := 5) rfl (by first | exact Or.inl rfl | exact Or.inr (Or.inl rfl) | exact Or.inr (Or.inr rfl))) (da_cons (de_ix (vB 14) de_int (fun _ _ => rfl)) (da_cons (de_ix (vB 14) de_int (fun _ _ => rfl)) (da_cons (vV 11) (da_cons (de_ix (vB 14) de_int (fun _ _ => rfl)) da_nil)))))) (vB 16) (nomark _)) (ds_one (ds_ret de_bl)) ds_nil)
      (ds_cons (ds_if (dt_cmp (dop_eq hr.units) (de_ix (vB 16) de_int (fun _ _ => rfl)) de_str (nomark _)) (ds_one (ds_append (i := 6) rfl (by first | exact Or.inl rfl | exact Or.inr (Or.inl rfl) | exact Or.inr (Or.inr rfl)) (de_tup (da_cons (de_ix (vB 14) de_int (fun _ _ => rfl)) (da_cons (de_ix (vB 14) de_int (fun _ _ => rfl)) (da_cons (vV 11) (da_cons (de_ix (vB 14) de_int (fun _ _ => rfl)) da_nil))))))) ds_nil)
      (ds_cons (ds_fz (i := 17) (ds_set (i := 17) nd rfl (by first | exact Or.inl rfl | exact Or.inr rfl) (de_call G__law_filled (hr.mono (by decide)) rfl T.glo__law_filled k__law_filled b__law_filled (Ps.of (takes_of rfl rfl rfl rfl)) (da_cons (vV 2) (da_cons (vV 3) (da_cons (vV 1) (da_cons (de_bin dop_add (vB 13) de_int) (da_cons de_int da_nil))))))))
      (ds_one (ds_if (PW.pt (dw_and (dt_cmp dop_gt (de_callB dcl_lenA (by rfl) T.free_len PySem.boot_len (da_consW (vB 17) dw_nil)) de_int (nomark _)) (dw_and1 (dt_cmp (dop_eq hr.units) (de_bin dop_mod (de_callTy dcl_int (by rfl) T.free_int (by decide +kernel) (da_consW (de_ix (vB 1) (de_bin dop_add (vB 13) de_int) (fun _ _ => rfl)) dw_nil)) de_int) de_int (nomark _))))) (ds_cons (ds_ifX (dtx_cmp (dop_ne hr.units) (dx_call (j := 5) (p := 0) G__law_granted (hr.mono (by decide)) rfl T.glo__law_granted k__law_granted b__law_granted (Ps.of (takes_of rfl rfl rfl rfl)) (da_cons (de_lend (j := 5) rfl (by first | exact Or.inl rfl | exact Or.inr (Or.inl rfl) | exact Or.inr (Or.inr rfl))) (da_cons (de_ix (de_ix (vB 17) de_int (fun _ _ => rfl)) de_int (fun _ _ => rfl)) (da_cons (de_ix (de_ix (vB 17) de_int (fun _ _ => rfl)) de_int (fun _ _ => rfl)) (da_cons (de_ix (de_ix (vB 17) de_int (fun _ _ => rfl)) de_int (fun _ _ => rfl)) (da_cons (de_ix (de_ix (vB 17) de_int (fun _ _ => rfl)) de_int (fun _ _ => rfl)) da_nil)))))) (de_tup (da_cons de_str (da_cons (de_callB dcl_lenA (by rfl) T.free_len PySem.boot_len (da_consW (vB 6) dw_nil)) da_nil))) (nomark _)) (ds_one (ds_ret de_bl)) ds_nil)
      (ds_one (ds_append (i := 6) rfl (by first | exact Or.inl rfl | exact Or.inr (Or.inl rfl) | exact Or.inr (Or.inr rfl)) (de_ix (vB 17) de_int (fun _ _ => rfl))))) ds_nil))))))))) ds_nil)))))))
      (ds_cons (ds_ifX (PW.pt (dwx_or (dtx_cmp (dop_ne hr.units) (dx_call (j := 5) (p := 0) G__law_granted (hr.mono (by decide)) rfl T.glo__law_granted k__law_granted b__law_granted (Ps.of (takes_of rfl rfl rfl rfl)) (da_cons (de_lend (j := 5) rfl (by first | exact Or.inl rfl | exact Or.inr (Or.inl rfl) | exact Or.inr (Or.inr rfl))) (da_cons (de_ix (vB 3) de_int (fun _ _ => rfl)) (da_cons (de_ix (vB 3) de_int (fun _ _ => rfl)) (da_cons de_str (da_cons de_bl da_nil)))))) (de_tup (da_cons de_str (da_cons de_str da_nil))) (nomark _)) (dwx_or1 (dtx_t (dt_not (dt_val (de_callR (j := 5) (p := 0) G__law_told (hr.mono (by decide)) rfl T.glo__law_told k__law_told b__law_told (Ps.of (takes_of rfl rfl rfl rfl)) (da_cons (de_lend (j := 5) rfl (by first | exact Or.inl rfl | exact Or.inr (Or.inl rfl) | exact Or.inr (Or.inr rfl))) (da_cons (vV 6) da_nil))))))))) (ds_one (ds_ret de_bl)) ds_nil)
      (ds_cons (ds_set (i := 8) nd rfl (by first | exact Or.inl rfl | exact Or.inr rfl) (de_makeD (C := "Grant") (n := 4) T.mkr_Grant G_Grant___init__ (hr.mono (by decide)) rfl T.glo_Grant b_Grant___init__ (Ps.of (takes_of rfl rfl rfl rfl)) (da_cons (de_ix (vB 3) de_int (fun _ _ => rfl)) (da_cons (de_ix (vB 3) de_int (fun _ _ => rfl)) (da_cons de_str (da_cons de_bl da_nil))))))
      (ds_cons (ds_if (dt_cmp (dop_ne hr.units) (de_tup (da_cons (de_fld (C := "Grant") (vV 8) T.cls_Grant T.noat_Grant_giver) (da_cons (de_fld (C := "Grant") (vV 8) T.cls_Grant T.noat_Grant_receiver) (da_cons (de_fld (C := "Grant") (vV 8) T.cls_Grant T.noat_Grant_right) (da_cons (de_fld (C := "Grant") (vV 8) T.cls_Grant T.noat_Grant_may_pass) da_nil))))) (de_tup (da_cons (de_ix (vB 3) de_int (fun _ _ => rfl)) (da_cons (de_ix (vB 3) de_int (fun _ _ => rfl)) (da_cons de_str (da_cons de_bl da_nil))))) (nomark _)) (ds_one (ds_ret de_bl)) ds_nil)
      (ds_cons (ds_set (i := 9) nd rfl (by first | exact Or.inl rfl | exact Or.inr rfl) (de_bin dop_mod (de_callTy dcl_int (by rfl) T.free_int (by decide +kernel) (da_consW (de_ix (vB 1) de_int (fun _ _ => rfl)) dw_nil)) (de_bin dop_add (de_callB dcl_lenA (by rfl) T.free_len PySem.boot_len (da_consW (vB 2) dw_nil)) de_int)))
      (ds_cons (ds_set (i := 10) nd rfl (by first | exact Or.inl rfl | exact Or.inr rfl) (de_ix (de_lst (da_cons (de_tup (da_cons de_str (da_cons (de_ix (vB 3) de_int (fun _ _ => rfl)) da_nil))) (da_cons (de_tup (da_cons de_str (da_cons de_str da_nil))) (da_cons (de_tup (da_cons de_str (da_cons (de_ix (vB 3) de_int (fun _ _ => rfl)) da_nil))) da_nil)))) (de_bin dop_mod (de_callTy dcl_int (by rfl) T.free_int (by decide +kernel) (da_consW (de_ix (vB 1) de_int (fun _ _ => rfl)) dw_nil)) de_int) (fun _ _ => rfl)))
      (ds_cons (ds_if (dt_not (dt_val (de_call G__law_refused (hr.mono (by decide)) rfl T.glo__law_refused k__law_refused b__law_refused (Ps.of (takes_of rfl rfl rfl rfl)) (da_cons (de_bin dop_add (de_bin dop_add (de_slice (vB 2) do_none (do_some (vB 9))) (de_lst (da_cons (vV 10) da_nil))) (de_slice (vB 2) (do_some (vB 9)) do_none)) da_nil)))) (ds_one (ds_ret de_bl)) ds_nil)
      (ds_one (ds_ret (de_or (de_cmp (dop_eq hr.units) (de_callB dcl_lenA (by rfl) T.free_len PySem.boot_len (da_consW (vB 2) dw_nil)) de_int (nomark _)) (de_one (de_call G__law_refused (hr.mono (by decide)) rfl T.glo__law_refused k__law_refused b__law_refused (Ps.of (takes_of rfl rfl rfl rfl)) (da_cons (de_bin dop_add (vB 2) (de_lst (da_cons (de_tup (da_cons (de_ix (de_ix (vB 2) (de_bin dop_mod (de_callTy dcl_int (by rfl) T.free_int (by decide +kernel) (da_consW (de_ix (vB 1) de_int (fun _ _ => rfl)) dw_nil)) (de_callB dcl_lenA (by rfl) T.free_len PySem.boot_len (da_consW (vB 2) dw_nil))) (fun _ _ => rfl)) de_int (fun _ _ => rfl)) (da_cons (de_ix (vB 3) de_int (fun _ _ => rfl)) da_nil))) da_nil))) da_nil))))))))))))))))))))))
end
end K8

-- part EZ
set_option Elab.async false
set_option linter.all false
set_option maxRecDepth 100000
set_option maxHeartbeats 2000000
namespace K8
open PySem PySem.Spec PyProof.Rows L2 GxR GS GA GD DL
theorem bits_log {z : Int} (h : Builtin.Int.intBits z ≤ 1048576) : z.natAbs.log2 < 4000000 := by
  unfold Builtin.Int.intBits at h
  split at h
  · rename_i e
    have e : z = 0 := by simpa using e
    rw [e]
    decide
  · omega
theorem facts {w : World} {K : PySem.W.Frag} {h : Heap} {mg : Str → Option Value} {f : Addr} (X : K.In h) (G : h.Ns mainGlobals mg) (hfa : mg ("law" : Str) = some (.ref f)) (c : Hd.SaysS R.prog fa fn tbs tf (fun K => exq K && exk K) prs sus w h K) :
    LamX.LawAtS PySem.Challenge.rw_whoevermay_k79_entries_of_a_ledger w K CX0 7 63 "script" mg f h := by
  have e := hfa.symm.trans (He.glo_ok X G (c.p.x.t.d.fact 13 (f := .glo "law") rfl))
  cases e
  have cs : ∀ q : Addr × Addr, q ∈ tf.map (He.cT K) → ∃ p ∈ tf, He.cT K p = q := fun q hq => List.mem_map.mp hq
  obtain ⟨fd0, F0⟩ := c.p.x.t.d.def_ 13 (d := dlaw) rfl
  have mk : ∀ base : Heap, K.In base → base.Ns mainGlobals mg → (∀ p ∈ tf.map (He.cT K), LamX.TabB base mg p.1 p.2) → Tx w K mg base := fun base _ _ tb =>
    ⟨⟨h, X, G, c.weak⟩, fun p hp => ⟨(tb _ (List.mem_map_of_mem hp)).code, (tb _ (List.mem_map_of_mem hp)).bm, (tb _ (List.mem_map_of_mem hp)).gP⟩, ⟨h, c⟩⟩
  refine ⟨fd0, tf.map (He.cT K), fun vs H Q _ => spD K (Tz K) 1 ph_law vs H Q fun _ _ _ => False, fun q hq => ?_, fun q hq => ?_, fun q hq => ?_, fun s u => (FunD.bindsA (ps := ["script"]) F0 fun _ _ _ _ _ _ us hl => match us, hl with | [_], _ => rfl) s [u] rfl, fun H a ns hl hb ht hS => ?_, fun base hB hN tb => ?_⟩
  · obtain ⟨p, hp, rfl⟩ := cs q hq
    exact c.p.x.empty p hp
  · obtain ⟨p, hp, rfl⟩ := cs q hq
    exact c.p.x.out p hp
  · obtain ⟨p, hp, rfl⟩ := cs q hq
    exact PySem.W.codeHd_of_K X (c.p.x.hd p hp)
  · have go : ∀ d : D, (d = .scr ns ∨ d = .lst (ns.map .int)) → Rp K H (fun _ => False) d (.ref a) → spD K (Tz K) 1 ph_law [.ref a] H (fun v _ => v = .bl true) fun _ _ _ => False := fun d hd r =>
      ⟨rfl, fun _ => False, [d], fun d => d = .bl true, fun _ => False, fun P ⟨p, hp, e⟩ => by rw [e]; exact ⟨#[], ht _ (List.mem_map_of_mem hp), trivial⟩, fun _ z => z.elim, RpL.cons r RpL.nil, ⟨d, ns, rfl, hd, fun z hz => bits_log (hb z hz), hl, rfl⟩, fun d v H' A' e _ _ r => by subst e; unfold Rp at r; exact r, fun _ _ _ _ _ z => z.elim⟩
    rcases hS with (e | ⟨o, e⟩) | hk
    · exact go _ (.inr rfl) (by unfold Rp; exact ⟨a, _, rfl, e, fun z => z, RpL.ints⟩)
    · exact go _ (.inl rfl) (by unfold Rp; exact ⟨a, rfl, .inl ⟨o, e⟩⟩)
    · exact go _ (.inl rfl) (by unfold Rp; exact ⟨a, rfl, .inr (.inr hk)⟩)
  · exact quiet (Dlaw (mk base hB hN tb) F0)
end K8
open PySem PySem.W PySem.Calls PyProof.Rows
theorem PySem.Challenge.cw_whoevermay_k79_entries_of_a_ledger_holds : PySem.Challenge.rw_whoevermay_k79_entries_of_a_ledger.Holds := by
  w_on; o_law
  refine HandSHeadRun.head_any (r := OpenLaw.row PySem.Challenge.rw_whoevermay_k79_entries_of_a_ledger) (q := view (OpenLaw.row PySem.Challenge.rw_whoevermay_k79_entries_of_a_ledger).prog [25]) (H := K8.hk) (ob := K8.ob) (M := K8.steps) (loose := K8.loose) (d := HandSHeadRun.topDef (OpenLaw.row PySem.Challenge.rw_whoevermay_k79_entries_of_a_ledger).prog 25) (kwd := []) K8.ob_eq
    (by kernel_rfl) (fun s => by kernel_rfl) K8.run (by kernel_rfl) (by kernel_rfl) (by kernel_rfl) (by rfl) (by first | assumption | decide +kernel) (by decide +kernel) ⟨rfl, rfl, rfl, rfl, rfl, by decide +kernel⟩ ?hw ?hc
  case hw => w_witness2
  case hc =>
    refine LamX.walk_ofTsE (l := PySem.Challenge.rw_whoevermay_k79_entries_of_a_ledger) (n := 63) (k := 7) (x := "script") (CX := fun _ => L2.CX0) rfl (by decide) (by kernel_rfl) ⟨rfl, by decide, by decide⟩ ?F (fun _ _ _ _ _ z => z)
    intro w mg fa h Y G hmg0
    obtain ⟨K, KX, c⟩ := Y
    have hmg : mg ("law" : PySem.Str) = some (.ref fa) := by
      have e : (HandSHeadRun.topDef (OpenLaw.row PySem.Challenge.rw_whoevermay_k79_entries_of_a_ledger).prog 25).name = ("law" : PySem.Str) := by kernel_rfl
      rw [← e]
      exact hmg0
    exact ⟨K, KX, K8.facts KX G hmg c⟩

