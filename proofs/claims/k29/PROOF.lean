import PyProof.Rows.All
import Wide.All
import OpenK.AllK
import Wide.FinOn
import KE.KExcSuper
import HandS.ForMost
import HandS.Exc
import HandS.ExcOwn
import HandS.ExcInit
import HandS.ExcValue
import HandS.ExcIs
import HandS.ExcField
import HandS.IsInst
import KE.GoesNew
import KE.GoesMore
import HandS.Iter
import HandS.Walk
import KE.KFmtOwn
import HandS.Base
import HandS.Call
import HandS.List
import HandS.Text
import HandS.Dict
import HandS.DictEq
import HandS.Defaults
import HandS.Property
import HandS.Words
import KE.KDictDisplayH
import HandS.Wide
import PyProof.Rows.ListStrD
import HandS.Conv
import HandS.Zip
import HandS.TupAny
import HandS.Replace
import HandS.WordsExc
import HandS.Codes
import PyProof.EqAt
import PyProof.EqKinds
import PyProof.TupleCall
import KE.KLam
import HandS.TryOnly
import HandS.Lambda
import HandS.Nested
import PyProof.CodeObj
import HandS.ForExc
import HandS.RaiseMore
import HandS.Deep
import PyProof.StrOps2
import HandS.Ends
import HandS.EndTab
import PySem.Challenge.RW_neverturns_k29_products_of_maps
set_option Elab.async false
set_option linter.all false
set_option maxRecDepth 100000
set_option maxHeartbeats 4000000
/-! # Own exceptions whose __init__ calls super's, over any built-in base -/
namespace PySem
namespace NvE
open PySem.W PySem.Calls PyProof.Rows
/-- the __init__ of a built-in exception class, as super() finds it -/
structure InF (B i : String) : Prop where
  entry : entryFor table i = some Builtin.«BaseException.__init__»
  kind : builtinKind i = some .slot
  row : Manifest.signature? i = some ⟨.positional, "*", B, .self, [⟨"args", .varPos, false⟩]⟩
  star : (B != "*") = true
  plain : plainId i = true
  kf : KxsFacts B i
theorem inF_of {B n i : String} {bm : List Value} (F : ExcBaseFacts B n i bm) (k : KxsFacts B i) : InF B i := ⟨F.initEntry, F.initKind, F.initRow, F.noStar, F.init.plain, k⟩
theorem kf_KeyError : KxsFacts "KeyError" "KeyError.__init__" :=
  ⟨by show builtinType _ = _; rw [builtinType_eq_fast]; kernel_rfl, by first | kernel_rfl | rfl⟩
theorem inF_KeyError : InF "KeyError" "KeyError.__init__" where
  entry := PyProof.Rows.excClass_KeyError.initEntry
  kind := by decide +kernel
  row := by kernel_rfl
  star := by decide
  plain := by decide +kernel
  kf := kf_KeyError
section
variable {prog : Program} {w : World} {M : Model} {A : Around} {E : Value → Shared → Prop} {h : Heap} {g : Array GenState} {d : Drawn} {t : Nat} {os : OsState}
variable {nm q : Str} {C N : Addr} {bs bm : List Value} {hdct : Bool} {sn : List Str} {sub : List Value} {ab : Bool} {col : Option Bool} {dd : Option Addr} {k0 k1 k2 k3 k5 : Option Value} {B newId i : String}
theorem bound_ok (F : InF B i) {e : Addr} {oe : Obj} {rest : List Value} {Q : Unit → Shared → Prop}
    (hC : h.get? C = some (excClassObj nm q C N bs bm hdct sn sub ab col dd k0 k1 k2 k3 k5 newId)) (he : h.get? e = some oe) (hcls : oe.cls = .ref C)
    (hq : Q () ⟨h, g, d, t, os⟩) : wpAny M A (checkBoundCall i ⟨.ref e :: rest, []⟩) Q E ⟨h, g, d, t, os⟩ := by
  have hs := F.star
  simp only [checkBoundCall, F.kind, F.row]
  repeat (first
    | (with_reducible refine wpAny_loadPart_at he ?_; rw [hcls])
    | with_reducible refine wpAny_loadPart_at hC ?_
    | wp_step)
  refine wpAny_onRaise ?_
  have z : ∀ (a b : String) (n : Nat), Bind.check ⟨.positional, "*", B, .self, [⟨"args", .varPos, false⟩]⟩ a b n (List.map (fun x => x.fst) ({ pos := Value.ref e :: rest } : Args).kw) = pure () :=
    fun a b n => check_star_args _ _ _ _ _ _
  rw [z]
  exact wpAny_pure hq
/-- the bound built-in __init__ is called: the args are laid anew -/
theorem call_mw (F : InF B i) {u e t0 : Addr} {rest : List Value} {Q : Value → Shared → Prop}
    (hC : h.get? C = some (excClassObj nm q C N bs bm hdct sn sub ab col dd k0 k1 k2 k3 k5 newId)) (he : h.get? e = some (HandSPX.excO C t0)) (hu : h.get? u = some (kxs_mw i e)) (hz : rest.length ≤ sizeLine)
    (hq : ∀ h' t1, (∀ b o, b ≠ e → h.get? b = some o → h'.get? b = some o) → h'.get? e = some (HandSPX.excO C t1) → Q .none ⟨h', g, d, t, os⟩) :
    wpAny (model prog w) A (call (.ref u) rest) Q E ⟨h, g, d, t, os⟩ := by
  refine wpAny_call (codeAny_of_tree ?_)
  show wpAny _ A.in1 (callAny (.ref u) ⟨rest, []⟩) _ _ _
  simp only [callAny]
  refine wpAny_bind (wpAny_load hu ?_)
  have yes : (Value.type "method-wrapper" == Value.type "method" || Value.type "method-wrapper" == Value.type "builtin_function_or_method" || Value.type "method-wrapper" == Value.type "method-wrapper") = true := by decide
  simp only [kxs_mw, yes, if_true]
  refine KFB.if_so (by decide) ?_
  refine wpAny_bind (bound_ok F hC he rfl ?_)
  refine wpAny_bind (wpAny_pure (wpAny_pure ?_))
  refine ⟨plainId_quiet F.plain _, codeAny_builtin F.entry ?_⟩
  refine exc_init_tree (cls := .ref C) (t0 := t0) (dv := none) (c2 := .none) (c3 := .none) (b4 := .bool false) he hz fun h' k e' _ => ?_
  exact hq h' _ k e'
end
/-! ### the text of such an __init__ -/
/-- what the chain of bases says, as the making asks it -/
structure NewOk (bm : List Value) (B : String) : Prop where
  hasB : bm.contains (.type B) = true
  noA : bm.contains (.type "AttributeError") = false
  noN : bm.contains (.type "NameError") = false
def iArgs (f : String) (p1 p2 : Pos) : Arguments :=
  { posonlyargs := [], args := [{ arg := "self", annotation := none, pos := p1 }, { arg := Str.ofString f, annotation := none, pos := p2 }], vararg := none, kwonlyargs := [], kw_defaults := [], kwarg := none, defaults := [] }
def iBody (f : String) (msg : Str) (j : Nat) (p0 p1 p2 p3 p4 p5 q1 q2 q3 q4 : Pos) : List Stmt :=
  [.Expr (.Call (.Attribute (.Call (.Name "super" p0) [] [] p1) "__init__" p2) [.Constant (.str msg) j p3] [] p4) p5,
   .Assign [.Attribute (.Name "self" q1) (Str.ofString f) q2] (.Name (Str.ofString f) q3) q4]
def iScope (f : String) : Scope :=
  { kind := .function, names := [("self", .local), (Str.ofString f, .local), ("__class__", .free), ("super", .globalImplicit)], isGenerator := false, isCoroutine := false, more := [] }
/-- how super().__init__(msg) is evaluated: a method's call (it hangs on the places alone) -/
def EvOk (env : Env) (msg : Str) (j : Nat) (a0 a1 a2 a3 a4 : Pos) : Prop := ∃ pl : Sem Bool,
  eval (.Call (.Attribute (.Call (.Name "super" a0) [] [] a1) "__init__" a2) [.Constant (.str msg) j a3] [] a4) env = (do
    let ov ← attributeBase (.Call (.Name "super" a0) [] [] a1) "__init__" env (eval (.Call (.Name "super" a0) [] [] a1) env)
    standAt a2.atName
    let (f, first) ← holding [ov] (getMethod ov "__init__" pl)
    callWith a4 f first (backTo a4 (starEach [.Constant (.str msg) j a3] env)) [])
/-- what the written part says of such a class at C, its __init__ at fI -/
structure InitTxt (prog : Program) (K : Frag) (C fI : Addr) (B i B0 newId : String) (f : String) (qual : Str) : Prop where
  fn : ∃ (oc : Value) (od : Option Addr) (doc pm : Value) (an : Option Addr) (cda : Addr) (ct : Value) (cc : Addr) (osl : Array (Option Value)) (msg : Str) (j : Nat) (p1 p2 a0 a1 a2 a3 a4 a5 q1 q2 q3 q4 : Pos),
    K.lookup fI = some ⟨oc, od, .func (ksFn "__init__" qual (iArgs f p1 p2) (iBody f msg j a0 a1 a2 a3 a4 a5 q1 q2 q3 q4) (iScope f) .none .none doc pm an (.ref cda) ct cc), osl⟩ ∧ codeIn K (.ref cda) qual = true ∧
    (∃ (ccl : Value) (cdd : Option Addr) (vs : Array Value) (ccs : Array (Option Value)) (file : Str) (tf : Tok), K.lookup cda = some ⟨ccl, cdd, .fields vs, ccs⟩ ∧ vs[2]? = some (.str file tf) ∧ ((prog.main.file : Str) == file) = true) ∧
    (∃ (cl : Value) (cld : Option Addr) (csl : Array (Option Value)), K.lookup cc = some ⟨cl, cld, .cell (some (.ref C)), csl⟩) ∧ (∀ L a cd c2, EvOk (ksEnv qual (iScope f) L a cd c2) msg j a0 a1 a2 a3 a4)
  cls : ∃ nm q N bs bm sn sub ab col dd k0 k1 k2 k3 k5, K.lookup C = some (excClassObj nm q C N bs bm true sn sub ab col dd k0 k1 k2 k3 k5 newId) ∧ (∀ self, refuseLoop self "__setattr__" (.ref C :: bm) = pure ()) ∧ bm.contains (.type "object") = true ∧ NewOk bm B0
  newF : ∃ i0 bmB, ExcBaseFacts B0 newId i0 bmB
  iC : findIn K (.ref C) "__init__" = some (some (.ref fI))
  tI : typeIn K (.ref fI) = some (.type "function")
  self : mroIn K C (.ref C) = some true
  up : ks_superIn K C C "__init__" = some (some (.builtin i))
  isB : subIn K (.ref C) (.type B) = some true
  stat : nsIn K cStatics "thirdparty.any" = some none
  sa : findIn K (.ref C) "__setattr__" = some (some (.builtin "object.__setattr__"))
  noF : findIn K (.ref C) (Str.ofString f) = some none
  inF : InF B i
  sup : nsIn K mainGlobals "super" = some none
  top : (prog.main.scope.names.lookup ("super" : Str)).isSome = false
  fs : (Str.ofString f == ("self" : Str)) = false
  fsup : (iScope f).names.lookup ("super" : Str) = some .globalImplicit
  fcl : (iScope f).names.lookup ("__class__" : Str) = some .free
  ff : (iScope f).names.lookup (Str.ofString f) = some .local
  fdb : (Str.ofString f == ("__debug__" : Str)) = false
  ncell : ∀ x ∈ (iScope f).names, x.2 ≠ .cell
  bd : ∀ (b : List Stmt) (doc pm ct cv : Value) (an : Option Addr) (cc : Addr) (p1 p2 : Pos) (x v : Value), bindArgs (ksFn "__init__" qual (iArgs f p1 p2) b (iScope f) .none .none doc pm an cv ct cc) ⟨[x, v], []⟩ = pure [(("self" : Str), x), (Str.ofString f, v)]
section
open Builtin Builtin.ObjectAttr
variable {prog : Program} {w : World} {A : Around} {E : Value → Shared → Prop} {R : Result → Shared → Prop} {hp : Heap} {g : Array GenState} {d : Drawn} {t : Nat} {os : OsState}
/-- self.name = v on an exception that has no dict yet, whatever its bases -/
theorem osa_any {K : Frag} {name : Str} {tk : Tok} {v : Value} {x C : Addr} {fv : Array Value} {cd : ClassData}
    (X : K.In hp) (hx : hp.get? x = some { cls := .ref C, data := .fields fv }) (hcd : clsIn K C = some cd) (hp0 : refuseLoop (.ref x) "__setattr__" cd.mro = pure ()) (hob : cd.mro.contains (.type "object") = true) (hne : cd.mro.isEmpty = false)
    (hh : cd.hasDict = true) (ha : findIn K (.ref C) name = some none)
    (hq : ∀ h' tk' dx, (∀ b o, b ≠ x → hp.get? b = some o → h'.get? b = some o) → hp.objs.size ≤ dx → dx ≠ x → h'.get? x = some { cls := .ref C, dict := some dx, data := .fields fv } →
      h'.Ns1 dx (fun y => if y = name then some v else none) → R (.ok (.ret .none)) ⟨h', g, d, tk', os⟩) :
    codeAny (model prog w) A (.call (.builtin "object.__setattr__") ⟨[.ref x, .str name tk, v], []⟩) R ⟨hp, g, d, t, os⟩ := by
  have I : InstAt hp x { cls := .ref C, data := .fields fv } C none := ⟨hx, rfl, rfl, trivial⟩
  have SF := F.store_object
  have hxs : x ≠ hp.objs.size := Nat.ne_of_lt (Heap.lt_size hx)
  have hm0 : mroIn K C (.type "object") = some true := by
    unfold mroIn
    rw [hcd, Option.bind_some, if_neg (by rw [hne]; decide), hob]
  have sub : Looks (model prog w) hp (isInstance (.ref x) (.type "object")) true := I.type.andThen (looks_mroIn X hm0)
  refine codeAny_call_builtin SF.slot.plain SF.entry (@check_slot (model prog w) _ _ ⟨hp, g, d, t, os⟩ "object.__setattr__" "object" "__setattr__" (.ref x) [.str name tk, v] [] _ SF.kind SF.split sub (SF.args (.ref x) (.str name tk) v) ?_)
  have hmr : Looks (model prog w) hp (mroOf (.ref C)) cd.mro := (looks_clsIn X hcd).andThen .now
  have L3 : Looks (model prog w) hp (storeTaker? none) none := .now
  have hcls : Looks (model prog w) hp (classData C) cd := looks_clsIn X hcd
  rw [osa_eq, refuse_eq]
  refine wpAny_bind (wpAny_bind (I.type.at (wpAny_bind (hmr.at ?_))))
  rw [hp0]
  refine wpAny_pure (wpAny_bind (I.type.at (wpAny_bind ((looks_findIn X ha).at (wpAny_bind (L3.at ?_))))))
  show wpAny _ _ (storeInOwnDict (.ref x) (.ref C) (.str name tk) name v false) _ _ _
  obtain ⟨nm, bs, mro, ns, qn, hd, sn, sb, ab, col, del⟩ := cd
  dsimp only at hh
  subst hh
  unfold storeInOwnDict ownDictForStores
  repeat (first
    | with_reducible refine HandSPX.store_in_new ?_ ?_
    | with_reducible refine wpAny_loadPart_at hx ?_
    | with_reducible refine hcls.at ?_
    | wp_step)
  · exact ⟨_, #[], _, (Heap.get?_update_ne _ _ _ _ hxs.symm).trans (Heap.get?_push_at rfl rfl), rfl, fun e he => absurd he (by simp), fun _ => rfl⟩
  · intro h' tk' hn' hs
    have hx₁ : (hp.push { cls := .type "dict", data := .dict #[] }).get? x = some { cls := .ref C, data := .fields fv } := Heap.get?_push_of_some _ hx
    refine hq h' tk' hp.objs.size (fun b o hb ho => ?_) (Nat.le_refl _) hxs.symm ?_ hn'
    · exact (hs.2 b (Nat.ne_of_lt (Heap.lt_size ho))).trans ((Heap.get?_update_ne _ _ _ _ hb).trans (Heap.get?_push_of_some _ ho))
    · exact (hs.2 x hxs).trans (Heap.get?_update_self _ hx₁ rfl)
end
section
variable {prog : Program} {w : World} {A : Around} {E : Value → Shared → Prop} {R : Result → Shared → Prop} {s : Shared} {K : Frag} {C fI : Addr} {B i B0 newId : String} {f : String} {qual : Str} {mg : Str → Option Value}
theorem init_super (T : InitTxt prog K C fI B i B0 newId f qual) {x t0 : Addr} {v : Value} (X : K.In s.heap) (G : s.heap.Ns mainGlobals mg) (BB : ∃ mb, s.heap.Ns builtinsNs mb ∧ ∀ y : Str, y ≠ "__name__" → mb y = bootBuiltins y) (hlim : s.heap.NoLimit)
    (hx : s.heap.get? x = some (HandSPX.excO C t0)) (hnK : K.lookup x = none) (room : A.depth < recursionLimit)
    (hq : ∀ h' tk dx t1, (∀ b o, b ≠ x → s.heap.get? b = some o → h'.get? b = some o) → s.heap.objs.size ≤ dx → dx ≠ x →
      h'.get? x = some { cls := .ref C, dict := some dx, data := .fields #[.ref t1, .none, .none, .none, .bool false, .none] } → h'.Ns1 dx (fun y => if y = Str.ofString f then some v else none) → R (.ok (.ret .none)) { s with heap := h', toks := tk }) :
    codeAny (model prog w) A (.call (.ref fI) ⟨[.ref x, v], []⟩) R s := by
  obtain ⟨oc, od, doc, pm, an, cda, ct, cc, osl, msg, j, p1, p2, a0, a1, a2, a3, a4, a5, q1, q2, q3, q4, lk, hcq, ⟨ccl, cdd, vs, ccs, file, tf, lcd, hvs, hfile⟩, ⟨cl, cld, csl, lcc⟩, hev⟩ := T.fn
  obtain ⟨nm, q, N, bs, bm, sn, sub, ab, col, dd, k0, k1, k2, k3, k5, hC, hpass, hob, _⟩ := T.cls
  have hnx : x ≠ C := fun z => by
    have e := X _ _ hC
    rw [← z, hx] at e
    cases e
  have hcl : clsIn K C = some { name := nm, bases := bs, mro := .ref C :: bm, ns := N, qualname := q, hasDict := true, slotNames := sn, subclasses := sub, abstract := ab, collection := col, hasDel := false } := by
    unfold clsIn
    rw [hC] <;> rfl
  have hself : (iScope f).names.lookup ("self" : Str) = some .local := by
    unfold iScope
    rfl
  have ls : List.lookup ("self" : Str) ([(("self" : Str), Value.ref x), (Str.ofString f, v)].reverse) = some (.ref x) := by
    show List.lookup ("self" : Str) [(Str.ofString f, v), (("self" : Str), Value.ref x)] = _
    have e : (("self" : Str) == Str.ofString f) = false := by
      have z := T.fs
      rw [beq_eq_false_iff_ne] at z ⊢
      exact fun y => z y.symm
    simp [List.lookup, e]
  have lf : List.lookup (Str.ofString f) ([(("self" : Str), Value.ref x), (Str.ofString f, v)].reverse) = some v := by
    show List.lookup (Str.ofString f) [(Str.ofString f, v), (("self" : Str), Value.ref x)] = _
    simp [List.lookup]
  refine ks_codeAny_call_defAt (binds := [(("self" : Str), .ref x), (Str.ofString f, v)]) room (X _ _ lk) rfl hlim (codeRec_of X hcq) rfl (BindsTo.of_eq (T.bd _ _ _ _ _ _ _ _ _ _ _)) T.ncell (fun y hy => ?_) (fun h₁ hns hk₁ => ?_)
  · rcases List.mem_cons.mp hy with e | hy
    · rw [e]
      exact hself
    · rcases List.mem_cons.mp hy with e | hy
      · rw [e]
        exact T.ff
      · cases hy
  · have X₁ : K.In h₁ := X.keeps hk₁
    have hx₁ := hk₁ _ _ hx
    have hC₁ := X₁ _ _ hC
    show _root_.PySem.wpAt (model prog w) (A.deeper (ksEnv qual (iScope f) s.heap.objs.size fI (.ref cda) cc)) (.func (iBody f msg j a0 a1 a2 a3 a4 a5 q1 q2 q3 q4) (ksEnv qual (iScope f) s.heap.objs.size fI (.ref cda) cc))
      (execs (iBody f msg j a0 a1 a2 a3 a4 a5 q1 q2 q3 q4) (ksEnv qual (iScope f) s.heap.objs.size fI (.ref cda) cc)) _ _ _
    obtain ⟨pl, hev⟩ := hev s.heap.objs.size fI (.ref cda) cc
    refine ks_wpAt_execs_cons (ks_wpAt_Expr_any (ks_wpAt_MethodCall (pl := pl) ?_ hev))
    refine ks_wpAt_super_base (env := ksEnv qual (iScope f) s.heap.objs.size fI (.ref cda) cc) T.fsup T.fcl (by decide) rfl (X₁ _ _ lk) rfl rfl rfl (X₁ _ _ lcd) rfl hvs hfile T.top ?_
    obtain ⟨mb, hb, hbb⟩ := BB
    have hsup : mg "super" = none := mg_none_of X G T.sup
    refine ks_loadName_global rfl T.fsup (loadGlobal_builtin (env := ksEnv qual (iScope f) s.heap.objs.size fI (.ref cda) cc) (G.keeps hk₁) hsup (hb.keeps hk₁) ((hbb _ (by decide +kernel)).trans (by decide +kernel)) ⟨rfl, ?_⟩)
    refine wpAny_loadName_free rfl T.fcl rfl ⟨_, X₁ _ _ lcc, rfl⟩ ?_
    refine wpAny_loadName_local rfl hself hns ls ?_
    refine ks_wpAny_isType_cls hC₁ rfl ⟨rfl, ?_⟩
    refine ks_wpAny_call_super hC₁ rfl hx₁ rfl (fun c e => nomatch e) (looks_mroIn X₁ T.self) (fun h₂ e₂ k₂ => ?_)
    have X₂ : K.In h₂ := X₁.keeps k₂
    have hx₂ := k₂ _ _ hx₁
    have I₂ : InstAt h₂ x (HandSPX.excO C t0) C none := ⟨hx₂, rfl, rfl, trivial⟩
    have hm := T.up
    unfold ks_superIn at hm
    rw [hcl] at hm
    refine kxs_getMethod T.inF.kf e₂ (looks_opaque X₂ T.stat) (l₀ := .ref C :: bm) ?_ rfl X₂ hm (I₂.type.andThen (looks_subIn X₂ T.isB)) hnx (by decide) ?_
    · exact (looks_clsIn X₂ hcl).andThen .now
    · have k₃ : ∀ b o, h₂.get? b = some o → (h₂.push (kxs_mw i x)).get? b = some o := fun b o e => Heap.get?_push_of_some _ e
      have hu : (h₂.push (kxs_mw i x)).get? h₂.objs.size = some (kxs_mw i x) := Heap.get?_push_at rfl rfl
      have hC₃ := k₃ _ _ (X₂ _ _ hC)
      have hx₃ := k₃ _ _ hx₂
      refine kxs_callWith (i := i) (x := x) rfl (evalArgs_plain ?_)
      show wpAny _ _ (spliced ((false, eval (.Constant (.str msg) j a3) _) :: backTo a4 (starEach [] _))) _ _ _
      refine Calls.spliced_cons (wpAny_Constant_str (Calls.spliced_nil ⟨hu, ?_⟩))
      refine call_mw T.inF hC₃ hx₃ hu (by show 1 ≤ sizeLine; rw [sizeLine_eq]; omega) (fun h₄ t1 k₄ hx₄ => ?_)
      refine wpAt_of_wpAny (wpAny_execs_cons (plainObj_wpAny_Assign_Attribute ?_))
      have hLx : s.heap.objs.size ≠ x := Nat.ne_of_gt (Heap.lt_size hx)
      have hns₄ : h₄.Ns s.heap.objs.size (fun y => List.lookup y ([(("self" : Str), Value.ref x), (Str.ofString f, v)].reverse)) := by
        obtain ⟨oL, es, ep, hL, r⟩ := hns
        exact ⟨oL, es, ep, k₄ _ _ hLx (k₃ _ _ (k₂ _ _ hL)), r⟩
      have X₄ : K.In h₄ := fun b o e => by
        by_cases hb : b = x
        · rw [hb, hnK] at e
          cases e
        · exact k₄ _ _ hb (k₃ _ _ (X₂ _ _ e))
      refine wpAny_Name (wpAny_loadName_local rfl T.ff hns₄ lf ?_) T.fdb
      refine wpAny_Name (wpAny_loadName_local rfl hself hns₄ ls ?_) (by decide)
      refine set_plain X₄ (ox := HandSPX.excO C t1) (od := none) ⟨hx₄, rfl, rfl, trivial⟩ T.sa ?_
      refine osa_any X₄ hx₄ hcl (hpass _) (by rw [List.contains_cons, hob, Bool.or_true]) rfl rfl T.noF (fun h₅ tk₅ dx k₅ dn dne hx₅ hn₅ => ?_)
      show wpAny _ _ (execs _ _) _ _ _
      refine wpAny_execs_nil ?_
      have z : s.heap.objs.size ≤ h₄.objs.size := Nat.le_of_lt hns₄.lt
      exact hq h₅ tk₅ dx t1 (fun b o hb e => k₅ b o hb (k₄ b o hb (k₃ _ _ (k₂ _ _ (hk₁ b o e))))) (Nat.le_trans z dn) dne hx₅ hn₅
/-- C(v): what is left of the call of such a class -/
structure ExMade (h h' : Heap) (e C d : Addr) (f : String) (v : Value) : Prop where
  keep : ∀ b o, h.get? b = some o → h'.get? b = some o
  new : h.objs.size ≤ e
  obj : ∃ t1 : Addr, h'.get? e = some ({ cls := .ref C, dict := some d, data := .fields #[.ref t1, .none, .none, .none, .bool false, .none] } : Obj)
  dbig : h.objs.size ≤ d
  dne : d ≠ e
  ns : h'.Ns1 d (fun y => if y = Str.ofString f then some v else none)
end
section
variable {prog : Program} {w : World} {M : Model} {A : Around} {E : Value → Shared → Prop} {R : Result → Shared → Prop} {h : Heap} {g : Array GenState} {d : Drawn} {t : Nat} {os : OsState}
variable {nm q : Str} {C N : Addr} {bs bm bmB : List Value} {hdct : Bool} {sn : List Str} {sub : List Value} {ab : Bool} {col : Option Bool} {dd : Option Addr} {k0 k1 k2 k3 k5 : Option Value} {B newId initId : String}
theorem chk_new (F : ExcBaseFacts B newId initId bmB) (O : NewOk bm B) {rest : List Value} {Q : Unit → Shared → Prop}
    (hC : h.get? C = some (excClassObj nm q C N bs bm hdct sn sub ab col dd k0 k1 k2 k3 k5 newId)) (hq : Q () ⟨h, g, d, t, os⟩) :
    wpAny M A (checkBuiltinCall newId ⟨.ref C :: rest, []⟩) Q E ⟨h, g, d, t, os⟩ := by
  have hcont : (Value.ref C :: bm).contains (.type B) = true := by rw [List.contains_cons, O.hasB, Bool.or_true]
  have hs := F.noStar
  simp only [checkBuiltinCall, F.newKind, F.newSplit, F.newRow]
  repeat (first
    | refine wpAny_loadPart_at hC ?_
    | (refine wpAny_isSubtype_exc hC ?_; rw [hcont])
    | refine wpAny_staticBase_exc hC ?_
    | refine wpAny_madeBy_exc hC ?_
    | simp only [bne_self_eq_false, Bool.false_eq_true, if_false]
    | wp_step)
  exact hq
theorem new_any (F : ExcBaseFacts B newId initId bmB) (O : NewOk bm B) {rest : List Value}
    (hC : h.get? C = some (excClassObj nm q C N bs bm hdct sn sub ab col dd k0 k1 k2 k3 k5 newId))
    (hq : R (.ok (.ret (.ref (h.objs.size + 1)))) ⟨(h.push (kdv_tup rest)).push (HandSPX.excO C h.objs.size), g, d, t, os⟩) (hrest : rest.length ≤ sizeLine) :
    codeAny (model prog w) A (.builtin newId ⟨.ref C :: rest, []⟩) R ⟨h, g, d, t, os⟩ := by
  have hends := F.ends
  have hcB : (Value.ref C :: bm).contains (.type B) = true := by rw [List.contains_cons, O.hasB, Bool.or_true]
  have hcA : (Value.ref C :: bm).contains (.type "AttributeError") = false := by rw [List.contains_cons, O.noA]; rfl
  have hcN : (Value.ref C :: bm).contains (.type "NameError") = false := by rw [List.contains_cons, O.noN]; rfl
  refine codeAny_builtinAt F.entry ?_
  unfold Builtin.«BaseException.__new__»
  refine wpAt_bind ?_
  show wpAt _ _ _ (stack >>= _) _ _ _
  refine wpAt_bind (wpAt_stack fun p below => wpAt_of_wpAny ?_)
  wp_walk
  refine wpAt_of_wpAny ?_
  rw [F.owner]
  repeat (first
    | with_reducible refine wpAny_madeHere_exc F.canon hC ?_
    | with_reducible refine wpAny_loadPart_at hC ?_
    | (with_reducible refine wpAny_isSubtype_exc hC ?_; first | rw [hcB] | rw [hcA] | rw [hcN])
    | wp_step)
  show R _ _
  rw [Heap.size_push]
  exact hq
theorem type_any (F : ExcBaseFacts B newId initId bmB) (O : NewOk bm B) {rest : List Value} {fI : Addr} {Q : Fin → Shared → Prop}
    (hC : h.get? C = some (excClassObj nm q C N bs bm hdct sn sub ab col dd k0 k1 k2 k3 k5 newId))
    (hi : Looks (model prog w) h (typeLookup (.ref C) "__init__") (some (.ref fI))) (hb : ∀ self, Looks (model prog w) h (bindSpecial (.ref fI) self) (.ref fI, [self])) (hrest : rest.length ≤ sizeLine)
    (hq : codeAny (model prog w) A (.call (.ref fI) ⟨.ref (h.objs.size + 1) :: rest, []⟩)
      (fun r s' => match r with
        | .ok (.ret v) => v = .none ∧ Q (.done (.ret (.ref (h.objs.size + 1)))) s'
        | .ok _ => False
        | .error e => E e s') ⟨(h.push (kdv_tup rest)).push (HandSPX.excO C h.objs.size), g, d, t, os⟩) :
    wpAny (model prog w) A (Builtin.«type.__call__» ⟨.ref C :: rest, []⟩) Q E ⟨h, g, d, t, os⟩ := by
  repeat (first
    | with_reducible refine wpAny_loadPart_at hC ?_
    | with_reducible refine wpAny_madeBy_exc hC ?_
    | wp_step)
  refine codeAny_call_builtin_code (Code.quiet_builtin _ F.quiet) (chk_new F O hC ?_)
  refine new_any F O hC ?_ hrest
  show wpAny _ _ _ _ _ _
  have k : ∀ b o, h.get? b = some o → ((h.push (kdv_tup rest)).push (HandSPX.excO C h.objs.size)).get? b = some o := fun b o e => Heap.get?_push_of_some _ (Heap.get?_push_of_some _ e)
  have hC₁ := k _ _ hC
  have hget : ((h.push (kdv_tup rest)).push (HandSPX.excO C h.objs.size)).get? (h.objs.size + 1) = some (HandSPX.excO C h.objs.size) := by heap_get
  have hcC : (Value.ref C :: bm).contains (.ref C) = true := by simp
  have i1 := hi.keeps k
  have b1 := (hb (.ref (h.objs.size + 1))).keeps k
  unfold isInstance
  repeat (first
    | with_reducible refine wpAny_loadPart_at hget ?_
    | (with_reducible refine wpAny_isSubtype_exc hC₁ ?_; rw [hcC])
    | wp_step)
  show wpAny _ _ (typeLookup (.ref C) _) _ _ _
  refine i1.at ?_
  refine wpAny_holding (wpAny_bind (b1.at ?_))
  refine wpAny_bind (wpAny_call (codeAny_mono hq fun r s' z => ?_))
  rcases r with e | (v | _ | _ | _) <;> first | exact z | exact z.elim | skip
  obtain ⟨rfl, z⟩ := z
  first
    | exact wpAny_pure (wpAny_pure z)
    | (wp_walk; exact z)
theorem call_any (F : ExcBaseFacts B newId initId bmB) (O : NewOk bm B) {rest : List Value} {fI : Addr}
    (hC : h.get? C = some (excClassObj nm q C N bs bm hdct sn sub ab col dd k0 k1 k2 k3 k5 newId))
    (hi : Looks (model prog w) h (typeLookup (.ref C) "__init__") (some (.ref fI))) (hb : ∀ self, Looks (model prog w) h (bindSpecial (.ref fI) self) (.ref fI, [self])) (hrest : rest.length ≤ sizeLine)
    (hq : codeAny (model prog w) (A.under (.builtin "type.__call__" ⟨.ref C :: rest, []⟩)) (.call (.ref fI) ⟨.ref (h.objs.size + 1) :: rest, []⟩) (InitBack (h.objs.size + 1) R)
      ⟨(h.push (kdv_tup rest)).push (HandSPX.excO C h.objs.size), g, d, t, os⟩) :
    codeAny (model prog w) A (.call (.ref C) ⟨rest, []⟩) R ⟨h, g, d, t, os⟩ := by
  have f1 := tc_lookup
  have f2 := tc_bind (.ref C)
  have hTy : (⟨h, g, d, t, os⟩ : Shared).TypeIs (.ref C) "type" := ⟨_, hC, rfl⟩
  refine codeAny_of_tree ?_
  show wpAny _ _ (callAny (.ref C) _) _ _ _
  repeat (any_goals (first | assumption | with_reducible refine wpAny_loadPart_at hC ?_ | wp_step))
  refine ⟨rfl, ?_⟩
  refine codeAny_call_builtin_at (Code.quiet_builtin _ (by decide +kernel)) entry_typeCall (wpAny_check_type_call_sub hC (type_any F O hC hi hb hrest ?_))
  refine codeAny_mono hq fun r s' z => ?_
  rcases r with e | (v | _ | _ | _) <;> exact z
end
section
variable {prog : Program} {w : World} {A : Around} {R : Result → Shared → Prop} {s : Shared} {K : Frag} {C fI : Addr} {B i B0 newId : String} {f : String} {qual : Str} {mg : Str → Option Value}
theorem one_ok (v : Value) : [v].length ≤ sizeLine := by
  show 1 ≤ sizeLine
  rw [sizeLine_eq]
  omega
theorem made (T : InitTxt prog K C fI B i B0 newId f qual) {v : Value} (X : K.In s.heap) (G : s.heap.Ns mainGlobals mg) (BB : ∃ mb, s.heap.Ns builtinsNs mb ∧ ∀ y : Str, y ≠ "__name__" → mb y = bootBuiltins y) (hlim : s.heap.NoLimit)
    (room : A.depth + 1 < recursionLimit) (hq : ∀ h' tk e d, ExMade s.heap h' e C d f v → R (.ok (.ret (.ref e))) { s with heap := h', toks := tk }) :
    codeAny (model prog w) A (.call (.ref C) ⟨[v], []⟩) R s := by
  obtain ⟨nm, q, N, bs, bm, sn, sub, ab, col, dd, k0, k1, k2, k3, k5, hC, _, _, O⟩ := T.cls
  obtain ⟨i0, bmB, FB⟩ := T.newF
  obtain ⟨hp, g, dr, tk, os⟩ := s
  have k : ∀ b o, hp.get? b = some o → ((hp.push (kdv_tup [v])).push (HandSPX.excO C hp.objs.size)).get? b = some o := fun b o e => Heap.get?_push_of_some _ (Heap.get?_push_of_some _ e)
  have hget : ((hp.push (kdv_tup [v])).push (HandSPX.excO C hp.objs.size)).get? (hp.objs.size + 1) = some (HandSPX.excO C hp.objs.size) := by heap_get
  have hnK : K.lookup (hp.objs.size + 1) = none := by
    cases e : K.lookup (hp.objs.size + 1) with
    | none => rfl
    | some o =>
      have z : hp.get? (hp.objs.size + 1) = some o := X _ _ e
      exact absurd (Nat.lt_of_succ_lt (Heap.lt_size z)) (Nat.lt_irrefl _)
  refine call_any FB O (X _ _ hC) (looks_findIn X T.iC) (fun self => bind_fn X self T.tI) (one_ok v) ?_
  refine init_super (s := ⟨(hp.push (kdv_tup [v])).push (HandSPX.excO C hp.objs.size), g, dr, tk, os⟩) T (X.keeps k) (G.keeps k) (let ⟨mb, h1, h2⟩ := BB; ⟨mb, h1.keeps k, h2⟩) (hlim.keeps k) hget hnK ?_ fun h' tk' dx t1 k' dn dne hx hns => ?_
  · show A.depth + 1 < recursionLimit
    exact room
  · have old : ∀ b o, hp.get? b = some o → h'.get? b = some o := fun b o e => k' b o (Nat.ne_of_lt (Nat.lt_succ_of_lt (Heap.lt_size e))) (k b o e)
    have z : hp.objs.size + 1 + 1 ≤ dx := by
      have q := dn
      rw [Heap.size_push, Heap.size_push] at q
      exact q
    exact ⟨rfl, hq h' tk' (hp.objs.size + 1) dx ⟨old, Nat.le_succ _, ⟨t1, hx⟩, Nat.le_trans (Nat.le_trans (Nat.le_succ _) (Nat.le_succ _)) z, dne, hns⟩⟩
end
end NvE
end PySem

set_option Elab.async false
set_option linter.all false
set_option maxRecDepth 100000
set_option maxHeartbeats 4000000
/-! # Rules over the hand layer: such exceptions raised, held as values, asked for their class and their fields -/
namespace L2
open PySem PySem.Spec PyProof.Rows
theorem relO_one {f : Str} {v : V} {u : Value} (r : RelV v u) (y : Str) : RelO (List.lookup y [(f, v)]) (if y = f then some u else none) := by
  by_cases h : y = f
  · subst h
    rw [if_pos rfl]
    have q : List.lookup y [(y, v)] = some v := by simp [List.lookup]
    rw [q]
    exact r
  · rw [if_neg h]
    have e : (y == f) = false := by simpa using h
    have q : List.lookup y [(f, v)] = none := by simp [List.lookup, e]
    rw [q]
    trivial
section
variable {X : Cx} {C fI : Addr} {B i B0 newId : String} {f : String} {qual : Str}
/-- what the rules ask of the class x at C, whose __init__ keeps its argument in the field f -/
structure KeepC (X : Cx) (x : Str) (C : Addr) (f : String) : Prop where
  tx : ∃ (fI : Addr) (B i B0 newId : String) (qual : Str), PySem.NvE.InitTxt X.prog X.K C fI B i B0 newId f qual
  gC : X.mg x = some (.ref C)
  kC : PySem.W.keepIn X.K (.ref C) = true
  exC : PySem.W.subIn X.K (.ref C) (.type "BaseException") = some true
  tyC : PySem.W.typeIn X.K (.ref C) = some (.type "type")
theorem call_keep {x : Str} {f : String} (T : KeepC X x C f) {pins : List (Addr × Obj)} {σ : St} {H : Hp} {s : Shared} {u : Value} {Q : Value → Shared → Prop} {E : Value → Shared → Prop} (I : Inv X pins σ H s) (room : X.A.depth + 1 < recursionLimit)
    (hq : ∀ h' tk e d, PySem.NvE.ExMade s.heap h' e C d f u → Q (.ref e) { s with heap := h', toks := tk }) : wpAny (model X.prog X.w) X.A (call (.ref C) [u]) Q E s := by
  obtain ⟨fI, B, i, B0, newId, qual, T0⟩ := T.tx
  refine wpAny_call (PySem.NvE.made T0 I.kIn (I.mod.glob.keeps I.bk) (let ⟨mb, h1, h2⟩ := I.mod.blt; ⟨mb, h1.keeps I.bk, h2⟩) I.nolimit room fun h' tk e d M => ?_)
  exact hq h' tk e d M
/-- X(e), to be raised -/
def tMkKeep (C : Addr) (f : String) (ta : TA) : St → Hp → XK → Prop := fun σ H Q => ta σ H fun vs H1 => ∃ v, vs = [v] ∧ ∀ d, H1 d = none → Q (.ref C) (some d) (upd H1 d (.xd [(Str.ofString f, v)]))
theorem pmk_keep {x : Str} {f : String} {a : Expr} {ta : TA} {p pos : Pos} {k : Nat} (T : KeepC X x C f) (hr : Room k X.A) (ha : PA X [a] ta) (hg : Gl X x := by rfl) (hdb : (x == ("__debug__" : Str)) = false := by decide)
    (he : starEach (a :: []) X.env = (false, eval a X.env) :: starEach [] X.env := by rfl) (hpl : (backTo pos (starEach [] X.env)).any (·.1) = false := by rfl) :
    PMk X (.Call (.Name x p) [a] [] pos) (tMkKeep C f ta) := by
  intro pins s σ H Q I h
  refine wpAny_Call_Name_kw (ld_glob I hg T.gC ?_ hdb)
  refine PySem.W.callWith_K (h₀ := X.base) I.ok.mod.kin T.kC (thn (ha.run pos pins s σ H _ I h) fun us s1 hh => ?_) he hpl
  obtain ⟨vs, H1, I1, r1, v, ev, q1⟩ := hh
  subst ev
  refine ⟨I1.kIn, ?_⟩
  cases r1 with
  | cons rv rn =>
    rename_i v' us'
    cases rn
    show wpAny _ _ (call (.ref C) [v']) _ _ _
    refine call_keep T I1 (by have := hr.dp; omega) fun h' tk' e d M => ?_
    obtain ⟨hp, g, dr, tk, os⟩ := s1
    show MkP X pins σ Q (.ref e) ⟨h', g, dr, tk', os⟩
    obtain ⟨t1, hoe⟩ := M.obj
    have hns := M.ns
    obtain ⟨G', g1, g2⟩ := restrict h' fun b => decide (b ≠ e)
    have gk : ∀ b, b ≠ e → G'.get? b = h'.get? b := fun b hb => g1 b (decide_eq_true hb)
    have ge : G'.get? e = none := g2 e (by simp)
    have old : ∀ b o, hp.get? b = some o → G'.get? b = some o := fun b o q => (gk b (Nat.ne_of_lt (Nat.lt_of_lt_of_le (Heap.lt_size q) M.new))).trans (M.keep b o q)
    have ob : ObjOk X.prog X.w (upd H1 d (.xd [(Str.ofString f, v)])) G' d (.xd [(Str.ofString f, v)]) := ⟨_, hns.at (fun o q => (gk d M.dne).trans q), fun y => relO_one rv y⟩
    have J : Inv X pins σ (upd H1 d (.xd [(Str.ofString f, v)])) ⟨G', g, dr, tk', os⟩ := I1.laid (t' := tk') old M.dbig ob
    refine ⟨e, _, _, ⟨G', g, dr, tk', os⟩, _, .ref C, some d, rfl, J, fun b o q => ?_, ge, hoe, ⟨rfl, rfl⟩, rfl, rfl, ?_, rfl, I1.bare, raises_own T.exC T.tyC, q1 d (I1.hok.fresh M.dbig)⟩
    · by_cases hb : b = e
      · have q' : G'.get? b = some o := q
        rw [hb, ge] at q'
        cases q'
      · exact (gk b hb).symm.trans q
    · rw [upd_ne (Ne.symm M.dne)]
      exact I1.hok.fresh M.new
/-- X(e) as a value: a new exception object and its dict -/
def tKeep (C : Addr) (f : String) (ta : TA) : TE := fun σ H Q => ta σ H fun vs H1 => ∃ v, vs = [v] ∧ ∀ a d, H1 a = none → H1 d = none → d ≠ a → Q (.ref a) (upd (upd H1 d (exd d [(Str.ofString f, v)])) a (exo a C (some d)))
theorem pe_keep {x : Str} {f : String} {a : Expr} {ta : TA} {p pos : Pos} {k : Nat} (T : KeepC X x C f) (hr : Room k X.A) (ha : PA X [a] ta) (hg : Gl X x := by rfl) (hdb : (x == ("__debug__" : Str)) = false := by decide)
    (he : starEach (a :: []) X.env = (false, eval a X.env) :: starEach [] X.env := by rfl) (hpl : (backTo pos (starEach [] X.env)).any (·.1) = false := by rfl) :
    PE X (.Call (.Name x p) [a] [] pos) (tKeep C f ta) := by
  refine ⟨fun pins s σ H Q I h => ?_⟩
  refine wpAny_Call_Name_kw (ld_glob I hg T.gC ?_ hdb)
  refine PySem.W.callWith_K (h₀ := X.base) I.ok.mod.kin T.kC (thn (ha.run pos pins s σ H _ I h) fun us s1 hh => ?_) he hpl
  obtain ⟨vs, H1, I1, r1, v, ev, q1⟩ := hh
  subst ev
  refine ⟨I1.kIn, ?_⟩
  cases r1 with
  | cons rv rn =>
    rename_i v' us'
    cases rn
    show wpAny _ _ (call (.ref C) [v']) _ _ _
    refine call_keep T I1 (by have := hr.dp; omega) fun h' tk' e d M => ?_
    obtain ⟨t1, hoe⟩ := M.obj
    have hns := M.ns
    have ne := I1.hok.fresh M.new
    have nd := I1.hok.fresh M.dbig
    have be : ∀ {b : Addr} {o : Obj}, s1.heap.get? b = some o → b ≠ e := fun {b o} q => Nat.ne_of_lt (Nat.lt_of_lt_of_le (Heap.lt_size q) M.new)
    have bd : ∀ {b : Addr} {o : Obj}, s1.heap.get? b = some o → b ≠ d := fun {b o} q => Nat.ne_of_lt (Nat.lt_of_lt_of_le (Heap.lt_size q) M.dbig)
    have U : Un X.fs [] H1 (upd (upd H1 d (exd d [(Str.ofString f, v)])) e (exo e C (some d))) s1.heap h' := {
      keep := fun b o q _ _ _ => M.keep b o q
      slot := fun b o q _ _ _ => ⟨o.slots, M.keep b o q⟩
      free := fun b o q n _ => by
        rw [upd_ne (be q), upd_ne (bd q)]
        exact n
      there := fun b o q _ => ⟨o, M.keep b o q⟩
      tups := fun b xs q => by
        rw [upd_ne (ne_of_none q ne), upd_ne (ne_of_none q nd)]
        exact q
      frzs := fun b o u q => by
        rw [upd_ne (ne_of_none q ne), upd_ne (ne_of_none q nd)]
        exact q
      tbls := fun b ps q => ⟨#[], by
        rw [upd_ne (ne_of_none q ne), upd_ne (ne_of_none q nd), q]
        simp⟩ }
    have ok : HOk X.prog X.w (upd (upd H1 d (exd d [(Str.ofString f, v)])) e (exo e C (some d))) h' := fun b o q => by
      by_cases hb : b = e
      · subst hb
        rw [upd_same] at q
        cases q
        exact exo_ok hoe
      · rw [upd_ne hb] at q
        by_cases hd : b = d
        · subst hd
          rw [upd_same] at q
          cases q
          exact exd_ok hns (relO_one rv)
        · rw [upd_ne hd] at q
          refine (I1.hok b o q).stay (fun c u _ z => M.keep c u z) (fun c z => ?_) (fun c xs z => ?_)
          · rw [upd_ne (ne_of_none z ne), upd_ne (ne_of_none z nd)]
            exact z
          · rw [upd_ne (ne_of_none z ne), upd_ne (ne_of_none z nd)]
            exact z
    exact ⟨.ref e, _, I1.un (t' := tk') U ok, rfl, q1 e d ne nd M.dne⟩
end
end L2

set_option Elab.async false
set_option linter.all false
set_option maxRecDepth 100000
set_option maxHeartbeats 8000000
/-! # zip of two texts -/
namespace NvZ
open PySem PySem.Spec PyProof.Rows L2
def ItzS (x y : Str) : It := ⟨fun i _ => i < min x.cps.size y.cps.size,
  fun i H v H' => ∃ (T : Addr) (a b : Nat), v = .ref T ∧ H T = none ∧ H' = upd H T (.tup [.str ⟨#[a]⟩, .str ⟨#[b]⟩]) ∧ x.cps[i]? = some a ∧ y.cps[i]? = some b,
  fun i _ => i = min x.cps.size y.cps.size⟩
theorem turn_zipS {P : Program} {w : World} {K : PySem.W.Frag} {elts : List Expr} {kk : Nat} {tpos : Pos} {x y : Str} {t1 t2 : Tok} {z TI TO i1 i2 : Addr} (S : ZipSep2 z TI TO i1 i2 [i1] [i2]) :
    Turn P w K (.Tuple elts kk tpos) (ItzS x y) (z :: TI :: TO :: ([i1] ++ [i2])) z (fun i h => IsZip h z TI TO .none ∧ IsTupOf2 h TI (.ref i1) (.ref i2) ∧ (∃ a1 a2, IsTupOf2 h TO a1 a2) ∧ h.IsStrIter i1 (strIterType x) x t1 i ∧ h.IsStrIter i2 (strIterType y) y t2 i) where
  mem := by simp
  obj := fun i h st c hc => by
    obtain ⟨hz, hTI, ⟨a1, a2, hTO⟩, ⟨o1, e1, _, d1⟩, ⟨o2, e2, _, d2⟩⟩ := st
    have e' : c = z ∨ c = TI ∨ c = TO ∨ c = i1 ∨ c = i2 := by simpa using hc
    rcases e' with q | q | q | q | q
    · rw [q]; exact ⟨_, hz, fun v q => nomatch q⟩
    · rw [q]; exact ⟨_, hTI, fun v q => nomatch q⟩
    · rw [q]; exact ⟨_, hTO, fun v q => nomatch q⟩
    · rw [q]; exact ⟨o1, e1, fun v q => by rw [d1] at q; cases q⟩
    · rw [q]; exact ⟨o2, e2, fun v q => by rw [d2] at q; cases q⟩
  keep := fun i h h' st k => by
    obtain ⟨hz, hTI, ⟨a1, a2, hTO⟩, ⟨o1, e1, r1⟩, ⟨o2, e2, r2⟩⟩ := st
    exact ⟨k z (by simp) _ hz, k TI (by simp) _ hTI, ⟨a1, a2, k TO (by simp) _ hTO⟩, ⟨o1, k i1 (by simp) _ e1, r1⟩, ⟨o2, k i2 (by simp) _ e2, r2⟩⟩
  item := by
    intro X hP hw hK hc i pins s σ H E I hf st hg
    subst hP hw hK
    have hh : X.A.in1.handled = none := I.ok.hd hc
    have G := GoesN.zip2 (elts := elts) (x1 := kk) (pos := tpos) S (Draws.text (prog := X.prog) (w := X.w) (A := X.A.in1) hh i1 x t1) (Draws.text (prog := X.prog) (w := X.w) (A := X.A.in1) hh i2 y t2)
    have live : ∀ b ∈ (z :: TI :: TO :: ([i1] ++ [i2])), b < s.heap.objs.size := fun b hb => by
      obtain ⟨hz, hTI, ⟨a1, a2, hTO⟩, ⟨o1, e1, _⟩, ⟨o2, e2, _⟩⟩ := id st
      have e' : b = z ∨ b = TI ∨ b = TO ∨ b = i1 ∨ b = i2 := by simpa using hb
      rcases e' with q | q | q | q | q
      · rw [q]; exact Heap.lt_size hz
      · rw [q]; exact Heap.lt_size hTI
      · rw [q]; exact Heap.lt_size hTO
      · rw [q]; exact Heap.lt_size e1
      · rw [q]; exact Heap.lt_size e2
    refine G.goes i s (fun u s2 => ∃ v H', Inv X pins σ H' s2 ∧ RelV v u ∧ (ItzS x y).yld i H v H' ∧ _ ∧ ∀ b ∈ _, H' b = none) E hg st fun v h' tk hY st' hk htk => ?_
    obtain ⟨T, vx, vy, rfl, hT, ⟨c1, u1, hx, rfl⟩, ⟨c2, u2, hy, rfl⟩, hIs⟩ := hY
    have new : ObjOk X.prog X.w (upd H T (.tup [.str ⟨#[c1]⟩, .str ⟨#[c2]⟩])) h' T (.tup [.str ⟨#[c1]⟩, .str ⟨#[c2]⟩]) :=
      ⟨by show 2 ≤ sizeLine; decide, [.str ⟨#[c1]⟩ u1, .str ⟨#[c2]⟩ u2], .cons ⟨u1, rfl⟩ (.cons ⟨u2, rfl⟩ .nil), hIs⟩
    have I1 : Inv X pins σ (upd H T (.tup [.str ⟨#[c1]⟩, .str ⟨#[c2]⟩])) { s with heap := h', toks := tk } :=
      I.turnedNew (t' := tk) (ch := [z, TO, i1, i2]) hk (fun b hb => hf b (by
        have e' : b = z ∨ b = TO ∨ b = i1 ∨ b = i2 := by simpa using hb
        rcases e' with q | q | q | q <;> rw [q] <;> simp)) hT new
    refine ⟨.ref T, _, I1, rfl, ⟨T, c1, c2, rfl, I.hok.fresh hT, rfl, hx, hy⟩, st', fun b hb => ?_⟩
    rw [upd_ne (Nat.ne_of_lt (Nat.lt_of_lt_of_le (live b hb) hT))]
    exact (hf b hb).1
  done := by
    intro X hP hw hK hc i pins s σ H E I hf st hg
    subst hP hw hK
    have hh : X.A.in1.handled = none := I.ok.hd hc
    have G := GoesN.zip2 (elts := elts) (x1 := kk) (pos := tpos) S (Draws.text (prog := X.prog) (w := X.w) (A := X.A.in1) hh i1 x t1) (Draws.text (prog := X.prog) (w := X.w) (A := X.A.in1) hh i2 y t2)
    have hg : i = min x.cps.size y.cps.size := hg
    subst hg
    refine G.stops s (fun s1 => Inv X pins σ H s1) E st fun h' tk hk htk => ?_
    exact I.turnedL (t' := tk) (ch := [z, TO, i1, i2]) hk fun b hb => hf b (by
      have e' : b = z ∨ b = TO ∨ b = i1 ∨ b = i2 := by simpa using hb
      rcases e' with q | q | q | q <;> rw [q] <;> simp)
  self := fun A i s Q E st h => wpAny_pyIter_zip st.1 h
def iZipS (ta : TA) : TI := fun σ H R => ta σ H fun vs H1 => ∃ x y : Str, vs = [.str x, .str y] ∧ R (ItzS x y) H1
theorem pi_zipS {X : Cx} {e e2 : Expr} {ta : TA} {p pos tpos : Pos} {elts : List Expr} {kk : Nat} (hg : Gl X "zip") (hm : X.mg "zip" = none) (ha : PA X [e, e2] ta)
    (hs : starEach [e, e2] X.env = (false, eval e X.env) :: starEach [e2] X.env := by rfl) (hpl : (backTo pos (starEach [e2] X.env)).any (·.1) = false := by rfl) :
    PI X (.Tuple elts kk tpos) (.Call (.Name "zip" p) [e, e2] [] pos) (iZipS ta) := by
  refine ⟨fun pins s σ H R I h => ?_⟩
  refine Call_ (ld_blt I hg hm PyProof.Rows.boot_zip (PyProof.Rows.callWith_type1 (thn (ha.run pos pins s σ H _ I h) fun us s1 ⟨vs, H1, I1, r1, q1⟩ => ?_) hs hpl))
  obtain ⟨x, y, ex, q⟩ := q1
  subst ex
  obtain ⟨u1, u2, rfl, ⟨t1, rfl⟩, ⟨t2, rfl⟩⟩ := vals2 r1
  refine zip_begins2 (begins_text x t1) (begins_text y t2) trivial trivial fun h' hz hTI hTO h1 h2 hsz hk => wpAny_pyIter_zip hz ?_
  have I2 : Inv X pins σ H1 { s1 with heap := h' } := I1.kept (t' := s1.toks) hk
  refine ⟨s1.heap.objs.size + 4, _, _, _, H1, rfl, I2, turn_zipS (t1 := t1) (t2 := t2) (zip_sep2 (N := s1.heap.objs.size) (fp1 := []) (fp2 := []) (fun b hb => by cases hb) (fun b hb => by cases hb)), ⟨hz, hTI, ⟨_, _, hTO⟩, ⟨_, h1, rfl, rfl⟩, ⟨_, h2, rfl, rfl⟩⟩, fun c hcm => ?_, q⟩
  have e' : c = s1.heap.objs.size + 4 ∨ c = s1.heap.objs.size + 2 ∨ c = s1.heap.objs.size + 3 ∨ c = s1.heap.objs.size ∨ c = s1.heap.objs.size + 1 := by simpa using hcm
  have hle : s1.heap.objs.size ≤ c := by
    rcases e' with z | z | z | z | z
    · rw [z]; exact Nat.le_add_right _ _
    · rw [z]; exact Nat.le_add_right _ _
    · rw [z]; exact Nat.le_add_right _ _
    · rw [z]; exact Nat.le_refl _
    · rw [z]; exact Nat.le_add_right _ _
  exact I1.fpOk hle (I1.hok.fresh hle)
theorem walk_zipS {x y : Str} : Walk (ItzS x y) (min x.cps.size y.cps.size) (fun _ => True) (fun i H v H' => ∃ (T : Addr) (a b : Nat), v = .ref T ∧ H T = none ∧ H' = upd H T (.tup [.str ⟨#[a]⟩, .str ⟨#[b]⟩]) ∧ x.cps[i]? = some a ∧ y.cps[i]? = some b) :=
  ⟨fun _ _ hi _ => hi, fun _ _ => rfl, fun _ _ _ _ _ _ y => y⟩
end NvZ

set_option Elab.async false
set_option linter.all false
set_option maxRecDepth 100000
set_option maxHeartbeats 8000000
/-! # An own class's __contains__, __len__, __str__, asked from outside -/
namespace NvO
open PySem PySem.Spec PyProof.Rows L2
variable {X : Cx} {k : Nat} {f C : Addr} {fd : FuncData} {sp : Sp} {pa pb : Str}
/-- the frame that the walk's rules ask for -/
theorem fr_of {pins : List (Addr × Obj)} {σ : L2.St} {H : Hp} {s : Shared} (I : Inv X pins σ H s) : ∃ m, Fr X.base X.env.locals s.heap m := by
  obtain ⟨m, hn, _⟩ := I.loc
  exact ⟨m, hn, I.bk, Nat.le_trans I.ok.bsz I.ok.above⟩
theorem inst_of {pins : List (Addr × Obj)} {σ : L2.St} {H : Hp} {s : Shared} {a dx : Addr} {fs : List (Str × V)} (I : Inv X pins σ H s) (ha : H a = some (.ins C dx fs)) : ∃ (ox : Obj) (od : Option Obj), PySem.W.InstAt s.heap a ox C od := by
  obtain ⟨mA, O, _⟩ := ins_get I.hok ha
  obtain ⟨od, J, _⟩ := O.look
  exact ⟨_, od, J⟩
/-- v in o, o of a class with its own __contains__ that gives True or False -/
theorem op_inO (F : FnOk X.prog X.w X.K X.mg X.base CX0 k f fd [pa, pb] sp) (hr : Room k X.A) (hb : Binds X.K fd [pa, pb] []) (hx : Passes CX0 X E0) (hs : PySem.W.findIn X.K (.ref C) "__contains__" = some (some (.ref f))) (hf : PySem.W.isFn X.K (.ref f) = true) :
    OpR X (compareOp .In) (fun x y H Q => ∃ (a dx : Addr) (fs : List (Str × V)), y = .ref a ∧ H a = some (.ins C dx fs) ∧ sp [.ref a, x] H (fun v H' => ∃ b, v = .bl b ∧ Q (.bl b) H') E0) := by
  intro pins s σ H x y v u Q I rx ry h
  obtain ⟨a, dx, fs, rfl, ha, h⟩ := h
  cases ry
  obtain ⟨m, Fm⟩ := fr_of I
  obtain ⟨ox, od, J⟩ := inst_of I ha
  refine PySem.W.in_K Fm I.ok.mod.kin J hs hf (wpAny_mono (run_fn F hr hb .nil hx I (.cons (show RelV (.ref a) (.ref a) from rfl) (.cons rx .nil)) h) (fun r s' hq => ?_) fun _ _ z => z)
  obtain ⟨z, H', I', rz, b, rfl, q⟩ := hq
  cases rz
  exact wpAny_truthy_bool ⟨.bl b, H', I', rfl, q⟩
/-- a def runs below the body, with the same frames -/
theorem run_at {A' : Around} {pins : List (Addr × Obj)} {σ : L2.St} {H : Hp} {s : Shared} {Q : VK} {us : List Value} {vs : List V} {ps : List Str} (fr : A'.frames = some X.stack) (F : FnOk X.prog X.w X.K X.mg X.base CX0 k f fd ps sp) (hr : Room k A') (hb : Binds X.K fd ps []) (hx : Passes CX0 X E0)
    (I : Inv X pins σ H s) (r : Vals vs us) (h : sp vs H Q E0) : wpAny (model X.prog X.w) A' (call (.ref f) us) (EP X pins σ Q) X.xe s := by
  have e0 : Env0 X.prog X.w X.K X.mg X.base A' X.stack s H := by
    obtain ⟨_, a2, a3, a4, a5, a6, a7, a8⟩ := I.env0
    exact ⟨fr, a2, a3, a4, a5, a6, a7, a8⟩
  have hl : us.length = ps.length := by
    rw [← r.length]
    exact F.len _ _ _ _ h
  have b := hb s us I.kIn (by rw [List.append_nil]; exact hl)
  rw [List.append_nil] at b
  refine wpAny_call (codeAny_mono (F.run A' X.stack s H ⟨us, []⟩ us vs Q E0 hr e0 b r h) fun z s' hq => ?_)
  cases z with
  | error e => exact hx pins σ H s e s' I hq
  | ok fl =>
    cases fl with
    | ret u => exact I.after hq
    | next => exact hq.elim
    | brk => exact hq.elim
    | cont => exact hq.elim
/-- len(o), o of a class with its own __len__ -/
theorem call_lenO (F : FnOk X.prog X.w X.K X.mg X.base CX0 k f fd [pa] sp) (hr : Room (k + 1) X.A) (hb : Binds X.K fd [pa] []) (hx : Passes CX0 X E0) (hs : PySem.W.findIn X.K (.ref C) "__len__" = some (some (.ref f))) (hf : PySem.W.isFn X.K (.ref f) = true) :
    CallR X (.builtin "len") (fun xs H Q => ∃ (a dx : Addr) (fs : List (Str × V)), xs = [.ref a] ∧ H a = some (.ins C dx fs) ∧ sp [.ref a] H (fun v H' => ∃ n : Int, v = .int n ∧ 0 ≤ n ∧ n < 2 ^ 63 ∧ Q (.int n) H') E0) := by
  intro pins s σ H xs us Q I r h
  obtain ⟨a, dx, fs, rfl, ha, h⟩ := h
  obtain ⟨u, rfl, ru⟩ := vals1 r
  cases ru
  obtain ⟨m, Fm⟩ := fr_of I
  obtain ⟨ox, od, J⟩ := inst_of I ha
  refine PySem.W.len_K Fm I.ok.mod.kin J hs hf (wpAny_mono (run_at (A' := X.A.in1) I.ok.frames F hr.in1 hb hx I (.cons (show RelV (.ref a) (.ref a) from rfl) .nil) h) (fun z s' hq => ?_) fun _ _ z => z)
  obtain ⟨v, H', I', rz, n, rfl, n0, n1, q⟩ := hq
  obtain ⟨t, rfl⟩ := rz
  exact ⟨⟨n0, n1⟩, .int n, H', I'.tok _, ⟨_, rfl⟩, q⟩
/-- o == v, o of a class with its own __eq__ that gives True or False -/
theorem op_eqO (F : FnOk X.prog X.w X.K X.mg X.base CX0 k f fd [pa, pb] sp) (hr : Room k X.A) (hb : Binds X.K fd [pa, pb] []) (hx : Passes CX0 X E0) (hs : PySem.W.findIn X.K (.ref C) "__eq__" = some (some (.ref f))) (hf : PySem.W.isFn X.K (.ref f) = true) :
    OpR X (compareOp .Eq) (fun x y H Q => ∃ (a dx : Addr) (fs : List (Str × V)) (tb : Value), x = .ref a ∧ H a = some (.ins C dx fs) ∧ TyX X.K H y tb ∧ PySem.W.notFirst X.K C tb = true ∧ sp [.ref a, y] H (fun v H' => ∃ b, v = .bl b ∧ Q (.bl b) H') E0) := by
  intro pins s σ H x y v u Q I rx ry h
  obtain ⟨a, dx, fs, tb, rfl, ha, ty, nf, h⟩ := h
  cases rx
  obtain ⟨m, Fm⟩ := fr_of I
  obtain ⟨ox, od, J⟩ := inst_of I ha
  obtain ⟨Pz, Z, p, _⟩ := kit_of I ry ty
  have hu : X.A.units < cLine := by
    have := hr.un
    omega
  show wpAny _ _ (richCompare .Eq _ _) _ _ _
  refine PySem.W.cmp_K (op := .Eq) hu Fm I.ok.mod.kin J (Z.ty _ _ I.kIn p) nf hs hf (wpAny_mono (run_fn F hr hb .nil hx I (.cons (show RelV (.ref a) (.ref a) from rfl) (.cons ry .nil)) h) (fun r s' hq => ?_) fun _ _ z => z)
  obtain ⟨z, H', I', rz, b, rfl, q⟩ := hq
  cases rz
  exact ⟨.bl b, H', I', rfl, q⟩
end NvO

set_option Elab.async false
set_option linter.all false
set_option maxRecDepth 100000
set_option maxHeartbeats 8000000
/-! # str(o), o != v by own __str__, __eq__; == of dicts of data, both answers; a method called with keywords -/
namespace NvO
open PySem PySem.Spec PyProof.Rows L2 PySem.W
section
variable {X : Cx} {k : Nat} {f C : Addr} {fd : FuncData} {sp : Sp} {pa pb : Str}
open Builtin Builtin.Str in
/-- str(o), o of a class with its own __str__ -/
theorem call_strO (F : FnOk X.prog X.w X.K X.mg X.base CX0 k f fd [pa] sp) (hr : Room (k + 2) X.A) (hb : Binds X.K fd [pa] []) (hx : Passes CX0 X E0) (hs : PySem.W.findIn X.K (.ref C) "__str__" = some (some (.ref f))) (hf : PySem.W.isFn X.K (.ref f) = true) :
    CallR X (.type "str") (fun xs H Q => ∃ (a dx : Addr) (fs : List (Str × V)), xs = [.ref a] ∧ H a = some (.ins C dx fs) ∧ sp [.ref a] H (fun v H' => ∃ y : Str, v = .str y ∧ Q (.str y) H') E0) := by
  intro pins s σ H xs us Q I r h
  obtain ⟨a, dx, fs, rfl, ha, h⟩ := h
  obtain ⟨u, rfl, ru⟩ := vals1 r
  cases ru
  obtain ⟨ox, od, J⟩ := inst_of I ha
  have hu : X.A.in1.in1.units < cLine := by
    have := hr.un
    show X.A.units + 1 + 1 < cLine
    omega
  refine callType_codes (T := "str") (Bi := Builtin.«object.__init__») (Q₁ := fun r s₁ => ∃ y u, r = .str y u ∧ EP X pins σ Q r s₁) PySem.F.called_str (PySem.F.typeCall_str_1 _) PySem.F.entry_object_init ?_ ?_
  · refine codeAny_of_tree ?_
    show wpAny _ X.A.in1.in1 (do checkBuiltinCall "str.__new__" ⟨[.type "str", .ref a], []⟩; again (.builtin "str.__new__" ⟨[.type "str", .ref a], []⟩)) _ _ s
    refine wpAny_bind (wpAny_of_eq (PySem.F.newCall_str_1 _) (wpAny_pure ⟨plainId_quiet (by decide +kernel) _, codeAny_builtin PySem.F.entry_str_new ?_⟩))
    rw [Around.under_plainId (by decide +kernel) _]
    rw [str_new_tree]
    refine wpAny_bind (wpAny_pure ?_)
    refine wpAny_bind (wpAny_of_eq isSubtype_str_str ?_)
    have key : wpAny (model X.prog X.w) X.A.in1.in1 (PySem.Builtin.Str.strOf (.ref a)) (fun r s₁ => ∃ y u, r = .str y u ∧ EP X pins σ Q r s₁) X.xe s := by
      unfold PySem.Builtin.Str.strOf
      rw [show isExactStr (.ref a) = false from rfl]
      refine wpAny_bind (m := cRoomFor _ _) (wpAny_cRoomFor hu ?_)
      refine wpAny_bind (m := callSpecial? (.ref a) (Str.ofString "__str__")) (special_fn I.kIn J hs (beq_iff_eq.mp hf) (wpAny_mono (run_at (A' := X.A.in1.in1) I.ok.frames F hr.in1.in1 hb hx I (.cons (show RelV (.ref a) (.ref a) from rfl) .nil) h) (fun z s' hq => ?_) fun _ _ y => y))
      obtain ⟨v, H', I', rz, y, rfl, q⟩ := hq
      obtain ⟨t, rfl⟩ := rz
      exact wpAny_pure ⟨_, _, rfl, .str y, H', I', ⟨_, rfl⟩, q⟩
    exact wpAny_bind (wpAny_mono key (fun r s₁ hr => wpAny_pure hr) fun _ _ y => y)
  · rintro obj s₁ ⟨y, u, rfl, hq⟩
    exact ⟨typeIs_str _ _ _, PySem.F.args_object_init_2 _ _, object_init_meets PySem.F.called_str.init.lookup PySem.F.called_str.made (by decide) X.prog X.w X.A.in1 _ s₁ ⟨typeIs_str _ _ _, rfl, hq⟩⟩
/-- a built-in slot found at an instance's class, called -/
theorem ifBound_B {prog : Program} {w : World} {A : Around} {E : Value → Shared → Prop} {s : Shared} {K : Frag} {x C : Addr} {ox : Obj} {od : Option Obj} {name : Str} {id : String} {M : Model} {args : List Value} {Q : Option Value → Shared → Prop}
    (X : K.In s.heap) (I : InstAt s.heap x ox C od) (hs : findIn K (.ref C) name = some (some (.builtin id))) (hb : ∀ self, bindSpecial (.builtin id) self = pure (.builtin id, [self]))
    (h : wpAny M A (call (.builtin id) (.ref x :: args)) (fun v => Q (some v)) E s) : wpAny M A (callSpecialIfBound? (.ref x) name args) Q E s := by
  simp only [callSpecialIfBound?, bindSpecialIfBound?]
  refine wpAny_holding (wpAny_bind (wpAny_bind (wpAny_bind (I.type.here ((looks_findIn X hs).here ?_)))))
  refine wpAny_bind (wpAny_askSetting (wpAny_ite ?_))
  have fin : wpAny M A (call (.builtin id) ([.ref x] ++ args) >>= fun v => pure (some v)) Q E s := wpAny_bind (wpAny_mono h (fun v s' h' => wpAny_pure h') fun _ _ h' => h')
  split
  · exact wpAny_bind ((Looks.of_pure (hb _)).here (wpAny_pure (by exact fin)))
  · exact wpAny_tryCatch (wpAny_bind ((Looks.of_pure (hb _)).here (wpAny_pure (by exact fin))))
open Builtin in
/-- o != v, o of a class with its own __eq__ that gives True or False, and without __ne__ -/
theorem op_neO (F : FnOk X.prog X.w X.K X.mg X.base CX0 k f fd [pa, pb] sp) (hr : Room (k + 1) X.A) (hb : Binds X.K fd [pa, pb] []) (hx : Passes CX0 X E0) (hn : PySem.W.findIn X.K (.ref C) "__ne__" = some (some (.builtin "object.__ne__"))) (hm : PySem.W.mroIn X.K C (.type "object") = some true) (hs : PySem.W.findIn X.K (.ref C) "__eq__" = some (some (.ref f))) (hf : PySem.W.isFn X.K (.ref f) = true) :
    OpR X (compareOp .NotEq) (fun x y H Q => ∃ (a dx : Addr) (fs : List (Str × V)) (tb : Value), x = .ref a ∧ H a = some (.ins C dx fs) ∧ TyX X.K H y tb ∧ PySem.W.notFirst X.K C tb = true ∧ sp [.ref a, y] H (fun v H' => ∃ b, v = .bl b ∧ Q (.bl (!b)) H') E0) := by
  intro pins s σ H x y v u Q I rx ry h
  obtain ⟨a, dx, fs, tb, rfl, ha, ty, nf, h⟩ := h
  cases rx
  obtain ⟨ox, od, J⟩ := inst_of I ha
  obtain ⟨Pz, Z, p, _⟩ := kit_of I ry ty
  have hu : X.A.units < cLine := by
    have := hr.un
    omega
  have hu1 : X.A.in1.units < cLine := by
    have := hr.un
    show X.A.units + 1 < cLine
    omega
  have KX := I.kIn
  have one : wpAny (model X.prog X.w) X.A (tryCompare (.ref a) "__ne__" u) (fun r s' => ∃ v, r = some v ∧ EP X pins σ Q v s') X.xe s := by
    unfold tryCompare
    refine wpAny_bind (ifBound_B (prog := X.prog) (w := X.w) KX J hn PySem.F.slot_object_ne.bind (wpAny_call (codeAny_call_builtin PySem.F.slot_object_ne.plain PySem.F.entry_object_ne (check_slot (i := "object.__ne__") (owner := "object") (n := "__ne__") (by decide +kernel) (by decide +kernel) (J.type.andThen (looks_mroIn KX hm)) (PySem.F.args_object_ne_2 _ _) ?_))))
    unfold Builtin.«object.__ne__»
    refine wpAny_bind (m := slotArgs "__ne__" 1 _) (wpAny_pure ?_)
    refine wpAny_bind (m := cRoomFor _ _) (wpAny_cRoomFor hu1 ?_)
    refine wpAny_bind (m := callSpecialIfBound? (.ref a) (Str.ofString "__eq__") _) (ifBound_K KX J hs hf (wpAny_mono (run_at (A' := X.A.in1) I.ok.frames F hr.in1 hb hx I (.cons (show RelV (.ref a) (.ref a) from rfl) (.cons ry .nil)) h) (fun r s' hq => ?_) fun _ _ y => y))
    obtain ⟨z, H', I', rz, b, rfl, q⟩ := hq
    cases rz
    refine wpAny_bind (m := truthy (.bool b)) (wpAny_truthy_bool ?_)
    exact wpAny_pure (wpAny_pure ⟨_, rfl, .bl (!b), H', I', rfl, q⟩)
  show wpAny _ _ (richCompare .NotEq _ _) _ _ _
  unfold richCompare
  simp only [oneThing_ref]
  refine wpAny_holding (wpAny_bind (wpAny_cRoomFor hu ?_))
  refine wpAny_bind (J.type.here (wpAny_bind ((Z.ty _ _ KX p).here ?_)))
  split
  · rename_i q
    have e : subIn X.K tb (.ref C) = some false := by
      rcases Bool.or_eq_true_iff.mp nf with e | e
      · rw [beq_iff_eq.mp e] at q; simp at q
      · exact beq_iff_eq.mp e
    refine wpAny_bind ((looks_subIn KX e).here ?_)
    simp only [Bool.false_eq_true, if_false]
    refine wpAny_bind (wpAny_mono one (fun r s' z => ?_) fun _ _ e => e)
    obtain ⟨v, rfl, hq⟩ := z
    exact wpAny_pure hq
  · refine wpAny_bind (wpAny_pure ?_)
    simp only [Bool.false_eq_true, if_false]
    refine wpAny_bind (wpAny_mono one (fun r s' z => ?_) fun _ _ e => e)
    obtain ⟨v, rfl, hq⟩ := z
    exact wpAny_pure hq
end
/-- entry by entry: what the other dict holds there is data, and the two are compared -/
inductive HitsD (K : PySem.W.Frag) (H : Hp) (ls : List (Key × V)) : List (Key × V) → Bool → Prop where
  | nil : HitsD K H ls [] true
  | cons {k : Key} {v u : V} {d e : PyData} {r : List (Key × V)} {b : Bool} (hv : valV ls k = some u) (h1 : Dp K H v d) (h2 : Dp K H u e) (s1 : SeqAt.shaped d = true) (s2 : SeqAt.shaped e = true) (t : HitsD K H ls r b) : HitsD K H ls ((k, v) :: r) (PyData.eqv d e && b)
section
variable {X : Cx} {pins : List (Addr × Obj)} {σ : L2.St} {H : Hp} {s : Shared}
theorem hitsD_run (I : Inv X pins σ H s) {A : Around} (hu : A.units + 64 < cLine) {ls : List (Key × V)} {vb : List (Key × Value)} (rb : KV ls vb) {ks : List (Key × V)} {va : List (Key × Value)} {b : Bool}
    (ra : KV ks va) (h : HitsD X.K H ls ks b) : PySem.W.KeqHitsP X.prog X.w A s vb va b := by
  unfold KV at ra
  induction ra generalizing b with
  | nil =>
    cases h
    exact .nil
  | @cons p q ps qs hpq t ih =>
    obtain ⟨h1, h2⟩ := hpq
    cases h with
    | cons hv d1 d2 s1 s2 tl =>
      rename_i k v u d e b'
      have rr : RelO (some u) (valueAt vb k) := by rw [← hv]; exact rb.val k
      obtain ⟨y, hy, ry⟩ := rr.some_of
      obtain ⟨key, w⟩ := q
      have h1' : k = key := h1
      rw [h1'] at hy
      obtain ⟨as, r1⟩ := Dp.reads I d v w d1 h2
      obtain ⟨bs, r2⟩ := Dp.reads I e u y d2 ry
      exact .hit hy (SeqAt.EqAt.eqP (SeqAt.eqAt_reads d e A s w y as bs r1 r2 (SeqAt.canLay_of_shaped s1) (SeqAt.canLay_of_shaped s2) (SeqAt.room_of_shaped s1 hu))) (ih tl)
theorem op_eqDd {X : Cx} (hu : X.A.units + 65 < cLine) : OpR X (compareOp .Eq) (fun x y H Q => ∃ (a b : Addr) (ks ls : List (Key × V)) (r : Bool), x = .ref a ∧ y = .ref b ∧ H a = some (.dK ks) ∧ H b = some (.dK ls) ∧ ks.length = ls.length ∧ HitsD X.K H ls ks r ∧ Q (.bl r) H) := by
  intro pins s σ H x y v u Q I rx ry h
  obtain ⟨a, b, ks, ls, r, rfl, rfl, ha, hb, hl, hp, q⟩ := h
  cases (show v = Value.ref a from rx)
  cases (show u = Value.ref b from ry)
  obtain ⟨_, ya, va, ra, da⟩ := (show ObjOk X.prog X.w H s.heap a (.dK ks) from I.hok a _ ha)
  obtain ⟨_, yb, vb, rb, db⟩ := (show ObjOk X.prog X.w H s.heap b (.dK ls) from I.hok b _ hb)
  refine PySem.W.rcP_dicts (knd := mixKind X.prog X.w) (r := r) ya yb da db (by omega) (fun _ => hitsD_run I (A := X.A.in1) (by show X.A.units + 1 + 64 < cLine; omega) rb ra hp) _ _ ?_
  have e : va.length = vb.length := by rw [← ra.length, ← rb.length]; exact hl
  rw [show (va.length == vb.length && r) = r from by rw [e]; simp]
  exact ⟨.bl r, H, I, rfl, q⟩
end
/-! ## o.m(e, .., k = v, ..) -/
def tMethN (C : Addr) (m : Str) (n j : Nat) (sp : Sp) (gV : List V → List V → List V) (E : XK) (ta : TE) (t tk : TA) : TE := fun σ H Q => ta σ H fun x H0 => ∃ a dx fs, x = .ref a ∧ H0 a = some (.ins C dx fs) ∧ fs.lookup m = none ∧ t σ H0 fun vs H1 => tk σ H1 fun zs H2 => vs.length = n ∧ zs.length = j ∧ sp (gV (x :: vs) zs) H2 Q E
section
variable {X : Cx} {CX : CXT} {k n : Nat} {C f : Addr} {fd : FuncData} {ps ks : List Str} {sp : Sp} {E : XK} {m : Str} {apos pos : Pos} {o e : Expr} {es : List Expr} {kws : List Keyword} {ta : TE} {t tk : TA} {g : List Value → List Value → List Value} {gV : List V → List V → List V}
theorem pe_methN {pl : Sem Bool} (he : PE X o ta) (c : Cls X.K C) (hm : Meth X.K C m f) (F : FnOk X.prog X.w X.K X.mg X.base CX k f fd ps sp) (hr : Room k X.A) (hb : KBn X.K fd ps (n + 1) ks g gV) (hx : Passes CX X E) (ha : PA X (e :: es) t) (hkw : PK X kws tk)
    (hall : (backToKw pos (keywordEach kws X.env)).all (·.1.isSome) = true := by rfl) (hks : (backToKw pos (keywordEach kws X.env)).filterMap (·.1) = ks := by rfl)
    (hst : starEach (e :: es) X.env = (false, eval e X.env) :: starEach es X.env := by rfl)
    (hpl : ((backTo pos (starEach (e :: es) X.env)).any (·.1) || (backToKw pos (keywordEach kws X.env)).any (·.1.isNone)) = false := by rfl)
    (ht : eval (.Call (.Attribute o m apos) (e :: es) kws pos) X.env = (do
      let ov ← eval o X.env
      standAt apos.atName
      let (f, first) ← holding [ov] (getMethod ov m pl)
      callWith pos f first (backTo pos (starEach (e :: es) X.env)) (backToKw pos (keywordEach kws X.env))) := by rfl) :
    PE X (.Call (.Attribute o m apos) (e :: es) kws pos) (tMethN C m n ks.length sp gV E ta t tk) := by
  refine ⟨fun pins s σ H Q I h => ?_⟩
  refine PySem.W.methodCall_KW (pl := pl) (thn (he.run pins s σ H _ I h) fun u s1 ⟨x, H1, I1, rx, a, dx, fs, ex, ea, l, q⟩ => ?_) ht
  subst ex
  obtain rfl : u = Value.ref a := rx
  refine getmeth_ok I1 ea c hm l ?_
  refine PySem.W.callWith_KW (first := [.ref a]) (h₀ := X.base) I.ok.mod.kin hm.kp hall (thn (ha.run pos pins s1 σ H1 _ I1 q) fun us s2 ⟨vs, H2, I2, r, q2⟩ => ?_) hpl hst
  refine thn (hkw.run pos pins s2 σ H2 _ I2 q2) fun ws s3 ⟨zs, H3, I3, rz, l1, l2, q3⟩ => ⟨I3.kIn, ?_⟩
  rw [hks]
  exact run_fnN (us := .ref a :: us) (vs := .ref a :: vs) F hr hb hx I3 (.cons rfl r) rz (congrArg Nat.succ l1) l2 q3
end
end NvO

set_option Elab.async false
set_option linter.all false
set_option maxRecDepth 100000
set_option maxHeartbeats 8000000
/-! # An own error with an __init__ of its own: from what stands in K (no law's own; of K0g) -/
namespace NvI
open PySem L2
theorem init_mk {prog : Program} {K : PySem.W.Frag} {C fI : Addr} {B i B0 newId : String} {f : String} {qual : Str}
    {oc : Value} {od : Option Addr} {doc pm : Value} {an : Option Addr} {cda : Addr} {ct : Value} {cc : Addr} {osl : Array (Option Value)} {msg : Str} {j : Nat} {p1 p2 a0 a1 a2 a3 a4 a5 q1 q2 q3 q4 : Pos}
    {ccl : Value} {cdd : Option Addr} {vs : Array Value} {ccs : Array (Option Value)} {file : Str} {tf : Tok} {cl : Value} {cld : Option Addr} {csl : Array (Option Value)}
    {nm q : Str} {N : Addr} {bs bm : List Value} {sn : List Str} {sub : List Value} {ab : Bool} {col : Option Bool} {dd : Option Addr} {k0 k1 k2 k3 k5 : Option Value} {i0 : String} {bmB : List Value}
    (iC : PySem.W.findIn K (.ref C) "__init__" = some (some (.ref fI)))
    (l1 : K.lookup fI = some ⟨oc, od, .func (PySem.W.ksFn "__init__" qual (PySem.NvE.iArgs f p1 p2) (PySem.NvE.iBody f msg j a0 a1 a2 a3 a4 a5 q1 q2 q3 q4) (PySem.NvE.iScope f) .none .none doc pm an (.ref cda) ct cc), osl⟩) (c1 : PySem.W.codeIn K (.ref cda) qual = true)
    (l2 : K.lookup cda = some ⟨ccl, cdd, .fields vs, ccs⟩) (v2 : vs[2]? = some (.str file tf)) (fl : ((prog.main.file : Str) == file) = true) (l3 : K.lookup cc = some ⟨cl, cld, .cell (some (.ref C)), csl⟩)
    (ev : ∀ L a cd c2, PySem.NvE.EvOk (PySem.W.ksEnv qual (PySem.NvE.iScope f) L a cd c2) msg j a0 a1 a2 a3 a4)
    (l4 : K.lookup C = some (excClassObj nm q C N bs bm true sn sub ab col dd k0 k1 k2 k3 k5 newId)) (rl : ∀ self, refuseLoop self "__setattr__" (.ref C :: bm) = pure ()) (ob : bm.contains (.type "object") = true) (nb : PySem.NvE.NewOk bm B0)
    (nf : ExcBaseFacts B0 newId i0 bmB) (tI : PySem.W.typeIn K (.ref fI) = some (.type "function")) (self : PySem.W.mroIn K C (.ref C) = some true) (up : PySem.W.ks_superIn K C C "__init__" = some (some (.builtin i)))
    (isB : PySem.W.subIn K (.ref C) (.type B) = some true) (stat : PySem.W.nsIn K PySem.cStatics "thirdparty.any" = some none) (sa : PySem.W.findIn K (.ref C) "__setattr__" = some (some (.builtin "object.__setattr__"))) (noF : PySem.W.findIn K (.ref C) (Str.ofString f) = some none)
    (inF : PySem.NvE.InF B i) (sup : PySem.W.nsIn K mainGlobals "super" = some none) (top : (prog.main.scope.names.lookup ("super" : Str)).isSome = false)
    (fs : (Str.ofString f == ("self" : Str)) = false) (fsup : (PySem.NvE.iScope f).names.lookup ("super" : Str) = some .globalImplicit) (fcl : (PySem.NvE.iScope f).names.lookup ("__class__" : Str) = some .free) (ff : (PySem.NvE.iScope f).names.lookup (Str.ofString f) = some .local)
    (fdb : (Str.ofString f == ("__debug__" : Str)) = false) (ncell : ∀ x ∈ (PySem.NvE.iScope f).names, x.2 ≠ .cell)
    (bd : ∀ (b : List Stmt) (doc pm ct cv : Value) (an : Option Addr) (cc : Addr) (p1 p2 : Pos) (x v : Value), bindArgs (PySem.W.ksFn "__init__" qual (PySem.NvE.iArgs f p1 p2) b (PySem.NvE.iScope f) .none .none doc pm an cv ct cc) ⟨[x, v], []⟩ = pure [(("self" : Str), x), (Str.ofString f, v)]) :
    PySem.NvE.InitTxt prog K C fI B i B0 newId f qual :=
  ⟨⟨_, _, _, _, _, _, _, _, _, _, _, _, _, _, _, _, _, _, _, _, _, _, _, l1, c1, ⟨_, _, _, _, _, _, l2, v2, fl⟩, ⟨_, _, _, l3⟩, ev⟩, ⟨_, _, _, _, _, _, _, _, _, _, _, _, _, _, _, l4, rl, ob, nb⟩, ⟨_, _, nf⟩, iC, tI, self, up, isB, stat, sa, noF, inF, sup, top, fs, fsup, fcl, ff, fdb, ncell, bd⟩
end NvI

set_option Elab.async false
set_option linter.all false
set_option maxRecDepth 100000
set_option maxHeartbeats 8000000
/-! # {t: v}, a display of one pair whose key is a tuple -/
namespace NvQ
open PySem PySem.Spec PyProof.Rows L2
def tDisp1 (tk tv : TE) : TE := fun σ H Q => ∀ p, H p = none → tPairs [(tk, tv)] σ (upd H p (.dT [])) fun ps H2 => ∃ (b : Addr) (k : List Key) (v : V), ps = [(.ref b, v)] ∧ H2 p = some (.dT []) ∧ H2 b = some (.tup (k.map kV)) ∧ Q (.ref p) (upd H2 p (.dT [(k, v)]))
theorem pe_disp1 {X : Cx} {pos : Pos} {ek ev : Expr} {tk tv : TE} (hu : X.A.units < cLine) (hk : PE X ek tk) (hv : PE X ev tv) : PE X (.Dict [some ek] [ev] pos) (tDisp1 tk tv) := by
  refine ⟨fun pins s σ H Q I q => ?_⟩
  have hn := I.hok.fresh (Nat.le_refl s.heap.objs.size)
  have I1 := I.laid (a := s.heap.objs.size) (o := .dT []) (h' := s.heap.push { cls := .type "dict", data := .dict #[] }) (t' := s.toks) (fun _ _ q => Heap.get?_push_of_some _ q) (Nat.le_refl _) (dt_empty s.heap I.big)
  have P : PPs X pos [some ek] [ev] [(tk, tv)] := pps_cons hk hv pps_nil
  have hl := pairTrees_length [some ek] [ev] X.env pos rfl rfl
  have hp0 : pairTrees [some ek] [ev] X.env pos ≠ [] := fun z => by
    rw [z] at hl
    cases hl
  have hlt : (pairTrees [some ek] [ev] X.env pos).length = 1 := hl
  rw [arm_eval_Dict, zip_pairTrees [some ek] [ev] X.env pos rfl rfl, dictDisplay_pairs _ hp0 (by rw [hlt]; decide)]
  refine wpAny_bind (wpAny_standAt (wpAny_bind (wpAny_subDictH (knd := tupleKind (mixKind X.prog X.w)) (Q := fun d s' => wpAny (model X.prog X.w) X.A (pure (Value.ref d)) (EP X pins σ Q) X.xe s') hu (by rw [hlt]; decide) ?_)))
  refine thn (P.run pins _ σ _ _ I1 (q _ hn)) fun ws s2 ⟨ps, H2, I2, rel, b, k, v, ep, e, eb, q2⟩ => ?_
  subst ep
  cases rel with
  | @cons pp qq pps qqs hpq t =>
    cases t
    obtain ⟨kk, vv⟩ := qq
    obtain ⟨r1, r2⟩ := hpq
    cases (show kk = Value.ref b from r1)
    obtain ⟨z, hd, xs, rx, dd⟩ := dt_of I2.hok e
    have rx0 : xs = [] := by
      cases rx
      rfl
    subst rx0
    refine ⟨[(k, b, vv)], ⟨rfl, rfl, key_of I2.hok eb, True.intro⟩, dd, fun h' tk' dd' hs => wpAny_pure ⟨.ref s.heap.objs.size, _, ?_, rfl, q2⟩⟩
    have dd2 : h'.DictOfH (tupleKind (mixKind X.prog X.w)) s.heap.objs.size [(k, b, vv)] := dd'
    obtain ⟨o, es, ep, ho, h2, h3, h4, _, h5⟩ := dd2
    refine d_write I2 (by rw [e]; exact True.intro) hs ⟨o, ho⟩ ⟨(by show 1 ≤ sizeLine; decide), hd, [(k, b, vv)], .cons ⟨rfl, ?_, r2⟩ .nil, o, es, ep, ho, h2, h3, h4, h5⟩
    show upd H2 s.heap.objs.size (.dT [(k, v)]) b = some (.tup (k.map kV))
    rw [upd_ne (ne_of eb e (fun z => nomatch z))]
    exact eb
end NvQ

set_option Elab.async false
set_option maxRecDepth 100000
set_option maxHeartbeats 4000000
/-! # The dice of the law -/
namespace M3
open PySem L2
def top (i : Nat) : Stmt := PySem.Challenge.pw_neverturns_k29_products_of_maps.main.body.getD i (.Pass ⟨0, 0, 0, 0⟩)
abbrev sDice : Stmt := top 62
abbrev sRoll : Stmt := top 63
abbrev sOneOf : Stmt := top 64
/-- dice that stand at d: what is left of a great cell, the mixed number, how many were drawn -/
def DiceAt (H : Hp) (d : Addr) (l m c : Int) : Prop := H d = some (.lst [.int l, .int m, .int c]) ∧ 0 ≤ l ∧ 0 ≤ m ∧ 0 ≤ c
/-- what a def leaves: the dice turned, all else as it was -/
def But (H H' : Hp) (d : Addr) : Prop := ∀ b o, b ≠ d → H b = some o → H' b = some o
def spRoll : Sp := fun vs H Q _ => ∃ (d : Addr) (l m c n : Int), vs = [.ref d, .int n] ∧ DiceAt H d l m c ∧ 0 < n ∧ n < 1073741824 ∧
  ∀ (r l' c' : Int), 0 ≤ r → r < n → 0 ≤ l' → 0 ≤ c' → Q (.int r) (upd H d (.lst [.int l', .int m, .int c']))
/-- the dice at d are turned, nothing else -/
def Turned (H H' : Hp) (d : Addr) : Prop := ∃ l m c : Int, 0 ≤ l ∧ 0 ≤ m ∧ 0 ≤ c ∧ H' = upd H d (.lst [.int l, .int m, .int c])
def Dz (H : Hp) (d : Addr) : Prop := ∃ l m c : Int, DiceAt H d l m c
theorem Turned.dz {H H' : Hp} {d : Addr} (t : Turned H H' d) : Dz H' d := by
  obtain ⟨l, m, c, h1, h2, h3, rfl⟩ := t
  exact ⟨l, m, c, upd_same, h1, h2, h3⟩
theorem Turned.ne {H H' : Hp} {d b : Addr} (t : Turned H H' d) (h : b ≠ d) : H' b = H b := by
  obtain ⟨l, m, c, h1, h2, h3, rfl⟩ := t
  exact upd_ne h
theorem Turned.trans {H H1 H2 : Hp} {d : Addr} (t : Turned H H1 d) (u : Turned H1 H2 d) : Turned H H2 d := by
  obtain ⟨l, m, c, h1, h2, h3, rfl⟩ := t
  obtain ⟨l', m', c', g1, g2, g3, rfl⟩ := u
  exact ⟨l', m', c', g1, g2, g3, upd_upd⟩
theorem SqL.turned {K : PySem.W.Frag} {H : Hp} {d a : Addr} {o : HO} {xs : List V} (hn : a ≠ d) (h : SqL K H a xs) : SqL K (upd H d o) a xs := by
  rcases h with (h | ⟨u, h⟩) | h
  · exact .inl (.inl (by rw [upd_ne hn]; exact h))
  · exact .inl (.inr ⟨u, by rw [upd_ne hn]; exact h⟩)
  · exact .inr h
def spOneOf (K : PySem.W.Frag) : Sp := fun vs H Q _ => ∃ (d a : Addr) (xs : List V), vs = [.ref d, .ref a] ∧ Dz H d ∧ SqL K H a xs ∧ a ≠ d ∧ 0 < xs.length ∧ xs.length < 1000000 ∧
  ∀ (v : V) (H' : Hp), v ∈ xs → Turned H H' d → Q v H'
def spDice (K : PySem.W.Frag) : Sp := fun vs H Q _ => ∃ (a : Addr) (ns : List Int) (i : Int), vs = [.ref a, .int i] ∧ SqL K H a (ns.map V.int) ∧ 0 ≤ i ∧ ns.length ≤ 63 ∧
  ∀ (p : Addr) (l m : Int), H p = none → 0 ≤ l → 0 ≤ m → Q (.ref p) (upd H p (.lst [.int l, .int m, .int 0]))
theorem op_powX {X : Cx} : OpR X (binaryOp .Pow) (rI (fun i j => 0 ≤ j ∧ (Builtin.Int.intBits i : Int) * j ≤ 2 ^ 27) fun i j => .int (i ^ j.toNat)) := opI fun _ _ _ _ _ _ _ hc q => PyProof.Rows.pow_int hc.1 hc.2 q
structure TxI (mg : Str → Option Value) : Prop where
  int : mg "int" = none
  abs : mg "abs" = none
  len : mg "len" = none
section
variable {P : Program} {w : World} {K : PySem.W.Frag} {mg : Str → Option Value} {base : Heap}
theorem scRoll : FnScope ["dice", "total", "number", "drawn", "one", "two"] ["dice", "total"] (defScope sRoll) := ⟨rfl, rfl, rfl, by decide +kernel, rfl, by decide +kernel, by decide +kernel⟩
theorem ok_roll {f : Addr} {fd : FuncData} (F : Fun K "_law_roll" "_law_roll" sRoll f fd) (T : TxI mg) : FnOk P w K mg base CX0 1 f fd ["dice", "total"] spRoll := by
  refine F.ok scRoll (fun vs H Q E h => ?_) (fun cdv A outer s H vs Q E hr h => ?_)
  · obtain ⟨d, l, m, c, n, rfl, _⟩ := h
    rfl
  · obtain ⟨d, l, m, c, n, rfl, ⟨hd, hl, hm, hc⟩, hn, hn2, k⟩ := h
    refine ⟨_, pss_cons (ps_set (i := 2) scRoll.nd rfl (Or.inl rfl) (pe_callTy call_int1 (by rfl) T.int (by decide +kernel) (pa_cons (pv 1) pa_nil)))
      (pss_cons (ps_if (pt_cmpR op_gt (pe_ix ix_list (pv 0) pe_int (fun _ _ => rfl)) pe_int (nomark _))
        (pss_cons (ps_set (i := 3) scRoll.nd rfl (Or.inl rfl) (pe_op op_modN (pe_ix ix_list (pv 0) pe_int (fun _ _ => rfl)) (pv 2)))
        (pss_cons (ps_asg (pe_op op_fdivN (pe_ix ix_list (pv 0) pe_int (fun _ _ => rfl)) (pv 2)) (pg_sub (pv 0) pe_int set_list))
        (pss_one (ps_ret (pe_callTy call_int1 (by rfl) T.int (by decide +kernel) (pa_cons (pv 3) pa_nil)))))) pss_nil)
      (pss_cons (ps_asg (pe_op op_add (pe_ix ix_list (pv 0) pe_int (fun _ _ => rfl)) pe_int) (pg_sub (pv 0) pe_int set_list))
      (pss_cons (ps_set (i := 4) scRoll.nd rfl (Or.inl rfl) (pe_op op_mod (pe_op op_add (pe_ix ix_list (pv 0) pe_int (fun _ _ => rfl)) (pe_op op_mul pe_int (pe_ix ix_list (pv 0) pe_int (fun _ _ => rfl)))) pe_int))
      (pss_cons (ps_set (i := 5) scRoll.nd rfl (Or.inl rfl) (pe_op op_add (pe_op op_mul (pe_op op_mod (pe_op op_mul (pv 4) (pv 4)) pe_int) (pv 4)) (pe_op op_mul pe_int (pe_ix ix_list (pv 0) pe_int (fun _ _ => rfl)))))
      (pss_cons (ps_set (i := 5) scRoll.nd rfl (Or.inl rfl) (pe_op op_mod (pv 5) pe_int))
      (pss_one (ps_ret (pe_callTy call_int1 (by rfl) T.int (by decide +kernel) (pa_cons (pe_op op_modN (pe_op op_fdiv (pv 5) pe_int) (pv 2)) pa_nil))))))))), ?_⟩
    have h1 : atI [V.int l, V.int m, V.int c] 1 = some (.int m) := rfl
    have h2 : ∀ z : Int, atI [V.int l, V.int m, V.int z] 2 = some (.int z) := fun _ => rfl
    have h1' : ∀ z : Int, atI [V.int l, V.int m, V.int z] 1 = some (.int m) := fun _ => rfl
    refine ⟨_, rfl, .inl ⟨_, rfl, ?_⟩⟩
    refine ⟨_, rfl, d, _, 0, _, rfl, rfl, SqL.of hd, rfl, _, _, rfl, rfl, _, rfl, ?_⟩
    refine ite2 (fun hpos => ?_) (fun hpos => ?_)
    · have hpos : 0 < l := of_decide_eq_true hpos
      refine ⟨_, rfl, d, _, 0, _, rfl, rfl, SqL.of hd, rfl, _, rfl, _, _, rfl, rfl, (by omega), ?_⟩
      refine ⟨_, rfl, d, _, 0, _, rfl, rfl, SqL.of hd, rfl, _, rfl, _, _, rfl, rfl, ⟨by omega, by omega⟩, ?_⟩
      refine ⟨_, rfl, d, _, 0, 0, rfl, rfl, hd, rfl, ?_⟩
      refine ⟨_, rfl, .inl ⟨_, rfl, ?_⟩⟩
      refine k _ _ _ ?_ ?_ ?_ hc
      · exact Int.fmod_nonneg (by omega) (by omega)
      · exact Int.fmod_lt_of_pos _ hn
      · exact Int.fdiv_nonneg hl (by omega)
    · refine ⟨_, rfl, d, _, 2, _, rfl, rfl, SqL.of hd, rfl, _, _, rfl, rfl, ?_⟩
      refine ⟨_, rfl, d, _, 2, 2, rfl, rfl, hd, rfl, ?_⟩
      have hd2 : (upd H d (.lst [.int l, .int m, .int (c + 1)])) d = some (.lst [.int l, .int m, .int (c + 1)]) := upd_same
      -- one
      refine ⟨_, rfl, d, _, 1, _, rfl, rfl, SqL.of hd2, rfl, ?_⟩
      refine ⟨_, rfl, d, _, 2, _, rfl, rfl, SqL.of hd2, rfl, _, _, rfl, rfl, .inl ⟨by decide, by decide⟩, _, _, rfl, rfl, _, _, rfl, rfl, (by show (0 : Int) < 2305843009213693951; decide), ?_⟩
      have b1 : ∀ x : Int, 0 ≤ x % 2305843009213693951 ∧ x % 2305843009213693951 < 2305843009213693951 := fun x => by omega
      generalize hx : (m + 1000151 * (c + 1)) % 2305843009213693951 = x1
      have bx := b1 (m + 1000151 * (c + 1))
      rw [hx] at bx
      -- two
      refine ⟨_, rfl, _, rfl, _, _, rfl, rfl, .inl ⟨by omega, by omega⟩, _, _, rfl, rfl, (by show (0 : Int) < 2305843009213693921; decide), ?_⟩
      have b2 : ∀ x : Int, 0 ≤ x % 2305843009213693921 ∧ x % 2305843009213693921 < 2305843009213693921 := fun x => by omega
      have by1 := b2 (x1 * x1)
      generalize hy : (x1 * x1) % 2305843009213693921 = y1 at by1 ⊢
      refine ⟨_, rfl, _, _, rfl, rfl, .inl ⟨by omega, by omega⟩, _, rfl, d, _, 2, _, rfl, rfl, SqL.of hd2, rfl, _, _, rfl, rfl, .inl ⟨by decide, by decide⟩, _, _, rfl, rfl, ?_⟩
      refine ⟨_, rfl, _, _, rfl, rfl, (by show (0 : Int) < 2305843009213693907; decide), ?_⟩
      have b3 : ∀ x : Int, 0 ≤ x % 2305843009213693907 := fun x => by omega
      have bz := b3 (y1 * x1 + 9403 * (c + 1))
      generalize (y1 * x1 + 9403 * (c + 1)) % 2305843009213693907 = z1 at bz ⊢
      refine ⟨_, rfl, _, _, rfl, rfl, ⟨by decide, by decide⟩, _, rfl, _, _, rfl, rfl, (by omega), .inl ⟨_, rfl, ?_⟩⟩
      refine k _ _ _ ?_ ?_ hl (by omega)
      · exact Int.fmod_nonneg (by omega) (by omega)
      · exact Int.fmod_lt_of_pos _ hn
theorem scOneOf : FnScope ["dice", "items"] ["dice", "items"] (defScope sOneOf) := ⟨rfl, rfl, rfl, by decide +kernel, rfl, by decide +kernel, by decide +kernel⟩
theorem ok_oneof {f g : Addr} {fd gd : FuncData} (F : Fun K "_law_one_of" "_law_one_of" sOneOf f fd) (G : Fun K "_law_roll" "_law_roll" sRoll g gd) (bG : Binds K gd ["dice", "total"] []) (gG : mg "_law_roll" = some (.ref g)) (T : TxI mg) :
    FnOk P w K mg base CX0 2 f fd ["dice", "items"] (spOneOf K) := by
  have GR : FnOk P w K mg base CX0 1 g gd ["dice", "total"] spRoll := ok_roll G T
  refine F.ok scOneOf (fun vs H Q E h => ?_) (fun cdv A outer s H vs Q E hr h => ?_)
  · obtain ⟨d, a, xs, rfl, _⟩ := h
    rfl
  · obtain ⟨d, a, xs, rfl, ⟨l, m, c, D⟩, ha, hn, h0, hz, k⟩ := h
    refine ⟨_, pss_one (ps_ret (pe_ix ix_list (pv 1) (pe_call GR hr rfl gG G.kp bG .nil pass0 (pa_cons (pv 0) (pa_cons (pe_callB call_len_seq (by rfl) T.len PySem.boot_len (pa_cons (pv 1) pa_nil)) pa_nil))) (fun _ _ => rfl))), ?_⟩
    refine ⟨_, rfl, _, rfl, _, rfl, a, xs, rfl, .inl ha, d, l, m, c, xs.length, rfl, D, by omega, by omega, fun r l' c' h1 h2 h3 h4 => ?_⟩
    have hlt : r.toNat < xs.length := by omega
    have er : r = (r.toNat : Int) := by omega
    refine ⟨a, xs, r, xs[r.toNat], rfl, rfl, (SqL.turned hn ha), ?_, ?_⟩
    · have q := atI_nat (List.getElem?_eq_getElem hlt)
      rw [← er] at q
      exact q
    · exact k _ _ (List.getElem_mem hlt) ⟨l', m, c', h3, D.2.2.1, h4, rfl⟩
theorem scDice : FnScope ["script", "at", "cell", "great", "left", "mixed"] ["script", "at"] (defScope sDice) := ⟨rfl, rfl, rfl, by decide +kernel, rfl, by decide +kernel, by decide +kernel⟩
theorem ok_dice {f : Addr} {fd : FuncData} (F : Fun K "_law_dice" "_law_dice" sDice f fd) (T : TxI mg) : FnOk P w K mg base CX0 1 f fd ["script", "at"] (spDice K) := by
  refine F.ok scDice (fun vs H Q E h => ?_) (fun cdv A outer s H vs Q E hr h => ?_)
  · obtain ⟨a, ns, i, rfl, _⟩ := h
    rfl
  · obtain ⟨a, ns, i, rfl, ha, hi, hl, k⟩ := h
    refine ⟨_, pss_cons (ps_set (i := 2) scDice.nd rfl (Or.inl rfl) (pe_op op_add (pe_op op_mul pe_int (pv 1)) pe_int))
      (pss_cons (ps_if (pt_cmpR op_lt (pv 1) (pe_callB call_len_seq (by rfl) T.len PySem.boot_len (pa_cons (pv 0) pa_nil)) (nomark _)) (pss_one (ps_set (i := 2) scDice.nd rfl (Or.inl rfl) (pe_ix ix_list (pv 0) (pv 1) (fun _ _ => rfl)))) pss_nil)
      (pss_cons (ps_set (i := 3) scDice.nd rfl (Or.inl rfl) (pe_op op_mod (pe_callTy call_int1 (by rfl) T.int (by decide +kernel) (pa_cons (pe_callB call_abs (by rfl) T.abs (by decide +kernel) (pa_cons (pv 2) pa_nil)) pa_nil)) (pe_op op_powX (pe_op op_pow pe_int pe_int) pe_int)))
      (pss_cons (ps_set (i := 4) scDice.nd rfl (Or.inl rfl) (pe_op op_fdivW (pv 3) (pe_op op_pow pe_int pe_int)))
      (pss_cons (ps_set (i := 5) scDice.nd rfl (Or.inl rfl) (pe_op op_add (pe_op op_add (pe_op op_add (pe_op op_mul (pe_op op_mod (pv 3) pe_int) pe_int) (pe_op op_mul pe_int (pv 1)))
        (pe_op op_mul pe_int (pe_callTy call_int1 (by rfl) T.int (by decide +kernel) (pa_cons (pe_cmpR op_lt (pv 2) pe_int (nomark _)) pa_nil)))) pe_int))
      (pss_one (ps_ret (pe_lst (pa_cons (pv 4) (pa_cons (pe_op op_mod (pv 5) pe_int) (pa_cons pe_int pa_nil)))))))))), ?_⟩
    refine ⟨_, rfl, _, _, rfl, rfl, .inl ⟨by decide, by decide⟩, _, _, rfl, rfl, ?_⟩
    refine ⟨_, rfl, _, rfl, a, _, rfl, .inl ha, _, _, rfl, rfl, _, rfl, ?_⟩
    have pw0 : (0 : Int) < (10 ^ (60 : Int).toNat) ^ (10 : Int).toNat := Int.pow_pos (Int.pow_pos (by decide))
    have pb : (0 ≤ (10 : Int) ∧ (Builtin.Int.intBits (10 ^ (60 : Int).toNat) : Int) * 10 ≤ 2 ^ 27) := ⟨by decide, by decide +kernel⟩
    have p18 : (0 : Int) < 10 ^ (18 : Int).toNat := Int.pow_pos (by decide)
    have p18b : ((10 : Int) ^ (18 : Int).toNat).natAbs.log2 < 9000 := by decide +kernel
    have m1 : ∀ x : Int, -(2 ^ 64) < x % 2147483237 ∧ x % 2147483237 < 2 ^ 64 := fun x => by omega
    refine ite2 (fun hc => ?_) (fun hc => ?_)
    · have hc : i < ((ns.map V.int).length : Int) := of_decide_eq_true hc
      have hlt : i.toNat < ns.length := by rw [List.length_map] at hc; omega
      have er : i = (i.toNat : Int) := by omega
      have q : atI (ns.map V.int) (i.toNat : Int) = some (.int ns[i.toNat]) := atI_nat (by rw [List.getElem?_map, List.getElem?_eq_getElem hlt]; rfl)
      rw [← er] at q
      refine ⟨_, rfl, _, rfl, a, _, i, _, rfl, rfl, ha, q, ?_⟩
      generalize ns[i.toNat] = cell
      refine ⟨_, rfl, _, rfl, .inl ⟨_, rfl, _, _, rfl, rfl, ⟨by decide, by decide, by decide⟩, _, _, rfl, rfl, pb, _, _, rfl, rfl, pw0, ?_⟩⟩
      refine ⟨_, rfl, _, _, rfl, rfl, ⟨by decide, by decide, by decide⟩, _, _, rfl, rfl, ⟨p18, p18b⟩, ?_⟩
      refine ⟨_, rfl, _, _, rfl, rfl, (by show (0 : Int) < 2147483237; decide), _, _, rfl, rfl, .inl ⟨(m1 _).1, (m1 _).2⟩, _, rfl, _, _, rfl, rfl, .inl ⟨by decide, by decide⟩, _, _, rfl, rfl, ?_⟩
      refine ⟨_, rfl, _, _, rfl, rfl, .inr ⟨_, rfl, _, _, rfl, rfl, .inl ⟨by decide, by decide⟩, _, _, rfl, rfl, _, _, rfl, rfl, ?_⟩⟩
      refine ⟨_, rfl, _, rfl, _, _, rfl, rfl, (by show (0 : Int) < 2147483179; decide), (by show 3 ≤ sizeLine; decide), fun p hp => ?_⟩
      exact k p _ _ hp (Int.ediv_nonneg (Int.emod_nonneg _ (by omega)) (by omega)) (Int.emod_nonneg _ (by decide))
    · refine ⟨_, rfl, _, rfl, .inl ⟨_, rfl, _, _, rfl, rfl, ⟨by decide, by decide, by decide⟩, _, _, rfl, rfl, pb, _, _, rfl, rfl, pw0, ?_⟩⟩
      refine ⟨_, rfl, _, _, rfl, rfl, ⟨by decide, by decide, by decide⟩, _, _, rfl, rfl, ⟨p18, p18b⟩, ?_⟩
      refine ⟨_, rfl, _, _, rfl, rfl, (by show (0 : Int) < 2147483237; decide), _, _, rfl, rfl, .inl ⟨(m1 _).1, (m1 _).2⟩, _, rfl, _, _, rfl, rfl, .inl ⟨by decide, by decide⟩, _, _, rfl, rfl, ?_⟩
      refine ⟨_, rfl, _, _, rfl, rfl, .inr ⟨_, rfl, _, _, rfl, rfl, .inl ⟨by decide, by decide⟩, _, _, rfl, rfl, _, _, rfl, rfl, ?_⟩⟩
      refine ⟨_, rfl, _, rfl, _, _, rfl, rfl, (by show (0 : Int) < 2147483179; decide), (by show 3 ≤ sizeLine; decide), fun p hp => ?_⟩
      exact k p _ _ hp (Int.ediv_nonneg (Int.emod_nonneg _ (by omega)) (by omega)) (Int.emod_nonneg _ (by decide))
end
end M3

set_option Elab.async false
set_option linter.all false
set_option maxRecDepth 100000
set_option maxHeartbeats 8000000
/-! # Drawn orders, letters, words -/
namespace M3
open PySem L2
theorem keep_new {H : Hp} {p b : Addr} {o u : HO} (h : H b = some o) (hp : H p = none) : upd H p u b = some o := by
  rw [upd_ne (ne_of_none h hp)]
  exact h
/-- all but the dice stands as it stood -/
def Still (d : Addr) (H H' : Hp) : Prop := ∀ b o, b ≠ d → H b = some o → H' b = some o
theorem Still.new {d : Addr} {H H1 : Hp} {p : Addr} {u : HO} (s : Still d H H1) (hp : H1 p = none) : Still d H (upd H1 p u) := fun b o hb h => keep_new (s b o hb h) hp
theorem Still.turn {d : Addr} {H H1 H2 : Hp} (s : Still d H H1) (t : Turned H1 H2 d) : Still d H H2 := fun b o hb h => by
  rw [t.ne hb]
  exact s b o hb h
theorem Still.refl (d : Addr) (H : Hp) : Still d H H := fun _ _ _ h => h
theorem Still.trans {d : Addr} {H H1 H2 : Hp} (s : Still d H H1) (t : Still d H1 H2) : Still d H H2 := fun b o hb h => t b o hb (s b o hb h)
/-- what is made behind H changes nothing of H -/
theorem Still.at_new {d q : Addr} {H H1 : Hp} {u : HO} (s : Still d H H1) (hq : H q = none) : Still d H (upd H1 q u) := fun b o hb h => by
  rw [upd_ne (ne_of_none h hq)]
  exact s b o hb h
theorem Dz.new {H : Hp} {d p : Addr} {u : HO} (z : Dz H d) (hp : H p = none) : Dz (upd H p u) d := by
  obtain ⟨l, m, c, h, r⟩ := z
  exact ⟨l, m, c, keep_new h hp, r⟩
theorem Dz.ne {H : Hp} {d p : Addr} {u : HO} (z : Dz H d) (hp : p ≠ d) : Dz (upd H p u) d := by
  obtain ⟨l, m, c, h, r⟩ := z
  exact ⟨l, m, c, by rw [upd_ne hp.symm]; exact h, r⟩
structure TxM (mg : Str → Option Value) : Prop where
  list : mg "list" = none
  sorted : mg "sorted" = none
  range : mg "range" = none
  tuple : mg "tuple" = none
  len : mg "len" = none
/-- the facts of the dice's defs -/
structure DefsD (K : PySem.W.Frag) (mg : Str → Option Value) where
  (fR fO : Addr)
  (dR dO : FuncData)
  R : Fun K "_law_roll" "_law_roll" sRoll fR dR
  bR : Binds K dR ["dice", "total"] []
  mR : mg "_law_roll" = some (.ref fR)
  O : Fun K "_law_one_of" "_law_one_of" sOneOf fO dO
  bO : Binds K dO ["dice", "items"] []
  mO : mg "_law_one_of" = some (.ref fO)
abbrev sMixed : Stmt := top 65
theorem dp_strs {K : PySem.W.Frag} {H : Hp} : ∀ ss : List Str, DpAll K H (ss.map V.str) (ss.map PyData.str)
  | [] => .nil
  | _ :: ss => .cons (.str _) (dp_strs ss)
theorem strs_lay : ∀ ss : List Str, (∀ z ∈ ss, PyData.strOk z = true) → PyData.canLayAll0 (ss.map PyData.str) = true
  | [], _ => by rfl
  | x :: l, hk => by
    have h := strs_lay l fun z hz => hk z (List.mem_cons_of_mem _ hz)
    have h0 := hk x List.mem_cons_self
    simp only [List.map_cons, PyData.canLayAll0, PyData.canLay0, h, h0, Bool.and_self]
theorem strs_depth : ∀ ss : List Str, PyData.depthAll (ss.map PyData.str) = 0
  | [] => by rfl
  | _ :: l => by
    have h := strs_depth l
    simp only [List.map_cons, PyData.depthAll, PyData.depth, h, Nat.max_self]
theorem strs_shaped (ss : List Str) (hk : ∀ z ∈ ss, PyData.strOk z = true) : SeqAt.shaped (.list (ss.map PyData.str)) = true := by
  unfold SeqAt.shaped
  have h1 : (PyData.list (ss.map PyData.str)).canLay0 = true := by
    have h := strs_lay ss hk
    simp only [PyData.canLay0, h]
  have h2 : (PyData.list (ss.map PyData.str)).depth = 1 := by
    have h := strs_depth ss
    simp only [PyData.depth, h]
  rw [h1, h2]
  rfl
theorem map_erase {α β : Type} (g : α → β) : ∀ (l : List α) (i : Nat), (l.map g).eraseIdx i = (l.eraseIdx i).map g
  | [], _ => rfl
  | _ :: _, 0 => rfl
  | x :: l, i + 1 => by
    show g x :: (l.map g).eraseIdx i = g x :: (l.eraseIdx i).map g
    rw [map_erase g l i]
theorem erase_perm {α : Type} : ∀ (l : List α) (i : Nat) (h : i < l.length), (l[i] :: l.eraseIdx i).Perm l
  | _ :: _, 0, _ => List.Perm.refl _
  | x :: l, i + 1, h => by
    have h' : i < l.length := Nat.lt_of_succ_lt_succ h
    have p := erase_perm l i h'
    show (l[i] :: x :: l.eraseIdx i).Perm (x :: l)
    exact (List.Perm.swap x l[i] _).trans (p.cons x)
theorem seqIx {n k : Nat} (h : k < n) : seqIndex? (k : Int) n = some k := by
  unfold seqIndex?
  have a : ¬ (k : Int) < 0 := by omega
  have b : (0 : Int) ≤ k ∧ (k : Int) < n := by omega
  simp only [if_neg a]
  rw [decide_eq_true b.1, decide_eq_true b.2]
  rfl
theorem strs_eqv_nil (ss : List Str) : (PyData.list (ss.map PyData.str)).eqv (.list []) = ss.isEmpty := by
  cases ss with
  | nil => rfl
  | cons a l => simp [PyData.eqv, PyData.eqvAll]
def spMixed (K : PySem.W.Frag) : Sp := fun vs H Q _ => ∃ (d a : Addr) (ss : List Str), vs = [.ref d, .ref a] ∧ Dz H d ∧ SqL K H a (ss.map V.str) ∧ ss.length ≤ 100 ∧ (∀ z ∈ ss, PyData.strOk z = true) ∧
  ∀ (ys : List Str) (p : Addr) (H' : Hp), ys.Perm ss → H p = none → H' p = some (.lst (ys.map V.str)) → Dz H' d → Still d H H' → Q (.ref p) H'
section
variable {P : Program} {w : World} {K : PySem.W.Frag} {mg : Str → Option Value} {base : Heap}
theorem scMixed : FnScope ["dice", "items", "left", "found"] ["dice", "items"] (defScope sMixed) := ⟨rfl, rfl, rfl, by decide +kernel, rfl, by decide +kernel, by decide +kernel⟩
theorem ok_mixed {f : Addr} {fd : FuncData} (F : Fun K "_law_mixed" "_law_mixed" sMixed f fd) (D : DefsD K mg) (T : TxI mg) (M : TxM mg) : FnOk P w K mg base CX0 2 f fd ["dice", "items"] (spMixed K) := by
  have GR : FnOk P w K mg base CX0 1 D.fR D.dR ["dice", "total"] spRoll := ok_roll D.R T
  refine F.ok scMixed (fun vs H Q E h => ?_) (fun cdv A outer s H vs Q E hr h => ?_)
  · obtain ⟨d, a, ss, rfl, _⟩ := h
    rfl
  · obtain ⟨d, a, ss, rfl, Z, ha, hl, hok, k⟩ := h
    have hr1 : Room 1 _ := hr.mono (by decide)
    refine ⟨_, pss_cons (ps_par (i := 2) (j := 3) (by rfl) scMixed.nd rfl rfl (by decide) rfl rfl (pa_cons (pe_callTy call_list_of (by rfl) M.list (by decide +kernel) (pa_cons (pv 1) pa_nil)) (pa_cons (pe_lst pa_nil) pa_nil)) (by rfl))
      (pss_cons (ps_while PassesOwn.never (pt_cmpR (op_neD hr.units) (pv 2) (pe_lst pa_nil) (nomark _))
        (pss_one (ps_expr (pe_bm PySem.F.plainAttrs_list PySem.F.slot_list_append PySem.F.type_list_append mt_append (pv 3)
          (pa_cons (pe_bm PySem.F.plainAttrs_list PySem.F.slot_list_pop PySem.F.type_list_pop mt_popAt (pv 2) (pa_cons (pe_call GR hr1 rfl D.mR D.R.kp D.bR .nil pass0 (pa_cons (pv 0) (pa_cons (pe_callB call_len_seq (by rfl) T.len PySem.boot_len (pa_cons (pv 2) pa_nil)) pa_nil))) pa_nil)) pa_nil)))))
      (pss_one (ps_ret (pv 3)))), ?_⟩
    refine ⟨_, rfl, a, _, rfl, .inl ha, fun l nl => ⟨(by show 0 ≤ sizeLine; decide), fun f nf => ?_⟩⟩
    have ne_a : ∀ {H' : Hp} {b : Addr}, H' b = none → ∀ {o : HO}, H' d = some o → b ≠ d := fun n _ h z => by
      subst z
      rw [n] at h
      cases h
    obtain ⟨dl, dm, dc, hd, w1, w2, w3⟩ := id Z
    have ld : l ≠ d := ne_a nl hd
    have hd1 : (upd H l (.lst (ss.map V.str))) d = some (.lst [.int dl, .int dm, .int dc]) := keep_new hd nl
    have fd' : f ≠ d := ne_a nf hd1
    have lf : l ≠ f := fun z => by
      subst z
      rw [upd_same] at nf
      cases nf
    have nf0 : H f = none := by
      rw [upd_ne (Ne.symm lf)] at nf
      exact nf
    refine ⟨_, _, rfl, ?_⟩
    refine while_by (fun σ H' => σ = [some (.ref d), some (.ref a), some (.ref l), some (.ref f)] ∧ ∃ ls fs : List Str, H' l = some (.lst (ls.map V.str)) ∧ H' f = some (.lst (fs.map V.str)) ∧ (fs ++ ls).Perm ss ∧ Dz H' d ∧ Still d H H')
      (fun σ H' => match H' l with | some (.lst xs) => xs.length | _ => 0) ⟨rfl, ss, [], by rw [upd_ne lf]; exact upd_same, upd_same, List.Perm.refl _, (Z.new nl).new nf, ((Still.refl d H).new nl).new nf⟩ ?_ ?_
    · rintro σ H1 ⟨rfl, ls, fs, h1, h2, h3, h4, h5⟩
      refine ⟨_, rfl, (by show 0 ≤ sizeLine; decide), fun p np => ?_⟩
      refine ⟨_, _, .lst (SqL.of (keep_new h1 np)) (dp_strs ls), .lst (SqL.of upd_same) .nil, strs_shaped ls (fun z hz => hok z (h3.subset (List.mem_append_right _ hz))), by decide, ?_⟩
      rw [strs_eqv_nil]
      refine ⟨_, rfl, ?_⟩
      cases ls with
      | nil =>
        refine iteF ?_
        rw [List.append_nil] at h3
        exact ⟨_, rfl, k fs f _ h3 nf0 (keep_new h2 np) (h4.new np) (h5.new np)⟩
      | cons z ls =>
        refine iteT ?_
        have g1 : (upd H1 p (.lst [])) l = some (.lst ((z :: ls).map V.str)) := keep_new h1 np
        have g2 : (upd H1 p (.lst [])) f = some (.lst (fs.map V.str)) := keep_new h2 np
        have g4 : Dz (upd H1 p (.lst [])) d := h4.new np
        have g5 : Still d H (upd H1 p (.lst [])) := h5.new np
        generalize upd H1 p (.lst []) = H2 at g1 g2 g4 g5 ⊢
        obtain ⟨l0, m0, c0, D0⟩ := g4
        have hlen : (z :: ls).length ≤ 100 := by
          have := h3.length_eq
          rw [List.length_append] at this
          omega
        refine ⟨_, rfl, .inl ⟨rfl, _, SqL.of g2⟩, _, rfl, .inl ⟨rfl, _, SqL.of g1⟩, _, rfl, _, rfl, l, _, rfl, .inl (SqL.of g1), d, l0, m0, c0, _, rfl, D0, ?_, ?_, fun r l' c' r0 rn q0 q1 => ?_⟩
        · rw [List.length_map]
          show (0 : Int) < ((ls.length + 1 : Nat) : Int)
          omega
        · rw [List.length_map]
          omega
        · rw [List.length_map] at rn
          have rl : r.toNat < (z :: ls).length := by omega
          have er : r = (r.toNat : Int) := by omega
          have TT : Turned H2 (upd H2 d (.lst [.int l', .int m0, .int c'])) d := ⟨l', m0, c', q0, D0.2.2.1, q1, rfl⟩
          have k1 : (upd H2 d (.lst [.int l', .int m0, .int c'])) l = some (.lst ((z :: ls).map V.str)) := by
            rw [upd_ne ld]
            exact g1
          have k2 : (upd H2 d (.lst [.int l', .int m0, .int c'])) f = some (.lst (fs.map V.str)) := by
            rw [upd_ne fd']
            exact g2
          have k4 := TT.dz
          have k5 := g5.turn TT
          generalize upd H2 d (.lst [.int l', .int m0, .int c']) = H3 at k1 k2 k4 k5 ⊢
          refine ⟨l, _, r, r.toNat, .str ((z :: ls)[r.toNat]), rfl, rfl, k1, by omega, by omega, ?_, ?_, ?_⟩
          · rw [List.length_map, er]
            exact seqIx rl
          · rw [List.getElem?_map, List.getElem?_eq_getElem rl]
            rfl
          · refine ⟨f, _, _, rfl, rfl, by rw [upd_ne (Ne.symm lf)]; exact k2, ?_, ?_⟩
            · rw [List.length_map]
              have := h3.length_eq
              rw [List.length_append] at this
              exact Nat.lt_of_le_of_lt (show fs.length ≤ 100 by omega) (by decide)
            · refine ⟨⟨rfl, (z :: ls).eraseIdx r.toNat, fs ++ [(z :: ls)[r.toNat]], ?_, ?_, ?_, ?_, ?_⟩, ?_⟩
              · rw [upd_ne lf, upd_same, map_erase]
              · rw [upd_same, List.map_append]
                rfl
              · refine List.Perm.trans ?_ h3
                rw [List.append_assoc]
                refine List.Perm.append_left fs ?_
                exact (erase_perm (z :: ls) r.toNat rl)
              · exact (k4.ne ld).ne fd'
              · exact (k5.at_new nl).at_new nf0
              · show (match (upd _ f _) l with | some (.lst xs) => xs.length | _ => 0) < (match H1 l with | some (.lst xs) => xs.length | _ => 0)
                rw [h1, upd_ne lf, upd_same]
                show (((z :: ls).map V.str).eraseIdx r.toNat).length < ((z :: ls).map V.str).length
                rw [List.length_eraseIdx, List.length_map, if_pos rl]
                show ls.length + 1 - 1 < ls.length + 1
                omega
    · rintro σ H1 Q1 Q2 hq ⟨x, hx, hz, hh⟩
      refine ⟨x, hx, hz, fun p np => ?_⟩
      obtain ⟨d1, d2, q1, q2, q3, q4, k1, q5, q6⟩ := hh p np
      exact ⟨d1, d2, q1, q2, q3, q4, k1, q5, hq _ _ q6⟩
end
end M3

set_option Elab.async false
set_option linter.all false
set_option maxRecDepth 100000
set_option maxHeartbeats 8000000
/-! # Drawn sets of letters, drawn words -/
namespace M3
open PySem L2
/-- list(a text): its signs -/
theorem call_listS {X : Cx} (hc : X.calm = true) : CallR X (.type "list") (fun xs H Q => ∃ x : Str, xs = [.str x] ∧ x.length ≤ sizeLine ∧ ∀ l, H l = none → Q (.ref l) (upd H l (.lst ((PyProof.Rows.signs x).map V.str)))) := by
  intro pins s σ H xs us Q I r h
  obtain ⟨x, rfl, hz, q⟩ := h
  obtain ⟨u, rfl, rx⟩ := vals1 r
  obtain ⟨t, rfl⟩ := rx
  refine call_list_str (I.ok.hd hc) x t (hn := hz) fun h' tk acc' c' hk hS hacc => ?_
  refine ⟨.ref s.heap.objs.size, _, I.laid (t' := tk) hk (Nat.le_refl _) (show ObjOk X.prog X.w _ h' _ (.lst ((PyProof.Rows.signs x).map V.str)) from ⟨?_, acc'.toList, c', ?_, by simpa using hS⟩), rfl, q _ (I.hok.fresh (Nat.le_refl _))⟩
  · rw [List.length_map]
    unfold PyProof.Rows.signs
    rw [List.length_map]
    exact hz
  · have hl : acc'.toList.length = x.cps.toList.length := by
      have := hacc.1
      simpa using this
    refine vals_of_at ?_ fun j y v h1 h2 => ?_
    · unfold PyProof.Rows.signs
      rw [List.length_map, List.length_map, hl]
    · obtain ⟨c, u, e1, e2⟩ := hacc.2 j v (by simpa using h2)
      unfold PyProof.Rows.signs at h1
      rw [List.getElem?_map, List.getElem?_map] at h1
      have e3 : x.cps.toList[j]? = some c := by simpa using e1
      rw [e3] at h1
      cases h1
      exact ⟨u, e2⟩
abbrev sLetters : Stmt := top 66
theorem scLetters : FnScope ["dice", "total"] ["dice", "total"] (defScope sLetters) := ⟨rfl, rfl, rfl, by decide +kernel, rfl, by decide +kernel, by decide +kernel⟩
/-- a set of letters that is drawn: ascending signs of abckxz -/
def IsSet (w : Str) (n : Nat) : Prop := ∃ cs : List Nat, w = ⟨cs.toArray⟩ ∧ cs.length = n ∧ cs.Pairwise (· < ·) ∧ ∀ c ∈ cs, c ∈ [97, 98, 99, 107, 120, 122]
abbrev six : List Nat := [97, 98, 99, 107, 120, 122]
theorem signs_six : PyProof.Rows.signs "abckxz" = six.map fun c => (⟨#[c]⟩ : Str) := by decide +kernel
theorem six_lt : ∀ a ∈ six, ∀ b ∈ six, a ≠ b → PyProof.Rows.sortedS [(⟨#[a]⟩ : Str), ⟨#[b]⟩] = true → a < b := by decide +kernel
theorem six_join : ∀ a ∈ six, ∀ b ∈ six, Txt.join "" [(⟨#[a]⟩ : Str), ⟨#[b]⟩] = ⟨#[a, b]⟩ := by decide +kernel
theorem six_join1 : ∀ a ∈ six, Txt.join "" [(⟨#[a]⟩ : Str)] = ⟨#[a]⟩ := by decide +kernel
theorem six_ok : ∀ z ∈ PyProof.Rows.signs "abckxz", PyData.strOk z = true := by
  rw [signs_six]
  decide +kernel
theorem six_nodup : (PyProof.Rows.signs "abckxz").Nodup := by
  rw [signs_six]
  decide +kernel
theorem set_of {ys zs : List Str} {n : Nat} (h1 : 1 ≤ n) (h2 : n ≤ 2) (perm : ys.Perm (PyProof.Rows.signs "abckxz")) (pz : zs.Perm (ys.take n)) (so : PyProof.Rows.sortedS zs = true) : IsSet (Txt.join "" zs) n ∧ (zs.map (·.length)).sum ≤ 2 := by
  have hn : ys.Nodup := perm.nodup_iff.mpr six_nodup
  have hz : zs.Nodup := pz.nodup_iff.mpr (hn.sublist (List.take_sublist n ys))
  have ly : ys.length = 6 := by
    rw [perm.length_eq, signs_six]
    rfl
  have lz : zs.length = n := by
    rw [pz.length_eq, List.length_take, ly]
    omega
  have hm : ∀ z ∈ zs, ∃ a ∈ six, z = (⟨#[a]⟩ : Str) := fun z h => by
    have h' := perm.subset (List.mem_of_mem_take (pz.subset h))
    rw [signs_six] at h'
    obtain ⟨a, ha, e⟩ := List.mem_map.mp h'
    exact ⟨a, ha, e.symm⟩
  match zs, lz, hz, hm, so with
  | [], lz, _, _, _ =>
    have lz : 0 = n := lz
    omega
  | [z], lz, _, hm, _ =>
    obtain ⟨a, ha, e⟩ := hm z List.mem_cons_self
    subst e
    have lz : 1 = n := lz
    refine ⟨⟨[a], six_join1 a ha, lz, List.pairwise_singleton _ _, fun c hc => ?_⟩, by show 1 + 0 ≤ 2; decide⟩
    rw [List.mem_singleton.mp hc]
    exact ha
  | [x, y], lz, hz, hm, so =>
    obtain ⟨a, ha, e⟩ := hm x List.mem_cons_self
    obtain ⟨b, hb, e'⟩ := hm y (List.mem_cons_of_mem _ List.mem_cons_self)
    subst e e'
    have lz : 2 = n := lz
    have ne : a ≠ b := fun q => by
      subst q
      simp at hz
    have lt := six_lt a ha b hb ne so
    refine ⟨⟨[a, b], six_join a ha b hb, lz, ?_, fun c hc => ?_⟩, by show 1 + (1 + 0) ≤ 2; decide⟩
    · simp [lt]
    · rcases List.mem_cons.mp hc with q | q
      · rw [q]
        exact ha
      · rw [List.mem_singleton.mp q]
        exact hb
  | _ :: _ :: _ :: l, lz, _, _, _ =>
    have lz : l.length + 3 = n := lz
    omega
theorem cut_take {ss : List Str} {n : Nat} (h : n ≤ ss.length) : cutV (ss.map V.str) none (some (n : Int)) = (ss.take n).map V.str := by
  unfold cutV
  rw [HT.sIx_none, HT.sIx_nat, List.length_map, List.drop_zero, Nat.sub_zero, Nat.min_eq_left h, List.map_take]
def spLetters : Sp := fun vs H Q _ => ∃ (d : Addr) (n : Nat), vs = [.ref d, .int n] ∧ Dz H d ∧ 1 ≤ n ∧ n ≤ 2 ∧ ∀ (x : Str) (H' : Hp), IsSet x n → Dz H' d → Still d H H' → Q (.str x) H'
section
variable {P : Program} {w : World} {K : PySem.W.Frag} {mg : Str → Option Value} {base : Heap}
theorem ok_letters {f g : Addr} {fd gd : FuncData} (F : Fun K "_law_letters" "_law_letters" sLetters f fd) (FM : Fun K "_law_mixed" "_law_mixed" sMixed g gd) (bM : Binds K gd ["dice", "items"] []) (mM : mg "_law_mixed" = some (.ref g)) (D : DefsD K mg) (T : TxI mg) (M : TxM mg) :
    FnOk P w K mg base CX0 3 f fd ["dice", "total"] spLetters := by
  have GM : FnOk P w K mg base CX0 2 g gd ["dice", "items"] (spMixed K) := ok_mixed FM D T M
  refine F.ok scLetters (fun vs H Q E h => ?_) (fun cdv A outer s H vs Q E hr h => ?_)
  · obtain ⟨d, n, rfl, _⟩ := h
    rfl
  · obtain ⟨d, n, rfl, Z, h1, h2, k⟩ := h
    have hr2 : Room 2 _ := hr.mono (by decide)
    refine ⟨_, pss_one (ps_ret (pe_join pe_str (pe_callB cr_sortedS (by rfl) M.sorted (by decide +kernel) (pa_cons (pe_slice sl_list (pe_call GM hr2 rfl mM FM.kp bM .nil pass0 (pa_cons (pv 0) (pa_cons (pe_callTy (call_listS rfl) (by rfl) M.list (by decide +kernel) (pa_cons pe_str pa_nil)) pa_nil))) po_none (po_some (pv 1))) pa_nil)))), ?_⟩
    refine ⟨⟨_, rfl⟩, _, rfl, "abckxz", rfl, by decide, fun l nl => ?_⟩
    refine ⟨d, l, _, rfl, Z.new nl, SqL.of upd_same, by decide +kernel, six_ok, fun ys p H' perm np hp Z' st => ?_⟩
    refine ⟨_, rfl, _, rfl, p, _, rfl, SqL.of hp, fun p2 np2 => ?_⟩
    have ly : ys.length = 6 := by
      rw [perm.length_eq, signs_six]
      rfl
    rw [cut_take (by omega)]
    refine ⟨p2, ys.take n, rfl, SqL.of upd_same, ?_, fun zs p3 pz so np3 => ?_⟩
    · rw [List.length_take]
      omega
    · obtain ⟨s1, s2⟩ := set_of h1 h2 perm pz so
      refine ⟨"", p3, zs, rfl, rfl, .inl (SqL.of upd_same), ?_, ?_⟩
      · have e : ("" : Str).length = 0 := by decide +kernel
        rw [e]
        omega
      · exact k _ _ s1 ((Z'.new np2).new np3) (((((Still.refl d H).new nl).trans st).new np2).new np3)
end
end M3

set_option Elab.async false
set_option linter.all false
set_option maxRecDepth 100000
set_option maxHeartbeats 8000000
/-! # Drawn words -/
namespace M3
open PySem L2
abbrev sWord : Stmt := top 67
abbrev nWord : List Str := ["dice", "letters", "most", "turn"]
theorem scWord : FnScope nWord ["dice", "letters", "most"] (defScope sWord) := ⟨rfl, rfl, rfl, by decide +kernel, rfl, by decide +kernel, by decide +kernel⟩
theorem join_flat (zs : List Str) : Txt.join "" zs = ⟨(zs.flatMap fun z => z.cps.toList).toArray⟩ := by
  have e0 : ("" : Str).cps = #[] := by decide +kernel
  have go : ∀ (ps : List Str) (acc : Array Nat), ps.foldl (fun acc p => acc ++ ("" : Str).cps ++ p.cps) acc = acc ++ (ps.flatMap fun z => z.cps.toList).toArray := by
    intro ps
    induction ps with
    | nil =>
      intro acc
      simp
    | cons p ps ih =>
      intro acc
      rw [List.foldl_cons, ih, e0]
      apply Array.toList_inj.mp
      simp
  cases zs with
  | nil => decide +kernel
  | cons z zs =>
    show (⟨(zs.foldl (fun acc p => acc ++ ("" : Str).cps ++ p.cps) z.cps)⟩ : Str) = _
    rw [go]
    congr 1
    apply Array.toList_inj.mp
    simp
/-- a word of the letters x -/
def IsW (x : Str) (w : Str) : Prop := ∀ c ∈ w.cps.toList, c ∈ x.cps.toList
theorem join_word {x : Str} {zs : List Str} (h : ∀ z ∈ zs, ∃ c ∈ x.cps.toList, z = (⟨#[c]⟩ : Str)) : IsW x (Txt.join "" zs) ∧ (Txt.join "" zs).length = zs.length ∧ (zs.map (·.length)).sum = zs.length := by
  rw [join_flat]
  refine ⟨fun c hc => ?_, ?_, ?_⟩
  · have hc : c ∈ zs.flatMap fun z => z.cps.toList := by simpa using hc
    obtain ⟨z, hz, q⟩ := List.mem_flatMap.mp hc
    obtain ⟨a, ha, e⟩ := h z hz
    rw [e] at q
    have q : c ∈ [a] := q
    rw [List.mem_singleton.mp q]
    exact ha
  · show (zs.flatMap fun z => z.cps.toList).toArray.size = zs.length
    rw [List.size_toArray]
    induction zs with
    | nil => rfl
    | cons z zs ih =>
      obtain ⟨a, _, e⟩ := h z List.mem_cons_self
      rw [List.flatMap_cons, List.length_append, ih fun y hy => h y (List.mem_cons_of_mem _ hy), e, List.length_cons]
      show 1 + zs.length = zs.length + 1
      omega
  · induction zs with
    | nil => rfl
    | cons z zs ih =>
      obtain ⟨a, _, e⟩ := h z List.mem_cons_self
      rw [List.map_cons, List.sum_cons, ih fun y hy => h y (List.mem_cons_of_mem _ hy), e, List.length_cons]
      show 1 + zs.length = zs.length + 1
      omega
theorem tYes_if {σ : St} {H : Hp} {A B : Hp → Prop} (h : A H) : tYes σ H (fun b H3 => if b = true then A H3 else B H3) := by
  show (if true = true then A H else B H)
  exact h
def spWord : Sp := fun vs H Q _ => ∃ (d : Addr) (x : Str) (m : Nat), vs = [.ref d, .str x, .int m] ∧ Dz H d ∧ 0 < x.length ∧ x.length ≤ 100 ∧ m ≤ 100 ∧
  ∀ (y : Str) (H' : Hp), IsW x y → y.length ≤ m → Dz H' d → Still d H H' → Q (.str y) H'
theorem Still.free {d b : Addr} {H H1 : Hp} (s : Still d H H1) (z : Dz H1 d) (h : H1 b = none) : H b = none := by
  cases e : H b with
  | none => rfl
  | some o =>
    have nb : b ≠ d := fun q => by
      subst q
      obtain ⟨l, m, c, q, _⟩ := z
      rw [h] at q
      cases q
    rw [s b o nb e] at h
    cases h
theorem Dz.not {d b : Addr} {H : Hp} (z : Dz H d) (h : H b = none) : b ≠ d := fun q => by
  subst q
  obtain ⟨l, m, c, q, _⟩ := z
  rw [h] at q
  cases q
section
variable {P : Program} {w : World} {K : PySem.W.Frag} {mg : Str → Option Value} {base : Heap}
theorem ok_word {f : Addr} {fd : FuncData} (F : Fun K "_law_word" "_law_word" sWord f fd) (D : DefsD K mg) (T : TxI mg) (M : TxM mg) :
    FnOk P w K mg base CX0 3 f fd ["dice", "letters", "most"] spWord := by
  have GR : FnOk P w K mg base CX0 1 D.fR D.dR ["dice", "total"] spRoll := ok_roll D.R T
  have GO : FnOk P w K mg base CX0 2 D.fO D.dO ["dice", "items"] (spOneOf K) := ok_oneof D.O D.R D.bR D.mR T
  refine F.ok scWord (fun vs H Q E h => ?_) (fun cdv A outer s H vs Q E hr h => ?_)
  · obtain ⟨d, x, m, rfl, _⟩ := h
    rfl
  · obtain ⟨d, x, m, rfl, Z, x1, x2, hm, k⟩ := h
    have hr2 : Room 2 _ := hr.mono (by decide)
    have hr1 : Room 1 _ := hr.mono (by decide)
    refine ⟨_, pss_one (ps_ret (pe_join pe_str (pe_lc (own := [("turn", 3)]) (g := gName 3) (tt := tYes) rfl scWord.nd (pi_range1 rfl M.range (pa_cons (pe_call GR hr1 rfl D.mR D.R.kp D.bR .nil pass0 (pa_cons (pv 0) (pa_cons (pe_op op_add (pv 2) pe_int) pa_nil))) pa_nil)) (blkOk_by (N := nWord) (sc := defScope sWord) (by decide +kernel)) (fun _ _ _ _ _ => pg_name (i := 3) scWord.nd rfl (Or.inl rfl)) (fun _ _ _ _ _ => pts_nil)
      (fun _ _ _ _ _ => pe_call GO hr2 rfl D.mO D.O.kp D.bO .nil pass0 (pa_cons (pv 0) (pa_cons (pe_callTy (call_listS rfl) (by rfl) M.list (by decide +kernel) (pa_cons (pv 1) pa_nil)) pa_nil)))))), ?_⟩
    obtain ⟨l0, m0, c0, D0⟩ := id Z
    refine ⟨⟨_, rfl⟩, _, rfl, _, rfl, _, _, rfl, rfl, d, l0, m0, c0, _, rfl, D0, by omega, by omega, fun r l' c' r0 rn q0 q1 => ?_⟩
    have TT : Turned H (upd H d (.lst [.int l', .int m0, .int c'])) d := ⟨l', m0, c', q0, D0.2.2.1, q1, rfl⟩
    have Z1 := TT.dz
    have S1 := (Still.refl d H).turn TT
    generalize upd H d (.lst [.int l', .int m0, .int c']) = H1 at Z1 S1 ⊢
    refine ⟨r, rfl, by omega, by omega, fun C nC => ?_⟩
    have Cd : C ≠ d := Z1.not nC
    have HC : H C = none := S1.free Z1 nC
    refine lc_range (lo := 0) (n := r.toNat) (fun j H9 => ∃ zs : List Str, H9 C = some (.lst (zs.map V.str)) ∧ zs.length = j ∧ (∀ z ∈ zs, ∃ c ∈ x.cps.toList, z = (⟨#[c]⟩ : Str)) ∧ Dz H9 d ∧ Still d H H9)
      ⟨[], upd_same, rfl, (fun z hz => by cases hz), Z1.new nC, S1.new nC⟩ ?_ ?_
    · rintro j H9 hj ⟨zs, h1, h2, h3, h4, h5⟩
      refine ⟨rfl, tYes_if ?_⟩
      have hj : j < 101 := by omega
      refine ⟨_, rfl, _, rfl, x, rfl, Nat.le_trans x2 (by decide), fun l nl => ?_⟩
      have ls : ((PyProof.Rows.signs x).map V.str).length = x.length := by
        unfold PyProof.Rows.signs
        rw [List.length_map, List.length_map]
        rfl
      refine ⟨d, l, _, rfl, h4.new nl, SqL.of upd_same, h4.not nl, by rw [ls]; exact x1, by rw [ls]; omega, fun v H2 hv T2 => ?_⟩
      obtain ⟨z, hz, rfl⟩ := List.mem_map.mp hv
      have hz' : ∃ c ∈ x.cps.toList, z = (⟨#[c]⟩ : Str) := by
        unfold PyProof.Rows.signs at hz
        obtain ⟨c, hc, e⟩ := List.mem_map.mp hz
        exact ⟨c, hc, e.symm⟩
      have g1 : H2 C = some (.lst (zs.map V.str)) := by
        rw [T2.ne Cd]
        exact keep_new h1 nl
      refine ⟨_, g1, ?_, zs ++ [z], ?_, ?_, fun y hy => ?_, T2.dz.ne Cd, ((h5.new nl).turn T2).at_new HC⟩
      · rw [List.length_map, h2]
        exact Nat.lt_trans hj (by decide)
      · rw [upd_same, List.map_append]
        rfl
      · rw [List.length_append, h2]
        rfl
      · rcases List.mem_append.mp hy with q | q
        · exact h3 y q
        · rw [List.mem_singleton.mp q]
          exact hz'
    · rintro H9 ⟨zs, h1, h2, h3, h4, h5⟩
      obtain ⟨w1, w2, w3⟩ := join_word h3
      have e0 : ("" : Str).length = 0 := by decide +kernel
      refine ⟨"", C, zs, rfl, rfl, .inl (SqL.of h1), ?_, k _ _ w1 ?_ h4 h5⟩
      · rw [e0, w3, h2]
        omega
      · rw [w2, h2]
        omega
end
end M3

set_option Elab.async false
set_option linter.all false
set_option maxRecDepth 100000
set_option maxHeartbeats 8000000
/-! # Drawn ways to lead -/
namespace M3
open PySem L2
abbrev sAction : Stmt := top 68
abbrev nAction : List Str := ["dice", "size", "sort", "spot", "by", "found", "one", "other", "place"]
theorem scAction : FnScope nAction ["dice", "size", "sort"] (defScope sAction) := ⟨rfl, rfl, rfl, by decide +kernel, rfl, by decide +kernel, by decide +kernel⟩
def nts (xs : List Nat) : List V := xs.map fun (x : Nat) => V.int (x : Int)
theorem nts_length (xs : List Nat) : (nts xs).length = xs.length := List.length_map _
theorem nts_append (xs : List Nat) (x : Nat) : some (HO.lst (nts xs ++ [V.int x])) = some (HO.lst (nts (xs ++ [x]))) := by
  unfold nts
  rw [List.map_append]
  rfl
theorem nts_eq (xs : List Nat) : some (HO.lst (nts xs)) = some (HO.lst ((xs.map Int.ofNat).map V.int)) := by
  unfold nts
  rw [List.map_map]
  rfl
theorem nts_eq' (xs : List Nat) : nts xs = (xs.map Int.ofNat).map V.int := by
  unfold nts
  rw [List.map_map]
  rfl
theorem ixNat {n k : Nat} (h : k < n) : ixN n (k : Int) = some k := by
  unfold ixN
  rw [if_pos (by omega), if_pos (by omega)]
  rfl
theorem rgV_nats (n : Nat) : rgV 0 (n : Int) = nts (List.range n) := by
  unfold rgV nts
  have e : ((n : Int) - 0).toNat = n := by omega
  rw [e]
  exact List.map_congr_left fun i _ => by rw [Int.zero_add]
theorem nats_perm {ys : List Int} {xs : List Nat} (p : ys.Perm (xs.map Int.ofNat)) : ∃ zs : List Nat, ys = zs.map Int.ofNat ∧ zs.Perm xs := by
  refine ⟨ys.map Int.toNat, ?_, ?_⟩
  · have h : ∀ y ∈ ys, Int.ofNat y.toNat = y := fun y hy => by
      obtain ⟨x, _, e⟩ := List.mem_map.mp (p.subset hy)
      rw [← e]
      rfl
    rw [List.map_map]
    exact ((List.map_congr_left h).trans (List.map_id ys)).symm
  · have q := p.map Int.toNat
    rw [List.map_map] at q
    have e : xs.map (Int.toNat ∘ Int.ofNat) = xs := (List.map_congr_left (fun x _ => rfl)).trans (List.map_id xs)
    rw [e] at q
    exact q
/-- a number is drawn -/
def spDraw : Sp := fun vs H Q _ => ∃ (d : Addr) (n : Nat), vs = [.ref d, .int n] ∧ Dz H d ∧ 0 < n ∧ n < 1073741824 ∧ ∀ (x : Nat) (H' : Hp), x < n → Dz H' d → Still d H H' → Q (.int x) H'
def spAction : Sp := fun vs H Q _ => ∃ (d : Addr) (n : Nat) (i : Int), vs = [.ref d, .int n, .int i] ∧ Dz H d ∧ 0 < n ∧ n ≤ 10 ∧
  ∀ (xs : List Nat) (p : Addr) (H' : Hp), xs.length = n → (∀ x ∈ xs, x < n) → H p = none → H' p = some (.lst (nts xs)) → Dz H' d → Still d H H' → Q (.ref p) H'
section
variable {P : Program} {w : World} {K : PySem.W.Frag} {mg : Str → Option Value} {base : Heap}
theorem ok_draw {f : Addr} {fd : FuncData} (F : Fun K "_law_roll" "_law_roll" sRoll f fd) (T : TxI mg) : FnOk P w K mg base CX0 1 f fd ["dice", "total"] spDraw := by
  refine (ok_roll F T).imp fun vs H Q E h => ?_
  obtain ⟨d, n, rfl, ⟨l, m, c, D⟩, h1, h2, k⟩ := h
  refine ⟨d, l, m, c, n, rfl, D, by omega, by omega, fun r l' c' r0 rn q0 q1 => ?_⟩
  have TT : Turned H (upd H d (.lst [.int l', .int m, .int c'])) d := ⟨l', m, c', q0, D.2.2.1, q1, rfl⟩
  have er : r = (r.toNat : Int) := by omega
  rw [er]
  exact k r.toNat _ (by omega) TT.dz ((Still.refl d H).turn TT)
theorem ok_action {f : Addr} {fd : FuncData} (F : Fun K "_law_action" "_law_action" sAction f fd) (D : DefsD K mg) (T : TxI mg) (M : TxM mg) :
    FnOk P w K mg base CX0 2 f fd ["dice", "size", "sort"] spAction := by
  have GR : FnOk P w K mg base CX0 1 D.fR D.dR ["dice", "total"] spDraw := ok_draw D.R T
  refine F.ok scAction (fun vs H Q E h => ?_) (fun cdv A outer s H vs Q E hr h => ?_)
  · obtain ⟨d, n, i, rfl, _⟩ := h
    rfl
  · obtain ⟨d, n, i, rfl, Z, hn, h10, k⟩ := h
    have hr1 : Room 1 _ := hr.mono (by decide)
    refine ⟨_, (pss_cons (ps_if (pt_cmpR op_eq (pv 2) pe_int (nomark _)) (pss_one (ps_ret (pe_lc (own := [("place", 8)]) (g := gName 8) (tt := tYes) rfl scAction.nd (pi_range1 rfl M.range (pa_cons (pv 1) pa_nil)) (blkOk_by (N := nAction) (sc := defScope sAction) (by decide +kernel)) (fun _ _ _ _ _ => pg_name (i := 8) scAction.nd rfl (Or.inl rfl)) (fun _ _ _ _ _ => pts_nil) (fun _ _ _ _ _ => (pe_op op_add (pv 8) (pe_call GR hr1 rfl D.mR D.R.kp D.bR .nil pass0 (pa_cons (pv 0) (pa_cons (pe_op op_sub (pv 1) (pv 8)) pa_nil)))))))) pss_nil)
      (pss_cons (ps_if (pt_cmpR op_eq (pv 2) pe_int (nomark _)) (pss_cons (ps_set (i := 3) scAction.nd rfl (Or.inr rfl) (pe_call GR hr1 rfl D.mR D.R.kp D.bR .nil pass0 (pa_cons (pv 0) (pa_cons (pv 1) pa_nil))))
        (pss_one (ps_ret (pe_lc (own := [("place", 8)]) (g := gName 8) (tt := tYes) rfl scAction.nd (pi_range1 rfl M.range (pa_cons (pv 1) pa_nil)) (blkOk_by (N := nAction) (sc := defScope sAction) (by decide +kernel)) (fun _ _ _ _ _ => pg_name (i := 8) scAction.nd rfl (Or.inl rfl)) (fun _ _ _ _ _ => pts_nil) (fun _ _ _ _ _ => (pv 3)))))) pss_nil)
      (pss_cons (ps_if (pt_cmpR op_eq (pv 2) pe_int (nomark _)) (pss_cons (ps_set (i := 4) scAction.nd rfl (Or.inr rfl) (pe_call GR hr1 rfl D.mR D.R.kp D.bR .nil pass0 (pa_cons (pv 0) (pa_cons (pv 1) pa_nil))))
        (pss_one (ps_ret (pe_lc (own := [("place", 8)]) (g := gName 8) (tt := tYes) rfl scAction.nd (pi_range1 rfl M.range (pa_cons (pv 1) pa_nil)) (blkOk_by (N := nAction) (sc := defScope sAction) (by decide +kernel)) (fun _ _ _ _ _ => pg_name (i := 8) scAction.nd rfl (Or.inl rfl)) (fun _ _ _ _ _ => pts_nil) (fun _ _ _ _ _ => (pe_op op_modN (pe_callTy call_int1 (by rfl) T.int (by decide +kernel) (pa_cons (pe_op op_add (pv 8) (pv 4)) pa_nil)) (pv 1))))))) pss_nil)
      (pss_cons (ps_if (pt_cmpR op_eq (pv 2) pe_int (nomark _)) (pss_one (ps_ret (pe_listRg rfl rfl M.list (prg_1 rfl M.range (pv 1))))) pss_nil)
      (pss_cons (ps_if (pt_cmpR op_eq (pv 2) pe_int (nomark _)) (pss_one (ps_ret (pe_callB cr_sorted (by rfl) M.sorted (by decide +kernel) (pa_cons (pe_lc (own := [("place", 8)]) (g := gName 8) (tt := tYes) rfl scAction.nd (pi_range1 rfl M.range (pa_cons (pv 1) pa_nil)) (blkOk_by (N := nAction) (sc := defScope sAction) (by decide +kernel)) (fun _ _ _ _ _ => pg_name (i := 8) scAction.nd rfl (Or.inl rfl)) (fun _ _ _ _ _ => pts_nil) (fun _ _ _ _ _ => (pe_call GR hr1 rfl D.mR D.R.kp D.bR .nil pass0 (pa_cons (pv 0) (pa_cons (pv 1) pa_nil))))) pa_nil)))) pss_nil)
      (pss_cons (ps_set (i := 5) scAction.nd rfl (Or.inl rfl) (pe_ifExp (pt_cmpR op_eq (pv 2) pe_int (nomark _)) (pe_lc (own := [("place", 8)]) (g := gName 8) (tt := tYes) rfl scAction.nd (pi_range1 rfl M.range (pa_cons (pv 1) pa_nil)) (blkOk_by (N := nAction) (sc := defScope sAction) (by decide +kernel)) (fun _ _ _ _ _ => pg_name (i := 8) scAction.nd rfl (Or.inl rfl)) (fun _ _ _ _ _ => pts_nil) (fun _ _ _ _ _ => (pe_call GR hr1 rfl D.mR D.R.kp D.bR .nil pass0 (pa_cons (pv 0) (pa_cons (pv 1) pa_nil))))) (pe_listRg rfl rfl M.list (prg_1 rfl M.range (pv 1)))))
      (pss_cons (ps_if (pt_cmpR op_eq (pv 2) pe_int (nomark _)) (pss_cons (ps_par (i := 6) (j := 7) (by rfl) scAction.nd rfl rfl (by decide) rfl rfl (pa_cons (pe_call GR hr1 rfl D.mR D.R.kp D.bR .nil pass0 (pa_cons (pv 0) (pa_cons (pv 1) pa_nil))) (pa_cons (pe_call GR hr1 rfl D.mR D.R.kp D.bR .nil pass0 (pa_cons (pv 0) (pa_cons (pv 1) pa_nil))) pa_nil)) (by rfl))
        (pss_one (ps_asg (pe_tup (pa_cons (pv 7) (pa_cons (pv 6) pa_nil))) (pg_tup rfl (pgs_cons (pg_sub (pv 5) (pv 6) set_list) (pgs_cons (pg_sub (pv 5) (pv 7) set_list) pgs_nil)))))) pss_nil)
      (pss_one (ps_ret (pv 5)))))))))), ?_⟩
    have h10' : (n : Int) ≤ 10 := by omega
    have RGOK : RgOk 0 (n : Int) := RgOk.of_le (by decide) (by omega) (by decide) (by omega)
    have ZH := Z
    have SH := Still.refl d H
    refine ⟨_, rfl, rfl, _, rfl, ?_⟩
    refine ite2 (fun _ => ?_) (fun _ => ?_)
    · refine ⟨_, rfl, (n : Int), rfl, by omega, by omega, fun C nC => ?_⟩
      have Cd : C ≠ d := ZH.not nC
      have HC : H C = none := SH.free ZH nC
      refine lc_range (lo := 0) (n := (n : Int).toNat) (fun j H9 => ∃ xs : List Nat, H9 C = some (.lst (nts xs)) ∧ xs.length = j ∧ (∀ x ∈ xs, x < n) ∧ Dz H9 d ∧ Still d H H9) ⟨[], upd_same, rfl, (fun z hz => by cases hz), ZH.new nC, SH.new nC⟩ ?_ ?_
      · rintro j H9 hj ⟨xs, h1, h2, h3, h4, h5⟩
        refine ⟨rfl, tYes_if ?_⟩
        have hj : j < n := by omega
        have fin : ∀ (x : Nat) (H4 : Hp), x < n → Dz H4 d → Still d H9 H4 → ∃ acc, H4 C = some (.lst acc) ∧ acc.length < sizeLine ∧ ∃ ys : List Nat, upd H4 C (.lst (acc ++ [.int x])) C = some (.lst (nts ys)) ∧ ys.length = j + 1 ∧ (∀ y ∈ ys, y < n) ∧ Dz (upd H4 C (.lst (acc ++ [.int x]))) d ∧ Still d H (upd H4 C (.lst (acc ++ [.int x]))) := fun x H4 hx z4 s4 => by
          refine ⟨_, s4 _ _ Cd h1, ?_, xs ++ [x], ?_, ?_, fun y hy => ?_, z4.ne Cd, (h5.trans s4).at_new HC⟩
          · rw [nts_length, h2]
            exact Nat.lt_trans hj (Nat.lt_of_le_of_lt h10 (by decide))
          · rw [upd_same, nts_append]
          · rw [List.length_append, h2]
            rfl
          · rcases List.mem_append.mp hy with q | q
            · exact h3 y q
            · rw [List.mem_singleton.mp q]
              exact hx
        refine ⟨_, rfl, _, rfl, _, rfl, _, rfl, _, _, rfl, rfl, d, n - j, ?_, h4, by omega, by omega, fun x H4 xn z4 s4 => ?_⟩
        · have e : ((n - j : Nat) : Int) = (n : Int) - (0 + (j : Int)) := by omega
          show [V.ref d, V.int ((n : Int) - (0 + (j : Int)))] = _
          rw [← e]
        · refine ⟨_, _, rfl, rfl, ?_⟩
          have q := fin (j + x) H4 (by omega) z4 s4
          have e : ((j + x : Nat) : Int) = (0 + (j : Int)) + (x : Int) := by omega
          rw [e] at q
          exact q
      · rintro H9 ⟨xs, h1, h2, h3, h4, h5⟩
        have h2 : xs.length = n := by rw [h2]; omega
        exact k xs C H9 h2 h3 HC h1 h4 h5
    · refine ⟨_, rfl, rfl, _, rfl, ?_⟩
      refine ite2 (fun _ => ?_) (fun _ => ?_)
      · refine ⟨_, rfl, _, rfl, d, n, rfl, Z, hn, by omega, fun y H1 yn ZH SH => ?_⟩
        refine ⟨_, rfl, (n : Int), rfl, by omega, by omega, fun C nC => ?_⟩
        have Cd : C ≠ d := ZH.not nC
        have HC : H C = none := SH.free ZH nC
        refine lc_range (lo := 0) (n := (n : Int).toNat) (fun j H9 => ∃ xs : List Nat, H9 C = some (.lst (nts xs)) ∧ xs.length = j ∧ (∀ x ∈ xs, x < n) ∧ Dz H9 d ∧ Still d H H9) ⟨[], upd_same, rfl, (fun z hz => by cases hz), ZH.new nC, SH.new nC⟩ ?_ ?_
        · rintro j H9 hj ⟨xs, h1, h2, h3, h4, h5⟩
          refine ⟨rfl, tYes_if ?_⟩
          have hj : j < n := by omega
          have fin : ∀ (x : Nat) (H4 : Hp), x < n → Dz H4 d → Still d H9 H4 → ∃ acc, H4 C = some (.lst acc) ∧ acc.length < sizeLine ∧ ∃ ys : List Nat, upd H4 C (.lst (acc ++ [.int x])) C = some (.lst (nts ys)) ∧ ys.length = j + 1 ∧ (∀ y ∈ ys, y < n) ∧ Dz (upd H4 C (.lst (acc ++ [.int x]))) d ∧ Still d H (upd H4 C (.lst (acc ++ [.int x]))) := fun x H4 hx z4 s4 => by
            refine ⟨_, s4 _ _ Cd h1, ?_, xs ++ [x], ?_, ?_, fun y hy => ?_, z4.ne Cd, (h5.trans s4).at_new HC⟩
            · rw [nts_length, h2]
              exact Nat.lt_trans hj (Nat.lt_of_le_of_lt h10 (by decide))
            · rw [upd_same, nts_append]
            · rw [List.length_append, h2]
              rfl
            · rcases List.mem_append.mp hy with q | q
              · exact h3 y q
              · rw [List.mem_singleton.mp q]
                exact hx
          exact ⟨_, rfl, fin y _ yn h4 (Still.refl _ _)⟩
        · rintro H9 ⟨xs, h1, h2, h3, h4, h5⟩
          have h2 : xs.length = n := by rw [h2]; omega
          exact k xs C H9 h2 h3 HC h1 h4 h5
      · refine ⟨_, rfl, rfl, _, rfl, ?_⟩
        refine ite2 (fun _ => ?_) (fun _ => ?_)
        · refine ⟨_, rfl, _, rfl, d, n, rfl, Z, hn, by omega, fun y H1 yn ZH SH => ?_⟩
          refine ⟨_, rfl, (n : Int), rfl, by omega, by omega, fun C nC => ?_⟩
          have Cd : C ≠ d := ZH.not nC
          have HC : H C = none := SH.free ZH nC
          refine lc_range (lo := 0) (n := (n : Int).toNat) (fun j H9 => ∃ xs : List Nat, H9 C = some (.lst (nts xs)) ∧ xs.length = j ∧ (∀ x ∈ xs, x < n) ∧ Dz H9 d ∧ Still d H H9) ⟨[], upd_same, rfl, (fun z hz => by cases hz), ZH.new nC, SH.new nC⟩ ?_ ?_
          · rintro j H9 hj ⟨xs, h1, h2, h3, h4, h5⟩
            refine ⟨rfl, tYes_if ?_⟩
            have hj : j < n := by omega
            have fin : ∀ (x : Nat) (H4 : Hp), x < n → Dz H4 d → Still d H9 H4 → ∃ acc, H4 C = some (.lst acc) ∧ acc.length < sizeLine ∧ ∃ ys : List Nat, upd H4 C (.lst (acc ++ [.int x])) C = some (.lst (nts ys)) ∧ ys.length = j + 1 ∧ (∀ y ∈ ys, y < n) ∧ Dz (upd H4 C (.lst (acc ++ [.int x]))) d ∧ Still d H (upd H4 C (.lst (acc ++ [.int x]))) := fun x H4 hx z4 s4 => by
              refine ⟨_, s4 _ _ Cd h1, ?_, xs ++ [x], ?_, ?_, fun y hy => ?_, z4.ne Cd, (h5.trans s4).at_new HC⟩
              · rw [nts_length, h2]
                exact Nat.lt_trans hj (Nat.lt_of_le_of_lt h10 (by decide))
              · rw [upd_same, nts_append]
              · rw [List.length_append, h2]
                rfl
              · rcases List.mem_append.mp hy with q | q
                · exact h3 y q
                · rw [List.mem_singleton.mp q]
                  exact hx
            refine ⟨_, rfl, _, rfl, _, _, rfl, rfl, .inl ⟨_, rfl, _, rfl, _, _, rfl, rfl, by omega, ?_⟩⟩
            have e : (((j + y) % n : Nat) : Int) = (0 + (j : Int) + (y : Int)).fmod (n : Int) := by
              rw [Int.fmod_eq_emod_of_nonneg _ (by omega), Int.zero_add, Int.natCast_emod, Int.natCast_add]
            have q := fin _ H9 (Nat.mod_lt (j + y) hn) h4 (Still.refl _ _)
            rw [e] at q
            exact q
          · rintro H9 ⟨xs, h1, h2, h3, h4, h5⟩
            have h2 : xs.length = n := by rw [h2]; omega
            exact k xs C H9 h2 h3 HC h1 h4 h5
        · refine ⟨_, rfl, rfl, _, rfl, ?_⟩
          refine ite2 (fun _ => ?_) (fun _ => ?_)
          · refine ⟨_, rfl, (n : Int), rfl, RGOK, fun C nC => ?_⟩
            rw [rgV_nats]
            exact k (List.range n) C _ List.length_range (fun x hx => List.mem_range.mp hx) nC upd_same (Z.new nC) (SH.new nC)
          · refine ⟨_, rfl, rfl, _, rfl, ?_⟩
            refine ite2 (fun _ => ?_) (fun _ => ?_)
            · refine ⟨_, rfl, (n : Int), rfl, by omega, by omega, fun C nC => ?_⟩
              have Cd : C ≠ d := ZH.not nC
              have HC : H C = none := SH.free ZH nC
              refine lc_range (lo := 0) (n := (n : Int).toNat) (fun j H9 => ∃ xs : List Nat, H9 C = some (.lst (nts xs)) ∧ xs.length = j ∧ (∀ x ∈ xs, x < n) ∧ Dz H9 d ∧ Still d H H9) ⟨[], upd_same, rfl, (fun z hz => by cases hz), ZH.new nC, SH.new nC⟩ ?_ ?_
              · rintro j H9 hj ⟨xs, h1, h2, h3, h4, h5⟩
                refine ⟨rfl, tYes_if ?_⟩
                have hj : j < n := by omega
                have fin : ∀ (x : Nat) (H4 : Hp), x < n → Dz H4 d → Still d H9 H4 → ∃ acc, H4 C = some (.lst acc) ∧ acc.length < sizeLine ∧ ∃ ys : List Nat, upd H4 C (.lst (acc ++ [.int x])) C = some (.lst (nts ys)) ∧ ys.length = j + 1 ∧ (∀ y ∈ ys, y < n) ∧ Dz (upd H4 C (.lst (acc ++ [.int x]))) d ∧ Still d H (upd H4 C (.lst (acc ++ [.int x]))) := fun x H4 hx z4 s4 => by
                  refine ⟨_, s4 _ _ Cd h1, ?_, xs ++ [x], ?_, ?_, fun y hy => ?_, z4.ne Cd, (h5.trans s4).at_new HC⟩
                  · rw [nts_length, h2]
                    exact Nat.lt_trans hj (Nat.lt_of_le_of_lt h10 (by decide))
                  · rw [upd_same, nts_append]
                  · rw [List.length_append, h2]
                    rfl
                  · rcases List.mem_append.mp hy with q | q
                    · exact h3 y q
                    · rw [List.mem_singleton.mp q]
                      exact hx
                refine ⟨_, rfl, _, rfl, d, n, rfl, h4, hn, by omega, fun x H4 xn z4 s4 => ?_⟩
                exact fin x _ xn z4 s4
              · rintro H9 ⟨xs, h1, h2, h3, h4, h5⟩
                have h2 : xs.length = n := by rw [h2]; omega
                refine ⟨C, xs.map Int.ofNat, rfl, SqL.of (by rw [h1]; exact nts_eq xs), by rw [List.length_map]; omega, fun ys p perm _ np => ?_⟩
                obtain ⟨zs, e, pz⟩ := nats_perm perm
                subst e
                rw [← nts_eq']
                exact k zs p _ (by rw [pz.length_eq, h2]) (fun x hx => h3 x (pz.subset hx)) (h5.free h4 np) upd_same (h4.new np) (h5.new np)
            · refine ⟨_, rfl, rfl, _, rfl, ?_⟩
              refine ite2 (fun _ => ?_) (fun _ => ?_)
              · refine ⟨_, rfl, (n : Int), rfl, by omega, by omega, fun C nC => ?_⟩
                have Cd : C ≠ d := ZH.not nC
                have HC : H C = none := SH.free ZH nC
                refine lc_range (lo := 0) (n := (n : Int).toNat) (fun j H9 => ∃ xs : List Nat, H9 C = some (.lst (nts xs)) ∧ xs.length = j ∧ (∀ x ∈ xs, x < n) ∧ Dz H9 d ∧ Still d H H9) ⟨[], upd_same, rfl, (fun z hz => by cases hz), ZH.new nC, SH.new nC⟩ ?_ ?_
                · rintro j H9 hj ⟨xs, h1, h2, h3, h4, h5⟩
                  refine ⟨rfl, tYes_if ?_⟩
                  have hj : j < n := by omega
                  have fin : ∀ (x : Nat) (H4 : Hp), x < n → Dz H4 d → Still d H9 H4 → ∃ acc, H4 C = some (.lst acc) ∧ acc.length < sizeLine ∧ ∃ ys : List Nat, upd H4 C (.lst (acc ++ [.int x])) C = some (.lst (nts ys)) ∧ ys.length = j + 1 ∧ (∀ y ∈ ys, y < n) ∧ Dz (upd H4 C (.lst (acc ++ [.int x]))) d ∧ Still d H (upd H4 C (.lst (acc ++ [.int x]))) := fun x H4 hx z4 s4 => by
                    refine ⟨_, s4 _ _ Cd h1, ?_, xs ++ [x], ?_, ?_, fun y hy => ?_, z4.ne Cd, (h5.trans s4).at_new HC⟩
                    · rw [nts_length, h2]
                      exact Nat.lt_trans hj (Nat.lt_of_le_of_lt h10 (by decide))
                    · rw [upd_same, nts_append]
                    · rw [List.length_append, h2]
                      rfl
                    · rcases List.mem_append.mp hy with q | q
                      · exact h3 y q
                      · rw [List.mem_singleton.mp q]
                        exact hx
                  refine ⟨_, rfl, _, rfl, d, n, rfl, h4, hn, by omega, fun x H4 xn z4 s4 => ?_⟩
                  exact fin x _ xn z4 s4
                · rintro H9 ⟨xs, h1, h2, h3, h4, h5⟩
                  have h2 : xs.length = n := by rw [h2]; omega
                  refine ⟨_, rfl, rfl, _, rfl, ?_⟩
                  refine ite2 (fun h6 => ?_) (fun h6 => ?_)
                  · refine ⟨_, rfl, _, rfl, d, n, rfl, h4, hn, by omega, fun x H2 xn z2 s2 => ?_⟩
                    refine ⟨_, rfl, _, rfl, d, n, rfl, z2, hn, by omega, fun y H3 yn z3 s3 => ?_⟩
                    refine ⟨_, _, rfl, ?_⟩
                    have s93 := s2.trans s3
                    have h1 := s93 _ _ Cd h1
                    have h5 := h5.trans s93
                    refine ⟨_, rfl, _, rfl, (by show 2 ≤ sizeLine; decide), fun t nt => ⟨t, _, rfl, SqT.of upd_same, rfl, ?_⟩⟩
                    have lx : (nts xs).length = n := by rw [nts_length, h2]
                    refine ⟨_, _, rfl, _, rfl, _, rfl, C, nts xs, x, x, rfl, rfl, keep_new h1 nt, (by rw [lx]; exact ixNat xn), ?_⟩
                    refine ⟨_, _, rfl, _, rfl, _, rfl, C, _, y, y, rfl, rfl, upd_same, (by rw [List.length_set, lx]; exact ixNat yn), rfl, ?_⟩
                    have es : ((nts xs).set x (.int y)).set y (.int x) = nts ((xs.set x y).set y x) := by
                      unfold nts
                      rw [List.map_set, List.map_set]
                    rw [es]
                    refine ⟨_, rfl, k ((xs.set x y).set y x) C _ (by rw [List.length_set, List.length_set, h2]) (fun z hz => ?_) HC upd_same (((z3.new nt).ne Cd).ne Cd) (((h5.new nt).at_new HC).at_new HC)⟩
                    rcases List.mem_or_eq_of_mem_set hz with q | q
                    · rcases List.mem_or_eq_of_mem_set q with q | q
                      · exact h3 z q
                      · rw [q]
                        exact yn
                    · rw [q]
                      exact xn
                  · exact ⟨_, rfl, k xs C H9 h2 h3 HC h1 h4 h5⟩
              · refine ⟨_, rfl, (n : Int), rfl, RGOK, fun C nC => ?_⟩
                rw [rgV_nats]
                have h1 : (upd H C (.lst (nts (List.range n)))) C = some (.lst (nts (List.range n))) := upd_same
                have h2 : (List.range n).length = n := List.length_range
                have h3 : ∀ x ∈ List.range n, x < n := fun x hx => List.mem_range.mp hx
                have h4 := Z.new nC (u := .lst (nts (List.range n)))
                have h5 := SH.new nC (u := .lst (nts (List.range n)))
                have HC := nC
                have Cd : C ≠ d := Z.not nC
                generalize upd H C (.lst (nts (List.range n))) = H9 at h1 h4 h5 ⊢
                generalize List.range n = xs at h1 h2 h3 ⊢
                refine ⟨_, rfl, rfl, _, rfl, ?_⟩
                refine ite2 (fun h6 => ?_) (fun h6 => ?_)
                · refine ⟨_, rfl, _, rfl, d, n, rfl, h4, hn, by omega, fun x H2 xn z2 s2 => ?_⟩
                  refine ⟨_, rfl, _, rfl, d, n, rfl, z2, hn, by omega, fun y H3 yn z3 s3 => ?_⟩
                  refine ⟨_, _, rfl, ?_⟩
                  have s93 := s2.trans s3
                  have h1 := s93 _ _ Cd h1
                  have h5 := h5.trans s93
                  refine ⟨_, rfl, _, rfl, (by show 2 ≤ sizeLine; decide), fun t nt => ⟨t, _, rfl, SqT.of upd_same, rfl, ?_⟩⟩
                  have lx : (nts xs).length = n := by rw [nts_length, h2]
                  refine ⟨_, _, rfl, _, rfl, _, rfl, C, nts xs, x, x, rfl, rfl, keep_new h1 nt, (by rw [lx]; exact ixNat xn), ?_⟩
                  refine ⟨_, _, rfl, _, rfl, _, rfl, C, _, y, y, rfl, rfl, upd_same, (by rw [List.length_set, lx]; exact ixNat yn), rfl, ?_⟩
                  have es : ((nts xs).set x (.int y)).set y (.int x) = nts ((xs.set x y).set y x) := by
                    unfold nts
                    rw [List.map_set, List.map_set]
                  rw [es]
                  refine ⟨_, rfl, k ((xs.set x y).set y x) C _ (by rw [List.length_set, List.length_set, h2]) (fun z hz => ?_) HC upd_same (((z3.new nt).ne Cd).ne Cd) (((h5.new nt).at_new HC).at_new HC)⟩
                  rcases List.mem_or_eq_of_mem_set hz with q | q
                  · rcases List.mem_or_eq_of_mem_set q with q | q
                    · exact h3 z q
                    · rw [q]
                      exact yn
                  · rw [q]
                    exact xn
                · exact ⟨_, rfl, k xs C H9 h2 h3 HC h1 h4 h5⟩
end
end M3

set_option Elab.async false
set_option linter.all false
set_option maxRecDepth 100000
set_option maxHeartbeats 8000000
/-! # Drawn tables -/
namespace M3
open PySem L2
abbrev sTable : Stmt := top 69
abbrev nTable : List Str := ["dice", "letters", "size", "sorts", "rows", "letter", "row", "place"]
theorem scTable : FnScope nTable ["dice", "letters", "size", "sorts"] (defScope sTable) := ⟨rfl, rfl, rfl, by decide +kernel, rfl, by decide +kernel, by decide +kernel⟩
/-- lists of numbers, one for each; none of them stands at d or C -/
def RowsL (d C : Addr) (H : Hp) (vs : List V) (rs : List (List Nat)) : Prop := vs.length = rs.length ∧ ∀ (i : Nat) (r : List Nat), rs[i]? = some r → ∃ a : Addr, vs[i]? = some (V.ref a) ∧ a ≠ d ∧ a ≠ C ∧ H a = some (HO.lst (nts r))
/-- tuples of numbers, one for each -/
def RowsT (d C : Addr) (H : Hp) (vs : List V) (rs : List (List Nat)) : Prop := vs.length = rs.length ∧ ∀ (i : Nat) (r : List Nat), rs[i]? = some r → ∃ a : Addr, vs[i]? = some (V.ref a) ∧ a ≠ d ∧ a ≠ C ∧ H a = some (.tup (nts r))
theorem RowsL.to {d C : Addr} {H H' : Hp} {vs : List V} {rs : List (List Nat)} (R : RowsL d C H vs rs) (k : ∀ b o, b ≠ d → b ≠ C → H b = some o → H' b = some o) : RowsL d C H' vs rs :=
  ⟨R.1, fun i r h => by
    obtain ⟨a, h1, h2, h3, h4⟩ := R.2 i r h
    exact ⟨a, h1, h2, h3, k _ _ h2 h3 h4⟩⟩
theorem RowsT.to {d C : Addr} {H H' : Hp} {vs : List V} {rs : List (List Nat)} (R : RowsT d C H vs rs) (k : ∀ b o, b ≠ d → b ≠ C → H b = some o → H' b = some o) : RowsT d C H' vs rs :=
  ⟨R.1, fun i r h => by
    obtain ⟨a, h1, h2, h3, h4⟩ := R.2 i r h
    exact ⟨a, h1, h2, h3, k _ _ h2 h3 h4⟩⟩
theorem snoc_at {α : Type} {xs : List α} {x y : α} {i : Nat} (h : (xs ++ [x])[i]? = some y) : xs[i]? = some y ∨ (i = xs.length ∧ y = x) := by
  by_cases hi : i < xs.length
  · rw [List.getElem?_append_left hi] at h
    exact .inl h
  · rw [List.getElem?_append_right (by omega)] at h
    by_cases e : i - xs.length = 0
    · rw [e] at h
      exact .inr ⟨by omega, (Option.some.inj h).symm⟩
    · have : 1 ≤ i - xs.length := by omega
      rw [List.getElem?_eq_none (by simpa using this)] at h
      cases h
theorem RowsL.snoc {d C a : Addr} {H : Hp} {vs : List V} {rs : List (List Nat)} {r : List Nat} (R : RowsL d C H vs rs) (hd : a ≠ d) (hC : a ≠ C) (h : H a = some (.lst (nts r))) : RowsL d C H (vs ++ [.ref a]) (rs ++ [r]) := by
  refine ⟨by rw [List.length_append, List.length_append, R.1]; rfl, fun i r' hr => ?_⟩
  rcases snoc_at hr with q | ⟨e, q⟩
  · obtain ⟨b, h1, h2⟩ := R.2 i r' q
    exact ⟨b, by rw [List.getElem?_append_left (List.getElem?_eq_some_iff.mp h1).1]; exact h1, h2⟩
  · subst q
    refine ⟨a, ?_, hd, hC, h⟩
    rw [e, ← R.1, List.getElem?_append_right (Nat.le_refl _), Nat.sub_self]
    rfl
theorem RowsT.snoc {d C a : Addr} {H : Hp} {vs : List V} {rs : List (List Nat)} {r : List Nat} (R : RowsT d C H vs rs) (hd : a ≠ d) (hC : a ≠ C) (h : H a = some (.tup (nts r))) : RowsT d C H (vs ++ [.ref a]) (rs ++ [r]) := by
  refine ⟨by rw [List.length_append, List.length_append, R.1]; rfl, fun i r' hr => ?_⟩
  rcases snoc_at hr with q | ⟨e, q⟩
  · obtain ⟨b, h1, h2⟩ := R.2 i r' q
    exact ⟨b, by rw [List.getElem?_append_left (List.getElem?_eq_some_iff.mp h1).1]; exact h1, h2⟩
  · subst q
    refine ⟨a, ?_, hd, hC, h⟩
    rw [e, ← R.1, List.getElem?_append_right (Nat.le_refl _), Nat.sub_self]
    rfl
/-- a table of so many states, so many letters -/
def IsTab (t : List (List Nat)) (n m : Nat) : Prop := t.length = n ∧ ∀ r ∈ t, r.length = m ∧ ∀ z ∈ r, z < n
theorem sq_still {K : PySem.W.Frag} {d a : Addr} {H H' : Hp} {xs : List V} (s : Still d H H') (n : a ≠ d) (h : SqL K H a xs) : SqL K H' a xs := by
  rcases h with (h | ⟨o, h⟩) | h
  · exact .inl (.inl (s _ _ n h))
  · exact .inl (.inr ⟨o, s _ _ n h⟩)
  · exact .inr h
def rTupOf (K : PySem.W.Frag) : List V → Hp → VK → Prop := fun xs H Q => ∃ p ys, xs = [V.ref p] ∧ ((SqL K H p ys ∧ ∀ l, H l = none → Q (.ref l) (upd H l (.tup ys))) ∨ (SqT K H p ys ∧ Q (.ref p) H))
/-- tuple([row[place] for row in rows]) -/
def tPick (K : PySem.W.Frag) : TE := tCB (rTupOf K) (tCons (tLc (iList K (tVar 4)) (gName 6) tYes (tOp (rIxL K) (tVar 6) (tVar 7)) [6]) tNil)
def col (rs : List (List Nat)) (s : Nat) : List Nat := rs.map fun r => r.getD s 0
theorem nts_at {r : List Nat} {j : Nat} (h : j < r.length) : atI (nts r) (j : Int) = some (.int (r.getD j 0)) := by
  refine atI_nat ?_
  unfold nts
  rw [List.getElem?_map, List.getElem?_eq_getElem h]
  simp [List.getD, List.getElem?_eq_getElem h]
theorem take_snoc {α : Type} {l : List α} {i : Nat} {x : α} (h : l[i]? = some x) : l.take (i + 1) = l.take i ++ [x] := by
  rw [List.take_succ, h]
  rfl
def spTable (K : PySem.W.Frag) : Sp := fun vs H Q _ => ∃ (d a : Addr) (x : Str) (n : Nat) (ss : List Int), vs = [.ref d, .str x, .int n, .ref a] ∧ Dz H d ∧ 0 < n ∧ n ≤ 10 ∧ x.length ≤ 10 ∧ SqL K H a (ss.map V.int) ∧ a ≠ d ∧ 0 < ss.length ∧ ss.length < 1000 ∧
  ∀ (t : List (List Nat)) (us : List V) (p : Addr) (H' : Hp), IsTab t n x.length → H p = none → p ≠ d → H' p = some (.lst us) → RowsT d p H' us t → Dz H' d → Still d H H' → Q (.ref p) H'
section
variable {P : Program} {w : World} {K : PySem.W.Frag} {mg : Str → Option Value} {base : Heap}
theorem ok_one {f : Addr} {fd : FuncData} (D : DefsD K mg) (T : TxI mg) : FnOk P w K mg base CX0 2 D.fO D.dO ["dice", "items"] (spOneOf K) := ok_oneof D.O D.R D.bR D.mR T
theorem ok_table {f g : Addr} {fd gd : FuncData} (F : Fun K "_law_table" "_law_table" sTable f fd) (FA : Fun K "_law_action" "_law_action" sAction g gd) (bA : Binds K gd ["dice", "size", "sort"] []) (mA : mg "_law_action" = some (.ref g)) (D : DefsD K mg) (T : TxI mg) (M : TxM mg) :
    FnOk P w K mg base CX0 3 f fd ["dice", "letters", "size", "sorts"] (spTable K) := by
  have GO : FnOk P w K mg base CX0 2 D.fO D.dO ["dice", "items"] (spOneOf K) := ok_oneof D.O D.R D.bR D.mR T
  have GA : FnOk P w K mg base CX0 2 g gd ["dice", "size", "sort"] spAction := ok_action FA D T M
  refine F.ok scTable (fun vs H Q E h => ?_) (fun cdv A outer s H vs Q E hr h => ?_)
  · obtain ⟨d, a, x, n, ss, rfl, _⟩ := h
    rfl
  · obtain ⟨d, a, x, n, ss, rfl, Z, hn, h10, hx, ha, ad, s0, s1, k⟩ := h
    have hr2 : Room 2 _ := hr.mono (by decide)
    refine ⟨_, pss_cons (ps_set (i := 4) scTable.nd rfl (Or.inr rfl) (pe_lc (own := [("letter", 5)]) (g := gName 5) (tt := tYes) rfl scTable.nd (pi_str (pv 1)) (blkOk_by (N := nTable) (sc := defScope sTable) (by decide +kernel)) (fun _ _ _ _ _ => pg_name (i := 5) scTable.nd rfl (Or.inl rfl)) (fun _ _ _ _ _ => pts_nil)
        (fun _ _ _ _ _ => pe_call GA hr2 rfl mA FA.kp bA .nil pass0 (pa_cons (pv 0) (pa_cons (pv 2) (pa_cons (pe_call GO hr2 rfl D.mO D.O.kp D.bO .nil pass0 (pa_cons (pv 0) (pa_cons (pv 3) pa_nil))) pa_nil))))))
      (pss_one (ps_ret (pe_lc (own := [("place", 7)]) (g := gName 7) (tt := tYes) (te := tPick K) rfl scTable.nd (pi_range1 rfl M.range (pa_cons (pv 2) pa_nil)) (blkOk_by (N := nTable) (sc := defScope sTable) (by decide +kernel)) (fun _ _ _ _ _ => pg_name (i := 7) scTable.nd rfl (Or.inr rfl)) (fun _ _ _ _ _ => pts_nil)
        (fun _ _ _ _ _ => pe_callTy call_tuple_of (by rfl) M.tuple (by decide +kernel : bootBuiltins "tuple" = some (.type "tuple")) (pa_cons (pe_lc (own := [("row", 6)]) (wi := iList K (tVar 4)) (g := gName 6) (tt := tYes) (te := tOp (rIxL K) (tVar 6) (tVar 7)) rfl scTable.nd (pi_list (pv 4)) (by exact blkOk_by (N := nTable) (sc := ⟨.function, [(".0", .local), ("place", .cell), ("tuple", .globalImplicit), ("rows", .cell)], false, false, []⟩) (scope := ⟨.function, [(".0", .local), ("row", .local), ("place", .free)], false, false, []⟩) (own := [("row", 6)]) (by decide +kernel)) (fun _ _ _ _ _ => pg_name (i := 6) scTable.nd rfl (Or.inl rfl)) (fun _ _ _ _ _ => pts_nil)
          (fun _ _ _ _ _ => pe_ix ix_list (pv 6) (pv 7) (fun _ _ => rfl))) pa_nil))))), ?_⟩
    refine ⟨_, rfl, x, rfl, fun C nC => ?_⟩
    have Cd : C ≠ d := Z.not nC
    refine lc_it walk_str (fun j H9 => ∃ (vs : List V) (rs : List (List Nat)), H9 C = some (.lst vs) ∧ rs.length = j ∧ RowsL d C H9 vs rs ∧ (∀ r ∈ rs, r.length = n ∧ ∀ z ∈ r, z < n) ∧ Dz H9 d ∧ Still d H H9)
      ⟨[], [], upd_same, rfl, ⟨rfl, fun i r h => by cases h⟩, (fun z hz => by cases hz), Z.new nC, (Still.refl d H).new nC⟩ (fun _ _ _ _ => trivial) ?_ ?_
    · rintro i y H9 H9' hi ⟨vs, rs, h1, h2, h3, h4, h5, h6⟩ ⟨rfl, c, hc, rfl⟩
      refine ⟨rfl, tYes_if ?_⟩
      refine ⟨_, rfl, _, rfl, _, rfl, _, rfl, d, a, _, rfl, h5, sq_still h6 ad ha, ad, by rw [List.length_map]; exact s0, by rw [List.length_map]; omega, fun v H2 hv T2 => ?_⟩
      obtain ⟨q, _, rfl⟩ := List.mem_map.mp hv
      have S2 : Still d H9' H2 := (Still.refl d H9').turn T2
      refine ⟨d, n, q, rfl, T2.dz, hn, h10, fun xs p H3 hl hlt np hp z3 s3 => ?_⟩
      have S3 : Still d H9' H3 := S2.trans s3
      have pC : p ≠ C := fun e => by
        rw [e, S2 _ _ Cd h1] at np
        cases np
      have pd : p ≠ d := T2.dz.not np
      have hi10 : i < 10 := Nat.lt_of_lt_of_le hi hx
      have R3 : RowsL d C H3 (vs ++ [.ref p]) (rs ++ [xs]) := (h3.to fun b o h1 _ h => S3 b o h1 h).snoc pd pC hp
      refine ⟨vs, S3 _ _ Cd h1, ?_, vs ++ [.ref p], rs ++ [xs], upd_same, by rw [List.length_append, h2]; rfl, R3.to fun b o _ h2 h => by rw [upd_ne h2]; exact h, fun r hr => ?_, z3.ne Cd, (h6.trans S3).at_new nC⟩
      · rw [h3.1, h2]
        exact Nat.lt_trans hi10 (by decide)
      · rcases List.mem_append.mp hr with e | e
        · exact h4 r e
        · rw [List.mem_singleton.mp e]
          exact ⟨hl, hlt⟩
    · rintro H8 ⟨vs, rs, h1, h2, h3, h4, h5, h6⟩
      refine ⟨_, rfl, n, rfl, by omega, by omega, fun G nG => ?_⟩
      have Gd : G ≠ d := h5.not nG
      have HG : H G = none := h6.free h5 nG
      have hv10 : vs.length ≤ 10 := by
        rw [h3.1, h2]
        exact hx
      refine lc_range (lo := 0) (n := (n : Int).toNat) (fun j H9 => ∃ us : List V, H9 G = some (.lst us) ∧ RowsT d G H9 us ((List.range j).map (col rs)) ∧ ∀ b o, b ≠ G → H8 b = some o → H9 b = some o)
        ⟨[], upd_same, ⟨rfl, fun i r h => by cases h⟩, fun b o hb h => keep_new h nG⟩ ?_ ?_
      · rintro j H9 hj ⟨us, u1, u2, u3⟩
        have hj : j < n := by omega
        refine ⟨rfl, tYes_if ?_⟩
        have nG8 : ∀ {b : Addr} {o : HO}, H8 b = some o → b ≠ G := fun h z => by
          subst z
          rw [nG] at h
          cases h
        refine ⟨_, rfl, C, rfl, ⟨_, SqL.of (u3 _ _ (nG8 h1) h1)⟩, fun S nS => ?_⟩
        have S8 : ∀ {b : Addr} {o : HO}, H9 b = some o → b ≠ S := fun h z => by
          subst z
          rw [nS] at h
          cases h
        refine lc_list (K := K) (a := C) (xs := vs) (fun i H10 => H10 S = some (.lst (nts (col (rs.take i) j))) ∧ ∀ b o, b ≠ S → H9 b = some o → H10 b = some o)
          ⟨upd_same, fun b o hb h => keep_new h nS⟩ (fun i H10 _ ⟨_, z⟩ => SqL.of (z _ _ (S8 (u3 _ _ (nG8 h1) h1)) (u3 _ _ (nG8 h1) h1))) ?_ ?_
        · rintro i v H10 hv ⟨w1, w2⟩
          have hi : i < rs.length := by
            rw [← h3.1]
            exact (List.getElem?_eq_some_iff.mp hv).1
          obtain ⟨b, b1, b2, b3, b4⟩ := h3.2 i rs[i] (List.getElem?_eq_getElem hi)
          have ev : v = .ref b := Option.some.inj (hv.symm.trans b1)
          subst ev
          refine ⟨rfl, tYes_if ?_⟩
          have b5 := u3 _ _ (nG8 b4) b4
          have b6 := w2 _ _ (S8 b5) b5
          obtain ⟨ln, _⟩ := h4 rs[i] (List.getElem_mem hi)
          have ej : (0 : Int) + (j : Int) = (j : Int) := Int.zero_add _
          refine ⟨_, rfl, _, rfl, b, nts rs[i], 0 + (j : Int), .int ((rs[i].getD j 0 : Nat) : Int), rfl, rfl, SqL.of b6, by rw [ej]; exact nts_at (by omega), ?_⟩
          refine ⟨_, w1, ?_, ?_, fun b' o hb' h' => by rw [upd_ne hb']; exact w2 b' o hb' h'⟩
          · rw [nts_length]
            unfold col
            rw [List.length_map, List.length_take]
            exact Nat.lt_of_le_of_lt (Nat.le_trans (Nat.min_le_right _ _) (show rs.length ≤ 10 by rw [← h3.1]; exact hv10)) (by decide)
          · rw [upd_same, nts_append]
            unfold col
            rw [take_snoc (List.getElem?_eq_getElem hi), List.map_append]
            rfl
        · rintro H10 ⟨w1, w2⟩
          have et : rs.take vs.length = rs := by
            rw [h3.1]
            exact List.take_length
          rw [et] at w1
          refine ⟨S, _, rfl, .inl ⟨SqL.of w1, fun l nl => ?_⟩⟩
          have k10 : ∀ b o, H9 b = some o → H10 b = some o := fun b o h => w2 b o (S8 h) h
          have lG : l ≠ G := fun z => by
            rw [z, k10 _ _ u1] at nl
            cases nl
          obtain ⟨dl, dm, dc, dd, _⟩ := id h5
          have ld : l ≠ d := fun z => by
            rw [z, k10 _ _ (u3 _ _ Gd.symm dd)] at nl
            cases nl
          refine ⟨us, keep_new (k10 _ _ u1) nl, ?_, us ++ [.ref l], upd_same, ?_, fun b o hb h => ?_⟩
          · rw [u2.1, List.length_map, List.length_range]
            exact Nat.lt_of_lt_of_le (Nat.lt_of_lt_of_le hj h10) (by decide)
          · rw [List.range_succ, List.map_append]
            exact ((u2.to fun b o _ _ h => keep_new (k10 _ _ h) nl).snoc ld lG upd_same).to fun b o _ h2 h => by
              rw [upd_ne h2]
              exact h
          · rw [upd_ne hb]
            exact keep_new (k10 _ _ (u3 b o hb h)) nl
      · rintro H9 ⟨us, u1, u2, u3⟩
        have en : (n : Int).toNat = n := by omega
        rw [en] at u2
        obtain ⟨dl, dm, dc, dd, d1⟩ := id h5
        refine k ((List.range n).map (col rs)) us G H9 ⟨by rw [List.length_map, List.length_range], fun r hr => ?_⟩ HG Gd u1 u2 ⟨dl, dm, dc, u3 _ _ Gd.symm dd, d1⟩ fun b o hb h => u3 b o (fun z => by
          rw [z, HG] at h
          cases h) (h6 b o hb h)
        obtain ⟨s', hs', rfl⟩ := List.mem_map.mp hr
        have hs' : s' < n := List.mem_range.mp hs'
        refine ⟨by unfold col; rw [List.length_map, h2]; rfl, fun z hz => ?_⟩
        obtain ⟨r', hr', rfl⟩ := List.mem_map.mp hz
        obtain ⟨l1, l2⟩ := h4 r' hr'
        refine l2 _ ?_
        have : s' < r'.length := by omega
        simp [List.getD, List.getElem?_eq_getElem this]
end
end M3

set_option Elab.async false
set_option linter.all false
set_option maxRecDepth 100000
set_option maxHeartbeats 8000000
/-! # Drawn machines, plain: a dict of letters, table, ends -/
namespace M3
open PySem L2
abbrev sMachine : Stmt := top 70
abbrev nMachine : List Str := ["dice", "letters", "states", "size", "table", "ends", "state"]
theorem scMachine : FnScope nMachine ["dice", "letters", "states"] (defScope sMachine) := ⟨rfl, rfl, rfl, by decide +kernel, rfl, by decide +kernel, by decide +kernel⟩
theorem RowsT.both {d C : Addr} {H : Hp} {vs : List V} {rs : List (List Nat)} (R : RowsT d C H vs rs) : RowsT d d H vs rs := ⟨R.1, fun i r h => by
  obtain ⟨a, h1, h2, _, h4⟩ := R.2 i r h
  exact ⟨a, h1, h2, h2, h4⟩⟩
/-- a machine told plainly at p: letters x, table t, ends es -/
structure Plain (d : Addr) (H : Hp) (p : Addr) (x : Str) (t : List (List Nat)) (es : List Nat) : Prop where
  ex : ∃ (a b : Addr) (us : List V), H p = some (.dK [(.inr "letters", .str x), (.inr "table", .ref a), (.inr "ends", .ref b)]) ∧ a ≠ d ∧ H a = some (.lst us) ∧ RowsT d d H us t ∧ b ≠ d ∧ H b = some (.lst (nts es))
  tab : IsTab t t.length x.length
  up : es.Pairwise (· < ·)
  lt : ∀ e ∈ es, e < t.length
theorem Plain.still {d p : Addr} {H H' : Hp} {x : Str} {t : List (List Nat)} {es : List Nat} (h : Plain d H p x t es) (z : Dz H d) (s : Still d H H') : Plain d H' p x t es := by
  obtain ⟨⟨a, b, us, h1, h2, h3, h4, h5, h6⟩, h7, h8, h9⟩ := h
  obtain ⟨dl, dm, dc, dd, _⟩ := z
  have pd : p ≠ d := fun e => by
    rw [e, dd] at h1
    cases h1
  exact ⟨⟨a, b, us, s _ _ pd h1, h2, s _ _ h2 h3, h4.to fun b o hb _ h => s b o hb h, h5, s _ _ h5 h6⟩, h7, h8, h9⟩
theorem plain_merge {x y z : V} : mergeK [] [((.inr "letters" : Key), x), (.inr "table", y), (.inr "ends", z)] = [(.inr "letters", x), (.inr "table", y), (.inr "ends", z)] := by
  rfl
def spMachine : Sp := fun vs H Q _ => ∃ (d : Addr) (x : Str) (m : Nat), vs = [.ref d, .str x, .int m] ∧ Dz H d ∧ 0 < m ∧ m ≤ 4 ∧ x.length ≤ 10 ∧
  ∀ (t : List (List Nat)) (es : List Nat) (p : Addr) (H' : Hp), Plain d H' p x t es → 0 < t.length → t.length ≤ m → H p = none → Dz H' d → Still d H H' → Q (.ref p) H'
/-- .. and it does not hang on lists that stood ahead -/
def spMachineF : Sp := fun vs H Q _ => ∃ (d : Addr) (x : Str) (m : Nat), vs = [.ref d, .str x, .int m] ∧ Dz H d ∧ 0 < m ∧ m ≤ 4 ∧ x.length ≤ 10 ∧
  ∀ (t : List (List Nat)) (es : List Nat) (p : Addr) (H' : Hp), Plain d H' p x t es → 0 < t.length → t.length ≤ m → H p = none → Dz H' d → Still d H H' → (∀ (L : Addr) (ys : List V) (o : HO), L ≠ d → H L = some (.lst ys) → Plain d (upd H' L o) p x t es) → Q (.ref p) H'
section
variable {P : Program} {w : World} {K : PySem.W.Frag} {mg : Str → Option Value} {base : Heap}
/-- the facts of the defs that draw machines -/
structure DefsM (K : PySem.W.Frag) (mg : Str → Option Value) where
  (fA fT : Addr)
  (dA dT : FuncData)
  A : Fun K "_law_action" "_law_action" sAction fA dA
  bA : Binds K dA ["dice", "size", "sort"] []
  mA : mg "_law_action" = some (.ref fA)
  T : Fun K "_law_table" "_law_table" sTable fT dT
  bT : Binds K dT ["dice", "letters", "size", "sorts"] []
  mT : mg "_law_table" = some (.ref fT)
theorem ok_machineF {f : Addr} {fd : FuncData} (F : Fun K "_law_machine" "_law_machine" sMachine f fd) (D : DefsD K mg) (G : DefsM K mg) (T : TxI mg) (M : TxM mg) :
    FnOk P w K mg base CX0 4 f fd ["dice", "letters", "states"] spMachineF := by
  have GR : FnOk P w K mg base CX0 1 D.fR D.dR ["dice", "total"] spDraw := ok_draw D.R T
  have GT : FnOk P w K mg base CX0 3 G.fT G.dT ["dice", "letters", "size", "sorts"] (spTable K) := ok_table G.T G.A G.bA G.mA D T M
  refine F.ok scMachine (fun vs H Q E h => ?_) (fun cdv A outer s H vs Q E hr h => ?_)
  · obtain ⟨d, x, m, rfl, _⟩ := h
    rfl
  · obtain ⟨d, x, m, rfl, Z, hm, hm4, hx, k⟩ := h
    have hr3 : Room 3 _ := hr.mono (by decide)
    have hr1 : Room 1 _ := hr.mono (by decide)
    refine ⟨_, pss_cons (ps_set (i := 3) scMachine.nd rfl (Or.inl rfl) (pe_op op_add pe_int (pe_call GR hr1 rfl D.mR D.R.kp D.bR .nil pass0 (pa_cons (pv 0) (pa_cons (pv 2) pa_nil)))))
      (pss_cons (ps_set (i := 4) scMachine.nd rfl (Or.inl rfl) (pe_call GT hr3 rfl G.mT G.T.kp G.bT .nil pass0 (pa_cons (pv 0) (pa_cons (pv 1) (pa_cons (pv 3) (pa_cons (pe_lst (pa_cons pe_int (pa_cons pe_int (pa_cons pe_int (pa_cons pe_int (pa_cons pe_int (pa_cons pe_int (pa_cons pe_int (pa_cons pe_int pa_nil))))))))) pa_nil))))))
      (pss_cons (ps_setLc (i := 5) (own := [("state", 6)]) (g := gName 6) (tt := tTest (tOp rEq (tCall spDraw [] E0 (tCons (tVar 0) (tCons (tC (.int 2)) tNil))) (tC (.int 0)))) rfl scMachine.nd rfl rfl (sw_true rfl rfl rfl (by decide +kernel)) (pi_range1 rfl M.range (pa_cons (pv 3) pa_nil)) (blkOk_by (N := nMachine) (sc := defScope sMachine) (by decide +kernel)) (fun _ _ _ _ _ => pg_name (i := 6) scMachine.nd rfl (Or.inl rfl))
        (fun _ _ _ _ _ => pts_one (pt_cmpR op_eq (pe_call GR hr1 rfl D.mR D.R.kp D.bR .nil pass0 (pa_cons (pv 0) (pa_cons pe_int pa_nil))) pe_int (nomark _))) (fun _ _ _ _ _ => pv 6))
      (pss_one (ps_ret (pe_disp (pps_cons pe_str (pv 1) (pps_cons pe_str (pv 4) (pps_cons pe_str (pv 5) pps_nil))) (by rfl) (by rfl) (fun z => by cases z) (by decide)))))), ?_⟩
    refine ⟨_, rfl, _, rfl, d, m, rfl, Z, hm, by omega, fun r H1 hr' Z1 S1 => ?_⟩
    refine ⟨_, _, rfl, rfl, ?_⟩
    refine ⟨_, rfl, _, rfl, _, rfl, (by show 8 ≤ sizeLine; decide), fun l nl => ?_⟩
    have ld : l ≠ d := Z1.not nl
    have er : (1 : Int) + (r : Int) = ((1 + r : Nat) : Int) := by omega
    refine ⟨d, l, x, 1 + r, [0, 1, 2, 3, 3, 4, 5, 6], ?_, Z1.new nl, by omega, by omega, hx, SqL.of upd_same, ld, by decide, by decide, fun t us p H2 ht np pd hp R Z2 S2 => ?_⟩
    · rw [← er]
      rfl
    have S12 : Still d H H2 := (S1.new nl).trans S2
    refine ⟨_, rfl, _, rfl, by omega, by omega, fun C nC => ?_⟩
    have Cd : C ≠ d := Z2.not nC
    have HC : H2 C = none := nC
    refine lc_range (lo := 0) (n := ((1 : Int) + (r : Int)).toNat) (fun j H9 => ∃ es : List Nat, H9 C = some (.lst (nts es)) ∧ es.length ≤ j ∧ es.Pairwise (· < ·) ∧ (∀ e ∈ es, e < j) ∧ Dz H9 d ∧ Still d H2 H9)
      ⟨[], upd_same, Nat.le_refl _, List.Pairwise.nil, (fun z hz => by cases hz), Z2.new nC, (Still.refl d H2).new nC⟩ ?_ ?_
    · rintro j H9 hj ⟨es, h1, h2, h3, h4, h5, h6⟩
      refine ⟨rfl, ?_⟩
      refine ⟨_, rfl, d, 2, rfl, h5, by decide, by decide, fun z H3 hz Z3 S3 => ⟨rfl, _, rfl, ?_⟩⟩
      refine ite2 (fun _ => ?_) (fun _ => ?_)
      · refine ⟨_, rfl, _, S3 _ _ Cd h1, ?_, es ++ [j], ?_, ?_, ?_, fun e he => ?_, Z3.ne Cd, (h6.trans S3).at_new HC⟩
        · rw [nts_length]
          exact Nat.lt_of_le_of_lt (show es.length ≤ 4 by omega) (by decide)
        · have ej : (0 : Int) + (j : Int) = (j : Int) := Int.zero_add _
          rw [upd_same, ej, nts_append]
        · rw [List.length_append]
          show es.length + 1 ≤ j + 1
          omega
        · rw [List.pairwise_append]
          refine ⟨h3, List.pairwise_singleton _ _, fun a ha b hb => ?_⟩
          rw [List.mem_singleton.mp hb]
          exact h4 a ha
        · rcases List.mem_append.mp he with q | q
          · have := h4 e q
            omega
          · rw [List.mem_singleton.mp q]
            omega
      · exact ⟨es, S3 _ _ Cd h1, by omega, h3, (fun e he => Nat.lt_succ_of_lt (h4 e he)), Z3, h6.trans S3⟩
    · rintro H9 ⟨es, h1, h2, h3, h4, h5, h6⟩
      refine fun q nq => ⟨_, rfl, _, rfl, _, rfl, upd_same, [(.inr "letters", .str x), (.inr "table", .ref p), (.inr "ends", .ref C)], rfl, (by show 3 ≤ 15; decide), ?_⟩
      rw [plain_merge]
      have k9 : ∀ b o, b ≠ d → H2 b = some o → H9 b = some o := h6
      have q2 : H2 q = none := h6.free h5 nq
      have hq : H q = none := S12.free Z2 q2
      obtain ⟨t1, t2⟩ := ht
      have el : ((1 : Int) + (r : Int)).toNat = t.length := by
        rw [t1]
        omega
      rw [el] at h4
      rw [upd_upd]
      have tl : IsTab t t.length x.length := by
        rw [← t1] at t2
        exact ⟨rfl, t2⟩
      have f1 := keep_new (u := .dK [(.inr "letters", .str x), (.inr "table", .ref p), (.inr "ends", .ref C)]) (k9 _ _ pd hp) nq
      have f2 : RowsT d d (upd H9 q (.dK [(.inr "letters", .str x), (.inr "table", .ref p), (.inr "ends", .ref C)])) us t := R.both.to fun b o hb _ h => keep_new (k9 b o hb h) nq
      have f3 := keep_new (u := .dK [(.inr "letters", .str x), (.inr "table", .ref p), (.inr "ends", .ref C)]) h1 nq
      have f4 : Still d H (upd H9 q (.dK [(.inr "letters", .str x), (.inr "table", .ref p), (.inr "ends", .ref C)])) := (S12.trans h6).new nq
      have hpn : H p = none := (S1.new nl).free (Z1.new nl) np
      have hCn : H C = none := S12.free Z2 nC
      refine k t es q _ ⟨⟨p, C, us, upd_same, pd, f1, f2, Cd, f3⟩, tl, h3, h4⟩ (by omega) (by omega) hq (h5.new nq) f4 fun L ys o Ld hL => ?_
      have n1 : q ≠ L := fun z => by
        rw [← z, hq] at hL
        cases hL
      have n2 : p ≠ L := fun z => by
        rw [← z, hpn] at hL
        cases hL
      have n3 : C ≠ L := fun z => by
        rw [← z, hCn] at hL
        cases hL
      refine ⟨⟨p, C, us, by rw [upd_ne n1]; exact upd_same, pd, by rw [upd_ne n2]; exact f1, ⟨f2.1, fun i r e => ?_⟩, Cd, by rw [upd_ne n3]; exact f3⟩, tl, h3, h4⟩
      obtain ⟨a', a1, a2, a3, a4⟩ := f2.2 i r e
      refine ⟨a', a1, a2, a3, ?_⟩
      rw [upd_ne (fun z => ?_)]
      · exact a4
      · rw [z, f4 _ _ Ld hL] at a4
        cases a4
theorem ok_machine {f : Addr} {fd : FuncData} (F : Fun K "_law_machine" "_law_machine" sMachine f fd) (D : DefsD K mg) (G : DefsM K mg) (T : TxI mg) (M : TxM mg) :
    FnOk P w K mg base CX0 4 f fd ["dice", "letters", "states"] spMachine := by
  refine (ok_machineF F D G T M).imp fun vs H Q E h => ?_
  obtain ⟨d, x, m, rfl, Z, hm, hm4, hx, k⟩ := h
  exact ⟨d, x, m, rfl, Z, hm, hm4, hx, fun t es p H' h1 h2 h3 h4 h5 h6 _ => k t es p H' h1 h2 h3 h4 h5 h6⟩
end
end M3

set_option Elab.async false
set_option linter.all false
set_option maxRecDepth 100000
set_option maxHeartbeats 8000000
/-! # Numbers between, words -/
namespace M3
open PySem L2
abbrev sBetween : Stmt := top 11
abbrev sIsWord : Stmt := top 12
abbrev sHasOnly : Stmt := top 13
structure TxW (mg : Str → Option Value) : Prop where
  isi : mg "isinstance" = none
  bool : mg "bool" = none
  int : mg "int" = none
  str : mg "str" = none
  tuple : mg "tuple" = none
  all : mg "all" = none
  alpha : ∃ t, mg "ALPHABET" = some (.str "abcdefghijklmnopqrstuvwxyz" t)
theorem boot_bool' : bootBuiltins "bool" = some (.type "bool") := by decide +kernel
theorem boot_int' : bootBuiltins "int" = some (.type "int") := by decide +kernel
theorem boot_str' : bootBuiltins "str" = some (.type "str") := by decide +kernel
theorem boot_tuple' : bootBuiltins "tuple" = some (.type "tuple") := by decide +kernel
theorem scBetween : FnScope ["value", "low", "high"] ["value", "low", "high"] (defScope sBetween) := ⟨rfl, rfl, rfl, by decide +kernel, rfl, by decide +kernel, by decide +kernel⟩
theorem scIsWord : FnScope ["value"] ["value"] (defScope sIsWord) := ⟨rfl, rfl, rfl, by decide +kernel, rfl, by decide +kernel, by decide +kernel⟩
theorem scHasOnly : FnScope ["word", "letters", "letter"] ["word", "letters"] (defScope sHasOnly) := ⟨rfl, rfl, rfl, by decide +kernel, rfl, by decide +kernel, by decide +kernel⟩
/-- is it an integer between: what kind of value it is decides first -/
def spBetween (K : PySem.W.Frag) : Sp := fun vs H Q _ => ∃ (v : V) (lo hi : Int) (t : Value) (bb bi : Bool), vs = [v, .int lo, .int hi] ∧ TyX K H v t ∧ PySem.W.kitOne K t (.type "bool") = some bb ∧ PySem.W.kitOne K t (.type "int") = some bi ∧
  (bb = true → Q (.bl false) H) ∧ (bb = false → bi = false → Q (.bl false) H) ∧ (bb = false → bi = true → ∃ i : Int, v = .int i ∧ Q (.bl (decide (lo ≤ i) && decide (i ≤ hi))) H)
def only (x y : Str) : Bool := x.cps.toList.all fun c => decide (c ∈ y.cps.toList)
def spHasOnly : Sp := fun vs H Q _ => ∃ x y : Str, vs = [.str x, .str y] ∧ x.length ≤ 1000000 ∧ ∀ H' : Hp, Same H H' → Q (.bl (only x y)) H'
def spIsWord (K : PySem.W.Frag) : Sp := fun vs H Q _ => ∃ (v : V) (t : Value) (b : Bool), vs = [v] ∧ TyX K H v t ∧ PySem.W.kitOne K t (.type "str") = some b ∧
  (b = false → Q (.bl false) H) ∧ (b = true → ∃ x : Str, v = .str x ∧ x.length ≤ 1000000 ∧ ∀ H' : Hp, Same H H' → Q (.bl (only x "abcdefghijklmnopqrstuvwxyz")) H')
theorem Same.new {H H1 : Hp} {p : Addr} {u : HO} (s : Same H H1) (hp : H1 p = none) : Same H (upd H1 p u) := fun b o h => keep_new (s b o h) hp
section
variable {P : Program} {w : World} {K : PySem.W.Frag} {mg : Str → Option Value} {base : Heap}
theorem ok_between {f : Addr} {fd : FuncData} (F : Fun K "is_between" "is_between" sBetween f fd) (W : TxW mg) : FnOk P w K mg base CX0 1 f fd ["value", "low", "high"] (spBetween K) := by
  refine F.ok scBetween (fun vs H Q E h => ?_) (fun cdv A outer s H vs Q E hr h => ?_)
  · obtain ⟨v, lo, hi, t, bb, bi, rfl, _⟩ := h
    rfl
  · obtain ⟨v, lo, hi, t, bb, bi, rfl, ty, k1, k2, q1, q2, q3⟩ := h
    refine ⟨_, pss_cons (ps_if (PW.pt (pw_or (pt_val (pe_callB call_isi (by rfl) W.isi (by decide +kernel) (pa_cons (pv 0) (pa_cons (pe_bltn (v := .ty "bool") rfl W.bool boot_bool' rfl) pa_nil)))) (pw_or1 (pt_not (pt_val (pe_callB call_isi (by rfl) W.isi (by decide +kernel) (pa_cons (pv 0) (pa_cons (pe_bltn (v := .ty "int") rfl W.int boot_int' rfl) pa_nil)))))))) (pss_one (ps_ret pe_bl)) pss_nil)
      (pss_one (ps_ret (pe_chain op_le op_le (pv 1) (pv 0) (pv 2)))), ?_⟩
    refine ⟨_, rfl, v, .ty "bool", t, .type "bool", bb, rfl, .ty _, ty, k1, _, rfl, ?_⟩
    cases bb with
    | true => exact iteT (iteT (q1 rfl))
    | false =>
      refine iteF ?_
      refine ⟨_, rfl, v, .ty "int", t, .type "int", bi, rfl, .ty _, ty, k2, _, rfl, ?_⟩
      cases bi with
      | false => exact iteT (q2 rfl rfl)
      | true =>
        obtain ⟨i, rfl, q⟩ := q3 rfl rfl
        refine iteF ?_
        refine ⟨_, rfl, _, rfl, _, _, rfl, rfl, _, rfl, ?_⟩
        by_cases h1 : lo ≤ i
        · rw [decide_eq_true h1] at q ⊢
          exact iteT ⟨_, rfl, _, _, rfl, rfl, q⟩
        · rw [decide_eq_false h1] at q ⊢
          exact iteF q
theorem ok_hasonly {f : Addr} {fd : FuncData} (F : Fun K "has_only" "has_only" sHasOnly f fd) (W : TxW mg) : FnOk P w K mg base CX0 1 f fd ["word", "letters"] spHasOnly := by
  refine F.ok scHasOnly (fun vs H Q E h => ?_) (fun cdv A outer s H vs Q E hr h => ?_)
  · obtain ⟨x, y, rfl, _⟩ := h
    rfl
  · obtain ⟨x, y, rfl, hx, k⟩ := h
    refine ⟨_, pss_one (ps_ret (pe_callB (cr_all rfl) (by rfl) W.all (by decide +kernel) (pa_cons (pe_lc (own := [("letter", 2)]) (g := gName 2) (tt := tYes) rfl scHasOnly.nd (pi_str (pv 0)) (blkOk_by (N := ["word", "letters", "letter"]) (sc := defScope sHasOnly) (by decide +kernel)) (fun _ _ _ _ _ => pg_name (i := 2) scHasOnly.nd rfl (Or.inl rfl)) (fun _ _ _ _ _ => pts_nil)
      (fun _ _ _ _ _ => pe_cmpR op_in_sign (pv 2) (pv 1) rfl)) pa_nil))), ?_⟩
    refine ⟨_, rfl, x, rfl, fun C nC => ?_⟩
    refine lc_it walk_str (fun j H9 => H9 C = some (.lst (((x.cps.toList.take j).map fun c => decide (c ∈ y.cps.toList)).map V.bl)) ∧ ∀ b o, b ≠ C → H b = some o → H9 b = some o)
      ⟨upd_same, fun b o hb h => keep_new h nC⟩ (fun _ _ _ _ => trivial) ?_ ?_
    · rintro i v H9 H9' hi ⟨h1, h2⟩ ⟨rfl, c, hc, rfl⟩
      refine ⟨rfl, tYes_if ?_⟩
      have hc' : x.cps.toList[i]? = some c := by simpa using hc
      refine ⟨_, rfl, _, rfl, c, y, rfl, rfl, _, h1, ?_, ?_, fun b o hb h => by rw [upd_ne hb]; exact h2 b o hb h⟩
      · rw [List.length_map, List.length_map, List.length_take]
        have : x.cps.toList.length = x.length := by simp [Str.length]
        have l : sizeLine = 16777216 := sizeLine_eq
        omega
      · rw [upd_same, take_snoc hc', List.map_append, List.map_append]
        rfl
    · rintro H9 ⟨h1, h2⟩
      have et : x.cps.toList.take x.cps.size = x.cps.toList := List.take_of_length_le (by simp)
      rw [et] at h1
      refine ⟨C, _, rfl, SqL.of h1, ?_⟩
      have e : (x.cps.toList.map fun c => decide (c ∈ y.cps.toList)).all id = only x y := by
        unfold only
        rw [List.all_map]
        rfl
      rw [e]
      exact k _ fun b o h => h2 b o (fun z => by rw [z, nC] at h; cases h) h
theorem ok_isword {f g : Addr} {fd gd : FuncData} (F : Fun K "is_word" "is_word" sIsWord f fd) (G : Fun K "has_only" "has_only" sHasOnly g gd) (bG : Binds K gd ["word", "letters"] []) (mG : mg "has_only" = some (.ref g)) (W : TxW mg) : FnOk P w K mg base CX0 2 f fd ["value"] (spIsWord K) := by
  have GH : FnOk P w K mg base CX0 1 g gd ["word", "letters"] spHasOnly := ok_hasonly G W
  obtain ⟨ta, al⟩ := W.alpha
  refine F.ok scIsWord (fun vs H Q E h => ?_) (fun cdv A outer s H vs Q E hr h => ?_)
  · obtain ⟨v, t, b, rfl, _⟩ := h
    rfl
  · obtain ⟨v, t, b, rfl, ty, k1, q1, q2⟩ := h
    refine ⟨_, pss_cons (ps_if (pt_not (pt_val (pe_callB call_isi (by rfl) W.isi (by decide +kernel) (pa_cons (pv 0) (pa_cons (pe_bltn (v := .ty "str") rfl W.str boot_str' rfl) pa_nil))))) (pss_one (ps_ret pe_bl)) pss_nil)
      (pss_one (ps_ret (pe_call GH hr rfl mG G.kp bG .nil pass0 (pa_cons (pv 0) (pa_cons (pe_glob (v := .str "abcdefghijklmnopqrstuvwxyz") rfl al ⟨_, rfl⟩) pa_nil))))), ?_⟩
    refine ⟨_, rfl, v, .ty "str", t, .type "str", b, rfl, .ty _, ty, k1, _, rfl, ?_⟩
    cases b with
    | false => exact iteT (q1 rfl)
    | true =>
      obtain ⟨x, rfl, hx, q⟩ := q2 rfl
      refine iteF ?_
      exact ⟨_, rfl, x, _, rfl, hx, q⟩
end
end M3

set_option Elab.async false
set_option linter.all false
set_option maxRecDepth 100000
set_option maxHeartbeats 8000000
/-! # Sets of letters -/
namespace M3
open PySem L2
abbrev sIsLetters : Stmt := top 14
abbrev nIsLetters : List Str := ["value", "low", "high"]
theorem scIsLetters : FnScope nIsLetters ["value"] (defScope sIsLetters) := ⟨rfl, rfl, rfl, by decide +kernel, rfl, by decide +kernel, by decide +kernel⟩
structure TxZ (mg : Str → Option Value) : Prop where
  zip : mg "zip" = none
  len : mg "len" = none
  maxL : ∃ t, mg "MAX_LETTERS" = some (.int 2 t)
/-- each sign is ahead of the next one -/
def ups (x : Str) : List Bool := (x.cps.toList.zip (x.cps.toList.drop 1)).map fun p => decide ([p.1] < [p.2])
def isLet (x : Str) : Bool := only x "abcdefghijklmnopqrstuvwxyz" && (decide (1 ≤ x.length) && (decide (x.length ≤ 2) && (ups x).all id))
def spIsLetters (K : PySem.W.Frag) : Sp := fun vs H Q _ => ∃ (v : V) (t : Value) (b : Bool), vs = [v] ∧ TyX K H v t ∧ PySem.W.kitOne K t (.type "str") = some b ∧
  (b = false → Q (.bl false) H) ∧ (b = true → ∃ x : Str, v = .str x ∧ x.length ≤ 1000000 ∧ ∀ H' : Hp, Same H H' → Q (.bl (isLet x)) H')
theorem cut1 (x : Str) : cutS x (some 1) none = ⟨(x.cps.toList.drop 1).toArray⟩ := by
  unfold cutS
  have e : HT.sIx x.length 0 (some ((1 : Nat) : Int)) = min 1 x.length := HT.sIx_nat _ _ _
  have e' : HT.sIx x.length 0 (some 1) = min 1 x.length := e
  rw [e', HT.sIx_none]
  have l : x.cps.toList.length = x.length := by simp [Str.length]
  congr 2
  by_cases h : x.length = 0
  · have z : x.cps.toList = [] := List.eq_nil_of_length_eq_zero (by omega)
    rw [z]
    simp
  · have m : min 1 x.length = 1 := by omega
    rw [m]
    exact List.take_of_length_le (by rw [List.length_drop]; omega)
theorem zip_at {α : Type} {l : List α} {i : Nat} {a b : α} (h1 : l[i]? = some a) (h2 : (l.drop 1)[i]? = some b) : (l.zip (l.drop 1))[i]? = some (a, b) := by
  rw [List.getElem?_zip_eq_some]
  exact ⟨h1, h2⟩
section
variable {P : Program} {w : World} {K : PySem.W.Frag} {mg : Str → Option Value} {base : Heap}
/-- the facts of the defs of words -/
structure DefsW (K : PySem.W.Frag) (mg : Str → Option Value) where
  (fB fW fO : Addr)
  (dB dW dO : FuncData)
  B : Fun K "is_between" "is_between" sBetween fB dB
  bB : Binds K dB ["value", "low", "high"] []
  mB : mg "is_between" = some (.ref fB)
  W : Fun K "is_word" "is_word" sIsWord fW dW
  bW : Binds K dW ["value"] []
  mW : mg "is_word" = some (.ref fW)
  O : Fun K "has_only" "has_only" sHasOnly fO dO
  bO : Binds K dO ["word", "letters"] []
  mO : mg "has_only" = some (.ref fO)
theorem ok_isletters {f : Addr} {fd : FuncData} (F : Fun K "is_letters" "is_letters" sIsLetters f fd) (D : DefsW K mg) (W : TxW mg) (Zx : TxZ mg) : FnOk P w K mg base CX0 3 f fd ["value"] (spIsLetters K) := by
  have GW : FnOk P w K mg base CX0 2 D.fW D.dW ["value"] (spIsWord K) := ok_isword D.W D.O D.bO D.mO W
  obtain ⟨tm, ml⟩ := Zx.maxL
  refine F.ok scIsLetters (fun vs H Q E h => ?_) (fun cdv A outer s H vs Q E hr h => ?_)
  · obtain ⟨v, t, b, rfl, _⟩ := h
    rfl
  · obtain ⟨v, t, b, rfl, ty, k1, q1, q2⟩ := h
    have hr2 : Room 2 _ := hr.mono (by decide)
    refine ⟨_, pss_cons (ps_if (PW.pt (pw_or (pt_not (pt_val (pe_call GW hr2 rfl D.mW D.W.kp D.bW .nil pass0 (pa_cons (pv 0) pa_nil)))) (pw_or1 (pt_not (pt_chain op_le op_le pe_int (pe_callB call_len_str (by rfl) Zx.len PySem.boot_len (pa_cons (pv 0) pa_nil)) (pe_glob (v := .int 2) rfl ml ⟨_, rfl⟩)))))) (pss_one (ps_ret pe_bl)) pss_nil)
      (pss_one (ps_ret (pe_callB (cr_all rfl) (by rfl) W.all (by decide +kernel) (pa_cons (pe_lc (own := [("low", 1), ("high", 2)]) (g := gTup K 2 (gCons (gName 1) (gCons (gName 2) gNil))) (tt := tYes) rfl scIsLetters.nd (NvZ.pi_zipS rfl Zx.zip (pa_cons (pv 0) (pa_cons (pe_slice sl_str (pv 0) (po_some pe_int) po_none) pa_nil))) (blkOk_by (N := nIsLetters) (sc := defScope sIsLetters) (by decide +kernel))
        (fun _ _ _ _ _ => pg_tup rfl (pgs_cons (pg_name (i := 1) scIsLetters.nd rfl (Or.inl rfl)) (pgs_cons (pg_name (i := 2) scIsLetters.nd rfl (Or.inl rfl)) pgs_nil))) (fun _ _ _ _ _ => pts_nil) (fun _ _ _ _ _ => pe_cmpR op_lt_str (pv 1) (pv 2) (nomark _))) pa_nil)))), ?_⟩
    refine ⟨_, rfl, v, t, b, rfl, ty, k1, fun e => ⟨_, rfl, ?_⟩, fun e => ?_⟩
    · exact iteT (iteT (q1 e))
    · obtain ⟨x, rfl, hx, q⟩ := q2 e
      refine ⟨x, rfl, hx, fun H1 s1 => ?_⟩
      unfold isLet at q
      refine ⟨_, rfl, ?_⟩
      cases h1 : only x "abcdefghijklmnopqrstuvwxyz" with
      | false =>
        rw [h1] at q
        exact iteT (iteT (q H1 s1))
      | true =>
        rw [h1] at q
        refine iteF ?_
        have hz : x.length ≤ sizeLine := Nat.le_trans hx (by rw [sizeLine_eq]; decide)
        refine ⟨_, rfl, x, rfl, hz, _, _, rfl, rfl, _, rfl, ?_⟩
        have e1 : decide ((1 : Int) ≤ (x.length : Int)) = decide (1 ≤ x.length) := by
          by_cases h : 1 ≤ x.length
          · rw [decide_eq_true h, decide_eq_true (by omega)]
          · rw [decide_eq_false h, decide_eq_false (by omega)]
        have e2 : decide ((x.length : Int) ≤ 2) = decide (x.length ≤ 2) := by
          by_cases h : x.length ≤ 2
          · rw [decide_eq_true h, decide_eq_true (by omega)]
          · rw [decide_eq_false h, decide_eq_false (by omega)]
        rw [e1]
        cases h2 : decide (1 ≤ x.length) with
        | false =>
          rw [h2] at q
          exact iteF ⟨_, rfl, iteT (q H1 s1)⟩
        | true =>
          rw [h2] at q
          refine iteT ⟨_, _, rfl, rfl, _, rfl, ?_⟩
          rw [e2]
          cases h3 : decide (x.length ≤ 2) with
          | false =>
            rw [h3] at q
            exact iteT (q H1 s1)
          | true =>
            rw [h3] at q
            refine iteF ?_
            refine ⟨_, rfl, _, rfl, 1, rfl, x, rfl, hz, x, _, rfl, ?_⟩
            rw [cut1]
            intro C nC
            have lu : (ups x).length = min x.cps.size (⟨(x.cps.toList.drop 1).toArray⟩ : Str).cps.size := by
              unfold ups
              rw [List.length_map, List.length_zip]
              simp
            refine lc_it NvZ.walk_zipS (fun j H9 => H9 C = some (.lst (((ups x).take j).map V.bl)) ∧ ∀ b o, b ≠ C → H1 b = some o → H9 b = some o)
              ⟨upd_same, fun b o hb h => keep_new h nC⟩ (fun _ _ _ _ => trivial) ?_ ?_
            · rintro i v H9 H9' hi ⟨h1, h2⟩ ⟨T', a, b, rfl, nT, rfl, ha, hb⟩
              refine ⟨T', _, rfl, SqT.of upd_same, rfl, _, _, rfl, _, _, rfl, rfl, rfl, tYes_if ?_⟩
              have hu : (ups x)[i]? = some (decide ([a] < [b])) := by
                unfold ups
                rw [List.getElem?_map, zip_at (l := x.cps.toList) (by simpa using ha) (by simpa using hb)]
                rfl
              refine ⟨_, rfl, _, rfl, _, _, rfl, rfl, _, keep_new h1 nT, ?_, ?_, fun b' o hb' h => by rw [upd_ne hb']; exact keep_new (h2 b' o hb' h) nT⟩
              · rw [List.length_map, List.length_take]
                have : (ups x).length ≤ x.cps.size := by rw [lu]; exact Nat.min_le_left _ _
                have l : sizeLine = 16777216 := sizeLine_eq
                have : x.cps.size ≤ 1000000 := hx
                omega
              · rw [upd_same, take_snoc hu, List.map_append]
                rfl
            · rintro H9 ⟨h1, h2⟩
              rw [← lu, List.take_length] at h1
              refine ⟨C, _, rfl, SqL.of h1, q H9 fun b o h => h2 b o (fun z => ?_) (s1 _ _ h)⟩
              rw [z] at h
              have := s1 _ _ h
              rw [nC] at this
              cases this
end
end M3

set_option Elab.async false
set_option linter.all false
set_option maxRecDepth 100000
set_option maxHeartbeats 8000000
/-! # Lines, tables, choices -/
namespace M3
open PySem L2
abbrev sIsTable : Stmt := top 19
abbrev sIsLine : Stmt := top 20
abbrev sIsChoice : Stmt := top 21
abbrev nIsTable : List Str := ["value", "width", "most", "line"]
abbrev nIsLine : List Str := ["value", "width", "size", "goal"]
abbrev nIsChoice : List Str := ["value", "size", "state", "low", "high"]
theorem scIsTable : FnScope nIsTable ["value", "width", "most"] (defScope sIsTable) := ⟨rfl, rfl, rfl, by decide +kernel, rfl, by decide +kernel, by decide +kernel⟩
theorem scIsLine : FnScope nIsLine ["value", "width", "size"] (defScope sIsLine) := ⟨rfl, rfl, rfl, by decide +kernel, rfl, by decide +kernel, by decide +kernel⟩
theorem scIsChoice : FnScope nIsChoice ["value", "size"] (defScope sIsChoice) := ⟨rfl, rfl, rfl, by decide +kernel, rfl, by decide +kernel, by decide +kernel⟩
theorem ty_tup {K : PySem.W.Frag} {H : Hp} {a : Addr} {xs : List V} (h : SqT K H a xs) : TyX K H (.ref a) (.type "tuple") := by
  rcases h with (h | ⟨o, h⟩) | ⟨o, _, _, h, c, _⟩
  · exact .base (.tup h)
  · exact .fTuple h
  · exact .kTuple h c
theorem sqt_same {K : PySem.W.Frag} {a : Addr} {H H' : Hp} {xs : List V} (s : Same H H') (h : SqT K H a xs) : SqT K H' a xs := by
  rcases h with (h | ⟨o, h⟩) | h
  · exact .inl (.inl (s _ _ h))
  · exact .inl (.inr ⟨o, s _ _ h⟩)
  · exact .inr h
def inside (n i : Int) : Bool := decide (0 ≤ i) && decide (i ≤ n - 1)
/-- a tuple of integers is handed in -/
def spIsLine (K : PySem.W.Frag) : Sp := fun vs H Q _ => ∃ (a : Addr) (xs : List Int) (w n : Int), vs = [.ref a, .int w, .int n] ∧ SqT K H a (xs.map V.int) ∧ xs.length ≤ 1000000 ∧ ∀ H' : Hp, Same H H' → Q (.bl (decide ((xs.length : Int) = w) && xs.all (inside n))) H'
section
variable {P : Program} {w : World} {K : PySem.W.Frag} {mg : Str → Option Value} {base : Heap}
theorem kit_tup : PySem.W.kitOne K (.type "tuple") (.type "tuple") = some true := kit_ty (by decide +kernel)
theorem kit_int_bool : PySem.W.kitOne K (.type "int") (.type "bool") = some false := kit_ty (by decide +kernel)
theorem kit_int_int : PySem.W.kitOne K (.type "int") (.type "int") = some true := kit_ty (by decide +kernel)
theorem ok_isline {f : Addr} {fd : FuncData} (F : Fun K "is_line" "is_line" sIsLine f fd) (D : DefsW K mg) (W : TxW mg) (Zx : TxZ mg) : FnOk P w K mg base CX0 2 f fd ["value", "width", "size"] (spIsLine K) := by
  have GB : FnOk P w K mg base CX0 1 D.fB D.dB ["value", "low", "high"] (spBetween K) := ok_between D.B W
  refine F.ok scIsLine (fun vs H Q E h => ?_) (fun cdv A outer s H vs Q E hr h => ?_)
  · obtain ⟨a, xs, w', n, rfl, _⟩ := h
    rfl
  · obtain ⟨a, xs, w', n, rfl, ha, hx, k⟩ := h
    refine ⟨_, pss_cons (ps_if (PW.pt (pw_or (pt_not (pt_val (pe_callB call_isi (by rfl) W.isi (by decide +kernel) (pa_cons (pv 0) (pa_cons (pe_bltn (v := .ty "tuple") rfl W.tuple boot_tuple' rfl) pa_nil))))) (pw_or1 (pt_cmpR op_ne (pe_callB call_len_seq (by rfl) Zx.len PySem.boot_len (pa_cons (pv 0) pa_nil)) (pv 1) (nomark _))))) (pss_one (ps_ret pe_bl)) pss_nil)
      (pss_one (ps_ret (pe_callB (cr_all rfl) (by rfl) W.all (by decide +kernel) (pa_cons (pe_lc (own := [("goal", 3)]) (g := gName 3) (tt := tYes) rfl scIsLine.nd (pi_tup (pv 0)) (blkOk_by (N := nIsLine) (sc := defScope sIsLine) (by decide +kernel)) (fun _ _ _ _ _ => pg_name (i := 3) scIsLine.nd rfl (Or.inl rfl)) (fun _ _ _ _ _ => pts_nil)
        (fun _ _ _ _ _ => pe_call GB hr rfl D.mB D.B.kp D.bB .nil pass0 (pa_cons (pv 3) (pa_cons pe_int (pa_cons (pe_op op_sub (pv 2) pe_int) pa_nil))))) pa_nil)))), ?_⟩
    refine ⟨_, rfl, .ref a, .ty "tuple", _, .type "tuple", true, rfl, .ty _, ty_tup ha, kit_tup, _, rfl, ?_⟩
    refine iteF ?_
    refine ⟨_, rfl, a, _, rfl, .inr ha, _, rfl, rfl, _, rfl, ?_⟩
    have e1 : (!decide (V.int ((xs.map V.int).length : Int) = V.int w')) = !decide ((xs.length : Int) = w') := by
      rw [List.length_map]
      by_cases h : (xs.length : Int) = w'
      · rw [decide_eq_true h, decide_eq_true (by rw [h])]
      · rw [decide_eq_false h, decide_eq_false (fun z => h (by injection z))]
    rw [e1]
    cases h1 : decide ((xs.length : Int) = w') with
    | false =>
      rw [h1] at k
      exact iteT (k H (Same.refl H))
    | true =>
      rw [h1] at k
      refine iteF ?_
      refine ⟨_, rfl, a, rfl, ⟨_, ha⟩, fun C nC => ?_⟩
      refine lc_it (walk_tup (K := K) (a := a) (xs := xs.map V.int)) (fun j H9 => H9 C = some (.lst (((xs.take j).map (inside n)).map V.bl)) ∧ Same H H9 ∧ H C = none)
        ⟨upd_same, Same.new (Same.refl H) nC, nC⟩ (fun i H9 _ ⟨_, z, _⟩ => sqt_same z ha) ?_ ?_
      · rintro i v H9 H9' hi ⟨q1, q2, _⟩ ⟨rfl, hv⟩
        refine ⟨rfl, tYes_if ?_⟩
        rw [List.getElem?_map] at hv
        cases e : xs[i]? with
        | none =>
          rw [e] at hv
          cases hv
        | some y =>
          rw [e] at hv
          cases hv
          refine ⟨_, rfl, _, rfl, _, _, rfl, rfl, .int y, 0, n - 1, .type "int", false, true, rfl, .base (.int y), kit_int_bool, kit_int_int, (fun z => by cases z), (fun _ z => by cases z), fun _ _ => ⟨y, rfl, ?_⟩⟩
          refine ⟨_, q1, ?_, ?_, fun b o h => ?_, nC⟩
          · rw [List.length_map, List.length_map, List.length_take]
            have l : sizeLine = 16777216 := sizeLine_eq
            omega
          · rw [upd_same, take_snoc e, List.map_append, List.map_append]
            rfl
          · rw [upd_ne (fun z => by rw [z, nC] at h; cases h)]
            exact q2 b o h
      · rintro H9 ⟨q1, q2, _⟩
        have et : xs.take (xs.map V.int).length = xs := by
          rw [List.length_map]
          exact List.take_length
        rw [et] at q1
        refine ⟨C, _, rfl, SqL.of q1, ?_⟩
        rw [List.all_map]
        exact k H9 q2
end
end M3

set_option Elab.async false
set_option linter.all false
set_option maxRecDepth 100000
set_option maxHeartbeats 8000000
/-! # Tables judged -/
namespace M3
open PySem L2
/-- tuples of integers stand at these addresses -/
def Lines (K : PySem.W.Frag) (H : Hp) (us : List V) (t : List (List Int)) : Prop := us.length = t.length ∧ ∀ (i : Nat) (r : List Int), t[i]? = some r → ∃ b : Addr, us[i]? = some (V.ref b) ∧ SqT K H b (r.map V.int) ∧ r.length ≤ 1000
theorem Lines.same {K : PySem.W.Frag} {H H' : Hp} {us : List V} {t : List (List Int)} (h : Lines K H us t) (s : Same H H') : Lines K H' us t := ⟨h.1, fun i r e => by
  obtain ⟨b, h1, h2, h3⟩ := h.2 i r e
  exact ⟨b, h1, sqt_same s h2, h3⟩⟩
def tabOk (t : List (List Int)) (w m : Int) : Bool := decide (1 ≤ (t.length : Int)) && (decide ((t.length : Int) ≤ m) && t.all fun r => decide ((r.length : Int) = w) && r.all (inside t.length))
def spIsTable (K : PySem.W.Frag) : Sp := fun vs H Q _ => ∃ (a : Addr) (us : List V) (t : List (List Int)) (w m : Int), vs = [.ref a, .int w, .int m] ∧ SqT K H a us ∧ Lines K H us t ∧ t.length ≤ 1000000 ∧ ∀ H' : Hp, Same H H' → Q (.bl (tabOk t w m)) H'
section
variable {P : Program} {w : World} {K : PySem.W.Frag} {mg : Str → Option Value} {base : Heap}
theorem ok_istable {f g : Addr} {fd gd : FuncData} (F : Fun K "is_table" "is_table" sIsTable f fd) (G : Fun K "is_line" "is_line" sIsLine g gd) (bG : Binds K gd ["value", "width", "size"] []) (mG : mg "is_line" = some (.ref g)) (D : DefsW K mg) (W : TxW mg) (Zx : TxZ mg) :
    FnOk P w K mg base CX0 3 f fd ["value", "width", "most"] (spIsTable K) := by
  have GL : FnOk P w K mg base CX0 2 g gd ["value", "width", "size"] (spIsLine K) := ok_isline G D W Zx
  refine F.ok scIsTable (fun vs H Q E h => ?_) (fun cdv A outer s H vs Q E hr h => ?_)
  · obtain ⟨a, us, t, w', m, rfl, _⟩ := h
    rfl
  · obtain ⟨a, us, t, w', m, rfl, ha, hL, ht, k⟩ := h
    refine ⟨_, pss_cons (ps_if (PW.pt (pw_or (pt_not (pt_val (pe_callB call_isi (by rfl) W.isi (by decide +kernel) (pa_cons (pv 0) (pa_cons (pe_bltn (v := .ty "tuple") rfl W.tuple boot_tuple' rfl) pa_nil))))) (pw_or1 (pt_not (pt_chain op_le op_le pe_int (pe_callB call_len_seq (by rfl) Zx.len PySem.boot_len (pa_cons (pv 0) pa_nil)) (pv 2)))))) (pss_one (ps_ret pe_bl)) pss_nil)
      (pss_one (ps_ret (pe_callB (cr_all rfl) (by rfl) W.all (by decide +kernel) (pa_cons (pe_lc (own := [("line", 3)]) (g := gName 3) (tt := tYes) (te := tCall (spIsLine K) [] E0 (tCons (tVar 3) (tCons (tVar 1) (tCons (tCB (fun xs H Q => ∃ p ys, xs = [V.ref p] ∧ (SqL K H p ys ∨ SqT K H p ys) ∧ Q (V.int ys.length) H) (tCons (tVar 0) tNil)) tNil)))) rfl scIsTable.nd (pi_tup (pv 0)) (blkOk_by (N := nIsTable) (sc := defScope sIsTable) (by decide +kernel)) (fun _ _ _ _ _ => pg_name (i := 3) scIsTable.nd rfl (Or.inl rfl)) (fun _ _ _ _ _ => pts_nil)
        (fun _ _ _ _ _ => pe_call GL hr rfl mG G.kp bG .nil pass0 (pa_cons (pv 3) (pa_cons (pv 1) (pa_cons (pe_callB call_len_seq (by rfl) Zx.len PySem.boot_len (pa_cons (pv 0) pa_nil)) pa_nil))))) pa_nil)))), ?_⟩
    have lu : us.length = t.length := hL.1
    refine ⟨_, rfl, .ref a, .ty "tuple", _, .type "tuple", true, rfl, .ty _, ty_tup ha, kit_tup, _, rfl, ?_⟩
    refine iteF ?_
    refine ⟨_, rfl, a, _, rfl, .inr ha, _, _, rfl, rfl, _, rfl, ?_⟩
    rw [lu]
    unfold tabOk at k
    cases h1 : decide (1 ≤ (t.length : Int)) with
    | false =>
      rw [h1] at k
      exact iteF ⟨_, rfl, iteT (k H (Same.refl H))⟩
    | true =>
      rw [h1] at k
      refine iteT ⟨_, rfl, _, _, rfl, rfl, _, rfl, ?_⟩
      cases h2 : decide ((t.length : Int) ≤ m) with
      | false =>
        rw [h2] at k
        exact iteT (k H (Same.refl H))
      | true =>
        rw [h2] at k
        refine iteF ?_
        refine ⟨_, rfl, a, rfl, ⟨_, ha⟩, fun C nC => ?_⟩
        refine lc_it (walk_tup (K := K) (a := a) (xs := us)) (fun j H9 => H9 C = some (.lst (((t.take j).map fun r => decide ((r.length : Int) = w') && r.all (inside t.length)).map V.bl)) ∧ Same H H9)
          ⟨upd_same, Same.new (Same.refl H) nC⟩ (fun i H9 _ ⟨_, z⟩ => sqt_same z ha) ?_ ?_
        · rintro i v H9 H9' hi ⟨q1, q2⟩ ⟨rfl, hv⟩
          refine ⟨rfl, tYes_if ?_⟩
          have hi' : i < t.length := by rw [← lu]; exact hi
          obtain ⟨b, b1, b2, b3⟩ := hL.2 i t[i] (List.getElem?_eq_getElem hi')
          have ev : v = .ref b := Option.some.inj (hv.symm.trans b1)
          subst ev
          refine ⟨_, rfl, _, rfl, _, rfl, a, us, rfl, .inr (sqt_same q2 ha), b, t[i], w', (us.length : Int), rfl, sqt_same q2 b2, Nat.le_trans b3 (by decide), fun H3 s3 => ?_⟩
          rw [lu]
          refine ⟨_, s3 _ _ q1, ?_, ?_, fun b' o h => ?_⟩
          · rw [List.length_map, List.length_map, List.length_take]
            have l : sizeLine = 16777216 := sizeLine_eq
            omega
          · rw [upd_same, take_snoc (List.getElem?_eq_getElem hi'), List.map_append, List.map_append]
            rfl
          · rw [upd_ne (fun z => by rw [z, nC] at h; cases h)]
            exact s3 _ _ (q2 b' o h)
        · rintro H9 ⟨q1, q2⟩
          have et : t.take us.length = t := by
            rw [lu]
            exact List.take_length
          rw [et] at q1
          refine ⟨C, _, rfl, SqL.of q1, ?_⟩
          rw [List.all_map]
          exact k H9 q2
end
end M3

set_option Elab.async false
set_option linter.all false
set_option maxRecDepth 100000
set_option maxHeartbeats 8000000
/-! # Choices judged -/
namespace M3
open PySem L2
theorem walk_zT {K : PySem.W.Frag} {a b : Addr} {xs ys : List V} {n : Nat} (hn : n = min xs.length ys.length) :
    Walk (RZ.ItzT K a b) n (fun H => SqT K H a xs ∧ SqT K H b ys) (YPair (fun i => xs[i]?) (fun i => ys[i]?)) where
  goes := fun i H hi q => by
    have h1 : i < xs.length := by omega
    have h2 : i < ys.length := by omega
    refine ⟨xs, ys, _, _, q.1, q.2, List.getElem?_eq_getElem h1, List.getElem?_eq_getElem h2⟩
  stops := fun H q => by
    refine ⟨xs, ys, q.1, q.2, ?_⟩
    omega
  yields := fun i H v H' hi q y => by
    obtain ⟨T, c, e, h1, h2, h3, h4, h5⟩ := y
    exact ⟨T, c, e, h1, h2, h3, h4 xs q.1, h5 ys q.2⟩
def climbs (xs : List Int) : List Bool := (xs.zip (xs.drop 1)).map fun p => decide (p.1 < p.2)
def choiceOk (xs : List Int) (n : Int) : Bool := xs.all (inside n) && (climbs xs).all id
def spIsChoice (K : PySem.W.Frag) : Sp := fun vs H Q _ => ∃ (a : Addr) (xs : List Int) (n : Int), vs = [.ref a, .int n] ∧ SqT K H a (xs.map V.int) ∧ xs.length ≤ 1000000 ∧ ∀ H' : Hp, Same H H' → Q (.bl (choiceOk xs n)) H'
section
variable {P : Program} {w : World} {K : PySem.W.Frag} {mg : Str → Option Value} {base : Heap}
theorem ok_ischoice {f : Addr} {fd : FuncData} (F : Fun K "is_choice" "is_choice" sIsChoice f fd) (D : DefsW K mg) (W : TxW mg) (Zx : TxZ mg) : FnOk P w K mg base CX0 2 f fd ["value", "size"] (spIsChoice K) := by
  have GB : FnOk P w K mg base CX0 1 D.fB D.dB ["value", "low", "high"] (spBetween K) := ok_between D.B W
  refine F.ok scIsChoice (fun vs H Q E h => ?_) (fun cdv A outer s H vs Q E hr h => ?_)
  · obtain ⟨a, xs, n, rfl, _⟩ := h
    rfl
  · obtain ⟨a, xs, n, rfl, ha, hx, k⟩ := h
    refine ⟨_, pss_cons (ps_if (pt_not (pt_val (pe_callB call_isi (by rfl) W.isi (by decide +kernel) (pa_cons (pv 0) (pa_cons (pe_bltn (v := .ty "tuple") rfl W.tuple boot_tuple' rfl) pa_nil))))) (pss_one (ps_ret pe_bl)) pss_nil)
      (pss_cons (ps_if (pt_not (pt_val (pe_callB (cr_all rfl) (by rfl) W.all (by decide +kernel) (pa_cons (pe_lc (own := [("state", 2)]) (g := gName 2) (tt := tYes) rfl scIsChoice.nd (pi_tup (pv 0)) (blkOk_by (N := nIsChoice) (sc := defScope sIsChoice) (by decide +kernel)) (fun _ _ _ _ _ => pg_name (i := 2) scIsChoice.nd rfl (Or.inl rfl)) (fun _ _ _ _ _ => pts_nil)
        (fun _ _ _ _ _ => pe_call GB hr rfl D.mB D.B.kp D.bB .nil pass0 (pa_cons (pv 2) (pa_cons pe_int (pa_cons (pe_op op_sub (pv 1) pe_int) pa_nil))))) pa_nil)))) (pss_one (ps_ret pe_bl)) pss_nil)
      (pss_one (ps_ret (pe_callB (cr_all rfl) (by rfl) W.all (by decide +kernel) (pa_cons (pe_lc (own := [("low", 3), ("high", 4)]) (g := gTup K 2 (gCons (gName 3) (gCons (gName 4) gNil))) (tt := tYes) rfl scIsChoice.nd (RZ.pi_zipA rfl Zx.zip (pa_cons (pv 0) (pa_cons (pe_slice sl_tupA (pv 0) (po_some pe_int) po_none) pa_nil))) (blkOk_by (N := nIsChoice) (sc := defScope sIsChoice) (by decide +kernel))
        (fun _ _ _ _ _ => pg_tup rfl (pgs_cons (pg_name (i := 3) scIsChoice.nd rfl (Or.inl rfl)) (pgs_cons (pg_name (i := 4) scIsChoice.nd rfl (Or.inl rfl)) pgs_nil))) (fun _ _ _ _ _ => pts_nil) (fun _ _ _ _ _ => pe_cmpR op_lt (pv 3) (pv 4) (nomark _))) pa_nil))))), ?_⟩
    refine ⟨_, rfl, .ref a, .ty "tuple", _, .type "tuple", true, rfl, .ty _, ty_tup ha, kit_tup, _, rfl, ?_⟩
    refine iteF ?_
    refine ⟨_, rfl, a, rfl, ⟨_, ha⟩, fun C nC => ?_⟩
    refine lc_it (walk_tup (K := K) (a := a) (xs := xs.map V.int)) (fun j H9 => H9 C = some (.lst (((xs.take j).map (inside n)).map V.bl)) ∧ Same H H9)
      ⟨upd_same, Same.new (Same.refl H) nC⟩ (fun i H9 _ ⟨_, z⟩ => sqt_same z ha) ?_ ?_
    · rintro i v H9 H9' hi ⟨q1, q2⟩ ⟨rfl, hv⟩
      refine ⟨rfl, tYes_if ?_⟩
      rw [List.getElem?_map] at hv
      cases e : xs[i]? with
      | none =>
        rw [e] at hv
        cases hv
      | some y =>
        rw [e] at hv
        cases hv
        refine ⟨_, rfl, _, rfl, _, _, rfl, rfl, .int y, 0, n - 1, .type "int", false, true, rfl, .base (.int y), kit_int_bool, kit_int_int, (fun z => by cases z), (fun _ z => by cases z), fun _ _ => ⟨y, rfl, ?_⟩⟩
        refine ⟨_, q1, ?_, ?_, fun b o h => ?_⟩
        · rw [List.length_map, List.length_map, List.length_take]
          have l : sizeLine = 16777216 := sizeLine_eq
          omega
        · rw [upd_same, take_snoc e, List.map_append, List.map_append]
          rfl
        · rw [upd_ne (fun z => by rw [z, nC] at h; cases h)]
          exact q2 b o h
    · rintro H9 ⟨q1, q2⟩
      have et : xs.take (xs.map V.int).length = xs := by
        rw [List.length_map]
        exact List.take_length
      rw [et] at q1
      refine ⟨C, _, rfl, SqL.of q1, _, rfl, ?_⟩
      rw [List.all_map]
      unfold choiceOk at k
      have ea : xs.all (id ∘ inside n) = xs.all (inside n) := rfl
      rw [ea]
      cases h1 : xs.all (inside n) with
      | false =>
        rw [h1] at k
        exact iteT (k H9 q2)
      | true =>
        rw [h1] at k
        refine iteF ?_
        have ha9 := sqt_same q2 ha
        refine ⟨_, rfl, _, rfl, 1, rfl, a, _, rfl, ha9, ?_⟩
        have h1x : HT.sIx (xs.map V.int).length 0 (some 1) = min 1 xs.length := by
          have e : HT.sIx (xs.map V.int).length 0 (some ((1 : Nat) : Int)) = min 1 (xs.map V.int).length := HT.sIx_nat _ _ _
          rw [List.length_map] at e
          rw [List.length_map]
          exact e
        refine ⟨fun hw => ?_, fun hw p np => ?_⟩
        · have nil : xs = [] := by
            have := hw.1
            rw [h1x] at this
            exact List.eq_nil_of_length_eq_zero (by omega)
          have hd : (xs.drop 1).map V.int = xs.map V.int := by
            rw [nil]
            rfl
          refine ⟨a, a, xs.map V.int, (xs.drop 1).map V.int, rfl, .inr ⟨sqt_same q2 ha, (by rw [hd]; exact sqt_same q2 ha), fun G nG => ?_⟩⟩
          have sH : Same H H9 := q2
          have hz : SqT K H9 a ((xs.drop 1).map V.int) := (by rw [hd]; exact sqt_same q2 ha)
          generalize H9 = H10 at nG sH hz ⊢
          have lc : (climbs xs).length = min xs.length (xs.drop 1).length := by
            unfold climbs
            rw [List.length_map, List.length_zip]
          refine lc_it (walk_zT (K := K) (a := a) (b := a) (xs := xs.map V.int) (ys := (xs.drop 1).map V.int) (n := (climbs xs).length) (by rw [lc, List.length_map, List.length_map])) (fun j H9 => H9 G = some (.lst (((climbs xs).take j).map V.bl)) ∧ ∀ b o, b ≠ G → H10 b = some o → H9 b = some o)
            ⟨upd_same, fun b o hb h => keep_new h nG⟩ (fun i H9 _ ⟨_, z⟩ => ?_) ?_ ?_
          · have z' : ∀ c ys, SqT K H10 c ys → SqT K H9 c ys := fun c ys h => by
              rcases h with (h | ⟨o, h⟩) | h
              · exact .inl (.inl (z _ _ (fun e => by rw [e, nG] at h; cases h) h))
              · exact .inl (.inr ⟨o, z _ _ (fun e => by rw [e, nG] at h; cases h) h⟩)
              · exact .inr h
            exact ⟨z' _ _ (sqt_same sH ha), z' _ _ hz⟩
          · rintro i v H11 H12 hi ⟨p1, p2⟩ ⟨T', u1, u2, rfl, nT, rfl, hu1, hu2⟩
            refine ⟨T', _, rfl, SqT.of upd_same, rfl, _, _, rfl, _, _, rfl, rfl, rfl, tYes_if ?_⟩
            have hu1 : (xs.map V.int)[i]? = some u1 := hu1
            have hu2 : ((xs.drop 1).map V.int)[i]? = some u2 := hu2
            rw [List.getElem?_map] at hu1 hu2
            cases e1 : xs[i]? with
            | none =>
              rw [e1] at hu1
              cases hu1
            | some y1 =>
              cases e2 : (xs.drop 1)[i]? with
              | none =>
                rw [e2] at hu2
                cases hu2
              | some y2 =>
                rw [e1] at hu1
                rw [e2] at hu2
                cases hu1
                cases hu2
                have hu : (climbs xs)[i]? = some (decide (y1 < y2)) := by
                  unfold climbs
                  rw [List.getElem?_map, zip_at e1 e2]
                  rfl
                refine ⟨_, rfl, _, rfl, _, _, rfl, rfl, _, keep_new p1 nT, ?_, ?_, fun b' o hb' h => by rw [upd_ne hb']; exact keep_new (p2 b' o hb' h) nT⟩
                · rw [List.length_map, List.length_take]
                  have : (climbs xs).length ≤ xs.length := by rw [lc]; exact Nat.min_le_left _ _
                  have l : sizeLine = 16777216 := sizeLine_eq
                  omega
                · rw [upd_same, take_snoc hu, List.map_append]
                  rfl
          · rintro H11 ⟨p1, p2⟩
            rw [List.take_length] at p1
            exact ⟨G, _, rfl, SqL.of p1, k H11 fun b o h => p2 b o (fun z => by rw [z] at h; have := sH _ _ h; rw [nG] at this; cases this) (sH _ _ h)⟩
        · have hd : cutV (xs.map V.int) (some 1) none = (xs.drop 1).map V.int := by
            unfold cutV
            rw [h1x, HT.sIx_none, List.length_map, ← List.map_drop, ← List.map_take]
            by_cases h0 : xs.length = 0
            · rw [List.eq_nil_of_length_eq_zero h0]
              rfl
            · have m : min 1 xs.length = 1 := by omega
              rw [m, List.take_of_length_le (by rw [List.length_drop]; omega)]
          refine ⟨a, p, xs.map V.int, (xs.drop 1).map V.int, rfl, .inr ⟨sqt_same (Same.new q2 np) ha, (by rw [hd]; exact SqT.of upd_same), fun G nG => ?_⟩⟩
          have sH : Same H (upd H9 p (.tup (cutV (xs.map V.int) (some 1) none))) := (Same.new q2 np)
          have hz : SqT K (upd H9 p (.tup (cutV (xs.map V.int) (some 1) none))) p ((xs.drop 1).map V.int) := (by rw [hd]; exact SqT.of upd_same)
          generalize (upd H9 p (.tup (cutV (xs.map V.int) (some 1) none))) = H10 at nG sH hz ⊢
          have lc : (climbs xs).length = min xs.length (xs.drop 1).length := by
            unfold climbs
            rw [List.length_map, List.length_zip]
          refine lc_it (walk_zT (K := K) (a := a) (b := p) (xs := xs.map V.int) (ys := (xs.drop 1).map V.int) (n := (climbs xs).length) (by rw [lc, List.length_map, List.length_map])) (fun j H9 => H9 G = some (.lst (((climbs xs).take j).map V.bl)) ∧ ∀ b o, b ≠ G → H10 b = some o → H9 b = some o)
            ⟨upd_same, fun b o hb h => keep_new h nG⟩ (fun i H9 _ ⟨_, z⟩ => ?_) ?_ ?_
          · have z' : ∀ c ys, SqT K H10 c ys → SqT K H9 c ys := fun c ys h => by
              rcases h with (h | ⟨o, h⟩) | h
              · exact .inl (.inl (z _ _ (fun e => by rw [e, nG] at h; cases h) h))
              · exact .inl (.inr ⟨o, z _ _ (fun e => by rw [e, nG] at h; cases h) h⟩)
              · exact .inr h
            exact ⟨z' _ _ (sqt_same sH ha), z' _ _ hz⟩
          · rintro i v H11 H12 hi ⟨p1, p2⟩ ⟨T', u1, u2, rfl, nT, rfl, hu1, hu2⟩
            refine ⟨T', _, rfl, SqT.of upd_same, rfl, _, _, rfl, _, _, rfl, rfl, rfl, tYes_if ?_⟩
            have hu1 : (xs.map V.int)[i]? = some u1 := hu1
            have hu2 : ((xs.drop 1).map V.int)[i]? = some u2 := hu2
            rw [List.getElem?_map] at hu1 hu2
            cases e1 : xs[i]? with
            | none =>
              rw [e1] at hu1
              cases hu1
            | some y1 =>
              cases e2 : (xs.drop 1)[i]? with
              | none =>
                rw [e2] at hu2
                cases hu2
              | some y2 =>
                rw [e1] at hu1
                rw [e2] at hu2
                cases hu1
                cases hu2
                have hu : (climbs xs)[i]? = some (decide (y1 < y2)) := by
                  unfold climbs
                  rw [List.getElem?_map, zip_at e1 e2]
                  rfl
                refine ⟨_, rfl, _, rfl, _, _, rfl, rfl, _, keep_new p1 nT, ?_, ?_, fun b' o hb' h => by rw [upd_ne hb']; exact keep_new (p2 b' o hb' h) nT⟩
                · rw [List.length_map, List.length_take]
                  have : (climbs xs).length ≤ xs.length := by rw [lc]; exact Nat.min_le_left _ _
                  have l : sizeLine = 16777216 := sizeLine_eq
                  omega
                · rw [upd_same, take_snoc hu, List.map_append]
                  rfl
          · rintro H11 ⟨p1, p2⟩
            rw [List.take_length] at p1
            exact ⟨G, _, rfl, SqL.of p1, k H11 fun b o h => p2 b o (fun z => by rw [z] at h; have := sH _ _ h; rw [nG] at this; cases this) (sH _ _ h)⟩
end
end M3

set_option Elab.async false
set_option linter.all false
set_option maxRecDepth 100000
set_option maxHeartbeats 8000000
/-! # Leading words -/
namespace M3
open PySem L2
abbrev sLawLed : Stmt := top 72
abbrev sLed : Stmt := top 23
abbrev nLawLed : List Str := ["table", "letters", "word", "start", "place", "letter"]
abbrev nLed : List Str := ["table", "letters", "start", "word", "now", "letter"]
theorem scLawLed : FnScope nLawLed ["table", "letters", "word", "start"] (defScope sLawLed) := ⟨rfl, rfl, rfl, by decide +kernel, rfl, by decide +kernel, by decide +kernel⟩
theorem scLed : FnScope nLed ["table", "letters", "start", "word"] (defScope sLed) := ⟨rfl, rfl, rfl, by decide +kernel, rfl, by decide +kernel, by decide +kernel⟩
/-- tuples of numbers stand at these addresses -/
def Tups (K : PySem.W.Frag) (H : Hp) (us : List V) (t : List (List Nat)) : Prop := us.length = t.length ∧ ∀ (i : Nat) (r : List Nat), t[i]? = some r → ∃ b : Addr, us[i]? = some (V.ref b) ∧ SqT K H b (nts r)
def step (t : List (List Nat)) (x : Str) (q c : Nat) : Nat := (t.getD q []).getD (x.cps.toList.idxOf c) 0
/-- to which state a word leads -/
def goes (t : List (List Nat)) (x : Str) (q : Nat) (cs : List Nat) : Nat := cs.foldl (step t x) q
theorem step_lt {t : List (List Nat)} {x : Str} {n m : Nat} (h : IsTab t n m) (hm : x.cps.toList.length = m) {q c : Nat} (hq : q < n) (hc : c ∈ x.cps.toList) : step t x q c < n := by
  obtain ⟨h1, h2⟩ := h
  have hq' : q < t.length := by omega
  obtain ⟨l1, l2⟩ := h2 t[q] (List.getElem_mem hq')
  have hi : x.cps.toList.idxOf c < t[q].length := by
    rw [l1, ← hm]
    exact List.idxOf_lt_length_of_mem hc
  unfold step
  have e : t.getD q [] = t[q] := by simp [List.getD, List.getElem?_eq_getElem hq']
  rw [e]
  have e2 : t[q].getD (x.cps.toList.idxOf c) 0 = t[q][x.cps.toList.idxOf c] := by simp [List.getD, List.getElem?_eq_getElem hi]
  rw [e2]
  exact l2 _ (List.getElem_mem hi)
theorem goes_lt {t : List (List Nat)} {x : Str} {n m : Nat} (h : IsTab t n m) (hm : x.cps.toList.length = m) : ∀ (cs : List Nat) (q : Nat), q < n → (∀ c ∈ cs, c ∈ x.cps.toList) → goes t x q cs < n
  | [], _, hq, _ => hq
  | c :: cs, q, hq, hc => goes_lt h hm cs (step t x q c) (step_lt h hm hq (hc c List.mem_cons_self)) fun d hd => hc d (List.mem_cons_of_mem _ hd)
theorem occ1 : ∀ a ∈ six, Builtin.Str.occurrences ⟨#[a]⟩ ⟨#[a]⟩ 0 1 1 = [0] := by decide +kernel
theorem occ2 : ∀ a ∈ six, ∀ b ∈ six, a < b → Builtin.Str.occurrences ⟨#[a, b]⟩ ⟨#[a]⟩ 0 2 1 = [0] ∧ Builtin.Str.occurrences ⟨#[a, b]⟩ ⟨#[b]⟩ 0 2 1 = [1] := by decide +kernel
theorem set_occ {x : Str} {n c : Nat} (h : IsSet x n) (h2 : n ≤ 2) (hc : c ∈ x.cps.toList) : Builtin.Str.occurrences x ⟨#[c]⟩ 0 x.length 1 = [x.cps.toList.idxOf c] := by
  obtain ⟨cs, rfl, hl, hp, hm⟩ := h
  match cs, hl, hp, hm with
  | [], _, _, _ => cases hc
  | [a], _, _, hm =>
    have e : c = a := List.mem_singleton.mp hc
    subst e
    have ei : List.idxOf c [c] = 0 := by simp
    show Builtin.Str.occurrences ⟨#[c]⟩ ⟨#[c]⟩ 0 1 1 = [List.idxOf c [c]]
    rw [ei]
    exact occ1 c (hm c List.mem_cons_self)
  | [a, b], _, hp, hm =>
    have lt : a < b := by simpa using hp
    obtain ⟨o1, o2⟩ := occ2 a (hm a List.mem_cons_self) b (hm b (List.mem_cons_of_mem _ List.mem_cons_self)) lt
    rcases List.mem_cons.mp hc with e | e
    · subst e
      have ei : List.idxOf c [c, b] = 0 := by simp
      show Builtin.Str.occurrences ⟨#[c, b]⟩ ⟨#[c]⟩ 0 2 1 = [List.idxOf c [c, b]]
      rw [ei]
      exact o1
    · have e : c = b := List.mem_singleton.mp e
      subst e
      have ei : List.idxOf c [a, c] = 1 := by
        have nb : (a == c) = false := beq_eq_false_iff_ne.mpr (by omega)
        simp [List.idxOf_cons, nb]
      show Builtin.Str.occurrences ⟨#[a, c]⟩ ⟨#[c]⟩ 0 2 1 = [List.idxOf c [a, c]]
      rw [ei]
      exact o2
  | _ :: _ :: _ :: l, hl, _, _ =>
    have hl : l.length + 3 = n := hl
    omega
def spLawLed (K : PySem.W.Frag) : Sp := fun vs H Q _ => ∃ (a : Addr) (x y : Str) (q n m : Nat) (t : List (List Nat)) (us : List V), vs = [.ref a, .str x, .str y, .int q] ∧ SqL K H a us ∧ Tups K H us t ∧ IsTab t n m ∧ IsSet x m ∧ m ≤ 2 ∧ IsW x y ∧ q < n ∧
  Q (.int (goes t x q y.cps.toList : Nat)) H
def spLed (K : PySem.W.Frag) : Sp := fun vs H Q _ => ∃ (a : Addr) (x y : Str) (q n m : Nat) (t : List (List Nat)) (us : List V), vs = [.ref a, .str x, .int q, .str y] ∧ SqT K H a us ∧ Tups K H us t ∧ IsTab t n m ∧ IsSet x m ∧ m ≤ 2 ∧ IsW x y ∧ q < n ∧
  Q (.int (goes t x q y.cps.toList : Nat)) H
theorem goes_snoc {t : List (List Nat)} {x : Str} {q c : Nat} {cs : List Nat} : goes t x q (cs ++ [c]) = step t x (goes t x q cs) c := by
  unfold goes
  rw [List.foldl_append]
  rfl
section
variable {P : Program} {w : World} {K : PySem.W.Frag} {mg : Str → Option Value} {base : Heap}
theorem ok_lawled {f : Addr} {fd : FuncData} (F : Fun K "_law_led" "_law_led" sLawLed f fd) : FnOk P w K mg base CX0 1 f fd ["table", "letters", "word", "start"] (spLawLed K) := by
  refine F.ok scLawLed (fun vs H Q E h => ?_) (fun cdv A outer s H vs Q E hr h => ?_)
  · obtain ⟨a, x, y, q, n, m, t, us, rfl, _⟩ := h
    rfl
  · obtain ⟨a, x, y, q, n, m, t, us, rfl, ha, hT, tab, st, m2, hw, hq, k⟩ := h
    refine ⟨_, pss_cons (ps_set (i := 4) scLawLed.nd rfl (Or.inl rfl) (pv 3))
      (pss_cons (ps_for PassesOwn.never rfl (pi_str (pv 2)) (pg_name (i := 5) scLawLed.nd rfl (Or.inl rfl))
        (pss_one (ps_set (i := 4) scLawLed.nd rfl (Or.inl rfl) (pe_ix ix_tup (pe_ix ix_list (pv 0) (pv 4) (fun _ _ => rfl)) (pe_bm PySem.F.plainAttrs_str PySem.F.slot_str_index PySem.F.type_str_index mt_sindex (pv 1) (pa_cons (pv 5) pa_nil)) (fun _ _ => rfl)))))
      (pss_one (ps_ret (pv 4)))), ?_⟩
    have hm : x.cps.toList.length = m := by
      obtain ⟨cs, e, hl, _⟩ := st
      rw [e]
      simpa using hl
    refine ⟨_, rfl, _, rfl, y, rfl, for_it walk_str (fun i σ H' => H' = H ∧ ∃ l : Option V, σ = [some (.ref a), some (.str x), some (.str y), some (.int q), some (.int ((goes t x q (y.cps.toList.take i) : Nat) : Int)), l]) ⟨rfl, none, rfl⟩ (fun _ _ _ _ _ => trivial) ?_ ?_⟩
    · rintro i v σ H1 H2 hi ⟨rfl, l, rfl⟩ ⟨rfl, c, hc, rfl⟩
      have hc' : y.cps.toList[i]? = some c := by simpa using hc
      have cx : c ∈ x.cps.toList := hw c (List.mem_of_getElem? hc')
      have hq2 : goes t x q (y.cps.toList.take i) < n := goes_lt tab hm _ _ hq fun d hd => hw d (List.mem_of_mem_take hd)
      have eg : goes t x q (y.cps.toList.take (i + 1)) = step t x (goes t x q (y.cps.toList.take i)) c := by
        rw [take_snoc hc', goes_snoc]
      generalize goes t x q (y.cps.toList.take i) = p at hq2 eg ⊢
      have hp : p < t.length := by rw [tab.1]; exact hq2
      obtain ⟨b, b1, b2⟩ := hT.2 p t[p] (List.getElem?_eq_getElem hp)
      have hi2 : x.cps.toList.idxOf c < t[p].length := by
        rw [(tab.2 t[p] (List.getElem_mem hp)).1, ← hm]
        exact List.idxOf_lt_length_of_mem cx
      refine ⟨_, rfl, _, rfl, a, us, (p : Int), .ref b, rfl, rfl, ha, atI_nat b1, ?_⟩
      have es : step t x p c = t[p].getD (x.cps.toList.idxOf c) 0 := by
        unfold step
        have e : t.getD p [] = t[p] := by simp [List.getD, List.getElem?_eq_getElem hp]
        rw [e]
      rw [es] at eg
      refine ⟨_, rfl, rfl, _, rfl, x, ⟨#[c]⟩, x.cps.toList.idxOf c, [], rfl, rfl, set_occ st m2 cx, b, nts t[p], _, _, rfl, rfl, b2, nts_at hi2, ?_⟩
      rw [eg]
      exact ⟨rfl, some (.str ⟨#[c]⟩), rfl⟩
    · rintro σ H1 ⟨rfl, l, rfl⟩
      refine ⟨_, rfl, ?_⟩
      have et : y.cps.toList.take y.cps.size = y.cps.toList := List.take_of_length_le (by simp)
      rw [et]
      exact k
theorem ok_led {f : Addr} {fd : FuncData} (F : Fun K "led" "led" sLed f fd) : FnOk P w K mg base CX0 1 f fd ["table", "letters", "start", "word"] (spLed K) := by
  refine F.ok scLed (fun vs H Q E h => ?_) (fun cdv A outer s H vs Q E hr h => ?_)
  · obtain ⟨a, x, y, q, n, m, t, us, rfl, _⟩ := h
    rfl
  · obtain ⟨a, x, y, q, n, m, t, us, rfl, ha, hT, tab, st, m2, hw, hq, k⟩ := h
    refine ⟨_, pss_cons (ps_set (i := 4) scLed.nd rfl (Or.inl rfl) (pv 2))
      (pss_cons (ps_for PassesOwn.never rfl (pi_str (pv 3)) (pg_name (i := 5) scLed.nd rfl (Or.inl rfl))
        (pss_one (ps_set (i := 4) scLed.nd rfl (Or.inl rfl) (pe_ix ix_tup (pe_ix ix_tup (pv 0) (pv 4) (fun _ _ => rfl)) (pe_bm PySem.F.plainAttrs_str PySem.F.slot_str_index PySem.F.type_str_index mt_sindex (pv 1) (pa_cons (pv 5) pa_nil)) (fun _ _ => rfl)))))
      (pss_one (ps_ret (pv 4)))), ?_⟩
    have hm : x.cps.toList.length = m := by
      obtain ⟨cs, e, hl, _⟩ := st
      rw [e]
      simpa using hl
    refine ⟨_, rfl, _, rfl, y, rfl, for_it walk_str (fun i σ H' => H' = H ∧ ∃ l : Option V, σ = [some (.ref a), some (.str x), some (.int q), some (.str y), some (.int ((goes t x q (y.cps.toList.take i) : Nat) : Int)), l]) ⟨rfl, none, rfl⟩ (fun _ _ _ _ _ => trivial) ?_ ?_⟩
    · rintro i v σ H1 H2 hi ⟨rfl, l, rfl⟩ ⟨rfl, c, hc, rfl⟩
      have hc' : y.cps.toList[i]? = some c := by simpa using hc
      have cx : c ∈ x.cps.toList := hw c (List.mem_of_getElem? hc')
      have hq2 : goes t x q (y.cps.toList.take i) < n := goes_lt tab hm _ _ hq fun d hd => hw d (List.mem_of_mem_take hd)
      have eg : goes t x q (y.cps.toList.take (i + 1)) = step t x (goes t x q (y.cps.toList.take i)) c := by
        rw [take_snoc hc', goes_snoc]
      generalize goes t x q (y.cps.toList.take i) = p at hq2 eg ⊢
      have hp : p < t.length := by rw [tab.1]; exact hq2
      obtain ⟨b, b1, b2⟩ := hT.2 p t[p] (List.getElem?_eq_getElem hp)
      have hi2 : x.cps.toList.idxOf c < t[p].length := by
        rw [(tab.2 t[p] (List.getElem_mem hp)).1, ← hm]
        exact List.idxOf_lt_length_of_mem cx
      refine ⟨_, rfl, _, rfl, a, us, (p : Int), .ref b, rfl, rfl, ha, atI_nat b1, ?_⟩
      have es : step t x p c = t[p].getD (x.cps.toList.idxOf c) 0 := by
        unfold step
        have e : t.getD p [] = t[p] := by simp [List.getD, List.getElem?_eq_getElem hp]
        rw [e]
      rw [es] at eg
      refine ⟨_, rfl, rfl, _, rfl, x, ⟨#[c]⟩, x.cps.toList.idxOf c, [], rfl, rfl, set_occ st m2 cx, b, nts t[p], _, _, rfl, rfl, b2, nts_at hi2, ?_⟩
      rw [eg]
      exact ⟨rfl, some (.str ⟨#[c]⟩), rfl⟩
    · rintro σ H1 ⟨rfl, l, rfl⟩
      refine ⟨_, rfl, ?_⟩
      have et : y.cps.toList.take y.cps.size = y.cps.toList := List.take_of_length_le (by simp)
      rw [et]
      exact k
end
end M3

set_option Elab.async false
set_option linter.all false
set_option maxRecDepth 100000
set_option maxHeartbeats 8000000
/-! # Machines made -/
namespace M3
open PySem L2
abbrev sInit : Stmt := inClass (top 38) 0
abbrev nInit : List Str := ["self", "letters", "table", "ends"]
theorem scInit : FnScope nInit nInit (defScope sInit) := ⟨rfl, rfl, rfl, by decide +kernel, rfl, by decide +kernel, by decide +kernel⟩
/-- the attributes of a machine, in the order in which they are stored -/
def flds (x : Str) (a b : Addr) : List (Str × V) := putF "_ends" (.ref b) (putF "_table" (.ref a) (putF "_letters" (.str x) []))
/-- the class InvalidMachine, raised -/
structure TxE (K : PySem.W.Frag) (mg : Str → Option Value) (c : Addr) : Prop where
  x : PySem.W.excIn K c [.type "ValueError", .type "Exception", .type "BaseException", .type "object"] "ValueError.__new__" = true
  g : mg "InvalidMachine" = some (.ref c)
  k : PySem.W.keepIn K (.ref c) = true
  b : PySem.W.subIn K (.ref c) (.type "BaseException") = some true
  t : PySem.W.typeIn K (.ref c) = some (.type "type")
structure TxK (K : PySem.W.Frag) (mg : Str → Option Value) (C : Addr) : Prop where
  cl : Cls K C
  nL : NoAttr K C "_letters"
  nT : NoAttr K C "_table"
  nE : NoAttr K C "_ends"
  mS : ∃ t, mg "MAX_STATES" = some (.int 4 t)
theorem set_let1 : ∀ a ∈ six, isLet ⟨#[a]⟩ = true := by decide +kernel
theorem set_let2 : ∀ a ∈ six, ∀ b ∈ six, a < b → isLet ⟨#[a, b]⟩ = true := by decide +kernel
theorem set_let {x : Str} {n : Nat} (h : IsSet x n) (h1 : 1 ≤ n) (h2 : n ≤ 2) : isLet x = true := by
  obtain ⟨cs, rfl, hl, hp, hm⟩ := h
  match cs, hl, hp, hm with
  | [], hl, _, _ =>
    have hl : 0 = n := hl
    omega
  | [a], _, _, hm => exact set_let1 a (hm a List.mem_cons_self)
  | [a, b], _, hp, hm => exact set_let2 a (hm a List.mem_cons_self) b (hm b (List.mem_cons_of_mem _ List.mem_cons_self)) (by simpa using hp)
  | _ :: _ :: _ :: l, hl, _, _ =>
    have hl : l.length + 3 = n := hl
    omega
def asInt (t : List (List Nat)) : List (List Int) := t.map fun r => r.map Int.ofNat
theorem inside_nat {n i : Nat} (h : i < n) : inside n (Int.ofNat i) = true := by
  unfold inside
  have a : (0 : Int) ≤ Int.ofNat i := Int.natCast_nonneg i
  have b : Int.ofNat i ≤ (n : Int) - 1 := by
    show ((i : Nat) : Int) ≤ (n : Int) - 1
    omega
  rw [decide_eq_true a, decide_eq_true b]
  rfl
theorem tab_ok {t : List (List Nat)} {n m : Nat} (h : IsTab t n m) (h1 : 1 ≤ n) (h4 : n ≤ 4) : tabOk (asInt t) (m : Int) 4 = true := by
  obtain ⟨e, h⟩ := h
  have le : (asInt t).length = n := by
    unfold asInt
    rw [List.length_map, e]
  unfold tabOk
  rw [le, decide_eq_true (show (1 : Int) ≤ (n : Int) by omega), decide_eq_true (show (n : Int) ≤ 4 by omega)]
  have q : ((asInt t).all fun r => decide ((r.length : Int) = (m : Int)) && r.all (inside (n : Int))) = true := by
    rw [List.all_eq_true]
    intro r hr
    unfold asInt at hr
    obtain ⟨r0, hr0, rfl⟩ := List.mem_map.mp hr
    obtain ⟨l1, l2⟩ := h r0 hr0
    rw [List.length_map, l1, decide_eq_true rfl, Bool.true_and, List.all_eq_true]
    intro i hi
    obtain ⟨j, hj, rfl⟩ := List.mem_map.mp hi
    exact inside_nat (l2 j hj)
  rw [q]
  rfl
theorem climbs_up : ∀ es : List Nat, es.Pairwise (· < ·) → (climbs (es.map Int.ofNat)).all id = true
  | [], _ => rfl
  | [_], _ => rfl
  | a :: b :: l, h => by
    have h' := List.pairwise_cons.mp h
    have ih := climbs_up (b :: l) h'.2
    have lt : (a : Int) < (b : Int) := by
      have := h'.1 b List.mem_cons_self
      omega
    show (decide ((a : Int) < (b : Int)) && (climbs ((b :: l).map Int.ofNat)).all id) = true
    rw [decide_eq_true lt, ih]
    rfl
theorem choice_ok {es : List Nat} {n : Nat} (h : es.Pairwise (· < ·)) (hl : ∀ e ∈ es, e < n) : choiceOk (es.map Int.ofNat) (n : Int) = true := by
  unfold choiceOk
  rw [climbs_up es h, Bool.and_true, List.all_eq_true]
  intro i hi
  obtain ⟨j, hj, rfl⟩ := List.mem_map.mp hi
  exact inside_nat (hl j hj)
theorem tups_lines {K : PySem.W.Frag} {H : Hp} {us : List V} {t : List (List Nat)} {n m : Nat} (h : Tups K H us t) (tb : IsTab t n m) (hm : m ≤ 1000) : Lines K H us (asInt t) := by
  refine ⟨by unfold asInt; rw [List.length_map]; exact h.1, fun i r e => ?_⟩
  unfold asInt at e
  rw [List.getElem?_map] at e
  cases e0 : t[i]? with
  | none =>
    rw [e0] at e
    cases e
  | some r0 =>
    rw [e0] at e
    cases e
    obtain ⟨b, b1, b2⟩ := h.2 i r0 e0
    refine ⟨b, b1, by rw [← nts_eq']; exact b2, ?_⟩
    rw [List.length_map, (tb.2 r0 (List.mem_of_getElem? e0)).1]
    exact hm
end M3

set_option Elab.async false
set_option linter.all false
set_option maxRecDepth 100000
set_option maxHeartbeats 8000000
/-! # Machine.__init__ -/
namespace M3
open PySem L2
/-- the facts of the defs of tables -/
structure DefsT (K : PySem.W.Frag) (mg : Str → Option Value) where
  (fL fT fN fC : Addr)
  (dL dT dN dC : FuncData)
  L : Fun K "is_letters" "is_letters" sIsLetters fL dL
  bL : Binds K dL ["value"] []
  mL : mg "is_letters" = some (.ref fL)
  T : Fun K "is_table" "is_table" sIsTable fT dT
  bT : Binds K dT ["value", "width", "most"] []
  mT : mg "is_table" = some (.ref fT)
  N : Fun K "is_line" "is_line" sIsLine fN dN
  bN : Binds K dN ["value", "width", "size"] []
  mN : mg "is_line" = some (.ref fN)
  C : Fun K "is_choice" "is_choice" sIsChoice fC dC
  bC : Binds K dC ["value", "size"] []
  mC : mg "is_choice" = some (.ref fC)
def spInit (K : PySem.W.Frag) (C : Addr) : Sp := fun vs H Q _ => ∃ (p dx a b : Addr) (x : Str) (us : List V) (t : List (List Nat)) (es : List Nat) (n m : Nat), vs = [.ref p, .str x, .ref a, .ref b] ∧ H p = some (.ins C dx []) ∧
  IsSet x m ∧ 1 ≤ m ∧ m ≤ 2 ∧ SqT K H a us ∧ Tups K H us t ∧ IsTab t n m ∧ 1 ≤ n ∧ n ≤ 4 ∧ SqT K H b (nts es) ∧ es.Pairwise (· < ·) ∧ (∀ e ∈ es, e < n) ∧
  ∀ H' : Hp, H' p = some (.ins C dx (flds x a b)) → (∀ c o, c ≠ p → H c = some o → H' c = some o) → Q .non H'
section
variable {P : Program} {w : World} {K : PySem.W.Frag} {mg : Str → Option Value} {base : Heap}
theorem kit_str : PySem.W.kitOne K (.type "str") (.type "str") = some true := kit_ty (by decide +kernel)
theorem set_len {x : Str} {m : Nat} (h : IsSet x m) : x.length = m := by
  obtain ⟨cs, rfl, hl, _⟩ := h
  simpa [Str.length] using hl
theorem asc_len {es : List Nat} : ∀ {n : Nat}, es.Pairwise (· < ·) → (∀ e ∈ es, e < n) → es.length ≤ n := by
  induction es with
  | nil => intro n _ _; exact Nat.zero_le _
  | cons a l ih =>
    intro n hp hl
    have hp' := List.pairwise_cons.mp hp
    have ha := hl a List.mem_cons_self
    have hm : ∀ (k : Nat) (l : List Nat), l.Pairwise (· < ·) → (∀ e ∈ l, k < e) → (∀ e ∈ l, e < n) → k < n → l.length + k + 1 ≤ n := by
      intro k l
      induction l generalizing k with
      | nil => intro _ _ _ h; simp; omega
      | cons b l ih2 =>
        intro q1 q2 q3 q4
        have q1' := List.pairwise_cons.mp q1
        have := ih2 b q1'.2 q1'.1 (fun e he => q3 e (List.mem_cons_of_mem _ he)) (q3 b List.mem_cons_self)
        have kb := q2 b List.mem_cons_self
        simp
        omega
    have := hm a l hp'.2 hp'.1 (fun e he => hl e (List.mem_cons_of_mem _ he)) ha
    simp
    omega
theorem ok_init {f C c : Addr} {fd : FuncData} (F : C8.Fun K "__init__" "Machine.__init__" sInit f fd) (D : DefsT K mg) (DW : DefsW K mg) (W : TxW mg) (Zx : TxZ mg) (TE : TxE K mg c) (TK : TxK K mg C) : FnOk P w K mg base CX0 4 f fd nInit (spInit K C) := by
  have GL : FnOk P w K mg base CX0 3 D.fL D.dL ["value"] (spIsLetters K) := ok_isletters D.L DW W Zx
  have GT : FnOk P w K mg base CX0 3 D.fT D.dT ["value", "width", "most"] (spIsTable K) := ok_istable D.T D.N D.bN D.mN DW W Zx
  have GC : FnOk P w K mg base CX0 2 D.fC D.dC ["value", "size"] (spIsChoice K) := ok_ischoice D.C DW W Zx
  obtain ⟨ts, ms⟩ := TK.mS
  refine C8.fn0 F scInit (fun vs H Q E h => ?_) (fun cdv A outer s H vs Q E hr h => ?_)
  · obtain ⟨p, dx, a, b, x, us, t, es, n, m, rfl, _⟩ := h
    rfl
  · obtain ⟨p, dx, a, b, x, us, t, es, n, m, rfl, hp, hx, m1, m2, ha, hT, tb, n1, n4, hb, up, lt, k⟩ := h
    have hr2 : Room 2 _ := hr.mono (by decide)
    refine ⟨_, pss_cons (ps_if (pt_not (pt_val (pe_call GL hr rfl D.mL D.L.kp D.bL .nil pass0 (pa_cons (pv 1) pa_nil)))) (pss_one (ps_raise rfl takes0 (pmk_own PySem.F.excBase_ValueError TE.x TE.g TE.k (raises_own TE.b TE.t) rfl))) pss_nil)
      (pss_cons (ps_if (pt_not (pt_val (pe_call GT hr rfl D.mT D.T.kp D.bT .nil pass0 (pa_cons (pv 2) (pa_cons (pe_callB call_len_str (by rfl) Zx.len PySem.boot_len (pa_cons (pv 1) pa_nil)) (pa_cons (pe_glob (v := .int 4) rfl ms ⟨_, rfl⟩) pa_nil)))))) (pss_one (ps_raise rfl takes0 (pmk_own PySem.F.excBase_ValueError TE.x TE.g TE.k (raises_own TE.b TE.t) rfl))) pss_nil)
      (pss_cons (ps_if (pt_not (pt_val (pe_call GC hr2 rfl D.mC D.C.kp D.bC .nil pass0 (pa_cons (pv 3) (pa_cons (pe_callB call_len_seq (by rfl) Zx.len PySem.boot_len (pa_cons (pv 2) pa_nil)) pa_nil))))) (pss_one (ps_raise rfl takes0 (pmk_own PySem.F.excBase_ValueError TE.x TE.g TE.k (raises_own TE.b TE.t) rfl))) pss_nil)
      (pss_cons (ps_fld (pv 0) (pv 1) rfl) (pss_cons (ps_fld (pv 0) (pv 2) rfl) (pss_one (ps_fld (pv 0) (pv 3) rfl)))))), ?_⟩
    have lx := set_len hx
    refine ⟨_, rfl, .str x, .type "str", true, rfl, .base (.str x), kit_str, (fun z => by cases z), fun _ => ⟨x, rfl, by omega, fun H1 s1 => ⟨_, rfl, ?_⟩⟩⟩
    rw [set_let hx m1 m2]
    refine iteF ?_
    refine ⟨_, rfl, _, rfl, x, rfl, Nat.le_trans (show x.length ≤ 2 by omega) (by decide), a, us, asInt t, (x.length : Int), 4, rfl, sqt_same s1 ha, (tups_lines hT tb (by omega)).same s1, ?_, fun H2 s2 => ⟨_, rfl, ?_⟩⟩
    · unfold asInt
      rw [List.length_map, tb.1]
      omega
    rw [lx, tab_ok tb n1 n4]
    refine iteF ?_
    have s12 := s1.trans s2
    have lu : us.length = n := by rw [hT.1, tb.1]
    refine ⟨_, rfl, _, rfl, a, us, rfl, .inr (sqt_same s12 ha), b, es.map Int.ofNat, (us.length : Int), rfl, by rw [← nts_eq']; exact sqt_same s12 hb, ?_, fun H3 s3 => ⟨_, rfl, ?_⟩⟩
    · rw [List.length_map]
      have := asc_len up lt
      omega
    rw [lu, choice_ok up lt]
    refine iteF ?_
    have s13 := s12.trans s3
    have hp3 := s13 _ _ hp
    refine ⟨_, rfl, _, rfl, p, C, dx, [], rfl, hp3, TK.cl, TK.nL, (by show 0 < 1000; decide), ?_⟩
    refine ⟨_, rfl, _, rfl, p, C, dx, _, rfl, upd_same, TK.cl, TK.nT, (by show 1 < 1000; decide), ?_⟩
    refine ⟨_, rfl, _, rfl, p, C, dx, _, rfl, upd_same, TK.cl, TK.nE, (by show 2 < 1000; decide), ?_⟩
    refine k _ upd_same fun c' o hc h => ?_
    rw [upd_ne hc, upd_ne hc, upd_ne hc]
    exact s13 _ _ h
end
end M3

set_option Elab.async false
set_option linter.all false
set_option maxRecDepth 100000
set_option maxHeartbeats 8000000
/-! # A plain machine made one -/
namespace M3
open PySem L2
abbrev sMade : Stmt := top 71
theorem scMade : FnScope ["plain"] ["plain"] (defScope sMade) := ⟨rfl, rfl, rfl, by decide +kernel, rfl, by decide +kernel, by decide +kernel⟩
/-- a machine stands at p: letters x, table t, ends es -/
structure Mach (K : PySem.W.Frag) (C : Addr) (H : Hp) (p : Addr) (x : Str) (t : List (List Nat)) (es : List Nat) : Prop where
  ex : ∃ (dx a b : Addr) (us : List V), H p = some (.ins C dx (flds x a b)) ∧ SqT K H a us ∧ Tups K H us t ∧ SqT K H b (nts es)
/-- tuples that stand as such -/
theorem tups_of {K : PySem.W.Frag} {d C : Addr} {H : Hp} {us : List V} {t : List (List Nat)} (h : RowsT d C H us t) : Tups K H us t := ⟨h.1, fun i r e => by
  obtain ⟨b, b1, _, _, b4⟩ := h.2 i r e
  exact ⟨b, b1, SqT.of b4⟩⟩
theorem Tups.same {K : PySem.W.Frag} {H H' : Hp} {us : List V} {t : List (List Nat)} (h : Tups K H us t) (s : Same H H') : Tups K H' us t := ⟨h.1, fun i r e => by
  obtain ⟨b, b1, b2⟩ := h.2 i r e
  exact ⟨b, b1, sqt_same s b2⟩⟩
theorem Mach.same {K : PySem.W.Frag} {C p : Addr} {H H' : Hp} {x : Str} {t : List (List Nat)} {es : List Nat} (h : Mach K C H p x t es) (s : Same H H') : Mach K C H' p x t es := by
  obtain ⟨dx, a, b, us, h1, h2, h3, h4⟩ := h
  exact ⟨dx, a, b, us, s _ _ h1, sqt_same s h2, h3.same s, sqt_same s h4⟩
abbrev plainK (x : V) (a b : V) : List (Key × V) := [(.inr "letters", x), (.inr "table", a), (.inr "ends", b)]
theorem plain_l {x a b : V} : valV (plainK x a b) (.inr "letters") = some x := by rfl
theorem plain_t {x a b : V} : valV (plainK x a b) (.inr "table") = some a := by rfl
theorem plain_e {x a b : V} : valV (plainK x a b) (.inr "ends") = some b := by rfl
theorem get_l {H : Hp} {p : Addr} {x a b : V} (h : H p = some (.dK (plainK x a b))) : DGet H p (.str "letters") (some x) := by
  have g := DGet.k (k := .inr "letters") h
  rw [plain_l] at g
  exact g
theorem get_t {H : Hp} {p : Addr} {x a b : V} (h : H p = some (.dK (plainK x a b))) : DGet H p (.str "table") (some a) := by
  have g := DGet.k (k := .inr "table") h
  rw [plain_t] at g
  exact g
theorem get_e {H : Hp} {p : Addr} {x a b : V} (h : H p = some (.dK (plainK x a b))) : DGet H p (.str "ends") (some b) := by
  have g := DGet.k (k := .inr "ends") h
  rw [plain_e] at g
  exact g
def spMade (K : PySem.W.Frag) (C : Addr) : Sp := fun vs H Q _ => ∃ (p d : Addr) (x : Str) (t : List (List Nat)) (es : List Nat) (m : Nat), vs = [.ref p] ∧ Plain d H p x t es ∧ IsSet x m ∧ 1 ≤ m ∧ m ≤ 2 ∧ 1 ≤ t.length ∧ t.length ≤ 4 ∧
  ∀ (q : Addr) (H' : Hp), H q = none → Mach K C H' q x t es → Same H H' → Q (.ref q) H'
section
variable {P : Program} {w : World} {K : PySem.W.Frag} {mg : Str → Option Value} {base : Heap}
theorem ok_made {f g C c : Addr} {fd gd : FuncData} (F : Fun K "_law_made_machine" "_law_made_machine" sMade f fd) (G : C8.Fun K "__init__" "Machine.__init__" sInit g gd) (bG : Binds K gd nInit []) (MK : Mk K C g) (mC : mg "Machine" = some (.ref C)) (D : DefsT K mg) (DW : DefsW K mg) (W : TxW mg) (Zx : TxZ mg) (M : TxM mg) (TE : TxE K mg c) (TK : TxK K mg C) :
    FnOk P w K mg base CX0 6 f fd ["plain"] (spMade K C) := by
  have GI : FnOk P w K mg base CX0 4 g gd nInit (spInit K C) := ok_init G D DW W Zx TE TK
  refine F.ok scMade (fun vs H Q E h => ?_) (fun cdv A outer s H vs Q E hr h => ?_)
  · obtain ⟨p, d, x, t, es, m, rfl, _⟩ := h
    rfl
  · obtain ⟨p, d, x, t, es, m, rfl, ⟨⟨a, b, us, hp, ad, ha, R, bd, hb⟩, tb, up, lt⟩, hx, m1, m2, t1, t4, k⟩ := h
    have hu := hu_of hr
    refine ⟨_, pss_one (ps_ret (pe_make MK GI (hr.mono (by decide)) rfl mC bG .nil pass0 (pa_cons (pe_dget hu (pv 0) pe_str (fun _ _ => rfl)) (pa_cons (pe_callTy call_tuple_of (by rfl) M.tuple (by decide +kernel) (pa_cons (pe_dget hu (pv 0) pe_str (fun _ _ => rfl)) pa_nil)) (pa_cons (pe_callTy call_tuple_of (by rfl) M.tuple (by decide +kernel) (pa_cons (pe_dget hu (pv 0) pe_str (fun _ _ => rfl)) pa_nil)) pa_nil))))), ?_⟩
    refine ⟨_, rfl, p, _, rfl, get_l hp, _, rfl, p, _, rfl, get_t hp, a, us, rfl, .inl ⟨SqL.of ha, fun l1 n1 => ?_⟩⟩
    refine ⟨_, rfl, p, _, rfl, get_e (keep_new hp n1), b, nts es, rfl, .inl ⟨SqL.of (keep_new hb n1), fun l2 n2 => ?_⟩⟩
    have s2 : Same H (upd (upd H l1 (.tup us)) l2 (.tup (nts es))) := Same.new (Same.new (Same.refl H) n1) n2
    have f1 : (upd (upd H l1 (.tup us)) l2 (.tup (nts es))) l1 = some (.tup us) := keep_new upd_same n2
    have f2 : (upd (upd H l1 (.tup us)) l2 (.tup (nts es))) l2 = some (.tup (nts es)) := upd_same
    generalize upd (upd H l1 (.tup us)) l2 (.tup (nts es)) = H2 at s2 f1 f2 ⊢
    intro q dx nq ndx nex
    have s3 : Same H2 (upd (upd H2 dx (.own q)) q (.ins C dx [])) := Same.new (Same.new (Same.refl H2) ndx) (by rw [upd_ne (Ne.symm nex)]; exact nq)
    have T2 : Tups K H us t := tups_of R
    refine ⟨q, dx, l1, l2, x, us, t, es, t.length, m, rfl, upd_same, hx, m1, m2, SqT.of (s3 _ _ f1), (T2.same s2).same s3, ?_, t1, t4, SqT.of (s3 _ _ f2), up, lt, fun H' hq kp => ⟨rfl, ?_⟩⟩
    · rw [set_len hx] at tb
      exact tb
    · have s4 : Same H2 H' := fun c' o h => kp c' o (fun z => by rw [z, nq] at h; cases h) (s3 _ _ h)
      have hqH : H q = none := by
        cases e : H q with
        | none => rfl
        | some o =>
          have := s2 _ _ e
          rw [nq] at this
          cases this
      exact k q H' hqH ⟨dx, l1, l2, us, hq, SqT.of (s4 _ _ f1), (T2.same s2).same s4, SqT.of (s4 _ _ f2)⟩ (s2.trans s4)
end
end M3

set_option Elab.async false
set_option linter.all false
set_option maxRecDepth 100000
set_option maxHeartbeats 8000000
/-! # Numbers in lists -/
namespace M3
open PySem L2
theorem inV_nts (q : Nat) : ∀ es : List Nat, inV (.int q) (nts es) = decide (q ∈ es)
  | [] => by rfl
  | e :: es => by
    have ih := inV_nts q es
    show (((e : Int) == (q : Int)) || inV (.int q) (nts es)) = decide (q ∈ e :: es)
    rw [ih]
    by_cases h : q = e
    · subst h
      simp
    · have a : ((e : Int) == (q : Int)) = false := beq_eq_false_iff_ne.mpr (by omega)
      rw [a, Bool.false_or]
      by_cases hm : q ∈ es
      · rw [decide_eq_true hm, decide_eq_true (List.mem_cons_of_mem _ hm)]
      · rw [decide_eq_false hm, decide_eq_false (fun z => by
          rcases List.mem_cons.mp z with z | z
          · exact h z
          · exact hm z)]
theorem flat_nts : ∀ es : List Nat, (nts es).all flatV = true
  | [] => by rfl
  | _ :: es => by
    have ih := flat_nts es
    show (true && (nts es).all flatV) = true
    rw [ih]
    rfl
end M3

set_option Elab.async false
set_option linter.all false
set_option maxRecDepth 100000
set_option maxHeartbeats 8000000
/-! # Words repeated -/
namespace M3
open PySem L2
/-- the state behind k turns of the word -/
def iter (t : List (List Nat)) (x y : Str) : Nat → Nat
  | 0 => 0
  | k + 1 => goes t x (iter t x y k) y.cps.toList
theorem iter_lt {t : List (List Nat)} {x y : Str} {m : Nat} (tb : IsTab t t.length m) (hm : x.cps.toList.length = m) (t1 : 1 ≤ t.length) (hw : IsW x y) : ∀ k, iter t x y k < t.length
  | 0 => t1
  | k + 1 => goes_lt tb hm _ _ (iter_lt tb hm t1 hw k) hw
theorem iter_shift {t : List (List Nat)} {x y : Str} {i c : Nat} (h : iter t x y (i + c) = iter t x y i) : ∀ k, i ≤ k → iter t x y (k + c) = iter t x y k := by
  intro k hk
  obtain ⟨r, rfl⟩ := Nat.exists_eq_add_of_le hk
  induction r with
  | zero => exact h
  | succ r ih =>
    have e : i + (r + 1) + c = (i + r + c) + 1 := by omega
    rw [e]
    show goes t x (iter t x y (i + r + c)) y.cps.toList = goes t x (iter t x y (i + r)) y.cps.toList
    rw [ih (by omega)]
theorem iter_times {t : List (List Nat)} {x y : Str} {i c : Nat} (h : ∀ k, i ≤ k → iter t x y (k + c) = iter t x y k) : ∀ r k, i ≤ k → iter t x y (k + c * r) = iter t x y k
  | 0, k, _ => rfl
  | r + 1, k, hk => by
    have e : k + c * (r + 1) = (k + c * r) + c := by rw [Nat.mul_succ]; omega
    rw [e, h _ (by omega)]
    exact iter_times h r k hk
theorem pigeon {f : Nat → Nat} (h : ∀ k, f k < 4) : ∃ i j, i < j ∧ j ≤ 4 ∧ f i = f j := by
  have h0 := h 0
  have h1 := h 1
  have h2 := h 2
  have h3 := h 3
  have h4 := h 4
  by_cases a1 : f 0 = f 1
  · exact ⟨0, 1, by omega, by omega, a1⟩
  by_cases a2 : f 0 = f 2
  · exact ⟨0, 2, by omega, by omega, a2⟩
  by_cases a3 : f 0 = f 3
  · exact ⟨0, 3, by omega, by omega, a3⟩
  by_cases a4 : f 0 = f 4
  · exact ⟨0, 4, by omega, by omega, a4⟩
  by_cases b2 : f 1 = f 2
  · exact ⟨1, 2, by omega, by omega, b2⟩
  by_cases b3 : f 1 = f 3
  · exact ⟨1, 3, by omega, by omega, b3⟩
  by_cases b4 : f 1 = f 4
  · exact ⟨1, 4, by omega, by omega, b4⟩
  by_cases c3 : f 2 = f 3
  · exact ⟨2, 3, by omega, by omega, c3⟩
  by_cases c4 : f 2 = f 4
  · exact ⟨2, 4, by omega, by omega, c4⟩
  by_cases d4 : f 3 = f 4
  · exact ⟨3, 4, by omega, by omega, d4⟩
  omega
/-- behind six turns the states come again after twelve -/
theorem iter_12 {t : List (List Nat)} {x y : Str} (h : ∀ k, iter t x y k < 4) : ∀ k, 6 ≤ k → iter t x y (k + 12) = iter t x y k := by
  obtain ⟨i, j, ij, j4, e⟩ := pigeon h
  have e' : iter t x y (i + (j - i)) = iter t x y i := by
    have z : i + (j - i) = j := by omega
    rw [z, e]
  have s := iter_times (iter_shift e')
  intro k hk
  have c : ∃ r, 12 = (j - i) * r := by
    have : j - i = 1 ∨ j - i = 2 ∨ j - i = 3 ∨ j - i = 4 := by omega
    rcases this with q | q | q | q
    · exact ⟨12, by omega⟩
    · exact ⟨6, by omega⟩
    · exact ⟨4, by omega⟩
    · exact ⟨3, by omega⟩
  obtain ⟨r, hr⟩ := c
  have q := s r k (by omega)
  rw [← hr] at q
  exact q
theorem iter_mod {t : List (List Nat)} {x y : Str} (h : ∀ k, iter t x y k < 4) (k : Nat) (hk : 6 ≤ k) : iter t x y (6 + (k - 6) % 12) = iter t x y k := by
  have q := iter_times (i := 6) (c := 12) (iter_12 h) ((k - 6) / 12) (6 + (k - 6) % 12) (by omega)
  have e : 6 + (k - 6) % 12 + 12 * ((k - 6) / 12) = k := by omega
  rw [e] at q
  exact q.symm
def iters (t : List (List Nat)) (x y : Str) (n : Nat) : List Nat := (List.range n).map (iter t x y)
theorem iters_at {t : List (List Nat)} {x y : Str} {n k : Nat} (h : k < n) : atI (nts (iters t x y n)) (k : Int) = some (.int ((iter t x y k : Nat) : Int)) := by
  refine atI_nat ?_
  unfold nts iters
  rw [List.map_map, List.getElem?_map, List.getElem?_range h]
  rfl
theorem iters_last {t : List (List Nat)} {x y : Str} {n : Nat} : atI (nts (iters t x y (n + 1))) (-1) = some (.int ((iter t x y n : Nat) : Int)) := by
  have l : (nts (iters t x y (n + 1))).length = n + 1 := by
    rw [nts_length]
    unfold iters
    rw [List.length_map, List.length_range]
  have q := iters_at (t := t) (x := x) (y := y) (n := n + 1) (k := n) (by omega)
  unfold atI at q ⊢
  rw [l] at q ⊢
  have e1 : ixN (n + 1) (-1) = some n := by
    unfold ixN
    rw [if_neg (by omega), if_pos (by omega)]
    congr 1
    omega
  have e2 : ixN (n + 1) (n : Int) = some n := ixNat (by omega)
  rw [e2] at q
  rw [e1]
  exact q
end M3

set_option Elab.async false
set_option linter.all false
set_option maxRecDepth 100000
set_option maxHeartbeats 8000000
/-! # led_often: the states of a repeated word, until one comes again -/
namespace M3
open PySem L2
abbrev sOften : Stmt := top 24
abbrev nOften : List Str := ["table", "letters", "start", "word", "times", "trail", "first_at", "goal", "back"]
theorem scOften : FnScope nOften ["table", "letters", "start", "word", "times"] (defScope sOften) := ⟨rfl, rfl, rfl, by decide +kernel, rfl, by decide +kernel, by decide +kernel⟩
/-- where each state of the trail stands -/
structure At (t : List (List Nat)) (x y : Str) (j : Nat) (kvs : List (Key × V)) : Prop where
  yes : ∀ i, i < j → valV kvs (.inl ((iter t x y i : Nat) : Int)) = some (.int (i : Nat))
  only : ∀ (q : Int) (v : V), valV kvs (.inl q) = some v → ∃ i : Nat, i < j ∧ q = ((iter t x y i : Nat) : Int) ∧ v = .int (i : Nat)
  len : kvs.length ≤ j
theorem At.le {t : List (List Nat)} {x y : Str} {j : Nat} {kvs : List (Key × V)} (h : At t x y j kvs) (l : ∀ k, iter t x y k < 4) : j ≤ 4 := by
  obtain ⟨a, b, ab, b4, e⟩ := pigeon l
  by_cases hj : j ≤ 4
  · exact hj
  · have h1 := h.yes a (by omega)
    have h2 := h.yes b (by omega)
    rw [e, h2] at h1
    have q : V.int (b : Nat) = V.int (a : Nat) := Option.some.inj h1
    have q' : ((b : Nat) : Int) = ((a : Nat) : Int) := by injection q
    omega
theorem At.one {t : List (List Nat)} {x y : Str} : At t x y 1 [(.inl 0, .int 0)] := by
  refine ⟨fun i hi => ?_, fun q v h => ?_, Nat.le_refl _⟩
  · have e : i = 0 := by omega
    subst e
    exact valV_pos rfl
  · by_cases e : q = 0
    · subst e
      rw [valV_pos rfl] at h
      exact ⟨0, by omega, rfl, (Option.some.inj h).symm⟩
    · rw [valV_neg (fun z => e (by injection z with z; exact z.symm)), valV_nil] at h
      cases h
theorem At.put {t : List (List Nat)} {x y : Str} {j : Nat} {kvs : List (Key × V)} (h : At t x y j kvs) (n : valV kvs (.inl ((iter t x y j : Nat) : Int)) = none) : At t x y (j + 1) (putK kvs (.inl ((iter t x y j : Nat) : Int)) (.int (j : Nat))) := by
  refine ⟨fun i hi => ?_, fun q v e => ?_, ?_⟩
  · rw [valV_put]
    by_cases c : (Sum.inl ((iter t x y i : Nat) : Int) : Key) = Sum.inl ((iter t x y j : Nat) : Int)
    · rw [if_pos c]
      by_cases ij : i = j
      · rw [ij]
      · have q := h.yes i (by omega)
        rw [c, n] at q
        cases q
    · rw [if_neg c]
      refine h.yes i ?_
      by_cases ij : i = j
      · rw [ij] at c
        exact absurd rfl c
      · omega
  · rw [valV_put] at e
    by_cases c : (Sum.inl q : Key) = Sum.inl ((iter t x y j : Nat) : Int)
    · rw [if_pos c] at e
      exact ⟨j, by omega, by injection c, (Option.some.inj e).symm⟩
    · rw [if_neg c] at e
      obtain ⟨i, h1, h2, h3⟩ := h.only q v e
      exact ⟨i, by omega, h2, h3⟩
  · rw [putK_new _ n, List.length_append]
    show kvs.length + 1 ≤ j + 1
    have := h.len
    omega
theorem iter_back {t : List (List Nat)} {x y : Str} {i j : Nat} (ij : i < j) (h : iter t x y j = iter t x y i) (k : Nat) (hk : j ≤ k) : iter t x y (i + (k - i) % (j - i)) = iter t x y k := by
  have e' : iter t x y (i + (j - i)) = iter t x y i := by
    have z : i + (j - i) = j := by omega
    rw [z, h]
  have s := iter_times (iter_shift e') ((k - i) / (j - i)) (i + (k - i) % (j - i)) (by omega)
  have d := Nat.mod_add_div (k - i) (j - i)
  have e : i + (k - i) % (j - i) + (j - i) * ((k - i) / (j - i)) = k := by omega
  rw [e] at s
  exact s.symm
def spOften (K : PySem.W.Frag) : Sp := fun vs H Q _ => ∃ (a : Addr) (x y : Str) (m k : Nat) (t : List (List Nat)) (us : List V), vs = [.ref a, .str x, .int 0, .str y, .int k] ∧ SqT K H a us ∧ Tups K H us t ∧ IsTab t t.length m ∧ IsSet x m ∧ m ≤ 2 ∧ IsW x y ∧ 1 ≤ t.length ∧ t.length ≤ 4 ∧
  ∀ H' : Hp, Same H H' → Q (.int ((iter t x y k : Nat) : Int)) H'
section
variable {P : Program} {w : World} {K : PySem.W.Frag} {mg : Str → Option Value} {base : Heap}
theorem ok_often {f g : Addr} {fd gd : FuncData} (F : Fun K "led_often" "led_often" sOften f fd) (G : Fun K "led" "led" sLed g gd) (bG : Binds K gd ["table", "letters", "start", "word"] []) (mG : mg "led" = some (.ref g)) (T : TxI mg) : FnOk P w K mg base CX0 2 f fd ["table", "letters", "start", "word", "times"] (spOften K) := by
  have GL : FnOk P w K mg base CX0 1 g gd ["table", "letters", "start", "word"] (spLed K) := ok_led G
  refine F.ok scOften (fun vs H Q E h => ?_) (fun cdv A outer s H vs Q E hr h => ?_)
  · obtain ⟨a, x, y, m, k, t, us, rfl, _⟩ := h
    rfl
  · obtain ⟨a, x, y, m, n, t, us, rfl, ha, hT, tb, hx, m2, hw, t1, t4, k⟩ := h
    have hu := hu_of hr
    have hm : x.cps.toList.length = m := by
      have := set_len hx
      simpa [Str.length] using this
    have il := iter_lt tb hm t1 hw
    have i4 : ∀ k, iter t x y k < 4 := fun k => Nat.lt_of_lt_of_le (il k) t4
    refine ⟨_, pss_cons (ps_set (i := 5) scOften.nd rfl (Or.inl rfl) (pe_lst (pa_cons (pv 2) pa_nil)))
      (pss_cons (ps_set (i := 6) scOften.nd rfl (Or.inl rfl) (pe_disp (pps_cons (pv 2) pe_int pps_nil) (by rfl) (by rfl) (fun z => by cases z) (by decide)))
      (pss_cons (ps_while PassesOwn.never (pt_cmpR op_le (pe_callB call_len_seq (by rfl) T.len PySem.boot_len (pa_cons (pv 5) pa_nil)) (pv 4) (nomark _))
        (pss_cons (ps_set (i := 7) scOften.nd rfl (Or.inl rfl) (pe_call GL hr rfl mG G.kp bG .nil pass0 (pa_cons (pv 0) (pa_cons (pv 1) (pa_cons (pe_ix ix_list (pv 5) (pe_un un_neg pe_int) (fun _ _ => rfl)) (pa_cons (pv 3) pa_nil))))))
        (pss_cons (ps_if (pt_cmp (pc_din hu (pv 7) (pv 6))) (pss_cons (ps_set (i := 8) scOften.nd rfl (Or.inl rfl) (pe_dget hu (pv 6) (pv 7) (fun _ _ => rfl)))
          (pss_one (ps_ret (pe_ix ix_list (pv 5) (pe_op op_add (pv 8) (pe_op op_mod (pe_op op_sub (pv 4) (pv 8)) (pe_op op_sub (pe_callB call_len_seq (by rfl) T.len PySem.boot_len (pa_cons (pv 5) pa_nil)) (pv 8)))) (fun _ _ => rfl))))) pss_nil)
        (pss_cons (ps_dput hu (pv 6) (pv 7) (pe_callB call_len_seq (by rfl) T.len PySem.boot_len (pa_cons (pv 5) pa_nil)) rfl)
        (pss_one (ps_expr (pe_bm PySem.F.plainAttrs_list PySem.F.slot_list_append PySem.F.type_list_append mt_append (pv 5) (pa_cons (pv 7) pa_nil))))))))
      (pss_one (ps_ret (pe_ix ix_list (pv 5) (pv 4) (fun _ _ => rfl)))))), ?_⟩
    refine ⟨_, rfl, (by show 1 ≤ sizeLine; decide), fun l nl => ?_⟩
    intro f nf
    refine ⟨_, rfl, upd_same, [(.inl 0, .int 0)], rfl, (by show 1 ≤ 15; decide), ?_⟩
    rw [upd_upd]
    have lf : l ≠ f := fun z => by
      rw [← z, upd_same] at nf
      cases nf
    have nf0 : H f = none := by
      rw [upd_ne (Ne.symm lf)] at nf
      exact nf
    have neL : ∀ {b : Addr} {o : HO}, H b = some o → b ≠ l := fun h z => by rw [z, nl] at h; cases h
    have neF : ∀ {b : Addr} {o : HO}, H b = some o → b ≠ f := fun h z => by rw [z, nf0] at h; cases h
    have lenI : ∀ j, (nts (iters t x y j)).length = j := fun j => by
      rw [nts_length]
      unfold iters
      rw [List.length_map, List.length_range]
    refine while_by (fun σ H' => ∃ (j : Nat) (v1 v2 : Option V) (kvs : List (Key × V)), σ = [some (.ref a), some (.str x), some (.int 0), some (.str y), some (.int n), some (.ref l), some (.ref f), v1, v2] ∧ H' l = some (.lst (nts (iters t x y (j + 1)))) ∧ H' f = some (.dK kvs) ∧ At t x y (j + 1) kvs ∧ j ≤ n ∧ Same H H')
      (fun σ H' => match H' l with | some (.lst xs) => n + 1 - xs.length | _ => 0)
      ⟨0, none, none, _, rfl, by rw [upd_ne lf]; exact upd_same, upd_same, At.one, Nat.zero_le _, Same.new (Same.new (Same.refl H) nl) (by rw [upd_ne (Ne.symm lf)]; exact nf0)⟩ ?_ ?_
    · rintro σ H1 ⟨j, v1, v2, kvs, rfl, h1, h2, A, jn, s1⟩
      refine ⟨_, rfl, l, _, rfl, .inl (SqL.of h1), _, rfl, _, _, rfl, rfl, _, rfl, ?_⟩
      rw [lenI]
      refine ite2 (fun hle => ?_) (fun hle => ?_)
      · have hle : j + 1 ≤ n := by
          have := of_decide_eq_true hle
          omega
        refine ⟨_, rfl, _, rfl, _, rfl, _, rfl, l, _, -1, _, rfl, rfl, SqL.of h1, iters_last, _, rfl, a, x, y, iter t x y j, t.length, m, t, us, rfl, sqt_same s1 ha, hT.same s1, tb, hx, m2, hw, il j, ?_⟩
        refine ⟨_, rfl, _, rfl, f, _, rfl, DGet.k (k := Sum.inl ((iter t x y (j + 1) : Nat) : Int)) h2, _, rfl, ?_⟩
        have j4 := A.le i4
        cases e : valV kvs (Sum.inl ((iter t x y (j + 1) : Nat) : Int) : Key) with
        | some v =>
          refine iteT ?_
          obtain ⟨i, ij, eq, rfl⟩ := A.only _ _ e
          have eq' : iter t x y (j + 1) = iter t x y i := by omega
          have G : DGet H1 f (.int ((iter t x y (j + 1) : Nat) : Int)) (some (.int (i : Nat))) := by
            have g := DGet.k (k := Sum.inl ((iter t x y (j + 1) : Nat) : Int)) h2
            rw [e] at g
            exact g
          refine ⟨_, rfl, _, rfl, f, _, rfl, G, ?_⟩
          have e1 : (i : Int) + ((n : Int) - (i : Int)) % ((j + 1 : Nat) - (i : Int)) = ((i + (n - i) % (j + 1 - i) : Nat) : Int) := by
            have c1 : (n : Int) - (i : Int) = ((n - i : Nat) : Int) := by omega
            have c2 : ((j + 1 : Nat) : Int) - (i : Int) = ((j + 1 - i : Nat) : Int) := by omega
            rw [c1, c2, ← Int.natCast_emod, ← Int.natCast_add]
          refine ⟨_, rfl, _, rfl, _, rfl, _, rfl, _, _, rfl, rfl, _, rfl, l, _, rfl, .inl (SqL.of h1), _, rfl, _, _, rfl, rfl, ?_⟩
          have lt : i + (n - i) % (j + 1 - i) < j + 1 := by
            have := Nat.mod_lt (n - i) (show 0 < j + 1 - i by omega)
            omega
          refine ⟨_, _, rfl, rfl, ?_, _, _, rfl, rfl, l, _, ((i + (n - i) % (j + 1 - i) : Nat) : Int), _, rfl, congrArg V.int ?_, SqL.of h1, iters_at lt, ?_⟩
          · show (0 : Int) < ((nts (iters t x y (j + 1))).length : Int) - (i : Int)
            rw [lenI]
            omega
          · rw [lenI]
            exact e1
          · rw [iter_back ij eq' n hle]
            exact k H1 s1
        | none =>
          refine iteF ?_
          have A' := A.put e
          refine ⟨_, rfl, l, _, rfl, .inl (SqL.of h1), _, rfl, _, rfl, f, _, rfl, DPut.k (k := Sum.inl ((iter t x y (j + 1) : Nat) : Int)) h2 (Nat.lt_of_le_of_lt (Nat.le_trans A.len j4) (by decide)), ?_⟩
          rw [lenI]
          have g1 : (upd H1 f (.dK (putK kvs (Sum.inl ((iter t x y (j + 1) : Nat) : Int)) (.int ((j + 1 : Nat) : Int))))) l = some (.lst (nts (iters t x y (j + 1)))) := by
            rw [upd_ne lf]
            exact h1
          refine ⟨_, rfl, .inl ⟨rfl, _, SqL.of g1⟩, _, rfl, l, _, _, rfl, rfl, g1, ?_, ⟨j + 1, _, _, _, rfl, ?_, ?_, A', hle, fun b' o h => ?_⟩, ?_⟩
          · rw [lenI]
            exact Nat.lt_of_le_of_lt j4 (by decide)
          · rw [upd_same]
            unfold nts iters
            rw [List.range_succ (n := j + 1), List.map_append, List.map_append]
            rfl
          · rw [upd_ne (Ne.symm lf)]
            exact upd_same
          · rw [upd_ne (neL h), upd_ne (neF h)]
            exact s1 _ _ h
          · show (match (upd _ l _) l with | some (.lst xs) => n + 1 - xs.length | _ => 0) < (match H1 l with | some (.lst xs) => n + 1 - xs.length | _ => 0)
            rw [h1, upd_same]
            show n + 1 - (nts (iters t x y (j + 1)) ++ [V.int ((iter t x y (j + 1) : Nat) : Int)]).length < n + 1 - (nts (iters t x y (j + 1))).length
            rw [List.length_append, lenI]
            show n + 1 - (j + 1 + 1) < n + 1 - (j + 1)
            omega
      · have hle : ¬ j + 1 ≤ n := fun z => hle (decide_eq_true (by omega))
        have e : n = j := by omega
        exact ⟨_, rfl, _, rfl, l, _, _, _, rfl, rfl, SqL.of h1, iters_at (by omega), k H1 s1⟩
    · rintro σ H1 Q1 Q2 hq ⟨v1, hv1, p, ys, hp, hs, v2, hv2, i1, i2, c1, c2, b, hb, hh⟩
      exact ⟨v1, hv1, p, ys, hp, hs, v2, hv2, i1, i2, c1, c2, b, hb, hq _ _ hh⟩
end
end M3

set_option Elab.async false
set_option linter.all false
set_option maxRecDepth 100000
set_option maxHeartbeats 8000000
/-! # The methods of a machine: in, len, after, the fields -/
namespace M3
open PySem L2
abbrev sContains : Stmt := inClass (top 38) 14
abbrev sLen : Stmt := inClass (top 38) 15
abbrev sPropL : Stmt := inClass (top 38) 1
abbrev sPropT : Stmt := inClass (top 38) 2
abbrev sPropE : Stmt := inClass (top 38) 3
theorem scContains : FnScope ["self", "x"] ["self", "x"] (defScope sContains) := ⟨rfl, rfl, rfl, by decide +kernel, rfl, by decide +kernel, by decide +kernel⟩
theorem scLen : FnScope ["self"] ["self"] (defScope sLen) := ⟨rfl, rfl, rfl, by decide +kernel, rfl, by decide +kernel, by decide +kernel⟩
theorem scPropL : FnScope ["self"] ["self"] (defScope sPropL) := ⟨rfl, rfl, rfl, by decide +kernel, rfl, by decide +kernel, by decide +kernel⟩
theorem scPropT : FnScope ["self"] ["self"] (defScope sPropT) := ⟨rfl, rfl, rfl, by decide +kernel, rfl, by decide +kernel, by decide +kernel⟩
theorem scPropE : FnScope ["self"] ["self"] (defScope sPropE) := ⟨rfl, rfl, rfl, by decide +kernel, rfl, by decide +kernel, by decide +kernel⟩
theorem ke1 : ¬ (("_letters" : Str) = "_ends") := by decide +kernel
theorem ke2 : ¬ (("_letters" : Str) = "_table") := by decide +kernel
theorem ke3 : ¬ (("_table" : Str) = "_ends") := by decide +kernel
theorem fld_l {x : Str} {a b : Addr} : (flds x a b).lookup ("_letters" : Str) = some (.str x) := by
  unfold flds
  rw [lookup_putF, if_neg ke1, lookup_putF, if_neg ke2, lookup_putF, if_pos rfl]
theorem fld_t {x : Str} {a b : Addr} : (flds x a b).lookup ("_table" : Str) = some (.ref a) := by
  unfold flds
  rw [lookup_putF, if_neg ke3, lookup_putF, if_pos rfl]
theorem fld_e {x : Str} {a b : Addr} : (flds x a b).lookup ("_ends" : Str) = some (.ref b) := by
  unfold flds
  rw [lookup_putF, if_pos rfl]
/-- what is right of a machine's letters, table and ends -/
structure Right (x : Str) (t : List (List Nat)) (es : List Nat) (m : Nat) : Prop where
  st : IsSet x m
  m1 : 1 ≤ m
  m2 : m ≤ 2
  tb : IsTab t t.length m
  t1 : 1 ≤ t.length
  t4 : t.length ≤ 4
  up : es.Pairwise (· < ·)
  lt : ∀ e ∈ es, e < t.length
theorem only_in {x y : Str} (h : only y x = true) : IsW x y := fun c hc => by
  unfold only at h
  exact of_decide_eq_true (List.all_eq_true.mp h c hc)
def spContains (K : PySem.W.Frag) (C : Addr) : Sp := fun vs H Q _ => ∃ (p : Addr) (v : V) (tv : Value) (b : Bool) (x : Str) (t : List (List Nat)) (es : List Nat) (m : Nat), vs = [.ref p, v] ∧ Mach K C H p x t es ∧ Right x t es m ∧ TyX K H v tv ∧ PySem.W.kitOne K tv (.type "str") = some b ∧
  (b = false → Q (.bl false) H) ∧ (b = true → ∃ y : Str, v = .str y ∧ y.length ≤ 1000000 ∧ ∀ H' : Hp, Same H H' → Q (.bl (only y "abcdefghijklmnopqrstuvwxyz" && (only y x && decide (goes t x 0 y.cps.toList ∈ es)))) H')
def spLen (K : PySem.W.Frag) (C : Addr) : Sp := fun vs H Q _ => ∃ (p : Addr) (x : Str) (t : List (List Nat)) (es : List Nat), vs = [.ref p] ∧ Mach K C H p x t es ∧ Q (.int (t.length : Nat)) H
/-- the letters are told -/
def spPropL (K : PySem.W.Frag) (C : Addr) : Sp := fun vs H Q _ => ∃ (p : Addr) (x : Str) (t : List (List Nat)) (es : List Nat), vs = [.ref p] ∧ Mach K C H p x t es ∧ Q (.str x) H
/-- the table is told: a tuple of tuples -/
def spPropT (K : PySem.W.Frag) (C : Addr) : Sp := fun vs H Q _ => ∃ (p : Addr) (x : Str) (t : List (List Nat)) (es : List Nat), vs = [.ref p] ∧ Mach K C H p x t es ∧ ∀ (a : Addr) (us : List V), SqT K H a us → Tups K H us t → Q (.ref a) H
/-- the ends are told: a tuple -/
def spPropE (K : PySem.W.Frag) (C : Addr) : Sp := fun vs H Q _ => ∃ (p : Addr) (x : Str) (t : List (List Nat)) (es : List Nat), vs = [.ref p] ∧ Mach K C H p x t es ∧ ∀ a : Addr, SqT K H a (nts es) → Q (.ref a) H
section
variable {P : Program} {w : World} {K : PySem.W.Frag} {mg : Str → Option Value} {base : Heap} {C : Addr}
theorem ok_contains {f g : Addr} {fd gd : FuncData} (F : Fun K "__contains__" "Machine.__contains__" sContains f fd) (DW : DefsW K mg) (G : Fun K "led" "led" sLed g gd) (bG : Binds K gd ["table", "letters", "start", "word"] []) (mG : mg "led" = some (.ref g)) (W : TxW mg) (TK : TxK K mg C) :
    FnOk P w K mg base CX0 3 f fd ["self", "x"] (spContains K C) := by
  have GW : FnOk P w K mg base CX0 2 DW.fW DW.dW ["value"] (spIsWord K) := ok_isword DW.W DW.O DW.bO DW.mO W
  have GO : FnOk P w K mg base CX0 1 DW.fO DW.dO ["word", "letters"] spHasOnly := ok_hasonly DW.O W
  have GL : FnOk P w K mg base CX0 1 g gd ["table", "letters", "start", "word"] (spLed K) := ok_led G
  refine F.ok scContains (fun vs H Q E h => ?_) (fun cdv A outer s H vs Q E hr h => ?_)
  · obtain ⟨p, v, tv, b, x, t, es, m, rfl, _⟩ := h
    rfl
  · obtain ⟨p, v, tv, b, x, t, es, m, rfl, M, R, ty, k1, q1, q2⟩ := h
    have hr2 : Room 2 _ := hr.mono (by decide)
    have hr1 : Room 1 _ := hr.mono (by decide)
    refine ⟨_, pss_cons (ps_if (PW.pt (pw_or (pt_not (pt_val (pe_call GW hr2 rfl DW.mW DW.W.kp DW.bW .nil pass0 (pa_cons (pv 1) pa_nil)))) (pw_or1 (pt_not (pt_val (pe_call GO hr1 rfl DW.mO DW.O.kp DW.bO .nil pass0 (pa_cons (pv 1) (pa_cons (pe_fld (pv 0) rfl) pa_nil)))))))) (pss_one (ps_ret pe_bl)) pss_nil)
      (pss_one (ps_ret (pe_cmpR op_in_seq (pe_call GL hr1 rfl mG G.kp bG .nil pass0 (pa_cons (pe_fld (pv 0) rfl) (pa_cons (pe_fld (pv 0) rfl) (pa_cons pe_int (pa_cons (pv 1) pa_nil))))) (pe_fld (pv 0) rfl) (by rfl)))), ?_⟩
    refine ⟨_, rfl, v, tv, b, rfl, ty, k1, fun e => ⟨_, rfl, ?_⟩, fun e => ?_⟩
    · exact iteT (iteT (q1 e))
    · obtain ⟨y, rfl, hy, q⟩ := q2 e
      refine ⟨y, rfl, hy, fun H1 s1 => ⟨_, rfl, ?_⟩⟩
      cases h1 : only y "abcdefghijklmnopqrstuvwxyz" with
      | false =>
        rw [h1] at q
        exact iteT (iteT (q H1 s1))
      | true =>
        rw [h1] at q
        refine iteF ?_
        obtain ⟨dx, a, b', us, i1, i2, i3, i4⟩ := M.same s1
        refine ⟨_, rfl, _, rfl, p, C, dx, _, _, rfl, i1, TK.cl, TK.nL, fld_l, y, x, rfl, hy, fun H2 s2 => ⟨_, rfl, ?_⟩⟩
        cases h2 : only y x with
        | false =>
          rw [h2] at q
          exact iteT (q H2 (s1.trans s2))
        | true =>
          rw [h2] at q
          refine iteF ?_
          refine ⟨_, rfl, p, C, dx, _, _, rfl, s2 _ _ i1, TK.cl, TK.nT, fld_t, _, rfl, p, C, dx, _, _, rfl, s2 _ _ i1, TK.cl, TK.nL, fld_l, _, rfl, a, x, y, 0, t.length, m, t, us, rfl, sqt_same s2 i2, i3.same s2, R.tb, R.st, R.m2, only_in h2, R.t1, ?_⟩
          refine ⟨_, rfl, p, C, dx, _, _, rfl, s2 _ _ i1, TK.cl, TK.nE, fld_e, b', nts es, rfl, .inr (sqt_same s2 i4), rfl, flat_nts es, ?_⟩
          rw [inV_nts]
          exact q H2 (s1.trans s2)
theorem ok_len {f : Addr} {fd : FuncData} (F : Fun K "__len__" "Machine.__len__" sLen f fd) (Zx : TxZ mg) (TK : TxK K mg C) : FnOk P w K mg base CX0 1 f fd ["self"] (spLen K C) := by
  refine F.ok scLen (fun vs H Q E h => ?_) (fun cdv A outer s H vs Q E hr h => ?_)
  · obtain ⟨p, x, t, es, rfl, _⟩ := h
    rfl
  · obtain ⟨p, x, t, es, rfl, ⟨dx, a, b, us, h1, h2, h3, h4⟩, k⟩ := h
    refine ⟨_, pss_one (ps_ret (pe_callB call_len_seq (by rfl) Zx.len PySem.boot_len (pa_cons (pe_fld (pv 0) rfl) pa_nil))), ?_⟩
    refine ⟨_, rfl, p, C, dx, _, _, rfl, h1, TK.cl, TK.nT, fld_t, a, us, rfl, .inr h2, ?_⟩
    rw [h3.1]
    exact k
theorem ok_propL {f : Addr} {fd : FuncData} (F : Fun K "letters" "Machine.letters" sPropL f fd) (TK : TxK K mg C) : FnOk P w K mg base CX0 1 f fd ["self"] (spPropL K C) := by
  refine F.ok scPropL (fun vs H Q E h => ?_) (fun cdv A outer s H vs Q E hr h => ?_)
  · obtain ⟨p, x, t, es, rfl, _⟩ := h
    rfl
  · obtain ⟨p, x, t, es, rfl, ⟨dx, a, b, us, h1, h2, h3, h4⟩, k⟩ := h
    refine ⟨_, pss_one (ps_ret (pe_fld (pv 0) rfl)), ?_⟩
    exact ⟨_, rfl, p, C, dx, _, _, rfl, h1, TK.cl, TK.nL, fld_l, k⟩
theorem ok_propT {f : Addr} {fd : FuncData} (F : Fun K "table" "Machine.table" sPropT f fd) (TK : TxK K mg C) : FnOk P w K mg base CX0 1 f fd ["self"] (spPropT K C) := by
  refine F.ok scPropT (fun vs H Q E h => ?_) (fun cdv A outer s H vs Q E hr h => ?_)
  · obtain ⟨p, x, t, es, rfl, _⟩ := h
    rfl
  · obtain ⟨p, x, t, es, rfl, ⟨dx, a, b, us, h1, h2, h3, h4⟩, k⟩ := h
    refine ⟨_, pss_one (ps_ret (pe_fld (pv 0) rfl)), ?_⟩
    exact ⟨_, rfl, p, C, dx, _, _, rfl, h1, TK.cl, TK.nT, fld_t, k a us h2 h3⟩
theorem ok_propE {f : Addr} {fd : FuncData} (F : Fun K "ends" "Machine.ends" sPropE f fd) (TK : TxK K mg C) : FnOk P w K mg base CX0 1 f fd ["self"] (spPropE K C) := by
  refine F.ok scPropE (fun vs H Q E h => ?_) (fun cdv A outer s H vs Q E hr h => ?_)
  · obtain ⟨p, x, t, es, rfl, _⟩ := h
    rfl
  · obtain ⟨p, x, t, es, rfl, ⟨dx, a, b, us, h1, h2, h3, h4⟩, k⟩ := h
    refine ⟨_, pss_one (ps_ret (pe_fld (pv 0) rfl)), ?_⟩
    exact ⟨_, rfl, p, C, dx, _, _, rfl, h1, TK.cl, TK.nE, fld_e, k b h4⟩
end
end M3

set_option Elab.async false
set_option linter.all false
set_option maxRecDepth 100000
set_option maxHeartbeats 8000000
/-! # check_word, Machine.after -/
namespace M3
open PySem L2
abbrev sCheck : Stmt := top 15
abbrev sOnlyC : Stmt := top 16
abbrev sAfter : Stmt := inClass (top 38) 6
theorem scCheck : FnScope ["value"] ["value"] (defScope sCheck) := ⟨rfl, rfl, rfl, by decide +kernel, rfl, by decide +kernel, by decide +kernel⟩
theorem scOnlyC : FnScope ["word", "letters"] ["word", "letters"] (defScope sOnlyC) := ⟨rfl, rfl, rfl, by decide +kernel, rfl, by decide +kernel, by decide +kernel⟩
theorem scAfter : FnScope ["self", "word", "times"] ["self", "word", "times"] (defScope sAfter) := ⟨rfl, rfl, rfl, by decide +kernel, rfl, by decide +kernel, by decide +kernel⟩
/-- an own error of the package over TurnError, raised: its facts -/
structure TxR (K : PySem.W.Frag) (mg : Str → Option Value) (nm : Str) (c : Addr) : Prop where
  x : PySem.W.excIn K c [.type "ValueError", .type "Exception", .type "BaseException", .type "object"] "ValueError.__new__" = true
  g : mg nm = some (.ref c)
  k : PySem.W.keepIn K (.ref c) = true
  b : PySem.W.subIn K (.ref c) (.type "BaseException") = some true
  t : PySem.W.typeIn K (.ref c) = some (.type "type")
/-- InvalidNumber, raised: it keeps what it takes -/
structure TxN (P : Program) (K : PySem.W.Frag) (mg : Str → Option Value) (c : Addr) : Prop where
  tx : ∃ (fI : Addr) (B i B0 newId : String) (qual : Str), PySem.NvE.InitTxt P K c fI B i B0 newId "value" qual
  g : mg "InvalidNumber" = some (.ref c)
  k : PySem.W.keepIn K (.ref c) = true
  b : PySem.W.subIn K (.ref c) (.type "BaseException") = some true
  t : PySem.W.typeIn K (.ref c) = some (.type "type")
theorem keepN {P : Program} {K : PySem.W.Frag} {mg : Str → Option Value} {c : Addr} (T : TxN P K mg c) {X : Cx} (h1 : X.prog = P) (h2 : X.K = K) (h3 : X.mg = mg) : KeepC X "InvalidNumber" c "value" := by
  subst h1 h2 h3
  exact ⟨T.tx, T.g, T.k, T.b, T.t⟩
def spCheck : Sp := fun vs H Q _ => ∃ y : Str, vs = [.str y] ∧ y.length ≤ 1000000 ∧ only y "abcdefghijklmnopqrstuvwxyz" = true ∧ ∀ H' : Hp, Same H H' → Q .non H'
def spOnlyC : Sp := fun vs H Q _ => ∃ y x : Str, vs = [.str y, .str x] ∧ y.length ≤ 1000000 ∧ only y x = true ∧ ∀ H' : Hp, Same H H' → Q .non H'
def spAfter (K : PySem.W.Frag) (C : Addr) : Sp := fun vs H Q _ => ∃ (p : Addr) (x y : Str) (t : List (List Nat)) (es : List Nat) (m k : Nat), vs = [.ref p, .str y, .int k] ∧ Mach K C H p x t es ∧ Right x t es m ∧ IsW x y ∧ only y "abcdefghijklmnopqrstuvwxyz" = true ∧ y.length ≤ 1000000 ∧ k ≤ 100000000000 ∧
  ∀ H' : Hp, Same H H' → Q (.int ((iter t x y k : Nat) : Int)) H'
section
variable {P : Program} {w : World} {K : PySem.W.Frag} {mg : Str → Option Value} {base : Heap} {C : Addr}
theorem ok_check {f c : Addr} {fd : FuncData} (F : Fun K "check_word" "check_word" sCheck f fd) (DW : DefsW K mg) (W : TxW mg) (TE : TxR K mg "InvalidWord" c) : FnOk P w K mg base CX0 3 f fd ["value"] spCheck := by
  have GW : FnOk P w K mg base CX0 2 DW.fW DW.dW ["value"] (spIsWord K) := ok_isword DW.W DW.O DW.bO DW.mO W
  refine F.ok scCheck (fun vs H Q E h => ?_) (fun cdv A outer s H vs Q E hr h => ?_)
  · obtain ⟨y, rfl, _⟩ := h
    rfl
  · obtain ⟨y, rfl, hy, ho, k⟩ := h
    refine ⟨_, pss_one (ps_if (pt_not (pt_val (pe_call GW hr rfl DW.mW DW.W.kp DW.bW .nil pass0 (pa_cons (pv 0) pa_nil)))) (pss_one (ps_raise rfl takes0 (pmk_own PySem.F.excBase_ValueError TE.x TE.g TE.k (raises_own TE.b TE.t) rfl))) pss_nil), ?_⟩
    refine ⟨_, rfl, .str y, .type "str", true, rfl, .base (.str y), kit_str, (fun z => by cases z), fun _ => ⟨y, rfl, hy, fun H1 s1 => ⟨_, rfl, ?_⟩⟩⟩
    rw [ho]
    exact iteF (k H1 s1)
theorem ok_onlyc {f c : Addr} {fd : FuncData} (F : Fun K "check_only" "check_only" sOnlyC f fd) (DW : DefsW K mg) (W : TxW mg) (TO : TxR K mg "InvalidOperation" c) : FnOk P w K mg base CX0 2 f fd ["word", "letters"] spOnlyC := by
  have GO : FnOk P w K mg base CX0 1 DW.fO DW.dO ["word", "letters"] spHasOnly := ok_hasonly DW.O W
  refine F.ok scOnlyC (fun vs H Q E h => ?_) (fun cdv A outer s H vs Q E hr h => ?_)
  · obtain ⟨y, x, rfl, _⟩ := h
    rfl
  · obtain ⟨y, x, rfl, hy, ho, k⟩ := h
    refine ⟨_, pss_one (ps_if (pt_not (pt_val (pe_call GO hr rfl DW.mO DW.O.kp DW.bO .nil pass0 (pa_cons (pv 0) (pa_cons (pv 1) pa_nil))))) (pss_one (ps_raise rfl takes0 (pmk_own PySem.F.excBase_ValueError TO.x TO.g TO.k (raises_own TO.b TO.t) rfl))) pss_nil), ?_⟩
    refine ⟨_, rfl, _, rfl, y, x, rfl, hy, fun H1 s1 => ⟨_, rfl, ?_⟩⟩
    rw [ho]
    exact iteF (k H1 s1)
theorem only_of {x y : Str} (h : IsW x y) : only y x = true := by
  unfold only
  rw [List.all_eq_true]
  intro c hc
  exact decide_eq_true (h c hc)
theorem ok_after {f g g2 g3 g4 cW cN cO : Addr} {fd gd gd2 gd3 gd4 : FuncData} (F : C8.Fun K "after" "Machine.after" sAfter f fd) (DW : DefsW K mg) (G : Fun K "check_word" "check_word" sCheck g gd) (bG : Binds K gd ["value"] []) (mG : mg "check_word" = some (.ref g))
    (G2 : Fun K "led_often" "led_often" sOften g2 gd2) (b2 : Binds K gd2 ["table", "letters", "start", "word", "times"] []) (m2 : mg "led_often" = some (.ref g2)) (G3 : Fun K "led" "led" sLed g3 gd3) (b3 : Binds K gd3 ["table", "letters", "start", "word"] []) (m3 : mg "led" = some (.ref g3))
    (G4 : Fun K "check_only" "check_only" sOnlyC g4 gd4) (b4 : Binds K gd4 ["word", "letters"] []) (m4 : mg "check_only" = some (.ref g4))
    (W : TxW mg) (T : TxI mg) (TK : TxK K mg C) (TW : TxR K mg "InvalidWord" cW) (TN : TxN P K mg cN) (TO : TxR K mg "InvalidOperation" cO) (hM : ∃ t, mg "MAX_TIMES" = some (.int 100000000000 t)) : FnOk P w K mg base CX0 4 f fd ["self", "word", "times"] (spAfter K C) := by
  have GC : FnOk P w K mg base CX0 3 g gd ["value"] spCheck := ok_check G DW W TW
  have GB : FnOk P w K mg base CX0 1 DW.fB DW.dB ["value", "low", "high"] (spBetween K) := ok_between DW.B W
  have GO : FnOk P w K mg base CX0 2 g4 gd4 ["word", "letters"] spOnlyC := ok_onlyc G4 DW W TO
  have GL : FnOk P w K mg base CX0 2 g2 gd2 ["table", "letters", "start", "word", "times"] (spOften K) := ok_often G2 G3 b3 m3 T
  obtain ⟨tm, hm⟩ := hM
  refine C8.fn0 F scAfter (fun vs H Q E h => ?_) (fun cdv A outer s H vs Q E hr h => ?_)
  · obtain ⟨p, x, y, t, es, m, k, rfl, _⟩ := h
    rfl
  · obtain ⟨p, x, y, t, es, m, n, rfl, M, R, hw, ho, hy, hn, k⟩ := h
    have hr2 : Room 2 _ := hr.mono (by decide)
    have hr1 : Room 1 _ := hr.mono (by decide)
    refine ⟨_, pss_cons (ps_expr (pe_call GC hr rfl mG G.kp bG .nil pass0 (pa_cons (pv 1) pa_nil)))
      (pss_cons (ps_if (pt_not (pt_val (pe_call GB hr1 rfl DW.mB DW.B.kp DW.bB .nil pass0 (pa_cons (pv 2) (pa_cons pe_int (pa_cons (pe_glob (v := .int 100000000000) rfl hm ⟨_, rfl⟩) pa_nil)))))) (pss_one (ps_raise rfl takes0 (pmk_keep (keepN TN rfl rfl rfl) hr (pa_cons (pv 2) pa_nil)))) pss_nil)
      (pss_cons (ps_expr (pe_call GO hr2 rfl m4 G4.kp b4 .nil pass0 (pa_cons (pv 1) (pa_cons (pe_fld (pv 0) rfl) pa_nil))))
      (pss_one (ps_ret (pe_call GL hr2 rfl m2 G2.kp b2 .nil pass0 (pa_cons (pe_fld (pv 0) rfl) (pa_cons (pe_fld (pv 0) rfl) (pa_cons pe_int (pa_cons (pv 1) (pa_cons (pv 2) pa_nil)))))))))), ?_⟩
    refine ⟨_, rfl, y, rfl, hy, ho, fun H1 s1 => ?_⟩
    refine ⟨_, rfl, .int (n : Nat), 0, 100000000000, .type "int", false, true, rfl, .base (.int _), kit_int_bool, kit_int_int, (fun z => by cases z), (fun _ z => by cases z), fun _ _ => ⟨(n : Nat), rfl, _, rfl, ?_⟩⟩
    have e : (decide ((0 : Int) ≤ ((n : Nat) : Int)) && decide (((n : Nat) : Int) ≤ 100000000000)) = true := by
      rw [decide_eq_true (show (0 : Int) ≤ ((n : Nat) : Int) by omega), decide_eq_true (show ((n : Nat) : Int) ≤ 100000000000 by omega)]
      rfl
    rw [e]
    refine iteF ?_
    obtain ⟨dx, a, b', us, i1, i2, i3, i4⟩ := M.same s1
    refine ⟨_, rfl, _, rfl, p, C, dx, _, _, rfl, i1, TK.cl, TK.nL, fld_l, y, x, rfl, hy, only_of hw, fun H2 s2 => ?_⟩
    refine ⟨_, rfl, p, C, dx, _, _, rfl, s2 _ _ i1, TK.cl, TK.nT, fld_t, _, rfl, p, C, dx, _, _, rfl, s2 _ _ i1, TK.cl, TK.nL, fld_l, _, rfl, _, rfl, a, x, y, m, n, t, us, rfl, sqt_same s2 i2, i3.same s2, R.tb, R.st, R.m2, hw, R.t1, R.t4, fun H3 s3 => ?_⟩
    exact k H3 ((s1.trans s2).trans s3)
end
end M3

set_option Elab.async false
set_option linter.all false
set_option maxRecDepth 100000
set_option maxHeartbeats 8000000
/-! # Actions: one behind the other, of no letter, one letter further -/
namespace M3
open PySem L2
abbrev sComposed : Stmt := top 46
abbrev sUnmoved : Stmt := top 47
abbrev sLedOn : Stmt := top 48
abbrev nComposed : List Str := ["first", "second", "state"]
abbrev nLedOn : List Str := ["table", "states", "column", "state"]
theorem scComposed : FnScope nComposed ["first", "second"] (defScope sComposed) := ⟨rfl, rfl, rfl, by decide +kernel, rfl, by decide +kernel, by decide +kernel⟩
theorem scUnmoved : FnScope ["table"] ["table"] (defScope sUnmoved) := ⟨rfl, rfl, rfl, by decide +kernel, rfl, by decide +kernel, by decide +kernel⟩
theorem scLedOn : FnScope nLedOn ["table", "states", "column"] (defScope sLedOn) := ⟨rfl, rfl, rfl, by decide +kernel, rfl, by decide +kernel, by decide +kernel⟩
/-- one action behind another one -/
def comp (fs gs : List Nat) : List Nat := fs.map fun q => gs.getD q 0
/-- a letter further, by its column -/
def ledon (t : List (List Nat)) (fs : List Nat) (c : Nat) : List Nat := fs.map fun q => (t.getD q []).getD c 0
def spComposed (K : PySem.W.Frag) : Sp := fun vs H Q _ => ∃ (a b : Addr) (fs gs : List Nat), vs = [.ref a, .ref b] ∧ SqT K H a (nts fs) ∧ SqT K H b (nts gs) ∧ (∀ q ∈ fs, q < gs.length) ∧ fs.length ≤ 1000 ∧
  ∀ (p : Addr) (H' : Hp), H p = none → H' p = some (.tup (nts (comp fs gs))) → Same H H' → Q (.ref p) H'
def spUnmoved (K : PySem.W.Frag) : Sp := fun vs H Q _ => ∃ (a : Addr) (us : List V), vs = [.ref a] ∧ SqT K H a us ∧ us.length ≤ 1000 ∧
  ∀ (p : Addr) (H' : Hp), H p = none → H' p = some (.tup (nts (List.range us.length))) → Same H H' → Q (.ref p) H'
def spLedOn (K : PySem.W.Frag) : Sp := fun vs H Q _ => ∃ (a b : Addr) (us : List V) (t : List (List Nat)) (fs : List Nat) (c m : Nat), vs = [.ref a, .ref b, .int c] ∧ SqT K H a us ∧ Tups K H us t ∧ IsTab t t.length m ∧ SqT K H b (nts fs) ∧ (∀ q ∈ fs, q < t.length) ∧ fs.length ≤ 1000 ∧ c < m ∧
  ∀ (p : Addr) (H' : Hp), H p = none → H' p = some (.tup (nts (ledon t fs c))) → Same H H' → Q (.ref p) H'
section
variable {P : Program} {w : World} {K : PySem.W.Frag} {mg : Str → Option Value} {base : Heap}
theorem map_take_snoc {α β : Type} {f : α → β} {l : List α} {i : Nat} (h : i < l.length) : (l.take (i + 1)).map f = (l.take i).map f ++ [f l[i]] := by
  rw [take_snoc (List.getElem?_eq_getElem h), List.map_append]
  rfl
theorem nts_at' {r : List Nat} {j : Nat} (h : j < r.length) : atI (nts r) (j : Int) = some (.int (r.getD j 0)) := nts_at h
theorem ok_composed {f : Addr} {fd : FuncData} (F : Fun K "composed" "composed" sComposed f fd) (M : TxM mg) : FnOk P w K mg base CX0 1 f fd ["first", "second"] (spComposed K) := by
  refine F.ok scComposed (fun vs H Q E h => ?_) (fun cdv A outer s H vs Q E hr h => ?_)
  · obtain ⟨a, b, fs, gs, rfl, _⟩ := h
    rfl
  · obtain ⟨a, b, fs, gs, rfl, ha, hb, hq, hl, k⟩ := h
    refine ⟨_, pss_one (ps_ret (pe_callTy call_tuple_of (by rfl) M.tuple (by decide +kernel) (pa_cons (pe_lc (own := [("state", 2)]) (g := gName 2) (tt := tYes) (te := tOp (rIxT K) (tVar 1) (tVar 2)) rfl scComposed.nd (pi_tup (pv 0)) (blkOk_by (N := nComposed) (sc := defScope sComposed) (by decide +kernel)) (fun _ _ _ _ _ => pg_name (i := 2) scComposed.nd rfl (Or.inl rfl)) (fun _ _ _ _ _ => pts_nil)
      (fun _ _ _ _ _ => pe_ix ix_tup (pv 1) (pv 2) (fun _ _ => rfl))) pa_nil))), ?_⟩
    refine ⟨_, rfl, a, rfl, ⟨_, ha⟩, fun D nD => ?_⟩
    have sm : ∀ {H9 : Hp}, (∀ b' o, b' ≠ D → H b' = some o → H9 b' = some o) → Same H H9 := fun z b' o h => z b' o (fun q => by rw [q, nD] at h; cases h) h
    refine lc_tup (K := K) (a := a) (xs := nts fs) (fun j H9 => H9 D = some (.lst (nts (comp (fs.take j) gs))) ∧ ∀ b' o, b' ≠ D → H b' = some o → H9 b' = some o)
      ⟨upd_same, fun b' o hb' h => keep_new h nD⟩ (fun i H9 _ ⟨_, z⟩ => sqt_same (sm z) ha) ?_ ?_
    · rintro i v H9 hv ⟨q1, q2⟩
      have hi : i < fs.length := by
        have := (List.getElem?_eq_some_iff.mp hv).1
        rw [nts_length] at this
        exact this
      unfold nts at hv
      rw [List.getElem?_map, List.getElem?_eq_getElem hi] at hv
      cases hv
      refine ⟨rfl, tYes_if ?_⟩
      have hlt := hq fs[i] (List.getElem_mem hi)
      refine ⟨_, rfl, _, rfl, b, nts gs, _, _, rfl, rfl, sqt_same (sm q2) hb, nts_at hlt, _, q1, ?_, ?_, fun b' o hb' h => by rw [upd_ne hb']; exact q2 b' o hb' h⟩
      · unfold comp
        rw [nts_length, List.length_map, List.length_take]
        exact Nat.lt_of_le_of_lt (show _ ≤ 1000 by omega) (by decide)
      · rw [upd_same]
        unfold comp nts
        rw [map_take_snoc hi, List.map_append]
        rfl
    · rintro H9 ⟨q1, q2⟩
      have et : fs.take (nts fs).length = fs := by
        rw [nts_length]
        exact List.take_length
      rw [et] at q1
      refine ⟨D, _, rfl, .inl ⟨SqL.of q1, fun l hl9 => ?_⟩⟩
      have s9 := sm q2
      have hl0 : H l = none := by
        cases e : H l with
        | none => rfl
        | some o =>
          have := s9 _ _ e
          rw [hl9] at this
          cases this
      exact k l _ hl0 upd_same (Same.new s9 hl9)
theorem ok_unmoved {f : Addr} {fd : FuncData} (F : Fun K "unmoved" "unmoved" sUnmoved f fd) (M : TxM mg) : FnOk P w K mg base CX0 1 f fd ["table"] (spUnmoved K) := by
  refine F.ok scUnmoved (fun vs H Q E h => ?_) (fun cdv A outer s H vs Q E hr h => ?_)
  · obtain ⟨a, us, rfl, _⟩ := h
    rfl
  · obtain ⟨a, us, rfl, ha, hl, k⟩ := h
    refine ⟨_, pss_one (ps_ret (pe_tupRg rfl rfl M.tuple (prg_1 rfl M.range (pe_callB call_len_seq (by rfl) M.len PySem.boot_len (pa_cons (pv 0) pa_nil))))), ?_⟩
    refine ⟨_, rfl, a, us, rfl, .inr ha, _, rfl, .of_le (by decide) (by omega) (by decide) (by omega), fun p np => ?_⟩
    rw [rgV_nats]
    exact k p _ np upd_same (Same.new (Same.refl H) np)
theorem ok_ledon {f : Addr} {fd : FuncData} (F : Fun K "led_on" "led_on" sLedOn f fd) (M : TxM mg) : FnOk P w K mg base CX0 1 f fd ["table", "states", "column"] (spLedOn K) := by
  refine F.ok scLedOn (fun vs H Q E h => ?_) (fun cdv A outer s H vs Q E hr h => ?_)
  · obtain ⟨a, b, us, t, fs, c, m, rfl, _⟩ := h
    rfl
  · obtain ⟨a, b, us, t, fs, c, m, rfl, ha, hT, tb, hb, hq, hl, hc, k⟩ := h
    refine ⟨_, pss_one (ps_ret (pe_callTy call_tuple_of (by rfl) M.tuple (by decide +kernel) (pa_cons (pe_lc (own := [("state", 3)]) (g := gName 3) (tt := tYes) (te := tOp (rIxT K) (tOp (rIxT K) (tVar 0) (tVar 3)) (tVar 2)) rfl scLedOn.nd (pi_tup (pv 1)) (blkOk_by (N := nLedOn) (sc := defScope sLedOn) (by decide +kernel)) (fun _ _ _ _ _ => pg_name (i := 3) scLedOn.nd rfl (Or.inl rfl)) (fun _ _ _ _ _ => pts_nil)
      (fun _ _ _ _ _ => pe_ix ix_tup (pe_ix ix_tup (pv 0) (pv 3) (fun _ _ => rfl)) (pv 2) (fun _ _ => rfl))) pa_nil))), ?_⟩
    refine ⟨_, rfl, b, rfl, ⟨_, hb⟩, fun D nD => ?_⟩
    have sm : ∀ {H9 : Hp}, (∀ b' o, b' ≠ D → H b' = some o → H9 b' = some o) → Same H H9 := fun z b' o h => z b' o (fun q => by rw [q, nD] at h; cases h) h
    refine lc_tup (K := K) (a := b) (xs := nts fs) (fun j H9 => H9 D = some (.lst (nts (ledon t (fs.take j) c))) ∧ ∀ b' o, b' ≠ D → H b' = some o → H9 b' = some o)
      ⟨upd_same, fun b' o hb' h => keep_new h nD⟩ (fun i H9 _ ⟨_, z⟩ => sqt_same (sm z) hb) ?_ ?_
    · rintro i v H9 hv ⟨q1, q2⟩
      have hi : i < fs.length := by
        have := (List.getElem?_eq_some_iff.mp hv).1
        rw [nts_length] at this
        exact this
      unfold nts at hv
      rw [List.getElem?_map, List.getElem?_eq_getElem hi] at hv
      cases hv
      refine ⟨rfl, tYes_if ?_⟩
      have hp := hq fs[i] (List.getElem_mem hi)
      obtain ⟨b', b1, b2⟩ := hT.2 fs[i] t[fs[i]] (List.getElem?_eq_getElem hp)
      have s9 := sm q2
      have hc2 : c < t[fs[i]].length := by
        rw [(tb.2 _ (List.getElem_mem hp)).1]
        exact hc
      have ed : t.getD fs[i] [] = t[fs[i]] := by simp [List.getD, List.getElem?_eq_getElem hp]
      refine ⟨_, rfl, _, rfl, a, us, _, .ref b', rfl, rfl, sqt_same s9 ha, atI_nat b1, _, rfl, b', nts t[fs[i]], _, _, rfl, rfl, sqt_same s9 b2, nts_at hc2, _, q1, ?_, ?_, fun b'' o hb' h => by rw [upd_ne hb']; exact q2 b'' o hb' h⟩
      · unfold ledon
        rw [nts_length, List.length_map, List.length_take]
        exact Nat.lt_of_le_of_lt (show _ ≤ 1000 by omega) (by decide)
      · rw [upd_same]
        unfold ledon nts
        rw [map_take_snoc hi, List.map_append, ed]
        rfl
    · rintro H9 ⟨q1, q2⟩
      have et : fs.take (nts fs).length = fs := by
        rw [nts_length]
        exact List.take_length
      rw [et] at q1
      refine ⟨D, _, rfl, .inl ⟨SqL.of q1, fun l hl9 => ?_⟩⟩
      have s9 := sm q2
      have hl0 : H l = none := by
        cases e : H l with
        | none => rfl
        | some o =>
          have := s9 _ _ e
          rw [hl9] at this
          cases this
      exact k l _ hl0 upd_same (Same.new s9 hl9)
end
end M3

set_option Elab.async false
set_option linter.all false
set_option maxRecDepth 100000
set_option maxHeartbeats 8000000
/-! # The action of a word -/
namespace M3
open PySem L2
/-- where the letters lead each state -/
def act (t : List (List Nat)) (x : Str) (cs : List Nat) : List Nat := (List.range t.length).map fun q => goes t x q cs
theorem act_nil {t : List (List Nat)} {x : Str} : act t x [] = List.range t.length := by
  unfold act
  rw [show (fun q => goes t x q []) = id from rfl, List.map_id]
theorem act_snoc {t : List (List Nat)} {x : Str} {cs : List Nat} {c : Nat} : act t x (cs ++ [c]) = ledon t (act t x cs) (x.cps.toList.idxOf c) := by
  unfold act ledon
  rw [List.map_map]
  refine List.map_congr_left fun q _ => ?_
  rw [goes_snoc]
  rfl
theorem act_lt {t : List (List Nat)} {x : Str} {m : Nat} (tb : IsTab t t.length m) (hm : x.cps.toList.length = m) {cs : List Nat} (hw : ∀ c ∈ cs, c ∈ x.cps.toList) : ∀ z ∈ act t x cs, z < t.length := by
  intro z hz
  unfold act at hz
  obtain ⟨q, hq, rfl⟩ := List.mem_map.mp hz
  exact goes_lt tb hm _ _ (List.mem_range.mp hq) hw
theorem ledon_lt {t : List (List Nat)} {m c : Nat} (tb : IsTab t t.length m) (hc : c < m) {fs : List Nat} (hf : ∀ z ∈ fs, z < t.length) : ∀ z ∈ ledon t fs c, z < t.length := by
  intro z hz
  unfold ledon at hz
  obtain ⟨q, hq, rfl⟩ := List.mem_map.mp hz
  have hp := hf q hq
  have ed : t.getD q [] = t[q] := by simp [List.getD, List.getElem?_eq_getElem hp]
  obtain ⟨e1, e2⟩ := tb.2 t[q] (List.getElem_mem hp)
  rw [ed]
  have hc2 : c < t[q].length := by rw [e1]; exact hc
  have eg : t[q].getD c 0 = t[q][c] := by simp [List.getD, List.getElem?_eq_getElem hc2]
  rw [eg]
  exact e2 _ (List.getElem_mem hc2)
/-- a tuple of numbers as a key -/
def key (fs : List Nat) : List Key := fs.map fun q => (Sum.inl ((q : Nat) : Int) : Key)
theorem key_tup (fs : List Nat) : (key fs).map kV = nts fs := by
  unfold key nts
  rw [List.map_map]
  rfl
theorem key_inj {fs gs : List Nat} (h : key fs = key gs) : fs = gs := by
  induction fs generalizing gs with
  | nil =>
    cases gs with
    | nil => rfl
    | cons g gs => cases h
  | cons f fs ih =>
    cases gs with
    | nil => cases h
    | cons g gs =>
      have h : (Sum.inl ((f : Nat) : Int) : Key) :: key fs = Sum.inl ((g : Nat) : Int) :: key gs := h
      injection h with h1 h2
      injection h1 with h1
      have e : f = g := by omega
      rw [e, ih h2]
/-- actions that stand as tuples -/
def RowsA (H : Hp) (us : List V) (F : List (List Nat)) : Prop := us.length = F.length ∧ ∀ (i : Nat) (r : List Nat), F[i]? = some r → ∃ b : Addr, us[i]? = some (.ref b) ∧ H b = some (.tup (nts r))
theorem RowsA.to {H H' : Hp} {us : List V} {F : List (List Nat)} (h : RowsA H us F) (k : ∀ b ys, H b = some (.tup ys) → H' b = some (.tup ys)) : RowsA H' us F := ⟨h.1, fun i r e => by
  obtain ⟨b, b1, b2⟩ := h.2 i r e
  exact ⟨b, b1, k _ _ b2⟩⟩
theorem RowsA.snoc {H : Hp} {us : List V} {F : List (List Nat)} {b : Addr} {r : List Nat} (h : RowsA H us F) (hb : H b = some (.tup (nts r))) : RowsA H (us ++ [.ref b]) (F ++ [r]) := by
  refine ⟨by rw [List.length_append, List.length_append, h.1]; rfl, fun i r' e => ?_⟩
  rcases snoc_at e with e | ⟨rfl, rfl⟩
  · obtain ⟨b', b1, b2⟩ := h.2 i r' e
    refine ⟨b', ?_, b2⟩
    rw [List.getElem?_append_left (List.getElem?_eq_some_iff.mp b1).1]
    exact b1
  · refine ⟨b, ?_, hb⟩
    rw [← h.1, List.getElem?_append_right (Nat.le_refl _), Nat.sub_self]
    rfl
/-- the dict that numbers the found actions -/
structure NumsA (kvs : List (List Key × V)) (F : List (List Nat)) : Prop where
  only : ∀ (k : List Key) (v : V), valV kvs k = some v → ∃ i r, F[i]? = some r ∧ k = key r ∧ v = .int ((i : Nat) : Int)
  len : kvs.length ≤ F.length
theorem putT_len {kvs : List (List Key × V)} {k : List Key} {v : V} : (putK kvs k v).length ≤ kvs.length + 1 := by
  unfold putK
  split
  · rw [List.length_map]
    omega
  · rw [List.length_append]
    exact Nat.le_refl _
theorem NumsA.put {kvs : List (List Key × V)} {F : List (List Nat)} {r : List Nat} (h : NumsA kvs F) : NumsA (putK kvs (key r) (.int ((F.length : Nat) : Int))) (F ++ [r]) := by
  refine ⟨fun k v e => ?_, ?_⟩
  · rw [valV_put] at e
    by_cases c : k = key r
    · rw [if_pos c] at e
      refine ⟨F.length, r, ?_, c, (Option.some.inj e).symm⟩
      rw [List.getElem?_append_right (Nat.le_refl _), Nat.sub_self]
      rfl
    · rw [if_neg c] at e
      obtain ⟨i, r', h1, h2, h3⟩ := h.only k v e
      refine ⟨i, r', ?_, h2, h3⟩
      rw [List.getElem?_append_left (List.getElem?_eq_some_iff.mp h1).1]
      exact h1
  · have := putT_len (kvs := kvs) (k := key r) (v := V.int ((F.length : Nat) : Int))
    have := h.len
    rw [List.length_append]
    show _ ≤ F.length + 1
    omega
theorem at_app {α : Type} {F : List α} {i : Nat} {r : α} (h : F[i]? = some r) (s : α) : (F ++ [s])[i]? = some r := by
  rw [List.getElem?_append_left (List.getElem?_eq_some_iff.mp h).1]
  exact h
section
variable {P : Program} {w : World} {K : PySem.W.Frag} {mg : Str → Option Value} {base : Heap}
end
end M3

set_option Elab.async false
set_option linter.all false
set_option maxRecDepth 100000
set_option maxHeartbeats 2000000
/-! # A lambda with parameters and captured names, handed to a def that calls it -/
namespace NvK
open PySem PySem.Spec PyProof.Rows L2 LamX NdefX
/-- a lambda's words, the cells that it captured, its code object -/
structure LF where
  qual : Str
  params : Arguments
  body : Expr
  scope : Scope
  cl : List (Str × Addr)
  c : Addr
/-- .. as a def without a body: for its frame -/
abbrev LF.nf (F : LF) : NF := ⟨"<lambda>", F.qual, F.params, [], F.scope, F.cl, F.c⟩
/-- the object at f is the lambda F -/
def LamO (f : Addr) (F : LF) : HO := .ext fun h => ∃ (pm ctv : Value), h.get? f = some (PySem.W.kla_obj "<lambda>" F.qual F.params F.body F.scope F.cl pm F.c ctv)
theorem lamO_ne {f : Addr} {F : LF} (ps : Array Value) : LamO f F ≠ .tbl ps := fun z => by
  unfold LamO at z
  cases z
theorem lamO_at {P : Program} {w : World} {H : Hp} {h : Heap} {f : Addr} {F : LF} (hok : HOk P w H h) (e : H f = some (LamO f F)) : ∃ (pm ctv : Value), h.get? f = some (PySem.W.kla_obj "<lambda>" F.qual F.params F.body F.scope F.cl pm F.c ctv) := by
  obtain ⟨z, _, _⟩ := hok f _ e
  exact z
section
variable {X : Cx} {pins : List (Addr × Obj)} {σ : L2.St} {H : Hp} {s : Shared}
/-- a lambda's object just made is known from now on -/
theorem inv_lam {F : LF} {o : Obj} {t' : Nat} {pm ctv : Value} (I : Inv X pins σ H s) (ho : o = PySem.W.kla_obj "<lambda>" F.qual F.params F.body F.scope F.cl pm F.c ctv) :
    Inv X pins σ (upd H s.heap.objs.size (LamO s.heap.objs.size F)) { s with heap := s.heap.push o, toks := t' } := by
  subst ho
  refine I.laid (a := s.heap.objs.size) (fun b u e => Heap.get?_push_of_some _ e) (Nat.le_refl _) ?_
  have e : (s.heap.push (PySem.W.kla_obj "<lambda>" F.qual F.params F.body F.scope F.cl pm F.c ctv)).get? s.heap.objs.size = some (PySem.W.kla_obj "<lambda>" F.qual F.params F.body F.scope F.cl pm F.c ctv) := Heap.get?_push_size _ rfl
  exact ⟨⟨pm, ctv, e⟩, ⟨_, e⟩, fun h1 h2 ⟨p, t, z⟩ st => ⟨p, t, st _ z⟩⟩
/-- the lambda is made: its code object is new, or found in the table -/
theorem lamn_make {T : List NTab} {nm : Nat → Nat → Str} {c P : Addr} {params : Arguments} {body : Expr} {scope : Scope} {pos : Pos} {E : Value → Shared → Prop} {Q : Value → Shared → Prop} (I : Inv X pins σ H s) (TB : TabB X.base X.mg c P) (hcode : X.env.code = .ref c)
    (hm : (P, nm) ∈ T) (hn : nm pos.line pos.col = X.env.qual ++ "<lambda>") (hu : ∀ p ∈ T, p.1 = P → p.2 = nm) (hT : TabsN T H) (hdef : defaultsOf params X.env = ([], [])) (hfree : ∀ y ∈ scope.names, y.2 = .free → ∃ c, X.env.cells.lookup y.1 = some c)
    (h : ∀ (f c' : Addr) (H1 : Hp) (s' : Shared), Inv X pins σ H1 s' → ExtN H H1 → (∀ b, H1 b = Option.none → H b = Option.none) → TabsN T H1 → H f = none → H1 f = some (LamO f ⟨X.env.qual ++ "<lambda>", params, body, scope, cloFrom X.env.cells scope.names [], c'⟩) → H1 c' = some (CodeO c' (X.env.qual ++ "<lambda>")) → Q (.ref f) s') :
    wpAny (model X.prog X.w) X.A (eval (.Lambda params body scope pos) X.env) Q E s := by
  obtain ⟨ps, hP, ht, ha⟩ := (show TabN H P nm from hT _ hm)
  refine PySem.W.kla_eval hdef ?_
  have bP : s.heap.BuiltinsAt X.mg P := TB.bm.keeps I.bk
  have hP' : s.heap.get? P = some { cls := .none, data := .fields ps } := I.hok P _ hP
  cases hc : codeAmong pos ps.toList with
  | none =>
    refine PySem.W.kla_makeFunction (mg := X.mg) (c := c) (P := P) (ps := ps) (closure_ok hfree) I.ok.glob (I.mod.glob.keeps I.bk) hcode (TB.code.keeps I.bk) hP' ht hc TB.gP bP fun c' ctv h' tk hx hge hlt hrec htb => ?_
    obtain ⟨c2, oc, vs, t, e2, hoc, hd, hv⟩ := hrec
    cases e2
    have nC : H c' = none := I.hok.fresh hge
    have I1 := inv_table (t' := tk) (more := #[rawInt pos.line, rawInt pos.col, .ref c']) (h' := h') I hP (fun b o hb e => hx b o hb e) htb hge ⟨oc, vs, t, hoc, hd, hv⟩
    have hE : ExtN H (upd (upd H P (.tbl (ps ++ #[rawInt pos.line, rawInt pos.col, .ref c']))) c' (CodeO c' (X.env.qual ++ "<lambda>"))) := fun b o e n => by
      rw [upd_ne (ne_of_none e nC), upd_ne (fun z => n ps (Option.some.inj (e.symm.trans (by rw [z]; exact hP))))]
      exact e
    have eL : (ps ++ #[rawInt pos.line, rawInt pos.col, .ref c']).toList = ps.toList ++ [rawInt pos.line, rawInt pos.col, .ref c'] := by simp
    have T1 : TabsN T (upd (upd H P (.tbl (ps ++ #[rawInt pos.line, rawInt pos.col, .ref c']))) c' (CodeO c' (X.env.qual ++ "<lambda>"))) := fun p hp => by
      by_cases hb : p.1 = P
      · rw [hu p hp hb, hb]
        refine ⟨_, by rw [upd_ne (ne_of_none hP nC), upd_same], by rw [eL]; exact PySem.TriplesOk_snoc _ _ _ _ ht, fun p' cv hcv => ?_⟩
        rw [eL] at hcv
        rcases among_app2 _ ht hcv with z | ⟨z, z1, z2⟩
        · obtain ⟨c0, e1, e2⟩ := ha p' cv z
          exact ⟨c0, e1, hE _ _ e2 codeO_ne⟩
        · refine ⟨c', z, ?_⟩
          rw [← z1, ← z2, hn]
          exact upd_same
      · obtain ⟨ps', a1, a2, a3⟩ := hT p hp
        refine ⟨ps', by rw [upd_ne (ne_of_none a1 nC), upd_ne hb]; exact a1, a2, fun p' cv hcv => ?_⟩
        obtain ⟨c0, e1, e2⟩ := a3 p' cv hcv
        exact ⟨c0, e1, hE _ _ e2 codeO_ne⟩
    have nF := I1.hok.fresh (Nat.le_refl _)
    have I2 := inv_lam (F := ⟨X.env.qual ++ "<lambda>", params, body, scope, cloFrom X.env.cells scope.names [], c'⟩) (t' := tk) (pm := (X.mg "__name__").getD .none) (ctv := ctv) I1 rfl
    refine h h'.objs.size c' _ _ I2 (fun b o e n => ?_) (fun b e => upd_none (upd_none (upd_none e))) (T1.ext fun b o e => ?_) (I.hok.fresh (Nat.le_trans hge (Nat.le_of_lt hlt))) upd_same ?_
    · have e1 := hE b o e n
      exact (upd_ne (ne_of_none e1 nF)).trans e1
    · exact (upd_ne (ne_of_none e nF)).trans e
    · exact (upd_ne (Nat.ne_of_lt hlt)).trans upd_same
  | some cv =>
    obtain ⟨c', e, hco⟩ := ha pos cv hc
    subst e
    rw [hn] at hco
    refine PySem.W.kla_makeFunctionHit (mg := X.mg) (c := c) (P := P) (ps := ps) (closure_ok hfree) I.ok.glob (I.mod.glob.keeps I.bk) hcode (TB.code.keeps I.bk) hP' ht hc bP fun ctv h' tk hx hsz => ?_
    have I1 : Inv X pins σ H { s with heap := h', toks := tk } := I.kept hx
    have nF : H h'.objs.size = none := I1.hok.fresh (Nat.le_refl _)
    have I2 := inv_lam (F := ⟨X.env.qual ++ "<lambda>", params, body, scope, cloFrom X.env.cells scope.names [], c'⟩) (t' := tk) (pm := (X.mg "__name__").getD .none) (ctv := ctv) I1 rfl
    refine h h'.objs.size c' _ _ I2 (fun b o e n => ?_) (fun b e => upd_none e) (hT.ext fun b o e => ?_) nF upd_same ?_
    · exact (upd_ne (ne_of_none e nF)).trans e
    · exact (upd_ne (ne_of_none e nF)).trans e
    · exact (upd_ne (ne_of_none hco nF)).trans hco
end
/-- the reading of a lambda: a new function value; T: the tables of code objects -/
def tLamN (T : List NTab) (mk : Addr → LF) : TE := fun _ H Q => TabsN T H ∧ ∀ (f c' : Addr) (H1 : Hp), ExtN H H1 → (∀ b, H1 b = Option.none → H b = Option.none) → TabsN T H1 → H f = none → H1 f = some (LamO f (mk c')) → H1 c' = some (CodeO c' (mk c').qual) → Q (.ref f) H1
section
variable {X : Cx}
theorem pe_lamN {T : List NTab} {nm : Nat → Nat → Str} {c P : Addr} {params : Arguments} {body : Expr} {scope : Scope} {pos : Pos} (TB : TabB X.base X.mg c P) (hcode : X.env.code = .ref c) (hm : (P, nm) ∈ T) (hn : nm pos.line pos.col = X.env.qual ++ "<lambda>") (hu : ∀ p ∈ T, p.1 = P → p.2 = nm)
    (hfree : ∀ y ∈ scope.names, y.2 = .free → X.env.scope.names.lookup y.1 = some .cell ∨ X.env.scope.names.lookup y.1 = some .free) (hdef : defaultsOf params X.env = ([], [])) :
    PE X (.Lambda params body scope pos) (tLamN T fun c' => ⟨X.env.qual ++ "<lambda>", params, body, scope, cloFrom X.env.cells scope.names [], c'⟩) := by
  refine ⟨fun pins s σ H Q I h => ?_⟩
  obtain ⟨hT, h⟩ := h
  have hfr : ∀ y ∈ scope.names, y.2 = .free → ∃ c, X.env.cells.lookup y.1 = some c := fun y hy e => (hfree y hy e).elim (fun z => I.ok.has _ (.inl z)) fun z => I.ok.has _ (.inr z)
  refine lamn_make I TB hcode hm hn hu hT hdef hfr fun f c' H1 s' I1 eN nn T1 f0 f1 c1 => ?_
  exact ⟨.ref f, H1, I1, rfl, h f c' H1 eN nn T1 f0 f1 c1⟩
end
/-! ### what a function value promises from a state on -/
/-- from the state (s, H) on, in which the frames outer run: the lambda F at f keeps sp -/
structure Given (P : Program) (w : World) (K : PySem.W.Frag) (mg : Str → Option Value) (base : Heap) (CX : CXT) (k : Nat) (outer : List Env) (s : Shared) (H : Hp) (f : Addr) (F : LF) (sp : Sp) : Prop where
  run : ∀ (A : Around) (outer' : List Env) (s' : Shared) (H' : Hp) (us : List Value) (vs : List V) (Q : VK) (E : XK), Room k A → Env0 P w K mg base A outer' s' H' → Un (frs outer) [] H H' s.heap s'.heap → H' f = some (LamO f F) → H' F.c = some (CodeO F.c F.qual) →
    Vals vs us → sp vs H' Q E → codeAny (model P w) A (.call (.ref f) ⟨us, []⟩) (CR CX outer' P w H' s' Q E) s'
theorem Given.imp {P : Program} {w : World} {K : PySem.W.Frag} {mg : Str → Option Value} {base : Heap} {CX : CXT} {k : Nat} {outer : List Env} {s : Shared} {H : Hp} {f : Addr} {F : LF} {sp sp' : Sp} (G : Given P w K mg base CX k outer s H f F sp) (h : ∀ vs H Q E, sp' vs H Q E → sp vs H Q E) :
    Given P w K mg base CX k outer s H f F sp' := ⟨fun A o s' H' us vs Q E hr e0 un h1 h2 r q => G.run A o s' H' us vs Q E hr e0 un h1 h2 r (h _ _ _ _ q)⟩
theorem cellsAt_un {cl : List (Str × Addr)} {fr : List Str} {ws : List (Option V)} {h h' : Heap} {H H' : Hp} {fs : List Addr} (C : CellsAt cl fr ws h H) (un : Un fs [] H H' h h') (nf : ∀ y c, cl.lookup y = some c → c ∉ fs) : CellsAt cl fr ws h' H' := by
  have kp : ∀ y c, cl.lookup y = some c → ∀ v, h.IsCell c v → h'.IsCell c v := fun y c e v ⟨o, ho, hd⟩ => ⟨o, un.keep c o ho (C.all y c e).1 (nf y c e) (by simp), hd⟩
  refine ⟨C.len, fun y c e => ?_, C.inj, fun i y e => ?_⟩
  · obtain ⟨n, v, z⟩ := C.all y c e
    refine ⟨?_, v, kp y c e v z⟩
    obtain ⟨o, ho, _⟩ := z
    exact un.free c o ho n (by simp)
  · obtain ⟨c, hc, hv⟩ := C.has i y e
    refine ⟨c, hc, fun v ev => ?_⟩
    obtain ⟨u, r, z⟩ := hv v ev
    exact ⟨u, r, kp y c hc _ z⟩
section
variable {X : Cx} {pins : List (Addr × Obj)} {σ : L2.St} {H : Hp} {s : Shared}
/-- a cell of the running def is no frame -/
theorem cell_nofr (I : Inv X pins σ H s) {y : Str} {c : Addr} (e : X.env.cells.lookup y = some c) (hf : X.fn y = true) : c ∉ frs X.stack := fun z => by
  rcases List.mem_cons.mp (I.stkSub c z) with q | q
  · exact I.cne y c e q
  · obtain ⟨_, o, ho, _⟩ := I.ok.funs.mem q
    exact absurd (Nat.lt_of_lt_of_le (Heap.lt_size ho) (I.ok.cab y c hf e)) (Nat.lt_irrefl _)
/-- THE RULE: a lambda made here, by its body -/
theorem given_lam {CX : CXT} {N ps fr : List Str} {js : List Nat} {F : LF} {f : Addr} {k : Nat} {sp : Sp} (I : Inv X pins σ H s) (cp : Caps X F.cl fr js) (hfn : ∀ y, X.fn y = true) (S : NScope N ps fr F.scope)
    (hb : ∀ (pm ctv : Value) (us : List Value), us.length = ps.length → bindArgs (PySem.W.kla_fn "<lambda>" F.qual F.params F.body F.scope F.cl pm (.ref F.c) ctv) ⟨us, []⟩ = pure (ps.zip us)) (len : ∀ vs H Q E, sp vs H Q E → vs.length = ps.length)
    (hbody : ∀ (A : Around) (outer' : List Env) (s' : Shared) (H' : Hp) (vs : List V) (Q : VK) (E : XK), Room k (A.deeper (envF F.nf f s'.heap.objs.size)) → sp vs H' Q E →
      ∃ t, PE (ncx CX X.prog X.w X.K X.mg X.base N F.nf f A outer' s' H' E) F.body t ∧ t (startF N vs (js.map (slotAt σ))) H' Q) :
    Given X.prog X.w X.K X.mg X.base CX (k + 1) X.stack s H f F sp := by
  refine ⟨fun A outer' s' H' us vs Q E hr e0 un hf hc r hsp => ?_⟩
  have hl := len _ _ _ _ hsp
  have lim : s'.heap.NoLimit := e0.mod.nolimit.keeps fun b o e => (e0.bs b o e).1
  have C : CellsAt F.cl fr (js.map (slotAt σ)) s'.heap H' := cellsAt_un (cells_of I cp) un fun y c e => cell_nofr I (cp.sub y c e) (hfn y)
  obtain ⟨pm, ctv, ho⟩ := lamO_at e0.hok hf
  refine PySem.W.kla_callFunE hr.depth ho rfl S.co S.gen rfl (codeO_at e0.hok hc) ?_
  rw [hb pm ctv us (by rw [← r.length]; exact hl)]
  refine wpAny_pure (wpAny_newFunctionEnv S.nocell (fun ⟨n, _⟩ hy => S.par n (List.of_mem_zip hy).1) (fun h₁ hns hsb => ⟨lim.fresh _ hsb, ?_⟩) S.kind)
  show codeAny _ _ (.expr F.body (envF F.nf f s'.heap.objs.size)) _ _
  have kp : ∀ b o, s'.heap.get? b = some o → h₁.get? b = some o := fun b o e => hsb.extBut b o (Nat.ne_of_lt (Heap.lt_size e)) (Heap.get?_push_of_some _ e)
  obtain ⟨t, ht, hq⟩ := hbody A outer' s' H' vs Q E (hr.deeper _) hsp
  have J : Inv (ncx CX X.prog X.w X.K X.mg X.base N F.nf f A outer' s' H' E) [] (startF N vs (js.map (slotAt σ))) H' { s' with heap := h₁, toks := s'.toks + (ps.zip us).length } := inv_startN (F := F.nf) S hr.hd e0 hl r C hns kp
  refine PySem.W.kla_codeExpr (wpAny_mono (ht.run [] _ _ H' Q J hq) (fun v s2 hv => ?_) fun e s2 hv => hv)
  obtain ⟨w', H2, J2, rv, q⟩ := hv
  exact ⟨w', H2, J2.os, J2.bare, J2.base, J2.hok, rv, q⟩
end
/-! ### calls of what was handed -/
/-- f(..), f a name that holds the lambda F -/
def tGiv (i : Nat) (f : Addr) (F : LF) (sp : Sp) (E : XK) (t : TA) : TE := fun σ H Q => σ[i]? = some (some (.ref f)) ∧ H f = some (LamO f F) ∧ t σ H fun vs H1 => H1 f = some (LamO f F) ∧ H1 F.c = some (CodeO F.c F.qual) ∧ sp vs H1 Q E
section
variable {X : Cx} {CX : CXT} {i j k : Nat} {x : Str} {f : Addr} {F : LF} {sp : Sp} {E : XK} {t : TA} {e : Expr} {es : List Expr} {p pos : Pos}
theorem lamAt_of {pins : List (Addr × Obj)} {σ : L2.St} {H : Hp} {s : Shared} (I : Inv X pins σ H s) (e : H f = some (LamO f F)) : PySem.W.FnAt f s.heap := by
  obtain ⟨pm, ctv, ho⟩ := lamO_at I.hok e
  exact ⟨_, _, _, _, ho⟩
theorem pe_given (G : Given X.prog X.w X.K X.mg X.base CX k X.outer X.s_0 X.H_0 f F sp) (hr : Room j X.A) (hk : k ≤ j) (hx : Passes CX X E) (hex : X.ex = []) (hN : X.N[i]? = some x) (hv : Vis X.env.scope x) (ha : PA X (e :: es) t)
    (hd : (x == ("__debug__" : Str)) = false := by decide) (hcd : (x == ("__classdict__" : Str)) = false := by decide)
    (he : starEach (e :: es) X.env = (false, eval e X.env) :: starEach es X.env := by rfl) (hpl : (backTo pos (starEach es X.env)).any (·.1) = false := by rfl) :
    PE X (.Call (.Name x p) (e :: es) [] pos) (tGiv i f F sp E t) := by
  refine ⟨fun pins s σ H Q I h => ?_⟩
  obtain ⟨hs, hf, ht⟩ := h
  refine wpAny_Call_Name_kw (thn ((pe_var (pos := p) hN hv hd hcd).run pins s σ H (fun v H1 => v = .ref f ∧ H1 = H) I ⟨.ref f, hs, rfl, rfl⟩) fun u s1 ⟨v, H1, I1, r1, q1⟩ => ?_)
  obtain ⟨ev, eH⟩ := q1
  subst ev
  rw [eH] at I1
  obtain rfl : u = Value.ref f := r1
  refine PySem.W.callWith_F (first := []) (lamAt_of I1 hf) (thn (ha.run pos pins s1 σ H _ I1 ht) fun us s2 ⟨vs, H2, I2, r, h1, h2, q⟩ => ⟨lamAt_of I2 h1, ?_⟩) he hpl
  show wpAny _ _ (call (.ref f) us) _ _ _
  have un : Un (frs X.outer) [] X.H_0 H2 X.s_0.heap s2.heap := by
    have z := I2.base
    rw [hex] at z
    exact z
  refine wpAny_call (codeAny_mono (G.run X.A X.stack s2 H2 us vs Q E (hr.mono hk) I2.env0 un h1 h2 r q) fun r s' hq => ?_)
  cases r with
  | error e => exact hx pins σ H2 s2 e s' I2 hq
  | ok fl =>
    cases fl with
    | ret u => exact I2.after hq
    | next => exact False.elim hq
    | brk => exact False.elim hq
    | cont => exact False.elim hq
/-- x(..) of a top's def that gets a function value; what the callee asks is told of the very state -/
theorem pe_callV {g : Addr} {TV : L2.St → List V → Hp → VK → Prop} (hg : Gl X x) (hm : X.mg x = some (.ref g)) (hk : PySem.W.keepIn X.K (.ref g) = true) (hx : Passes CX X E) (ha : PA X (e :: es) t)
    (R : ∀ (pins : List (Addr × Obj)) (s : Shared) (σ : L2.St) (H : Hp) (Q : VK) (us : List Value) (vs : List V), Inv X pins σ H s → Vals vs us → TV σ vs H Q → codeAny (model X.prog X.w) X.A (.call (.ref g) ⟨us, []⟩) (CR CX X.stack X.prog X.w H s Q E) s)
    (hdb : (x == ("__debug__" : Str)) = false := by decide) (he : starEach (e :: es) X.env = (false, eval e X.env) :: starEach es X.env := by rfl) (hpl : (backTo pos (starEach es X.env)).any (·.1) = false := by rfl) :
    PE X (.Call (.Name x p) (e :: es) [] pos) (fun σ H Q => t σ H fun vs H1 => TV σ vs H1 Q) := by
  refine ⟨fun pins s σ H Q I h => ?_⟩
  refine wpAny_Call_Name_kw (ld_glob I hg hm ?_ hdb)
  refine PySem.W.callWith_K (h₀ := X.base) I.ok.mod.kin hk (thn (ha.run pos pins s σ H _ I h) fun us s1 ⟨vs, H1, I1, r, q⟩ => ⟨I1.kIn, ?_⟩) he hpl
  refine wpAny_call (codeAny_mono (R pins s1 σ H1 Q us vs I1 r q) fun r s' hq => ?_)
  cases r with
  | error e => exact hx pins σ H1 s1 e s' I1 hq
  | ok fl =>
    cases fl with
    | ret u => exact I1.after hq
    | next => exact False.elim hq
    | brk => exact False.elim hq
    | cont => exact False.elim hq
end
end NvK

set_option Elab.async false
set_option linter.all false
set_option maxRecDepth 100000
set_option maxHeartbeats 8000000
/-! # walked: a word's letters, each by a step that is handed over; the things walked are tuples of numbers and texts -/
namespace M3
open PySem L2
abbrev sWalked : Stmt := top 26
abbrev nWalked : List Str := ["start", "step", "word", "found", "numbers", "known", "now", "letter", "goal"]
theorem scWalked : FnScope nWalked ["start", "step", "word"] (defScope sWalked) := ⟨rfl, rfl, rfl, by decide +kernel, rfl, by decide +kernel, by decide +kernel⟩
/-- things that stand as tuples -/
def RowsK (H : Hp) (us : List V) (F : List (List Key)) : Prop := us.length = F.length ∧ ∀ (i : Nat) (r : List Key), F[i]? = some r → ∃ b : Addr, us[i]? = some (.ref b) ∧ H b = some (.tup (r.map kV))
theorem RowsK.to {H H' : Hp} {us : List V} {F : List (List Key)} (h : RowsK H us F) (k : ∀ b ys, H b = some (.tup ys) → H' b = some (.tup ys)) : RowsK H' us F := ⟨h.1, fun i r e => by
  obtain ⟨b, b1, b2⟩ := h.2 i r e
  exact ⟨b, b1, k _ _ b2⟩⟩
theorem RowsK.snoc {H : Hp} {us : List V} {F : List (List Key)} {b : Addr} {r : List Key} (h : RowsK H us F) (hb : H b = some (.tup (r.map kV))) : RowsK H (us ++ [.ref b]) (F ++ [r]) := by
  refine ⟨by rw [List.length_append, List.length_append, h.1]; rfl, fun i r' e => ?_⟩
  rcases snoc_at e with e | ⟨rfl, rfl⟩
  · obtain ⟨b', b1, b2⟩ := h.2 i r' e
    refine ⟨b', ?_, b2⟩
    rw [List.getElem?_append_left (List.getElem?_eq_some_iff.mp b1).1]
    exact b1
  · refine ⟨b, ?_, hb⟩
    rw [← h.1, List.getElem?_append_right (Nat.le_refl _), Nat.sub_self]
    rfl
/-- the dict that numbers the found things -/
structure NumsK (kvs : List (List Key × V)) (F : List (List Key)) : Prop where
  only : ∀ (k : List Key) (v : V), valV kvs k = some v → ∃ i, F[i]? = some k ∧ v = .int ((i : Nat) : Int)
  len : kvs.length ≤ F.length
theorem NumsK.put {kvs : List (List Key × V)} {F : List (List Key)} {r : List Key} (h : NumsK kvs F) : NumsK (putK kvs r (.int ((F.length : Nat) : Int))) (F ++ [r]) := by
  refine ⟨fun k v e => ?_, ?_⟩
  · rw [valV_put] at e
    by_cases c : k = r
    · rw [if_pos c] at e
      refine ⟨F.length, ?_, (Option.some.inj e).symm⟩
      rw [List.getElem?_append_right (Nat.le_refl _), Nat.sub_self, c]
      rfl
    · rw [if_neg c] at e
      obtain ⟨i, h1, h3⟩ := h.only k v e
      refine ⟨i, ?_, h3⟩
      rw [List.getElem?_append_left (List.getElem?_eq_some_iff.mp h1).1]
      exact h1
  · have := putT_len (kvs := kvs) (k := r) (v := V.int ((F.length : Nat) : Int))
    have := h.len
    rw [List.length_append]
    show _ ≤ F.length + 1
    omega
/-- the dict of known steps -/
structure StepsK (g : List Key → Nat → List Key) (kvs : List (List Key × V)) (F : List (List Key)) (n : Nat) : Prop where
  only : ∀ (i c : Nat) (v : V), valV kvs [.inl ((i : Nat) : Int), .inr ⟨#[c]⟩] = some v → ∃ (j : Nat) (r s : List Key), v = .int ((j : Nat) : Int) ∧ F[i]? = some r ∧ F[j]? = some s ∧ s = g r c
  len : kvs.length ≤ n
theorem StepsK.app {g : List Key → Nat → List Key} {kvs : List (List Key × V)} {F : List (List Key)} {n : Nat} (h : StepsK g kvs F n) (s : List Key) : StepsK g kvs (F ++ [s]) n := ⟨fun i c v e => by
  obtain ⟨j, r, s', h1, h2, h3, h4⟩ := h.only i c v e
  exact ⟨j, r, s', h1, at_app h2 s, at_app h3 s, h4⟩, h.len⟩
theorem StepsK.put {g : List Key → Nat → List Key} {kvs : List (List Key × V)} {F : List (List Key)} {n i c j : Nat} {r s : List Key} (h : StepsK g kvs F n) (h2 : F[i]? = some r) (h3 : F[j]? = some s) (h4 : s = g r c) :
    StepsK g (putK kvs [.inl ((i : Nat) : Int), .inr ⟨#[c]⟩] (.int ((j : Nat) : Int))) F (n + 1) := by
  refine ⟨fun i' c' v e => ?_, ?_⟩
  · rw [valV_put] at e
    by_cases q : ([.inl ((i' : Nat) : Int), .inr ⟨#[c']⟩] : List Key) = [.inl ((i : Nat) : Int), .inr ⟨#[c]⟩]
    · rw [if_pos q] at e
      injection q with q1 q2
      injection q1 with q1
      injection q2 with q2
      injection q2 with q2
      injection q2 with q2
      have ei : i' = i := by omega
      have ec : c' = c := by
        have q3 : (#[c'] : Array Nat).toList = (#[c] : Array Nat).toList := by rw [q2]
        injection q3
      subst ei ec
      exact ⟨j, r, s, (Option.some.inj e).symm, h2, h3, h4⟩
    · rw [if_neg q] at e
      exact h.only i' c' v e
  · have := putT_len (kvs := kvs) (k := [.inl ((i : Nat) : Int), .inr ⟨#[c]⟩]) (v := V.int ((j : Nat) : Int))
    have := h.len
    omega
/-- what walked asks: the start, the step F at f with its promise gsp, the word -/
def spWalked (f : Addr) (F : NvK.LF) (gsp : Sp) : Sp := fun vs H Q _ => ∃ (b0 : Addr) (y : Str) (k0 : List Key) (g : List Key → Nat → List Key) (Ok : List Key → Prop), vs = [.ref b0, .ref f, .str y] ∧ H b0 = some (.tup (k0.map kV)) ∧ H f = some (NvK.LamO f F) ∧ H F.c = some (LamX.CodeO F.c F.qual) ∧
  Ok k0 ∧ (∀ c ∈ y.cps.toList, ∀ k, Ok k → Ok (g k c)) ∧
  (∀ (H' : Hp) (b : Addr) (k : List Key) (c : Nat) (Q' : VK) (E' : XK), Same H H' → H' b = some (.tup (k.map kV)) → Ok k → c ∈ y.cps.toList → (∀ (b' : Addr) (H8 : Hp), H8 b' = some (.tup ((g k c).map kV)) → Same H' H8 → Q' (.ref b') H8) → gsp [.ref b, .str ⟨#[c]⟩] H' Q' E') ∧
  y.length ≤ 1000000 ∧ ∀ (b' : Addr) (H' : Hp), H' b' = some (.tup ((y.cps.toList.foldl g k0).map kV)) → Same H H' → Q (.ref b') H'
theorem fold_snoc {α β : Type} {g : β → α → β} {k0 : β} {l : List α} {i : Nat} {c : α} (h : l[i]? = some c) : (l.take (i + 1)).foldl g k0 = g ((l.take i).foldl g k0) c := by
  rw [take_snoc h, List.foldl_append]
  rfl
theorem fold_ok {g : List Key → Nat → List Key} {Ok : List Key → Prop} : ∀ (l : List Nat) (k0 : List Key), Ok k0 → (∀ c ∈ l, ∀ k, Ok k → Ok (g k c)) → Ok (l.foldl g k0)
  | [], _, h, _ => h
  | c :: l, k0, h, st => fold_ok l (g k0 c) (st c List.mem_cons_self k0 h) fun c' hc => st c' (List.mem_cons_of_mem _ hc)
section
variable {P : Program} {w : World} {K : PySem.W.Frag} {mg : Str → Option Value} {base : Heap}
theorem run_walked {g9 : Addr} {gd : FuncData} (F9 : Fun K "walked" "walked" sWalked g9 gd) (bW : Binds K gd ["start", "step", "word"] []) (M : TxM mg) {k : Nat} {A : Around} {outer : List Env} {s : Shared} {H : Hp} {us : List Value} {vs : List V} {Q : VK} {f : Addr} {F : NvK.LF} {gsp : Sp}
    (hr : Room (k + 2) A) (e0 : Env0 P w K mg base A outer s H) (r : Vals vs us) (G : NvK.Given P w K mg base CX0 (k + 1) outer s H f F gsp) (h : spWalked f F gsp vs H Q E0) :
    codeAny (model P w) A (.call (.ref g9) ⟨us, []⟩) (CR CX0 outer P w H s Q E0) s := by
  obtain ⟨b0, y, k0, g, Ok, rfl, hb0, hf0, hc0, ok0, okS, hS, hy, kq⟩ := h
  obtain ⟨oc, od, kV', doc, pm, an, cdv, ct, osl, rfl, lk, hcd⟩ := F9.ex
  have hlu : us.length = 3 := r.length.symm
  refine LamX.run_ofS (N := nWalked) (ps := ["start", "step", "word"]) (us := us) (vs := [.ref b0, .ref f, .str y]) lk hcd scWalked hr e0 ?_ r rfl fun hr' => ?_
  · have q := bW s us (e0.mod.kin.keeps fun b o e => (e0.bs b o e).1) (by rw [List.append_nil]; exact hlu)
    rw [List.append_nil] at q
    exact q
  · have hu := hu_of hr'
    have hu0 : (A.deeper (PyProof.Rows.envOfC "walked" (defScope sWalked) s.heap.objs.size g9 cdv)).units < cLine := Nat.lt_of_succ_lt hu
    suffices z : ∃ t, PSs (cxOf CX0 P w K mg base nWalked "walked" (defScope sWalked) g9 cdv A outer s H E0).nox (defBody sWalked) t ∧ t { nx := fun _ H' => Q .non H', rt := Q } (start nWalked [.ref b0, .ref f, .str y]) H by
      obtain ⟨t, ht, q⟩ := z
      exact ⟨t, ht.nox, q⟩
    refine ⟨_, pss_cons (ps_set (i := 3) scWalked.nd rfl (Or.inl rfl) (pe_lst (pa_cons (pv 0) pa_nil)))
      (pss_cons (ps_set (i := 4) scWalked.nd rfl (Or.inl rfl) (NvQ.pe_disp1 hu0 (pv 0) pe_int))
      (pss_cons (ps_set (i := 5) scWalked.nd rfl (Or.inl rfl) pe_dnewT)
      (pss_cons (ps_set (i := 6) scWalked.nd rfl (Or.inl rfl) pe_int)
      (pss_cons (ps_for PassesOwn.never rfl (pi_str (pv 2)) (pg_name (i := 7) scWalked.nd rfl (Or.inl rfl))
        (pss_cons (ps_if (pt_cmp (pc_dnotin hu (pe_tup (pa_cons (pv 6) (pa_cons (pv 7) pa_nil))) (pv 5)))
          (pss_cons (ps_set (i := 8) scWalked.nd rfl (Or.inl rfl) (NvK.pe_given (i := 1) G hr' (Nat.le_refl _) pass0 rfl rfl (Or.inl rfl) (pa_cons (pe_ix ix_list (pv 3) (pv 6) (fun _ _ => rfl)) (pa_cons (pv 7) pa_nil))))
          (pss_cons (ps_if (pt_cmp (pc_dnotin hu (pv 8) (pv 4)))
            (pss_cons (ps_dput hu (pv 4) (pv 8) (pe_callB call_len_seq (by rfl) M.len PySem.boot_len (pa_cons (pv 3) pa_nil)) rfl)
            (pss_one (ps_expr (pe_bm PySem.F.plainAttrs_list PySem.F.slot_list_append PySem.F.type_list_append mt_append (pv 3) (pa_cons (pv 8) pa_nil))))) pss_nil)
          (pss_one (ps_dput hu (pv 5) (pe_tup (pa_cons (pv 6) (pa_cons (pv 7) pa_nil))) (pe_dget hu (pv 4) (pv 8) (fun _ _ => rfl)) rfl)))) pss_nil)
        (pss_one (ps_set (i := 6) scWalked.nd rfl (Or.inl rfl) (pe_dget hu (pv 5) (pe_tup (pa_cons (pv 6) (pa_cons (pv 7) pa_nil))) (fun _ _ => rfl))))))
      (pss_one (ps_ret (pe_ix ix_list (pv 3) (pv 6) (fun _ _ => rfl)))))))), ?_⟩
    refine ⟨_, rfl, (by show 1 ≤ sizeLine; decide), fun LF nLF => ?_⟩
    have fLF : H LF = none := nLF
    have hF1 : (upd H LF (.lst [.ref b0])) LF = some (.lst [.ref b0]) := upd_same
    have hp1 : (upd H LF (.lst [.ref b0])) b0 = some (.tup (k0.map kV)) := keep_new hb0 nLF
    have s2 : Same H (upd H LF (.lst [.ref b0])) := Same.new (Same.refl H) nLF
    have free : ∀ {H9 : Hp} {q : Addr}, Same H H9 → H9 q = none → H q = none := fun {H9 q} sx hq => by
      cases e : H q with
      | none => rfl
      | some o =>
        have := sx _ _ e
        rw [hq] at this
        cases this
    generalize upd H LF (.lst [.ref b0]) = H2 at hF1 hp1 s2 ⊢
    intro LN nLN
    have fLN : H LN = none := free s2 nLN
    refine ⟨_, rfl, b0, k0, .int 0, rfl, upd_same, keep_new hp1 nLN, ?_⟩
    rw [upd_upd]
    have hN3 : (upd H2 LN (.dT [(k0, .int 0)])) LN = some (.dT [(k0, .int 0)]) := upd_same
    have hF3 := keep_new (u := .dT [(k0, .int 0)]) hF1 nLN
    have hp3 := keep_new (u := .dT [(k0, .int 0)]) hp1 nLN
    have s3 : Same H (upd H2 LN (.dT [(k0, .int 0)])) := Same.new s2 nLN
    generalize upd H2 LN (.dT [(k0, .int 0)]) = H3 at hN3 hF3 hp3 s3 ⊢
    intro LS nLS
    have fLS : H LS = none := free s3 nLS
    have NS : LN ≠ LS := ne_of_none hN3 nLS
    have hN4 := keep_new (u := .dT []) hN3 nLS
    have hF4 := keep_new (u := .dT []) hF3 nLS
    have hp4 := keep_new (u := .dT []) hp3 nLS
    have hS4 : (upd H3 LS (.dT [])) LS = some (.dT []) := upd_same
    have s4 : Same H (upd H3 LS (.dT [])) := Same.new s3 nLS
    generalize upd H3 LS (.dT []) = H4 at hN4 hF4 hp4 hS4 s4 ⊢
    clear nLF nLN nLS s2 s3 hF1 hp1 hN3 hF3 hp3
    refine ⟨_, rfl, y, rfl, for_it walk_str (fun i σ H' => ∃ (us' : List V) (Fs : List (List Key)) (kN kS : List (List Key × V)) (now : Nat) (l gl : Option V), σ = [some (.ref b0), some (.ref f), some (.str y), some (.ref LF), some (.ref LN), some (.ref LS), some (.int (now : Nat)), l, gl] ∧
        H' LF = some (.lst us') ∧ H' LN = some (.dT kN) ∧ H' LS = some (.dT kS) ∧ RowsK H' us' Fs ∧ NumsK kN Fs ∧ StepsK g kS Fs i ∧ Fs[now]? = some ((y.cps.toList.take i).foldl g k0) ∧ (∀ r ∈ Fs, Ok r) ∧ Fs.length ≤ i + 1 ∧ Same H H')
      ⟨[.ref b0], [k0], _, _, 0, none, none, rfl, hF4, hN4, hS4, ?_, ?_, ?_, ?_, ?_, Nat.le_refl _, s4⟩ (fun _ _ _ _ _ => trivial) ?_ ?_⟩
    · exact ⟨rfl, fun i r e => by
        match i, e with
        | 0, e => exact ⟨b0, rfl, by cases e; exact hp4⟩⟩
    · refine ⟨fun k v e => ?_, Nat.le_refl _⟩
      by_cases c : k0 = k
      · rw [valV_pos c] at e
        exact ⟨0, by rw [← c]; rfl, (Option.some.inj e).symm⟩
      · rw [valV_neg c, valV_nil] at e
        cases e
    · exact ⟨fun i c v e => (by rw [valV_nil] at e; cases e), Nat.le_refl _⟩
    · rw [List.take_zero]
      rfl
    · intro r hr'
      rw [List.mem_singleton.mp hr']
      exact ok0
    · rintro i v σ H5 H6 hi ⟨us', Fs, kN, kS, now, l, gl, rfl, hF, hN, hS', RA, NA, SA, hnow, wf, lf, sH⟩ ⟨rfl, c, hc, rfl⟩
      have hi6 : i < 1000000 := by
        have : y.length = y.cps.size := rfl
        omega
      have hc' : y.cps.toList[i]? = some c := by simpa using hc
      have cy : c ∈ y.cps.toList := List.mem_of_getElem? hc'
      have ea : (y.cps.toList.take (i + 1)).foldl g k0 = g ((y.cps.toList.take i).foldl g k0) c := fold_snoc hc'
      have ln : now < Fs.length := (List.getElem?_eq_some_iff.mp hnow).1
      obtain ⟨bq, b1, b2'⟩ := RA.2 now _ hnow
      have okn := wf _ (List.mem_of_getElem? hnow)
      refine ⟨_, rfl, _, rfl, (by show 2 ≤ sizeLine; decide), fun T nT => ?_⟩
      have TF : ∀ {b o}, H6 b = some o → (upd H6 T (.tup [.int (now : Nat), .str ⟨#[c]⟩])) b = some o := fun h => keep_new h nT
      have hT1 : (upd H6 T (.tup [.int (now : Nat), .str ⟨#[c]⟩])) T = some (.tup (([.inl ((now : Nat) : Int), .inr ⟨#[c]⟩] : List Key).map kV)) := upd_same
      have sT : Same H (upd H6 T (.tup [.int (now : Nat), .str ⟨#[c]⟩])) := Same.new sH nT
      have RT := RA.to (H' := upd H6 T (.tup [.int (now : Nat), .str ⟨#[c]⟩])) (fun b ys h => TF h)
      have hF := TF hF
      have hN := TF hN
      have hS' := TF hS'
      have b2' := TF b2'
      generalize upd H6 T (.tup [.int (now : Nat), .str ⟨#[c]⟩]) = H7 at hT1 sT RT hF hN hS' b2' ⊢
      clear TF RA nT sH
      refine ⟨_, rfl, LS, _, rfl, DGet.t (k := [.inl ((now : Nat) : Int), .inr ⟨#[c]⟩]) hS' hT1, _, rfl, ?_⟩
      cases e : valV kS [.inl ((now : Nat) : Int), .inr ⟨#[c]⟩] with
      | some v =>
        refine iteF ?_
        obtain ⟨j, r, s', rfl, j1, j2, j3⟩ := SA.only _ _ _ e
        refine ⟨_, rfl, _, rfl, _, rfl, (by show 2 ≤ sizeLine; decide), fun T2 n2 => ?_⟩
        have G : DGet (upd H7 T2 (.tup [.int (now : Nat), .str ⟨#[c]⟩])) LS (.ref T2) (some (.int (j : Nat))) := by
          have g := DGet.t (k := [.inl ((now : Nat) : Int), .inr ⟨#[c]⟩]) (keep_new (u := .tup [.int (now : Nat), .str ⟨#[c]⟩]) hS' n2) upd_same
          rw [e] at g
          exact g
        refine ⟨LS, _, rfl, G, us', Fs, kN, kS, j, _, gl, rfl, keep_new hF n2, keep_new hN n2, keep_new hS' n2, RT.to (fun b ys h => keep_new h n2), NA, ⟨SA.only, by have := SA.len; omega⟩, ?_, wf, by omega, Same.new sT n2⟩
        rw [j2, ea, j3]
        have z : r = (y.cps.toList.take i).foldl g k0 := Option.some.inj (j1.symm.trans hnow)
        rw [z]
      | none =>
        refine iteT ?_
        refine ⟨rfl, sT _ _ hf0, _, rfl, _, rfl, LF, us', _, _, rfl, rfl, SqL.of hF, atI_nat b1, _, rfl, sT _ _ hf0, sT _ _ hc0, hS _ bq _ c _ _ sT b2' okn cy fun gg H8 hg sg => ?_⟩
        have hF := sg _ _ hF
        have hN := sg _ _ hN
        have hS' := sg _ _ hS'
        have RT := RT.to (H' := H8) (fun b ys h => sg _ _ h)
        have sT := sT.trans sg
        have hT1 := sg _ _ hT1
        have okg := okS c cy _ okn
        rw [← ea] at hg okg
        refine ⟨_, rfl, _, rfl, LN, _, rfl, DGet.t (k := (y.cps.toList.take (i + 1)).foldl g k0) hN hg, _, rfl, ?_⟩
        have sz : (1000001 : Nat) < sizeLine := by decide
        generalize hk1 : (y.cps.toList.take (i + 1)).foldl g k0 = k1 at hg okg ea ⊢
        cases e2 : valV kN k1 with
        | some v =>
          refine iteF ?_
          obtain ⟨j, j1, rfl⟩ := NA.only _ _ e2
          have G2 : DGet H8 LN (.ref gg) (some (.int (j : Nat))) := by
            have q := DGet.t (k := k1) hN hg
            rw [e2] at q
            exact q
          refine ⟨_, rfl, _, rfl, LN, _, rfl, G2, _, rfl, _, rfl, _, rfl, (by show 2 ≤ sizeLine; decide), fun T2 n2 => ?_⟩
          have hS9 := keep_new (u := .tup [.int (now : Nat), .str ⟨#[c]⟩]) hS' n2
          have hN9 := keep_new (u := .tup [.int (now : Nat), .str ⟨#[c]⟩]) hN n2
          have hF9 := keep_new (u := .tup [.int (now : Nat), .str ⟨#[c]⟩]) hF n2
          have hT9 : (upd H8 T2 (.tup [.int (now : Nat), .str ⟨#[c]⟩])) T2 = some (.tup (([.inl ((now : Nat) : Int), .inr ⟨#[c]⟩] : List Key).map kV)) := upd_same
          have R9 := RT.to (H' := upd H8 T2 (.tup [.int (now : Nat), .str ⟨#[c]⟩])) (fun b ys h => keep_new h n2)
          have s9 : Same H (upd H8 T2 (.tup [.int (now : Nat), .str ⟨#[c]⟩])) := Same.new sT n2
          generalize upd H8 T2 (.tup [.int (now : Nat), .str ⟨#[c]⟩]) = H9 at hS9 hN9 hF9 hT9 R9 s9 ⊢
          refine ⟨LS, _, rfl, DPut.t hS9 hT9 (by have := SA.len; omega), ?_⟩
          have SA' := SA.put (c := c) hnow j1 ea
          have TS : LS ≠ LF := Ne.symm (ne_of hF9 hS9 (fun z => by cases z))
          generalize hX : upd H9 LS (.dT (putK kS [.inl ((now : Nat) : Int), .inr ⟨#[c]⟩] (.int ((j : Nat) : Int)))) = HC
          have hSc : HC LS = some (.dT (putK kS [.inl ((now : Nat) : Int), .inr ⟨#[c]⟩] (.int ((j : Nat) : Int)))) := by rw [← hX]; exact upd_same
          have hFc : HC LF = some (.lst us') := by rw [← hX, upd_ne (Ne.symm TS)]; exact hF9
          have hNc : HC LN = some (.dT kN) := by rw [← hX, upd_ne NS]; exact hN9
          have Rc : RowsK HC us' Fs := R9.to (fun b ys h => by rw [← hX, upd_ne (ne_of h hS9 (fun z => by cases z))]; exact h)
          have sc : Same H HC := fun b o h => by rw [← hX, upd_ne (ne_of_none h fLS)]; exact s9 _ _ h
          clear hX
          refine ⟨_, rfl, _, rfl, _, rfl, (by show 2 ≤ sizeLine; decide), fun T3 n3 => ?_⟩
          have G3 : DGet (upd HC T3 (.tup [.int (now : Nat), .str ⟨#[c]⟩])) LS (.ref T3) (some (.int ((j : Nat) : Int))) := by
            have q := DGet.t (k := [.inl ((now : Nat) : Int), .inr ⟨#[c]⟩]) (keep_new (u := .tup [.int (now : Nat), .str ⟨#[c]⟩]) hSc n3) upd_same
            rw [valV_put, if_pos rfl] at q
            exact q
          exact ⟨LS, _, rfl, G3, us', Fs, kN, _, _, _, _, rfl, keep_new hFc n3, keep_new hNc n3, keep_new hSc n3, Rc.to (fun b ys h => keep_new h n3), NA, SA', hk1 ▸ j1, wf, (by omega), Same.new sc n3⟩
        | none =>
          refine iteT ?_
          have lF : us'.length = Fs.length := RT.1
          refine ⟨_, rfl, LF, us', rfl, .inl (SqL.of hF), _, rfl, _, rfl, LN, _, rfl, DPut.t hN hg (by have := NA.len; omega), ?_⟩
          rw [lF]
          have NA2 := NA.put (r := k1)
          have FN : LF ≠ LN := ne_of hF hN (fun z => by cases z)
          have FS : LF ≠ LS := ne_of hF hS' (fun z => by cases z)
          have gF : gg ≠ LF := ne_of hg hF (fun z => by cases z)
          have gN : gg ≠ LN := ne_of hg hN (fun z => by cases z)
          have hFa : (upd H8 LN (.dT (putK kN k1 (.int ((Fs.length : Nat) : Int))))) LF = some (.lst us') := by rw [upd_ne FN]; exact hF
          refine ⟨_, rfl, .inl ⟨rfl, _, SqL.of hFa⟩, _, rfl, LF, us', .ref gg, rfl, rfl, hFa, (by omega), ?_⟩
          generalize hB : upd (upd H8 LN (.dT (putK kN k1 (.int ((Fs.length : Nat) : Int))))) LF (.lst (us' ++ [.ref gg])) = HB
          have hF2 : HB LF = some (.lst (us' ++ [.ref gg])) := by rw [← hB]; exact upd_same
          have hN2 : HB LN = some (.dT (putK kN k1 (.int ((Fs.length : Nat) : Int)))) := by rw [← hB, upd_ne (Ne.symm FN), upd_same]
          have hS2 : HB LS = some (.dT kS) := by rw [← hB, upd_ne (Ne.symm FS), upd_ne (Ne.symm NS)]; exact hS'
          have hg2 : HB gg = some (.tup (k1.map kV)) := by rw [← hB, upd_ne gF, upd_ne gN]; exact hg
          have tp : ∀ b ys, H8 b = some (.tup ys) → HB b = some (.tup ys) := fun b ys h => by
            rw [← hB, upd_ne (ne_of h hF (fun z => by cases z)), upd_ne (ne_of h hN (fun z => by cases z))]
            exact h
          have R2 := (RT.to tp).snoc hg2
          have s2 : Same H HB := fun b o h => by
            rw [← hB, upd_ne (ne_of_none h fLF), upd_ne (ne_of_none h fLN)]
            exact sT _ _ h
          clear hB
          have G2 : DGet HB LN (.ref gg) (some (.int ((Fs.length : Nat) : Int))) := by
            have q := DGet.t (k := k1) hN2 hg2
            rw [valV_put, if_pos rfl] at q
            exact q
          have j1 : (Fs ++ [k1])[Fs.length]? = some k1 := by
            rw [List.getElem?_append_right (Nat.le_refl _), Nat.sub_self]
            rfl
          have wf2 : ∀ r ∈ Fs ++ [k1], Ok r := fun r hr2 => by
            rcases List.mem_append.mp hr2 with q | q
            · exact wf r q
            · rw [List.mem_singleton.mp q]
              exact okg
          refine ⟨_, rfl, _, rfl, LN, _, rfl, G2, _, rfl, _, rfl, _, rfl, (by show 2 ≤ sizeLine; decide), fun T2 n2 => ?_⟩
          have hS9 := keep_new (u := .tup [.int (now : Nat), .str ⟨#[c]⟩]) hS2 n2
          have hN9 := keep_new (u := .tup [.int (now : Nat), .str ⟨#[c]⟩]) hN2 n2
          have hF9 := keep_new (u := .tup [.int (now : Nat), .str ⟨#[c]⟩]) hF2 n2
          have hT9 : (upd HB T2 (.tup [.int (now : Nat), .str ⟨#[c]⟩])) T2 = some (.tup (([.inl ((now : Nat) : Int), .inr ⟨#[c]⟩] : List Key).map kV)) := upd_same
          have R9 := R2.to (H' := upd HB T2 (.tup [.int (now : Nat), .str ⟨#[c]⟩])) (fun b ys h => keep_new h n2)
          have s9 : Same H (upd HB T2 (.tup [.int (now : Nat), .str ⟨#[c]⟩])) := Same.new s2 n2
          generalize upd HB T2 (.tup [.int (now : Nat), .str ⟨#[c]⟩]) = H9 at hS9 hN9 hF9 hT9 R9 s9 ⊢
          refine ⟨LS, _, rfl, DPut.t hS9 hT9 (by have := SA.len; omega), ?_⟩
          have SA' := (SA.app k1).put (c := c) (at_app hnow _) j1 ea
          have TS : LS ≠ LF := Ne.symm (ne_of hF9 hS9 (fun z => by cases z))
          generalize hX : upd H9 LS (.dT (putK kS [.inl ((now : Nat) : Int), .inr ⟨#[c]⟩] (.int ((Fs.length : Nat) : Int)))) = HC
          have hSc : HC LS = some (.dT (putK kS [.inl ((now : Nat) : Int), .inr ⟨#[c]⟩] (.int ((Fs.length : Nat) : Int)))) := by rw [← hX]; exact upd_same
          have hFc : HC LF = some (.lst (us' ++ [.ref gg])) := by rw [← hX, upd_ne (Ne.symm TS)]; exact hF9
          have hNc : HC LN = some (.dT (putK kN k1 (.int ((Fs.length : Nat) : Int)))) := by rw [← hX, upd_ne NS]; exact hN9
          have Rc : RowsK HC (us' ++ [.ref gg]) (Fs ++ [k1]) := R9.to (fun b ys h => by rw [← hX, upd_ne (ne_of h hS9 (fun z => by cases z))]; exact h)
          have sc : Same H HC := fun b o h => by rw [← hX, upd_ne (ne_of_none h fLS)]; exact s9 _ _ h
          clear hX
          refine ⟨_, rfl, _, rfl, _, rfl, (by show 2 ≤ sizeLine; decide), fun T3 n3 => ?_⟩
          have G3 : DGet (upd HC T3 (.tup [.int (now : Nat), .str ⟨#[c]⟩])) LS (.ref T3) (some (.int ((Fs.length : Nat) : Int))) := by
            have q := DGet.t (k := [.inl ((now : Nat) : Int), .inr ⟨#[c]⟩]) (keep_new (u := .tup [.int (now : Nat), .str ⟨#[c]⟩]) hSc n3) upd_same
            rw [valV_put, if_pos rfl] at q
            exact q
          exact ⟨LS, _, rfl, G3, (us' ++ [.ref gg]), (Fs ++ [k1]), _, _, _, _, _, rfl, keep_new hFc n3, keep_new hNc n3, keep_new hSc n3, Rc.to (fun b ys h => keep_new h n3), NA2, SA', hk1 ▸ j1, wf2, (by rw [List.length_append]; show Fs.length + 1 ≤ _; omega), Same.new sc n3⟩
    · rintro σ H5 ⟨us', Fs, kN, kS, now, l, gl, rfl, hF, hN, hS', RA, NA, SA, hnow, wf, lf, sH⟩
      obtain ⟨bq, b1, b2'⟩ := RA.2 now _ hnow
      have et : y.cps.toList.take y.cps.size = y.cps.toList := List.take_of_length_le (by simp)
      rw [et] at b2'
      exact ⟨_, rfl, _, rfl, LF, us', _, _, rfl, rfl, SqL.of hF, atI_nat b1, kq bq H5 b2' sH⟩
end
end M3

set_option Elab.async false
set_option linter.all false
set_option maxRecDepth 100000
set_option maxHeartbeats 8000000
/-! # The action of a word, walked with a lambda -/
namespace M3
open PySem L2 LamX NdefX NvK
/-- all that was tracked is as it was, but the tables of code objects, which tell what they must -/
structure Ext (T : List NTab) (H H' : Hp) : Prop where
  ext : ExtN H H'
  non : ∀ b, H' b = Option.none → H b = Option.none
  tab : TabsN T H'
theorem exn_at {H H' : Hp} (e : ExtN H H') {b : Addr} {o : HO} (h : H b = some o) (n : ∀ ps, o ≠ .tbl ps := by intro ps z; cases z) : H' b = some o := e b o h n
theorem Ext.at_ {T : List NTab} {H H' : Hp} (e : Ext T H H') {b : Addr} {o : HO} (h : H b = some o) (n : ∀ ps, o ≠ .tbl ps := by intro ps z; cases z) : H' b = some o := e.ext b o h n
theorem same_non {H H' : Hp} (s : Same H H') : ∀ b, H' b = Option.none → H b = Option.none := fun b hq => by
  cases e : H b with
  | none => rfl
  | some o =>
    have := s _ _ e
    rw [hq] at this
    cases this
theorem Ext.of {T : List NTab} {H H' : Hp} (t : TabsN T H) (s : Same H H') : Ext T H H' := ⟨ExtN.of s, same_non s, t.ext s⟩
theorem Ext.refl {T : List NTab} {H : Hp} (t : TabsN T H) : Ext T H H := Ext.of t (Same.refl H)
theorem Ext.trans {T : List NTab} {H H1 H2 : Hp} (a : Ext T H H1) (b : Ext T H1 H2) : Ext T H H2 := ⟨a.ext.trans b.ext, fun c h => a.non c (b.non c h), b.tab⟩
theorem Ext.same {T : List NTab} {H H1 H2 : Hp} (a : Ext T H H1) (s : Same H1 H2) : Ext T H H2 := a.trans (Ext.of a.tab s)
theorem Ext.new {T : List NTab} {H H1 : Hp} {b : Addr} {o : HO} (a : Ext T H H1) (n : H1 b = none) : Ext T H (upd H1 b o) := a.same (Same.new (Same.refl H1) n)
theorem sqt_ext {K : PySem.W.Frag} {H H' : Hp} {a : Addr} {us : List V} (e : ExtN H H') (h : SqT K H a us) : SqT K H' a us := by
  rcases h with (h | ⟨o, h⟩) | h
  · exact .inl (.inl (exn_at e h))
  · exact .inl (.inr ⟨o, exn_at e h⟩)
  · exact .inr h
theorem Tups.ext {K : PySem.W.Frag} {H H' : Hp} {us : List V} {t : List (List Nat)} (h : Tups K H us t) (s : ExtN H H') : Tups K H' us t := ⟨h.1, fun i r e => by
  obtain ⟨b, b1, b2⟩ := h.2 i r e
  exact ⟨b, b1, sqt_ext s b2⟩⟩
theorem Mach.ext {K : PySem.W.Frag} {C p : Addr} {H H' : Hp} {x : Str} {t : List (List Nat)} {es : List Nat} (h : Mach K C H p x t es) (s : ExtN H H') : Mach K C H' p x t es := by
  obtain ⟨dx, a, b, us, h1, h2, h3, h4⟩ := h
  exact ⟨dx, a, b, us, exn_at s h1, sqt_ext s h2, h3.ext s, sqt_ext s h4⟩
/-- a key read back as numbers -/
def unkey (k : List Key) : List Nat := k.map fun q => match q with
  | .inl i => i.toNat
  | .inr _ => 0
theorem unkey_key (fs : List Nat) : unkey (key fs) = fs := by
  induction fs with
  | nil => rfl
  | cons f fs ih =>
    show (((f : Nat) : Int).toNat :: unkey (key fs)) = f :: fs
    rw [ih, Int.toNat_natCast]
theorem fold_key {t : List (List Nat)} {x : Str} : ∀ (cs ds : List Nat), cs.foldl (fun k c => key (ledon t (unkey k) (x.cps.toList.idxOf c))) (key (act t x ds)) = key (act t x (ds ++ cs))
  | [], ds => by rw [List.append_nil]; rfl
  | c :: cs, ds => by
    rw [List.foldl_cons, unkey_key, ← act_snoc, fold_key cs (ds ++ [c]), List.append_assoc]
    rfl
abbrev sActed : Stmt := top 49
abbrev nActed : List Str := ["table", "letters", "word"]
theorem scActed : FnScope nActed ["table", "letters", "word"] (defScope sActed) := ⟨rfl, rfl, rfl, by decide +kernel, rfl, by decide +kernel, by decide +kernel⟩
/-- the lambda in a return's call, the second argument -/
def lamOf (s : Stmt) : Expr := match s with
  | .FunctionDef _ _ [.Return (some (.Call _ [_, l, _] _ _)) _] _ _ _ _ _ _ _ => l
  | _ => .Constant .none 0 ⟨0, 0, 0, 0⟩
def lamArgs (e : Expr) : Arguments := match e with
  | .Lambda a _ _ _ => a
  | _ => { posonlyargs := [], args := [], vararg := none, kwonlyargs := [], kw_defaults := [], kwarg := none, defaults := [] }
def lamBody (e : Expr) : Expr := match e with
  | .Lambda _ b _ _ => b
  | e => e
def lamScope (e : Expr) : Scope := match e with
  | .Lambda _ _ sc _ => sc
  | _ => { kind := .function, names := [], isGenerator := false, isCoroutine := false }
/-- a lambda's words in the def x -/
def lfOf (x : Str) (e : Expr) (cells : List (Str × Addr)) (c : Addr) : LF := ⟨x ++ ".<locals>." ++ "<lambda>", lamArgs e, lamBody e, lamScope e, cloFrom cells (lamScope e).names [], c⟩
abbrev lActed : Expr := lamOf sActed
abbrev nLam : List Str := ["action", "letter", "table", "letters"]
theorem scLamA : NScope nLam ["action", "letter"] ["table", "letters"] (lamScope lActed) := nscope_by (by decide +kernel)
def nmActed : Nat → Nat → Str := fun _ _ => "acted.<locals>.<lambda>"
/-- what the lambda keeps, the table at a and the letters x captured -/
def spLamA (K : PySem.W.Frag) (a : Addr) (x : Str) : Sp := fun vs H Q E => ∃ (b : Addr) (c : Nat), vs = [.ref b, .str ⟨#[c]⟩] ∧ spLedOn K [.ref a, .ref b, .int (x.cps.toList.idxOf c : Nat)] H Q E ∧ (∃ m, IsSet x m ∧ m ≤ 2) ∧ c ∈ x.cps.toList
def spActed (K : PySem.W.Frag) (T : List NTab) : Sp := fun vs H Q _ => ∃ (a : Addr) (x y : Str) (us : List V) (t : List (List Nat)) (m : Nat), vs = [.ref a, .str x, .str y] ∧ SqT K H a us ∧ Tups K H us t ∧ IsTab t t.length m ∧ IsSet x m ∧ m ≤ 2 ∧ IsW x y ∧ t.length ≤ 1000 ∧ y.length ≤ 1000000 ∧ TabsN T H ∧
  ∀ (b : Addr) (H' : Hp), H' b = some (.tup (nts (act t x y.cps.toList))) → Ext T H H' → Q (.ref b) H'
section
variable {P : Program} {w : World} {K : PySem.W.Frag} {mg : Str → Option Value} {base : Heap}
theorem ok_acted {f g g2 g9 c Pt : Addr} {fd gd gd2 gd9 : FuncData} {T : List NTab} (F : Fun K "acted" "acted" sActed f fd) (hcode : fd.code = .ref c) (TB : TabB base mg c Pt) (hT : (Pt, nmActed) ∈ T) (hu : ∀ p ∈ T, p.1 = Pt → p.2 = nmActed)
    (G : Fun K "unmoved" "unmoved" sUnmoved g gd) (bG : Binds K gd ["table"] []) (mG : mg "unmoved" = some (.ref g)) (G2 : Fun K "led_on" "led_on" sLedOn g2 gd2) (b2 : Binds K gd2 ["table", "states", "column"] []) (m2 : mg "led_on" = some (.ref g2))
    (G9 : Fun K "walked" "walked" sWalked g9 gd9) (b9 : Binds K gd9 ["start", "step", "word"] []) (m9 : mg "walked" = some (.ref g9)) (M : TxM mg) :
    FnOk P w K mg base CX0 4 f fd ["table", "letters", "word"] (spActed K T) := by
  have GU : FnOk P w K mg base CX0 1 g gd ["table"] (spUnmoved K) := ok_unmoved G M
  have GL : FnOk P w K mg base CX0 1 g2 gd2 ["table", "states", "column"] (spLedOn K) := ok_ledon G2 M
  obtain ⟨oc, od, kV', doc, pm, an, cdv, ct, osl, rfl, lk, hcd⟩ := F.ex
  have hcv : cdv = .ref c := hcode
  subst hcv
  refine fn_of lk hcd scActed (fun vs H Q E h => ?_) (fun A outer s H vs Q E hr h => ?_)
  · obtain ⟨a, x, y, us, t, m, rfl, _⟩ := h
    rfl
  · obtain ⟨a, x, y, us, t, m, rfl, ha, hTu, tb, st, hm2, hw, tl, hy, tabs, k⟩ := h
    suffices z : ∃ t, PSs (cxOf CX0 P w K mg base nActed "acted" (defScope sActed) f (.ref c) A outer s H E).nox (defBody sActed) t ∧ t { nx := fun _ H' => Q .non H', rt := Q } (start nActed [.ref a, .str x, .str y]) H by
      obtain ⟨t, ht, q⟩ := z
      exact ⟨t, ht.nox, q⟩
    refine ⟨_, pss_one (ps_ret (pe_callV (g := g9) (E := E0) (CX := CX0) (TV := fun σ vs H1 Q => ∃ (b0 f1 c1 : Addr), σ = [some (.ref a), some (.str x), some (.str y)] ∧ vs = [.ref b0, .ref f1, .str y] ∧ spWalked f1 (lfOf "acted" lActed (cxOf CX0 P w K mg base nActed "acted" (defScope sActed) f (.ref c) A outer s H E).env.cells c1) (spLamA K a x) vs H1 Q E0)
      rfl m9 G9.kp pass0 (pa_cons (pe_call GU (hr.mono (by decide)) rfl mG G.kp bG .nil pass0 (pa_cons (pv 0) pa_nil)) (pa_cons (pe_lamN (T := T) (nm := nmActed) TB rfl hT rfl hu (ndef_free (sc := defScope sActed) (nsc := lamScope lActed) (fr := ["table", "letters"]) (by decide +kernel)) rfl) (pa_cons (pv 2) pa_nil))) ?_)), ?_⟩
    · intro pins s1 σ H1 Q1 us1 vs1 I r q
      obtain ⟨b0, f1, c1, rfl, rfl, q⟩ := q
      refine run_walked G9 b9 M (k := 1) (hr.mono (by decide)) I.env0 r ?_ q
      refine given_lam (N := nLam) (ps := ["action", "letter"]) (fr := ["table", "letters"]) (js := [0, 1]) I ?_ (fun _ => rfl) scLamA ?_ ?_ ?_
      · refine Caps.made I.ok ?_ ?_ rfl
        · exact ndef_free (sc := defScope sActed) (nsc := lamScope lActed) (fr := ["table", "letters"]) (by decide +kernel)
        · exact ndef_fr (sc := defScope sActed) (nsc := lamScope lActed) (fr := ["table", "letters"]) (by decide +kernel)
      · intro pm ctv us hl
        match us, hl with
        | [_, _], _ => rfl
      · rintro vs H Q E ⟨b, c, rfl, _⟩
        rfl
      · rintro A' outer' s' H' vs Q' E' hr' ⟨b, c, rfl, hq, ⟨m', st', hm'⟩, hc⟩
        refine ⟨_, pe_call GL hr' rfl m2 G2.kp b2 .nil pass0 (pa_cons (pv 2) (pa_cons (pv 0) (pa_cons (pe_bm PySem.F.plainAttrs_str PySem.F.slot_str_index PySem.F.type_str_index mt_sindex (pv 3) (pa_cons (pv 1) pa_nil)) pa_nil))), ?_⟩
        exact ⟨_, rfl, _, rfl, _, rfl, rfl, _, rfl, x, ⟨#[c]⟩, x.cps.toList.idxOf c, [], rfl, rfl, set_occ st' hm' hc, hq⟩
    · have hm : x.cps.toList.length = m := by
        have := set_len st
        simpa [Str.length] using this
      have lu : us.length = t.length := hTu.1
      refine ⟨_, rfl, a, us, rfl, ha, by omega, fun p0 H1 np h1 s1 => ⟨tabs.ext s1, fun f1 c1 H2 eN nn T2 f0 hf hc => ⟨_, rfl, p0, f1, c1, rfl, rfl, ?_⟩⟩⟩
      rw [lu] at h1
      have e2 : Ext T H H2 := (Ext.of tabs s1).trans ⟨eN, nn, T2⟩
      refine ⟨p0, y, key (List.range t.length), fun k c => key (ledon t (unkey k) (x.cps.toList.idxOf c)), fun k => ∃ fs, k = key fs ∧ (∀ z ∈ fs, z < t.length) ∧ fs.length = t.length, rfl, ?_, hf, hc, ⟨_, rfl, fun z hz => List.mem_range.mp hz, List.length_range⟩, ?_, ?_, hy, fun b' H' hb' s' => k b' H' ?_ (e2.same s')⟩
      · rw [key_tup]
        exact exn_at eN h1
      · rintro c hc' k ⟨fs, rfl, w1, w2⟩
        have ix : x.cps.toList.idxOf c < m := by
          rw [← hm]
          exact List.idxOf_lt_length_of_mem (hw c hc')
        show ∃ fs', key (ledon t (unkey (key fs)) (x.cps.toList.idxOf c)) = key fs' ∧ (∀ z ∈ fs', z < t.length) ∧ fs'.length = t.length
        rw [unkey_key]
        refine ⟨_, rfl, ledon_lt tb ix w1, ?_⟩
        unfold ledon
        rw [List.length_map, w2]
      · rintro H' b k c Q' E' s' hb ⟨fs, rfl, w1, w2⟩ hc' fin
        have ix : x.cps.toList.idxOf c < m := by
          rw [← hm]
          exact List.idxOf_lt_length_of_mem (hw c hc')
        have fin : ∀ (b' : Addr) (H8 : Hp), H8 b' = some (.tup ((key (ledon t fs (x.cps.toList.idxOf c))).map kV)) → Same H' H8 → Q' (.ref b') H8 := fun b' H8 h => fin b' H8 (by rw [show (fun (k : List Key) (c : Nat) => key (ledon t (unkey k) (x.cps.toList.idxOf c))) (key fs) c = key (ledon t (unkey (key fs)) (x.cps.toList.idxOf c)) from rfl, unkey_key]; exact h)
        rw [key_tup] at hb
        refine ⟨b, c, rfl, ⟨a, b, us, t, fs, x.cps.toList.idxOf c, m, rfl, sqt_same s' (sqt_ext e2.ext ha), (hTu.ext e2.ext).same s', tb, SqT.of hb, w1, (by omega), ix, fun p H8 _ h8 s8 => fin p H8 (by rw [key_tup]; exact h8) s8⟩, ⟨m, st, hm2⟩, hw c hc'⟩
      · have q := fold_key (t := t) (x := x) y.cps.toList []
        rw [act_nil, List.nil_append] at q
        rw [q, key_tup] at hb'
        exact hb'
end
end M3

set_option Elab.async false
set_option linter.all false
set_option maxRecDepth 100000
set_option maxHeartbeats 8000000
/-! # All but the dice and the tables of code objects -/
namespace M3
open PySem L2 NdefX
structure Stl (T : List NTab) (d : Addr) (H H' : Hp) : Prop where
  st : ∀ b o, b ≠ d → H b = some o → (∀ ps, o ≠ .tbl ps) → H' b = some o
  non : ∀ b, H' b = Option.none → H b = Option.none
  tab : TabsN T H'
theorem tabs_still {T : List NTab} {d : Addr} {H H' : Hp} (t : TabsN T H) (z : Dz H d) (s : Still d H H') : TabsN T H' := fun p hp => by
  obtain ⟨l, m, c, e, _⟩ := z
  obtain ⟨ps, h1, h2, h3⟩ := t p hp
  refine ⟨ps, s _ _ (fun q => by rw [q, e] at h1; cases h1) h1, h2, fun pos cv hc => ?_⟩
  obtain ⟨c', e1, e2⟩ := h3 pos cv hc
  exact ⟨c', e1, s _ _ (fun q => by rw [q, e] at e2; unfold LamX.CodeO at e2; cases e2) e2⟩
theorem still_non {d : Addr} {H H' : Hp} (z' : Dz H' d) (s : Still d H H') : ∀ b, H' b = Option.none → H b = Option.none := fun b hb => by
  cases e : H b with
  | none => rfl
  | some o =>
    have q := s b o (z'.not hb) e
    rw [hb] at q
    cases q
theorem Stl.of {T : List NTab} {d : Addr} {H H' : Hp} (t : TabsN T H) (z : Dz H d) (z' : Dz H' d) (s : Still d H H') : Stl T d H H' := ⟨fun b o hb h _ => s b o hb h, still_non z' s, tabs_still t z s⟩
theorem Stl.ofE {T : List NTab} {d : Addr} {H H' : Hp} (e : Ext T H H') : Stl T d H H' := ⟨fun b o _ h n => e.ext b o h n, e.non, e.tab⟩
theorem Stl.trans {T : List NTab} {d : Addr} {H H1 H2 : Hp} (a : Stl T d H H1) (b : Stl T d H1 H2) : Stl T d H H2 := ⟨fun c o hc h n => b.st c o hc (a.st c o hc h n) n, fun c h => a.non c (b.non c h), b.tab⟩
theorem Stl.refl {T : List NTab} {H : Hp} (d : Addr) (t : TabsN T H) : Stl T d H H := Stl.ofE (Ext.refl t)
theorem Stl.still {T : List NTab} {d : Addr} {H H1 H2 : Hp} (a : Stl T d H H1) (z : Dz H1 d) (z' : Dz H2 d) (s : Still d H1 H2) : Stl T d H H2 := a.trans (Stl.of a.tab z z' s)
theorem Stl.same {T : List NTab} {d : Addr} {H H1 H2 : Hp} (a : Stl T d H H1) (s : Same H1 H2) : Stl T d H H2 := a.trans (Stl.ofE (Ext.of a.tab s))
theorem Stl.toE {T : List NTab} {d : Addr} {H H1 H2 : Hp} (a : Ext T H H1) (b : Stl T d H1 H2) (n : H d = none) : Ext T H H2 := ⟨fun c o h q => b.st c o (fun z => by rw [z, n] at h; cases h) (a.ext c o h q) q, fun c h => a.non c (b.non c h), b.tab⟩
theorem dz_ext {d : Addr} {H H' : Hp} (e : LamX.ExtN H H') (z : Dz H d) : Dz H' d := by
  obtain ⟨l, m, c, h, r⟩ := z
  exact ⟨l, m, c, exn_at e h, r⟩
theorem sqt_stl {K : PySem.W.Frag} {T : List NTab} {d a : Addr} {H H' : Hp} {xs : List V} (s : Stl T d H H') (z : Dz H d) (h : SqT K H a xs) : SqT K H' a xs := by
  obtain ⟨l, m, c, e, _⟩ := z
  rcases h with (h | ⟨u, h⟩) | h
  · exact .inl (.inl (s.st _ _ (fun q => by rw [q, e] at h; cases h) h (fun ps q => by cases q)))
  · exact .inl (.inr ⟨u, s.st _ _ (fun q => by rw [q, e] at h; cases h) h (fun ps q => by cases q)⟩)
  · exact .inr h
theorem Mach.stl {K : PySem.W.Frag} {T : List NTab} {C p d : Addr} {H H' : Hp} {x : Str} {t : List (List Nat)} {es : List Nat} (h : Mach K C H p x t es) (z : Dz H d) (s : Stl T d H H') : Mach K C H' p x t es := by
  obtain ⟨dx, a, b, us, h1, h2, h3, h4⟩ := h
  obtain ⟨l, m, c, e, _⟩ := id z
  refine ⟨dx, a, b, us, s.st _ _ (fun q => by rw [q, e] at h1; cases h1) h1 (fun ps q => by cases q), sqt_stl s z h2, ⟨h3.1, fun i r hr => ?_⟩, sqt_stl s z h4⟩
  obtain ⟨b', b1, b2⟩ := h3.2 i r hr
  exact ⟨b', b1, sqt_stl s z b2⟩
theorem Plain.stl {T : List NTab} {d p : Addr} {H H' : Hp} {x : Str} {t : List (List Nat)} {es : List Nat} (h : Plain d H p x t es) (z : Dz H d) (s : Stl T d H H') : Plain d H' p x t es := by
  obtain ⟨⟨a, b, us, h1, h2, h3, h4, h5, h6⟩, h7, h8, h9⟩ := h
  obtain ⟨dl, dm, dc, dd, _⟩ := z
  have pd : p ≠ d := fun e => by
    rw [e, dd] at h1
    cases h1
  refine ⟨⟨a, b, us, s.st _ _ pd h1 (fun ps q => by cases q), h2, s.st _ _ h2 h3 (fun ps q => by cases q), ⟨h4.1, fun i r hr => ?_⟩, h5, s.st _ _ h5 h6 (fun ps q => by cases q)⟩, h7, h8, h9⟩
  obtain ⟨a', e1, e2, e3, e4⟩ := h4.2 i r hr
  exact ⟨a', e1, e2, e3, s.st _ _ e2 e4 (fun ps q => by cases q)⟩
theorem tabs_upd {T : List NTab} {H : Hp} {D : Addr} {vs us : List V} (t : TabsN T H) (h : H D = some (.lst vs)) : TabsN T (upd H D (.lst us)) := fun p hp => by
  obtain ⟨ps, h1, h2, h3⟩ := t p hp
  refine ⟨ps, by rw [upd_ne (ne_of h1 h (fun z => by cases z))]; exact h1, h2, fun pos cv hc => ?_⟩
  obtain ⟨c', e1, e2⟩ := h3 pos cv hc
  exact ⟨c', e1, by rw [upd_ne (ne_of e2 h (fun z => by unfold LamX.CodeO at z; cases z))]; exact e2⟩
/-- a list at D is written anew -/
theorem Stl.put {T : List NTab} {D : Addr} {H H1 : Hp} {vs us : List V} (a : Stl T D H H1) (h : H1 D = some (.lst vs)) : Stl T D H (upd H1 D (.lst us)) := ⟨fun b o hb e n => by rw [upd_ne hb]; exact a.st b o hb e n, fun b e => a.non b (upd_none e), tabs_upd a.tab h⟩
theorem Stl.one {T : List NTab} {D : Addr} {H H1 : Hp} (a : Stl T D H H1) (n : H D = none) (t : TabsN T H) : Ext T H H1 := Stl.toE (Ext.refl t) a n
theorem sql_ext {K : PySem.W.Frag} {H H' : Hp} {a : Addr} {us : List V} (e : LamX.ExtN H H') (h : SqL K H a us) : SqL K H' a us := by
  rcases h with (h | ⟨o, h⟩) | h
  · exact .inl (.inl (exn_at e h))
  · exact .inl (.inr ⟨o, exn_at e h⟩)
  · exact .inr h
end M3

set_option Elab.async false
set_option linter.all false
set_option maxRecDepth 100000
set_option maxHeartbeats 8000000
/-! # An action repeated, until it comes again -/
namespace M3
open PySem L2
abbrev sRepeats : Stmt := top 50
abbrev nRepeats : List Str := ["action", "trail", "first_at", "goal"]
theorem scRepeats : FnScope nRepeats ["action"] (defScope sRepeats) := ⟨rfl, rfl, rfl, by decide +kernel, rfl, by decide +kernel, by decide +kernel⟩
/-- the powers of an action -/
def pw (g : List Nat) : Nat → List Nat
  | 0 => List.range g.length
  | k + 1 => comp (pw g k) g
theorem comp_length (fs gs : List Nat) : (comp fs gs).length = fs.length := by
  unfold comp
  rw [List.length_map]
theorem pw_length (g : List Nat) : ∀ k, (pw g k).length = g.length
  | 0 => List.length_range
  | k + 1 => by
    show (comp (pw g k) g).length = _
    rw [comp_length, pw_length g k]
theorem getD_lt {g : List Nat} {n : Nat} (h : ∀ q ∈ g, q < n) {q : Nat} (hq : q < g.length) : g.getD q 0 < n := by
  have e : g.getD q 0 = g[q] := by simp [List.getD, List.getElem?_eq_getElem hq]
  rw [e]
  exact h _ (List.getElem_mem hq)
theorem pw_lt {g : List Nat} (h : ∀ q ∈ g, q < g.length) : ∀ k, ∀ q ∈ pw g k, q < g.length
  | 0, q, hq => List.mem_range.mp hq
  | k + 1, q, hq => by
    have hq : q ∈ (pw g k).map fun q => g.getD q 0 := hq
    obtain ⟨z, hz, rfl⟩ := List.mem_map.mp hq
    exact getD_lt h (pw_lt h k z hz)
/-- the first powers, all of them different -/
def Apart (g : List Nat) (n : Nat) : Prop := ∀ i j, i < n → j < n → pw g i = pw g j → i = j
/-- the dict of the powers' places -/
structure Firsts (g : List Nat) (kvs : List (List Key × V)) (n : Nat) : Prop where
  only : ∀ (k : List Key) (v : V), valV kvs k = some v → ∃ i, i < n ∧ k = key (pw g i) ∧ v = .int ((i : Nat) : Int)
  has : ∀ i, i < n → (valV kvs (key (pw g i))).isSome = true
  len : kvs.length ≤ n
theorem Firsts.put {g : List Nat} {kvs : List (List Key × V)} {n : Nat} (h : Firsts g kvs n) : Firsts g (putK kvs (key (pw g n)) (.int ((n : Nat) : Int))) (n + 1) := by
  refine ⟨fun k v e => ?_, fun i hi => ?_, ?_⟩
  · rw [valV_put] at e
    by_cases c : k = key (pw g n)
    · rw [if_pos c] at e
      exact ⟨n, by omega, c, (Option.some.inj e).symm⟩
    · rw [if_neg c] at e
      obtain ⟨i, h1, h2, h3⟩ := h.only k v e
      exact ⟨i, by omega, h2, h3⟩
  · rw [valV_put]
    by_cases c : key (pw g i) = key (pw g n)
    · rw [if_pos c]
      rfl
    · rw [if_neg c]
      refine h.has i ?_
      by_cases q : i = n
      · rw [q] at c
        exact absurd rfl c
      · omega
  · have := putT_len (kvs := kvs) (k := key (pw g n)) (v := V.int ((n : Nat) : Int))
    have := h.len
    omega
def pws (g : List Nat) (n : Nat) : List (List Nat) := (List.range n).map (pw g)
theorem pws_at {g : List Nat} {n i : Nat} (h : i < n) : (pws g n)[i]? = some (pw g i) := by
  unfold pws
  rw [List.getElem?_map, List.getElem?_range h]
  rfl
theorem pws_length {g : List Nat} {n : Nat} : (pws g n).length = n := by
  unfold pws
  rw [List.length_map, List.length_range]
theorem pws_succ {g : List Nat} {n : Nat} : pws g (n + 1) = pws g n ++ [pw g n] := by
  unfold pws
  rw [List.range_succ, List.map_append]
  rfl
theorem at_last {xs : List V} {n : Nat} {v : V} (hl : xs.length = n + 1) (h : xs[n]? = some v) : atI xs (-1) = some v := by
  unfold atI
  have e : ixN xs.length (-1) = some n := by
    unfold ixN
    rw [if_neg (by omega), if_pos (by omega)]
    congr 1
    omega
  rw [e]
  exact h
def spRepeats (K : PySem.W.Frag) : Sp := fun vs H Q _ => ∃ (a : Addr) (g : List Nat) (i0 j0 : Nat), vs = [.ref a] ∧ SqT K H a (nts g) ∧ (∀ q ∈ g, q < g.length) ∧ g.length ≤ 1000 ∧ i0 < j0 ∧ j0 ≤ 100000 ∧ pw g i0 = pw g j0 ∧
  ∀ (p L : Addr) (us : List V) (n b : Nat) (H' : Hp), H' p = some (.tup [.ref L, .int (b : Nat)]) → H' L = some (.lst us) → us.length = n → b < n → n ≤ 100000 → Apart g n → pw g n = pw g b → Same H H' → Q (.ref p) H'
section
variable {P : Program} {w : World} {K : PySem.W.Frag} {mg : Str → Option Value} {base : Heap}
theorem ok_repeats {f g1 : Addr} {fd gd : FuncData} (F : Fun K "repeats" "repeats" sRepeats f fd) (G : Fun K "composed" "composed" sComposed g1 gd) (bG : Binds K gd ["first", "second"] []) (mG : mg "composed" = some (.ref g1)) (M : TxM mg) :
    FnOk P w K mg base CX0 2 f fd ["action"] (spRepeats K) := by
  have GC : FnOk P w K mg base CX0 1 g1 gd ["first", "second"] (spComposed K) := ok_composed G M
  refine F.ok scRepeats (fun vs H Q E h => ?_) (fun cdv A outer s H vs Q E hr h => ?_)
  · obtain ⟨a, g, i0, j0, rfl, _⟩ := h
    rfl
  · obtain ⟨a, g, i0, j0, rfl, ha, hq, hl, ij, hj, eij, k⟩ := h
    have hu := hu_of hr
    have hu0 : (A.deeper (PyProof.Rows.envOfC "repeats" (defScope sRepeats) s.heap.objs.size f cdv)).units < cLine := Nat.lt_of_succ_lt hu
    refine ⟨_, pss_cons (ps_set (i := 1) scRepeats.nd rfl (Or.inl rfl) (pe_lst (pa_cons (pe_tupRg rfl rfl M.tuple (prg_1 rfl M.range (pe_callB call_len_seq (by rfl) M.len PySem.boot_len (pa_cons (pv 0) pa_nil)))) pa_nil)))
      (pss_cons (ps_set (i := 2) scRepeats.nd rfl (Or.inl rfl) (NvQ.pe_disp1 hu0 (pe_ix ix_list (pv 1) pe_int (fun _ _ => rfl)) pe_int))
      (pss_one (ps_while PassesOwn.never (pt_val pe_bl)
        (pss_cons (ps_set (i := 3) scRepeats.nd rfl (Or.inl rfl) (pe_call GC hr rfl mG G.kp bG .nil pass0 (pa_cons (pe_ix ix_list (pv 1) (pe_un un_neg pe_int) (fun _ _ => rfl)) (pa_cons (pv 0) pa_nil))))
        (pss_cons (ps_if (pt_cmp (pc_din hu (pv 3) (pv 2))) (pss_one (ps_ret (pe_tup (pa_cons (pv 1) (pa_cons (pe_dget hu (pv 2) (pv 3) (fun _ _ => rfl)) pa_nil))))) pss_nil)
        (pss_cons (ps_dput hu (pv 2) (pv 3) (pe_callB call_len_seq (by rfl) M.len PySem.boot_len (pa_cons (pv 1) pa_nil)) rfl)
        (pss_one (ps_expr (pe_bm PySem.F.plainAttrs_list PySem.F.slot_list_append PySem.F.type_list_append mt_append (pv 1) (pa_cons (pv 3) pa_nil)))))))))), ?_⟩
    have free : ∀ {H9 : Hp} {q : Addr}, Same H H9 → H9 q = none → H q = none := fun {H9 q} sx hq => by
      cases e : H q with
      | none => rfl
      | some o =>
        have := sx _ _ e
        rw [hq] at this
        cases this
    refine ⟨_, rfl, a, _, rfl, .inr ha, _, rfl, ?_⟩
    rw [nts_length]
    refine ⟨.of_le (by decide) (by omega) (by decide) (by omega), fun p0 np => ?_⟩
    rw [rgV_nats]
    refine ⟨(by show 1 ≤ sizeLine; decide), fun LT nLT => ?_⟩
    have s1 : Same H (upd H p0 (.tup (nts (List.range g.length)))) := Same.new (Same.refl H) np
    have fLT : H LT = none := free s1 nLT
    have hT2 : (upd (upd H p0 (.tup (nts (List.range g.length)))) LT (.lst [.ref p0])) LT = some (.lst [.ref p0]) := upd_same
    have hp2 : (upd (upd H p0 (.tup (nts (List.range g.length)))) LT (.lst [.ref p0])) p0 = some (.tup (nts (List.range g.length))) := keep_new upd_same nLT
    have s2 : Same H (upd (upd H p0 (.tup (nts (List.range g.length)))) LT (.lst [.ref p0])) := Same.new s1 nLT
    generalize upd (upd H p0 (.tup (nts (List.range g.length)))) LT (.lst [.ref p0]) = H2 at hT2 hp2 s2 ⊢
    intro LF nLF
    have fLF : H LF = none := free s2 nLF
    refine ⟨_, rfl, LT, [.ref p0], 0, .ref p0, rfl, rfl, SqL.of (keep_new hT2 nLF), rfl, p0, key (List.range g.length), .int 0, rfl, upd_same, by rw [key_tup]; exact keep_new hp2 nLF, ?_⟩
    rw [upd_upd]
    have hF3 : (upd H2 LF (.dT [(key (List.range g.length), .int 0)])) LF = some (.dT [(key (List.range g.length), .int 0)]) := upd_same
    have hT3 := keep_new (u := .dT [(key (List.range g.length), .int 0)]) hT2 nLF
    have hp3 := keep_new (u := .dT [(key (List.range g.length), .int 0)]) hp2 nLF
    have s3 : Same H (upd H2 LF (.dT [(key (List.range g.length), .int 0)])) := Same.new s2 nLF
    generalize upd H2 LF (.dT [(key (List.range g.length), .int 0)]) = H3 at hF3 hT3 hp3 s3 ⊢
    clear hT2 hp2 s2 s1 nLF nLT np
    have small : ∀ n, Apart g n → n ≤ j0 := fun n ap => by
      by_cases c : n ≤ j0
      · exact c
      · have := ap i0 j0 (by omega) (by omega) eij
        omega
    refine while_by (fun σ H' => ∃ (n : Nat) (us : List V) (kvs : List (List Key × V)) (v : Option V), σ = [some (.ref a), some (.ref LT), some (.ref LF), v] ∧ H' LT = some (.lst us) ∧ H' LF = some (.dT kvs) ∧ RowsA H' us (pws g (n + 1)) ∧ Firsts g kvs (n + 1) ∧ Apart g (n + 1) ∧ Same H H')
      (fun σ H' => match H' LT with | some (.lst us) => j0 + 1 - us.length | _ => 0)
      ⟨0, [.ref p0], _, none, rfl, hT3, hF3, ?_, ?_, ?_, s3⟩ ?_ ?_
    · exact ⟨rfl, fun i r e => by
        match i, e with
        | 0, e => exact ⟨p0, rfl, by cases e; exact hp3⟩⟩
    · refine ⟨fun k v e => ?_, fun i hi => ?_, Nat.le_refl _⟩
      · by_cases c : key (List.range g.length) = k
        · rw [valV_pos c] at e
          exact ⟨0, by omega, c.symm, (Option.some.inj e).symm⟩
        · rw [valV_neg c, valV_nil] at e
          cases e
      · have e : i = 0 := by omega
        subst e
        have z : valV [(key (List.range g.length), V.int 0)] (key (pw g 0)) = some (.int 0) := valV_pos rfl
        rw [z]
        rfl
    · intro i j hi hj _
      omega
    · rintro σ H5 ⟨n, us, kvs, v, rfl, hT, hF, RA, FA, AP, sH⟩
      refine ⟨_, rfl, iteT ?_⟩
      have hT5 := hT
      have nj := small _ AP
      have lus : us.length = n + 1 := by rw [RA.1, pws_length]
      obtain ⟨bq, b1, b2⟩ := RA.2 n _ (pws_at (Nat.lt_succ_self n))
      refine ⟨_, rfl, _, rfl, LT, us, _, _, rfl, rfl, SqL.of hT, at_last lus b1, _, rfl, bq, a, pw g n, g, rfl, SqT.of b2, sqt_same sH ha, pw_lt hq n, by rw [pw_length]; exact hl, fun q H6 nq hq6 s6 => ?_⟩
      have hq6 : H6 q = some (.tup (nts (pw g (n + 1)))) := hq6
      have hT := s6 _ _ hT
      have hF := s6 _ _ hF
      have RA := RA.to (H' := H6) (fun b ys h => s6 _ _ h)
      have sH := sH.trans s6
      have hk : H6 q = some (.tup ((key (pw g (n + 1))).map kV)) := by rw [key_tup]; exact hq6
      refine ⟨_, rfl, _, rfl, LF, _, rfl, DGet.t (k := key (pw g (n + 1))) hF hk, _, rfl, ?_⟩
      have sz : (1000000 : Nat) < sizeLine := by decide
      cases e : valV kvs (key (pw g (n + 1))) with
      | some v =>
        refine iteT ?_
        obtain ⟨b, hb, eb, rfl⟩ := FA.only _ _ e
        have eb := key_inj eb
        have G : DGet H6 LF (.ref q) (some (.int (b : Nat))) := by
          have z := DGet.t (k := key (pw g (n + 1))) hF hk
          rw [e] at z
          exact z
        refine ⟨_, rfl, _, rfl, _, rfl, LF, _, rfl, G, (by show 2 ≤ sizeLine; decide), fun p np => ?_⟩
        exact k p LT us (n + 1) b _ upd_same (keep_new hT np) lus hb (by omega) AP eb (Same.new sH np)
      | none =>
        refine iteF ?_
        have new : ∀ i, i < n + 1 → pw g i ≠ pw g (n + 1) := fun i hi z => by
          have := FA.has i hi
          rw [z, e] at this
          cases this
        have AP2 : Apart g (n + 1 + 1) := fun i j hi hj z => by
          by_cases c1 : i = n + 1
          · by_cases c2 : j = n + 1
            · omega
            · rw [c1] at z
              exact absurd z.symm (new j (by omega))
          · by_cases c2 : j = n + 1
            · rw [c2] at z
              exact absurd z (new i (by omega))
            · exact AP i j (by omega) (by omega) z
        have nj2 := small _ AP2
        refine ⟨_, rfl, LT, us, rfl, .inl (SqL.of hT), _, rfl, _, rfl, LF, _, rfl, DPut.t hF hk (by have := FA.len; omega), ?_⟩
        rw [lus]
        have TF : LT ≠ LF := ne_of hT hF (fun z => by cases z)
        have qT : q ≠ LT := ne_of hq6 hT (fun z => by cases z)
        have qF : q ≠ LF := ne_of hq6 hF (fun z => by cases z)
        have hTa : (upd H6 LF (.dT (putK kvs (key (pw g (n + 1))) (.int ((n + 1 : Nat) : Int))))) LT = some (.lst us) := by rw [upd_ne TF]; exact hT
        refine ⟨_, rfl, .inl ⟨rfl, _, SqL.of hTa⟩, _, rfl, LT, us, .ref q, rfl, rfl, hTa, (by omega), ?_⟩
        refine ⟨⟨n + 1, us ++ [.ref q], _, _, rfl, upd_same, ?_, ?_, FA.put, AP2, ?_⟩, ?_⟩
        · rw [upd_ne (Ne.symm TF)]
          exact upd_same
        · rw [pws_succ]
          refine (RA.to fun b ys h => ?_).snoc ?_
          · rw [upd_ne (ne_of h hT (fun z => by cases z)), upd_ne (ne_of h hF (fun z => by cases z))]
            exact h
          · rw [upd_ne qT, upd_ne qF]
            exact hq6
        · intro b o h
          rw [upd_ne (ne_of_none h fLT), upd_ne (ne_of_none h fLF)]
          exact sH _ _ h
        · rw [upd_same, hT5]
          show j0 + 1 - (us ++ [V.ref q]).length < j0 + 1 - us.length
          rw [List.length_append]
          show j0 + 1 - (us.length + 1) < j0 + 1 - us.length
          omega
    · rintro σ H1 Q1 Q2 hq h
      obtain ⟨b, hb, hh⟩ := h
      exact ⟨b, hb, hq _ _ hh⟩
end
end M3

set_option Elab.async false
set_option linter.all false
set_option maxRecDepth 100000
set_option maxHeartbeats 8000000
/-! # What later defs ask of the others -/
namespace M3
open PySem L2
/-- a def of the top that keeps a promise -/
structure FnC (P : Program) (w : World) (K : PySem.W.Frag) (mg : Str → Option Value) (base : Heap) (k : Nat) (x : Str) (ps : List Str) (sp : Sp) where
  f : Addr
  fd : FuncData
  G : FnOk P w K mg base CX0 k f fd ps sp
  b : Binds K fd ps []
  m : mg x = some (.ref f)
  kp : PySem.W.keepIn K (.ref f) = true
/-- .. that may raise -/
structure FnX (P : Program) (w : World) (K : PySem.W.Frag) (mg : Str → Option Value) (base : Heap) (k : Nat) (x : Str) (ps : List Str) (sp : Sp) where
  f : Addr
  fd : FuncData
  G : FnOk P w K mg base (L2.CX P w) k f fd ps sp
  b : Binds K fd ps []
  m : mg x = some (.ref f)
  kp : PySem.W.keepIn K (.ref f) = true
/-- a method of the class at C that keeps a promise; ds: its defaults -/
structure MtC (P : Program) (w : World) (K : PySem.W.Frag) (mg : Str → Option Value) (base : Heap) (C : Addr) (k : Nat) (x : Str) (ps : List Str) (dvs : List V) (sp : Sp) where
  f : Addr
  fd : FuncData
  ds : List Value
  G : FnOk P w K mg base CX0 k f fd ps sp
  v : Vals dvs ds
  b : Binds K fd ps ds
  m : Meth K C x f
/-- a property of the class at C whose getter keeps a promise -/
structure PrC (P : Program) (w : World) (K : PySem.W.Frag) (mg : Str → Option Value) (base : Heap) (C : Addr) (k : Nat) (x : Str) (sp : Sp) where
  (pa g : Addr)
  fd : FuncData
  hp : PropOf K C x pa g
  G : FnOk P w K mg base CX0 k g fd ["self"] sp
  b : Binds K fd ["self"] []
/-- the class of machines, seen from outside -/
structure TxO (K : PySem.W.Frag) (C : Addr) : Prop where
  ks : PySem.W.kitOne K (.ref C) (.type "str") = some false
  ha : PySem.W.findIn K (.ref C) "__class__" = some (some (.builtin "object.__class__"))
  hn : PySem.W.specialIn K (.builtin "object.__class__") "__get__" = some (some (.builtin "getset_descriptor.__get__"))
  tk : PySem.W.takesIn K (.builtin "object.__class__") = some true
  hm : PySem.W.mroIn K C (.type "object") = some true
  kc : PySem.W.kitOne K (.ref C) (.ref C) = some true
/-- an own error that keeps what it takes -/
structure TxA (P : Program) (K : PySem.W.Frag) (mg : Str → Option Value) (nm : Str) (fld : String) (c : Addr) : Prop where
  tx : ∃ (fI : Addr) (B i B0 newId : String) (qual : Str), PySem.NvE.InitTxt P K c fI B i B0 newId fld qual
  g : mg nm = some (.ref c)
  k : PySem.W.keepIn K (.ref c) = true
  b : PySem.W.subIn K (.ref c) (.type "BaseException") = some true
  t : PySem.W.typeIn K (.ref c) = some (.type "type")
  x : PySem.W.exmOne K (.ref c) (.ref c) = some true
theorem TxA.keeps {P : Program} {K : PySem.W.Frag} {mg : Str → Option Value} {nm : Str} {fld : String} {c : Addr} (T : TxA P K mg nm fld c) {X : Cx} (h1 : X.prog = P) (h2 : X.K = K) (h3 : X.mg = mg) : KeepC X nm c fld := by
  subst h1 h2 h3
  exact ⟨T.tx, T.g, T.k, T.b, T.t⟩
theorem kf1 : ¬ (("after" : Str) = "_ends") := by decide +kernel
theorem kf2 : ¬ (("after" : Str) = "_table") := by decide +kernel
theorem kf3 : ¬ (("after" : Str) = "_letters") := by decide +kernel
theorem fld_after {x : Str} {a b : Addr} : (flds x a b).lookup ("after" : Str) = none := by
  unfold flds
  rw [lookup_putF, if_neg kf1, lookup_putF, if_neg kf2, lookup_putF, if_neg kf3]
  rfl
theorem let1 : ∀ a ∈ six, only ⟨#[a]⟩ "abcdefghijklmnopqrstuvwxyz" = true := by decide +kernel
theorem only_all {x : Str} {n : Nat} (h : IsSet x n) {y : Str} (hw : IsW x y) : only y "abcdefghijklmnopqrstuvwxyz" = true := by
  obtain ⟨cs, rfl, hl, hp, hm⟩ := h
  unfold only
  rw [List.all_eq_true]
  intro c hc
  have h1 := hm c (by simpa using hw c hc)
  have h2 := let1 c h1
  unfold only at h2
  rw [List.all_eq_true] at h2
  exact h2 c (by simp)
theorem ne_not {v u : V} (h : v = u) : (!decide (v = u)) = false := by
  rw [decide_eq_true h]
  rfl
theorem same_still {d : Addr} {H H' : Hp} (s : Same H H') : Still d H H' := fun b o _ h => s b o h
theorem same_dz {d : Addr} {H H' : Hp} (s : Same H H') (z : Dz H d) : Dz H' d := by
  obtain ⟨l, m, c, e, h⟩ := z
  exact ⟨l, m, c, s _ _ e, h⟩
theorem sqt_still {K : PySem.W.Frag} {d a : Addr} {H H' : Hp} {xs : List V} (s : Still d H H') (z : Dz H d) (h : SqT K H a xs) : SqT K H' a xs := by
  obtain ⟨l, m, c, e, _⟩ := z
  rcases h with (h | ⟨u, h⟩) | h
  · exact .inl (.inl (s _ _ (fun q => by rw [q, e] at h; cases h) h))
  · exact .inl (.inr ⟨u, s _ _ (fun q => by rw [q, e] at h; cases h) h⟩)
  · exact .inr h
theorem Mach.still {K : PySem.W.Frag} {C p d : Addr} {H H' : Hp} {x : Str} {t : List (List Nat)} {es : List Nat} (h : Mach K C H p x t es) (z : Dz H d) (s : Still d H H') : Mach K C H' p x t es := by
  obtain ⟨dx, a, b, us, h1, h2, h3, h4⟩ := h
  obtain ⟨l, m, c, e, _⟩ := id z
  refine ⟨dx, a, b, us, s _ _ (fun q => by rw [q, e] at h1; cases h1) h1, sqt_still s z h2, ⟨h3.1, fun i r hr => ?_⟩, sqt_still s z h4⟩
  obtain ⟨b', b1, b2⟩ := h3.2 i r hr
  exact ⟨b', b1, sqt_still s z b2⟩
theorem free_of {H H' : Hp} {q : Addr} (s : Same H H') (h : H' q = none) : H q = none := by
  cases e : H q with
  | none => rfl
  | some o =>
    have := s _ _ e
    rw [h] at this
    cases this
end M3

set_option Elab.async false
set_option linter.all false
set_option maxRecDepth 100000
set_option maxHeartbeats 8000000
/-! # check_machine -/
namespace M3
open PySem L2
abbrev sCheckM : Stmt := top 42
theorem scCheckM : FnScope ["value"] ["value"] (defScope sCheckM) := ⟨rfl, rfl, rfl, by decide +kernel, rfl, by decide +kernel, by decide +kernel⟩
def spCheckM (K : PySem.W.Frag) (C : Addr) : Sp := fun vs H Q _ => ∃ (p : Addr) (x : Str) (t : List (List Nat)) (es : List Nat), vs = [.ref p] ∧ Mach K C H p x t es ∧ Q .non H
section
variable {P : Program} {w : World} {K : PySem.W.Frag} {mg : Str → Option Value} {base : Heap} {C : Addr}
theorem ok_checkm {f cM : Addr} {fd : FuncData} (F : Fun K "check_machine" "check_machine" sCheckM f fd) (W : TxW mg) (TK : TxK K mg C) (TO : TxO K C) (mC : mg "Machine" = some (.ref C)) (TM : TxR K mg "InvalidMachine" cM) : FnOk P w K mg base CX0 1 f fd ["value"] (spCheckM K C) := by
  refine F.ok scCheckM (fun vs H Q E h => ?_) (fun cdv A outer s H vs Q E hr h => ?_)
  · obtain ⟨p, x, t, es, rfl, _⟩ := h
    rfl
  · obtain ⟨p, x, t, es, rfl, M, k⟩ := h
    refine ⟨_, pss_one (ps_if (pt_not (pt_val (pe_callB call_isi (by rfl) W.isi (by decide +kernel) (pa_cons (pv 0) (pa_cons (pe_glob (v := .ref C) rfl mC rfl) pa_nil))))) (pss_one (ps_raise rfl takes0 (pmk_own PySem.F.excBase_ValueError TM.x TM.g TM.k (raises_own TM.b TM.t) rfl))) pss_nil), ?_⟩
    obtain ⟨dx, a, b, us, i1, i2, i3, i4⟩ := id M
    exact ⟨_, rfl, .ref p, .ref C, .ref C, .ref C, true, rfl, .own C, .base (.ins i1 TK.cl TO.ha TO.hn TO.tk TO.hm), TO.kc, _, rfl, iteF k⟩
end
end M3

set_option Elab.async false
set_option linter.all false
set_option maxRecDepth 100000
set_option maxHeartbeats 8000000
/-! # Machine.__eq__ as a def -/
namespace M3
open PySem L2
abbrev sEq : Stmt := inClass (top 38) 16
theorem scEq : FnScope ["self", "other"] ["self", "other"] (defScope sEq) := ⟨rfl, rfl, rfl, by decide +kernel, rfl, by decide +kernel, by decide +kernel⟩
def dN (es : List Nat) : PyData := .tuple (es.map fun n => .int ((n : Nat) : Int))
def dT (t : List (List Nat)) : PyData := .tuple (t.map dN)
def dM (x : Str) (t : List (List Nat)) (es : List Nat) : PyData := .tuple [.str x, dT t, dN es]
theorem eqv_nats : ∀ a b : List Nat, PyData.eqvAll (a.map fun n => .int ((n : Nat) : Int)) (b.map fun n => .int ((n : Nat) : Int)) = decide (a = b)
  | [], [] => by simp [PyData.eqvAll]
  | [], _ :: _ => by simp [PyData.eqvAll]
  | _ :: _, [] => by simp [PyData.eqvAll]
  | x :: a, y :: b => by
    have ih := eqv_nats a b
    simp only [List.map_cons, PyData.eqvAll, PyData.eqv, ih]
    by_cases h : x = y
    · subst h
      by_cases h2 : a = b
      · subst h2
        simp
      · simp [h2]
    · have n : ¬ ((x : Int) = (y : Int)) := fun z => h (by omega)
      simp [h, n]
theorem eqv_dN (a b : List Nat) : (dN a).eqv (dN b) = decide (a = b) := by
  unfold dN
  rw [PyData.eqv]
  exact eqv_nats a b
theorem eqv_tabs : ∀ a b : List (List Nat), PyData.eqvAll (a.map dN) (b.map dN) = decide (a = b)
  | [], [] => by simp [PyData.eqvAll]
  | [], _ :: _ => by simp [PyData.eqvAll]
  | _ :: _, [] => by simp [PyData.eqvAll]
  | x :: a, y :: b => by
    have ih := eqv_tabs a b
    simp only [List.map_cons, PyData.eqvAll, eqv_dN, ih]
    by_cases h : x = y
    · subst h
      by_cases h2 : a = b
      · subst h2
        simp
      · simp [h2]
    · simp [h]
theorem eqv_dM (x y : Str) (t s : List (List Nat)) (a b : List Nat) : (dM x t a).eqv (dM y s b) = (decide (x = y) && (decide (t = s) && decide (a = b))) := by
  unfold dM
  rw [PyData.eqv]
  simp only [PyData.eqvAll, eqv_dN]
  have e : (dT t).eqv (dT s) = decide (t = s) := by
    unfold dT
    rw [PyData.eqv]
    exact eqv_tabs t s
  rw [e]
  simp only [PyData.eqv, Bool.and_true]
  congr 1
theorem dp_nats {K : PySem.W.Frag} {H : Hp} : ∀ es : List Nat, DpAll K H (nts es) (es.map fun n => .int ((n : Nat) : Int))
  | [] => .nil
  | _ :: es => .cons (.int _) (dp_nats es)
theorem dp_rows {K : PySem.W.Frag} {H : Hp} : ∀ (t : List (List Nat)) (us : List V), Tups K H us t → DpAll K H us (t.map dN)
  | [], us, h => by
    have e : us = [] := List.eq_nil_of_length_eq_zero h.1
    subst e
    exact .nil
  | r :: t, us, h => by
    obtain ⟨b, b1, b2⟩ := h.2 0 r rfl
    match us, h, b1 with
    | u :: us, h, b1 =>
      have e : u = .ref b := Option.some.inj b1
      subst e
      have l : us.length = t.length := by
        have := h.1
        simpa using this
      exact .cons (.tup b2 (dp_nats r)) (dp_rows t us ⟨l, fun i r' hr => h.2 (i + 1) r' hr⟩)
theorem lay_nats : ∀ es : List Nat, PyData.canLayAll0 (es.map fun n => .int ((n : Nat) : Int)) = true
  | [] => by rfl
  | _ :: es => by
    have ih := lay_nats es
    simp only [List.map_cons, PyData.canLayAll0, PyData.canLay0, ih, Bool.and_self]
theorem lay_dN (es : List Nat) : (dN es).canLay0 = true := by
  unfold dN
  simp only [PyData.canLay0, lay_nats]
theorem lay_rows : ∀ t : List (List Nat), PyData.canLayAll0 (t.map dN) = true
  | [] => by rfl
  | _ :: t => by
    have ih := lay_rows t
    simp only [List.map_cons, PyData.canLayAll0, lay_dN, ih, Bool.and_self]
theorem dep_nats : ∀ es : List Nat, PyData.depthAll (es.map fun n => .int ((n : Nat) : Int)) = 0
  | [] => by rfl
  | _ :: es => by
    have ih := dep_nats es
    simp only [List.map_cons, PyData.depthAll, PyData.depth, ih, Nat.max_self]
theorem dep_dN (es : List Nat) : (dN es).depth = 1 := by
  unfold dN
  simp only [PyData.depth, dep_nats]
theorem dep_rows : ∀ t : List (List Nat), PyData.depthAll (t.map dN) ≤ 1
  | [] => by simp [PyData.depthAll]
  | _ :: t => by
    have ih := dep_rows t
    simp only [List.map_cons, PyData.depthAll, dep_dN]
    omega
theorem set_ok {x : Str} {m : Nat} (h : IsSet x m) : PyData.strOk x = true := by
  obtain ⟨cs, rfl, _, _, hm⟩ := h
  show (cs.toArray.all fun c => decide (c < 1114112)) = true
  rw [List.all_toArray, List.all_eq_true]
  intro c hc
  have := hm c hc
  refine decide_eq_true ?_
  simp only [List.mem_cons, List.not_mem_nil, or_false] at this
  omega
theorem shaped_dM {x : Str} {t : List (List Nat)} {es : List Nat} {m : Nat} (h : IsSet x m) : SeqAt.shaped (dM x t es) = true := by
  unfold SeqAt.shaped
  have h1 : (dM x t es).canLay0 = true := by
    unfold dM dT
    simp only [PyData.canLay0, PyData.canLayAll0, lay_rows, lay_dN, set_ok h, Bool.and_self]
  have h2 : (dM x t es).depth ≤ 64 := by
    have r := dep_rows t
    unfold dM dT
    simp only [PyData.depth, PyData.depthAll, dep_dN]
    omega
  rw [h1, decide_eq_true h2]
  rfl
def spEq (K : PySem.W.Frag) (C : Addr) : Sp := fun vs H Q _ => ∃ (p : Addr) (v : V) (tv : Value) (b : Bool) (x : Str) (t : List (List Nat)) (es : List Nat) (m : Nat), vs = [.ref p, v] ∧ Mach K C H p x t es ∧ Right x t es m ∧ TyX K H v tv ∧ PySem.W.kitOne K tv (.ref C) = some b ∧
  (b = false → Q (.bl false) H) ∧ (b = true → ∃ (q : Addr) (y : Str) (s : List (List Nat)) (es' : List Nat) (m' : Nat), v = .ref q ∧ Mach K C H q y s es' ∧ Right y s es' m' ∧ ∀ H' : Hp, Same H H' → Q (.bl (decide (x = y) && (decide (t = s) && decide (es = es')))) H')
section
variable {P : Program} {w : World} {K : PySem.W.Frag} {mg : Str → Option Value} {base : Heap} {C : Addr}
theorem ok_eq {f : Addr} {fd : FuncData} (F : Fun K "__eq__" "Machine.__eq__" sEq f fd) (W : TxW mg) (TK : TxK K mg C) (mC : mg "Machine" = some (.ref C)) : FnOk P w K mg base CX0 1 f fd ["self", "other"] (spEq K C) := by
  refine F.ok scEq (fun vs H Q E h => ?_) (fun cdv A outer s H vs Q E hr h => ?_)
  · obtain ⟨p, v, tv, b, x, t, es, m, rfl, _⟩ := h
    rfl
  · obtain ⟨p, v, tv, b, x, t, es, m, rfl, M, R, ty, k1, q1, q2⟩ := h
    refine ⟨_, pss_cons (ps_if (pt_not (pt_val (pe_callB call_isi (by rfl) W.isi (by decide +kernel) (pa_cons (pv 1) (pa_cons (pe_glob (v := .ref C) rfl mC rfl) pa_nil))))) (pss_one (ps_ret pe_bl)) pss_nil)
      (pss_one (ps_ret (pe_cmpR (op_eqD hr.units) (pe_tup (pa_cons (pe_fld (pv 0) rfl) (pa_cons (pe_fld (pv 0) rfl) (pa_cons (pe_fld (pv 0) rfl) pa_nil)))) (pe_tup (pa_cons (pe_fld (pv 1) rfl) (pa_cons (pe_fld (pv 1) rfl) (pa_cons (pe_fld (pv 1) rfl) pa_nil)))) (nomark _)))), ?_⟩
    refine ⟨_, rfl, v, .ref C, tv, .ref C, b, rfl, .own C, ty, k1, _, rfl, ?_⟩
    cases b with
    | false => exact iteT (q1 rfl)
    | true =>
      obtain ⟨q, y, s, es', m', rfl, M', R', k⟩ := q2 rfl
      refine iteF ?_
      obtain ⟨dx, a, b, us, i1, i2, i3, i4⟩ := id M
      obtain ⟨dx', a', b', us', j1, j2, j3, j4⟩ := id M'
      refine ⟨_, rfl, p, C, dx, _, _, rfl, i1, TK.cl, TK.nL, fld_l, _, rfl, p, C, dx, _, _, rfl, i1, TK.cl, TK.nT, fld_t, _, rfl, p, C, dx, _, _, rfl, i1, TK.cl, TK.nE, fld_e, (by show 3 ≤ sizeLine; decide), fun T1 n1 => ?_⟩
      have s1 : Same H (upd H T1 (.tup [.str x, .ref a, .ref b])) := Same.new (Same.refl H) n1
      refine ⟨_, rfl, q, C, dx', _, _, rfl, s1 _ _ j1, TK.cl, TK.nL, fld_l, _, rfl, q, C, dx', _, _, rfl, s1 _ _ j1, TK.cl, TK.nT, fld_t, _, rfl, q, C, dx', _, _, rfl, s1 _ _ j1, TK.cl, TK.nE, fld_e, (by show 3 ≤ sizeLine; decide), fun T2 n2 => ?_⟩
      have s2 : Same H (upd (upd H T1 (.tup [.str x, .ref a, .ref b])) T2 (.tup [.str y, .ref a', .ref b'])) := Same.new s1 n2
      refine ⟨dM x t es, dM y s es', .tup (SqT.of (keep_new upd_same n2)) (.cons (.str x) (.cons (.tup (sqt_same s2 i2) (dp_rows t us (i3.same s2))) (.cons (.tup (sqt_same s2 i4) (dp_nats es)) .nil))),
        .tup (SqT.of upd_same) (.cons (.str y) (.cons (.tup (sqt_same s2 j2) (dp_rows s us' (j3.same s2))) (.cons (.tup (sqt_same s2 j4) (dp_nats es')) .nil))), shaped_dM R.st, shaped_dM R'.st, ?_⟩
      rw [eqv_dM]
      exact k _ s2
end
end M3

set_option Elab.async false
set_option linter.all false
set_option maxRecDepth 100000
set_option maxHeartbeats 8000000
/-! # Is a word one of a plain machine -/
namespace M3
open PySem L2
abbrev sHas : Stmt := top 73
theorem scHas : FnScope ["plain", "word"] ["plain", "word"] (defScope sHas) := ⟨rfl, rfl, rfl, by decide +kernel, rfl, by decide +kernel, by decide +kernel⟩
def spHas (K : PySem.W.Frag) : Sp := fun vs H Q _ => ∃ (p d : Addr) (x y : Str) (t : List (List Nat)) (es : List Nat) (m : Nat), vs = [.ref p, .str y] ∧ Plain d H p x t es ∧ IsSet x m ∧ m ≤ 2 ∧ 1 ≤ t.length ∧ IsW x y ∧ Q (.bl (decide (goes t x 0 y.cps.toList ∈ es))) H
section
variable {P : Program} {w : World} {K : PySem.W.Frag} {mg : Str → Option Value} {base : Heap}
theorem ok_has {f g : Addr} {fd gd : FuncData} (F : Fun K "_law_has" "_law_has" sHas f fd) (G : Fun K "_law_led" "_law_led" sLawLed g gd) (bG : Binds K gd ["table", "letters", "word", "start"] []) (mG : mg "_law_led" = some (.ref g)) : FnOk P w K mg base CX0 2 f fd ["plain", "word"] (spHas K) := by
  have GL : FnOk P w K mg base CX0 1 g gd ["table", "letters", "word", "start"] (spLawLed K) := ok_lawled G
  refine F.ok scHas (fun vs H Q E h => ?_) (fun cdv A outer s H vs Q E hr h => ?_)
  · obtain ⟨p, d, x, y, t, es, m, rfl, _⟩ := h
    rfl
  · obtain ⟨p, d, x, y, t, es, m, rfl, ⟨⟨a, b, us, hp, ad, ha, R, bd, hb⟩, tb, up, lt⟩, hx, m2, t1, hw, k⟩ := h
    have hu := hu_of hr
    refine ⟨_, pss_one (ps_ret (pe_cmpR op_in_seq (pe_call GL hr rfl mG G.kp bG .nil pass0 (pa_cons (pe_dget hu (pv 0) pe_str (fun _ _ => rfl)) (pa_cons (pe_dget hu (pv 0) pe_str (fun _ _ => rfl)) (pa_cons (pv 1) (pa_cons pe_int pa_nil))))) (pe_dget hu (pv 0) pe_str (fun _ _ => rfl)) (by rfl))), ?_⟩
    rw [set_len hx] at tb
    refine ⟨_, rfl, p, _, rfl, get_t hp, _, rfl, p, _, rfl, get_l hp, _, rfl, a, x, y, 0, t.length, m, t, us, rfl, SqL.of ha, tups_of R, tb, hx, m2, hw, t1, ?_⟩
    refine ⟨_, rfl, p, _, rfl, get_e hp, b, nts es, rfl, .inl (SqL.of hb), rfl, flat_nts es, ?_⟩
    rw [inV_nts]
    exact k
end
end M3

set_option Elab.async false
set_option linter.all false
set_option maxRecDepth 100000
set_option maxHeartbeats 8000000
/-! # Two machines, their maps: what judges and refuses -/
namespace M3
open PySem L2 NdefX
abbrev sSameL : Stmt := top 43
abbrev sTwo : Stmt := top 44
abbrev sIsMapOf : Stmt := top 57
abbrev sCheckMap : Stmt := top 58
abbrev sMapProd : Stmt := top 59
abbrev sProduct : Stmt := top 53
abbrev sImageOf : Stmt := top 56
abbrev sImage : Stmt := top 52
abbrev sHitsOf : Stmt := top 60
abbrev sHits : Stmt := top 55
theorem scSameL : FnScope ["one", "other"] ["one", "other"] (defScope sSameL) := ⟨rfl, rfl, rfl, by decide +kernel, rfl, by decide +kernel, by decide +kernel⟩
theorem scTwo : FnScope ["one", "other"] ["one", "other"] (defScope sTwo) := ⟨rfl, rfl, rfl, by decide +kernel, rfl, by decide +kernel, by decide +kernel⟩
abbrev nIsMapOf : List Str := ["one", "other", "value", "first", "second"]
theorem scIsMapOf : FnScope nIsMapOf ["one", "other", "value"] (defScope sIsMapOf) := ⟨rfl, rfl, rfl, by decide +kernel, rfl, by decide +kernel, by decide +kernel⟩
theorem scCheckMap : FnScope ["one", "other", "value"] ["one", "other", "value"] (defScope sCheckMap) := ⟨rfl, rfl, rfl, by decide +kernel, rfl, by decide +kernel, by decide +kernel⟩
theorem scMapProd : FnScope ["left", "right"] ["left", "right"] (defScope sMapProd) := ⟨rfl, rfl, rfl, by decide +kernel, rfl, by decide +kernel, by decide +kernel⟩
theorem scProduct : FnScope ["one", "other", "left", "right"] ["one", "other", "left", "right"] (defScope sProduct) := ⟨rfl, rfl, rfl, by decide +kernel, rfl, by decide +kernel, by decide +kernel⟩
theorem scImageOf : FnScope ["one", "other", "word"] ["one", "other", "word"] (defScope sImageOf) := ⟨rfl, rfl, rfl, by decide +kernel, rfl, by decide +kernel, by decide +kernel⟩
theorem scImage : FnScope ["one", "other", "word"] ["one", "other", "word"] (defScope sImage) := ⟨rfl, rfl, rfl, by decide +kernel, rfl, by decide +kernel, by decide +kernel⟩
theorem scHitsOf : FnScope ["one", "other", "leads"] ["one", "other", "leads"] (defScope sHitsOf) := ⟨rfl, rfl, rfl, by decide +kernel, rfl, by decide +kernel, by decide +kernel⟩
theorem scHits : FnScope ["one", "other", "leads"] ["one", "other", "leads"] (defScope sHits) := ⟨rfl, rfl, rfl, by decide +kernel, rfl, by decide +kernel, by decide +kernel⟩
/-- a pair of tuples of numbers stands there -/
def MapAt (K : PySem.W.Frag) (H : Hp) (a : Addr) (fs gs : List Nat) : Prop := ∃ u v : Addr, SqT K H a [.ref u, .ref v] ∧ SqT K H u (nts fs) ∧ SqT K H v (nts gs)
theorem MapAt.same {K : PySem.W.Frag} {H H' : Hp} {a : Addr} {fs gs : List Nat} (h : MapAt K H a fs gs) (s : Same H H') : MapAt K H' a fs gs := by
  obtain ⟨u, v, h1, h2, h3⟩ := h
  exact ⟨u, v, sqt_same s h1, sqt_same s h2, sqt_same s h3⟩
theorem MapAt.ext {K : PySem.W.Frag} {H H' : Hp} {a : Addr} {fs gs : List Nat} (h : MapAt K H a fs gs) (s : LamX.ExtN H H') : MapAt K H' a fs gs := by
  obtain ⟨u, v, h1, h2, h3⟩ := h
  exact ⟨u, v, sqt_ext s h1, sqt_ext s h2, sqt_ext s h3⟩
/-- it leads the states of one machine to states of it -/
def Leads (fs : List Nat) (n : Nat) : Prop := fs.length = n ∧ ∀ z ∈ fs, z < n
theorem Leads.line {fs : List Nat} {n : Nat} (h : Leads fs n) : (decide (((fs.map Int.ofNat).length : Int) = (n : Int)) && (fs.map Int.ofNat).all (inside (n : Int))) = true := by
  rw [List.length_map, h.1, decide_eq_true rfl, Bool.true_and, List.all_eq_true]
  intro z hz
  obtain ⟨q, hq, rfl⟩ := List.mem_map.mp hz
  exact inside_nat (h.2 q hq)
theorem Leads.comp {fs gs : List Nat} {n : Nat} (h : Leads fs n) (k : Leads gs n) : Leads (comp fs gs) n := by
  refine ⟨by rw [comp_length, h.1], fun z hz => ?_⟩
  unfold M3.comp at hz
  obtain ⟨q, hq, rfl⟩ := List.mem_map.mp hz
  exact getD_lt k.2 (by rw [k.1]; exact h.2 q hq)
def spTwo (K : PySem.W.Frag) (C : Addr) : Sp := fun vs H Q _ => ∃ (p q : Addr) (x : Str) (t t' : List (List Nat)) (es es' : List Nat), vs = [.ref p, .ref q] ∧ Mach K C H p x t es ∧ Mach K C H q x t' es' ∧ Q .non H
def spIsMapOf (K : PySem.W.Frag) (C : Addr) : Sp := fun vs H Q _ => ∃ (p q a : Addr) (x : Str) (t t' : List (List Nat)) (es es' fs gs : List Nat), vs = [.ref p, .ref q, .ref a] ∧ Mach K C H p x t es ∧ Mach K C H q x t' es' ∧ t.length ≤ 1000 ∧ t'.length ≤ 1000 ∧ MapAt K H a fs gs ∧ Leads fs t.length ∧ Leads gs t'.length ∧
  ∀ H' : Hp, Same H H' → Q (.bl true) H'
def spCheckMap (K : PySem.W.Frag) (C : Addr) : Sp := fun vs H Q _ => ∃ (p q a : Addr) (x : Str) (t t' : List (List Nat)) (es es' fs gs : List Nat), vs = [.ref p, .ref q, .ref a] ∧ Mach K C H p x t es ∧ Mach K C H q x t' es' ∧ t.length ≤ 1000 ∧ t'.length ≤ 1000 ∧ MapAt K H a fs gs ∧ Leads fs t.length ∧ Leads gs t'.length ∧
  ∀ H' : Hp, Same H H' → Q .non H'
def spMapProd (K : PySem.W.Frag) : Sp := fun vs H Q _ => ∃ (a b : Addr) (f1 g1 f2 g2 : List Nat) (n m : Nat), vs = [.ref a, .ref b] ∧ MapAt K H a f1 g1 ∧ MapAt K H b f2 g2 ∧ Leads f1 n ∧ Leads f2 n ∧ Leads g1 m ∧ Leads g2 m ∧ n ≤ 1000 ∧ m ≤ 1000 ∧
  ∀ (p : Addr) (H' : Hp), MapAt K H' p (comp f1 f2) (comp g1 g2) → Same H H' → Q (.ref p) H'
def spProduct (K : PySem.W.Frag) (C : Addr) : Sp := fun vs H Q _ => ∃ (p q a b : Addr) (x : Str) (t t' : List (List Nat)) (es es' f1 g1 f2 g2 : List Nat), vs = [.ref p, .ref q, .ref a, .ref b] ∧ Mach K C H p x t es ∧ Mach K C H q x t' es' ∧ t.length ≤ 1000 ∧ t'.length ≤ 1000 ∧ MapAt K H a f1 g1 ∧ MapAt K H b f2 g2 ∧ Leads f1 t.length ∧ Leads f2 t.length ∧ Leads g1 t'.length ∧ Leads g2 t'.length ∧
  ∀ (r : Addr) (H' : Hp), MapAt K H' r (comp f1 f2) (comp g1 g2) → Same H H' → Q (.ref r) H'
def spImageOf (K : PySem.W.Frag) (T : List NTab) (C : Addr) : Sp := fun vs H Q _ => ∃ (p q : Addr) (x y : Str) (t t' : List (List Nat)) (es es' : List Nat) (m : Nat), vs = [.ref p, .ref q, .str y] ∧ Mach K C H p x t es ∧ Mach K C H q x t' es' ∧ Right x t es m ∧ Right x t' es' m ∧ IsW x y ∧ TabsN T H ∧ y.length ≤ 1000000 ∧
  ∀ (r : Addr) (H' : Hp), MapAt K H' r (act t x y.cps.toList) (act t' x y.cps.toList) → Ext T H H' → Q (.ref r) H'
def spHits (K : PySem.W.Frag) (C : Addr) : Sp := fun vs H Q _ => ∃ (p q a : Addr) (x : Str) (t t' : List (List Nat)) (es es' fs gs : List Nat), vs = [.ref p, .ref q, .ref a] ∧ Mach K C H p x t es ∧ Mach K C H q x t' es' ∧ 1 ≤ t.length ∧ t.length ≤ 1000 ∧ 1 ≤ t'.length ∧ t'.length ≤ 1000 ∧ MapAt K H a fs gs ∧ Leads fs t.length ∧ Leads gs t'.length ∧
  ∀ (r : Addr) (H' : Hp), H' r = some (.tup [.bl (decide (fs.getD 0 0 ∈ es)), .bl (decide (gs.getD 0 0 ∈ es'))]) → Same H H' → Q (.ref r) H'
section
variable {P : Program} {w : World} {K : PySem.W.Frag} {mg : Str → Option Value} {base : Heap} {C : Addr}
theorem ok_samel {f cO : Addr} {fd : FuncData} (F : Fun K "check_same_letters" "check_same_letters" sSameL f fd) (pL : PrC P w K mg base C 1 "letters" (spPropL K C)) (TK : TxK K mg C) (TO : TxR K mg "InvalidOperation" cO) : FnOk P w K mg base CX0 3 f fd ["one", "other"] (spTwo K C) := by
  refine F.ok scSameL (fun vs H Q E h => ?_) (fun cdv A outer s H vs Q E hr h => ?_)
  · obtain ⟨p, q, x, t, t', es, es', rfl, _⟩ := h
    rfl
  · obtain ⟨p, q, x, t, t', es, es', rfl, M1, M2, k⟩ := h
    refine ⟨_, pss_one (ps_if (pt_cmpR op_ne (pe_prop (pv 0) TK.cl pL.hp pL.G hr pL.b .nil pass0 rfl) (pe_prop (pv 1) TK.cl pL.hp pL.G hr pL.b .nil pass0 rfl) (nomark _)) (pss_one (ps_raise rfl takes0 (pmk_own PySem.F.excBase_ValueError TO.x TO.g TO.k (raises_own TO.b TO.t) rfl))) pss_nil), ?_⟩
    obtain ⟨dx, a, b, us, i1, i2, i3, i4⟩ := id M1
    obtain ⟨dx', a', b', us', j1, j2, j3, j4⟩ := id M2
    refine ⟨_, rfl, p, dx, _, rfl, i1, p, x, t, es, rfl, M1, _, rfl, q, dx', _, rfl, j1, q, x, t', es', rfl, M2, rfl, _, rfl, ?_⟩
    rw [ne_not rfl]
    exact iteF k
theorem ok_two {f : Addr} {fd : FuncData} (F : Fun K "check_two" "check_two" sTwo f fd) (cM : FnC P w K mg base 1 "check_machine" ["value"] (spCheckM K C)) (cS : FnC P w K mg base 3 "check_same_letters" ["one", "other"] (spTwo K C)) : FnOk P w K mg base CX0 4 f fd ["one", "other"] (spTwo K C) := by
  refine F.ok scTwo (fun vs H Q E h => ?_) (fun cdv A outer s H vs Q E hr h => ?_)
  · obtain ⟨p, q, x, t, t', es, es', rfl, _⟩ := h
    rfl
  · obtain ⟨p, q, x, t, t', es, es', rfl, M1, M2, k⟩ := h
    have hr1 : Room 1 _ := hr.mono (by decide)
    refine ⟨_, pss_cons (ps_expr (pe_call cM.G hr1 rfl cM.m cM.kp cM.b .nil pass0 (pa_cons (pv 0) pa_nil))) (pss_cons (ps_expr (pe_call cM.G hr1 rfl cM.m cM.kp cM.b .nil pass0 (pa_cons (pv 1) pa_nil))) (pss_one (ps_expr (pe_call cS.G hr rfl cS.m cS.kp cS.b .nil pass0 (pa_cons (pv 0) (pa_cons (pv 1) pa_nil)))))), ?_⟩
    exact ⟨_, rfl, p, x, t, es, rfl, M1, _, rfl, q, x, t', es', rfl, M2, _, rfl, _, rfl, p, q, x, t, t', es, es', rfl, M1, M2, k⟩
theorem ok_ismapof {f : Addr} {fd : FuncData} (F : Fun K "is_map_of" "is_map_of" sIsMapOf f fd) (cL : FnC P w K mg base 2 "is_line" ["value", "width", "size"] (spIsLine K)) (fL : Addr) (dL : FuncData) (GL : FnOk P w K mg base CX0 1 fL dL ["self"] (spLen K C)) (bL : Binds K dL ["self"] []) (mL : Meth K C "__len__" fL) (TK : TxK K mg C) (W : TxW mg) (M : TxM mg) :
    FnOk P w K mg base CX0 3 f fd ["one", "other", "value"] (spIsMapOf K C) := by
  refine F.ok scIsMapOf (fun vs H Q E h => ?_) (fun cdv A outer s H vs Q E hr h => ?_)
  · obtain ⟨p, q, a, x, t, t', es, es', fs, gs, rfl, _⟩ := h
    rfl
  · obtain ⟨p, q, a, x, t, t', es, es', fs, gs, rfl, M1, M2, l1, l2, ⟨u, v, h1, h2, h3⟩, L1, L2, k⟩ := h
    refine ⟨_, pss_cons (ps_if (PW.pt (pw_or (pt_not (pt_val (pe_callB call_isi (by rfl) W.isi (by decide +kernel) (pa_cons (pv 2) (pa_cons (pe_bltn (v := .ty "tuple") rfl W.tuple boot_tuple' rfl) pa_nil))))) (pw_or1 (pt_cmpR op_ne (pe_callB call_len_seq (by rfl) M.len PySem.boot_len (pa_cons (pv 2) pa_nil)) pe_int (nomark _))))) (pss_one (ps_ret pe_bl)) pss_nil)
      (pss_cons (ps_asg (pv 2) (pg_tup rfl (pgs_cons (pg_name (i := 3) scIsMapOf.nd rfl (Or.inl rfl)) (pgs_cons (pg_name (i := 4) scIsMapOf.nd rfl (Or.inl rfl)) pgs_nil))))
      (pss_one (ps_ret (pe_and (pe_call cL.G hr rfl cL.m cL.kp cL.b .nil pass0 (pa_cons (pv 3) (pa_cons (pe_callB (NvO.call_lenO GL hr bL pass0 mL.at_ mL.fn) (by rfl) M.len PySem.boot_len (pa_cons (pv 0) pa_nil)) (pa_cons (pe_callB (NvO.call_lenO GL hr bL pass0 mL.at_ mL.fn) (by rfl) M.len PySem.boot_len (pa_cons (pv 0) pa_nil)) pa_nil))))
        (pe_one (pe_call cL.G hr rfl cL.m cL.kp cL.b .nil pass0 (pa_cons (pv 4) (pa_cons (pe_callB (NvO.call_lenO GL hr bL pass0 mL.at_ mL.fn) (by rfl) M.len PySem.boot_len (pa_cons (pv 1) pa_nil)) (pa_cons (pe_callB (NvO.call_lenO GL hr bL pass0 mL.at_ mL.fn) (by rfl) M.len PySem.boot_len (pa_cons (pv 1) pa_nil)) pa_nil))))))))), ?_⟩
    obtain ⟨dx, aa, bb, us, i1, i2, i3, i4⟩ := id M1
    obtain ⟨dx', aa', bb', us', j1, j2, j3, j4⟩ := id M2
    refine ⟨_, rfl, .ref a, .ty "tuple", _, .type "tuple", true, rfl, .ty _, ty_tup h1, kit_tup, _, rfl, ?_⟩
    refine iteF ?_
    refine ⟨_, rfl, a, _, rfl, .inr h1, rfl, _, rfl, ?_⟩
    rw [ne_not (show V.int (([V.ref u, V.ref v].length : Nat) : Int) = V.int 2 from rfl)]
    refine iteF ?_
    refine ⟨_, rfl, a, _, rfl, h1, rfl, _, _, rfl, _, _, rfl, rfl, ?_⟩
    refine ⟨_, rfl, _, rfl, p, dx, _, rfl, i1, p, x, t, es, rfl, M1, ((t.length : Nat) : Int), rfl, by omega, by omega, ?_⟩
    refine ⟨_, rfl, p, dx, _, rfl, i1, p, x, t, es, rfl, M1, ((t.length : Nat) : Int), rfl, by omega, by omega, u, fs.map Int.ofNat, _, _, rfl, by rw [← nts_eq']; exact h2, by rw [List.length_map, L1.1]; omega, fun H1 s1 => ⟨_, rfl, ?_⟩⟩
    rw [L1.line]
    refine iteT ?_
    refine ⟨_, rfl, _, rfl, q, dx', _, rfl, s1 _ _ j1, q, x, t', es', rfl, M2.same s1, ((t'.length : Nat) : Int), rfl, by omega, by omega, ?_⟩
    refine ⟨_, rfl, q, dx', _, rfl, s1 _ _ j1, q, x, t', es', rfl, M2.same s1, ((t'.length : Nat) : Int), rfl, by omega, by omega, v, gs.map Int.ofNat, _, _, rfl, by rw [← nts_eq']; exact sqt_same s1 h3, by rw [List.length_map, L2.1]; omega, fun H2 s2 => ?_⟩
    rw [L2.line]
    exact k H2 (s1.trans s2)
theorem ok_checkmap {f cO : Addr} {fd : FuncData} (F : Fun K "check_map" "check_map" sCheckMap f fd) (cI : FnC P w K mg base 3 "is_map_of" ["one", "other", "value"] (spIsMapOf K C)) (TO : TxR K mg "InvalidOperation" cO) : FnOk P w K mg base CX0 4 f fd ["one", "other", "value"] (spCheckMap K C) := by
  refine F.ok scCheckMap (fun vs H Q E h => ?_) (fun cdv A outer s H vs Q E hr h => ?_)
  · obtain ⟨p, q, a, x, t, t', es, es', fs, gs, rfl, _⟩ := h
    rfl
  · obtain ⟨p, q, a, x, t, t', es, es', fs, gs, rfl, M1, M2, l1, l2, hm, L1, L2, k⟩ := h
    refine ⟨_, pss_one (ps_if (pt_not (pt_val (pe_call cI.G hr rfl cI.m cI.kp cI.b .nil pass0 (pa_cons (pv 0) (pa_cons (pv 1) (pa_cons (pv 2) pa_nil)))))) (pss_one (ps_raise rfl takes0 (pmk_own PySem.F.excBase_ValueError TO.x TO.g TO.k (raises_own TO.b TO.t) rfl))) pss_nil), ?_⟩
    exact ⟨_, rfl, _, rfl, _, rfl, p, q, a, x, t, t', es, es', fs, gs, rfl, M1, M2, l1, l2, hm, L1, L2, fun H1 s1 => ⟨_, rfl, iteF (k H1 s1)⟩⟩
theorem ok_mapprod {f : Addr} {fd : FuncData} (F : Fun K "map_product" "map_product" sMapProd f fd) (cC : FnC P w K mg base 1 "composed" ["first", "second"] (spComposed K)) : FnOk P w K mg base CX0 2 f fd ["left", "right"] (spMapProd K) := by
  refine F.ok scMapProd (fun vs H Q E h => ?_) (fun cdv A outer s H vs Q E hr h => ?_)
  · obtain ⟨a, b, f1, g1, f2, g2, n, m, rfl, _⟩ := h
    rfl
  · obtain ⟨a, b, f1, g1, f2, g2, n, m, rfl, ⟨u, v, h1, h2, h3⟩, ⟨u', v', k1, k2, k3⟩, L1, L2, L3, L4, n9, m9, k⟩ := h
    refine ⟨_, pss_one (ps_ret (pe_tup (pa_cons (pe_call cC.G hr rfl cC.m cC.kp cC.b .nil pass0 (pa_cons (pe_ix ix_tup (pv 0) pe_int (fun _ _ => rfl)) (pa_cons (pe_ix ix_tup (pv 1) pe_int (fun _ _ => rfl)) pa_nil)))
      (pa_cons (pe_call cC.G hr rfl cC.m cC.kp cC.b .nil pass0 (pa_cons (pe_ix ix_tup (pv 0) pe_int (fun _ _ => rfl)) (pa_cons (pe_ix ix_tup (pv 1) pe_int (fun _ _ => rfl)) pa_nil))) pa_nil)))), ?_⟩
    refine ⟨_, rfl, a, _, _, .ref u, rfl, rfl, h1, rfl, _, rfl, b, _, _, .ref u', rfl, rfl, k1, rfl, u, u', f1, f2, rfl, h2, k2, (by rw [L2.1]; exact L1.2), (by rw [L1.1]; exact n9), fun r1 H1 nr1 q1 s1 => ?_⟩
    refine ⟨_, rfl, a, _, _, .ref v, rfl, rfl, sqt_same s1 h1, rfl, _, rfl, b, _, _, .ref v', rfl, rfl, sqt_same s1 k1, rfl, v, v', g1, g2, rfl, sqt_same s1 h3, sqt_same s1 k3, (by rw [L4.1]; exact L3.2), (by rw [L3.1]; exact m9), fun r2 H2 nr2 q2 s2 => ⟨(by show 2 ≤ sizeLine; decide), fun T nT => ?_⟩⟩
    exact k T _ ⟨r1, r2, SqT.of upd_same, SqT.of (keep_new (s2 _ _ q1) nT), SqT.of (keep_new q2 nT)⟩ (Same.new (s1.trans s2) nT)
theorem ok_product {f : Addr} {fd : FuncData} (F : Fun K "product" "product" sProduct f fd) (cT : FnC P w K mg base 4 "check_two" ["one", "other"] (spTwo K C)) (cM : FnC P w K mg base 4 "check_map" ["one", "other", "value"] (spCheckMap K C)) (cP : FnC P w K mg base 2 "map_product" ["left", "right"] (spMapProd K)) :
    FnOk P w K mg base CX0 5 f fd ["one", "other", "left", "right"] (spProduct K C) := by
  refine F.ok scProduct (fun vs H Q E h => ?_) (fun cdv A outer s H vs Q E hr h => ?_)
  · obtain ⟨p, q, a, b, x, t, t', es, es', f1, g1, f2, g2, rfl, _⟩ := h
    rfl
  · obtain ⟨p, q, a, b, x, t, t', es, es', f1, g1, f2, g2, rfl, M1, M2, l1, l2, m1, m2, L1, L2, L3, L4, k⟩ := h
    have hr2 : Room 2 _ := hr.mono (by decide)
    refine ⟨_, pss_cons (ps_expr (pe_call cT.G hr rfl cT.m cT.kp cT.b .nil pass0 (pa_cons (pv 0) (pa_cons (pv 1) pa_nil)))) (pss_cons (ps_expr (pe_call cM.G hr rfl cM.m cM.kp cM.b .nil pass0 (pa_cons (pv 0) (pa_cons (pv 1) (pa_cons (pv 2) pa_nil))))) (pss_cons (ps_expr (pe_call cM.G hr rfl cM.m cM.kp cM.b .nil pass0 (pa_cons (pv 0) (pa_cons (pv 1) (pa_cons (pv 3) pa_nil)))))
      (pss_one (ps_ret (pe_call cP.G hr2 rfl cP.m cP.kp cP.b .nil pass0 (pa_cons (pv 2) (pa_cons (pv 3) pa_nil))))))), ?_⟩
    refine ⟨_, rfl, _, rfl, p, q, x, t, t', es, es', rfl, M1, M2, _, rfl, _, rfl, _, rfl, p, q, a, x, t, t', es, es', f1, g1, rfl, M1, M2, l1, l2, m1, L1, L3, fun H1 s1 => ?_⟩
    refine ⟨_, rfl, _, rfl, _, rfl, p, q, b, x, t, t', es, es', f2, g2, rfl, M1.same s1, M2.same s1, l1, l2, m2.same s1, L2, L4, fun H2 s2 => ?_⟩
    have s12 := s1.trans s2
    exact ⟨_, rfl, _, rfl, a, b, f1, g1, f2, g2, t.length, t'.length, rfl, m1.same s12, m2.same s12, L1, L2, L3, L4, l1, l2, fun r H3 hr3 s3 => k r H3 hr3 (s12.trans s3)⟩
theorem ok_imageof {T : List NTab} {f : Addr} {fd : FuncData} (F : Fun K "image_of" "image_of" sImageOf f fd) (cA : FnC P w K mg base 4 "acted" ["table", "letters", "word"] (spActed K T)) (pL : PrC P w K mg base C 1 "letters" (spPropL K C)) (pT : PrC P w K mg base C 1 "table" (spPropT K C)) (TK : TxK K mg C) :
    FnOk P w K mg base CX0 5 f fd ["one", "other", "word"] (spImageOf K T C) := by
  refine F.ok scImageOf (fun vs H Q E h => ?_) (fun cdv A outer s H vs Q E hr h => ?_)
  · obtain ⟨p, q, x, y, t, t', es, es', m, rfl, _⟩ := h
    rfl
  · obtain ⟨p, q, x, y, t, t', es, es', m, rfl, M1, M2, R1, R2, hw, tabs, hy, k⟩ := h
    have hr2 : Room 2 _ := hr.mono (by decide)
    refine ⟨_, pss_one (ps_ret (pe_tup (pa_cons (pe_call cA.G hr rfl cA.m cA.kp cA.b .nil pass0 (pa_cons (pe_prop (pv 0) TK.cl pT.hp pT.G hr2 pT.b .nil pass0 rfl) (pa_cons (pe_prop (pv 0) TK.cl pL.hp pL.G hr2 pL.b .nil pass0 rfl) (pa_cons (pv 2) pa_nil))))
      (pa_cons (pe_call cA.G hr rfl cA.m cA.kp cA.b .nil pass0 (pa_cons (pe_prop (pv 1) TK.cl pT.hp pT.G hr2 pT.b .nil pass0 rfl) (pa_cons (pe_prop (pv 1) TK.cl pL.hp pL.G hr2 pL.b .nil pass0 rfl) (pa_cons (pv 2) pa_nil)))) pa_nil)))), ?_⟩
    obtain ⟨dx, aa, bb, us, i1, i2, i3, i4⟩ := id M1
    obtain ⟨dx', aa', bb', us', j1, j2, j3, j4⟩ := id M2
    refine ⟨_, rfl, p, dx, _, rfl, i1, p, x, t, es, rfl, M1, fun a1 u1 e1 e2 => ?_⟩
    refine ⟨_, rfl, p, dx, _, rfl, i1, p, x, t, es, rfl, M1, _, rfl, a1, x, y, u1, t, m, rfl, e1, e2, R1.tb, R1.st, R1.m2, hw, (by have := R1.t4; omega), hy, tabs, fun r1 H1 h1 s1 => ?_⟩
    refine ⟨_, rfl, q, dx', _, rfl, s1.at_ j1, q, x, t', es', rfl, M2.ext s1.ext, fun a2 u2 e1 e2 => ?_⟩
    refine ⟨_, rfl, q, dx', _, rfl, s1.at_ j1, q, x, t', es', rfl, M2.ext s1.ext, _, rfl, a2, x, y, u2, t', m, rfl, e1, e2, R2.tb, R2.st, R2.m2, hw, (by have := R2.t4; omega), hy, s1.tab, fun r2 H2 h2 s2 => ⟨(by show 2 ≤ sizeLine; decide), fun T9 nT => ?_⟩⟩
    exact k T9 _ ⟨r1, r2, SqT.of upd_same, SqT.of (keep_new (s2.at_ h1) nT), SqT.of (keep_new h2 nT)⟩ ((s1.trans s2).new nT)
theorem ok_image {T : List NTab} {f : Addr} {fd : FuncData} (F : Fun K "image" "image" sImage f fd) (cT : FnC P w K mg base 4 "check_two" ["one", "other"] (spTwo K C)) (cC : FnC P w K mg base 3 "check_word" ["value"] spCheck) (cO : FnC P w K mg base 2 "check_only" ["word", "letters"] spOnlyC) (cI : FnC P w K mg base 5 "image_of" ["one", "other", "word"] (spImageOf K T C))
    (pL : PrC P w K mg base C 1 "letters" (spPropL K C)) (TK : TxK K mg C) : FnOk P w K mg base CX0 6 f fd ["one", "other", "word"] (spImageOf K T C) := by
  refine F.ok scImage (fun vs H Q E h => ?_) (fun cdv A outer s H vs Q E hr h => ?_)
  · obtain ⟨p, q, x, y, t, t', es, es', m, rfl, _⟩ := h
    rfl
  · obtain ⟨p, q, x, y, t, t', es, es', m, rfl, M1, M2, R1, R2, hw, tabs, hy, k⟩ := h
    have hr5 : Room 5 _ := hr
    have hr4 : Room 4 _ := hr.mono (by decide)
    have hr3 : Room 3 _ := hr.mono (by decide)
    have hr2 : Room 2 _ := hr.mono (by decide)
    refine ⟨_, pss_cons (ps_expr (pe_call cT.G hr4 rfl cT.m cT.kp cT.b .nil pass0 (pa_cons (pv 0) (pa_cons (pv 1) pa_nil)))) (pss_cons (ps_expr (pe_call cC.G hr3 rfl cC.m cC.kp cC.b .nil pass0 (pa_cons (pv 2) pa_nil))) (pss_cons (ps_expr (pe_call cO.G hr2 rfl cO.m cO.kp cO.b .nil pass0 (pa_cons (pv 2) (pa_cons (pe_prop (pv 0) TK.cl pL.hp pL.G hr2 pL.b .nil pass0 rfl) pa_nil))))
      (pss_one (ps_ret (pe_call cI.G hr5 rfl cI.m cI.kp cI.b .nil pass0 (pa_cons (pv 0) (pa_cons (pv 1) (pa_cons (pv 2) pa_nil)))))))), ?_⟩
    obtain ⟨dx, aa, bb, us, i1, i2, i3, i4⟩ := id M1
    refine ⟨_, rfl, _, rfl, p, q, x, t, t', es, es', rfl, M1, M2, _, rfl, y, rfl, hy, only_all R1.st hw, fun H1 s1 => ?_⟩
    refine ⟨_, rfl, _, rfl, p, dx, _, rfl, s1 _ _ i1, p, x, t, es, rfl, M1.same s1, y, x, rfl, hy, only_of hw, fun H2 s2 => ?_⟩
    have s12 := s1.trans s2
    exact ⟨_, rfl, _, rfl, _, rfl, p, q, x, y, t, t', es, es', m, rfl, M1.same s12, M2.same s12, R1, R2, hw, tabs.ext s12, hy, fun r H3 h3 s3 => k r H3 h3 ((Ext.of tabs s12).trans s3)⟩
theorem ok_hitsof {f : Addr} {fd : FuncData} (F : Fun K "hits_of" "hits_of" sHitsOf f fd) (pE : PrC P w K mg base C 1 "ends" (spPropE K C)) (TK : TxK K mg C) : FnOk P w K mg base CX0 3 f fd ["one", "other", "leads"] (spHits K C) := by
  refine F.ok scHitsOf (fun vs H Q E h => ?_) (fun cdv A outer s H vs Q E hr h => ?_)
  · obtain ⟨p, q, a, x, t, t', es, es', fs, gs, rfl, _⟩ := h
    rfl
  · obtain ⟨p, q, a, x, t, t', es, es', fs, gs, rfl, M1, M2, t1, l1, t1', l2, ⟨u, v, h1, h2, h3⟩, L1, L2, k⟩ := h
    refine ⟨_, pss_one (ps_ret (pe_tup (pa_cons (pe_cmpR op_in_seq (pe_ix ix_tup (pe_ix ix_tup (pv 2) pe_int (fun _ _ => rfl)) pe_int (fun _ _ => rfl)) (pe_prop (pv 0) TK.cl pE.hp pE.G hr pE.b .nil pass0 rfl) (by rfl))
      (pa_cons (pe_cmpR op_in_seq (pe_ix ix_tup (pe_ix ix_tup (pv 2) pe_int (fun _ _ => rfl)) pe_int (fun _ _ => rfl)) (pe_prop (pv 1) TK.cl pE.hp pE.G hr pE.b .nil pass0 rfl) (by rfl)) pa_nil)))), ?_⟩
    obtain ⟨dx, aa, bb, us, i1, i2, i3, i4⟩ := id M1
    obtain ⟨dx', aa', bb', us', j1, j2, j3, j4⟩ := id M2
    refine ⟨_, rfl, a, _, _, .ref u, rfl, rfl, h1, rfl, u, nts fs, ((0 : Nat) : Int), _, rfl, rfl, h2, nts_at (by rw [L1.1]; exact t1), _, rfl, p, dx, _, rfl, i1, p, x, t, es, rfl, M1, fun b1 hb1 => ⟨b1, nts es, rfl, .inr hb1, rfl, flat_nts es, ?_⟩⟩
    refine ⟨_, rfl, a, _, _, .ref v, rfl, rfl, h1, rfl, v, nts gs, ((0 : Nat) : Int), _, rfl, rfl, h3, nts_at (by rw [L2.1]; exact t1'), _, rfl, q, dx', _, rfl, j1, q, x, t', es', rfl, M2, fun b2 hb2 => ⟨b2, nts es', rfl, .inr hb2, rfl, flat_nts es', ?_⟩⟩
    refine ⟨(by show 2 ≤ sizeLine; decide), fun T nT => k T _ ?_ (Same.new (Same.refl H) nT)⟩
    rw [upd_same]
    show some (HO.tup [.bl (inV (.int ((fs.getD 0 0 : Nat) : Int)) (nts es)), .bl (inV (.int ((gs.getD 0 0 : Nat) : Int)) (nts es'))]) = _
    rw [inV_nts, inV_nts]
theorem ok_hits {f : Addr} {fd : FuncData} (F : Fun K "hits" "hits" sHits f fd) (cT : FnC P w K mg base 4 "check_two" ["one", "other"] (spTwo K C)) (cM : FnC P w K mg base 4 "check_map" ["one", "other", "value"] (spCheckMap K C)) (cH : FnC P w K mg base 3 "hits_of" ["one", "other", "leads"] (spHits K C)) :
    FnOk P w K mg base CX0 5 f fd ["one", "other", "leads"] (spHits K C) := by
  refine F.ok scHits (fun vs H Q E h => ?_) (fun cdv A outer s H vs Q E hr h => ?_)
  · obtain ⟨p, q, a, x, t, t', es, es', fs, gs, rfl, _⟩ := h
    rfl
  · obtain ⟨p, q, a, x, t, t', es, es', fs, gs, rfl, M1, M2, t1, l1, t1', l2, hm, L1, L2, k⟩ := h
    have hr3 : Room 3 _ := hr.mono (by decide)
    refine ⟨_, pss_cons (ps_expr (pe_call cT.G hr rfl cT.m cT.kp cT.b .nil pass0 (pa_cons (pv 0) (pa_cons (pv 1) pa_nil)))) (pss_cons (ps_expr (pe_call cM.G hr rfl cM.m cM.kp cM.b .nil pass0 (pa_cons (pv 0) (pa_cons (pv 1) (pa_cons (pv 2) pa_nil)))))
      (pss_one (ps_ret (pe_call cH.G hr3 rfl cH.m cH.kp cH.b .nil pass0 (pa_cons (pv 0) (pa_cons (pv 1) (pa_cons (pv 2) pa_nil))))))), ?_⟩
    refine ⟨_, rfl, _, rfl, p, q, x, t, t', es, es', rfl, M1, M2, _, rfl, _, rfl, _, rfl, p, q, a, x, t, t', es, es', fs, gs, rfl, M1, M2, l1, l2, hm, L1, L2, fun H1 s1 => ?_⟩
    exact ⟨_, rfl, _, rfl, _, rfl, p, q, a, x, t, t', es, es', fs, gs, rfl, M1.same s1, M2.same s1, t1, l1, t1', l2, hm.same s1, L1, L2, fun r H2 h2 s2 => k r H2 h2 (s1.trans s2)⟩
end
end M3

set_option Elab.async false
set_option linter.all false
set_option maxRecDepth 100000
set_option maxHeartbeats 8000000
/-! # Powers of actions, by arithmetic -/
namespace M3
open PySem L2
/-- what is led on by one function, and stays below four, comes again after twelve steps -/
theorem seq_12 {f F : Nat → Nat} (st : ∀ k, f (k + 1) = F (f k)) (h : ∀ k, f k < 4) : f 18 = f 6 := by
  obtain ⟨i, j, ij, j4, e⟩ := pigeon h
  have sh : ∀ k, i ≤ k → f (k + (j - i)) = f k := fun k hk => by
    obtain ⟨r, rfl⟩ := Nat.exists_eq_add_of_le hk
    induction r with
    | zero =>
      rw [show i + 0 + (j - i) = j by omega, Nat.add_zero, e]
    | succ r ih =>
      rw [show i + (r + 1) + (j - i) = (i + r + (j - i)) + 1 by omega, st, ih (by omega), show i + (r + 1) = (i + r) + 1 by omega, st]
  have tm : ∀ r k, i ≤ k → f (k + (j - i) * r) = f k := fun r => by
    induction r with
    | zero => exact fun k _ => rfl
    | succ r ih => exact fun k hk => by rw [Nat.mul_succ, show k + ((j - i) * r + (j - i)) = (k + (j - i) * r) + (j - i) by omega, sh _ (by omega), ih k hk]
  have c : ∃ r, 12 = (j - i) * r := by
    have : j - i = 1 ∨ j - i = 2 ∨ j - i = 3 ∨ j - i = 4 := by omega
    rcases this with q | q | q | q
    · exact ⟨12, by omega⟩
    · exact ⟨6, by omega⟩
    · exact ⟨4, by omega⟩
    · exact ⟨3, by omega⟩
  obtain ⟨r, hr⟩ := c
  have q := tm r 6 (by omega)
  rw [← hr] at q
  exact q
theorem getD_at {l : List Nat} {q : Nat} (h : q < l.length) : l.getD q 0 = l[q] := by simp [List.getD, List.getElem?_eq_getElem h]
theorem getD_some {l : List Nat} {q v : Nat} (h : l[q]? = some v) : l.getD q 0 = v := by
  rw [List.getD_eq_getElem?_getD, h]
  rfl
theorem comp_at {fs gs : List Nat} {q : Nat} (h : q < fs.length) : (comp fs gs).getD q 0 = gs.getD (fs.getD q 0) 0 := by
  have e : (comp fs gs)[q]? = some (gs.getD fs[q] 0) := by
    unfold comp
    rw [List.getElem?_map, List.getElem?_eq_getElem h]
    rfl
  rw [getD_some e, getD_at h]
theorem act_at {t : List (List Nat)} {x : Str} {cs : List Nat} {q : Nat} (h : q < t.length) : (act t x cs).getD q 0 = goes t x q cs := by
  refine getD_some ?_
  unfold act
  rw [List.getElem?_map, List.getElem?_range h]
  rfl
theorem list_ext {a b : List Nat} (hl : a.length = b.length) (h : ∀ q, q < a.length → a.getD q 0 = b.getD q 0) : a = b := by
  refine List.ext_getElem hl fun q h1 h2 => ?_
  have := h q h1
  rw [getD_at h1, getD_at h2] at this
  exact this
/-- the powers of an action of at most four states come again -/
theorem pw_18 {g : List Nat} (h4 : g.length ≤ 4) (hg : ∀ q ∈ g, q < g.length) : pw g 6 = pw g 18 := by
  refine list_ext (by rw [pw_length, pw_length]) fun q hq => ?_
  rw [pw_length] at hq
  refine (seq_12 (f := fun k => (pw g k).getD q 0) (F := fun z => g.getD z 0) (fun k => ?_) (fun k => ?_)).symm
  · show (comp (pw g k) g).getD q 0 = _
    exact comp_at (by rw [pw_length]; exact hq)
  · have h2 : q < (pw g k).length := by rw [pw_length]; exact hq
    show (pw g k).getD q 0 < 4
    rw [getD_at h2]
    exact Nat.lt_of_lt_of_le (pw_lt hg k _ (List.getElem_mem h2)) h4
theorem pw_shift {g : List Nat} {b c : Nat} (h : pw g (b + c) = pw g b) : ∀ k, b ≤ k → pw g (k + c) = pw g k := by
  intro k hk
  obtain ⟨r, rfl⟩ := Nat.exists_eq_add_of_le hk
  induction r with
  | zero => exact h
  | succ r ih =>
    rw [show b + (r + 1) + c = (b + r + c) + 1 by omega]
    show comp (pw g (b + r + c)) g = comp (pw g (b + r)) g
    rw [ih (by omega)]
theorem pw_times {g : List Nat} {b c : Nat} (h : pw g (b + c) = pw g b) : ∀ r k, b ≤ k → pw g (k + c * r) = pw g k
  | 0, k, _ => rfl
  | r + 1, k, hk => by
    rw [show k + c * (r + 1) = (k + c * r) + c by rw [Nat.mul_succ]; omega, pw_shift h _ (by omega)]
    exact pw_times h r k hk
theorem pw_mod {g : List Nat} {b c : Nat} (h : pw g (b + c) = pw g b) (k : Nat) (hk : b ≤ k) : pw g k = pw g (b + (k - b) % c) := by
  have q := pw_times h ((k - b) / c) (b + (k - b) % c) (by omega)
  have e := Nat.mod_add_div (k - b) c
  rw [show b + (k - b) % c + c * ((k - b) / c) = k by omega] at q
  exact q
/-- before they come again, no power ever comes again -/
theorem pw_before {g : List Nat} {n b : Nat} (bn : b < n) (ap : Apart g n) (back : pw g n = pw g b) {i k : Nat} (hi : i < b) (h : i < k) : pw g i ≠ pw g k := by
  intro e
  have hb : pw g (b + (n - b)) = pw g b := by rw [show b + (n - b) = n by omega, back]
  by_cases c : k < n
  · have := ap i k (by omega) c e
    omega
  · rw [pw_mod hb k (by omega)] at e
    have m := Nat.mod_lt (k - b) (show 0 < n - b by omega)
    have := ap i (b + (k - b) % (n - b)) (by omega) (by omega) e
    omega
/-- the round is the least one -/
theorem pw_round {g : List Nat} {n b : Nat} (bn : b < n) (ap : Apart g n) {k : Nat} (h0 : 0 < k) (h : k < n - b) : pw g b ≠ pw g (b + k) := by
  intro e
  have := ap b (b + k) bn (by omega) e
  omega
theorem apart_le {g : List Nat} {n i j : Nat} (ap : Apart g n) (ij : i < j) (e : pw g i = pw g j) : n ≤ j := by
  by_cases c : n ≤ j
  · exact c
  · have := ap i j (by omega) (by omega) e
    omega
/-- where the word, repeated, leads: by the powers of its action -/
theorem iter_pw {t : List (List Nat)} {x y : Str} {m : Nat} (tb : IsTab t t.length m) (hm : x.cps.toList.length = m) (t1 : 1 ≤ t.length) (hw : IsW x y) : ∀ k, iter t x y k = (pw (act t x y.cps.toList) k).getD 0 0
  | 0 => by
    have l : (act t x y.cps.toList).length = t.length := by
      unfold act
      rw [List.length_map, List.length_range]
    show 0 = (List.range (act t x y.cps.toList).length).getD 0 0
    rw [l]
    exact (getD_some (List.getElem?_range t1)).symm
  | k + 1 => by
    have l : (act t x y.cps.toList).length = t.length := by
      unfold act
      rw [List.length_map, List.length_range]
    show goes t x (iter t x y k) y.cps.toList = (comp (pw (act t x y.cps.toList) k) (act t x y.cps.toList)).getD 0 0
    rw [comp_at (by rw [pw_length, l]; omega), ← iter_pw tb hm t1 hw k]
    have hk := iter_lt tb hm t1 hw k
    rw [act_at hk]
end M3

set_option Elab.async false
set_option linter.all false
set_option maxRecDepth 100000
set_option maxHeartbeats 8000000
/-! # Rounds of maps -/
namespace M3
open PySem L2
/-- two actions as one: the second one's states stand behind n others -/
def cat (n : Nat) (fs gs : List Nat) : List Nat := fs ++ gs.map (n + ·)
theorem cat_length {n : Nat} {fs gs : List Nat} : (cat n fs gs).length = fs.length + gs.length := by
  unfold cat
  rw [List.length_append, List.length_map]
theorem cat_l {n q : Nat} {fs gs : List Nat} (h : q < fs.length) : (cat n fs gs).getD q 0 = fs.getD q 0 := by
  refine getD_some ?_
  unfold cat
  rw [List.getElem?_append_left h, List.getElem?_eq_getElem h, getD_at h]
theorem cat_r {n q : Nat} {fs gs : List Nat} (hn : fs.length = n) (h : q < gs.length) : (cat n fs gs).getD (n + q) 0 = n + gs.getD q 0 := by
  refine getD_some ?_
  unfold cat
  rw [List.getElem?_append_right (by omega), hn, Nat.add_sub_cancel_left, List.getElem?_map, List.getElem?_eq_getElem h, getD_at h]
  rfl
theorem cat_comp {n m : Nat} {a b f s : List Nat} (ha : ∀ z ∈ a, z < n) (hb : ∀ z ∈ b, z < m) (hf : f.length = n) (hs : s.length = m) : comp (cat n a b) (cat n f s) = cat n (comp a f) (comp b s) := by
  show (a ++ b.map (n + ·)).map (fun q => (cat n f s).getD q 0) = a.map (fun q => f.getD q 0) ++ (b.map fun q => s.getD q 0).map (n + ·)
  rw [List.map_append, List.map_map, List.map_map]
  congr 1
  · exact List.map_congr_left fun q hq => cat_l (by rw [hf]; exact ha q hq)
  · exact List.map_congr_left fun q hq => cat_r hf (by rw [hs]; exact hb q hq)
theorem pw_cat {n m : Nat} {f s : List Nat} (hf : Leads f n) (hs : Leads s m) : ∀ k, pw (cat n f s) k = cat n (pw f k) (pw s k)
  | 0 => by
    show List.range (cat n f s).length = cat n (List.range f.length) (List.range s.length)
    rw [cat_length, hf.1, hs.1, List.range_add]
    rfl
  | k + 1 => by
    show comp (pw (cat n f s) k) (cat n f s) = cat n (comp (pw f k) f) (comp (pw s k) s)
    rw [pw_cat hf hs k]
    refine cat_comp (m := m) (fun z hz => ?_) (fun z hz => ?_) hf.1 hs.1
    · have := pw_lt (by rw [hf.1]; exact hf.2) k z hz
      have := hf.1
      omega
    · have := pw_lt (by rw [hs.1]; exact hs.2) k z hz
      have := hs.1
      omega
theorem map_add_inj {n : Nat} : ∀ {a b : List Nat}, a.map (n + ·) = b.map (n + ·) → a = b
  | [], [], _ => rfl
  | x :: a, y :: b, h => by
    simp only [List.map_cons, List.cons.injEq] at h
    rw [show x = y by omega, map_add_inj h.2]
theorem cat_inj {n : Nat} {a b a' b' : List Nat} (h : cat n a b = cat n a' b') (hl : a.length = a'.length) : a = a' ∧ b = b' := by
  obtain ⟨h1, h2⟩ := List.append_inj h hl
  exact ⟨h1, map_add_inj h2⟩
theorem cat_lt {n m : Nat} {f s : List Nat} (hf : Leads f n) (hs : Leads s m) : ∀ q ∈ cat n f s, q < (cat n f s).length := by
  intro q hq
  rw [cat_length, hf.1, hs.1]
  rcases List.mem_append.mp hq with h | h
  · have := hf.2 q h
    omega
  · obtain ⟨z, hz, rfl⟩ := List.mem_map.mp h
    have := hs.2 z hz
    show n + z < n + m
    omega
/-- both powers -/
def two (f s : List Nat) (k : Nat) : List Nat × List Nat := (pw f k, pw s k)
theorem two_cat {n m : Nat} {f s : List Nat} (hf : Leads f n) (hs : Leads s m) {i j : Nat} : pw (cat n f s) i = pw (cat n f s) j ↔ two f s i = two f s j := by
  rw [pw_cat hf hs, pw_cat hf hs]
  constructor
  · intro h
    obtain ⟨h1, h2⟩ := cat_inj h (by rw [pw_length, pw_length])
    unfold two
    rw [h1, h2]
  · intro h
    have h1 : pw f i = pw f j := congrArg Prod.fst h
    have h2 : pw s i = pw s j := congrArg Prod.snd h
    rw [h1, h2]
theorem two_step {f s : List Nat} (a b : Nat) (h : two f s a = two f s b) : two f s (a + 1) = two f s (b + 1) := by
  have h1 : pw f a = pw f b := congrArg Prod.fst h
  have h2 : pw s a = pw s b := congrArg Prod.snd h
  show (comp (pw f a) f, comp (pw s a) s) = (comp (pw f b) f, comp (pw s b) s)
  rw [h1, h2]
theorem two_18 {n m : Nat} {f s : List Nat} (hf : Leads f n) (hs : Leads s m) (n4 : n ≤ 4) (m4 : m ≤ 4) : two f s 6 = two f s 18 := by
  unfold two
  rw [pw_18 (by rw [hf.1]; exact n4) (by rw [hf.1]; exact hf.2), pw_18 (by rw [hs.1]; exact m4) (by rw [hs.1]; exact hs.2)]
/-- told from the first power on: the same round -/
theorem rounds_one {α : Type} {S : Nat → α} (st : ∀ a b, S a = S b → S (a + 1) = S (b + 1)) {N b j i : Nat} (bN : b < N) (ap : ∀ x y, x < N → y < N → S x = S y → x = y) (back : S N = S b)
    (dist : ∀ x y, x < j → y < j → S (x + 1) = S (y + 1) → x = y) (ij : i < j) (e : S (j + 1) = S (i + 1)) : i + 1 = max 1 b ∧ j - i = N - b := by
  by_cases b0 : b = 0
  · subst b0
    have s1 := st N 0 back
    have jN : j ≤ N := by
      by_cases c : j ≤ N
      · exact c
      · have := dist N 0 (by omega) (by omega) s1
        omega
    by_cases c1 : j + 1 < N
    · have := ap (j + 1) (i + 1) c1 (by omega) e
      omega
    · by_cases c2 : j + 1 = N
      · rw [c2, back] at e
        have := ap 0 (i + 1) (by omega) (by omega) e
        omega
      · have ej : j = N := by omega
        subst ej
        have e : S 1 = S (i + 1) := s1.symm.trans e
        have hi : i = 0 := by
          by_cases c3 : i + 1 < j
          · have := ap 1 (i + 1) (by omega) c3 e
            omega
          · have c4 : i + 1 = j := by omega
            rw [c4, back] at e
            by_cases c5 : 1 < j
            · have := ap 1 0 c5 (by omega) e
              omega
            · omega
        subst hi
        exact ⟨rfl, rfl⟩
  · have jN : j < N := by
      by_cases c : j < N
      · exact c
      · have := dist (N - 1) (b - 1) (by omega) (by omega) (by rw [show N - 1 + 1 = N by omega, show b - 1 + 1 = b by omega]; exact back)
        omega
    have ej : j + 1 = N := by
      by_cases c : j + 1 = N
      · exact c
      · have := ap (j + 1) (i + 1) (by omega) (by omega) e
        omega
    rw [ej, back] at e
    have := ap b (i + 1) bN (by omega) e
    omega
end M3

set_option Elab.async false
set_option linter.all false
set_option maxRecDepth 100000
set_option maxHeartbeats 8000000
/-! # rounds, _law_rounds -/
namespace M3
open PySem L2
abbrev sRounds : Stmt := top 54
abbrev sLawRounds : Stmt := top 75
abbrev nRounds : List Str := ["one", "other", "leads", "first", "second", "trail", "back", "state"]
abbrev nLawRounds : List Str := ["step", "powers", "now", "side", "state"]
theorem scRounds : FnScope nRounds ["one", "other", "leads"] (defScope sRounds) := ⟨rfl, rfl, rfl, by decide +kernel, rfl, by decide +kernel, by decide +kernel⟩
theorem scLawRounds : FnScope nLawRounds ["step"] (defScope sLawRounds) := ⟨rfl, rfl, rfl, by decide +kernel, rfl, by decide +kernel, by decide +kernel⟩
def spRounds (K : PySem.W.Frag) (C : Addr) : Sp := fun vs H Q _ => ∃ (p q a : Addr) (x : Str) (t t' : List (List Nat)) (es es' fs gs : List Nat), vs = [.ref p, .ref q, .ref a] ∧ Mach K C H p x t es ∧ Mach K C H q x t' es' ∧ 1 ≤ t.length ∧ t.length ≤ 4 ∧ 1 ≤ t'.length ∧ t'.length ≤ 4 ∧ MapAt K H a fs gs ∧ Leads fs t.length ∧ Leads gs t'.length ∧
  ∀ (r : Addr) (n b : Nat) (H' : Hp), H' r = some (.tup [.int ((max 1 b : Nat) : Int), .int ((n - b : Nat) : Int)]) → b < n → (∀ i j, i < n → j < n → two fs gs i = two fs gs j → i = j) → two fs gs n = two fs gs b → Same H H' → Q (.ref r) H'
def spLawRounds (K : PySem.W.Frag) : Sp := fun vs H Q _ => ∃ (a : Addr) (fs gs : List Nat) (n m N b : Nat), vs = [.ref a] ∧ MapAt K H a fs gs ∧ Leads fs n ∧ Leads gs m ∧ n ≤ 4 ∧ m ≤ 4 ∧ b < N ∧ (∀ i j, i < N → j < N → two fs gs i = two fs gs j → i = j) ∧ two fs gs N = two fs gs b ∧
  ∀ (r : Addr) (H' : Hp), H' r = some (.tup [.int ((max 1 b : Nat) : Int), .int ((N - b : Nat) : Int)]) → Same H H' → Q (.ref r) H'
section
variable {P : Program} {w : World} {K : PySem.W.Frag} {mg : Str → Option Value} {base : Heap} {C : Addr}
theorem ok_rounds {f : Addr} {fd : FuncData} (F : Fun K "rounds" "rounds" sRounds f fd) (cT : FnC P w K mg base 4 "check_two" ["one", "other"] (spTwo K C)) (cM : FnC P w K mg base 4 "check_map" ["one", "other", "value"] (spCheckMap K C)) (cR : FnC P w K mg base 2 "repeats" ["action"] (spRepeats K))
    (fL : Addr) (dL : FuncData) (GL : FnOk P w K mg base CX0 1 fL dL ["self"] (spLen K C)) (bL : Binds K dL ["self"] []) (mL : Meth K C "__len__" fL) (TK : TxK K mg C) (M : TxM mg) (hX : mg "max" = none) : FnOk P w K mg base CX0 5 f fd ["one", "other", "leads"] (spRounds K C) := by
  refine F.ok scRounds (fun vs H Q E h => ?_) (fun cdv A outer s H vs Q E hr h => ?_)
  · obtain ⟨p, q, a, x, t, t', es, es', fs, gs, rfl, _⟩ := h
    rfl
  · obtain ⟨p, q, a, x, t, t', es, es', fs, gs, rfl, M1, M2, t1, t4, u1, u4, hm, L1, L2, k⟩ := h
    have hr2 : Room 2 _ := hr.mono (by decide)
    refine ⟨_, pss_cons (ps_expr (pe_call cT.G hr rfl cT.m cT.kp cT.b .nil pass0 (pa_cons (pv 0) (pa_cons (pv 1) pa_nil)))) (pss_cons (ps_expr (pe_call cM.G hr rfl cM.m cM.kp cM.b .nil pass0 (pa_cons (pv 0) (pa_cons (pv 1) (pa_cons (pv 2) pa_nil)))))
      (pss_cons (ps_asg (pv 2) (pg_tup rfl (pgs_cons (pg_name (i := 3) scRounds.nd rfl (Or.inl rfl)) (pgs_cons (pg_name (i := 4) scRounds.nd rfl (Or.inl rfl)) pgs_nil))))
      (pss_cons (ps_asg (pe_call cR.G hr2 rfl cR.m cR.kp cR.b .nil pass0 (pa_cons (pe_op op_catA (pv 3) (pe_callTy call_tuple_of (by rfl) M.tuple (by decide +kernel) (pa_cons (pe_lc (own := [("state", 7)]) (g := gName 7) (tt := tYes) rfl scRounds.nd (pi_tup (pv 4)) (blkOk_by (N := nRounds) (sc := defScope sRounds) (by decide +kernel)) (fun _ _ _ _ _ => pg_name (i := 7) scRounds.nd rfl (Or.inl rfl)) (fun _ _ _ _ _ => pts_nil)
          (fun _ _ _ _ _ => pe_op op_add (pe_callB (NvO.call_lenO GL hr2 bL pass0 mL.at_ mL.fn) (by rfl) M.len PySem.boot_len (pa_cons (pv 0) pa_nil)) (pv 7))) pa_nil))) pa_nil)) (pg_tup rfl (pgs_cons (pg_name (i := 5) scRounds.nd rfl (Or.inl rfl)) (pgs_cons (pg_name (i := 6) scRounds.nd rfl (Or.inl rfl)) pgs_nil))))
      (pss_one (ps_ret (pe_tup (pa_cons (pe_callB (call_max2 rfl) (by rfl) hX (by decide +kernel) (pa_cons pe_int (pa_cons (pv 6) pa_nil))) (pa_cons (pe_op op_sub (pe_callB call_len_seq (by rfl) M.len PySem.boot_len (pa_cons (pv 5) pa_nil)) (pv 6)) pa_nil)))))))), ?_⟩
    obtain ⟨dx, aa, bb, us, i1, i2, i3, i4⟩ := id M1
    refine ⟨_, rfl, _, rfl, p, q, x, t, t', es, es', rfl, M1, M2, _, rfl, _, rfl, _, rfl, p, q, a, x, t, t', es, es', fs, gs, rfl, M1, M2, by omega, by omega, hm, L1, L2, fun H1 s1 => ?_⟩
    obtain ⟨u, v, h1, h2, h3⟩ := hm.same s1
    have i1 := s1 _ _ i1
    have M1 := M1.same s1
    refine ⟨_, rfl, a, _, rfl, h1, rfl, _, _, rfl, _, _, rfl, rfl, ?_⟩
    refine ⟨_, rfl, _, rfl, v, rfl, ⟨_, h3⟩, fun D nD => ?_⟩
    have sm : ∀ {H9 : Hp}, (∀ b' o, b' ≠ D → H1 b' = some o → H9 b' = some o) → Same H1 H9 := fun z b' o h => z b' o (fun q => by rw [q, nD] at h; cases h) h
    refine lc_tup (K := K) (a := v) (xs := nts gs) (fun j H9 => H9 D = some (.lst (nts ((gs.take j).map (t.length + ·)))) ∧ ∀ b' o, b' ≠ D → H1 b' = some o → H9 b' = some o)
      ⟨upd_same, fun b' o hb' h => keep_new h nD⟩ (fun i H9 _ ⟨_, z⟩ => sqt_same (sm z) h3) ?_ ?_
    · rintro j w' H9 hv ⟨q1, q2⟩
      have hj : j < gs.length := by
        have := (List.getElem?_eq_some_iff.mp hv).1
        rw [nts_length] at this
        exact this
      unfold nts at hv
      rw [List.getElem?_map, List.getElem?_eq_getElem hj] at hv
      cases hv
      refine ⟨rfl, tYes_if ?_⟩
      have s9 := sm q2
      have lg := L2.1
      refine ⟨_, rfl, p, dx, _, rfl, s9 _ _ i1, p, x, t, es, rfl, M1.same s9, ((t.length : Nat) : Int), rfl, by omega, by omega, _, rfl, _, _, rfl, rfl, _, q1, ?_, ?_, fun b' o hb' h => by rw [upd_ne hb']; exact q2 b' o hb' h⟩
      · rw [nts_length, List.length_map, List.length_take]
        exact Nat.lt_of_le_of_lt (show _ ≤ 1000 by omega) (by decide)
      · rw [upd_same, map_take_snoc hj]
        unfold nts
        rw [List.map_append]
        rfl
    · rintro H9 ⟨q1, q2⟩
      have et : gs.take (nts gs).length = gs := by
        rw [nts_length]
        exact List.take_length
      rw [et] at q1
      refine ⟨D, _, rfl, .inl ⟨SqL.of q1, fun l nl => ?_⟩⟩
      have s9 := sm q2
      have lf := L1.1
      have lg := L2.1
      refine ⟨u, l, nts fs, nts (gs.map (t.length + ·)), rfl, rfl, sqt_same (Same.new s9 nl) h2, SqT.of upd_same, ?_, ?_, ?_, ?_⟩
      · rw [nts_length, nts_length, List.length_map]
        exact Nat.le_trans (show _ ≤ 8 by omega) (by decide)
      · intro z
        have := congrArg List.length z
        rw [nts_length] at this
        have : fs.length = 0 := this
        omega
      · intro _ z
        have := congrArg List.length z
        rw [nts_length, List.length_map] at this
        have : gs.length = 0 := this
        omega
      · intro _ _ c nc
        have e : nts fs ++ nts (gs.map (t.length + ·)) = nts (cat t.length fs gs) := by
          unfold cat nts
          rw [List.map_append]
        rw [e]
        have s10 : Same H1 (upd (upd H9 l (.tup (nts (gs.map (t.length + ·))))) c (.tup (nts (cat t.length fs gs)))) := Same.new (Same.new s9 nl) nc
        refine ⟨c, cat t.length fs gs, 6, 18, rfl, SqT.of upd_same, cat_lt L1 L2, by rw [cat_length]; omega, by decide, by decide, (two_cat L1 L2).mpr (two_18 L1 L2 t4 u4), fun r L us3 n b H5 hr5 hL lu bn n9 ap back s5 => ?_⟩
        refine ⟨r, _, rfl, SqT.of hr5, rfl, _, _, rfl, _, _, rfl, rfl, ?_⟩
        refine ⟨_, rfl, _, _, rfl, _, rfl, L, us3, rfl, .inl (SqL.of hL), _, rfl, _, _, rfl, rfl, (by show 2 ≤ sizeLine; decide), fun T nT => ?_⟩
        refine k T n b _ ?_ bn (fun i j hi hj e => ap i j hi hj ((two_cat L1 L2).mpr e)) ((two_cat L1 L2).mp back) (Same.new ((s1.trans s10).trans s5) nT)
        rw [upd_same]
        show some (HO.tup [.int (if ((b : Nat) : Int) > 1 then ((b : Nat) : Int) else 1), .int (((us3.length : Nat) : Int) - ((b : Nat) : Int))]) = _
        have e1 : (if ((b : Nat) : Int) > 1 then ((b : Nat) : Int) else 1) = ((max 1 b : Nat) : Int) := by
          by_cases c : ((b : Nat) : Int) > 1
          · rw [if_pos c]
            omega
          · rw [if_neg c]
            omega
        rw [e1, show ((us3.length : Nat) : Int) - ((b : Nat) : Int) = ((n - b : Nat) : Int) by omega]
end
end M3

set_option Elab.async false
set_option linter.all false
set_option maxRecDepth 100000
set_option maxHeartbeats 8000000
/-! # _law_rounds -/
namespace M3
open PySem L2
/-- a map as data -/
def dMap (z : List Nat × List Nat) : PyData := dT [z.1, z.2]
theorem eqv_dMap (a b : List Nat × List Nat) : (dMap a).eqv (dMap b) = decide (a = b) := by
  unfold dMap dT
  rw [PyData.eqv, eqv_tabs]
  obtain ⟨a1, a2⟩ := a
  obtain ⟨b1, b2⟩ := b
  simp
theorem lay_dMap (z : List Nat × List Nat) : (dMap z).canLay0 = true := by
  unfold dMap dT
  simp only [PyData.canLay0, lay_rows]
theorem dep_dMap (z : List Nat × List Nat) : (dMap z).depth ≤ 2 := by
  unfold dMap dT
  have := dep_rows [z.1, z.2]
  simp only [PyData.depth]
  omega
theorem lay_maps : ∀ F : List (List Nat × List Nat), PyData.canLayAll0 (F.map dMap) = true
  | [] => by rfl
  | _ :: F => by
    have ih := lay_maps F
    simp only [List.map_cons, PyData.canLayAll0, lay_dMap, ih, Bool.and_self]
theorem dep_maps : ∀ F : List (List Nat × List Nat), PyData.depthAll (F.map dMap) ≤ 2
  | [] => by simp [PyData.depthAll]
  | z :: F => by
    have ih := dep_maps F
    have := dep_dMap z
    simp only [List.map_cons, PyData.depthAll]
    omega
theorem shaped_dMap (z : List Nat × List Nat) : SeqAt.shaped (dMap z) = true := by
  unfold SeqAt.shaped
  have h2 : (dMap z).depth ≤ 64 := by
    have := dep_dMap z
    omega
  rw [lay_dMap, decide_eq_true h2]
  rfl
theorem shaped_maps (F : List (List Nat × List Nat)) : SeqAt.shaped (.list (F.map dMap)) = true := by
  unfold SeqAt.shaped
  have h1 : (PyData.list (F.map dMap)).canLay0 = true := by simp only [PyData.canLay0, lay_maps]
  have h2 : (PyData.list (F.map dMap)).depth ≤ 64 := by
    have := dep_maps F
    simp only [PyData.depth]
    omega
  rw [h1, decide_eq_true h2]
  rfl
theorem any_maps (w : List Nat × List Nat) : ∀ F : List (List Nat × List Nat), ((F.map dMap).any fun z => PyData.eqv z (dMap w)) = decide (w ∈ F)
  | [] => by simp
  | z :: F => by
    have ih := any_maps w F
    simp only [List.map_cons, List.any_cons, ih, eqv_dMap]
    by_cases h : z = w
    · subst h
      simp
    · have h' : ¬ w = z := fun e => h e.symm
      simp [h, h']
theorem MapAt.dp {K : PySem.W.Frag} {H : Hp} {a : Addr} {z : List Nat × List Nat} (h : MapAt K H a z.1 z.2) : Dp K H (.ref a) (dMap z) := by
  obtain ⟨u, v, h1, h2, h3⟩ := h
  exact .tup h1 (.cons (.tup h2 (dp_nats _)) (.cons (.tup h3 (dp_nats _)) .nil))
/-- maps that stand as tuples -/
def RowsM (K : PySem.W.Frag) (H : Hp) (us : List V) (F : List (List Nat × List Nat)) : Prop := us.length = F.length ∧ ∀ (i : Nat) (z : List Nat × List Nat), F[i]? = some z → ∃ b : Addr, us[i]? = some (.ref b) ∧ MapAt K H b z.1 z.2
theorem RowsM.dp {K : PySem.W.Frag} {H : Hp} : ∀ (F : List (List Nat × List Nat)) (us : List V), RowsM K H us F → DpAll K H us (F.map dMap)
  | [], us, h => by
    have e : us = [] := List.eq_nil_of_length_eq_zero h.1
    subst e
    exact .nil
  | z :: F, us, h => by
    obtain ⟨b, b1, b2⟩ := h.2 0 z rfl
    match us, h, b1 with
    | u :: us, h, b1 =>
      have e : u = .ref b := Option.some.inj b1
      subst e
      have l : us.length = F.length := by
        have := h.1
        simpa using this
      exact .cons b2.dp (RowsM.dp F us ⟨l, fun i r' hr => h.2 (i + 1) r' hr⟩)
theorem RowsM.same {K : PySem.W.Frag} {H H' : Hp} {us : List V} {F : List (List Nat × List Nat)} (h : RowsM K H us F) (k : ∀ (b : Addr) (z : List Nat × List Nat), MapAt K H b z.1 z.2 → MapAt K H' b z.1 z.2) : RowsM K H' us F := ⟨h.1, fun i r e => by
  obtain ⟨b, b1, b2⟩ := h.2 i r e
  exact ⟨b, b1, k b r b2⟩⟩
theorem RowsM.snoc {K : PySem.W.Frag} {H : Hp} {us : List V} {F : List (List Nat × List Nat)} {b : Addr} {z : List Nat × List Nat} (h : RowsM K H us F) (hb : MapAt K H b z.1 z.2) : RowsM K H (us ++ [.ref b]) (F ++ [z]) := by
  refine ⟨by rw [List.length_append, List.length_append, h.1]; rfl, fun i r' e => ?_⟩
  rcases snoc_at e with e | ⟨rfl, rfl⟩
  · obtain ⟨b', b1, b2⟩ := h.2 i r' e
    refine ⟨b', ?_, b2⟩
    rw [List.getElem?_append_left (List.getElem?_eq_some_iff.mp b1).1]
    exact b1
  · refine ⟨b, ?_, hb⟩
    rw [← h.1, List.getElem?_append_right (Nat.le_refl _), Nat.sub_self]
    rfl
/-- a map stays where a list grows -/
theorem MapAt.off {K : PySem.W.Frag} {H H' : Hp} {a L : Addr} {xs : List V} {fs gs : List Nat} (h : MapAt K H a fs gs) (hL : H L = some (.lst xs)) (s : ∀ b o, b ≠ L → H b = some o → H' b = some o) : MapAt K H' a fs gs := by
  have q : ∀ {b : Addr} {ys : List V}, SqT K H b ys → SqT K H' b ys := fun {b ys} h => by
    rcases h with (h | ⟨u, h⟩) | h
    · exact .inl (.inl (s _ _ (fun e => by rw [e, hL] at h; cases h) h))
    · exact .inl (.inr ⟨u, s _ _ (fun e => by rw [e, hL] at h; cases h) h⟩)
    · exact .inr h
  obtain ⟨u, v, h1, h2, h3⟩ := h
  exact ⟨u, v, q h1, q h2, q h3⟩
/-- the maps from the first power on -/
def twos (f s : List Nat) (n : Nat) : List (List Nat × List Nat) := (List.range n).map fun i => two f s (i + 1)
theorem twos_length {f s : List Nat} {n : Nat} : (twos f s n).length = n := by
  unfold twos
  rw [List.length_map, List.length_range]
theorem twos_at {f s : List Nat} {n i : Nat} (h : i < n) : (twos f s n)[i]? = some (two f s (i + 1)) := by
  unfold twos
  rw [List.getElem?_map, List.getElem?_range h]
  rfl
theorem twos_succ {f s : List Nat} {n : Nat} : twos f s (n + 1) = twos f s n ++ [two f s (n + 1)] := by
  unfold twos
  rw [List.range_succ, List.map_append]
  rfl
theorem mem_twos {f s : List Nat} {n : Nat} {z : List Nat × List Nat} : z ∈ twos f s n ↔ ∃ i, i < n ∧ two f s (i + 1) = z := by
  unfold twos
  rw [List.mem_map]
  constructor
  · rintro ⟨i, hi, e⟩
    exact ⟨i, List.mem_range.mp hi, e⟩
  · rintro ⟨i, hi, e⟩
    exact ⟨i, List.mem_range.mpr hi, e⟩
end M3

set_option Elab.async false
set_option linter.all false
set_option maxRecDepth 100000
set_option maxHeartbeats 8000000
/-! # _law_rounds as a def -/
namespace M3
open PySem L2
theorem pw_one {g : List Nat} : pw g 1 = g := by
  refine list_ext (pw_length g 1) fun q hq => ?_
  rw [pw_length] at hq
  show (comp (List.range g.length) g).getD q 0 = _
  rw [comp_at (by rw [List.length_range]; exact hq), getD_some (List.getElem?_range hq)]
section
variable {P : Program} {w : World} {K : PySem.W.Frag} {mg : Str → Option Value} {base : Heap} {C : Addr}
theorem ok_lawrounds {f : Addr} {fd : FuncData} (F : Fun K "_law_rounds" "_law_rounds" sLawRounds f fd) (M : TxM mg) : FnOk P w K mg base CX0 1 f fd ["step"] (spLawRounds K) := by
  refine F.ok scLawRounds (fun vs H Q E h => ?_) (fun cdv A outer s H vs Q E hr h => ?_)
  · obtain ⟨a, fs, gs, n, m, N, b, rfl, _⟩ := h
    rfl
  · obtain ⟨a, fs, gs, n, m, N, b, rfl, hm, L1, L2, n4, m4, bN, ap, back, k⟩ := h
    have hun : (A.deeper (PyProof.Rows.envOfC "_law_rounds" (defScope sLawRounds) s.heap.objs.size f cdv)).units + 65 < cLine := by
      have := hr.un
      omega
    refine ⟨_, pss_cons (ps_asg (pe_tup (pa_cons (pe_lst pa_nil) (pa_cons (pv 0) pa_nil))) (pg_tup rfl (pgs_cons (pg_name (i := 1) scLawRounds.nd rfl (Or.inl rfl)) (pgs_cons (pg_name (i := 2) scLawRounds.nd rfl (Or.inr rfl)) pgs_nil))))
      (pss_cons (ps_while PassesOwn.never (pt_cmpR (op_notInD hun) (pv 2) (pv 1) (by rfl))
        (pss_cons (ps_expr (pe_bm PySem.F.plainAttrs_list PySem.F.slot_list_append PySem.F.type_list_append mt_append (pv 1) (pa_cons (pv 2) pa_nil)))
        (pss_one (ps_set (i := 2) scLawRounds.nd rfl (Or.inr rfl) (pe_callTy call_tuple_of (by rfl) M.tuple (by decide +kernel) (pa_cons (pe_lc (own := [("side", 3)]) (g := gName 3) (tt := tYes)
          (te := tCB (rTupOf K) (tCons (tLc (iTup K (tOp (rIxT K) (tVar 2) (tVar 3))) (gName 4) tYes (tOp (rIxT K) (tOp (rIxT K) (tVar 0) (tVar 3)) (tVar 4)) [4]) tNil)) rfl scLawRounds.nd (pi_range1 rfl M.range (pa_cons pe_int pa_nil)) (blkOk_by (N := nLawRounds) (sc := defScope sLawRounds) (by decide +kernel)) (fun _ _ _ _ _ => pg_name (i := 3) scLawRounds.nd rfl (Or.inr rfl)) (fun _ _ _ _ _ => pts_nil)
          (fun _ _ _ _ _ => pe_callTy call_tuple_of (by rfl) M.tuple (by decide +kernel : bootBuiltins "tuple" = some (.type "tuple")) (pa_cons (pe_lc (own := [("state", 4)]) (wi := iTup K (tOp (rIxT K) (tVar 2) (tVar 3))) (g := gName 4) (tt := tYes) (te := tOp (rIxT K) (tOp (rIxT K) (tVar 0) (tVar 3)) (tVar 4)) rfl scLawRounds.nd (pi_tup (pe_ix ix_tup (pv 2) (pv 3) (fun _ _ => rfl)))
            (by exact blkOk_by (N := nLawRounds) (sc := ⟨.function, [(".0", .local), ("side", .cell), ("tuple", .globalImplicit), ("now", .cell), ("step", .cell)], false, false, []⟩) (scope := ⟨.function, [(".0", .local), ("state", .local), ("side", .free), ("step", .free)], false, false, []⟩) (own := [("state", 4)]) (by decide +kernel)) (fun _ _ _ _ _ => pg_name (i := 4) scLawRounds.nd rfl (Or.inl rfl)) (fun _ _ _ _ _ => pts_nil)
            (fun _ _ _ _ _ => pe_ix ix_tup (pe_ix ix_tup (pv 0) (pv 3) (fun _ _ => rfl)) (pv 4) (fun _ _ => rfl))) pa_nil))) pa_nil))))))
      (pss_one (ps_ret (pe_tup (pa_cons (pe_op op_add (pe_bm PySem.F.plainAttrs_list PySem.F.slot_list_index PySem.F.type_list_index (mt_indexD hun) (pv 1) (pa_cons (pv 2) pa_nil)) pe_int) (pa_cons (pe_op op_sub (pe_callB call_len_seq (by rfl) M.len PySem.boot_len (pa_cons (pv 1) pa_nil)) (pe_bm PySem.F.plainAttrs_list PySem.F.slot_list_index PySem.F.type_list_index (mt_indexD hun) (pv 1) (pa_cons (pv 2) pa_nil))) pa_nil)))))), ?_⟩
    refine ⟨(by show 0 ≤ sizeLine; decide), fun LP nLP => ⟨_, rfl, (by show 2 ≤ sizeLine; decide), fun T nT => ⟨T, _, rfl, SqT.of upd_same, rfl, _, _, rfl, _, _, rfl, rfl, ?_⟩⟩⟩
    have s0 : Same H (upd (upd H LP (.lst [])) T (.tup [.ref LP, .ref a])) := Same.new (Same.new (Same.refl H) nLP) nT
    have hL0 : (upd (upd H LP (.lst [])) T (.tup [.ref LP, .ref a])) LP = some (.lst []) := keep_new upd_same nT
    generalize upd (upd H LP (.lst [])) T (.tup [.ref LP, .ref a]) = H0 at s0 hL0 ⊢
    clear nT
    refine while_by (fun σ H' => ∃ (j : Nat) (us : List V) (c : Addr), σ = [some (.ref a), some (.ref LP), some (.ref c), none, none] ∧ H' LP = some (.lst us) ∧ RowsM K H' us (twos fs gs j) ∧ MapAt K H' c (pw fs (j + 1)) (pw gs (j + 1)) ∧ (∀ x y, x < j → y < j → two fs gs (x + 1) = two fs gs (y + 1) → x = y) ∧ Same H H')
      (fun σ H' => match H' LP with | some (.lst us) => 20 - us.length | _ => 0)
      ⟨0, [], a, rfl, hL0, ⟨rfl, fun i z e => by cases e⟩, by rw [pw_one, pw_one]; exact hm.same s0, fun x y hx _ _ => absurd hx (Nat.not_lt_zero _), s0⟩ ?_ ?_
    · rintro σ H5 ⟨j, us, c, rfl, hL, RM, hc, dist, sH⟩
      have lus : us.length = j := by rw [RM.1, twos_length]
      have j17 : j ≤ 17 := by
        by_cases q : j ≤ 17
        · exact q
        · have := dist 17 5 (by omega) (by omega) (two_18 L1 L2 n4 m4).symm
          omega
      refine ⟨_, rfl, _, rfl, dMap (two fs gs (j + 1)), (twos fs gs j).map dMap, MapAt.dp (z := two fs gs (j + 1)) hc, .lst (SqL.of hL) (RowsM.dp _ _ RM), shaped_dMap _, shaped_maps _, _, rfl, ?_⟩
      rw [any_maps]
      refine ite2 (fun h => ?_) (fun h => ?_)
      · have h : ¬ two fs gs (j + 1) ∈ twos fs gs j := by
          intro z
          rw [decide_eq_true z] at h
          cases h
        refine ⟨_, rfl, .inl ⟨rfl, _, SqL.of hL⟩, _, rfl, LP, us, .ref c, rfl, rfl, hL, (by rw [lus]; exact Nat.lt_of_le_of_lt j17 (by decide)), ?_⟩
        have off : ∀ b o, b ≠ LP → H5 b = some o → (upd H5 LP (.lst (us ++ [.ref c]))) b = some o := fun b o hb h => by
          rw [upd_ne hb]
          exact h
        have hc6 := hc.off hL off
        have hm6 := (hm.same sH).off hL off
        have RM6 : RowsM K (upd H5 LP (.lst (us ++ [.ref c]))) (us ++ [.ref c]) (twos fs gs (j + 1)) := by
          rw [twos_succ]
          exact (RM.same fun b z h => h.off hL off).snoc (z := two fs gs (j + 1)) hc6
        have hL6 : (upd H5 LP (.lst (us ++ [.ref c]))) LP = some (.lst (us ++ [.ref c])) := upd_same
        have s6 : Same H (upd H5 LP (.lst (us ++ [.ref c]))) := fun b o h => off b o (ne_of_none h nLP) (sH _ _ h)
        generalize upd H5 LP (.lst (us ++ [.ref c])) = H6 at hc6 hm6 RM6 hL6 s6 ⊢
        clear off hc RM sH
        obtain ⟨u0, v0, a1, a2, a3⟩ := hm6
        obtain ⟨u, v, c1, c2, c3⟩ := hc6
        refine ⟨2, rfl, by decide, by decide, fun D nD => ?_⟩
        have sm : ∀ {H9 : Hp}, (∀ b' o, b' ≠ D → H6 b' = some o → H9 b' = some o) → Same H6 H9 := fun z b' o h => z b' o (fun q => by rw [q, nD] at h; cases h) h
        refine lc_range (lo := 0) (n := 2) (fun i H9 => ∃ vs : List V, H9 D = some (.lst vs) ∧ RowsA H9 vs ([pw fs (j + 2), pw gs (j + 2)].take i) ∧ ∀ b o, b ≠ D → H6 b = some o → H9 b = some o)
          ⟨[], upd_same, ⟨rfl, fun i r e => by cases e⟩, fun b o hb h => keep_new h nD⟩ ?_ ?_
        · rintro i H9 hi ⟨vs, w1, w2, w3⟩
          have s9 := sm w3
          have pick : ∃ (cu st : List Nat) (rc rs : Addr), atI [V.ref u, V.ref v] (0 + (i : Int)) = some (.ref rc) ∧ atI [V.ref u0, V.ref v0] (0 + (i : Int)) = some (.ref rs) ∧ SqT K H6 rc (nts cu) ∧ SqT K H6 rs (nts st) ∧ [pw fs (j + 2), pw gs (j + 2)][i]? = some (comp cu st) ∧ (∀ z ∈ cu, z < st.length) ∧ cu.length ≤ 4 := by
            match i, hi with
            | 0, _ => exact ⟨pw fs (j + 1), fs, u, u0, rfl, rfl, c2, a2, rfl, pw_lt (by rw [L1.1]; exact L1.2) _, by rw [pw_length, L1.1]; exact n4⟩
            | 1, _ => exact ⟨pw gs (j + 1), gs, v, v0, rfl, rfl, c3, a3, rfl, pw_lt (by rw [L2.1]; exact L2.2) _, by rw [pw_length, L2.1]; exact m4⟩
          obtain ⟨cu, st, rc, rs, p1, p2, p3, p4, p5, p6, p7⟩ := pick
          refine ⟨rfl, tYes_if ?_⟩
          refine ⟨_, rfl, _, rfl, c, _, _, .ref rc, rfl, rfl, sqt_same s9 c1, p1, rc, rfl, ⟨_, sqt_same s9 p3⟩, fun D2 nD2 => ?_⟩
          have sm2 : ∀ {H10 : Hp}, (∀ b' o, b' ≠ D2 → H9 b' = some o → H10 b' = some o) → Same H9 H10 := fun z b' o h => z b' o (fun q => by rw [q, nD2] at h; cases h) h
          refine lc_tup (K := K) (a := rc) (xs := nts cu) (fun e H10 => H10 D2 = some (.lst (nts (comp (cu.take e) st))) ∧ ∀ b' o, b' ≠ D2 → H9 b' = some o → H10 b' = some o)
            ⟨upd_same, fun b' o hb' h => keep_new h nD2⟩ (fun e H10 _ ⟨_, z⟩ => sqt_same (s9.trans (sm2 z)) p3) ?_ ?_
          · rintro e w' H10 hv ⟨q1, q2⟩
            have he : e < cu.length := by
              have := (List.getElem?_eq_some_iff.mp hv).1
              rw [nts_length] at this
              exact this
            unfold nts at hv
            rw [List.getElem?_map, List.getElem?_eq_getElem he] at hv
            cases hv
            refine ⟨rfl, tYes_if ?_⟩
            have hlt := p6 cu[e] (List.getElem_mem he)
            have s10 := s9.trans (sm2 q2)
            refine ⟨_, rfl, _, rfl, a, _, _, .ref rs, rfl, rfl, sqt_same s10 a1, p2, _, rfl, rs, nts st, _, _, rfl, rfl, sqt_same s10 p4, nts_at hlt, _, q1, ?_, ?_, fun b' o hb' h => by rw [upd_ne hb']; exact q2 b' o hb' h⟩
            · unfold comp
              rw [nts_length, List.length_map, List.length_take]
              exact Nat.lt_of_le_of_lt (show _ ≤ 1000 by omega) (by decide)
            · rw [upd_same]
              unfold comp nts
              rw [map_take_snoc he, List.map_append]
              rfl
          · rintro H10 ⟨q1, q2⟩
            have et : cu.take (nts cu).length = cu := by
              rw [nts_length]
              exact List.take_length
            rw [et] at q1
            refine ⟨D2, _, rfl, .inl ⟨SqL.of q1, fun l nl => ?_⟩⟩
            have s10 := sm2 q2
            have lD : l ≠ D := fun z => by
              rw [z, s10 _ _ w1] at nl
              cases nl
            refine ⟨vs, keep_new (s10 _ _ w1) nl, ?_, vs ++ [.ref l], upd_same, ?_, fun b o hb h => ?_⟩
            · rw [w2.1, List.length_take]
              exact Nat.lt_of_le_of_lt (show _ ≤ 2 by have : ([pw fs (j + 2), pw gs (j + 2)] : List (List Nat)).length = 2 := rfl; omega) (by decide)
            · rw [take_snoc p5]
              refine (w2.to fun b' ys h => ?_).snoc ?_
              · rw [upd_ne (ne_of h w1 (fun z => by cases z))]
                exact keep_new (s10 _ _ h) nl
              · rw [upd_ne lD]
                exact upd_same
            · rw [upd_ne hb]
              exact keep_new (s10 _ _ (w3 b o hb h)) nl
        · rintro H9 ⟨vs, w1, w2, w3⟩
          have w2 : RowsA H9 vs [pw fs (j + 2), pw gs (j + 2)] := w2
          have s9 := sm w3
          obtain ⟨r1, e1, f1⟩ := w2.2 0 _ rfl
          obtain ⟨r2, e2, f2⟩ := w2.2 1 _ rfl
          have ev : vs = [.ref r1, .ref r2] := by
            match vs, w2.1, e1, e2 with
            | [x1, x2], _, e1, e2 =>
              cases e1
              cases e2
              rfl
          subst ev
          refine ⟨D, _, rfl, .inl ⟨SqL.of w1, fun l nl => ?_⟩⟩
          have hLf : (upd H9 l (.tup [.ref r1, .ref r2])) LP = some (.lst (us ++ [.ref c])) := keep_new (s9 _ _ hL6) nl
          have s7 : Same H6 (upd H9 l (.tup [.ref r1, .ref r2])) := Same.new s9 nl
          refine ⟨⟨j + 1, us ++ [.ref c], l, rfl, hLf, RM6.same fun b z h => h.same s7, ⟨r1, r2, SqT.of upd_same, SqT.of (keep_new f1 nl), SqT.of (keep_new f2 nl)⟩, fun x y hx hy e => ?_, s6.trans s7⟩, ?_⟩
          · by_cases x1 : x = j
            · by_cases y1 : y = j
              · omega
              · rw [x1] at e
                exact absurd (mem_twos.mpr ⟨y, by omega, e.symm⟩) h
            · by_cases y1 : y = j
              · rw [y1] at e
                exact absurd (mem_twos.mpr ⟨x, by omega, e⟩) h
              · exact dist x y (by omega) (by omega) e
          · rw [hLf, hL]
            show 20 - (us ++ [V.ref c]).length < 20 - us.length
            rw [List.length_append]
            show 20 - (us.length + 1) < 20 - us.length
            omega
      · have h : two fs gs (j + 1) ∈ twos fs gs j := by
          by_cases z : two fs gs (j + 1) ∈ twos fs gs j
          · exact z
          · rw [decide_eq_false z] at h
            exact absurd rfl h
        obtain ⟨i, ij, e⟩ := mem_twos.mp h
        obtain ⟨e1, e2⟩ := rounds_one (S := two fs gs) two_step bN ap back dist ij e.symm
        have at_ : ((twos fs gs j).map dMap)[i]? = some (dMap (two fs gs (i + 1))) := by
          rw [List.getElem?_map, twos_at ij]
          rfl
        have ee : PyData.eqv (dMap (two fs gs (i + 1))) (dMap (two fs gs (j + 1))) = true := by rw [eqv_dMap, decide_eq_true e]
        have no : ∀ (m : Nat) (z' : PyData), m < i → ((twos fs gs j).map dMap)[m]? = some z' → PyData.eqv z' (dMap (two fs gs (j + 1))) = false := fun m z' hm hz => by
          rw [List.getElem?_map, twos_at (by omega)] at hz
          cases hz
          rw [eqv_dMap]
          refine decide_eq_false fun z => ?_
          have := dist m i (by omega) ij (z.trans e.symm)
          omega
        refine ⟨_, rfl, .inl ⟨rfl, _, SqL.of hL⟩, _, rfl, LP, .ref c, dMap (two fs gs (j + 1)), (twos fs gs j).map dMap, i, dMap (two fs gs (i + 1)), rfl, rfl, .lst (SqL.of hL) (RowsM.dp _ _ RM), MapAt.dp (z := two fs gs (j + 1)) hc, shaped_maps _, shaped_dMap _, at_, ee, no, _, _, rfl, rfl, ?_⟩
        refine ⟨_, rfl, LP, us, rfl, .inl (SqL.of hL), _, rfl, .inl ⟨rfl, _, SqL.of hL⟩, _, rfl, LP, .ref c, dMap (two fs gs (j + 1)), (twos fs gs j).map dMap, i, dMap (two fs gs (i + 1)), rfl, rfl, .lst (SqL.of hL) (RowsM.dp _ _ RM), MapAt.dp (z := two fs gs (j + 1)) hc, shaped_maps _, shaped_dMap _, at_, ee, no, _, _, rfl, rfl, (by show 2 ≤ sizeLine; decide), fun T nT => k T _ ?_ (Same.new sH nT)⟩
        rw [upd_same]
        show some (HO.tup [.int (((i : Nat) : Int) + 1), .int (((us.length : Nat) : Int) - ((i : Nat) : Int))]) = _
        rw [show ((i : Nat) : Int) + 1 = ((max 1 b : Nat) : Int) by omega, show ((us.length : Nat) : Int) - ((i : Nat) : Int) = ((N - b : Nat) : Int) by omega]
    · rintro σ H1 Q1 Q2 hq h
      obtain ⟨v1, hv1, v2, hv2, d, ds, hd, he, sd, se, b, hb, hh⟩ := h
      exact ⟨v1, hv1, v2, hv2, d, ds, hd, he, sd, se, b, hb, hq _ _ hh⟩
end
end M3

set_option Elab.async false
set_option linter.all false
set_option maxRecDepth 100000
set_option maxHeartbeats 8000000
/-! # _law_wild -/
namespace M3
open PySem L2
abbrev sWild : Stmt := top 74
abbrev nWild : List Str := ["dice", "one", "other", "sizes", "size", "place"]
theorem scWild : FnScope nWild ["dice", "one", "other"] (defScope sWild) := ⟨rfl, rfl, rfl, by decide +kernel, rfl, by decide +kernel, by decide +kernel⟩
def spWild (K : PySem.W.Frag) : Sp := fun vs H Q _ => ∃ (d p q : Addr) (x x' : Str) (t t' : List (List Nat)) (es es' : List Nat), vs = [.ref d, .ref p, .ref q] ∧ Dz H d ∧ Plain d H p x t es ∧ Plain d H q x' t' es' ∧ 1 ≤ t.length ∧ t.length ≤ 4 ∧ 1 ≤ t'.length ∧ t'.length ≤ 4 ∧
  ∀ (a : Addr) (fs gs : List Nat) (H' : Hp), MapAt K H' a fs gs → Leads fs t.length → Leads gs t'.length → Dz H' d → Still d H H' → Q (.ref a) H'
section
variable {P : Program} {w : World} {K : PySem.W.Frag} {mg : Str → Option Value} {base : Heap} {C : Addr}
theorem ok_wild {f : Addr} {fd : FuncData} (F : Fun K "_law_wild" "_law_wild" sWild f fd) (cR : FnC P w K mg base 1 "_law_roll" ["dice", "total"] spDraw) (M : TxM mg) : FnOk P w K mg base CX0 2 f fd ["dice", "one", "other"] (spWild K) := by
  refine F.ok scWild (fun vs H Q E h => ?_) (fun cdv A outer s H vs Q E hr h => ?_)
  · obtain ⟨d, p, q, x, x', t, t', es, es', rfl, _⟩ := h
    rfl
  · obtain ⟨d, p, q, x, x', t, t', es, es', rfl, Z, P1, P2, t1, t4, u1, u4, k⟩ := h
    have hu := hu_of hr
    refine ⟨_, pss_cons (ps_set (i := 3) scWild.nd rfl (Or.inl rfl) (pe_lst (pa_cons (pe_callB call_len_seq (by rfl) M.len PySem.boot_len (pa_cons (pe_dget hu (pv 1) pe_str (fun _ _ => rfl)) pa_nil)) (pa_cons (pe_callB call_len_seq (by rfl) M.len PySem.boot_len (pa_cons (pe_dget hu (pv 2) pe_str (fun _ _ => rfl)) pa_nil)) pa_nil))))
      (pss_one (ps_ret (pe_callTy call_tuple_of (by rfl) M.tuple (by decide +kernel) (pa_cons (pe_lc (own := [("size", 4)]) (g := gName 4) (tt := tYes)
          (te := tCB (rTupOf K) (tCons (tLc (iRng1 (tCons (tVar 4) tNil)) (gName 5) tYes (tCall spDraw [] E0 (tCons (tVar 0) (tCons (tVar 4) tNil))) [5]) tNil)) rfl scWild.nd (pi_list (pv 3)) (blkOk_by (N := nWild) (sc := defScope sWild) (by decide +kernel)) (fun _ _ _ _ _ => pg_name (i := 4) scWild.nd rfl (Or.inr rfl)) (fun _ _ _ _ _ => pts_nil)
          (fun _ _ _ _ _ => pe_callTy call_tuple_of (by rfl) M.tuple (by decide +kernel : bootBuiltins "tuple" = some (.type "tuple")) (pa_cons (pe_lc (own := [("place", 5)]) (wi := iRng1 (tCons (tVar 4) tNil)) (g := gName 5) (tt := tYes) (te := tCall spDraw [] E0 (tCons (tVar 0) (tCons (tVar 4) tNil))) rfl scWild.nd (pi_range1 rfl M.range (pa_cons (pv 4) pa_nil))
            (by exact blkOk_by (N := nWild) (sc := ⟨.function, [(".0", .local), ("size", .cell), ("tuple", .globalImplicit), ("range", .globalImplicit), ("dice", .cell)], false, false, []⟩) (scope := ⟨.function, [(".0", .local), ("place", .local), ("_law_roll", .globalImplicit), ("dice", .free), ("size", .free)], false, false, []⟩) (own := [("place", 5)]) (by decide +kernel)) (fun _ _ _ _ _ => pg_name (i := 5) scWild.nd rfl (Or.inl rfl)) (fun _ _ _ _ _ => pts_nil)
            (fun _ _ _ _ _ => pe_call cR.G hr rfl cR.m cR.kp cR.b .nil pass0 (pa_cons (pv 0) (pa_cons (pv 4) pa_nil)))) pa_nil))) pa_nil)))), ?_⟩
    obtain ⟨⟨a1, b1, us, hp, ad, ha, R1, _, _⟩, _, _, _⟩ := id P1
    obtain ⟨⟨a2, b2, us', hq, ad', ha', R2, _, _⟩, _, _, _⟩ := id P2
    have l1 : us.length = t.length := R1.1
    have l2 : us'.length = t'.length := R2.1
    refine ⟨_, rfl, p, _, rfl, get_t hp, a1, us, rfl, .inl (SqL.of ha), _, rfl, q, _, rfl, get_t hq, a2, us', rfl, .inl (SqL.of ha'), ?_⟩
    rw [l1, l2]
    refine ⟨(by show 2 ≤ sizeLine; decide), fun L nL => ?_⟩
    have Z1 := Z.new (u := .lst [.int (t.length : Nat), .int (t'.length : Nat)]) nL
    have S1 : Still d H (upd H L (.lst [.int (t.length : Nat), .int (t'.length : Nat)])) := (Still.refl d H).new nL
    have Ld : L ≠ d := Z.not nL
    have hL : (upd H L (.lst [.int (t.length : Nat), .int (t'.length : Nat)])) L = some (.lst [.int (t.length : Nat), .int (t'.length : Nat)]) := upd_same
    generalize upd H L (.lst [.int (t.length : Nat), .int (t'.length : Nat)]) = H1 at Z1 S1 hL ⊢
    refine ⟨_, rfl, L, rfl, ⟨_, SqL.of hL⟩, fun D nD => ?_⟩
    have Dd : D ≠ d := Z1.not nD
    refine lc_list (K := K) (a := L) (xs := [.int (t.length : Nat), .int (t'.length : Nat)]) (fun i H9 => ∃ (vs : List V) (rs : List (List Nat)), H9 D = some (.lst vs) ∧ RowsA H9 vs rs ∧ rs.length = i ∧ (∀ (j : Nat) (r : List Nat), rs[j]? = some r → ∃ n, [t.length, t'.length][j]? = some n ∧ Leads r n) ∧ Dz H9 d ∧ Still d H1 H9)
      ⟨[], [], upd_same, ⟨rfl, fun i r e => by cases e⟩, rfl, (fun j r e => by cases e), Z1.new nD, (Still.refl d H1).new nD⟩ (fun i H9 _ ⟨_, _, _, _, _, _, _, z⟩ => SqL.of (z _ _ Ld hL)) ?_ ?_
    · rintro i v H9 hv ⟨vs, rs, w1, w2, w3, w4, w5, w6⟩
      have pick : ∃ n : Nat, v = .int (n : Nat) ∧ [t.length, t'.length][i]? = some n ∧ 1 ≤ n ∧ n ≤ 4 := by
        match i, hv with
        | 0, hv => exact ⟨_, (Option.some.inj hv).symm, rfl, t1, t4⟩
        | 1, hv => exact ⟨_, (Option.some.inj hv).symm, rfl, u1, u4⟩
      obtain ⟨n, rfl, pn, n1, n4⟩ := pick
      have i2 : i < 2 := (List.getElem?_eq_some_iff.mp hv).1
      refine ⟨rfl, tYes_if ?_⟩
      refine ⟨_, rfl, n, rfl, by omega, by omega, fun D2 nD2 => ?_⟩
      have D2d : D2 ≠ d := w5.not nD2
      refine lc_range (lo := 0) (n := (n : Int).toNat) (fun j H10 => ∃ xs : List Nat, H10 D2 = some (.lst (nts xs)) ∧ xs.length = j ∧ (∀ x ∈ xs, x < n) ∧ Dz H10 d ∧ Still d H9 H10)
        ⟨[], upd_same, rfl, (fun z hz => by cases hz), w5.new nD2, (Still.refl d H9).new nD2⟩ ?_ ?_
      · rintro j H10 hj ⟨xs, x1, x2, x3, x4, x5⟩
        refine ⟨rfl, tYes_if ?_⟩
        refine ⟨_, rfl, _, rfl, d, n, rfl, x4, by omega, by omega, fun z H11 zn Z11 S11 => ?_⟩
        have x1' := S11 _ _ D2d x1
        refine ⟨nts xs, x1', ?_, xs ++ [z], ?_, by rw [List.length_append, x2]; rfl, fun y hy => ?_, Z11.ne D2d, (x5.trans S11).at_new nD2⟩
        · rw [nts_length, x2]
          exact Nat.lt_of_lt_of_le (show j < 1000 by omega) (by decide)
        · rw [upd_same]
          exact nts_append xs z
        · rcases List.mem_append.mp hy with h | h
          · exact x3 y h
          · rw [List.mem_singleton.mp h]
            exact zn
      · rintro H10 ⟨xs, x1, x2, x3, x4, x5⟩
        have en : (n : Int).toNat = n := by omega
        rw [en] at x2
        refine ⟨D2, _, rfl, .inl ⟨SqL.of x1, fun l nl => ?_⟩⟩
        have lD : l ≠ D := fun z => by
          rw [z, x5 _ _ Dd w1] at nl
          cases nl
        have ld : l ≠ d := x4.not nl
        have keepT : ∀ b ys, H9 b = some (.tup ys) → H10 b = some (.tup ys) := fun b ys h => x5 _ _ (fun z => by
          obtain ⟨c1, c2, c3, c4, _⟩ := w5
          rw [z, c4] at h
          cases h) h
        refine ⟨vs, keep_new (x5 _ _ Dd w1) nl, ?_, vs ++ [.ref l], rs ++ [xs], upd_same, ?_, by rw [List.length_append, w3]; rfl, fun j r e => ?_, ?_, ?_⟩
        · rw [w2.1, w3]
          exact Nat.lt_of_lt_of_le (show i < 1000 by omega) (by decide)
        · refine (w2.to fun b ys h => ?_).snoc ?_
          · rw [upd_ne (ne_of h w1 (fun z => by cases z))]
            exact keep_new (keepT b ys h) nl
          · rw [upd_ne lD]
            exact upd_same
        · rcases snoc_at e with e | ⟨rfl, rfl⟩
          · exact w4 j r e
          · exact ⟨n, by rw [w3]; exact pn, x2, x3⟩
        · exact (x4.new nl).ne Dd
        · exact ((w6.trans x5).new nl).at_new nD
    · rintro H9 ⟨vs, rs, w1, w2, w3, w4, w5, w6⟩
      have w3 : rs.length = 2 := w3
      match rs, w3, w2, w4 with
      | [fs, gs], _, w2, w4 =>
        obtain ⟨r1, e1, f1⟩ := w2.2 0 _ rfl
        obtain ⟨r2, e2, f2⟩ := w2.2 1 _ rfl
        obtain ⟨n1, g1, L1⟩ := w4 0 _ rfl
        obtain ⟨n2, g2, L2⟩ := w4 1 _ rfl
        cases g1
        cases g2
        have ev : vs = [.ref r1, .ref r2] := by
          match vs, w2.1, e1, e2 with
          | [x1, x2], _, e1, e2 =>
            cases e1
            cases e2
            rfl
        subst ev
        refine ⟨D, _, rfl, .inl ⟨SqL.of w1, fun l nl => ?_⟩⟩
        exact k l fs gs _ ⟨r1, r2, SqT.of upd_same, SqT.of (keep_new f1 nl), SqT.of (keep_new f2 nl)⟩ L1 L2 (w5.new nl) ((S1.trans w6).new nl)
end
end M3

set_option Elab.async false
set_option linter.all false
/-! # Tuples of numbers as data -/
namespace M3
open PySem L2
theorem shaped_dN (es : List Nat) : SeqAt.shaped (dN es) = true := by
  unfold SeqAt.shaped
  have h1 : (dN es).canLay0 = true := lay_dN es
  have h2 : (dN es).depth ≤ 64 := by
    have := dep_dN es
    omega
  rw [h1, decide_eq_true h2]
  rfl
end M3

set_option Elab.async false
set_option linter.all false
set_option maxRecDepth 100000
set_option maxHeartbeats 8000000
/-! # _law_maps_right -/
namespace M3
open PySem L2
abbrev sMapsRight : Stmt := top 76
abbrev nMapsRight : List Str := ["dice", "one", "other", "left", "right", "first", "second", "told", "side", "state"]
theorem scMapsRight : FnScope nMapsRight ["dice", "one", "other", "left", "right"] (defScope sMapsRight) := ⟨rfl, rfl, rfl, by decide +kernel, rfl, by decide +kernel, by decide +kernel⟩
def dPair (a b : Nat) : PyData := .tuple [.int (a : Nat), .int (b : Nat)]
theorem shaped_pair (a b : Nat) : SeqAt.shaped (dPair a b) = true := shaped_dN [a, b]
theorem eqv_pair (a b : Nat) : (dPair a b).eqv (dPair a b) = true := by
  have := eqv_dN [a, b] [a, b]
  rw [decide_eq_true rfl] at this
  exact this
def dBools (a b : Bool) : PyData := .tuple [.bool a, .bool b]
theorem shaped_bools (a b : Bool) : SeqAt.shaped (dBools a b) = true := by
  cases a <;> cases b <;> decide +kernel
theorem eqv_bools (a b : Bool) : (dBools a b).eqv (dBools a b) = true := by
  cases a <;> cases b <;> decide +kernel
theorem MapAt.still {K : PySem.W.Frag} {d : Addr} {H H' : Hp} {a : Addr} {fs gs : List Nat} (h : MapAt K H a fs gs) (z : Dz H d) (s : Still d H H') : MapAt K H' a fs gs := by
  obtain ⟨u, v, h1, h2, h3⟩ := h
  exact ⟨u, v, sqt_still s z h1, sqt_still s z h2, sqt_still s z h3⟩
def spMapsRight (K : PySem.W.Frag) (C : Addr) : Sp := fun vs H Q _ => ∃ (d p q l r : Addr) (x : Str) (t t' : List (List Nat)) (es es' : List Nat) (m : Nat), vs = [.ref d, .ref p, .ref q, .ref l, .ref r] ∧ Dz H d ∧ Plain d H p x t es ∧ Plain d H q x t' es' ∧ Mach K C H l x t es ∧ Mach K C H r x t' es' ∧ Right x t es m ∧ Right x t' es' m ∧
  ∀ H' : Hp, Dz H' d → Still d H H' → Q (.bl true) H'
section
variable {P : Program} {w : World} {K : PySem.W.Frag} {mg : Str → Option Value} {base : Heap} {C : Addr}
theorem ok_mapsright {f : Addr} {fd : FuncData} (F : Fun K "_law_maps_right" "_law_maps_right" sMapsRight f fd) (cW : FnC P w K mg base 2 "_law_wild" ["dice", "one", "other"] (spWild K)) (cP : FnC P w K mg base 5 "product" ["one", "other", "left", "right"] (spProduct K C))
    (cR : FnC P w K mg base 5 "rounds" ["one", "other", "leads"] (spRounds K C)) (cL : FnC P w K mg base 1 "_law_rounds" ["step"] (spLawRounds K)) (cH : FnC P w K mg base 5 "hits" ["one", "other", "leads"] (spHits K C)) (M : TxM mg) :
    FnOk P w K mg base CX0 6 f fd ["dice", "one", "other", "left", "right"] (spMapsRight K C) := by
  refine F.ok scMapsRight (fun vs H Q E h => ?_) (fun cdv A outer s H vs Q E hr h => ?_)
  · obtain ⟨d, p, q, l, r, x, t, t', es, es', m, rfl, _⟩ := h
    rfl
  · obtain ⟨d, p, q, l, r, x, t, t', es, es', m, rfl, Z, P1, P2, M1, M2, R1, R2, k⟩ := h
    have hu := hu_of hr
    have hr2 : Room 2 _ := hr.mono (by decide)
    have hr1 : Room 1 _ := hr.mono (by decide)
    refine ⟨_, pss_cons (ps_asg (pe_tup (pa_cons (pe_call cW.G hr2 rfl cW.m cW.kp cW.b .nil pass0 (pa_cons (pv 0) (pa_cons (pv 1) (pa_cons (pv 2) pa_nil)))) (pa_cons (pe_call cW.G hr2 rfl cW.m cW.kp cW.b .nil pass0 (pa_cons (pv 0) (pa_cons (pv 1) (pa_cons (pv 2) pa_nil)))) pa_nil)))
        (pg_tup rfl (pgs_cons (pg_name (i := 5) scMapsRight.nd rfl (Or.inl rfl)) (pgs_cons (pg_name (i := 6) scMapsRight.nd rfl (Or.inr rfl)) pgs_nil))))
      (pss_cons (ps_set (i := 7) scMapsRight.nd rfl (Or.inl rfl) (pe_call cP.G hr rfl cP.m cP.kp cP.b .nil pass0 (pa_cons (pv 3) (pa_cons (pv 4) (pa_cons (pv 5) (pa_cons (pv 6) pa_nil))))))
      (pss_cons (ps_for PassesOwn.never rfl (pi_range1 rfl M.range (pa_cons pe_int pa_nil)) (pg_name (i := 8) scMapsRight.nd rfl (Or.inr rfl))
        (pss_one (ps_if (pt_cmpR (op_neD hr.units) (pe_ix ix_tup (pv 7) (pv 8) (fun _ _ => rfl)) (pe_callTy call_tuple_of (by rfl) M.tuple (by decide +kernel) (pa_cons (pe_lc (own := [("state", 9)]) (g := gName 9) (tt := tYes) (te := tOp (rIxT K) (tOp (rIxT K) (tVar 6) (tVar 8)) (tVar 9)) rfl scMapsRight.nd (pi_tup (pe_ix ix_tup (pv 5) (pv 8) (fun _ _ => rfl))) (blkOk_by (N := nMapsRight) (sc := defScope sMapsRight) (by decide +kernel)) (fun _ _ _ _ _ => pg_name (i := 9) scMapsRight.nd rfl (Or.inl rfl)) (fun _ _ _ _ _ => pts_nil)
          (fun _ _ _ _ _ => pe_ix ix_tup (pe_ix ix_tup (pv 6) (pv 8) (fun _ _ => rfl)) (pv 9) (fun _ _ => rfl))) pa_nil)) (nomark _)) (pss_one (ps_ret pe_bl)) pss_nil)))
      (pss_cons (ps_if (PW.pt (pw_or (pt_cmpR (op_neD hr.units) (pe_call cR.G hr rfl cR.m cR.kp cR.b .nil pass0 (pa_cons (pv 3) (pa_cons (pv 4) (pa_cons (pv 5) pa_nil)))) (pe_call cL.G hr1 rfl cL.m cL.kp cL.b .nil pass0 (pa_cons (pv 5) pa_nil)) (nomark _))
          (pw_or1 (pt_cmpR (op_neD hr.units) (pe_call cR.G hr rfl cR.m cR.kp cR.b .nil pass0 (pa_cons (pv 3) (pa_cons (pv 4) (pa_cons (pv 7) pa_nil)))) (pe_call cL.G hr1 rfl cL.m cL.kp cL.b .nil pass0 (pa_cons (pv 7) pa_nil)) (nomark _))))) (pss_one (ps_ret pe_bl)) pss_nil)
      (pss_one (ps_ret (pe_cmpR (op_eqD hr.units) (pe_call cH.G hr rfl cH.m cH.kp cH.b .nil pass0 (pa_cons (pv 3) (pa_cons (pv 4) (pa_cons (pv 5) pa_nil)))) (pe_tup (pa_cons (pe_cmpR op_in_seq (pe_ix ix_tup (pe_ix ix_tup (pv 5) pe_int (fun _ _ => rfl)) pe_int (fun _ _ => rfl)) (pe_dget hu (pv 1) pe_str (fun _ _ => rfl)) (by rfl))
          (pa_cons (pe_cmpR op_in_seq (pe_ix ix_tup (pe_ix ix_tup (pv 5) pe_int (fun _ _ => rfl)) pe_int (fun _ _ => rfl)) (pe_dget hu (pv 2) pe_str (fun _ _ => rfl)) (by rfl)) pa_nil))) (nomark _))))))), ?_⟩
    refine ⟨_, rfl, _, rfl, _, rfl, d, p, q, x, x, t, t', es, es', rfl, Z, P1, P2, R1.t1, R1.t4, R2.t1, R2.t4, fun a1 f1 g1 H1 m1 L1 L1' Z1 S1 => ?_⟩
    refine ⟨_, rfl, _, rfl, _, rfl, d, p, q, x, x, t, t', es, es', rfl, Z1, P1.still Z S1, P2.still Z S1, R1.t1, R1.t4, R2.t1, R2.t4, fun a2 f2 g2 H2 m2 L2 L2' Z2 S2 => ⟨(by show 2 ≤ sizeLine; decide), fun T nT => ⟨T, _, rfl, SqT.of upd_same, rfl, _, _, rfl, _, _, rfl, rfl, ?_⟩⟩⟩
    have SA : Still d H (upd H2 T (.tup [.ref a1, .ref a2])) := (S1.trans S2).new nT
    have ZA : Dz (upd H2 T (.tup [.ref a1, .ref a2])) d := Z2.new nT
    have mA := ((m1.still Z1 S2).still Z2 ((Still.refl d H2).new (u := .tup [.ref a1, .ref a2]) nT))
    have mB := m2.still Z2 ((Still.refl d H2).new (u := .tup [.ref a1, .ref a2]) nT)
    generalize upd H2 T (.tup [.ref a1, .ref a2]) = H3 at SA ZA mA mB ⊢
    clear nT m1 m2 Z1 Z2 S1 S2
    have MA := M1.still Z SA
    have MB := M2.still Z SA
    have PA := P1.still Z SA
    have PB := P2.still Z SA
    have t4 := R1.t4
    have u4 := R2.t4
    refine ⟨_, rfl, _, rfl, _, rfl, _, rfl, l, r, a1, a2, x, t, t', es, es', f1, g1, f2, g2, rfl, MA, MB, by omega, by omega, mA, mB, L1, L2, L1', L2', fun a3 H4 mC s4 => ?_⟩
    refine ⟨2, rfl, by decide, by decide, for_range (lo := 0) (n := 2) (fun i σ H' => (∃ v8 : Option V, σ = [some (.ref d), some (.ref p), some (.ref q), some (.ref l), some (.ref r), some (.ref a1), some (.ref a2), some (.ref a3), v8, none]) ∧ Same H4 H') ⟨⟨_, rfl⟩, Same.refl H4⟩ ?_ ?_⟩
    · rintro i σ H5 hi ⟨⟨v8, rfl⟩, s5⟩
      have s45 := s4.trans s5
      obtain ⟨cu, cv, c1, c2, c3⟩ := mC.same s5
      obtain ⟨au, av, e1, e2, e3⟩ := mA.same s45
      obtain ⟨bu, bv, h1, h2, h3⟩ := mB.same s45
      have pick : ∃ (ca cb : List Nat) (ra rb rc : Addr), atI [V.ref au, V.ref av] (0 + (i : Int)) = some (.ref ra) ∧ atI [V.ref bu, V.ref bv] (0 + (i : Int)) = some (.ref rb) ∧ atI [V.ref cu, V.ref cv] (0 + (i : Int)) = some (.ref rc) ∧ SqT K H5 ra (nts ca) ∧ SqT K H5 rb (nts cb) ∧ SqT K H5 rc (nts (comp ca cb)) ∧ (∀ z ∈ ca, z < cb.length) ∧ ca.length ≤ 4 := by
        match i, hi with
        | 0, _ => exact ⟨f1, f2, au, bu, cu, rfl, rfl, rfl, e2, h2, c2, by rw [L2.1]; exact L1.2, by rw [L1.1]; exact t4⟩
        | 1, _ => exact ⟨g1, g2, av, bv, cv, rfl, rfl, rfl, e3, h3, c3, by rw [L2'.1]; exact L1'.2, by rw [L1'.1]; exact u4⟩
      obtain ⟨ca, cb, ra, rb, rc, p1, p2, p3, p4, p5, p6, p7, p8⟩ := pick
      refine ⟨_, rfl, _, rfl, a3, _, _, .ref rc, rfl, rfl, c1, p3, ?_⟩
      refine ⟨_, rfl, _, rfl, a1, _, _, .ref ra, rfl, rfl, e1, p1, ra, rfl, ⟨_, p4⟩, fun D nD => ?_⟩
      have sm : ∀ {H9 : Hp}, (∀ b' o, b' ≠ D → H5 b' = some o → H9 b' = some o) → Same H5 H9 := fun z b' o h => z b' o (fun q => by rw [q, nD] at h; cases h) h
      refine lc_tup (K := K) (a := ra) (xs := nts ca) (fun e H10 => H10 D = some (.lst (nts (comp (ca.take e) cb))) ∧ ∀ b' o, b' ≠ D → H5 b' = some o → H10 b' = some o)
        ⟨upd_same, fun b' o hb' h => keep_new h nD⟩ (fun e H10 _ ⟨_, z⟩ => sqt_same (sm z) p4) ?_ ?_
      · rintro e w' H10 hv ⟨q1, q2⟩
        have he : e < ca.length := by
          have := (List.getElem?_eq_some_iff.mp hv).1
          rw [nts_length] at this
          exact this
        unfold nts at hv
        rw [List.getElem?_map, List.getElem?_eq_getElem he] at hv
        cases hv
        refine ⟨rfl, tYes_if ?_⟩
        have hlt := p7 ca[e] (List.getElem_mem he)
        have s10 := sm q2
        refine ⟨_, rfl, _, rfl, a2, _, _, .ref rb, rfl, rfl, sqt_same s10 h1, p2, _, rfl, rb, nts cb, _, _, rfl, rfl, sqt_same s10 p5, nts_at hlt, _, q1, ?_, ?_, fun b' o hb' h => by rw [upd_ne hb']; exact q2 b' o hb' h⟩
        · unfold comp
          rw [nts_length, List.length_map, List.length_take]
          exact Nat.lt_of_le_of_lt (show _ ≤ 1000 by omega) (by decide)
        · rw [upd_same]
          unfold comp nts
          rw [map_take_snoc he, List.map_append]
          rfl
      · rintro H10 ⟨q1, q2⟩
        have et : ca.take (nts ca).length = ca := by
          rw [nts_length]
          exact List.take_length
        rw [et] at q1
        refine ⟨D, _, rfl, .inl ⟨SqL.of q1, fun o no => ?_⟩⟩
        have s10 := sm q2
        refine ⟨dN (comp ca cb), dN (comp ca cb), .tup (sqt_same (Same.new s10 no) p6) (dp_nats _), .tup (SqT.of upd_same) (dp_nats _), shaped_dN _, shaped_dN _, _, rfl, ?_⟩
        rw [eqv_dN, decide_eq_true rfl]
        exact iteF ⟨⟨_, rfl⟩, s5.trans (Same.new s10 no)⟩
    · rintro σ H5 ⟨⟨v8, rfl⟩, s5⟩
      have s45 := s4.trans s5
      have LC := L1.comp L2
      have LC' := L1'.comp L2'
      refine ⟨_, rfl, _, rfl, _, rfl, l, r, a1, x, t, t', es, es', f1, g1, rfl, MA.same s45, MB.same s45, R1.t1, t4, R2.t1, u4, mA.same s45, L1, L1', fun r1 n b H6 h6 bn ap back s6 => ?_⟩
      have s46 := s45.trans s6
      refine ⟨_, rfl, a1, f1, g1, t.length, t'.length, n, b, rfl, mA.same s46, L1, L1', t4, u4, bn, ap, back, fun r2 H7 h7 s7 => ?_⟩
      have s47 := s46.trans s7
      refine ⟨dPair (max 1 b) (n - b), dPair (max 1 b) (n - b), .tup (SqT.of (s7 _ _ h6)) (.cons (.int _) (.cons (.int _) .nil)), .tup (SqT.of h7) (.cons (.int _) (.cons (.int _) .nil)), shaped_pair _ _, shaped_pair _ _, _, rfl, ?_⟩
      rw [eqv_pair]
      refine iteF ?_
      have s57 := (s5.trans s6).trans s7
      refine ⟨_, rfl, _, rfl, _, rfl, l, r, a3, x, t, t', es, es', comp f1 f2, comp g1 g2, rfl, MA.same s47, MB.same s47, R1.t1, t4, R2.t1, u4, mC.same s57, LC, LC', fun r3 n' b' H8 h8 bn' ap' back' s8 => ?_⟩
      have s58 := s57.trans s8
      refine ⟨_, rfl, a3, comp f1 f2, comp g1 g2, t.length, t'.length, n', b', rfl, mC.same s58, LC, LC', t4, u4, bn', ap', back', fun r4 H9 h9 s9 => ?_⟩
      refine ⟨dPair (max 1 b') (n' - b'), dPair (max 1 b') (n' - b'), .tup (SqT.of (s9 _ _ h8)) (.cons (.int _) (.cons (.int _) .nil)), .tup (SqT.of h9) (.cons (.int _) (.cons (.int _) .nil)), shaped_pair _ _, shaped_pair _ _, _, rfl, ?_⟩
      rw [eqv_pair]
      refine iteF ?_
      have s49 := (s47.trans s8).trans s9
      refine ⟨_, rfl, _, rfl, _, rfl, l, r, a1, x, t, t', es, es', f1, g1, rfl, MA.same s49, MB.same s49, R1.t1, by omega, R2.t1, by omega, mA.same s49, L1, L1', fun r5 HA hA sA => ?_⟩
      have s4A := s49.trans sA
      obtain ⟨au, av, e1, e2, e3⟩ := mA.same s4A
      obtain ⟨⟨a4, b4, us, hp, _, _, _, _, hb⟩, _, _, _⟩ := PA.still ZA (same_still s4A)
      obtain ⟨⟨a5, b5, us', hq, _, _, _, _, hb'⟩, _, _, _⟩ := PB.still ZA (same_still s4A)
      refine ⟨_, rfl, a1, _, _, .ref au, rfl, rfl, e1, rfl, au, nts f1, ((0 : Nat) : Int), _, rfl, rfl, e2, nts_at (by rw [L1.1]; exact R1.t1), _, rfl, p, _, rfl, get_e hp, b4, nts es, rfl, .inl (SqL.of hb), rfl, flat_nts es, ?_⟩
      refine ⟨_, rfl, a1, _, _, .ref av, rfl, rfl, e1, rfl, av, nts g1, ((0 : Nat) : Int), _, rfl, rfl, e3, nts_at (by rw [L1'.1]; exact R2.t1), _, rfl, q, _, rfl, get_e hq, b5, nts es', rfl, .inl (SqL.of hb'), rfl, flat_nts es', ?_⟩
      refine ⟨(by show 2 ≤ sizeLine; decide), fun T nT => ?_⟩
      have e9 : [V.bl (if false = true then !inV (.int ((f1.getD 0 0 : Nat) : Int)) (nts es) else inV (.int ((f1.getD 0 0 : Nat) : Int)) (nts es)), V.bl (inV (.int ((g1.getD 0 0 : Nat) : Int)) (nts es'))] = [V.bl (decide (f1.getD 0 0 ∈ es)), V.bl (decide (g1.getD 0 0 ∈ es'))] := by
        rw [inV_nts, inV_nts]
        rfl
      have e9' := e9
      generalize hT : upd HA T _ = HB
      have hB : HB T = some (.tup [V.bl (decide (f1.getD 0 0 ∈ es)), V.bl (decide (g1.getD 0 0 ∈ es'))]) := by
        rw [← hT, upd_same]
        exact congrArg (fun z => some (HO.tup z)) e9
      have sB : Same HA HB := by
        rw [← hT]
        exact Same.new (Same.refl HA) nT
      clear hT
      refine ⟨dBools (decide (f1.getD 0 0 ∈ es)) (decide (g1.getD 0 0 ∈ es')), dBools (decide (f1.getD 0 0 ∈ es)) (decide (g1.getD 0 0 ∈ es')), .tup (SqT.of (sB _ _ hA)) (.cons (.bl _) (.cons (.bl _) .nil)), .tup (SqT.of hB) (.cons (.bl _) (.cons (.bl _) .nil)), shaped_bools _ _, shaped_bools _ _, ?_⟩
      rw [eqv_bools]
      exact k HB (same_dz (s4A.trans sB) ZA) (SA.trans (same_still (s4A.trans sB)))
end
end M3

set_option Elab.async false
set_option linter.all false
set_option maxRecDepth 100000
set_option maxHeartbeats 4000000
/-! # A text, many times over (no law's own) -/
namespace NvM
open PySem L2
/-- s * n -/
def times (s : Str) (n : Nat) : Str := ⟨(List.replicate n s.cps).foldl (· ++ ·) #[]⟩
theorem fold_toList (l : List (Array Nat)) : ∀ a : Array Nat, (l.foldl (· ++ ·) a).toList = a.toList ++ (l.map Array.toList).flatten := by
  induction l with
  | nil => intro a; simp
  | cons b l ih => intro a; rw [List.foldl_cons, ih]; simp
theorem times_toList (s : Str) (n : Nat) : (times s n).cps.toList = (List.replicate n s.cps.toList).flatten := by
  show ((List.replicate n s.cps).foldl (· ++ ·) #[]).toList = _
  rw [fold_toList, List.map_replicate]
  simp
theorem str_eq {a b : Str} (h : a.cps.toList = b.cps.toList) : a = b := by
  obtain ⟨a⟩ := a
  obtain ⟨b⟩ := b
  congr 1
  exact Array.ext' h
theorem times_length (s : Str) (n : Nat) : (times s n).length = n * s.length := by
  show (times s n).cps.size = n * s.cps.size
  rw [← Array.length_toList, times_toList]
  simp
def rRepStr : R2 := fun x y H Q => ∃ (i : Str) (n : Nat), x = .str i ∧ y = .int (n : Nat) ∧ i.length * n ≤ 1000000 ∧ n ≤ 1000000 ∧ i.length ≤ 1000000 ∧ Q (.str (times i n)) H
theorem op_repStr {X : Cx} : OpR X (binaryOp .Mult) rRepStr := by
  intro pins s σ H x y v u Q I rx ry h
  obtain ⟨i, n, rfl, rfl, hz, hn, hi, q⟩ := h
  obtain ⟨t, rfl⟩ := rx
  obtain ⟨t', rfl⟩ := ry
  have l : sizeLine = 16777216 := sizeLine_eq
  refine PySem.P.mul_str ?_ ?_ ?_ ?_
  · rw [decide_eq_false (by omega), decide_eq_false (by omega)]
    rfl
  · intro h1 h2 h3
    have h4 : (1000000 : Int) ≤ (2 ^ 63 - 1) / (n : Int) := Int.le_ediv_of_mul_le (by omega) (by omega)
    omega
  · intro h1 h2
    unfold Builtin.Str.tooLong
    rw [Int.toNat_natCast]
    exact decide_eq_false (by omega)
  · by_cases h1 : ((n : Nat) : Int) < 1
    · rw [if_pos h1]
      have n0 : n = 0 := by omega
      subst n0
      have e : times i 0 = Str.empty := by rfl
      rw [e] at q
      exact ⟨by decide, .str Str.empty, H, I.tok _, ⟨_, rfl⟩, q⟩
    · rw [if_neg h1]
      by_cases h2 : (((n : Nat) : Int) == 1 || i.length == 0) = true
      · rw [if_pos h2]
        have e : times i n = i := by
          refine str_eq ?_
          rw [times_toList]
          rcases Bool.or_eq_true_iff.mp h2 with h | h
          · have h := eq_of_beq h
            have n1 : n = 1 := by omega
            subst n1
            simp
          · have h := eq_of_beq h
            have h0 : i.cps.toList = [] := by
              have h : i.cps.size = 0 := h
              rw [← Array.length_toList] at h
              exact List.eq_nil_of_length_eq_zero h
            rw [h0]
            simp
        rw [e] at q
        exact ⟨.str i, H, I, ⟨_, rfl⟩, q⟩
      · rw [if_neg h2, Int.toNat_natCast]
        refine ⟨?_, .str (times i n), H, I.tok _, ⟨_, rfl⟩, q⟩
        show (times i n).length ≤ sizeLine
        rw [times_length, Nat.mul_comm]
        omega
end NvM

set_option Elab.async false
set_option linter.all false
set_option maxRecDepth 100000
set_option maxHeartbeats 8000000
/-! # _law_right (k29) -/
namespace M3
open PySem L2 NdefX
abbrev sRight : Stmt := top 77
abbrev nRight : List Str := ["dice", "letters", "turn", "one", "other", "left", "right", "words", "maps", "both", "later", "number", "period", "spot", "word"]
theorem scRight : FnScope nRight ["dice"] (defScope sRight) := ⟨rfl, rfl, rfl, by decide +kernel, rfl, by decide +kernel, by decide +kernel⟩
theorem act_app {t : List (List Nat)} {x : Str} {m : Nat} (tb : IsTab t t.length m) (hm : x.cps.toList.length = m) {a b : List Nat} (ha : ∀ c ∈ a, c ∈ x.cps.toList) : act t x (a ++ b) = comp (act t x a) (act t x b) := by
  show (List.range t.length).map (fun q => goes t x q (a ++ b)) = ((List.range t.length).map fun q => goes t x q a).map fun z => (act t x b).getD z 0
  rw [List.map_map]
  refine List.map_congr_left fun q hq => ?_
  have hq := List.mem_range.mp hq
  show goes t x q (a ++ b) = (act t x b).getD (goes t x q a) 0
  rw [act_at (goes_lt tb hm _ _ hq ha)]
  unfold goes
  rw [List.foldl_append]
theorem act_rep {t : List (List Nat)} {x : Str} {m : Nat} (tb : IsTab t t.length m) (hm : x.cps.toList.length = m) {a : List Nat} (ha : ∀ c ∈ a, c ∈ x.cps.toList) : ∀ n, act t x (List.replicate n a).flatten = pw (act t x a) n
  | 0 => by
    show act t x [] = List.range (act t x a).length
    rw [act_nil]
    unfold act
    rw [List.length_map, List.length_range]
  | n + 1 => by
    rw [List.replicate_succ', List.flatten_append]
    have e : ([a] : List (List Nat)).flatten = a := by simp
    rw [e, act_app tb hm (fun c hc => ?_), act_rep tb hm ha n]
    · rfl
    · obtain ⟨l, hl, hc⟩ := List.mem_flatten.mp hc
      rw [List.eq_of_mem_replicate hl] at hc
      exact ha c hc
theorem comp_assoc {a b c : List Nat} (h : ∀ z ∈ a, z < b.length) : comp (comp a b) c = comp a (comp b c) := by
  show (a.map fun q => b.getD q 0).map (fun q => c.getD q 0) = a.map fun q => (comp b c).getD q 0
  rw [List.map_map]
  exact List.map_congr_left fun q hq => (comp_at (h q hq)).symm
theorem act_leads {t : List (List Nat)} {x : Str} {m : Nat} (tb : IsTab t t.length m) (hm : x.cps.toList.length = m) {a : List Nat} (ha : ∀ c ∈ a, c ∈ x.cps.toList) : Leads (act t x a) t.length := by
  refine ⟨?_, act_lt tb hm ha⟩
  unfold act
  rw [List.length_map, List.length_range]
theorem isw_app {x a b : Str} (ha : IsW x a) (hb : IsW x b) : IsW x (a ++ b) := fun c hc => by
  have e : (a ++ b).cps.toList = a.cps.toList ++ b.cps.toList := by
    show (a.cps ++ b.cps).toList = _
    simp
  rw [e] at hc
  rcases List.mem_append.mp hc with h | h
  · exact ha c h
  · exact hb c h
theorem app_toList (a b : Str) : (a ++ b).cps.toList = a.cps.toList ++ b.cps.toList := by
  show (a.cps ++ b.cps).toList = _
  simp
theorem isw_times {x a : Str} (ha : IsW x a) (n : Nat) : IsW x (NvM.times a n) := fun c hc => by
  rw [NvM.times_toList] at hc
  obtain ⟨l, hl, hc⟩ := List.mem_flatten.mp hc
  rw [List.eq_of_mem_replicate hl] at hc
  exact ha c hc
theorem str_len_app (a b : Str) : (a ++ b).length = a.length + b.length := by
  show (a.cps ++ b.cps).size = a.cps.size + b.cps.size
  exact Array.size_append
def spRight (T : List NTab) : Sp := fun vs H Q _ => ∃ d : Addr, vs = [.ref d] ∧ Dz H d ∧ TabsN T H ∧ ∀ H' : Hp, Dz H' d → Stl T d H H' → Q (.bl true) H'
section
variable {P : Program} {w : World} {K : PySem.W.Frag} {mg : Str → Option Value} {base : Heap} {C : Addr}
theorem ok_right {T : List NTab} {f : Addr} {fd : FuncData} (F : Fun K "_law_right" "_law_right" sRight f fd)
    (cR : FnC P w K mg base 1 "_law_roll" ["dice", "total"] spDraw) (cL : FnC P w K mg base 3 "_law_letters" ["dice", "total"] spLetters) (cM : FnC P w K mg base 4 "_law_machine" ["dice", "letters", "states"] spMachineF)
    (cK : FnC P w K mg base 6 "_law_made_machine" ["plain"] (spMade K C)) (cX : FnC P w K mg base 6 "_law_maps_right" ["dice", "one", "other", "left", "right"] (spMapsRight K C)) (cW : FnC P w K mg base 3 "_law_word" ["dice", "letters", "most"] spWord)
    (cI : FnC P w K mg base 6 "image" ["one", "other", "word"] (spImageOf K T C)) (cP : FnC P w K mg base 5 "product" ["one", "other", "left", "right"] (spProduct K C)) (cO : FnC P w K mg base 5 "rounds" ["one", "other", "leads"] (spRounds K C)) (cH : FnC P w K mg base 5 "hits" ["one", "other", "leads"] (spHits K C))
    (cA : FnC P w K mg base 2 "_law_has" ["plain", "word"] (spHas K)) (M : TxM mg) :
    FnOk P w K mg base CX0 7 f fd ["dice"] (spRight T) := by
  refine F.ok scRight (fun vs H Q E h => ?_) (fun cdv A outer s H vs Q E hr h => ?_)
  · obtain ⟨d, rfl, _⟩ := h
    rfl
  · obtain ⟨d, rfl, Z, tabs, k⟩ := h
    have hu := hu_of hr
    have hr5 : Room 5 _ := hr.mono (by decide)
    have hr4 : Room 4 _ := hr.mono (by decide)
    have hr3 : Room 3 _ := hr.mono (by decide)
    have hr2 : Room 2 _ := hr.mono (by decide)
    have hr1 : Room 1 _ := hr.mono (by decide)
    refine ⟨_, pss_cons (ps_set (i := 1) scRight.nd rfl (Or.inr rfl) (pe_call cL.G hr3 rfl cL.m cL.kp cL.b .nil pass0 (pa_cons (pv 0) (pa_cons (pe_op op_add pe_int (pe_call cR.G hr1 rfl cR.m cR.kp cR.b .nil pass0 (pa_cons (pv 0) (pa_cons pe_int pa_nil)))) pa_nil))))
      (pss_cons (ps_asg (pe_lc (own := [("turn", 2)]) (g := gName 2) (tt := tYes) rfl scRight.nd (pi_range1 rfl M.range (pa_cons pe_int pa_nil)) (blkOk_by (N := nRight) (sc := defScope sRight) (by decide +kernel)) (fun _ _ _ _ _ => pg_name (i := 2) scRight.nd rfl (Or.inl rfl)) (fun _ _ _ _ _ => pts_nil)
          (fun _ _ _ _ _ => pe_call cM.G hr4 rfl cM.m cM.kp cM.b .nil pass0 (pa_cons (pv 0) (pa_cons (pv 1) (pa_cons pe_int pa_nil))))) (pg_lst rfl (pgs_cons (pg_name (i := 3) scRight.nd rfl (Or.inl rfl)) (pgs_cons (pg_name (i := 4) scRight.nd rfl (Or.inl rfl)) pgs_nil))))
      (pss_cons (ps_asg (pe_tup (pa_cons (pe_call cK.G hr rfl cK.m cK.kp cK.b .nil pass0 (pa_cons (pv 3) pa_nil)) (pa_cons (pe_call cK.G hr rfl cK.m cK.kp cK.b .nil pass0 (pa_cons (pv 4) pa_nil)) pa_nil))) (pg_tup rfl (pgs_cons (pg_name (i := 5) scRight.nd rfl (Or.inr rfl)) (pgs_cons (pg_name (i := 6) scRight.nd rfl (Or.inr rfl)) pgs_nil))))
      (pss_cons (ps_for PassesOwn.never rfl (pi_range1 rfl M.range (pa_cons pe_int pa_nil)) (pg_name (i := 2) scRight.nd rfl (Or.inl rfl))
        (pss_cons (ps_if (pt_not (pt_val (pe_call cX.G hr rfl cX.m cX.kp cX.b .nil pass0 (pa_cons (pv 0) (pa_cons (pv 3) (pa_cons (pv 4) (pa_cons (pv 5) (pa_cons (pv 6) pa_nil)))))))) (pss_one (ps_ret pe_bl)) pss_nil)
        (pss_cons (ps_setLc (i := 7) (own := [("spot", 13)]) (g := gName 13) (tt := tYes) rfl scRight.nd rfl rfl (by rfl) (pi_range1 rfl M.range (pa_cons pe_int pa_nil)) (blkOk_by (N := nRight) (sc := defScope sRight) (by decide +kernel)) (fun _ _ _ _ _ => pg_name (i := 13) scRight.nd rfl (Or.inl rfl)) (fun _ _ _ _ _ => pts_nil)
          (fun _ _ _ _ _ => pe_call cW.G hr3 rfl cW.m cW.kp cW.b .nil pass0 (pa_cons (pv 0) (pa_cons (pv 1) (pa_cons pe_int pa_nil)))))
        (pss_cons (ps_setLc (i := 8) (own := [("word", 14)]) (g := gName 14) (tt := tYes) rfl scRight.nd rfl rfl (by rfl) (pi_list (pv 7)) (blkOk_by (N := nRight) (sc := defScope sRight) (by decide +kernel)) (fun _ _ _ _ _ => pg_name (i := 14) scRight.nd rfl (Or.inl rfl)) (fun _ _ _ _ _ => pts_nil)
          (fun _ _ _ _ _ => pe_call cI.G hr rfl cI.m cI.kp cI.b .nil pass0 (pa_cons (pv 5) (pa_cons (pv 6) (pa_cons (pv 14) pa_nil)))))
        (pss_cons (ps_set (i := 9) scRight.nd rfl (Or.inl rfl) (pe_call cP.G hr5 rfl cP.m cP.kp cP.b .nil pass0 (pa_cons (pv 5) (pa_cons (pv 6) (pa_cons (pe_ix ix_list (pv 8) pe_int (fun _ _ => rfl)) (pa_cons (pe_ix ix_list (pv 8) pe_int (fun _ _ => rfl)) pa_nil))))))
        (pss_cons (ps_if (pt_cmpR (op_neD hr.units) (pv 9) (pe_call cI.G hr rfl cI.m cI.kp cI.b .nil pass0 (pa_cons (pv 5) (pa_cons (pv 6) (pa_cons (pe_op op_add_str (pe_ix ix_list (pv 7) pe_int (fun _ _ => rfl)) (pe_ix ix_list (pv 7) pe_int (fun _ _ => rfl))) pa_nil)))) (nomark _)) (pss_one (ps_ret pe_bl)) pss_nil)
        (pss_cons (ps_set (i := 10) scRight.nd rfl (Or.inl rfl) (pe_call cP.G hr5 rfl cP.m cP.kp cP.b .nil pass0 (pa_cons (pv 5) (pa_cons (pv 6) (pa_cons (pe_ix ix_list (pv 8) pe_int (fun _ _ => rfl)) (pa_cons (pe_ix ix_list (pv 8) pe_int (fun _ _ => rfl)) pa_nil))))))
        (pss_cons (ps_if (pt_cmpR (op_neD hr.units) (pe_call cP.G hr5 rfl cP.m cP.kp cP.b .nil pass0 (pa_cons (pv 5) (pa_cons (pv 6) (pa_cons (pv 9) (pa_cons (pe_ix ix_list (pv 8) pe_int (fun _ _ => rfl)) pa_nil))))) (pe_call cP.G hr5 rfl cP.m cP.kp cP.b .nil pass0 (pa_cons (pv 5) (pa_cons (pv 6) (pa_cons (pe_ix ix_list (pv 8) pe_int (fun _ _ => rfl)) (pa_cons (pv 10) pa_nil))))) (nomark _)) (pss_one (ps_ret pe_bl)) pss_nil)
        (pss_cons (ps_asg (pe_call cO.G hr5 rfl cO.m cO.kp cO.b .nil pass0 (pa_cons (pv 5) (pa_cons (pv 6) (pa_cons (pe_ix ix_list (pv 8) pe_int (fun _ _ => rfl)) pa_nil)))) (pg_tup rfl (pgs_cons (pg_name (i := 11) scRight.nd rfl (Or.inl rfl)) (pgs_cons (pg_name (i := 12) scRight.nd rfl (Or.inl rfl)) pgs_nil))))
        (pss_cons (ps_if (pt_cmpR (op_neD hr.units) (pe_call cI.G hr rfl cI.m cI.kp cI.b .nil pass0 (pa_cons (pv 5) (pa_cons (pv 6) (pa_cons (pe_op NvM.op_repStr (pe_ix ix_list (pv 7) pe_int (fun _ _ => rfl)) (pv 11)) pa_nil)))) (pe_call cI.G hr rfl cI.m cI.kp cI.b .nil pass0 (pa_cons (pv 5) (pa_cons (pv 6) (pa_cons (pe_op NvM.op_repStr (pe_ix ix_list (pv 7) pe_int (fun _ _ => rfl)) (pe_op op_add (pv 11) (pv 12))) pa_nil)))) (nomark _)) (pss_one (ps_ret pe_bl)) pss_nil)
        (pss_one (ps_if (pt_cmpR (op_neD hr.units) (pe_call cH.G hr5 rfl cH.m cH.kp cH.b .nil pass0 (pa_cons (pv 5) (pa_cons (pv 6) (pa_cons (pe_ix ix_list (pv 8) pe_int (fun _ _ => rfl)) pa_nil)))) (pe_tup (pa_cons (pe_call cA.G hr2 rfl cA.m cA.kp cA.b .nil pass0 (pa_cons (pv 3) (pa_cons (pe_ix ix_list (pv 7) pe_int (fun _ _ => rfl)) pa_nil))) (pa_cons (pe_call cA.G hr2 rfl cA.m cA.kp cA.b .nil pass0 (pa_cons (pv 4) (pa_cons (pe_ix ix_list (pv 7) pe_int (fun _ _ => rfl)) pa_nil))) pa_nil))) (nomark _)) (pss_one (ps_ret pe_bl)) pss_nil))))))))))))
      (pss_one (ps_ret pe_bl))))), ?_⟩
    refine ⟨_, rfl, _, rfl, d, 2, rfl, Z, by decide, by decide, fun r H1 rn Z1 S1 => ⟨_, _, rfl, rfl, ?_⟩⟩
    have e1 : [V.ref d, V.int (1 + (r : Int))] = [V.ref d, V.int ((1 + r : Nat) : Int)] := by rw [show ((1 + r : Nat) : Int) = 1 + (r : Int) by omega]
    refine ⟨d, 1 + r, e1, Z1, by omega, by omega, fun x H2 hx Z2 S2 => ?_⟩
    generalize hm : 1 + r = m at hx
    have m1 : 1 ≤ m := by omega
    have m2 : m ≤ 2 := by omega
    have lx := set_len hx
    have x1 : 0 < x.length ∧ x.length ≤ 100 := by omega
    have hcx : x.cps.toList.length = m := by simpa [Str.length] using lx
    refine ⟨2, rfl, by decide, by decide, fun D nD => ?_⟩
    have Dd : D ≠ d := Z2.not nD
    refine lc_range (lo := 0) (n := 2) (fun i H9 => ∃ ps : List (Addr × List (List Nat) × List Nat), H9 D = some (.lst (ps.map fun z => V.ref z.1)) ∧ ps.length = i ∧ (∀ z ∈ ps, Plain d H9 z.1 x z.2.1 z.2.2 ∧ 1 ≤ z.2.1.length ∧ z.2.1.length ≤ 4 ∧ ∀ o : HO, Plain d (upd H9 D o) z.1 x z.2.1 z.2.2) ∧ Dz H9 d ∧ Still d H2 H9)
      ⟨[], upd_same, rfl, (fun z hz => by cases hz), Z2.new nD, (Still.refl d H2).new nD⟩ ?_ ?_
    · rintro i H9 hi ⟨ps, w1, w2, w3, w4, w5⟩
      refine ⟨rfl, tYes_if ?_⟩
      refine ⟨_, rfl, _, rfl, d, x, 4, rfl, w4, by decide, by decide, by omega, fun t es p H10 Pl t0 t4 np Z10 S10 fr => ?_⟩
      refine ⟨_, S10 _ _ Dd w1, ?_, ps ++ [(p, t, es)], ?_, by rw [List.length_append, w2]; rfl, fun z hz => ?_, Z10.ne Dd, (w5.trans S10).at_new nD⟩
      · rw [List.length_map, w2]
        exact Nat.lt_of_lt_of_le (show i < 1000 by omega) (by decide)
      · rw [upd_same, List.map_append]
        rfl
      · rcases List.mem_append.mp hz with h | h
        · obtain ⟨z1, z2, z3, z4⟩ := w3 z h
          have st : ∀ o : HO, Plain d (upd H10 D o) z.1 x z.2.1 z.2.2 := fun o => (z4 o).still (w4.ne Dd) (fun b o' hb h => by
            by_cases c : b = D
            · rw [c, upd_same] at h ⊢
              exact h
            · rw [upd_ne c] at h ⊢
              exact S10 _ _ hb h)
          exact ⟨st _, z2, z3, fun o => by rw [upd_upd]; exact st o⟩
        · rw [List.mem_singleton.mp h]
          exact ⟨fr D _ _ Dd w1, t0, t4, fun o => by rw [upd_upd]; exact fr D _ o Dd w1⟩
    · rintro H9 ⟨ps, w1, w2, w3, w4, w5⟩
      have w2 : ps.length = 2 := w2
      match ps, w2, w1, w3 with
      | [(p, t, es), (q, t', es')], _, w1, w3 =>
        obtain ⟨P1, t1, t4, _⟩ := w3 (p, t, es) (by simp)
        obtain ⟨P2, u1, u4, _⟩ := w3 (q, t', es') (by simp)
        have P1 : Plain d H9 p x t es := P1
        have P2 : Plain d H9 q x t' es' := P2
        have t1 : 1 ≤ t.length := t1
        have t4 : t.length ≤ 4 := t4
        have u1 : 1 ≤ t'.length := u1
        have u4 : t'.length ≤ 4 := u4
        have S9 : Still d H H9 := (S1.trans S2).trans w5
        refine ⟨D, _, rfl, SqL.of w1, rfl, _, _, rfl, _, _, rfl, rfl, ?_⟩
        clear w1 w3 S1 S2 w5 Z1 Z2 nD
        refine ⟨_, rfl, p, d, x, t, es, m, rfl, P1, hx, m1, m2, t1, t4, fun a H4 na Ma s4 => ?_⟩
        refine ⟨_, rfl, q, d, x, t', es', m, rfl, P2.still w4 (same_still s4), hx, m1, m2, u1, u4, fun b H5 nb Mb s5 => ⟨(by show 2 ≤ sizeLine; decide), fun T9 nT => ⟨T9, _, rfl, SqT.of upd_same, rfl, _, _, rfl, _, _, rfl, rfl, ?_⟩⟩⟩
        have s6 : Same H9 (upd H5 T9 (.tup [.ref a, .ref b])) := Same.new (s4.trans s5) nT
        have Ma := Ma.same (Same.new (u := .tup [.ref a, .ref b]) s5 nT)
        have Mb := Mb.same (Same.new (u := .tup [.ref a, .ref b]) (Same.refl H5) nT)
        generalize upd H5 T9 (.tup [.ref a, .ref b]) = H6 at s6 Ma Mb ⊢
        have Z6 := same_dz s6 w4
        have P1 := P1.still w4 (same_still s6)
        have P2 := P2.still w4 (same_still s6)
        have S6 : Stl T d H H6 := Stl.of tabs Z Z6 (S9.trans (same_still s6))
        clear s4 s5 s6 na nb nT S9 w4
        have R1 : Right x t es m := ⟨hx, m1, m2, by have := P1.tab; rw [lx] at this; exact this, t1, t4, P1.up, P1.lt⟩
        have R2 : Right x t' es' m := ⟨hx, m1, m2, by have := P2.tab; rw [lx] at this; exact this, u1, u4, P2.up, P2.lt⟩
        refine ⟨3, rfl, by decide, by decide, for_range (lo := 0) (n := 3) (fun i σ H' => (∃ v2 v7 v8 v9 v10 v11 v12 : Option V, σ = [some (.ref d), some (.str x), v2, some (.ref p), some (.ref q), some (.ref a), some (.ref b), v7, v8, v9, v10, v11, v12, none, none]) ∧ Dz H' d ∧ Stl T d H6 H') ⟨⟨_, _, _, _, _, _, _, rfl⟩, Z6, Stl.refl d S6.tab⟩ ?_ ?_⟩
        · rintro i σ H7 hi ⟨⟨v2, v7, v8, v9, v10, v11, v12, rfl⟩, Z7, S7⟩
          refine ⟨_, rfl, _, rfl, _, rfl, _, rfl, _, rfl, d, p, q, a, b, x, t, t', es, es', m, rfl, Z7, P1.stl Z6 S7, P2.stl Z6 S7, Ma.stl Z6 S7, Mb.stl Z6 S7, R1, R2, fun H8 Z8 S8 => ⟨_, rfl, iteF ?_⟩⟩
          have S68 := S7.still Z7 Z8 S8
          refine ⟨3, rfl, by decide, by decide, fun W nW => ?_⟩
          have Wd : W ≠ d := Z8.not nW
          refine lc_range (lo := 0) (n := 3) (fun j H9 => ∃ ys : List Str, H9 W = some (.lst (ys.map V.str)) ∧ ys.length = j ∧ (∀ y ∈ ys, IsW x y ∧ y.length ≤ 6) ∧ Dz H9 d ∧ Still d H8 H9)
            ⟨[], upd_same, rfl, (fun z hz => by cases hz), Z8.new nW, (Still.refl d H8).new nW⟩ ?_ ?_
          · rintro j H9 hj ⟨ys, y1, y2, y3, y4, y5⟩
            refine ⟨rfl, tYes_if ?_⟩
            refine ⟨_, rfl, _, rfl, d, x, 6, rfl, y4, x1.1, x1.2, by decide, fun y H10 hw hl Z10 S10 => ?_⟩
            refine ⟨_, S10 _ _ Wd y1, ?_, ys ++ [y], ?_, by rw [List.length_append, y2]; rfl, fun z hz => ?_, Z10.ne Wd, (y5.trans S10).at_new nW⟩
            · rw [List.length_map, y2]
              exact Nat.lt_of_lt_of_le (show j < 1000 by omega) (by decide)
            · rw [upd_same, List.map_append]
              rfl
            · rcases List.mem_append.mp hz with h | h
              · exact y3 z h
              · rw [List.mem_singleton.mp h]
                exact ⟨hw, hl⟩
          · rintro H9 ⟨ys, y1, y2, y3, y4, y5⟩
            have y2 : ys.length = 3 := y2
            match ys, y2, y1, y3 with
            | [y0, y1', y2'], _, hW, y3 =>
              obtain ⟨w0, k0⟩ := y3 y0 (by simp)
              obtain ⟨w1, k1⟩ := y3 y1' (by simp)
              obtain ⟨w2, k2⟩ := y3 y2' (by simp)
              have hW : H9 W = some (.lst [.str y0, .str y1', .str y2']) := hW
              have S69 := S68.still Z8 y4 y5
              have M1 := Ma.stl Z6 S69
              have M2 := Mb.stl Z6 S69
              have Q1 := P1.stl Z6 S69
              have Q2 := P2.stl Z6 S69
              have tab9 := S69.tab
              clear y5 S68 S8 S7 Z7 Z8 nW y3
              refine ⟨_, rfl, W, rfl, ⟨_, SqL.of hW⟩, fun D2 nD2 => ?_⟩
              refine lc_list (K := K) (a := W) (xs := [.str y0, .str y1', .str y2']) (fun i H10 => ∃ vs : List V, H10 D2 = some (.lst vs) ∧ RowsM K H10 vs ([(act t x y0.cps.toList, act t' x y0.cps.toList), (act t x y1'.cps.toList, act t' x y1'.cps.toList), (act t x y2'.cps.toList, act t' x y2'.cps.toList)].take i) ∧ Stl T D2 H9 H10)
                ⟨[], upd_same, ⟨rfl, fun i z e => by cases e⟩, Stl.ofE ((Ext.refl tab9).new nD2)⟩ (fun i H10 _ ⟨_, _, _, z⟩ => SqL.of ((z.one nD2 tab9).at_ hW)) ?_ ?_
              · rintro e v H10 hv ⟨vs, z1, z2, z3⟩
                have pick : ∃ y : Str, v = .str y ∧ IsW x y ∧ y.length ≤ 6 ∧ [(act t x y0.cps.toList, act t' x y0.cps.toList), (act t x y1'.cps.toList, act t' x y1'.cps.toList), (act t x y2'.cps.toList, act t' x y2'.cps.toList)][e]? = some (act t x y.cps.toList, act t' x y.cps.toList) := by
                  match e, hv with
                  | 0, hv => exact ⟨y0, (Option.some.inj hv).symm, w0, k0, rfl⟩
                  | 1, hv => exact ⟨y1', (Option.some.inj hv).symm, w1, k1, rfl⟩
                  | 2, hv => exact ⟨y2', (Option.some.inj hv).symm, w2, k2, rfl⟩
                obtain ⟨y, rfl, wy, ky, ey⟩ := pick
                have s10 := z3.one nD2 tab9
                have e3 : e < 3 := (List.getElem?_eq_some_iff.mp hv).1
                refine ⟨rfl, tYes_if ?_⟩
                refine ⟨_, rfl, _, rfl, _, rfl, a, b, x, y, t, t', es, es', m, rfl, M1.ext s10.ext, M2.ext s10.ext, R1, R2, wy, s10.tab, by omega, fun rr H11 mr s11 => ?_⟩
                have z1' := s11.at_ z1
                have off : ∀ b o, b ≠ D2 → H11 b = some o → (upd H11 D2 (.lst (vs ++ [.ref rr]))) b = some o := fun b o hb h => by
                  rw [upd_ne hb]
                  exact h
                refine ⟨vs, z1', ?_, vs ++ [.ref rr], upd_same, ?_, (z3.trans (Stl.ofE s11)).put z1'⟩
                · rw [z2.1, List.length_take]
                  exact Nat.lt_of_le_of_lt (show _ ≤ 1000 by omega) (by decide)
                · rw [take_snoc ey]
                  exact (z2.same fun b z h => (h.ext s11.ext).off z1' off).snoc (z := (act t x y.cps.toList, act t' x y.cps.toList)) (mr.off z1' off)
              · rintro H10 ⟨vs, z1, z2, z3⟩
                have z2 : RowsM K H10 vs [(act t x y0.cps.toList, act t' x y0.cps.toList), (act t x y1'.cps.toList, act t' x y1'.cps.toList), (act t x y2'.cps.toList, act t' x y2'.cps.toList)] := z2
                have s10 := z3.one nD2 tab9
                obtain ⟨b0, f0, n0⟩ := z2.2 0 _ rfl
                obtain ⟨b1, f1, n1⟩ := z2.2 1 _ rfl
                obtain ⟨b2, f2, n2⟩ := z2.2 2 _ rfl
                have ev : vs = [.ref b0, .ref b1, .ref b2] := by
                  match vs, z2.1, f0, f1, f2 with
                  | [x1, x2, x3], _, f0, f1, f2 =>
                    cases f0
                    cases f1
                    cases f2
                    rfl
                subst ev
                have hW := s10.at_ hW
                have M1 := M1.ext s10.ext
                have M2 := M2.ext s10.ext
                have Z10 := dz_ext s10.ext y4
                have Q1 := Q1.stl y4 (Stl.ofE s10)
                have Q2 := Q2.stl y4 (Stl.ofE s10)
                have S10 := S69.trans (Stl.ofE s10)
                have n0 : MapAt K H10 b0 (act t x y0.cps.toList) (act t' x y0.cps.toList) := n0
                have n1 : MapAt K H10 b1 (act t x y1'.cps.toList) (act t' x y1'.cps.toList) := n1
                have n2 : MapAt K H10 b2 (act t x y2'.cps.toList) (act t' x y2'.cps.toList) := n2
                have tab10 := s10.tab
                clear z2 z3 s10 nD2 f0 f1 f2
                have A0 := act_leads R1.tb hcx w0
                have A1 := act_leads R1.tb hcx w1
                have A2 := act_leads R1.tb hcx w2
                have B0 := act_leads R2.tb hcx w0
                have B1 := act_leads R2.tb hcx w1
                have B2 := act_leads R2.tb hcx w2
                have p01 : (comp (act t x y0.cps.toList) (act t x y1'.cps.toList), comp (act t' x y0.cps.toList) (act t' x y1'.cps.toList)) = (act t x (y0 ++ y1').cps.toList, act t' x (y0 ++ y1').cps.toList) := by
                  rw [app_toList, act_app R1.tb hcx w0, act_app R2.tb hcx w0]
                have rp : ∀ n : Nat, (act t x (NvM.times y0 n).cps.toList, act t' x (NvM.times y0 n).cps.toList) = two (act t x y0.cps.toList) (act t' x y0.cps.toList) n := fun n => by
                  rw [NvM.times_toList, act_rep R1.tb hcx w0, act_rep R2.tb hcx w0]
                  rfl
                have hit0 : (act t x y0.cps.toList).getD 0 0 = goes t x 0 y0.cps.toList := act_at t1
                have hit1 : (act t' x y0.cps.toList).getD 0 0 = goes t' x 0 y0.cps.toList := act_at u1
                generalize act t x y0.cps.toList = g0 at n0 A0 p01 rp hit0
                generalize act t' x y0.cps.toList = h0 at n0 B0 p01 rp hit1
                generalize act t x y1'.cps.toList = g1 at n1 A1 p01
                generalize act t' x y1'.cps.toList = h1 at n1 B1 p01
                generalize act t x y2'.cps.toList = g2 at n2 A2
                generalize act t' x y2'.cps.toList = h2 at n2 B2
                have t9 : t.length ≤ 1000 := by omega
                have u9 : t'.length ≤ 1000 := by omega
                have sz : (1000000 : Nat) ≤ sizeLine := by decide
                -- both
                refine ⟨_, rfl, _, rfl, _, rfl, D2, _, _, .ref b0, rfl, rfl, SqL.of z1, rfl, _, rfl, D2, _, _, .ref b1, rfl, rfl, SqL.of z1, rfl, a, b, b0, b1, x, t, t', es, es', g0, h0, g1, h1, rfl, M1, M2, t9, u9, n0, n1, A0, A1, B0, B1, fun c HA mc sA => ?_⟩
                refine ⟨_, rfl, _, rfl, _, rfl, _, rfl, W, _, _, .str y0, rfl, rfl, SqL.of (sA _ _ hW), rfl, _, rfl, W, _, _, .str y1', rfl, rfl, SqL.of (sA _ _ hW), rfl, y0, y1', rfl, rfl, by omega, a, b, x, y0 ++ y1', t, t', es, es', m, rfl, M1.same sA, M2.same sA, R1, R2, isw_app w0 w1, TabsN.ext tab10 sA, by rw [str_len_app]; omega, fun c2 HB mB sB => ?_⟩
                refine ⟨dMap (comp g0 g1, comp h0 h1), dMap (act t x (y0 ++ y1').cps.toList, act t' x (y0 ++ y1').cps.toList), MapAt.dp (z := (comp g0 g1, comp h0 h1)) (mc.ext sB.ext), MapAt.dp (z := (act t x (y0 ++ y1').cps.toList, act t' x (y0 ++ y1').cps.toList)) mB, shaped_dMap _, shaped_dMap _, _, rfl, ?_⟩
                rw [eqv_dMap, decide_eq_true p01]
                refine iteF ?_
                have sAB := (Ext.of tab10 sA).trans sB
                have mc := mc.ext sB.ext
                clear mB
                -- later
                refine ⟨_, rfl, _, rfl, _, rfl, D2, _, _, .ref b1, rfl, rfl, SqL.of (sAB.at_ z1), rfl, _, rfl, D2, _, _, .ref b2, rfl, rfl, SqL.of (sAB.at_ z1), rfl, a, b, b1, b2, x, t, t', es, es', g1, h1, g2, h2, rfl, M1.ext sAB.ext, M2.ext sAB.ext, t9, u9, n1.ext sAB.ext, n2.ext sAB.ext, A1, A2, B1, B2, fun e HC me sC => ?_⟩
                have sAC := sAB.same sC
                have mc := mc.same sC
                refine ⟨_, rfl, _, rfl, _, rfl, _, rfl, D2, _, _, .ref b2, rfl, rfl, SqL.of (sAC.at_ z1), rfl, a, b, c, b2, x, t, t', es, es', comp g0 g1, comp h0 h1, g2, h2, rfl, M1.ext sAC.ext, M2.ext sAC.ext, t9, u9, mc, n2.ext sAC.ext, A0.comp A1, A2, B0.comp B1, B2, fun e2 HD mD sD => ?_⟩
                have sAD := sAC.same sD
                refine ⟨_, rfl, _, rfl, _, rfl, D2, _, _, .ref b0, rfl, rfl, SqL.of (sAD.at_ z1), rfl, _, rfl, a, b, b0, e, x, t, t', es, es', g0, h0, comp g1 g2, comp h1 h2, rfl, M1.ext sAD.ext, M2.ext sAD.ext, t9, u9, n0.ext sAD.ext, me.same sD, A0, A1.comp A2, B0, B1.comp B2, fun e3 HE mE sE => ?_⟩
                have pas : (comp (comp g0 g1) g2, comp (comp h0 h1) h2) = (comp g0 (comp g1 g2), comp h0 (comp h1 h2)) := by
                  rw [comp_assoc (by rw [A1.1]; exact A0.2), comp_assoc (by rw [B1.1]; exact B0.2)]
                refine ⟨dMap (comp (comp g0 g1) g2, comp (comp h0 h1) h2), dMap (comp g0 (comp g1 g2), comp h0 (comp h1 h2)), MapAt.dp (z := (comp (comp g0 g1) g2, comp (comp h0 h1) h2)) (mD.same sE), MapAt.dp (z := (comp g0 (comp g1 g2), comp h0 (comp h1 h2))) mE, shaped_dMap _, shaped_dMap _, _, rfl, ?_⟩
                rw [eqv_dMap, decide_eq_true pas]
                refine iteF ?_
                have sAE := sAD.same sE
                clear mD mE me mc pas
                -- rounds
                refine ⟨_, rfl, _, rfl, _, rfl, D2, _, _, .ref b0, rfl, rfl, SqL.of (sAE.at_ z1), rfl, a, b, b0, x, t, t', es, es', g0, h0, rfl, M1.ext sAE.ext, M2.ext sAE.ext, t1, t4, u1, u4, n0.ext sAE.ext, A0, B0, fun rr n bb HF hF bn ap back sF => ⟨rr, _, rfl, SqT.of hF, rfl, _, _, rfl, _, _, rfl, rfl, ?_⟩⟩
                have n18 : n ≤ 18 := by
                  by_cases q : n ≤ 18
                  · exact q
                  · have := ap 6 18 (by omega) (by omega) (two_18 A0 B0 t4 u4)
                    omega
                have sAF := sAE.same sF
                have len : ∀ k : Nat, k ≤ 40 → y0.length * k ≤ 1000000 := fun k hk => Nat.le_trans (Nat.mul_le_mul k0 hk) (by decide)
                have b19 : max 1 bb ≤ 18 := by omega
                refine ⟨_, rfl, _, rfl, _, rfl, W, _, _, .str y0, rfl, rfl, SqL.of (sAF.at_ hW), rfl, _, rfl, y0, max 1 bb, rfl, rfl, len _ (by omega), by omega, by omega, a, b, x, NvM.times y0 (max 1 bb), t, t', es, es', m, rfl, M1.ext sAF.ext, M2.ext sAF.ext, R1, R2, isw_times w0 _, sAF.tab, by rw [NvM.times_length, Nat.mul_comm]; exact len _ (by omega), fun c5 HG mG sG => ?_⟩
                have sAG := sAF.trans sG
                refine ⟨_, rfl, _, rfl, _, rfl, W, _, _, .str y0, rfl, rfl, SqL.of (sAG.at_ hW), rfl, _, rfl, _, rfl, _, _, rfl, rfl, y0, max 1 bb + (n - bb), rfl, by rw [Int.natCast_add], len _ (by omega), by omega, by omega, a, b, x, NvM.times y0 (max 1 bb + (n - bb)), t, t', es, es', m, rfl, M1.ext sAG.ext, M2.ext sAG.ext, R1, R2, isw_times w0 _, sAG.tab, by rw [NvM.times_length, Nat.mul_comm]; exact len _ (by omega), fun c6 HI mI sI => ?_⟩
                have pr : (act t x (NvM.times y0 (max 1 bb)).cps.toList, act t' x (NvM.times y0 (max 1 bb)).cps.toList) = (act t x (NvM.times y0 (max 1 bb + (n - bb))).cps.toList, act t' x (NvM.times y0 (max 1 bb + (n - bb))).cps.toList) := by
                  rw [rp, rp]
                  have q1 : pw g0 n = pw g0 bb := congrArg Prod.fst back
                  have q2 : pw h0 n = pw h0 bb := congrArg Prod.snd back
                  unfold two
                  rw [pw_shift (g := g0) (b := bb) (c := n - bb) (by rw [show bb + (n - bb) = n by omega, q1]) (max 1 bb) (by omega), pw_shift (g := h0) (b := bb) (c := n - bb) (by rw [show bb + (n - bb) = n by omega, q2]) (max 1 bb) (by omega)]
                refine ⟨dMap (act t x (NvM.times y0 (max 1 bb)).cps.toList, act t' x (NvM.times y0 (max 1 bb)).cps.toList), dMap (act t x (NvM.times y0 (max 1 bb + (n - bb))).cps.toList, act t' x (NvM.times y0 (max 1 bb + (n - bb))).cps.toList), MapAt.dp (z := (act t x (NvM.times y0 (max 1 bb)).cps.toList, act t' x (NvM.times y0 (max 1 bb)).cps.toList)) (mG.ext sI.ext), MapAt.dp (z := (act t x (NvM.times y0 (max 1 bb + (n - bb))).cps.toList, act t' x (NvM.times y0 (max 1 bb + (n - bb))).cps.toList)) mI, shaped_dMap _, shaped_dMap _, _, rfl, ?_⟩
                rw [eqv_dMap, decide_eq_true pr]
                refine iteF ?_
                have sAI := sAG.trans sI
                clear mG mI pr
                -- hits
                refine ⟨_, rfl, _, rfl, _, rfl, D2, _, _, .ref b0, rfl, rfl, SqL.of (sAI.at_ z1), rfl, a, b, b0, x, t, t', es, es', g0, h0, rfl, M1.ext sAI.ext, M2.ext sAI.ext, t1, t9, u1, u9, n0.ext sAI.ext, A0, B0, fun r9 HJ hJ sJ => ?_⟩
                have sAJ := sAI.same sJ
                refine ⟨_, rfl, _, rfl, W, _, _, .str y0, rfl, rfl, SqL.of (sAJ.at_ hW), rfl, p, d, x, y0, t, es, m, rfl, Q1.stl Z10 (Stl.ofE sAJ), hx, m2, t1, w0, ?_⟩
                refine ⟨_, rfl, _, rfl, W, _, _, .str y0, rfl, rfl, SqL.of (sAJ.at_ hW), rfl, q, d, x, y0, t', es', m, rfl, Q2.stl Z10 (Stl.ofE sAJ), hx, m2, u1, w0, (by show 2 ≤ sizeLine; decide), fun T9 nT => ?_⟩
                rw [hit0, hit1] at hJ
                refine ⟨dBools (decide (goes t x 0 y0.cps.toList ∈ es)) (decide (goes t' x 0 y0.cps.toList ∈ es')), dBools (decide (goes t x 0 y0.cps.toList ∈ es)) (decide (goes t' x 0 y0.cps.toList ∈ es')), .tup (SqT.of (keep_new hJ nT)) (.cons (.bl _) (.cons (.bl _) .nil)), .tup (SqT.of upd_same) (.cons (.bl _) (.cons (.bl _) .nil)), shaped_bools _ _, shaped_bools _ _, _, rfl, ?_⟩
                rw [eqv_bools]
                refine iteF ?_
                exact ⟨⟨_, _, _, _, _, _, _, rfl⟩, dz_ext (sAJ.new nT).ext Z10, S10.trans (Stl.ofE (sAJ.new nT))⟩
        · rintro σ H7 ⟨⟨v2, v7, v8, v9, v10, v11, v12, rfl⟩, Z7, S7⟩
          exact k H7 Z7 (S6.trans S7)
end
end M3

set_option Elab.async false
set_option linter.all false
set_option maxRecDepth 100000
set_option maxHeartbeats 8000000
/-! # The law itself (k29) -/
namespace M3
open PySem L2 NdefX
abbrev sLaw : Stmt := top 78
abbrev nLaw : List Str := ["script", "at", "dice", "one", "other", "step", "told"]
theorem scLaw : FnScope nLaw ["script"] (defScope sLaw) := ⟨rfl, rfl, rfl, by decide +kernel, rfl, by decide +kernel, by decide +kernel⟩
structure TxL (mg : Str → Option Value) : Prop where
  max : mg "max" = none
  min : mg "min" = none
theorem two_le {f s : List Nat} {n i j : Nat} (ap : ∀ x y, x < n → y < n → two f s x = two f s y → x = y) (ij : i < j) (e : two f s i = two f s j) : n ≤ j := by
  by_cases c : n ≤ j
  · exact c
  · have := ap i j (by omega) (by omega) e
    omega
theorem two_one {f s : List Nat} {n b n0 b0 : Nat} (ap : ∀ x y, x < n → y < n → two f s x = two f s y → x = y) (bn : b < n) (e : two f s n = two f s b) (ap0 : ∀ x y, x < n0 → y < n0 → two f s x = two f s y → x = y) (bn0 : b0 < n0) (e0 : two f s n0 = two f s b0) : n = n0 ∧ b = b0 := by
  have h1 := two_le ap bn0 e0.symm
  have h2 := two_le ap0 bn e.symm
  have h : n = n0 := by omega
  subst h
  exact ⟨rfl, ap b b0 bn bn0 (e.symm.trans e0)⟩
def tOne : List (List Nat) := [[1], [2], [3], [2]]
def tBare : List (List Nat) := [[0]]
theorem set_a : IsSet "a" 1 := ⟨[97], by decide +kernel, rfl, by decide, by decide⟩
theorem right_one : Right "a" tOne [3] 1 := ⟨set_a, by decide, by decide, ⟨rfl, by decide⟩, by decide, by decide, by decide, by decide⟩
theorem right_bare : Right "a" tBare [] 1 := ⟨set_a, by decide, by decide, ⟨rfl, by decide⟩, by decide, by decide, .nil, by decide⟩
theorem word_a : IsW "a" "a" := by
  unfold IsW
  decide +kernel
theorem len_a : ("a" : Str).length ≤ 1000000 := by decide +kernel
theorem act_one : act tOne "a" ("a" : Str).cps.toList = [1, 2, 3, 2] := by decide +kernel
theorem act_bare : act tBare "a" ("a" : Str).cps.toList = [0] := by decide +kernel
theorem far : ∀ x, x < 4 → ∀ y, y < 4 → two [1, 2, 3, 2] [0] x = two [1, 2, 3, 2] [0] y → x = y := by decide +kernel
theorem near : two [1, 2, 3, 2] [0] 4 = two [1, 2, 3, 2] [0] 2 := by decide +kernel
theorem prod_one : comp [1, 2, 3, 2] [1, 2, 3, 2] = [2, 3, 2, 3] := by decide +kernel
theorem prod_bare : comp [0] [0] = [0] := by decide +kernel
theorem leads_one : Leads [1, 2, 3, 2] tOne.length := ⟨rfl, by decide⟩
theorem leads_bare : Leads [0] tBare.length := ⟨rfl, by decide⟩
theorem leads_hit : Leads [3, 0, 0, 0] tOne.length := ⟨rfl, by decide⟩
theorem hit_one : decide (([3, 0, 0, 0] : List Nat).getD 0 0 ∈ ([3] : List Nat)) = true := by decide
theorem hit_bare : decide (([0] : List Nat).getD 0 0 ∈ ([] : List Nat)) = false := by decide
def dEnd : PyData := .list [dPair 2 2, dMap ([2, 3, 2, 3], [0]), dBools true false]
theorem end_shaped : SeqAt.shaped dEnd = true := by decide +kernel
theorem end_eqv : dEnd.eqv dEnd = true := by decide +kernel
theorem mach_made {K : PySem.W.Frag} {C q dx a1 b1 : Addr} {H2 H' : Hp} {x : Str} {us : List V} {t : List (List Nat)} {es : List Nat} (nq : H2 q = none) (ndx : H2 dx = none) (nex : dx ≠ q) (hq : H' q = some (.ins C dx (flds x a1 b1)))
    (kp : ∀ c o, c ≠ q → (upd (upd H2 dx (.own q)) q (.ins C dx [])) c = some o → H' c = some o) (h2 : SqT K H2 a1 us) (T : Tups K H2 us t) (hb : SqT K H2 b1 (nts es)) : Mach K C H' q x t es ∧ Same H2 H' := by
  have s3 : Same H2 (upd (upd H2 dx (.own q)) q (.ins C dx [])) := Same.new (Same.new (Same.refl H2) ndx) (by rw [upd_ne (Ne.symm nex)]; exact nq)
  have s4 : Same H2 H' := fun c o h => kp c o (fun z => by rw [z, nq] at h; cases h) (s3 _ _ h)
  exact ⟨⟨dx, a1, b1, us, hq, sqt_same s4 h2, T.same s4, sqt_same s4 hb⟩, s4⟩
theorem tups1 {K : PySem.W.Frag} {H : Hp} {u : Addr} {r : List Nat} (h : SqT K H u (nts r)) : Tups K H [.ref u] [r] := ⟨rfl, fun i r' e => by
  match i, e with
  | 0, e => exact ⟨u, rfl, by cases e; exact h⟩⟩
theorem tups4 {K : PySem.W.Frag} {H : Hp} {u1 u2 u3 u4 : Addr} {r1 r2 r3 r4 : List Nat} (h1 : SqT K H u1 (nts r1)) (h2 : SqT K H u2 (nts r2)) (h3 : SqT K H u3 (nts r3)) (h4 : SqT K H u4 (nts r4)) : Tups K H [.ref u1, .ref u2, .ref u3, .ref u4] [r1, r2, r3, r4] := ⟨rfl, fun i r' e => by
  match i, e with
  | 0, e => exact ⟨u1, rfl, by cases e; exact h1⟩
  | 1, e => exact ⟨u2, rfl, by cases e; exact h2⟩
  | 2, e => exact ⟨u3, rfl, by cases e; exact h3⟩
  | 3, e => exact ⟨u4, rfl, by cases e; exact h4⟩⟩
def spLaw (K : PySem.W.Frag) (T : List NTab) : Sp := fun vs H Q _ => ∃ (a : Addr) (ns : List Int), vs = [.ref a] ∧ TabsN T H ∧ SqL K H a (ns.map V.int) ∧ ns.length ≤ 63 ∧ ∀ H', Q (.bl true) H'
section
variable {P : Program} {w : World} {K : PySem.W.Frag} {mg : Str → Option Value} {base : Heap} {C : Addr}
theorem ok_law {T : List NTab} {f gI b0 : Addr} {fd dI : FuncData} (F : Fun K "law" "law" sLaw f fd)
    (cD : FnC P w K mg base 1 "_law_dice" ["script", "at"] (spDice K)) (cX : FnC P w K mg base 7 "_law_right" ["dice"] (spRight T))
    (MK : Mk K C gI) (GI : FnOk P w K mg base CX0 4 gI dI nInit (spInit K C)) (bI : Binds K dI nInit []) (bI1 : Binds K dI nInit [.ref b0]) (hb0 : ∀ H, SqT K H b0 []) (mC : mg "Machine" = some (.ref C))
    (cI : FnC P w K mg base 6 "image" ["one", "other", "word"] (spImageOf K T C)) (cP : FnC P w K mg base 5 "product" ["one", "other", "left", "right"] (spProduct K C)) (cO : FnC P w K mg base 5 "rounds" ["one", "other", "leads"] (spRounds K C)) (cH : FnC P w K mg base 5 "hits" ["one", "other", "leads"] (spHits K C))
    (TK : TxK K mg C) (M : TxM mg) (TL : TxL mg) :
    FnOk P w K mg base CX0 8 f fd ["script"] (spLaw K T) := by
  refine F.ok scLaw (fun vs H Q E h => ?_) (fun cdv A outer s H vs Q E hr h => ?_)
  · obtain ⟨a, ns, rfl, _⟩ := h
    rfl
  · obtain ⟨a, ns, rfl, tabs, ha, hl, k⟩ := h
    have hr6 : Room 6 _ := hr.mono (by decide)
    have hr5 : Room 5 _ := hr.mono (by decide)
    have hr1 : Room 1 _ := hr.mono (by decide)
    refine ⟨_, (pss_cons (ps_for PassesOwn.never rfl (pi_range1 rfl M.range (pa_cons (pe_callB (call_max2 rfl) (by rfl) TL.max (by decide +kernel) (pa_cons pe_int (pa_cons (pe_callB (call_min2 rfl) (by rfl) TL.min (by decide +kernel) (pa_cons pe_int (pa_cons (pe_callB call_len_seq (by rfl) M.len PySem.boot_len (pa_cons (pv 0) pa_nil)) pa_nil))) pa_nil))) pa_nil)) (pg_name (i := 1) scLaw.nd rfl (Or.inl rfl))
        (pss_cons (ps_set (i := 2) scLaw.nd rfl (Or.inl rfl) (pe_call cD.G hr1 rfl cD.m cD.kp cD.b .nil pass0 (pa_cons (pv 0) (pa_cons (pv 1) pa_nil))))
        (pss_one (ps_if (PW.pt (pw_or (pt_not (pt_val (pe_call cX.G hr rfl cX.m cX.kp cX.b .nil pass0 (pa_cons (pv 2) pa_nil)))) (pw_or1 (pt_not (pt_val (pe_call cX.G hr rfl cX.m cX.kp cX.b .nil pass0 (pa_cons (pv 2) pa_nil))))))) (pss_one (ps_ret pe_bl)) pss_nil))))
      (pss_cons (ps_par (i := 3) (j := 4) (by rfl) scLaw.nd rfl rfl (by decide) rfl rfl (pa_cons (pe_make MK GI hr5 rfl mC bI .nil pass0 (pa_cons pe_str (pa_cons (pe_tup (pa_cons (pe_tup (pa_cons pe_int pa_nil)) (pa_cons (pe_tup (pa_cons pe_int pa_nil)) (pa_cons (pe_tup (pa_cons pe_int pa_nil)) (pa_cons (pe_tup (pa_cons pe_int pa_nil)) pa_nil))))) (pa_cons (pe_tup (pa_cons pe_int pa_nil)) pa_nil))))
          (pa_cons (pe_make MK GI hr5 rfl mC bI1 (.cons (show RelV (.ref b0) (.ref b0) from rfl) .nil) pass0 (pa_cons pe_str (pa_cons (pe_tup (pa_cons (pe_tup (pa_cons pe_int pa_nil)) pa_nil)) pa_nil))) pa_nil)) (by rfl))
      (pss_cons (ps_set (i := 5) scLaw.nd rfl (Or.inl rfl) (pe_call cI.G hr6 rfl cI.m cI.kp cI.b .nil pass0 (pa_cons (pv 3) (pa_cons (pv 4) (pa_cons pe_str pa_nil)))))
      (pss_cons (ps_set (i := 6) scLaw.nd rfl (Or.inl rfl) (pe_lst (pa_cons (pe_call cO.G hr5 rfl cO.m cO.kp cO.b .nil pass0 (pa_cons (pv 3) (pa_cons (pv 4) (pa_cons (pv 5) pa_nil)))) (pa_cons (pe_call cP.G hr5 rfl cP.m cP.kp cP.b .nil pass0 (pa_cons (pv 3) (pa_cons (pv 4) (pa_cons (pv 5) (pa_cons (pv 5) pa_nil)))))
          (pa_cons (pe_call cH.G hr5 rfl cH.m cH.kp cH.b .nil pass0 (pa_cons (pv 3) (pa_cons (pv 4) (pa_cons (pe_tup (pa_cons (pe_tup (pa_cons pe_int (pa_cons pe_int (pa_cons pe_int (pa_cons pe_int pa_nil))))) (pa_cons (pe_tup (pa_cons pe_int pa_nil)) pa_nil))) pa_nil)))) pa_nil)))))
      (pss_one (ps_ret (pe_cmpR (op_eqD hr.units) (pv 6) (pe_lst (pa_cons (pe_tup (pa_cons pe_int (pa_cons pe_int pa_nil))) (pa_cons (pe_tup (pa_cons (pe_tup (pa_cons pe_int (pa_cons pe_int (pa_cons pe_int (pa_cons pe_int pa_nil))))) (pa_cons (pe_tup (pa_cons pe_int pa_nil)) pa_nil))) (pa_cons (pe_tup (pa_cons pe_bl (pa_cons pe_bl pa_nil))) pa_nil)))) (nomark _)))))))), ?_⟩
    have lb : ∀ n : Nat, n ≤ 63 → ∀ m : Int, m = (if (if (n : Int) < 8 then (n : Int) else 8) > 1 then (if (n : Int) < 8 then (n : Int) else 8) else 1) → 1 ≤ m ∧ m ≤ 8 := fun n hn m hm => by
      rw [hm]
      by_cases h8 : (n : Int) < 8
      · rw [if_pos h8]
        by_cases h1 : (n : Int) > 1
        · rw [if_pos h1]
          omega
        · rw [if_neg h1]
          omega
      · rw [if_neg h8]
        decide
    refine ⟨_, rfl, a, _, rfl, .inl ha, _, _, rfl, _, _, rfl, ?_⟩
    have ln : (ns.map V.int).length = ns.length := List.length_map _
    rw [ln]
    have lb := lb _ hl _ rfl
    generalize (if (if (ns.length : Int) < 8 then (ns.length : Int) else 8) > 1 then (if (ns.length : Int) < 8 then (ns.length : Int) else 8) else 1) = m at lb ⊢
    refine ⟨m, rfl, by omega, by omega, for_range (lo := 0) (n := m.toNat) (fun i σ H' => (∃ v1 v2 : Option V, σ = [some (.ref a), v1, v2, none, none, none, none]) ∧ Ext T H H') ⟨⟨none, none, rfl⟩, Ext.refl tabs⟩ ?_ ?_⟩
    · rintro i σ H1 hi ⟨⟨v1, v2, rfl⟩, s1⟩
      refine ⟨_, rfl, _, rfl, a, ns, _, rfl, sql_ext s1.ext ha, by omega, hl, fun d l q nd l0 q0 => ?_⟩
      have Z0 : Dz (upd H1 d (.lst [.int l, .int q, .int 0])) d := ⟨l, q, 0, upd_same, l0, q0, by decide⟩
      have s2 : Ext T H (upd H1 d (.lst [.int l, .int q, .int 0])) := s1.new nd
      have nd0 : H d = none := s1.non d nd
      generalize upd H1 d (.lst [.int l, .int q, .int 0]) = H2 at Z0 s2 ⊢
      refine ⟨_, rfl, d, rfl, Z0, s2.tab, fun H4 Z4 S4 => ⟨_, rfl, iteF ?_⟩⟩
      refine ⟨_, rfl, d, rfl, Z4, S4.tab, fun H5 Z5 S5 => ⟨_, rfl, iteF ?_⟩⟩
      exact ⟨⟨_, _, rfl⟩, Stl.toE s2 (S4.trans S5) nd0⟩
    · rintro σ H1 ⟨⟨v1, v2, rfl⟩, s1⟩
      refine ⟨(by show 1 ≤ sizeLine; decide), fun u1 n1 => ⟨(by show 1 ≤ sizeLine; decide), fun u2 n2 => ⟨(by show 1 ≤ sizeLine; decide), fun u3 n3 => ⟨(by show 1 ≤ sizeLine; decide), fun u4 n4 => ⟨(by show 4 ≤ sizeLine; decide), fun a4 n5 => ⟨(by show 1 ≤ sizeLine; decide), fun e4 n6 => ?_⟩⟩⟩⟩⟩⟩
      generalize hX : upd _ e4 (.tup _) = H2
      have g1 : H2 u1 = some (.tup (nts [1])) := by
        rw [← hX]
        exact keep_new (keep_new (keep_new (keep_new (keep_new upd_same n2) n3) n4) n5) n6
      have g2 : H2 u2 = some (.tup (nts [2])) := by
        rw [← hX]
        exact keep_new (keep_new (keep_new (keep_new upd_same n3) n4) n5) n6
      have g3 : H2 u3 = some (.tup (nts [3])) := by
        rw [← hX]
        exact keep_new (keep_new (keep_new upd_same n4) n5) n6
      have g4 : H2 u4 = some (.tup (nts [2])) := by
        rw [← hX]
        exact keep_new (keep_new upd_same n5) n6
      have g5 : H2 a4 = some (.tup [.ref u1, .ref u2, .ref u3, .ref u4]) := by
        rw [← hX]
        exact keep_new upd_same n6
      have g6 : H2 e4 = some (.tup (nts [3])) := by
        rw [← hX]
        exact upd_same
      have s12 : Same H1 H2 := by
        rw [← hX]
        exact Same.new (Same.new (Same.new (Same.new (Same.new (Same.new (Same.refl H1) n1) n2) n3) n4) n5) n6
      clear hX n1 n2 n3 n4 n5 n6
      intro q dx nq ndx nex
      have s3 : Same H2 (upd (upd H2 dx (.own q)) q (.ins C dx [])) := Same.new (Same.new (Same.refl H2) ndx) (by rw [upd_ne (Ne.symm nex)]; exact nq)
      have T4 : Tups K H2 [.ref u1, .ref u2, .ref u3, .ref u4] tOne := tups4 (SqT.of g1) (SqT.of g2) (SqT.of g3) (SqT.of g4)
      refine ⟨q, dx, a4, e4, "a", [.ref u1, .ref u2, .ref u3, .ref u4], tOne, [3], 4, 1, rfl, upd_same, set_a, by decide, by decide, SqT.of (s3 _ _ g5), T4.same s3, right_one.tb, by decide, by decide, SqT.of (s3 _ _ g6), right_one.up, right_one.lt, fun H3 hq kp => ⟨rfl, ?_⟩⟩
      obtain ⟨Mf, s23⟩ := mach_made (x := "a") (t := tOne) (es := [3]) nq ndx nex hq kp (SqT.of g5) T4 (SqT.of g6)
      clear s3 hq kp nq ndx nex g1 g2 g3 g4 g5 g6 T4
      refine ⟨(by show 1 ≤ sizeLine; decide), fun v1 n1 => ⟨(by show 1 ≤ sizeLine; decide), fun a1 n2 => ?_⟩⟩
      have f1 : (upd (upd H3 v1 (.tup [.int 0])) a1 (.tup [.ref v1])) v1 = some (.tup (nts [0])) := keep_new upd_same n2
      have f2 : (upd (upd H3 v1 (.tup [.int 0])) a1 (.tup [.ref v1])) a1 = some (.tup [.ref v1]) := upd_same
      have s2 : Same H3 (upd (upd H3 v1 (.tup [.int 0])) a1 (.tup [.ref v1])) := Same.new (Same.new (Same.refl H3) n1) n2
      generalize upd (upd H3 v1 (.tup [.int 0])) a1 (.tup [.ref v1]) = H4 at f1 f2 s2 ⊢
      clear n1 n2
      intro q' dx' nq ndx nex
      have s3 : Same H4 (upd (upd H4 dx' (.own q')) q' (.ins C dx' [])) := Same.new (Same.new (Same.refl H4) ndx) (by rw [upd_ne (Ne.symm nex)]; exact nq)
      have T1 : Tups K H4 [.ref v1] tBare := tups1 (SqT.of f1)
      refine ⟨q', dx', a1, b0, "a", [.ref v1], tBare, [], 1, 1, rfl, upd_same, set_a, by decide, by decide, SqT.of (s3 _ _ f2), T1.same s3, right_bare.tb, by decide, by decide, hb0 _, .nil, (fun e he => by cases he), fun H5 hq kp => ⟨rfl, ?_⟩⟩
      obtain ⟨Mb, s45⟩ := mach_made (x := "a") (t := tBare) (es := []) nq ndx nex hq kp (SqT.of f2) T1 (hb0 _)
      have Mf := (Mf.same s2).same s45
      have tab5 : TabsN T H5 := s1.tab.ext (((s12.trans s23).trans s2).trans s45)
      clear s3 hq kp nq ndx nex f1 f2 T1 s2 s45 s12 s23
      refine ⟨_, _, rfl, ?_⟩
      refine ⟨_, rfl, _, rfl, q, q', "a", "a", tOne, tBare, [3], [], 1, rfl, Mf, Mb, right_one, right_bare, word_a, tab5, len_a, fun st H6 hs s6 => ?_⟩
      rw [act_one, act_bare] at hs
      refine ⟨_, rfl, _, rfl, _, rfl, q, q', st, "a", tOne, tBare, [3], [], [1, 2, 3, 2], [0], rfl, Mf.ext s6.ext, Mb.ext s6.ext, by decide, by decide, by decide, by decide, hs, leads_one, leads_bare, fun r1 n b H7 h7 bn ap back s7 => ?_⟩
      obtain ⟨e1, e2⟩ := two_one ap bn back (fun x y hx hy e => far x hx y hy e) (show 2 < 4 by decide) near
      subst e1
      subst e2
      have s67 := s6.same s7
      refine ⟨_, rfl, _, rfl, _, rfl, _, rfl, q, q', st, st, "a", tOne, tBare, [3], [], [1, 2, 3, 2], [0], [1, 2, 3, 2], [0], rfl, Mf.ext s67.ext, Mb.ext s67.ext, by decide, by decide, hs.same s7, hs.same s7, leads_one, leads_one, leads_bare, leads_bare, fun r2 H8 h8 s8 => ?_⟩
      rw [prod_one, prod_bare] at h8
      have s68 := s67.same s8
      refine ⟨_, rfl, _, rfl, (by show 4 ≤ sizeLine; decide), fun w1 m1 => ⟨(by show 1 ≤ sizeLine; decide), fun w2 m2 => ⟨(by show 2 ≤ sizeLine; decide), fun w3 m3 => ?_⟩⟩⟩
      have c1 : (upd (upd (upd H8 w1 (.tup [.int 3, .int 0, .int 0, .int 0])) w2 (.tup [.int 0])) w3 (.tup [.ref w1, .ref w2])) w1 = some (.tup (nts [3, 0, 0, 0])) := keep_new (keep_new upd_same m2) m3
      have c2 : (upd (upd (upd H8 w1 (.tup [.int 3, .int 0, .int 0, .int 0])) w2 (.tup [.int 0])) w3 (.tup [.ref w1, .ref w2])) w2 = some (.tup (nts [0])) := keep_new upd_same m3
      have c3 : (upd (upd (upd H8 w1 (.tup [.int 3, .int 0, .int 0, .int 0])) w2 (.tup [.int 0])) w3 (.tup [.ref w1, .ref w2])) w3 = some (.tup [.ref w1, .ref w2]) := upd_same
      have s9 : Same H8 (upd (upd (upd H8 w1 (.tup [.int 3, .int 0, .int 0, .int 0])) w2 (.tup [.int 0])) w3 (.tup [.ref w1, .ref w2])) := Same.new (Same.new (Same.new (Same.refl H8) m1) m2) m3
      generalize upd (upd (upd H8 w1 (.tup [.int 3, .int 0, .int 0, .int 0])) w2 (.tup [.int 0])) w3 (.tup [.ref w1, .ref w2]) = H9 at c1 c2 c3 s9 ⊢
      clear m1 m2 m3
      have s69 := s68.same s9
      refine ⟨q, q', w3, "a", tOne, tBare, [3], [], [3, 0, 0, 0], [0], rfl, Mf.ext s69.ext, Mb.ext s69.ext, by decide, by decide, by decide, by decide, ⟨w1, w2, SqT.of c3, SqT.of c1, SqT.of c2⟩, leads_hit, leads_bare, fun r3 HA hA sA => ?_⟩
      rw [hit_one, hit_bare] at hA
      refine ⟨(by show 3 ≤ sizeLine; decide), fun L nL => ?_⟩
      refine ⟨_, rfl, (by show 2 ≤ sizeLine; decide), fun x1 o1 => ⟨(by show 4 ≤ sizeLine; decide), fun x2 o2 => ⟨(by show 1 ≤ sizeLine; decide), fun x3 o3 => ⟨(by show 2 ≤ sizeLine; decide), fun x4 o4 => ⟨(by show 2 ≤ sizeLine; decide), fun x5 o5 => ⟨(by show 3 ≤ sizeLine; decide), fun L2 nL2 => ?_⟩⟩⟩⟩⟩⟩
      generalize hX : upd _ L2 (.lst _) = HB
      have i0 : HB L = some (.lst [.ref r1, .ref r2, .ref r3]) := by
        rw [← hX]
        exact keep_new (keep_new (keep_new (keep_new (keep_new (keep_new upd_same o1) o2) o3) o4) o5) nL2
      have i1 : HB x1 = some (.tup (nts [2, 2])) := by
        rw [← hX]
        exact keep_new (keep_new (keep_new (keep_new (keep_new upd_same o2) o3) o4) o5) nL2
      have i2 : HB x2 = some (.tup (nts [2, 3, 2, 3])) := by
        rw [← hX]
        exact keep_new (keep_new (keep_new (keep_new upd_same o3) o4) o5) nL2
      have i3 : HB x3 = some (.tup (nts [0])) := by
        rw [← hX]
        exact keep_new (keep_new (keep_new upd_same o4) o5) nL2
      have i4 : HB x4 = some (.tup [.ref x2, .ref x3]) := by
        rw [← hX]
        exact keep_new (keep_new upd_same o5) nL2
      have i5 : HB x5 = some (.tup [.bl true, .bl false]) := by
        rw [← hX]
        exact keep_new upd_same nL2
      have i6 : HB L2 = some (.lst [.ref x1, .ref x4, .ref x5]) := by
        rw [← hX]
        exact upd_same
      have sB : Same HA HB := by
        rw [← hX]
        exact Same.new (Same.new (Same.new (Same.new (Same.new (Same.new (Same.new (Same.refl HA) nL) o1) o2) o3) o4) o5) nL2
      clear hX o1 o2 o3 o4 o5 nL nL2
      have sAB := sA.trans sB
      refine ⟨dEnd, dEnd, .lst (SqL.of i0) (.cons (.tup (SqT.of (((s8.trans s9).trans sAB) _ _ h7)) (.cons (.int _) (.cons (.int _) .nil))) (.cons (MapAt.dp (z := ([2, 3, 2, 3], [0])) (h8.same (s9.trans sAB))) (.cons (.tup (SqT.of (sB _ _ hA)) (.cons (.bl _) (.cons (.bl _) .nil))) .nil))),
        .lst (SqL.of i6) (.cons (.tup (SqT.of i1) (.cons (.int _) (.cons (.int _) .nil))) (.cons (MapAt.dp (z := ([2, 3, 2, 3], [0])) ⟨x2, x3, SqT.of i4, SqT.of i2, SqT.of i3⟩) (.cons (.tup (SqT.of i5) (.cons (.bl _) (.cons (.bl _) .nil))) .nil))), end_shaped, end_shaped, ?_⟩
      rw [end_eqv]
      exact k _
end
end M3

set_option Elab.async false
set_option linter.all false
set_option maxRecDepth 100000
set_option maxHeartbeats 8000000
/-! # What the top has made, put together -/
namespace M3
open PySem L2
/-- a def of the top: where it stands, what it is -/
structure DefAt (K : PySem.W.Frag) (x : Str) (st : Stmt) : Prop where
  ex : ∃ (f : Addr) (fd : FuncData), Fun K x x st f fd ∧ PySem.W.nsIn K mainGlobals x = some (some (.ref f))
theorem def_mk {K : PySem.W.Frag} {x : Str} {st : Stmt} {f : Addr} {oc : Value} {od an : Option Addr} {osl : Array (Option Value)} {kV doc pm cdv ct : Value} (a : PySem.W.nsIn K mainGlobals x = some (some (.ref f)))
    (l : K.lookup f = some ⟨oc, od, .func (PySem.W.fnOf x x (defArgs st) (defBody st) (defScope st) .none kV doc pm an cdv ct), osl⟩) (c : PySem.W.codeIn K cdv x = true) (k : PySem.W.keepIn K (.ref f) = true) : DefAt K x st := ⟨f, _, fun_mk l c k, a⟩
/-- a method -/
structure MetAt (K : PySem.W.Frag) (C : Addr) (x qual : Str) (st : Stmt) : Prop where
  ex : ∃ (f : Addr) (fd : FuncData), Fun K x qual st f fd ∧ Meth K C x f
theorem met_mk {K : PySem.W.Frag} {C : Addr} {x qual : Str} {st : Stmt} {f : Addr} {oc : Value} {od an : Option Addr} {osl : Array (Option Value)} {kV doc pm cdv ct : Value} (a : PySem.W.findIn K (.ref C) x = some (some (.ref f))) (fn : PySem.W.isFn K (.ref f) = true)
    (l : K.lookup f = some ⟨oc, od, .func (PySem.W.fnOf x qual (defArgs st) (defBody st) (defScope st) .none kV doc pm an cdv ct), osl⟩) (c : PySem.W.codeIn K cdv qual = true) (k : PySem.W.keepIn K (.ref f) = true) : MetAt K C x qual st := ⟨f, _, fun_mk l c k, ⟨a, fn, k⟩⟩
/-- a property -/
structure PropAt (K : PySem.W.Frag) (C : Addr) (x qual : Str) (st : Stmt) : Prop where
  ex : ∃ (p f : Addr) (fd : FuncData), Fun K x qual st f fd ∧ PropOf K C x p f
theorem prop_mk {K : PySem.W.Frag} {C : Addr} {x qual : Str} {st : Stmt} {p f : Addr} {rest : List Value} {oc : Value} {od an : Option Addr} {osl : Array (Option Value)} {kV doc pm cdv ct : Value} (a : PySem.W.findIn K (.ref C) x = some (some (.ref p)))
    (g : PySem.W.specialIn K (.ref p) "__get__" = some (some (.builtin "property.__get__"))) (t : PySem.W.takesIn K (.ref p) = some true) (r : PySem.W.recIn K p "property" = some (.ref f :: rest))
    (l : K.lookup f = some ⟨oc, od, .func (PySem.W.fnOf x qual (defArgs st) (defBody st) (defScope st) .none kV doc pm an cdv ct), osl⟩) (c : PySem.W.codeIn K cdv qual = true) (k : PySem.W.keepIn K (.ref f) = true) : PropAt K C x qual st := ⟨p, f, _, fun_mk l c k, ⟨a, g, t, ⟨rest, r⟩⟩⟩
/-- __init__, its last parameter with a default: an empty tuple -/
structure InitAt (K : PySem.W.Frag) (C : Addr) : Prop where
  ex : ∃ (f b0 : Addr) (fd : FuncData), C8.Fun K "__init__" "Machine.__init__" sInit f fd ∧ Mk K C f ∧ Binds K fd nInit [] ∧ Binds K fd nInit [.ref b0] ∧ ∀ H : Hp, SqT K H b0 []
theorem init_at {K : PySem.W.Frag} {C f T b0 : Addr} {oc tc : Value} {od an td bd : Option Addr} {osl tsl bsl : Array (Option Value)} {kV doc pm cdv ct : Value} {n n' : Nat}
    (i : PySem.W.findIn K (.ref C) "__init__" = some (some (.ref f))) (mk : PySem.W.makesIn K C = true) (fn : PySem.W.isFn K (.ref f) = true) (kp : PySem.W.keepIn K (.ref C) = true)
    (l : K.lookup f = some ⟨oc, od, .func (PySem.W.fnOf "__init__" "Machine.__init__" (C8.fnArgs sInit) (C8.fnBody sInit) (C8.fnScope sInit) (.ref T) kV doc pm an cdv ct), osl⟩) (c : PySem.W.codeIn K cdv "Machine.__init__" = true)
    (lT : K.lookup T = some ⟨tc, td, .seq #[.ref b0] n, tsl⟩) (lB : K.lookup b0 = some ⟨.type "tuple", bd, .seq #[] n', bsl⟩) : InitAt K C := by
  refine ⟨f, b0, _, ⟨_, _, _, _, _, _, _, _, _, _, rfl, l, c⟩, ⟨mk, i, fn, kp⟩, fun s us X hl => ?_, fun s us X hl => ?_, fun H => .inr ⟨_, #[], n', lB, rfl, rfl, Nat.zero_le _, .nil⟩⟩
  · rw [List.append_nil] at hl ⊢
    have hl : us.length = 4 := hl
    match us, hl with
    | [_, _, _, _], _ => exact BindsTo.of_looks fun M => looks_items (its := #[.ref b0]) X lT rfl (.of_pure rfl)
  · rw [List.length_append] at hl
    have hl : us.length + 1 = 4 := hl
    have hl : us.length = 3 := by omega
    match us, hl with
    | [_, _, _], _ => exact BindsTo.of_looks fun M => looks_items (its := #[.ref b0]) X lT rfl (.of_pure rfl)
/-- after, its keyword-only parameter with a default -/
structure AfterAt (K : PySem.W.Frag) (C : Addr) : Prop where
  ex : ∃ (f : Addr) (fd : FuncData) (ds : List Value), C8.Fun K "after" "Machine.after" sAfter f fd ∧ Meth K C "after" f ∧ Vals [.int 1] ds ∧ Binds K fd ["self", "word", "times"] ds ∧ KBn K fd ["self", "word", "times"] 2 ["times"] (fun us ws => us ++ ws) (fun vs zs => vs ++ zs)
theorem vals_app {vs zs : List V} {us ws : List Value} (h : Vals vs us) (k : Vals zs ws) : Vals (vs ++ zs) (us ++ ws) := h.append k
theorem after_at {K : PySem.W.Frag} {C f D : Addr} {oc : Value} {od an : Option Addr} {osl : Array (Option Value)} {doc pm cdv ct : Value} {tk : Tok}
    (i : PySem.W.findIn K (.ref C) "after" = some (some (.ref f))) (fn : PySem.W.isFn K (.ref f) = true) (kp : PySem.W.keepIn K (.ref f) = true)
    (l : K.lookup f = some ⟨oc, od, .func (PySem.W.fnOf "after" "Machine.after" (C8.fnArgs sAfter) (C8.fnBody sAfter) (C8.fnScope sAfter) .none (.ref D) doc pm an cdv ct), osl⟩) (c : PySem.W.codeIn K cdv "Machine.after" = true)
    (lD : PySem.W.nsIn K D "times" = some (some (.int 1 tk))) : AfterAt K C := by
  refine ⟨f, _, [.int 1 tk], ⟨_, _, _, _, _, _, _, _, _, _, rfl, l, c⟩, ⟨i, fn, kp⟩, .cons ⟨tk, rfl⟩ .nil, fun s us X hl => ?_, ⟨fun s us ws X l1 l2 => ?_, fun h k => vals_app h k⟩⟩
  · rw [List.length_append] at hl
    have hl : us.length + 1 = 3 := hl
    have hl : us.length = 2 := by omega
    have hq : ∀ q ∈ [(("times" : Str), Value.int 1 tk)], PySem.W.nsIn K D q.1 = some (some q.2) := fun q hq => by
      rw [List.mem_singleton.mp hq]
      exact lD
    match us, hl with
    | [a, b], _ => exact BindsTo.of_looks fun M => KwChain.looks (D := D) (l := [("times", .int 1 tk)]) X hq ⟨_, _, _, _, _, _, rfl, rfl, rfl⟩
  · have l2 : ws.length = 1 := l2
    match us, ws, l1, l2 with
    | [_, _], [_], _, _ => exact .of_eq rfl
/-- the package's errors over TurnError -/
def errN (K : PySem.W.Frag) (c : Addr) : Bool := PySem.W.keepIn K (.ref c) && (decide (PySem.W.subIn K (.ref c) (.type "BaseException") = some true) && decide (PySem.W.typeIn K (.ref c) = some (.type "type")))
def errB (K : PySem.W.Frag) (c : Addr) : Bool := PySem.W.excIn K c [.type "ValueError", .type "Exception", .type "BaseException", .type "object"] "ValueError.__new__" && errN K c
theorem errR {K : PySem.W.Frag} {mg : Str → Option Value} {nm : Str} {c : Addr} (h : errB K c = true) (g : mg nm = some (.ref c)) : TxR K mg nm c := by
  obtain ⟨h1, h⟩ := Bool.and_eq_true_iff.mp h
  obtain ⟨h2, h⟩ := Bool.and_eq_true_iff.mp h
  obtain ⟨h3, h4⟩ := Bool.and_eq_true_iff.mp h
  exact ⟨h1, g, h2, of_decide_eq_true h3, of_decide_eq_true h4⟩
theorem errE {K : PySem.W.Frag} {mg : Str → Option Value} {c : Addr} (h : errB K c = true) (g : mg "InvalidMachine" = some (.ref c)) : TxE K mg c := by
  obtain ⟨h1, h2, h3, h4, h5⟩ := errR h g
  exact ⟨h1, h2, h3, h4, h5⟩
theorem errN_ok {P : Program} {K : PySem.W.Frag} {mg : Str → Option Value} {c i : Addr} (h : errN K c = true) (t : PySem.NvE.InitTxt P K c i "RuntimeError" "RuntimeError.__init__" "RuntimeError" "RuntimeError.__new__" "value" "InvalidNumber.__init__") (g : mg "InvalidNumber" = some (.ref c)) : TxN P K mg c := by
  obtain ⟨h2, h⟩ := Bool.and_eq_true_iff.mp h
  obtain ⟨h3, h4⟩ := Bool.and_eq_true_iff.mp h
  exact ⟨⟨_, _, _, _, _, _, t⟩, g, h2, of_decide_eq_true h3, of_decide_eq_true h4⟩
/-- the class of machines -/
def clsL (K : PySem.W.Frag) (C : Addr) : List Bool := [PySem.W.plainGet K C Str.empty, PySem.W.hasDictIn K C, PySem.W.plainOver K C, decide (PySem.W.findIn K (.ref C) "__setattr__" = some (some (.builtin "object.__setattr__"))),
  decide (PySem.W.findIn K (.ref C) "_letters" = some none), decide (PySem.W.findIn K (.ref C) "_table" = some none), decide (PySem.W.findIn K (.ref C) "_ends" = some none),
  decide (PySem.W.kitOne K (.ref C) (.type "str") = some false), decide (PySem.W.findIn K (.ref C) "__class__" = some (some (.builtin "object.__class__"))), decide (PySem.W.specialIn K (.builtin "object.__class__") "__get__" = some (some (.builtin "getset_descriptor.__get__"))),
  decide (PySem.W.takesIn K (.builtin "object.__class__") = some true), decide (PySem.W.mroIn K C (.type "object") = some true), decide (PySem.W.kitOne K (.ref C) (.ref C) = some true)]
def clsB (K : PySem.W.Frag) (C : Addr) : Bool := (clsL K C).all id
theorem clsB_ok {K : PySem.W.Frag} {C : Addr} (h : clsB K C = true) : Cls K C ∧ NoAttr K C "_letters" ∧ NoAttr K C "_table" ∧ NoAttr K C "_ends" ∧ TxO K C := by
  have h := List.all_eq_true.mp h
  have q : ∀ (i : Nat) (b : Bool), (clsL K C)[i]? = some b → b = true := fun i b e => h b (List.mem_of_getElem? e)
  exact ⟨⟨q 0 _ rfl, q 1 _ rfl, q 2 _ rfl, of_decide_eq_true (q 3 _ rfl)⟩, (of_decide_eq_true (q 4 _ rfl) : PySem.W.findIn K (.ref C) "_letters" = some none), (of_decide_eq_true (q 5 _ rfl) : PySem.W.findIn K (.ref C) "_table" = some none), (of_decide_eq_true (q 6 _ rfl) : PySem.W.findIn K (.ref C) "_ends" = some none),
    ⟨of_decide_eq_true (q 7 _ rfl), of_decide_eq_true (q 8 _ rfl), of_decide_eq_true (q 9 _ rfl), of_decide_eq_true (q 10 _ rfl), of_decide_eq_true (q 11 _ rfl), of_decide_eq_true (q 12 _ rfl)⟩⟩
/-- TooMany, which keeps the limit -/
def errA (K : PySem.W.Frag) (c : Addr) : Bool := decide (PySem.W.exmOne K (.ref c) (.ref c) = some true) && errN K c
theorem errA_ok {P : Program} {K : PySem.W.Frag} {mg : Str → Option Value} {c i : Addr} (h : errA K c = true) (t : PySem.NvE.InitTxt P K c i "OverflowError" "OverflowError.__init__" "OverflowError" "OverflowError.__new__" "limit" "TooMany.__init__") (g : mg "TooMany" = some (.ref c)) : TxA P K mg "TooMany" "limit" c := by
  obtain ⟨h1, h⟩ := Bool.and_eq_true_iff.mp h
  obtain ⟨h2, h⟩ := Bool.and_eq_true_iff.mp h
  obtain ⟨h3, h4⟩ := Bool.and_eq_true_iff.mp h
  exact ⟨⟨_, _, _, _, _, _, t⟩, g, h2, of_decide_eq_true h3, of_decide_eq_true h4, of_decide_eq_true h1⟩
open PySem.Spec PyProof.Rows in
/-- a law's end, its promise over what the top has left -/
theorem walk_ofK {l : PySem.W.OpenLaw} {n k : Nat} {q : Program} {loose : List Str} {XP : (Str → Option Value) → Heap → Prop} {YP : World → Heap → Prop} {d : PySem.DefRec} {K : Params → PySem.W.Frag} {sp : PySem.W.Frag → Sp} {x : Str}
    (hn : l.most = some n) (hn2 : n ≤ sizeLine) (hdf : d.params.defaults = []) (hr : Room k callerA) (hY : ∀ (w : World) (h : Heap), YP w h → (K w.params).In h)
    (F : ∀ (w : World) (mg : Str → Option Value) (fa : Addr) (h : Heap), (K w.params).In h → h.Ns mainGlobals mg → mg d.name = some (.ref fa) →
      ∃ fd : FuncData, (∀ (s : Shared) (u : Value), BindsTo s fd ⟨[u], []⟩ [(x, u)]) ∧ ∀ base : Heap, (K w.params).In base → base.Ns mainGlobals mg → FnOk l.prog w (K w.params) mg base CX0 k fa fd [x] (sp (K w.params)))
    (hsp : ∀ (K : PySem.W.Frag) (H : Hp) (a : Addr) (ns : List Int), ns.length ≤ n → Only H → SqL K H a (ns.map V.int) → sp K [.ref a] H (fun v _ => v = .bl true) fun _ _ _ => False) :
    PySem.W.WalkO q loose XP YP l.row.toRowW d [] (fun f vs => PySem.call f vs) :=
  walk_of (CX := fun _ => CX0) (sp := fun w => sp (K w.params)) hn hn2 hdf hr hY F (fun w H a ns h1 h2 h3 => hsp (K w.params) H a ns h1 h2 h3) (fun _ _ _ _ _ h => h)

end M3

set_option Elab.async false
set_option linter.all false
set_option maxRecDepth 100000
set_option maxHeartbeats 8000000
/-! # What the top has made: a def whose code object is known; a law's end with tables of code objects -/
namespace M3
open PySem L2 NdefX
structure DefAtC (K : PySem.W.Frag) (x : Str) (st : Stmt) (c : Addr) : Prop where
  ex : ∃ (f : Addr) (fd : FuncData), Fun K x x st f fd ∧ PySem.W.nsIn K mainGlobals x = some (some (.ref f)) ∧ fd.code = .ref c
theorem defc_mk {K : PySem.W.Frag} {x : Str} {st : Stmt} {f c : Addr} {oc : Value} {od an : Option Addr} {osl : Array (Option Value)} {kV doc pm ct : Value} (a : PySem.W.nsIn K mainGlobals x = some (some (.ref f)))
    (l : K.lookup f = some ⟨oc, od, .func (PySem.W.fnOf x x (defArgs st) (defBody st) (defScope st) .none kV doc pm an (.ref c) ct), osl⟩) (c' : PySem.W.codeIn K (.ref c) x = true) (k : PySem.W.keepIn K (.ref f) = true) : DefAtC K x st c := ⟨f, _, fun_mk l c' k, a, rfl⟩
open PySem.Spec PyProof.Rows in
/-- a law's end over one table of code objects: c the code object, P its table -/
theorem lawAt_of {l : PySem.W.OpenLaw} {w : World} {K : PySem.W.Frag} {mg : Str → Option Value} {fa c P : Addr} {h : Heap} {nm : Nat → Nat → Str} {sp : Sp} {k n : Nat} {x : Str}
    (A : ∃ fd : FuncData, (∀ (s : Shared) (v : Value), BindsTo s fd ⟨[v], []⟩ [(x, v)]) ∧ ∀ base : Heap, K.In base → base.Ns mainGlobals mg → LamX.TabB base mg c P → FnOk l.prog w K mg base CX0 k fa fd [x] sp)
    (hsp : ∀ (H : Hp) (a : Addr) (ns : List Int), ns.length ≤ n → TabsN [(P, nm)] H → SqL K H a (ns.map V.int) → sp [.ref a] H (fun v _ => v = .bl true) fun _ _ _ => False)
    (hT : h.get? P = some { cls := .none, data := .fields #[] }) (nT : K.lookup P = none) (hC : PySem.W.CodeHd h c P) : LamX.LawAtS l w K CX0 k n x mg fa h := by
  obtain ⟨fd, hb, hF⟩ := A
  have one : ∀ p ∈ [(c, P)], p = (c, P) := fun p hp => List.mem_singleton.mp hp
  refine ⟨fd, [(c, P)], sp, fun p hp => ?_, fun p hp => ?_, fun p hp => ?_, hb, fun H a ns hl _ hH hS => hsp H a ns hl (fun p hp => ?_) hS, fun base k1 k2 tb => hF base k1 k2 (tb (c, P) (List.mem_singleton.mpr rfl))⟩
  · rw [one p hp]
    exact hT
  · rw [one p hp]
    exact nT
  · rw [one p hp]
    exact hC
  · rw [List.mem_singleton.mp hp]
    exact TabN.nil (hH (c, P) (List.mem_singleton.mpr rfl))
open PySem.Spec PyProof.Rows in
theorem walk_ofKT {l : PySem.W.OpenLaw} {n k : Nat} {q : Program} {loose : List Str} {XP : (Str → Option Value) → Heap → Prop} {YP : World → Heap → Prop} {d : PySem.DefRec} {K : Params → PySem.W.Frag} {x : Str}
    (hn : l.most = some n) (hn2 : n ≤ sizeLine) (hdf : d.params.defaults = []) (hr : Room k callerA) (hY : ∀ (w : World) (h : Heap), YP w h → (K w.params).In h)
    (F : ∀ (w : World) (mg : Str → Option Value) (fa : Addr) (h : Heap), YP w h → (K w.params).In h → h.Ns mainGlobals mg → mg d.name = some (.ref fa) → LamX.LawAtS l w (K w.params) CX0 k n x mg fa h) :
    PySem.W.WalkO q loose XP YP l.row.toRowW d [] (fun f vs => PySem.call f vs) :=
  LamX.walk_ofTs (CX := fun _ => CX0) hn hn2 hdf hr hY F (fun _ _ _ _ _ h => h)
end M3

set_option Elab.async false
set_option linter.all false
set_option maxRecDepth 100000
set_option maxHeartbeats 8000000
/-! # What the top has made, put together (k29) -/
namespace M3
open PySem L2
theorem all_mk {P : Program} {w : World} {K : PySem.W.Frag} {h : Heap} {mg : Str → Option Value} {fa : Addr} (X : K.In h) (G : h.Ns mainGlobals mg) (hfa : mg "law" = some (.ref fa))
    {cAct Pt : Addr}
    (dDice : DefAt K "_law_dice" sDice)
    (dRoll : DefAt K "_law_roll" sRoll)
    (dOneOf : DefAt K "_law_one_of" sOneOf)
    (dMixed : DefAt K "_law_mixed" sMixed)
    (dLetters : DefAt K "_law_letters" sLetters)
    (dWord : DefAt K "_law_word" sWord)
    (dAction : DefAt K "_law_action" sAction)
    (dTable : DefAt K "_law_table" sTable)
    (dMachine : DefAt K "_law_machine" sMachine)
    (dMade : DefAt K "_law_made_machine" sMade)
    (dLawLed : DefAt K "_law_led" sLawLed)
    (dHas : DefAt K "_law_has" sHas)
    (dWild : DefAt K "_law_wild" sWild)
    (dLawRounds : DefAt K "_law_rounds" sLawRounds)
    (dMapsRight : DefAt K "_law_maps_right" sMapsRight)
    (dRight : DefAt K "_law_right" sRight)
    (dLaw : DefAt K "law" sLaw)
    (dBetween : DefAt K "is_between" sBetween)
    (dIsWord : DefAt K "is_word" sIsWord)
    (dHasOnly : DefAt K "has_only" sHasOnly)
    (dIsLetters : DefAt K "is_letters" sIsLetters)
    (dCheck : DefAt K "check_word" sCheck)
    (dOnlyC : DefAt K "check_only" sOnlyC)
    (dIsTable : DefAt K "is_table" sIsTable)
    (dIsLine : DefAt K "is_line" sIsLine)
    (dIsChoice : DefAt K "is_choice" sIsChoice)
    (dCheckM : DefAt K "check_machine" sCheckM)
    (dSameL : DefAt K "check_same_letters" sSameL)
    (dTwo : DefAt K "check_two" sTwo)
    (dComposed : DefAt K "composed" sComposed)
    (dUnmoved : DefAt K "unmoved" sUnmoved)
    (dLedOn : DefAt K "led_on" sLedOn)
    (dActed : DefAtC K "acted" sActed cAct)
    (dWalked : DefAt K "walked" sWalked)
    (dRepeats : DefAt K "repeats" sRepeats)
    (dImageOf : DefAt K "image_of" sImageOf)
    (dImage : DefAt K "image" sImage)
    (dIsMapOf : DefAt K "is_map_of" sIsMapOf)
    (dCheckMap : DefAt K "check_map" sCheckMap)
    (dMapProd : DefAt K "map_product" sMapProd)
    (dProduct : DefAt K "product" sProduct)
    (dRounds : DefAt K "rounds" sRounds)
    (dHitsOf : DefAt K "hits_of" sHitsOf)
    (dHits : DefAt K "hits" sHits)
    {C cM cW cO : Addr}
    (gC : PySem.W.nsIn K mainGlobals "Machine" = some (some (.ref C)))
    (gM : PySem.W.nsIn K mainGlobals "InvalidMachine" = some (some (.ref cM)))
    (gW : PySem.W.nsIn K mainGlobals "InvalidWord" = some (some (.ref cW)))
    (gO : PySem.W.nsIn K mainGlobals "InvalidOperation" = some (some (.ref cO)))
    (eM : errB K cM = true)
    (eW : errB K cW = true)
    (eO : errB K cO = true)
    (hC : clsB K C = true)
    (mI : InitAt K C)
    (pPropL : PropAt K C "letters" "Machine.letters" sPropL)
    (pPropT : PropAt K C "table" "Machine.table" sPropT)
    (pPropE : PropAt K C "ends" "Machine.ends" sPropE)
    (mLen : MetAt K C "__len__" "Machine.__len__" sLen)
    {ta tl ts : Tok}
    (vA : PySem.W.nsIn K mainGlobals "ALPHABET" = some (some (.str "abcdefghijklmnopqrstuvwxyz" ta)))
    (vL : PySem.W.nsIn K mainGlobals "MAX_LETTERS" = some (some (.int 2 tl)))
    (vS : PySem.W.nsIn K mainGlobals "MAX_STATES" = some (some (.int 4 ts)))
    (z_isinstance : PySem.W.nsIn K mainGlobals "isinstance" = some none)
    (z_bool : PySem.W.nsIn K mainGlobals "bool" = some none)
    (z_int : PySem.W.nsIn K mainGlobals "int" = some none)
    (z_str : PySem.W.nsIn K mainGlobals "str" = some none)
    (z_tuple : PySem.W.nsIn K mainGlobals "tuple" = some none)
    (z_all : PySem.W.nsIn K mainGlobals "all" = some none)
    (z_abs : PySem.W.nsIn K mainGlobals "abs" = some none)
    (z_len : PySem.W.nsIn K mainGlobals "len" = some none)
    (z_list : PySem.W.nsIn K mainGlobals "list" = some none)
    (z_sorted : PySem.W.nsIn K mainGlobals "sorted" = some none)
    (z_range : PySem.W.nsIn K mainGlobals "range" = some none)
    (z_zip : PySem.W.nsIn K mainGlobals "zip" = some none)
    (z_max : PySem.W.nsIn K mainGlobals "max" = some none)
    (z_min : PySem.W.nsIn K mainGlobals "min" = some none)
    : ∃ fd : FuncData, (∀ (s : Shared) (v : Value), BindsTo s fd ⟨[v], []⟩ [("script", v)]) ∧ ∀ base : Heap, K.In base → base.Ns mainGlobals mg → LamX.TabB base mg cAct Pt → FnOk P w K mg base CX0 8 fa fd ["script"] (spLaw K [(Pt, nmActed)]) := by
  obtain ⟨fDice, DDice, FDice, aDice⟩ := dDice.ex
  have mDice_ := PySem.W.mg_of X G aDice
  have bDice := FDice.binds (ps := ["script", "at"]) fun _ _ _ _ _ _ us hl => match us, hl with | [_, _], _ => rfl
  obtain ⟨fRoll, DRoll, FRoll, aRoll⟩ := dRoll.ex
  have mRoll_ := PySem.W.mg_of X G aRoll
  have bRoll := FRoll.binds (ps := ["dice", "total"]) fun _ _ _ _ _ _ us hl => match us, hl with | [_, _], _ => rfl
  obtain ⟨fOneOf, DOneOf, FOneOf, aOneOf⟩ := dOneOf.ex
  have mOneOf_ := PySem.W.mg_of X G aOneOf
  have bOneOf := FOneOf.binds (ps := ["dice", "items"]) fun _ _ _ _ _ _ us hl => match us, hl with | [_, _], _ => rfl
  obtain ⟨fMixed, DMixed, FMixed, aMixed⟩ := dMixed.ex
  have mMixed_ := PySem.W.mg_of X G aMixed
  have bMixed := FMixed.binds (ps := ["dice", "items"]) fun _ _ _ _ _ _ us hl => match us, hl with | [_, _], _ => rfl
  obtain ⟨fLetters, DLetters, FLetters, aLetters⟩ := dLetters.ex
  have mLetters_ := PySem.W.mg_of X G aLetters
  have bLetters := FLetters.binds (ps := ["dice", "total"]) fun _ _ _ _ _ _ us hl => match us, hl with | [_, _], _ => rfl
  obtain ⟨fWord, DWord, FWord, aWord⟩ := dWord.ex
  have mWord_ := PySem.W.mg_of X G aWord
  have bWord := FWord.binds (ps := ["dice", "letters", "most"]) fun _ _ _ _ _ _ us hl => match us, hl with | [_, _, _], _ => rfl
  obtain ⟨fAction, DAction, FAction, aAction⟩ := dAction.ex
  have mAction_ := PySem.W.mg_of X G aAction
  have bAction := FAction.binds (ps := ["dice", "size", "sort"]) fun _ _ _ _ _ _ us hl => match us, hl with | [_, _, _], _ => rfl
  obtain ⟨fTable, DTable, FTable, aTable⟩ := dTable.ex
  have mTable_ := PySem.W.mg_of X G aTable
  have bTable := FTable.binds (ps := ["dice", "letters", "size", "sorts"]) fun _ _ _ _ _ _ us hl => match us, hl with | [_, _, _, _], _ => rfl
  obtain ⟨fMachine, DMachine, FMachine, aMachine⟩ := dMachine.ex
  have mMachine_ := PySem.W.mg_of X G aMachine
  have bMachine := FMachine.binds (ps := ["dice", "letters", "states"]) fun _ _ _ _ _ _ us hl => match us, hl with | [_, _, _], _ => rfl
  obtain ⟨fMade, DMade, FMade, aMade⟩ := dMade.ex
  have mMade_ := PySem.W.mg_of X G aMade
  have bMade := FMade.binds (ps := ["plain"]) fun _ _ _ _ _ _ us hl => match us, hl with | [_], _ => rfl
  obtain ⟨fLawLed, DLawLed, FLawLed, aLawLed⟩ := dLawLed.ex
  have mLawLed_ := PySem.W.mg_of X G aLawLed
  have bLawLed := FLawLed.binds (ps := ["table", "letters", "word", "start"]) fun _ _ _ _ _ _ us hl => match us, hl with | [_, _, _, _], _ => rfl
  obtain ⟨fHas, DHas, FHas, aHas⟩ := dHas.ex
  have mHas_ := PySem.W.mg_of X G aHas
  have bHas := FHas.binds (ps := ["plain", "word"]) fun _ _ _ _ _ _ us hl => match us, hl with | [_, _], _ => rfl
  obtain ⟨fWild, DWild, FWild, aWild⟩ := dWild.ex
  have mWild_ := PySem.W.mg_of X G aWild
  have bWild := FWild.binds (ps := ["dice", "one", "other"]) fun _ _ _ _ _ _ us hl => match us, hl with | [_, _, _], _ => rfl
  obtain ⟨fLawRounds, DLawRounds, FLawRounds, aLawRounds⟩ := dLawRounds.ex
  have mLawRounds_ := PySem.W.mg_of X G aLawRounds
  have bLawRounds := FLawRounds.binds (ps := ["step"]) fun _ _ _ _ _ _ us hl => match us, hl with | [_], _ => rfl
  obtain ⟨fMapsRight, DMapsRight, FMapsRight, aMapsRight⟩ := dMapsRight.ex
  have mMapsRight_ := PySem.W.mg_of X G aMapsRight
  have bMapsRight := FMapsRight.binds (ps := ["dice", "one", "other", "left", "right"]) fun _ _ _ _ _ _ us hl => match us, hl with | [_, _, _, _, _], _ => rfl
  obtain ⟨fRight, DRight, FRight, aRight⟩ := dRight.ex
  have mRight_ := PySem.W.mg_of X G aRight
  have bRight := FRight.binds (ps := ["dice"]) fun _ _ _ _ _ _ us hl => match us, hl with | [_], _ => rfl
  obtain ⟨fLaw, DLaw, FLaw, aLaw⟩ := dLaw.ex
  have mLaw_ := PySem.W.mg_of X G aLaw
  have bLaw := FLaw.binds (ps := ["script"]) fun _ _ _ _ _ _ us hl => match us, hl with | [_], _ => rfl
  obtain ⟨fBetween, DBetween, FBetween, aBetween⟩ := dBetween.ex
  have mBetween_ := PySem.W.mg_of X G aBetween
  have bBetween := FBetween.binds (ps := ["value", "low", "high"]) fun _ _ _ _ _ _ us hl => match us, hl with | [_, _, _], _ => rfl
  obtain ⟨fIsWord, DIsWord, FIsWord, aIsWord⟩ := dIsWord.ex
  have mIsWord_ := PySem.W.mg_of X G aIsWord
  have bIsWord := FIsWord.binds (ps := ["value"]) fun _ _ _ _ _ _ us hl => match us, hl with | [_], _ => rfl
  obtain ⟨fHasOnly, DHasOnly, FHasOnly, aHasOnly⟩ := dHasOnly.ex
  have mHasOnly_ := PySem.W.mg_of X G aHasOnly
  have bHasOnly := FHasOnly.binds (ps := ["word", "letters"]) fun _ _ _ _ _ _ us hl => match us, hl with | [_, _], _ => rfl
  obtain ⟨fIsLetters, DIsLetters, FIsLetters, aIsLetters⟩ := dIsLetters.ex
  have mIsLetters_ := PySem.W.mg_of X G aIsLetters
  have bIsLetters := FIsLetters.binds (ps := ["value"]) fun _ _ _ _ _ _ us hl => match us, hl with | [_], _ => rfl
  obtain ⟨fCheck, DCheck, FCheck, aCheck⟩ := dCheck.ex
  have mCheck_ := PySem.W.mg_of X G aCheck
  have bCheck := FCheck.binds (ps := ["value"]) fun _ _ _ _ _ _ us hl => match us, hl with | [_], _ => rfl
  obtain ⟨fOnlyC, DOnlyC, FOnlyC, aOnlyC⟩ := dOnlyC.ex
  have mOnlyC_ := PySem.W.mg_of X G aOnlyC
  have bOnlyC := FOnlyC.binds (ps := ["word", "letters"]) fun _ _ _ _ _ _ us hl => match us, hl with | [_, _], _ => rfl
  obtain ⟨fIsTable, DIsTable, FIsTable, aIsTable⟩ := dIsTable.ex
  have mIsTable_ := PySem.W.mg_of X G aIsTable
  have bIsTable := FIsTable.binds (ps := ["value", "width", "most"]) fun _ _ _ _ _ _ us hl => match us, hl with | [_, _, _], _ => rfl
  obtain ⟨fIsLine, DIsLine, FIsLine, aIsLine⟩ := dIsLine.ex
  have mIsLine_ := PySem.W.mg_of X G aIsLine
  have bIsLine := FIsLine.binds (ps := ["value", "width", "size"]) fun _ _ _ _ _ _ us hl => match us, hl with | [_, _, _], _ => rfl
  obtain ⟨fIsChoice, DIsChoice, FIsChoice, aIsChoice⟩ := dIsChoice.ex
  have mIsChoice_ := PySem.W.mg_of X G aIsChoice
  have bIsChoice := FIsChoice.binds (ps := ["value", "size"]) fun _ _ _ _ _ _ us hl => match us, hl with | [_, _], _ => rfl
  obtain ⟨fCheckM, DCheckM, FCheckM, aCheckM⟩ := dCheckM.ex
  have mCheckM_ := PySem.W.mg_of X G aCheckM
  have bCheckM := FCheckM.binds (ps := ["value"]) fun _ _ _ _ _ _ us hl => match us, hl with | [_], _ => rfl
  obtain ⟨fSameL, DSameL, FSameL, aSameL⟩ := dSameL.ex
  have mSameL_ := PySem.W.mg_of X G aSameL
  have bSameL := FSameL.binds (ps := ["one", "other"]) fun _ _ _ _ _ _ us hl => match us, hl with | [_, _], _ => rfl
  obtain ⟨fTwo, DTwo, FTwo, aTwo⟩ := dTwo.ex
  have mTwo_ := PySem.W.mg_of X G aTwo
  have bTwo := FTwo.binds (ps := ["one", "other"]) fun _ _ _ _ _ _ us hl => match us, hl with | [_, _], _ => rfl
  obtain ⟨fComposed, DComposed, FComposed, aComposed⟩ := dComposed.ex
  have mComposed_ := PySem.W.mg_of X G aComposed
  have bComposed := FComposed.binds (ps := ["first", "second"]) fun _ _ _ _ _ _ us hl => match us, hl with | [_, _], _ => rfl
  obtain ⟨fUnmoved, DUnmoved, FUnmoved, aUnmoved⟩ := dUnmoved.ex
  have mUnmoved_ := PySem.W.mg_of X G aUnmoved
  have bUnmoved := FUnmoved.binds (ps := ["table"]) fun _ _ _ _ _ _ us hl => match us, hl with | [_], _ => rfl
  obtain ⟨fLedOn, DLedOn, FLedOn, aLedOn⟩ := dLedOn.ex
  have mLedOn_ := PySem.W.mg_of X G aLedOn
  have bLedOn := FLedOn.binds (ps := ["table", "states", "column"]) fun _ _ _ _ _ _ us hl => match us, hl with | [_, _, _], _ => rfl
  obtain ⟨fActed, DActed, FActed, aActed, cAct_⟩ := dActed.ex
  have mActed_ := PySem.W.mg_of X G aActed
  have bActed := FActed.binds (ps := ["table", "letters", "word"]) fun _ _ _ _ _ _ us hl => match us, hl with | [_, _, _], _ => rfl
  obtain ⟨fWalked, DWalked, FWalked, aWalked⟩ := dWalked.ex
  have mWalked_ := PySem.W.mg_of X G aWalked
  have bWalked := FWalked.binds (ps := ["start", "step", "word"]) fun _ _ _ _ _ _ us hl => match us, hl with | [_, _, _], _ => rfl
  obtain ⟨fRepeats, DRepeats, FRepeats, aRepeats⟩ := dRepeats.ex
  have mRepeats_ := PySem.W.mg_of X G aRepeats
  have bRepeats := FRepeats.binds (ps := ["action"]) fun _ _ _ _ _ _ us hl => match us, hl with | [_], _ => rfl
  obtain ⟨fImageOf, DImageOf, FImageOf, aImageOf⟩ := dImageOf.ex
  have mImageOf_ := PySem.W.mg_of X G aImageOf
  have bImageOf := FImageOf.binds (ps := ["one", "other", "word"]) fun _ _ _ _ _ _ us hl => match us, hl with | [_, _, _], _ => rfl
  obtain ⟨fImage, DImage, FImage, aImage⟩ := dImage.ex
  have mImage_ := PySem.W.mg_of X G aImage
  have bImage := FImage.binds (ps := ["one", "other", "word"]) fun _ _ _ _ _ _ us hl => match us, hl with | [_, _, _], _ => rfl
  obtain ⟨fIsMapOf, DIsMapOf, FIsMapOf, aIsMapOf⟩ := dIsMapOf.ex
  have mIsMapOf_ := PySem.W.mg_of X G aIsMapOf
  have bIsMapOf := FIsMapOf.binds (ps := ["one", "other", "value"]) fun _ _ _ _ _ _ us hl => match us, hl with | [_, _, _], _ => rfl
  obtain ⟨fCheckMap, DCheckMap, FCheckMap, aCheckMap⟩ := dCheckMap.ex
  have mCheckMap_ := PySem.W.mg_of X G aCheckMap
  have bCheckMap := FCheckMap.binds (ps := ["one", "other", "value"]) fun _ _ _ _ _ _ us hl => match us, hl with | [_, _, _], _ => rfl
  obtain ⟨fMapProd, DMapProd, FMapProd, aMapProd⟩ := dMapProd.ex
  have mMapProd_ := PySem.W.mg_of X G aMapProd
  have bMapProd := FMapProd.binds (ps := ["left", "right"]) fun _ _ _ _ _ _ us hl => match us, hl with | [_, _], _ => rfl
  obtain ⟨fProduct, DProduct, FProduct, aProduct⟩ := dProduct.ex
  have mProduct_ := PySem.W.mg_of X G aProduct
  have bProduct := FProduct.binds (ps := ["one", "other", "left", "right"]) fun _ _ _ _ _ _ us hl => match us, hl with | [_, _, _, _], _ => rfl
  obtain ⟨fRounds, DRounds, FRounds, aRounds⟩ := dRounds.ex
  have mRounds_ := PySem.W.mg_of X G aRounds
  have bRounds := FRounds.binds (ps := ["one", "other", "leads"]) fun _ _ _ _ _ _ us hl => match us, hl with | [_, _, _], _ => rfl
  obtain ⟨fHitsOf, DHitsOf, FHitsOf, aHitsOf⟩ := dHitsOf.ex
  have mHitsOf_ := PySem.W.mg_of X G aHitsOf
  have bHitsOf := FHitsOf.binds (ps := ["one", "other", "leads"]) fun _ _ _ _ _ _ us hl => match us, hl with | [_, _, _], _ => rfl
  obtain ⟨fHits, DHits, FHits, aHits⟩ := dHits.ex
  have mHits_ := PySem.W.mg_of X G aHits
  have bHits := FHits.binds (ps := ["one", "other", "leads"]) fun _ _ _ _ _ _ us hl => match us, hl with | [_, _, _], _ => rfl
  obtain ⟨qPropL, fPropL, DPropL, FPropL, QPropL⟩ := pPropL.ex
  have bPropL := FPropL.binds (ps := ["self"]) fun _ _ _ _ _ _ us hl => match us, hl with | [_], _ => rfl
  obtain ⟨qPropT, fPropT, DPropT, FPropT, QPropT⟩ := pPropT.ex
  have bPropT := FPropT.binds (ps := ["self"]) fun _ _ _ _ _ _ us hl => match us, hl with | [_], _ => rfl
  obtain ⟨qPropE, fPropE, DPropE, FPropE, QPropE⟩ := pPropE.ex
  have bPropE := FPropE.binds (ps := ["self"]) fun _ _ _ _ _ _ us hl => match us, hl with | [_], _ => rfl
  obtain ⟨fLen, DLen, FLen, MLen⟩ := mLen.ex
  have bLen := FLen.binds (ps := ["self"]) fun _ _ _ _ _ _ us hl => match us, hl with | [_], _ => rfl
  have e := hfa.symm.trans mLaw_
  cases e
  have TI : TxI mg := ⟨PySem.W.mg_none_of X G z_int, PySem.W.mg_none_of X G z_abs, PySem.W.mg_none_of X G z_len⟩
  have TM : TxM mg := ⟨PySem.W.mg_none_of X G z_list, PySem.W.mg_none_of X G z_sorted, PySem.W.mg_none_of X G z_range, PySem.W.mg_none_of X G z_tuple, PySem.W.mg_none_of X G z_len⟩
  have TW : TxW mg := ⟨PySem.W.mg_none_of X G z_isinstance, PySem.W.mg_none_of X G z_bool, PySem.W.mg_none_of X G z_int, PySem.W.mg_none_of X G z_str, PySem.W.mg_none_of X G z_tuple, PySem.W.mg_none_of X G z_all, ⟨_, PySem.W.mg_of X G vA⟩⟩
  have TZ : TxZ mg := ⟨PySem.W.mg_none_of X G z_zip, PySem.W.mg_none_of X G z_len, ⟨_, PySem.W.mg_of X G vL⟩⟩
  have TL : TxL mg := ⟨PySem.W.mg_none_of X G z_max, PySem.W.mg_none_of X G z_min⟩
  obtain ⟨cl, nL, nT, nE, TO⟩ := clsB_ok hC
  have TK : TxK K mg C := ⟨cl, nL, nT, nE, ⟨_, PySem.W.mg_of X G vS⟩⟩
  have TE : TxE K mg cM := errE eM (PySem.W.mg_of X G gM)
  have TRM : TxR K mg "InvalidMachine" cM := errR eM (PySem.W.mg_of X G gM)
  have TRW : TxR K mg "InvalidWord" cW := errR eW (PySem.W.mg_of X G gW)
  have TRO : TxR K mg "InvalidOperation" cO := errR eO (PySem.W.mg_of X G gO)
  have mC := PySem.W.mg_of X G gC
  have DD : DefsD K mg := ⟨fRoll, fOneOf, DRoll, DOneOf, FRoll, bRoll, mRoll_, FOneOf, bOneOf, mOneOf_⟩
  have DM : DefsM K mg := ⟨fAction, fTable, DAction, DTable, FAction, bAction, mAction_, FTable, bTable, mTable_⟩
  have DW : DefsW K mg := ⟨fBetween, fIsWord, fHasOnly, DBetween, DIsWord, DHasOnly, FBetween, bBetween, mBetween_, FIsWord, bIsWord, mIsWord_, FHasOnly, bHasOnly, mHasOnly_⟩
  have DT : DefsT K mg := ⟨fIsLetters, fIsTable, fIsLine, fIsChoice, DIsLetters, DIsTable, DIsLine, DIsChoice, FIsLetters, bIsLetters, mIsLetters_, FIsTable, bIsTable, mIsTable_, FIsLine, bIsLine, mIsLine_, FIsChoice, bIsChoice, mIsChoice_⟩
  obtain ⟨fI, b0, DI, FI, MKI, bI, bI1, hb0⟩ := mI.ex
  refine ⟨DLaw, ?_, fun base _ _ TB => ?_⟩
  rotate_left
  · have GI : FnOk P w K mg base CX0 4 fI DI nInit (spInit K C) := ok_init FI DT DW TW TZ TE TK
    let cDice : FnC P w K mg base 1 "_law_dice" ["script", "at"] (spDice K) := ⟨fDice, DDice, ok_dice FDice TI, bDice, mDice_, FDice.kp⟩
    let cRoll : FnC P w K mg base 1 "_law_roll" ["dice", "total"] spDraw := ⟨fRoll, DRoll, ok_draw FRoll TI, bRoll, mRoll_, FRoll.kp⟩
    let cLetters : FnC P w K mg base 3 "_law_letters" ["dice", "total"] spLetters := ⟨fLetters, DLetters, ok_letters FLetters FMixed bMixed mMixed_ DD TI TM, bLetters, mLetters_, FLetters.kp⟩
    let cWord : FnC P w K mg base 3 "_law_word" ["dice", "letters", "most"] spWord := ⟨fWord, DWord, ok_word FWord DD TI TM, bWord, mWord_, FWord.kp⟩
    let cMachine : FnC P w K mg base 4 "_law_machine" ["dice", "letters", "states"] spMachineF := ⟨fMachine, DMachine, ok_machineF FMachine DD DM TI TM, bMachine, mMachine_, FMachine.kp⟩
    let cMade : FnC P w K mg base 6 "_law_made_machine" ["plain"] (spMade K C) := ⟨fMade, DMade, ok_made FMade FI bI MKI mC DT DW TW TZ TM TE TK, bMade, mMade_, FMade.kp⟩
    let pL : PrC P w K mg base C 1 "letters" (spPropL K C) := ⟨qPropL, fPropL, DPropL, QPropL, ok_propL FPropL TK, bPropL⟩
    let pT : PrC P w K mg base C 1 "table" (spPropT K C) := ⟨qPropT, fPropT, DPropT, QPropT, ok_propT FPropT TK, bPropT⟩
    let pE : PrC P w K mg base C 1 "ends" (spPropE K C) := ⟨qPropE, fPropE, DPropE, QPropE, ok_propE FPropE TK, bPropE⟩
    have GLen : FnOk P w K mg base CX0 1 fLen DLen ["self"] (spLen K C) := ok_len FLen TZ TK
    let cHas : FnC P w K mg base 2 "_law_has" ["plain", "word"] (spHas K) := ⟨fHas, DHas, ok_has FHas FLawLed bLawLed mLawLed_, bHas, mHas_, FHas.kp⟩
    let cCheckM : FnC P w K mg base 1 "check_machine" ["value"] (spCheckM K C) := ⟨fCheckM, DCheckM, ok_checkm FCheckM TW TK TO mC TRM, bCheckM, mCheckM_, FCheckM.kp⟩
    let cCheck : FnC P w K mg base 3 "check_word" ["value"] spCheck := ⟨fCheck, DCheck, ok_check FCheck DW TW TRW, bCheck, mCheck_, FCheck.kp⟩
    let cOnlyC : FnC P w K mg base 2 "check_only" ["word", "letters"] spOnlyC := ⟨fOnlyC, DOnlyC, ok_onlyc FOnlyC DW TW TRO, bOnlyC, mOnlyC_, FOnlyC.kp⟩
    let cSame : FnC P w K mg base 3 "check_same_letters" ["one", "other"] (spTwo K C) := ⟨fSameL, DSameL, ok_samel FSameL pL TK TRO, bSameL, mSameL_, FSameL.kp⟩
    let cTwo : FnC P w K mg base 4 "check_two" ["one", "other"] (spTwo K C) := ⟨fTwo, DTwo, ok_two FTwo cCheckM cSame, bTwo, mTwo_, FTwo.kp⟩
    let cLine : FnC P w K mg base 2 "is_line" ["value", "width", "size"] (spIsLine K) := ⟨fIsLine, DIsLine, ok_isline FIsLine DW TW TZ, bIsLine, mIsLine_, FIsLine.kp⟩
    let cIsMap : FnC P w K mg base 3 "is_map_of" ["one", "other", "value"] (spIsMapOf K C) := ⟨fIsMapOf, DIsMapOf, ok_ismapof FIsMapOf cLine fLen DLen GLen bLen MLen TK TW TM, bIsMapOf, mIsMapOf_, FIsMapOf.kp⟩
    let cCheckMap : FnC P w K mg base 4 "check_map" ["one", "other", "value"] (spCheckMap K C) := ⟨fCheckMap, DCheckMap, ok_checkmap FCheckMap cIsMap TRO, bCheckMap, mCheckMap_, FCheckMap.kp⟩
    let cComposed : FnC P w K mg base 1 "composed" ["first", "second"] (spComposed K) := ⟨fComposed, DComposed, ok_composed FComposed TM, bComposed, mComposed_, FComposed.kp⟩
    let cMapProd : FnC P w K mg base 2 "map_product" ["left", "right"] (spMapProd K) := ⟨fMapProd, DMapProd, ok_mapprod FMapProd cComposed, bMapProd, mMapProd_, FMapProd.kp⟩
    let cProduct : FnC P w K mg base 5 "product" ["one", "other", "left", "right"] (spProduct K C) := ⟨fProduct, DProduct, ok_product FProduct cTwo cCheckMap cMapProd, bProduct, mProduct_, FProduct.kp⟩
    have hin : ((Pt, nmActed) : NdefX.NTab) ∈ [(Pt, nmActed)] := List.mem_singleton.mpr rfl
    have hun : ∀ p ∈ ([(Pt, nmActed)] : List NdefX.NTab), p.1 = Pt → p.2 = nmActed := fun p hp _ => by rw [List.mem_singleton.mp hp]
    let cActed : FnC P w K mg base 4 "acted" ["table", "letters", "word"] (spActed K [(Pt, nmActed)]) := ⟨fActed, DActed, ok_acted FActed cAct_ TB hin hun FUnmoved bUnmoved mUnmoved_ FLedOn bLedOn mLedOn_ FWalked bWalked mWalked_ TM, bActed, mActed_, FActed.kp⟩
    let cImageOf : FnC P w K mg base 5 "image_of" ["one", "other", "word"] (spImageOf K [(Pt, nmActed)] C) := ⟨fImageOf, DImageOf, ok_imageof FImageOf cActed pL pT TK, bImageOf, mImageOf_, FImageOf.kp⟩
    let cImage : FnC P w K mg base 6 "image" ["one", "other", "word"] (spImageOf K [(Pt, nmActed)] C) := ⟨fImage, DImage, ok_image FImage cTwo cCheck cOnlyC cImageOf pL TK, bImage, mImage_, FImage.kp⟩
    let cHitsOf : FnC P w K mg base 3 "hits_of" ["one", "other", "leads"] (spHits K C) := ⟨fHitsOf, DHitsOf, ok_hitsof FHitsOf pE TK, bHitsOf, mHitsOf_, FHitsOf.kp⟩
    let cHits : FnC P w K mg base 5 "hits" ["one", "other", "leads"] (spHits K C) := ⟨fHits, DHits, ok_hits FHits cTwo cCheckMap cHitsOf, bHits, mHits_, FHits.kp⟩
    let cRepeats : FnC P w K mg base 2 "repeats" ["action"] (spRepeats K) := ⟨fRepeats, DRepeats, ok_repeats FRepeats FComposed bComposed mComposed_ TM, bRepeats, mRepeats_, FRepeats.kp⟩
    let cRounds : FnC P w K mg base 5 "rounds" ["one", "other", "leads"] (spRounds K C) := ⟨fRounds, DRounds, ok_rounds FRounds cTwo cCheckMap cRepeats fLen DLen GLen bLen MLen TK TM TL.max, bRounds, mRounds_, FRounds.kp⟩
    let cWild : FnC P w K mg base 2 "_law_wild" ["dice", "one", "other"] (spWild K) := ⟨fWild, DWild, ok_wild FWild cRoll TM, bWild, mWild_, FWild.kp⟩
    let cLawRounds : FnC P w K mg base 1 "_law_rounds" ["step"] (spLawRounds K) := ⟨fLawRounds, DLawRounds, ok_lawrounds FLawRounds TM, bLawRounds, mLawRounds_, FLawRounds.kp⟩
    let cMapsRight : FnC P w K mg base 6 "_law_maps_right" ["dice", "one", "other", "left", "right"] (spMapsRight K C) := ⟨fMapsRight, DMapsRight, ok_mapsright FMapsRight cWild cProduct cRounds cLawRounds cHits TM, bMapsRight, mMapsRight_, FMapsRight.kp⟩
    let cRight : FnC P w K mg base 7 "_law_right" ["dice"] (spRight [(Pt, nmActed)]) := ⟨fRight, DRight, ok_right FRight cRoll cLetters cMachine cMade cMapsRight cWord cImage cProduct cRounds cHits cHas TM, bRight, mRight_, FRight.kp⟩
    exact ok_law FLaw cDice cRight MKI GI bI bI1 hb0 mC cImage cProduct cRounds cHits TK TM TL
  · obtain ⟨oc, od, kV, doc, pm, an, cdv, ct, osl, el, lk, hcd⟩ := FLaw.ex
    subst el
    exact fun s v => .of_eq rfl
end M3

set_option Elab.async false
set_option linter.all false
set_option maxRecDepth 100000
open PySem PySem.W PyProof.Rows
set_option maxHeartbeats 0 in
theorem PySem.Challenge.cw_neverturns_k29_products_of_maps_holds : PySem.Challenge.rw_neverturns_k29_products_of_maps.Holds := by
  w_on; o_law; k_head; (case hw => w_witness2)
  k_fill
  refine M3.walk_ofKT (l := PySem.Challenge.rw_neverturns_k29_products_of_maps) (n := 63) (k := 8) (x := "script") rfl (by decide) rfl ⟨rfl, by decide, by decide⟩ (fun w h Y => PySem.W.km_in_of Y) ?F
  intro w mg fa h Y KX G hmg
  refine M3.lawAt_of (c := ?nvcc) (P := _) (nm := M3.nmActed) (sp := M3.spLaw _ [(_, M3.nmActed)]) ?nvA (fun H a ns hl hT hS => ⟨a, ns, rfl, hT, hS, hl, fun _ => rfl⟩) (PySem.W.km_tabs_of Y _ (.head _)) ?nvN ?nvC
  case nvN => kernel_rfl
  case nvA =>
    refine' M3.all_mk KX G hmg ?nvdDice ?nvdRoll ?nvdOneOf ?nvdMixed ?nvdLetters ?nvdWord ?nvdAction ?nvdTable ?nvdMachine ?nvdMade ?nvdLawLed ?nvdHas ?nvdWild ?nvdLawRounds ?nvdMapsRight ?nvdRight ?nvdLaw ?nvdBetween ?nvdIsWord ?nvdHasOnly ?nvdIsLetters ?nvdCheck ?nvdOnlyC ?nvdIsTable ?nvdIsLine ?nvdIsChoice ?nvdCheckM ?nvdSameL ?nvdTwo ?nvdComposed ?nvdUnmoved ?nvdLedOn ?nvdActed ?nvdWalked ?nvdRepeats ?nvdImageOf ?nvdImage ?nvdIsMapOf ?nvdCheckMap ?nvdMapProd ?nvdProduct ?nvdRounds ?nvdHitsOf ?nvdHits ?nvgC ?nvgM ?nvgW ?nvgO ?nveM ?nveW ?nveO ?nvhC ?nvmI ?nvpPropL ?nvpPropT ?nvpPropE ?nvmLen ?nvvA ?nvvL ?nvvS ?nvz_isinstance ?nvz_bool ?nvz_int ?nvz_str ?nvz_tuple ?nvz_all ?nvz_abs ?nvz_len ?nvz_list ?nvz_sorted ?nvz_range ?nvz_zip ?nvz_max ?nvz_min
    case nvdDice => (refine' M3.def_mk ?a ?l ?c ?k; (case a => k_is); (case l => k_is); (case c => k_is); (case k => k_is))
    case nvdRoll => (refine' M3.def_mk ?a ?l ?c ?k; (case a => k_is); (case l => k_is); (case c => k_is); (case k => k_is))
    case nvdOneOf => (refine' M3.def_mk ?a ?l ?c ?k; (case a => k_is); (case l => k_is); (case c => k_is); (case k => k_is))
    case nvdMixed => (refine' M3.def_mk ?a ?l ?c ?k; (case a => k_is); (case l => k_is); (case c => k_is); (case k => k_is))
    case nvdLetters => (refine' M3.def_mk ?a ?l ?c ?k; (case a => k_is); (case l => k_is); (case c => k_is); (case k => k_is))
    case nvdWord => (refine' M3.def_mk ?a ?l ?c ?k; (case a => k_is); (case l => k_is); (case c => k_is); (case k => k_is))
    case nvdAction => (refine' M3.def_mk ?a ?l ?c ?k; (case a => k_is); (case l => k_is); (case c => k_is); (case k => k_is))
    case nvdTable => (refine' M3.def_mk ?a ?l ?c ?k; (case a => k_is); (case l => k_is); (case c => k_is); (case k => k_is))
    case nvdMachine => (refine' M3.def_mk ?a ?l ?c ?k; (case a => k_is); (case l => k_is); (case c => k_is); (case k => k_is))
    case nvdMade => (refine' M3.def_mk ?a ?l ?c ?k; (case a => k_is); (case l => k_is); (case c => k_is); (case k => k_is))
    case nvdLawLed => (refine' M3.def_mk ?a ?l ?c ?k; (case a => k_is); (case l => k_is); (case c => k_is); (case k => k_is))
    case nvdHas => (refine' M3.def_mk ?a ?l ?c ?k; (case a => k_is); (case l => k_is); (case c => k_is); (case k => k_is))
    case nvdWild => (refine' M3.def_mk ?a ?l ?c ?k; (case a => k_is); (case l => k_is); (case c => k_is); (case k => k_is))
    case nvdLawRounds => (refine' M3.def_mk ?a ?l ?c ?k; (case a => k_is); (case l => k_is); (case c => k_is); (case k => k_is))
    case nvdMapsRight => (refine' M3.def_mk ?a ?l ?c ?k; (case a => k_is); (case l => k_is); (case c => k_is); (case k => k_is))
    case nvdRight => (refine' M3.def_mk ?a ?l ?c ?k; (case a => k_is); (case l => k_is); (case c => k_is); (case k => k_is))
    case nvdLaw => (refine' M3.def_mk ?a ?l ?c ?k; (case a => k_is); (case l => k_is); (case c => k_is); (case k => k_is))
    case nvdBetween => (refine' M3.def_mk ?a ?l ?c ?k; (case a => k_is); (case l => k_is); (case c => k_is); (case k => k_is))
    case nvdIsWord => (refine' M3.def_mk ?a ?l ?c ?k; (case a => k_is); (case l => k_is); (case c => k_is); (case k => k_is))
    case nvdHasOnly => (refine' M3.def_mk ?a ?l ?c ?k; (case a => k_is); (case l => k_is); (case c => k_is); (case k => k_is))
    case nvdIsLetters => (refine' M3.def_mk ?a ?l ?c ?k; (case a => k_is); (case l => k_is); (case c => k_is); (case k => k_is))
    case nvdCheck => (refine' M3.def_mk ?a ?l ?c ?k; (case a => k_is); (case l => k_is); (case c => k_is); (case k => k_is))
    case nvdOnlyC => (refine' M3.def_mk ?a ?l ?c ?k; (case a => k_is); (case l => k_is); (case c => k_is); (case k => k_is))
    case nvdIsTable => (refine' M3.def_mk ?a ?l ?c ?k; (case a => k_is); (case l => k_is); (case c => k_is); (case k => k_is))
    case nvdIsLine => (refine' M3.def_mk ?a ?l ?c ?k; (case a => k_is); (case l => k_is); (case c => k_is); (case k => k_is))
    case nvdIsChoice => (refine' M3.def_mk ?a ?l ?c ?k; (case a => k_is); (case l => k_is); (case c => k_is); (case k => k_is))
    case nvdCheckM => (refine' M3.def_mk ?a ?l ?c ?k; (case a => k_is); (case l => k_is); (case c => k_is); (case k => k_is))
    case nvdSameL => (refine' M3.def_mk ?a ?l ?c ?k; (case a => k_is); (case l => k_is); (case c => k_is); (case k => k_is))
    case nvdTwo => (refine' M3.def_mk ?a ?l ?c ?k; (case a => k_is); (case l => k_is); (case c => k_is); (case k => k_is))
    case nvdComposed => (refine' M3.def_mk ?a ?l ?c ?k; (case a => k_is); (case l => k_is); (case c => k_is); (case k => k_is))
    case nvdUnmoved => (refine' M3.def_mk ?a ?l ?c ?k; (case a => k_is); (case l => k_is); (case c => k_is); (case k => k_is))
    case nvdLedOn => (refine' M3.def_mk ?a ?l ?c ?k; (case a => k_is); (case l => k_is); (case c => k_is); (case k => k_is))
    case nvdActed => (refine' M3.defc_mk ?a ?l ?c' ?k; (case a => k_is); (case l => k_is); (case c' => k_is); (case k => k_is))
    case nvdWalked => (refine' M3.def_mk ?a ?l ?c ?k; (case a => k_is); (case l => k_is); (case c => k_is); (case k => k_is))
    case nvdRepeats => (refine' M3.def_mk ?a ?l ?c ?k; (case a => k_is); (case l => k_is); (case c => k_is); (case k => k_is))
    case nvdImageOf => (refine' M3.def_mk ?a ?l ?c ?k; (case a => k_is); (case l => k_is); (case c => k_is); (case k => k_is))
    case nvdImage => (refine' M3.def_mk ?a ?l ?c ?k; (case a => k_is); (case l => k_is); (case c => k_is); (case k => k_is))
    case nvdIsMapOf => (refine' M3.def_mk ?a ?l ?c ?k; (case a => k_is); (case l => k_is); (case c => k_is); (case k => k_is))
    case nvdCheckMap => (refine' M3.def_mk ?a ?l ?c ?k; (case a => k_is); (case l => k_is); (case c => k_is); (case k => k_is))
    case nvdMapProd => (refine' M3.def_mk ?a ?l ?c ?k; (case a => k_is); (case l => k_is); (case c => k_is); (case k => k_is))
    case nvdProduct => (refine' M3.def_mk ?a ?l ?c ?k; (case a => k_is); (case l => k_is); (case c => k_is); (case k => k_is))
    case nvdRounds => (refine' M3.def_mk ?a ?l ?c ?k; (case a => k_is); (case l => k_is); (case c => k_is); (case k => k_is))
    case nvdHitsOf => (refine' M3.def_mk ?a ?l ?c ?k; (case a => k_is); (case l => k_is); (case c => k_is); (case k => k_is))
    case nvdHits => (refine' M3.def_mk ?a ?l ?c ?k; (case a => k_is); (case l => k_is); (case c => k_is); (case k => k_is))
    case nvgC => k_is
    case nvgM => k_is
    case nvgW => k_is
    case nvgO => k_is
    case nvvA => k_is
    case nvvL => k_is
    case nvvS => k_is
    case nvz_isinstance => k_is
    case nvz_bool => k_is
    case nvz_int => k_is
    case nvz_str => k_is
    case nvz_tuple => k_is
    case nvz_all => k_is
    case nvz_abs => k_is
    case nvz_len => k_is
    case nvz_list => k_is
    case nvz_sorted => k_is
    case nvz_range => k_is
    case nvz_zip => k_is
    case nvz_max => k_is
    case nvz_min => k_is
    case nvhC => kernel_rfl
    case nveO => kernel_rfl
    case nveW => kernel_rfl
    case nveM => kernel_rfl
    case nvmI => (refine' M3.init_at ?i ?mk ?fn ?kp ?l ?c ?lT ?lB; (case i => k_is); (case mk => k_is); (case fn => k_is); (case kp => k_is); (case l => k_is); (case c => k_is); (case lT => k_is); (case lB => k_is))
    case nvpPropL => (refine' M3.prop_mk ?a ?g ?t ?r ?l ?c ?k; (case a => k_is); (case g => k_is); (case t => k_is); (case r => k_is); (case l => k_is); (case c => k_is); (case k => k_is))
    case nvpPropT => (refine' M3.prop_mk ?a ?g ?t ?r ?l ?c ?k; (case a => k_is); (case g => k_is); (case t => k_is); (case r => k_is); (case l => k_is); (case c => k_is); (case k => k_is))
    case nvpPropE => (refine' M3.prop_mk ?a ?g ?t ?r ?l ?c ?k; (case a => k_is); (case g => k_is); (case t => k_is); (case r => k_is); (case l => k_is); (case c => k_is); (case k => k_is))
    case nvmLen => (refine' M3.met_mk ?a ?f ?l ?c ?k; (case a => k_is); (case f => k_is); (case l => k_is); (case c => k_is); (case k => k_is))
  case nvC => exact PySem.W.codeHd_of_K KX (by kernel_rfl)
