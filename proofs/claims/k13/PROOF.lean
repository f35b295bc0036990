import PyProof.Rows.All
import Wide.All
import OpenK.AllK
import Wide.FinOn
import KE.KExcSuper
import HandS.ForMost
import HandS.Exc
import HandS.ExcOwn
import HandS.ExcInit
import HandS.ExcValue
import HandS.ExcIs
import HandS.ExcField
import HandS.IsInst
import KE.GoesNew
import KE.GoesMore
import HandS.Iter
import HandS.Walk
import KE.KFmtOwn
import HandS.Base
import HandS.Call
import HandS.List
import HandS.Text
import HandS.Dict
import HandS.DictEq
import HandS.Defaults
import HandS.Property
import HandS.Words
import KE.KDictDisplayH
import PyProof.StrOps2
import HandS.TupMul
import HandS.Wide
import PyProof.Rows.ListStrD
import HandS.Conv
import HandS.Zip
import HandS.TupAny
import HandS.Replace
import HandS.WordsExc
import HandS.Codes
import PyProof.EqAt
import PyProof.EqKinds
import PyProof.TupleCall
import KE.KLam
import HandS.TryOnly
import HandS.Lambda
import HandS.Nested
import PyProof.CodeObj
import HandS.ForExc
import HandS.RaiseMore
import HandS.DictTup
import HandS.Style
import HandS.TupLen
import HandS.TupLe
import HandS.Ends
import HandS.EndTab
import PySem.Challenge.RW_neverturns_k13_actions_and_their_words
set_option Elab.async false
set_option linter.all false
set_option maxRecDepth 100000
set_option maxHeartbeats 4000000
/-! # Own exceptions whose __init__ calls super's, over any built-in base -/
namespace PySem
namespace NvE
open PySem.W PySem.Calls PyProof.Rows
/-- the __init__ of a built-in exception class, as super() finds it -/
structure InF (B i : String) : Prop where
  entry : entryFor table i = some Builtin.«BaseException.__init__»
  kind : builtinKind i = some .slot
  row : Manifest.signature? i = some ⟨.positional, "*", B, .self, [⟨"args", .varPos, false⟩]⟩
  star : (B != "*") = true
  plain : plainId i = true
  kf : KxsFacts B i
theorem inF_of {B n i : String} {bm : List Value} (F : ExcBaseFacts B n i bm) (k : KxsFacts B i) : InF B i := ⟨F.initEntry, F.initKind, F.initRow, F.noStar, F.init.plain, k⟩
theorem kf_KeyError : KxsFacts "KeyError" "KeyError.__init__" :=
  ⟨by show builtinType _ = _; rw [builtinType_eq_fast]; kernel_rfl, by first | kernel_rfl | rfl⟩
theorem inF_KeyError : InF "KeyError" "KeyError.__init__" where
  entry := PyProof.Rows.excClass_KeyError.initEntry
  kind := by decide +kernel
  row := by kernel_rfl
  star := by decide
  plain := by decide +kernel
  kf := kf_KeyError
section
variable {prog : Program} {w : World} {M : Model} {A : Around} {E : Value → Shared → Prop} {h : Heap} {g : Array GenState} {d : Drawn} {t : Nat} {os : OsState}
variable {nm q : Str} {C N : Addr} {bs bm : List Value} {hdct : Bool} {sn : List Str} {sub : List Value} {ab : Bool} {col : Option Bool} {dd : Option Addr} {k0 k1 k2 k3 k5 : Option Value} {B newId i : String}
theorem bound_ok (F : InF B i) {e : Addr} {oe : Obj} {rest : List Value} {Q : Unit → Shared → Prop}
    (hC : h.get? C = some (excClassObj nm q C N bs bm hdct sn sub ab col dd k0 k1 k2 k3 k5 newId)) (he : h.get? e = some oe) (hcls : oe.cls = .ref C)
    (hq : Q () ⟨h, g, d, t, os⟩) : wpAny M A (checkBoundCall i ⟨.ref e :: rest, []⟩) Q E ⟨h, g, d, t, os⟩ := by
  have hs := F.star
  simp only [checkBoundCall, F.kind, F.row]
  repeat (first
    | (with_reducible refine wpAny_loadPart_at he ?_; rw [hcls])
    | with_reducible refine wpAny_loadPart_at hC ?_
    | wp_step)
  refine wpAny_onRaise ?_
  have z : ∀ (a b : String) (n : Nat), Bind.check ⟨.positional, "*", B, .self, [⟨"args", .varPos, false⟩]⟩ a b n (List.map (fun x => x.fst) ({ pos := Value.ref e :: rest } : Args).kw) = pure () :=
    fun a b n => check_star_args _ _ _ _ _ _
  rw [z]
  exact wpAny_pure hq
/-- the bound built-in __init__ is called: the args are laid anew -/
theorem call_mw (F : InF B i) {u e t0 : Addr} {rest : List Value} {Q : Value → Shared → Prop}
    (hC : h.get? C = some (excClassObj nm q C N bs bm hdct sn sub ab col dd k0 k1 k2 k3 k5 newId)) (he : h.get? e = some (HandSPX.excO C t0)) (hu : h.get? u = some (kxs_mw i e)) (hz : rest.length ≤ sizeLine)
    (hq : ∀ h' t1, (∀ b o, b ≠ e → h.get? b = some o → h'.get? b = some o) → h'.get? e = some (HandSPX.excO C t1) → Q .none ⟨h', g, d, t, os⟩) :
    wpAny (model prog w) A (call (.ref u) rest) Q E ⟨h, g, d, t, os⟩ := by
  refine wpAny_call (codeAny_of_tree ?_)
  show wpAny _ A.in1 (callAny (.ref u) ⟨rest, []⟩) _ _ _
  simp only [callAny]
  refine wpAny_bind (wpAny_load hu ?_)
  have yes : (Value.type "method-wrapper" == Value.type "method" || Value.type "method-wrapper" == Value.type "builtin_function_or_method" || Value.type "method-wrapper" == Value.type "method-wrapper") = true := by decide
  simp only [kxs_mw, yes, if_true]
  refine KFB.if_so (by decide) ?_
  refine wpAny_bind (bound_ok F hC he rfl ?_)
  refine wpAny_bind (wpAny_pure (wpAny_pure ?_))
  refine ⟨plainId_quiet F.plain _, codeAny_builtin F.entry ?_⟩
  refine exc_init_tree (cls := .ref C) (t0 := t0) (dv := none) (c2 := .none) (c3 := .none) (b4 := .bool false) he hz fun h' k e' _ => ?_
  exact hq h' _ k e'
end
/-! ### the text of such an __init__ -/
/-- what the chain of bases says, as the making asks it -/
structure NewOk (bm : List Value) (B : String) : Prop where
  hasB : bm.contains (.type B) = true
  noA : bm.contains (.type "AttributeError") = false
  noN : bm.contains (.type "NameError") = false
def iArgs (f : String) (p1 p2 : Pos) : Arguments :=
  { posonlyargs := [], args := [{ arg := "self", annotation := none, pos := p1 }, { arg := Str.ofString f, annotation := none, pos := p2 }], vararg := none, kwonlyargs := [], kw_defaults := [], kwarg := none, defaults := [] }
def iBody (f : String) (msg : Str) (j : Nat) (p0 p1 p2 p3 p4 p5 q1 q2 q3 q4 : Pos) : List Stmt :=
  [.Expr (.Call (.Attribute (.Call (.Name "super" p0) [] [] p1) "__init__" p2) [.Constant (.str msg) j p3] [] p4) p5,
   .Assign [.Attribute (.Name "self" q1) (Str.ofString f) q2] (.Name (Str.ofString f) q3) q4]
def iScope (f : String) : Scope :=
  { kind := .function, names := [("self", .local), (Str.ofString f, .local), ("__class__", .free), ("super", .globalImplicit)], isGenerator := false, isCoroutine := false, more := [] }
/-- how super().__init__(msg) is evaluated: a method's call (it hangs on the places alone) -/
def EvOk (env : Env) (msg : Str) (j : Nat) (a0 a1 a2 a3 a4 : Pos) : Prop := ∃ pl : Sem Bool,
  eval (.Call (.Attribute (.Call (.Name "super" a0) [] [] a1) "__init__" a2) [.Constant (.str msg) j a3] [] a4) env = (do
    let ov ← attributeBase (.Call (.Name "super" a0) [] [] a1) "__init__" env (eval (.Call (.Name "super" a0) [] [] a1) env)
    standAt a2.atName
    let (f, first) ← holding [ov] (getMethod ov "__init__" pl)
    callWith a4 f first (backTo a4 (starEach [.Constant (.str msg) j a3] env)) [])
/-- what the written part says of such a class at C, its __init__ at fI -/
structure InitTxt (prog : Program) (K : Frag) (C fI : Addr) (B i B0 newId : String) (f : String) (qual : Str) : Prop where
  fn : ∃ (oc : Value) (od : Option Addr) (doc pm : Value) (an : Option Addr) (cda : Addr) (ct : Value) (cc : Addr) (osl : Array (Option Value)) (msg : Str) (j : Nat) (p1 p2 a0 a1 a2 a3 a4 a5 q1 q2 q3 q4 : Pos),
    K.lookup fI = some ⟨oc, od, .func (ksFn "__init__" qual (iArgs f p1 p2) (iBody f msg j a0 a1 a2 a3 a4 a5 q1 q2 q3 q4) (iScope f) .none .none doc pm an (.ref cda) ct cc), osl⟩ ∧ codeIn K (.ref cda) qual = true ∧
    (∃ (ccl : Value) (cdd : Option Addr) (vs : Array Value) (ccs : Array (Option Value)) (file : Str) (tf : Tok), K.lookup cda = some ⟨ccl, cdd, .fields vs, ccs⟩ ∧ vs[2]? = some (.str file tf) ∧ ((prog.main.file : Str) == file) = true) ∧
    (∃ (cl : Value) (cld : Option Addr) (csl : Array (Option Value)), K.lookup cc = some ⟨cl, cld, .cell (some (.ref C)), csl⟩) ∧ (∀ L a cd c2, EvOk (ksEnv qual (iScope f) L a cd c2) msg j a0 a1 a2 a3 a4)
  cls : ∃ nm q N bs bm sn sub ab col dd k0 k1 k2 k3 k5, K.lookup C = some (excClassObj nm q C N bs bm true sn sub ab col dd k0 k1 k2 k3 k5 newId) ∧ (∀ self, refuseLoop self "__setattr__" (.ref C :: bm) = pure ()) ∧ bm.contains (.type "object") = true ∧ NewOk bm B0
  newF : ∃ i0 bmB, ExcBaseFacts B0 newId i0 bmB
  iC : findIn K (.ref C) "__init__" = some (some (.ref fI))
  tI : typeIn K (.ref fI) = some (.type "function")
  self : mroIn K C (.ref C) = some true
  up : ks_superIn K C C "__init__" = some (some (.builtin i))
  isB : subIn K (.ref C) (.type B) = some true
  stat : nsIn K cStatics "thirdparty.any" = some none
  sa : findIn K (.ref C) "__setattr__" = some (some (.builtin "object.__setattr__"))
  noF : findIn K (.ref C) (Str.ofString f) = some none
  inF : InF B i
  sup : nsIn K mainGlobals "super" = some none
  top : (prog.main.scope.names.lookup ("super" : Str)).isSome = false
  fs : (Str.ofString f == ("self" : Str)) = false
  fsup : (iScope f).names.lookup ("super" : Str) = some .globalImplicit
  fcl : (iScope f).names.lookup ("__class__" : Str) = some .free
  ff : (iScope f).names.lookup (Str.ofString f) = some .local
  fdb : (Str.ofString f == ("__debug__" : Str)) = false
  ncell : ∀ x ∈ (iScope f).names, x.2 ≠ .cell
  bd : ∀ (b : List Stmt) (doc pm ct cv : Value) (an : Option Addr) (cc : Addr) (p1 p2 : Pos) (x v : Value), bindArgs (ksFn "__init__" qual (iArgs f p1 p2) b (iScope f) .none .none doc pm an cv ct cc) ⟨[x, v], []⟩ = pure [(("self" : Str), x), (Str.ofString f, v)]
section
open Builtin Builtin.ObjectAttr
variable {prog : Program} {w : World} {A : Around} {E : Value → Shared → Prop} {R : Result → Shared → Prop} {hp : Heap} {g : Array GenState} {d : Drawn} {t : Nat} {os : OsState}
/-- self.name = v on an exception that has no dict yet, whatever its bases -/
theorem osa_any {K : Frag} {name : Str} {tk : Tok} {v : Value} {x C : Addr} {fv : Array Value} {cd : ClassData}
    (X : K.In hp) (hx : hp.get? x = some { cls := .ref C, data := .fields fv }) (hcd : clsIn K C = some cd) (hp0 : refuseLoop (.ref x) "__setattr__" cd.mro = pure ()) (hob : cd.mro.contains (.type "object") = true) (hne : cd.mro.isEmpty = false)
    (hh : cd.hasDict = true) (ha : findIn K (.ref C) name = some none)
    (hq : ∀ h' tk' dx, (∀ b o, b ≠ x → hp.get? b = some o → h'.get? b = some o) → hp.objs.size ≤ dx → dx ≠ x → h'.get? x = some { cls := .ref C, dict := some dx, data := .fields fv } →
      h'.Ns1 dx (fun y => if y = name then some v else none) → R (.ok (.ret .none)) ⟨h', g, d, tk', os⟩) :
    codeAny (model prog w) A (.call (.builtin "object.__setattr__") ⟨[.ref x, .str name tk, v], []⟩) R ⟨hp, g, d, t, os⟩ := by
  have I : InstAt hp x { cls := .ref C, data := .fields fv } C none := ⟨hx, rfl, rfl, trivial⟩
  have SF := F.store_object
  have hxs : x ≠ hp.objs.size := Nat.ne_of_lt (Heap.lt_size hx)
  have hm0 : mroIn K C (.type "object") = some true := by
    unfold mroIn
    rw [hcd, Option.bind_some, if_neg (by rw [hne]; decide), hob]
  have sub : Looks (model prog w) hp (isInstance (.ref x) (.type "object")) true := I.type.andThen (looks_mroIn X hm0)
  refine codeAny_call_builtin SF.slot.plain SF.entry (@check_slot (model prog w) _ _ ⟨hp, g, d, t, os⟩ "object.__setattr__" "object" "__setattr__" (.ref x) [.str name tk, v] [] _ SF.kind SF.split sub (SF.args (.ref x) (.str name tk) v) ?_)
  have hmr : Looks (model prog w) hp (mroOf (.ref C)) cd.mro := (looks_clsIn X hcd).andThen .now
  have L3 : Looks (model prog w) hp (storeTaker? none) none := .now
  have hcls : Looks (model prog w) hp (classData C) cd := looks_clsIn X hcd
  rw [osa_eq, refuse_eq]
  refine wpAny_bind (wpAny_bind (I.type.at (wpAny_bind (hmr.at ?_))))
  rw [hp0]
  refine wpAny_pure (wpAny_bind (I.type.at (wpAny_bind ((looks_findIn X ha).at (wpAny_bind (L3.at ?_))))))
  show wpAny _ _ (storeInOwnDict (.ref x) (.ref C) (.str name tk) name v false) _ _ _
  obtain ⟨nm, bs, mro, ns, qn, hd, sn, sb, ab, col, del⟩ := cd
  dsimp only at hh
  subst hh
  unfold storeInOwnDict ownDictForStores
  repeat (first
    | with_reducible refine HandSPX.store_in_new ?_ ?_
    | with_reducible refine wpAny_loadPart_at hx ?_
    | with_reducible refine hcls.at ?_
    | wp_step)
  · exact ⟨_, #[], _, (Heap.get?_update_ne _ _ _ _ hxs.symm).trans (Heap.get?_push_at rfl rfl), rfl, fun e he => absurd he (by simp), fun _ => rfl⟩
  · intro h' tk' hn' hs
    have hx₁ : (hp.push { cls := .type "dict", data := .dict #[] }).get? x = some { cls := .ref C, data := .fields fv } := Heap.get?_push_of_some _ hx
    refine hq h' tk' hp.objs.size (fun b o hb ho => ?_) (Nat.le_refl _) hxs.symm ?_ hn'
    · exact (hs.2 b (Nat.ne_of_lt (Heap.lt_size ho))).trans ((Heap.get?_update_ne _ _ _ _ hb).trans (Heap.get?_push_of_some _ ho))
    · exact (hs.2 x hxs).trans (Heap.get?_update_self _ hx₁ rfl)
end
section
variable {prog : Program} {w : World} {A : Around} {E : Value → Shared → Prop} {R : Result → Shared → Prop} {s : Shared} {K : Frag} {C fI : Addr} {B i B0 newId : String} {f : String} {qual : Str} {mg : Str → Option Value}
theorem init_super (T : InitTxt prog K C fI B i B0 newId f qual) {x t0 : Addr} {v : Value} (X : K.In s.heap) (G : s.heap.Ns mainGlobals mg) (BB : ∃ mb, s.heap.Ns builtinsNs mb ∧ ∀ y : Str, y ≠ "__name__" → mb y = bootBuiltins y) (hlim : s.heap.NoLimit)
    (hx : s.heap.get? x = some (HandSPX.excO C t0)) (hnK : K.lookup x = none) (room : A.depth < recursionLimit)
    (hq : ∀ h' tk dx t1, (∀ b o, b ≠ x → s.heap.get? b = some o → h'.get? b = some o) → s.heap.objs.size ≤ dx → dx ≠ x →
      h'.get? x = some { cls := .ref C, dict := some dx, data := .fields #[.ref t1, .none, .none, .none, .bool false, .none] } → h'.Ns1 dx (fun y => if y = Str.ofString f then some v else none) → R (.ok (.ret .none)) { s with heap := h', toks := tk }) :
    codeAny (model prog w) A (.call (.ref fI) ⟨[.ref x, v], []⟩) R s := by
  obtain ⟨oc, od, doc, pm, an, cda, ct, cc, osl, msg, j, p1, p2, a0, a1, a2, a3, a4, a5, q1, q2, q3, q4, lk, hcq, ⟨ccl, cdd, vs, ccs, file, tf, lcd, hvs, hfile⟩, ⟨cl, cld, csl, lcc⟩, hev⟩ := T.fn
  obtain ⟨nm, q, N, bs, bm, sn, sub, ab, col, dd, k0, k1, k2, k3, k5, hC, hpass, hob, _⟩ := T.cls
  have hnx : x ≠ C := fun z => by
    have e := X _ _ hC
    rw [← z, hx] at e
    cases e
  have hcl : clsIn K C = some { name := nm, bases := bs, mro := .ref C :: bm, ns := N, qualname := q, hasDict := true, slotNames := sn, subclasses := sub, abstract := ab, collection := col, hasDel := false } := by
    unfold clsIn
    rw [hC] <;> rfl
  have hself : (iScope f).names.lookup ("self" : Str) = some .local := by
    unfold iScope
    rfl
  have ls : List.lookup ("self" : Str) ([(("self" : Str), Value.ref x), (Str.ofString f, v)].reverse) = some (.ref x) := by
    show List.lookup ("self" : Str) [(Str.ofString f, v), (("self" : Str), Value.ref x)] = _
    have e : (("self" : Str) == Str.ofString f) = false := by
      have z := T.fs
      rw [beq_eq_false_iff_ne] at z ⊢
      exact fun y => z y.symm
    simp [List.lookup, e]
  have lf : List.lookup (Str.ofString f) ([(("self" : Str), Value.ref x), (Str.ofString f, v)].reverse) = some v := by
    show List.lookup (Str.ofString f) [(Str.ofString f, v), (("self" : Str), Value.ref x)] = _
    simp [List.lookup]
  refine ks_codeAny_call_defAt (binds := [(("self" : Str), .ref x), (Str.ofString f, v)]) room (X _ _ lk) rfl hlim (codeRec_of X hcq) rfl (BindsTo.of_eq (T.bd _ _ _ _ _ _ _ _ _ _ _)) T.ncell (fun y hy => ?_) (fun h₁ hns hk₁ => ?_)
  · rcases List.mem_cons.mp hy with e | hy
    · rw [e]
      exact hself
    · rcases List.mem_cons.mp hy with e | hy
      · rw [e]
        exact T.ff
      · cases hy
  · have X₁ : K.In h₁ := X.keeps hk₁
    have hx₁ := hk₁ _ _ hx
    have hC₁ := X₁ _ _ hC
    show _root_.PySem.wpAt (model prog w) (A.deeper (ksEnv qual (iScope f) s.heap.objs.size fI (.ref cda) cc)) (.func (iBody f msg j a0 a1 a2 a3 a4 a5 q1 q2 q3 q4) (ksEnv qual (iScope f) s.heap.objs.size fI (.ref cda) cc))
      (execs (iBody f msg j a0 a1 a2 a3 a4 a5 q1 q2 q3 q4) (ksEnv qual (iScope f) s.heap.objs.size fI (.ref cda) cc)) _ _ _
    obtain ⟨pl, hev⟩ := hev s.heap.objs.size fI (.ref cda) cc
    refine ks_wpAt_execs_cons (ks_wpAt_Expr_any (ks_wpAt_MethodCall (pl := pl) ?_ hev))
    refine ks_wpAt_super_base (env := ksEnv qual (iScope f) s.heap.objs.size fI (.ref cda) cc) T.fsup T.fcl (by decide) rfl (X₁ _ _ lk) rfl rfl rfl (X₁ _ _ lcd) rfl hvs hfile T.top ?_
    obtain ⟨mb, hb, hbb⟩ := BB
    have hsup : mg "super" = none := mg_none_of X G T.sup
    refine ks_loadName_global rfl T.fsup (loadGlobal_builtin (env := ksEnv qual (iScope f) s.heap.objs.size fI (.ref cda) cc) (G.keeps hk₁) hsup (hb.keeps hk₁) ((hbb _ (by decide +kernel)).trans (by decide +kernel)) ⟨rfl, ?_⟩)
    refine wpAny_loadName_free rfl T.fcl rfl ⟨_, X₁ _ _ lcc, rfl⟩ ?_
    refine wpAny_loadName_local rfl hself hns ls ?_
    refine ks_wpAny_isType_cls hC₁ rfl ⟨rfl, ?_⟩
    refine ks_wpAny_call_super hC₁ rfl hx₁ rfl (fun c e => nomatch e) (looks_mroIn X₁ T.self) (fun h₂ e₂ k₂ => ?_)
    have X₂ : K.In h₂ := X₁.keeps k₂
    have hx₂ := k₂ _ _ hx₁
    have I₂ : InstAt h₂ x (HandSPX.excO C t0) C none := ⟨hx₂, rfl, rfl, trivial⟩
    have hm := T.up
    unfold ks_superIn at hm
    rw [hcl] at hm
    refine kxs_getMethod T.inF.kf e₂ (looks_opaque X₂ T.stat) (l₀ := .ref C :: bm) ?_ rfl X₂ hm (I₂.type.andThen (looks_subIn X₂ T.isB)) hnx (by decide) ?_
    · exact (looks_clsIn X₂ hcl).andThen .now
    · have k₃ : ∀ b o, h₂.get? b = some o → (h₂.push (kxs_mw i x)).get? b = some o := fun b o e => Heap.get?_push_of_some _ e
      have hu : (h₂.push (kxs_mw i x)).get? h₂.objs.size = some (kxs_mw i x) := Heap.get?_push_at rfl rfl
      have hC₃ := k₃ _ _ (X₂ _ _ hC)
      have hx₃ := k₃ _ _ hx₂
      refine kxs_callWith (i := i) (x := x) rfl (evalArgs_plain ?_)
      show wpAny _ _ (spliced ((false, eval (.Constant (.str msg) j a3) _) :: backTo a4 (starEach [] _))) _ _ _
      refine Calls.spliced_cons (wpAny_Constant_str (Calls.spliced_nil ⟨hu, ?_⟩))
      refine call_mw T.inF hC₃ hx₃ hu (by show 1 ≤ sizeLine; rw [sizeLine_eq]; omega) (fun h₄ t1 k₄ hx₄ => ?_)
      refine wpAt_of_wpAny (wpAny_execs_cons (plainObj_wpAny_Assign_Attribute ?_))
      have hLx : s.heap.objs.size ≠ x := Nat.ne_of_gt (Heap.lt_size hx)
      have hns₄ : h₄.Ns s.heap.objs.size (fun y => List.lookup y ([(("self" : Str), Value.ref x), (Str.ofString f, v)].reverse)) := by
        obtain ⟨oL, es, ep, hL, r⟩ := hns
        exact ⟨oL, es, ep, k₄ _ _ hLx (k₃ _ _ (k₂ _ _ hL)), r⟩
      have X₄ : K.In h₄ := fun b o e => by
        by_cases hb : b = x
        · rw [hb, hnK] at e
          cases e
        · exact k₄ _ _ hb (k₃ _ _ (X₂ _ _ e))
      refine wpAny_Name (wpAny_loadName_local rfl T.ff hns₄ lf ?_) T.fdb
      refine wpAny_Name (wpAny_loadName_local rfl hself hns₄ ls ?_) (by decide)
      refine set_plain X₄ (ox := HandSPX.excO C t1) (od := none) ⟨hx₄, rfl, rfl, trivial⟩ T.sa ?_
      refine osa_any X₄ hx₄ hcl (hpass _) (by rw [List.contains_cons, hob, Bool.or_true]) rfl rfl T.noF (fun h₅ tk₅ dx k₅ dn dne hx₅ hn₅ => ?_)
      show wpAny _ _ (execs _ _) _ _ _
      refine wpAny_execs_nil ?_
      have z : s.heap.objs.size ≤ h₄.objs.size := Nat.le_of_lt hns₄.lt
      exact hq h₅ tk₅ dx t1 (fun b o hb e => k₅ b o hb (k₄ b o hb (k₃ _ _ (k₂ _ _ (hk₁ b o e))))) (Nat.le_trans z dn) dne hx₅ hn₅
/-- C(v): what is left of the call of such a class -/
structure ExMade (h h' : Heap) (e C d : Addr) (f : String) (v : Value) : Prop where
  keep : ∀ b o, h.get? b = some o → h'.get? b = some o
  new : h.objs.size ≤ e
  obj : ∃ t1 : Addr, h'.get? e = some ({ cls := .ref C, dict := some d, data := .fields #[.ref t1, .none, .none, .none, .bool false, .none] } : Obj)
  dbig : h.objs.size ≤ d
  dne : d ≠ e
  ns : h'.Ns1 d (fun y => if y = Str.ofString f then some v else none)
end
section
variable {prog : Program} {w : World} {M : Model} {A : Around} {E : Value → Shared → Prop} {R : Result → Shared → Prop} {h : Heap} {g : Array GenState} {d : Drawn} {t : Nat} {os : OsState}
variable {nm q : Str} {C N : Addr} {bs bm bmB : List Value} {hdct : Bool} {sn : List Str} {sub : List Value} {ab : Bool} {col : Option Bool} {dd : Option Addr} {k0 k1 k2 k3 k5 : Option Value} {B newId initId : String}
theorem chk_new (F : ExcBaseFacts B newId initId bmB) (O : NewOk bm B) {rest : List Value} {Q : Unit → Shared → Prop}
    (hC : h.get? C = some (excClassObj nm q C N bs bm hdct sn sub ab col dd k0 k1 k2 k3 k5 newId)) (hq : Q () ⟨h, g, d, t, os⟩) :
    wpAny M A (checkBuiltinCall newId ⟨.ref C :: rest, []⟩) Q E ⟨h, g, d, t, os⟩ := by
  have hcont : (Value.ref C :: bm).contains (.type B) = true := by rw [List.contains_cons, O.hasB, Bool.or_true]
  have hs := F.noStar
  simp only [checkBuiltinCall, F.newKind, F.newSplit, F.newRow]
  repeat (first
    | refine wpAny_loadPart_at hC ?_
    | (refine wpAny_isSubtype_exc hC ?_; rw [hcont])
    | refine wpAny_staticBase_exc hC ?_
    | refine wpAny_madeBy_exc hC ?_
    | simp only [bne_self_eq_false, Bool.false_eq_true, if_false]
    | wp_step)
  exact hq
theorem new_any (F : ExcBaseFacts B newId initId bmB) (O : NewOk bm B) {rest : List Value}
    (hC : h.get? C = some (excClassObj nm q C N bs bm hdct sn sub ab col dd k0 k1 k2 k3 k5 newId))
    (hq : R (.ok (.ret (.ref (h.objs.size + 1)))) ⟨(h.push (kdv_tup rest)).push (HandSPX.excO C h.objs.size), g, d, t, os⟩) (hrest : rest.length ≤ sizeLine) :
    codeAny (model prog w) A (.builtin newId ⟨.ref C :: rest, []⟩) R ⟨h, g, d, t, os⟩ := by
  have hends := F.ends
  have hcB : (Value.ref C :: bm).contains (.type B) = true := by rw [List.contains_cons, O.hasB, Bool.or_true]
  have hcA : (Value.ref C :: bm).contains (.type "AttributeError") = false := by rw [List.contains_cons, O.noA]; rfl
  have hcN : (Value.ref C :: bm).contains (.type "NameError") = false := by rw [List.contains_cons, O.noN]; rfl
  refine codeAny_builtinAt F.entry ?_
  unfold Builtin.«BaseException.__new__»
  refine wpAt_bind ?_
  show wpAt _ _ _ (stack >>= _) _ _ _
  refine wpAt_bind (wpAt_stack fun p below => wpAt_of_wpAny ?_)
  wp_walk
  refine wpAt_of_wpAny ?_
  rw [F.owner]
  repeat (first
    | with_reducible refine wpAny_madeHere_exc F.canon hC ?_
    | with_reducible refine wpAny_loadPart_at hC ?_
    | (with_reducible refine wpAny_isSubtype_exc hC ?_; first | rw [hcB] | rw [hcA] | rw [hcN])
    | wp_step)
  show R _ _
  rw [Heap.size_push]
  exact hq
theorem type_any (F : ExcBaseFacts B newId initId bmB) (O : NewOk bm B) {rest : List Value} {fI : Addr} {Q : Fin → Shared → Prop}
    (hC : h.get? C = some (excClassObj nm q C N bs bm hdct sn sub ab col dd k0 k1 k2 k3 k5 newId))
    (hi : Looks (model prog w) h (typeLookup (.ref C) "__init__") (some (.ref fI))) (hb : ∀ self, Looks (model prog w) h (bindSpecial (.ref fI) self) (.ref fI, [self])) (hrest : rest.length ≤ sizeLine)
    (hq : codeAny (model prog w) A (.call (.ref fI) ⟨.ref (h.objs.size + 1) :: rest, []⟩)
      (fun r s' => match r with
        | .ok (.ret v) => v = .none ∧ Q (.done (.ret (.ref (h.objs.size + 1)))) s'
        | .ok _ => False
        | .error e => E e s') ⟨(h.push (kdv_tup rest)).push (HandSPX.excO C h.objs.size), g, d, t, os⟩) :
    wpAny (model prog w) A (Builtin.«type.__call__» ⟨.ref C :: rest, []⟩) Q E ⟨h, g, d, t, os⟩ := by
  repeat (first
    | with_reducible refine wpAny_loadPart_at hC ?_
    | with_reducible refine wpAny_madeBy_exc hC ?_
    | wp_step)
  refine codeAny_call_builtin_code (Code.quiet_builtin _ F.quiet) (chk_new F O hC ?_)
  refine new_any F O hC ?_ hrest
  show wpAny _ _ _ _ _ _
  have k : ∀ b o, h.get? b = some o → ((h.push (kdv_tup rest)).push (HandSPX.excO C h.objs.size)).get? b = some o := fun b o e => Heap.get?_push_of_some _ (Heap.get?_push_of_some _ e)
  have hC₁ := k _ _ hC
  have hget : ((h.push (kdv_tup rest)).push (HandSPX.excO C h.objs.size)).get? (h.objs.size + 1) = some (HandSPX.excO C h.objs.size) := by heap_get
  have hcC : (Value.ref C :: bm).contains (.ref C) = true := by simp
  have i1 := hi.keeps k
  have b1 := (hb (.ref (h.objs.size + 1))).keeps k
  unfold isInstance
  repeat (first
    | with_reducible refine wpAny_loadPart_at hget ?_
    | (with_reducible refine wpAny_isSubtype_exc hC₁ ?_; rw [hcC])
    | wp_step)
  show wpAny _ _ (typeLookup (.ref C) _) _ _ _
  refine i1.at ?_
  refine wpAny_holding (wpAny_bind (b1.at ?_))
  refine wpAny_bind (wpAny_call (codeAny_mono hq fun r s' z => ?_))
  rcases r with e | (v | _ | _ | _) <;> first | exact z | exact z.elim | skip
  obtain ⟨rfl, z⟩ := z
  first
    | exact wpAny_pure (wpAny_pure z)
    | (wp_walk; exact z)
theorem call_any (F : ExcBaseFacts B newId initId bmB) (O : NewOk bm B) {rest : List Value} {fI : Addr}
    (hC : h.get? C = some (excClassObj nm q C N bs bm hdct sn sub ab col dd k0 k1 k2 k3 k5 newId))
    (hi : Looks (model prog w) h (typeLookup (.ref C) "__init__") (some (.ref fI))) (hb : ∀ self, Looks (model prog w) h (bindSpecial (.ref fI) self) (.ref fI, [self])) (hrest : rest.length ≤ sizeLine)
    (hq : codeAny (model prog w) (A.under (.builtin "type.__call__" ⟨.ref C :: rest, []⟩)) (.call (.ref fI) ⟨.ref (h.objs.size + 1) :: rest, []⟩) (InitBack (h.objs.size + 1) R)
      ⟨(h.push (kdv_tup rest)).push (HandSPX.excO C h.objs.size), g, d, t, os⟩) :
    codeAny (model prog w) A (.call (.ref C) ⟨rest, []⟩) R ⟨h, g, d, t, os⟩ := by
  have f1 := tc_lookup
  have f2 := tc_bind (.ref C)
  have hTy : (⟨h, g, d, t, os⟩ : Shared).TypeIs (.ref C) "type" := ⟨_, hC, rfl⟩
  refine codeAny_of_tree ?_
  show wpAny _ _ (callAny (.ref C) _) _ _ _
  repeat (any_goals (first | assumption | with_reducible refine wpAny_loadPart_at hC ?_ | wp_step))
  refine ⟨rfl, ?_⟩
  refine codeAny_call_builtin_at (Code.quiet_builtin _ (by decide +kernel)) entry_typeCall (wpAny_check_type_call_sub hC (type_any F O hC hi hb hrest ?_))
  refine codeAny_mono hq fun r s' z => ?_
  rcases r with e | (v | _ | _ | _) <;> exact z
end
section
variable {prog : Program} {w : World} {A : Around} {R : Result → Shared → Prop} {s : Shared} {K : Frag} {C fI : Addr} {B i B0 newId : String} {f : String} {qual : Str} {mg : Str → Option Value}
theorem one_ok (v : Value) : [v].length ≤ sizeLine := by
  show 1 ≤ sizeLine
  rw [sizeLine_eq]
  omega
theorem made (T : InitTxt prog K C fI B i B0 newId f qual) {v : Value} (X : K.In s.heap) (G : s.heap.Ns mainGlobals mg) (BB : ∃ mb, s.heap.Ns builtinsNs mb ∧ ∀ y : Str, y ≠ "__name__" → mb y = bootBuiltins y) (hlim : s.heap.NoLimit)
    (room : A.depth + 1 < recursionLimit) (hq : ∀ h' tk e d, ExMade s.heap h' e C d f v → R (.ok (.ret (.ref e))) { s with heap := h', toks := tk }) :
    codeAny (model prog w) A (.call (.ref C) ⟨[v], []⟩) R s := by
  obtain ⟨nm, q, N, bs, bm, sn, sub, ab, col, dd, k0, k1, k2, k3, k5, hC, _, _, O⟩ := T.cls
  obtain ⟨i0, bmB, FB⟩ := T.newF
  obtain ⟨hp, g, dr, tk, os⟩ := s
  have k : ∀ b o, hp.get? b = some o → ((hp.push (kdv_tup [v])).push (HandSPX.excO C hp.objs.size)).get? b = some o := fun b o e => Heap.get?_push_of_some _ (Heap.get?_push_of_some _ e)
  have hget : ((hp.push (kdv_tup [v])).push (HandSPX.excO C hp.objs.size)).get? (hp.objs.size + 1) = some (HandSPX.excO C hp.objs.size) := by heap_get
  have hnK : K.lookup (hp.objs.size + 1) = none := by
    cases e : K.lookup (hp.objs.size + 1) with
    | none => rfl
    | some o =>
      have z : hp.get? (hp.objs.size + 1) = some o := X _ _ e
      exact absurd (Nat.lt_of_succ_lt (Heap.lt_size z)) (Nat.lt_irrefl _)
  refine call_any FB O (X _ _ hC) (looks_findIn X T.iC) (fun self => bind_fn X self T.tI) (one_ok v) ?_
  refine init_super (s := ⟨(hp.push (kdv_tup [v])).push (HandSPX.excO C hp.objs.size), g, dr, tk, os⟩) T (X.keeps k) (G.keeps k) (let ⟨mb, h1, h2⟩ := BB; ⟨mb, h1.keeps k, h2⟩) (hlim.keeps k) hget hnK ?_ fun h' tk' dx t1 k' dn dne hx hns => ?_
  · show A.depth + 1 < recursionLimit
    exact room
  · have old : ∀ b o, hp.get? b = some o → h'.get? b = some o := fun b o e => k' b o (Nat.ne_of_lt (Nat.lt_succ_of_lt (Heap.lt_size e))) (k b o e)
    have z : hp.objs.size + 1 + 1 ≤ dx := by
      have q := dn
      rw [Heap.size_push, Heap.size_push] at q
      exact q
    exact ⟨rfl, hq h' tk' (hp.objs.size + 1) dx ⟨old, Nat.le_succ _, ⟨t1, hx⟩, Nat.le_trans (Nat.le_trans (Nat.le_succ _) (Nat.le_succ _)) z, dne, hns⟩⟩
end
end NvE
end PySem

set_option Elab.async false
set_option linter.all false
set_option maxRecDepth 100000
set_option maxHeartbeats 4000000
/-! # Rules over the hand layer: such exceptions raised, held as values, asked for their class and their fields -/
namespace L2
open PySem PySem.Spec PyProof.Rows
theorem relO_one {f : Str} {v : V} {u : Value} (r : RelV v u) (y : Str) : RelO (List.lookup y [(f, v)]) (if y = f then some u else none) := by
  by_cases h : y = f
  · subst h
    rw [if_pos rfl]
    have q : List.lookup y [(y, v)] = some v := by simp [List.lookup]
    rw [q]
    exact r
  · rw [if_neg h]
    have e : (y == f) = false := by simpa using h
    have q : List.lookup y [(f, v)] = none := by simp [List.lookup, e]
    rw [q]
    trivial
section
variable {X : Cx} {C fI : Addr} {B i B0 newId : String} {f : String} {qual : Str}
/-- what the rules ask of the class x at C, whose __init__ keeps its argument in the field f -/
structure KeepC (X : Cx) (x : Str) (C : Addr) (f : String) : Prop where
  tx : ∃ (fI : Addr) (B i B0 newId : String) (qual : Str), PySem.NvE.InitTxt X.prog X.K C fI B i B0 newId f qual
  gC : X.mg x = some (.ref C)
  kC : PySem.W.keepIn X.K (.ref C) = true
  exC : PySem.W.subIn X.K (.ref C) (.type "BaseException") = some true
  tyC : PySem.W.typeIn X.K (.ref C) = some (.type "type")
theorem call_keep {x : Str} {f : String} (T : KeepC X x C f) {pins : List (Addr × Obj)} {σ : St} {H : Hp} {s : Shared} {u : Value} {Q : Value → Shared → Prop} {E : Value → Shared → Prop} (I : Inv X pins σ H s) (room : X.A.depth + 1 < recursionLimit)
    (hq : ∀ h' tk e d, PySem.NvE.ExMade s.heap h' e C d f u → Q (.ref e) { s with heap := h', toks := tk }) : wpAny (model X.prog X.w) X.A (call (.ref C) [u]) Q E s := by
  obtain ⟨fI, B, i, B0, newId, qual, T0⟩ := T.tx
  refine wpAny_call (PySem.NvE.made T0 I.kIn (I.mod.glob.keeps I.bk) (let ⟨mb, h1, h2⟩ := I.mod.blt; ⟨mb, h1.keeps I.bk, h2⟩) I.nolimit room fun h' tk e d M => ?_)
  exact hq h' tk e d M
/-- X(e), to be raised -/
def tMkKeep (C : Addr) (f : String) (ta : TA) : St → Hp → XK → Prop := fun σ H Q => ta σ H fun vs H1 => ∃ v, vs = [v] ∧ ∀ d, H1 d = none → Q (.ref C) (some d) (upd H1 d (.xd [(Str.ofString f, v)]))
theorem pmk_keep {x : Str} {f : String} {a : Expr} {ta : TA} {p pos : Pos} {k : Nat} (T : KeepC X x C f) (hr : Room k X.A) (ha : PA X [a] ta) (hg : Gl X x := by rfl) (hdb : (x == ("__debug__" : Str)) = false := by decide)
    (he : starEach (a :: []) X.env = (false, eval a X.env) :: starEach [] X.env := by rfl) (hpl : (backTo pos (starEach [] X.env)).any (·.1) = false := by rfl) :
    PMk X (.Call (.Name x p) [a] [] pos) (tMkKeep C f ta) := by
  intro pins s σ H Q I h
  refine wpAny_Call_Name_kw (ld_glob I hg T.gC ?_ hdb)
  refine PySem.W.callWith_K (h₀ := X.base) I.ok.mod.kin T.kC (thn (ha.run pos pins s σ H _ I h) fun us s1 hh => ?_) he hpl
  obtain ⟨vs, H1, I1, r1, v, ev, q1⟩ := hh
  subst ev
  refine ⟨I1.kIn, ?_⟩
  cases r1 with
  | cons rv rn =>
    rename_i v' us'
    cases rn
    show wpAny _ _ (call (.ref C) [v']) _ _ _
    refine call_keep T I1 (by have := hr.dp; omega) fun h' tk' e d M => ?_
    obtain ⟨hp, g, dr, tk, os⟩ := s1
    show MkP X pins σ Q (.ref e) ⟨h', g, dr, tk', os⟩
    obtain ⟨t1, hoe⟩ := M.obj
    have hns := M.ns
    obtain ⟨G', g1, g2⟩ := restrict h' fun b => decide (b ≠ e)
    have gk : ∀ b, b ≠ e → G'.get? b = h'.get? b := fun b hb => g1 b (decide_eq_true hb)
    have ge : G'.get? e = none := g2 e (by simp)
    have old : ∀ b o, hp.get? b = some o → G'.get? b = some o := fun b o q => (gk b (Nat.ne_of_lt (Nat.lt_of_lt_of_le (Heap.lt_size q) M.new))).trans (M.keep b o q)
    have ob : ObjOk X.prog X.w (upd H1 d (.xd [(Str.ofString f, v)])) G' d (.xd [(Str.ofString f, v)]) := ⟨_, hns.at (fun o q => (gk d M.dne).trans q), fun y => relO_one rv y⟩
    have J : Inv X pins σ (upd H1 d (.xd [(Str.ofString f, v)])) ⟨G', g, dr, tk', os⟩ := I1.laid (t' := tk') old M.dbig ob
    refine ⟨e, _, _, ⟨G', g, dr, tk', os⟩, _, .ref C, some d, rfl, J, fun b o q => ?_, ge, hoe, ⟨rfl, rfl⟩, rfl, rfl, ?_, rfl, I1.bare, raises_own T.exC T.tyC, q1 d (I1.hok.fresh M.dbig)⟩
    · by_cases hb : b = e
      · have q' : G'.get? b = some o := q
        rw [hb, ge] at q'
        cases q'
      · exact (gk b hb).symm.trans q
    · rw [upd_ne (Ne.symm M.dne)]
      exact I1.hok.fresh M.new
/-- X(e) as a value: a new exception object and its dict -/
def tKeep (C : Addr) (f : String) (ta : TA) : TE := fun σ H Q => ta σ H fun vs H1 => ∃ v, vs = [v] ∧ ∀ a d, H1 a = none → H1 d = none → d ≠ a → Q (.ref a) (upd (upd H1 d (exd d [(Str.ofString f, v)])) a (exo a C (some d)))
theorem pe_keep {x : Str} {f : String} {a : Expr} {ta : TA} {p pos : Pos} {k : Nat} (T : KeepC X x C f) (hr : Room k X.A) (ha : PA X [a] ta) (hg : Gl X x := by rfl) (hdb : (x == ("__debug__" : Str)) = false := by decide)
    (he : starEach (a :: []) X.env = (false, eval a X.env) :: starEach [] X.env := by rfl) (hpl : (backTo pos (starEach [] X.env)).any (·.1) = false := by rfl) :
    PE X (.Call (.Name x p) [a] [] pos) (tKeep C f ta) := by
  refine ⟨fun pins s σ H Q I h => ?_⟩
  refine wpAny_Call_Name_kw (ld_glob I hg T.gC ?_ hdb)
  refine PySem.W.callWith_K (h₀ := X.base) I.ok.mod.kin T.kC (thn (ha.run pos pins s σ H _ I h) fun us s1 hh => ?_) he hpl
  obtain ⟨vs, H1, I1, r1, v, ev, q1⟩ := hh
  subst ev
  refine ⟨I1.kIn, ?_⟩
  cases r1 with
  | cons rv rn =>
    rename_i v' us'
    cases rn
    show wpAny _ _ (call (.ref C) [v']) _ _ _
    refine call_keep T I1 (by have := hr.dp; omega) fun h' tk' e d M => ?_
    obtain ⟨t1, hoe⟩ := M.obj
    have hns := M.ns
    have ne := I1.hok.fresh M.new
    have nd := I1.hok.fresh M.dbig
    have be : ∀ {b : Addr} {o : Obj}, s1.heap.get? b = some o → b ≠ e := fun {b o} q => Nat.ne_of_lt (Nat.lt_of_lt_of_le (Heap.lt_size q) M.new)
    have bd : ∀ {b : Addr} {o : Obj}, s1.heap.get? b = some o → b ≠ d := fun {b o} q => Nat.ne_of_lt (Nat.lt_of_lt_of_le (Heap.lt_size q) M.dbig)
    have U : Un X.fs [] H1 (upd (upd H1 d (exd d [(Str.ofString f, v)])) e (exo e C (some d))) s1.heap h' := {
      keep := fun b o q _ _ _ => M.keep b o q
      slot := fun b o q _ _ _ => ⟨o.slots, M.keep b o q⟩
      free := fun b o q n _ => by
        rw [upd_ne (be q), upd_ne (bd q)]
        exact n
      there := fun b o q _ => ⟨o, M.keep b o q⟩
      tups := fun b xs q => by
        rw [upd_ne (ne_of_none q ne), upd_ne (ne_of_none q nd)]
        exact q
      frzs := fun b o u q => by
        rw [upd_ne (ne_of_none q ne), upd_ne (ne_of_none q nd)]
        exact q
      tbls := fun b ps q => ⟨#[], by
        rw [upd_ne (ne_of_none q ne), upd_ne (ne_of_none q nd), q]
        simp⟩ }
    have ok : HOk X.prog X.w (upd (upd H1 d (exd d [(Str.ofString f, v)])) e (exo e C (some d))) h' := fun b o q => by
      by_cases hb : b = e
      · subst hb
        rw [upd_same] at q
        cases q
        exact exo_ok hoe
      · rw [upd_ne hb] at q
        by_cases hd : b = d
        · subst hd
          rw [upd_same] at q
          cases q
          exact exd_ok hns (relO_one rv)
        · rw [upd_ne hd] at q
          refine (I1.hok b o q).stay (fun c u _ z => M.keep c u z) (fun c z => ?_) (fun c xs z => ?_)
          · rw [upd_ne (ne_of_none z ne), upd_ne (ne_of_none z nd)]
            exact z
          · rw [upd_ne (ne_of_none z ne), upd_ne (ne_of_none z nd)]
            exact z
    exact ⟨.ref e, _, I1.un (t' := tk') U ok, rfl, q1 e d ne nd M.dne⟩
end
end L2

set_option Elab.async false
set_option linter.all false
set_option maxRecDepth 100000
set_option maxHeartbeats 8000000
/-! # zip of two texts -/
namespace NvZ
open PySem PySem.Spec PyProof.Rows L2
def ItzS (x y : Str) : It := ⟨fun i _ => i < min x.cps.size y.cps.size,
  fun i H v H' => ∃ (T : Addr) (a b : Nat), v = .ref T ∧ H T = none ∧ H' = upd H T (.tup [.str ⟨#[a]⟩, .str ⟨#[b]⟩]) ∧ x.cps[i]? = some a ∧ y.cps[i]? = some b,
  fun i _ => i = min x.cps.size y.cps.size⟩
theorem turn_zipS {P : Program} {w : World} {K : PySem.W.Frag} {elts : List Expr} {kk : Nat} {tpos : Pos} {x y : Str} {t1 t2 : Tok} {z TI TO i1 i2 : Addr} (S : ZipSep2 z TI TO i1 i2 [i1] [i2]) :
    Turn P w K (.Tuple elts kk tpos) (ItzS x y) (z :: TI :: TO :: ([i1] ++ [i2])) z (fun i h => IsZip h z TI TO .none ∧ IsTupOf2 h TI (.ref i1) (.ref i2) ∧ (∃ a1 a2, IsTupOf2 h TO a1 a2) ∧ h.IsStrIter i1 (strIterType x) x t1 i ∧ h.IsStrIter i2 (strIterType y) y t2 i) where
  mem := by simp
  obj := fun i h st c hc => by
    obtain ⟨hz, hTI, ⟨a1, a2, hTO⟩, ⟨o1, e1, _, d1⟩, ⟨o2, e2, _, d2⟩⟩ := st
    have e' : c = z ∨ c = TI ∨ c = TO ∨ c = i1 ∨ c = i2 := by simpa using hc
    rcases e' with q | q | q | q | q
    · rw [q]; exact ⟨_, hz, fun v q => nomatch q⟩
    · rw [q]; exact ⟨_, hTI, fun v q => nomatch q⟩
    · rw [q]; exact ⟨_, hTO, fun v q => nomatch q⟩
    · rw [q]; exact ⟨o1, e1, fun v q => by rw [d1] at q; cases q⟩
    · rw [q]; exact ⟨o2, e2, fun v q => by rw [d2] at q; cases q⟩
  keep := fun i h h' st k => by
    obtain ⟨hz, hTI, ⟨a1, a2, hTO⟩, ⟨o1, e1, r1⟩, ⟨o2, e2, r2⟩⟩ := st
    exact ⟨k z (by simp) _ hz, k TI (by simp) _ hTI, ⟨a1, a2, k TO (by simp) _ hTO⟩, ⟨o1, k i1 (by simp) _ e1, r1⟩, ⟨o2, k i2 (by simp) _ e2, r2⟩⟩
  item := by
    intro X hP hw hK hc i pins s σ H E I hf st hg
    subst hP hw hK
    have hh : X.A.in1.handled = none := I.ok.hd hc
    have G := GoesN.zip2 (elts := elts) (x1 := kk) (pos := tpos) S (Draws.text (prog := X.prog) (w := X.w) (A := X.A.in1) hh i1 x t1) (Draws.text (prog := X.prog) (w := X.w) (A := X.A.in1) hh i2 y t2)
    have live : ∀ b ∈ (z :: TI :: TO :: ([i1] ++ [i2])), b < s.heap.objs.size := fun b hb => by
      obtain ⟨hz, hTI, ⟨a1, a2, hTO⟩, ⟨o1, e1, _⟩, ⟨o2, e2, _⟩⟩ := id st
      have e' : b = z ∨ b = TI ∨ b = TO ∨ b = i1 ∨ b = i2 := by simpa using hb
      rcases e' with q | q | q | q | q
      · rw [q]; exact Heap.lt_size hz
      · rw [q]; exact Heap.lt_size hTI
      · rw [q]; exact Heap.lt_size hTO
      · rw [q]; exact Heap.lt_size e1
      · rw [q]; exact Heap.lt_size e2
    refine G.goes i s (fun u s2 => ∃ v H', Inv X pins σ H' s2 ∧ RelV v u ∧ (ItzS x y).yld i H v H' ∧ _ ∧ ∀ b ∈ _, H' b = none) E hg st fun v h' tk hY st' hk htk => ?_
    obtain ⟨T, vx, vy, rfl, hT, ⟨c1, u1, hx, rfl⟩, ⟨c2, u2, hy, rfl⟩, hIs⟩ := hY
    have new : ObjOk X.prog X.w (upd H T (.tup [.str ⟨#[c1]⟩, .str ⟨#[c2]⟩])) h' T (.tup [.str ⟨#[c1]⟩, .str ⟨#[c2]⟩]) :=
      ⟨by show 2 ≤ sizeLine; decide, [.str ⟨#[c1]⟩ u1, .str ⟨#[c2]⟩ u2], .cons ⟨u1, rfl⟩ (.cons ⟨u2, rfl⟩ .nil), hIs⟩
    have I1 : Inv X pins σ (upd H T (.tup [.str ⟨#[c1]⟩, .str ⟨#[c2]⟩])) { s with heap := h', toks := tk } :=
      I.turnedNew (t' := tk) (ch := [z, TO, i1, i2]) hk (fun b hb => hf b (by
        have e' : b = z ∨ b = TO ∨ b = i1 ∨ b = i2 := by simpa using hb
        rcases e' with q | q | q | q <;> rw [q] <;> simp)) hT new
    refine ⟨.ref T, _, I1, rfl, ⟨T, c1, c2, rfl, I.hok.fresh hT, rfl, hx, hy⟩, st', fun b hb => ?_⟩
    rw [upd_ne (Nat.ne_of_lt (Nat.lt_of_lt_of_le (live b hb) hT))]
    exact (hf b hb).1
  done := by
    intro X hP hw hK hc i pins s σ H E I hf st hg
    subst hP hw hK
    have hh : X.A.in1.handled = none := I.ok.hd hc
    have G := GoesN.zip2 (elts := elts) (x1 := kk) (pos := tpos) S (Draws.text (prog := X.prog) (w := X.w) (A := X.A.in1) hh i1 x t1) (Draws.text (prog := X.prog) (w := X.w) (A := X.A.in1) hh i2 y t2)
    have hg : i = min x.cps.size y.cps.size := hg
    subst hg
    refine G.stops s (fun s1 => Inv X pins σ H s1) E st fun h' tk hk htk => ?_
    exact I.turnedL (t' := tk) (ch := [z, TO, i1, i2]) hk fun b hb => hf b (by
      have e' : b = z ∨ b = TO ∨ b = i1 ∨ b = i2 := by simpa using hb
      rcases e' with q | q | q | q <;> rw [q] <;> simp)
  self := fun A i s Q E st h => wpAny_pyIter_zip st.1 h
def iZipS (ta : TA) : TI := fun σ H R => ta σ H fun vs H1 => ∃ x y : Str, vs = [.str x, .str y] ∧ R (ItzS x y) H1
theorem pi_zipS {X : Cx} {e e2 : Expr} {ta : TA} {p pos tpos : Pos} {elts : List Expr} {kk : Nat} (hg : Gl X "zip") (hm : X.mg "zip" = none) (ha : PA X [e, e2] ta)
    (hs : starEach [e, e2] X.env = (false, eval e X.env) :: starEach [e2] X.env := by rfl) (hpl : (backTo pos (starEach [e2] X.env)).any (·.1) = false := by rfl) :
    PI X (.Tuple elts kk tpos) (.Call (.Name "zip" p) [e, e2] [] pos) (iZipS ta) := by
  refine ⟨fun pins s σ H R I h => ?_⟩
  refine Call_ (ld_blt I hg hm PyProof.Rows.boot_zip (PyProof.Rows.callWith_type1 (thn (ha.run pos pins s σ H _ I h) fun us s1 ⟨vs, H1, I1, r1, q1⟩ => ?_) hs hpl))
  obtain ⟨x, y, ex, q⟩ := q1
  subst ex
  obtain ⟨u1, u2, rfl, ⟨t1, rfl⟩, ⟨t2, rfl⟩⟩ := vals2 r1
  refine zip_begins2 (begins_text x t1) (begins_text y t2) trivial trivial fun h' hz hTI hTO h1 h2 hsz hk => wpAny_pyIter_zip hz ?_
  have I2 : Inv X pins σ H1 { s1 with heap := h' } := I1.kept (t' := s1.toks) hk
  refine ⟨s1.heap.objs.size + 4, _, _, _, H1, rfl, I2, turn_zipS (t1 := t1) (t2 := t2) (zip_sep2 (N := s1.heap.objs.size) (fp1 := []) (fp2 := []) (fun b hb => by cases hb) (fun b hb => by cases hb)), ⟨hz, hTI, ⟨_, _, hTO⟩, ⟨_, h1, rfl, rfl⟩, ⟨_, h2, rfl, rfl⟩⟩, fun c hcm => ?_, q⟩
  have e' : c = s1.heap.objs.size + 4 ∨ c = s1.heap.objs.size + 2 ∨ c = s1.heap.objs.size + 3 ∨ c = s1.heap.objs.size ∨ c = s1.heap.objs.size + 1 := by simpa using hcm
  have hle : s1.heap.objs.size ≤ c := by
    rcases e' with z | z | z | z | z
    · rw [z]; exact Nat.le_add_right _ _
    · rw [z]; exact Nat.le_add_right _ _
    · rw [z]; exact Nat.le_add_right _ _
    · rw [z]; exact Nat.le_refl _
    · rw [z]; exact Nat.le_add_right _ _
  exact I1.fpOk hle (I1.hok.fresh hle)
theorem walk_zipS {x y : Str} : Walk (ItzS x y) (min x.cps.size y.cps.size) (fun _ => True) (fun i H v H' => ∃ (T : Addr) (a b : Nat), v = .ref T ∧ H T = none ∧ H' = upd H T (.tup [.str ⟨#[a]⟩, .str ⟨#[b]⟩]) ∧ x.cps[i]? = some a ∧ y.cps[i]? = some b) :=
  ⟨fun _ _ hi _ => hi, fun _ _ => rfl, fun _ _ _ _ _ _ y => y⟩
end NvZ

set_option Elab.async false
set_option linter.all false
set_option maxRecDepth 100000
set_option maxHeartbeats 8000000
/-! # An own class's __contains__, __len__, __str__, asked from outside -/
namespace NvO
open PySem PySem.Spec PyProof.Rows L2
variable {X : Cx} {k : Nat} {f C : Addr} {fd : FuncData} {sp : Sp} {pa pb : Str}
/-- the frame that the walk's rules ask for -/
theorem fr_of {pins : List (Addr × Obj)} {σ : L2.St} {H : Hp} {s : Shared} (I : Inv X pins σ H s) : ∃ m, Fr X.base X.env.locals s.heap m := by
  obtain ⟨m, hn, _⟩ := I.loc
  exact ⟨m, hn, I.bk, Nat.le_trans I.ok.bsz I.ok.above⟩
theorem inst_of {pins : List (Addr × Obj)} {σ : L2.St} {H : Hp} {s : Shared} {a dx : Addr} {fs : List (Str × V)} (I : Inv X pins σ H s) (ha : H a = some (.ins C dx fs)) : ∃ (ox : Obj) (od : Option Obj), PySem.W.InstAt s.heap a ox C od := by
  obtain ⟨mA, O, _⟩ := ins_get I.hok ha
  obtain ⟨od, J, _⟩ := O.look
  exact ⟨_, od, J⟩
/-- v in o, o of a class with its own __contains__ that gives True or False -/
theorem op_inO (F : FnOk X.prog X.w X.K X.mg X.base CX0 k f fd [pa, pb] sp) (hr : Room k X.A) (hb : Binds X.K fd [pa, pb] []) (hx : Passes CX0 X E0) (hs : PySem.W.findIn X.K (.ref C) "__contains__" = some (some (.ref f))) (hf : PySem.W.isFn X.K (.ref f) = true) :
    OpR X (compareOp .In) (fun x y H Q => ∃ (a dx : Addr) (fs : List (Str × V)), y = .ref a ∧ H a = some (.ins C dx fs) ∧ sp [.ref a, x] H (fun v H' => ∃ b, v = .bl b ∧ Q (.bl b) H') E0) := by
  intro pins s σ H x y v u Q I rx ry h
  obtain ⟨a, dx, fs, rfl, ha, h⟩ := h
  cases ry
  obtain ⟨m, Fm⟩ := fr_of I
  obtain ⟨ox, od, J⟩ := inst_of I ha
  refine PySem.W.in_K Fm I.ok.mod.kin J hs hf (wpAny_mono (run_fn F hr hb .nil hx I (.cons (show RelV (.ref a) (.ref a) from rfl) (.cons rx .nil)) h) (fun r s' hq => ?_) fun _ _ z => z)
  obtain ⟨z, H', I', rz, b, rfl, q⟩ := hq
  cases rz
  exact wpAny_truthy_bool ⟨.bl b, H', I', rfl, q⟩
/-- a def runs below the body, with the same frames -/
theorem run_at {A' : Around} {pins : List (Addr × Obj)} {σ : L2.St} {H : Hp} {s : Shared} {Q : VK} {us : List Value} {vs : List V} {ps : List Str} (fr : A'.frames = some X.stack) (F : FnOk X.prog X.w X.K X.mg X.base CX0 k f fd ps sp) (hr : Room k A') (hb : Binds X.K fd ps []) (hx : Passes CX0 X E0)
    (I : Inv X pins σ H s) (r : Vals vs us) (h : sp vs H Q E0) : wpAny (model X.prog X.w) A' (call (.ref f) us) (EP X pins σ Q) X.xe s := by
  have e0 : Env0 X.prog X.w X.K X.mg X.base A' X.stack s H := by
    obtain ⟨_, a2, a3, a4, a5, a6, a7, a8⟩ := I.env0
    exact ⟨fr, a2, a3, a4, a5, a6, a7, a8⟩
  have hl : us.length = ps.length := by
    rw [← r.length]
    exact F.len _ _ _ _ h
  have b := hb s us I.kIn (by rw [List.append_nil]; exact hl)
  rw [List.append_nil] at b
  refine wpAny_call (codeAny_mono (F.run A' X.stack s H ⟨us, []⟩ us vs Q E0 hr e0 b r h) fun z s' hq => ?_)
  cases z with
  | error e => exact hx pins σ H s e s' I hq
  | ok fl =>
    cases fl with
    | ret u => exact I.after hq
    | next => exact hq.elim
    | brk => exact hq.elim
    | cont => exact hq.elim
/-- len(o), o of a class with its own __len__ -/
theorem call_lenO (F : FnOk X.prog X.w X.K X.mg X.base CX0 k f fd [pa] sp) (hr : Room (k + 1) X.A) (hb : Binds X.K fd [pa] []) (hx : Passes CX0 X E0) (hs : PySem.W.findIn X.K (.ref C) "__len__" = some (some (.ref f))) (hf : PySem.W.isFn X.K (.ref f) = true) :
    CallR X (.builtin "len") (fun xs H Q => ∃ (a dx : Addr) (fs : List (Str × V)), xs = [.ref a] ∧ H a = some (.ins C dx fs) ∧ sp [.ref a] H (fun v H' => ∃ n : Int, v = .int n ∧ 0 ≤ n ∧ n < 2 ^ 63 ∧ Q (.int n) H') E0) := by
  intro pins s σ H xs us Q I r h
  obtain ⟨a, dx, fs, rfl, ha, h⟩ := h
  obtain ⟨u, rfl, ru⟩ := vals1 r
  cases ru
  obtain ⟨m, Fm⟩ := fr_of I
  obtain ⟨ox, od, J⟩ := inst_of I ha
  refine PySem.W.len_K Fm I.ok.mod.kin J hs hf (wpAny_mono (run_at (A' := X.A.in1) I.ok.frames F hr.in1 hb hx I (.cons (show RelV (.ref a) (.ref a) from rfl) .nil) h) (fun z s' hq => ?_) fun _ _ z => z)
  obtain ⟨v, H', I', rz, n, rfl, n0, n1, q⟩ := hq
  obtain ⟨t, rfl⟩ := rz
  exact ⟨⟨n0, n1⟩, .int n, H', I'.tok _, ⟨_, rfl⟩, q⟩
/-- o == v, o of a class with its own __eq__ that gives True or False -/
theorem op_eqO (F : FnOk X.prog X.w X.K X.mg X.base CX0 k f fd [pa, pb] sp) (hr : Room k X.A) (hb : Binds X.K fd [pa, pb] []) (hx : Passes CX0 X E0) (hs : PySem.W.findIn X.K (.ref C) "__eq__" = some (some (.ref f))) (hf : PySem.W.isFn X.K (.ref f) = true) :
    OpR X (compareOp .Eq) (fun x y H Q => ∃ (a dx : Addr) (fs : List (Str × V)) (tb : Value), x = .ref a ∧ H a = some (.ins C dx fs) ∧ TyX X.K H y tb ∧ PySem.W.notFirst X.K C tb = true ∧ sp [.ref a, y] H (fun v H' => ∃ b, v = .bl b ∧ Q (.bl b) H') E0) := by
  intro pins s σ H x y v u Q I rx ry h
  obtain ⟨a, dx, fs, tb, rfl, ha, ty, nf, h⟩ := h
  cases rx
  obtain ⟨m, Fm⟩ := fr_of I
  obtain ⟨ox, od, J⟩ := inst_of I ha
  obtain ⟨Pz, Z, p, _⟩ := kit_of I ry ty
  have hu : X.A.units < cLine := by
    have := hr.un
    omega
  show wpAny _ _ (richCompare .Eq _ _) _ _ _
  refine PySem.W.cmp_K (op := .Eq) hu Fm I.ok.mod.kin J (Z.ty _ _ I.kIn p) nf hs hf (wpAny_mono (run_fn F hr hb .nil hx I (.cons (show RelV (.ref a) (.ref a) from rfl) (.cons ry .nil)) h) (fun r s' hq => ?_) fun _ _ z => z)
  obtain ⟨z, H', I', rz, b, rfl, q⟩ := hq
  cases rz
  exact ⟨.bl b, H', I', rfl, q⟩
end NvO

set_option Elab.async false
set_option linter.all false
set_option maxRecDepth 100000
set_option maxHeartbeats 8000000
/-! # str(o), o != v by own __str__, __eq__; == of dicts of data, both answers; a method called with keywords -/
namespace NvO
open PySem PySem.Spec PyProof.Rows L2 PySem.W
section
variable {X : Cx} {k : Nat} {f C : Addr} {fd : FuncData} {sp : Sp} {pa pb : Str}
open Builtin Builtin.Str in
/-- str(o), o of a class with its own __str__ -/
theorem call_strO (F : FnOk X.prog X.w X.K X.mg X.base CX0 k f fd [pa] sp) (hr : Room (k + 2) X.A) (hb : Binds X.K fd [pa] []) (hx : Passes CX0 X E0) (hs : PySem.W.findIn X.K (.ref C) "__str__" = some (some (.ref f))) (hf : PySem.W.isFn X.K (.ref f) = true) :
    CallR X (.type "str") (fun xs H Q => ∃ (a dx : Addr) (fs : List (Str × V)), xs = [.ref a] ∧ H a = some (.ins C dx fs) ∧ sp [.ref a] H (fun v H' => ∃ y : Str, v = .str y ∧ Q (.str y) H') E0) := by
  intro pins s σ H xs us Q I r h
  obtain ⟨a, dx, fs, rfl, ha, h⟩ := h
  obtain ⟨u, rfl, ru⟩ := vals1 r
  cases ru
  obtain ⟨ox, od, J⟩ := inst_of I ha
  have hu : X.A.in1.in1.units < cLine := by
    have := hr.un
    show X.A.units + 1 + 1 < cLine
    omega
  refine callType_codes (T := "str") (Bi := Builtin.«object.__init__») (Q₁ := fun r s₁ => ∃ y u, r = .str y u ∧ EP X pins σ Q r s₁) PySem.F.called_str (PySem.F.typeCall_str_1 _) PySem.F.entry_object_init ?_ ?_
  · refine codeAny_of_tree ?_
    show wpAny _ X.A.in1.in1 (do checkBuiltinCall "str.__new__" ⟨[.type "str", .ref a], []⟩; again (.builtin "str.__new__" ⟨[.type "str", .ref a], []⟩)) _ _ s
    refine wpAny_bind (wpAny_of_eq (PySem.F.newCall_str_1 _) (wpAny_pure ⟨plainId_quiet (by decide +kernel) _, codeAny_builtin PySem.F.entry_str_new ?_⟩))
    rw [Around.under_plainId (by decide +kernel) _]
    rw [str_new_tree]
    refine wpAny_bind (wpAny_pure ?_)
    refine wpAny_bind (wpAny_of_eq isSubtype_str_str ?_)
    have key : wpAny (model X.prog X.w) X.A.in1.in1 (PySem.Builtin.Str.strOf (.ref a)) (fun r s₁ => ∃ y u, r = .str y u ∧ EP X pins σ Q r s₁) X.xe s := by
      unfold PySem.Builtin.Str.strOf
      rw [show isExactStr (.ref a) = false from rfl]
      refine wpAny_bind (m := cRoomFor _ _) (wpAny_cRoomFor hu ?_)
      refine wpAny_bind (m := callSpecial? (.ref a) (Str.ofString "__str__")) (special_fn I.kIn J hs (beq_iff_eq.mp hf) (wpAny_mono (run_at (A' := X.A.in1.in1) I.ok.frames F hr.in1.in1 hb hx I (.cons (show RelV (.ref a) (.ref a) from rfl) .nil) h) (fun z s' hq => ?_) fun _ _ y => y))
      obtain ⟨v, H', I', rz, y, rfl, q⟩ := hq
      obtain ⟨t, rfl⟩ := rz
      exact wpAny_pure ⟨_, _, rfl, .str y, H', I', ⟨_, rfl⟩, q⟩
    exact wpAny_bind (wpAny_mono key (fun r s₁ hr => wpAny_pure hr) fun _ _ y => y)
  · rintro obj s₁ ⟨y, u, rfl, hq⟩
    exact ⟨typeIs_str _ _ _, PySem.F.args_object_init_2 _ _, object_init_meets PySem.F.called_str.init.lookup PySem.F.called_str.made (by decide) X.prog X.w X.A.in1 _ s₁ ⟨typeIs_str _ _ _, rfl, hq⟩⟩
/-- a built-in slot found at an instance's class, called -/
theorem ifBound_B {prog : Program} {w : World} {A : Around} {E : Value → Shared → Prop} {s : Shared} {K : Frag} {x C : Addr} {ox : Obj} {od : Option Obj} {name : Str} {id : String} {M : Model} {args : List Value} {Q : Option Value → Shared → Prop}
    (X : K.In s.heap) (I : InstAt s.heap x ox C od) (hs : findIn K (.ref C) name = some (some (.builtin id))) (hb : ∀ self, bindSpecial (.builtin id) self = pure (.builtin id, [self]))
    (h : wpAny M A (call (.builtin id) (.ref x :: args)) (fun v => Q (some v)) E s) : wpAny M A (callSpecialIfBound? (.ref x) name args) Q E s := by
  simp only [callSpecialIfBound?, bindSpecialIfBound?]
  refine wpAny_holding (wpAny_bind (wpAny_bind (wpAny_bind (I.type.here ((looks_findIn X hs).here ?_)))))
  refine wpAny_bind (wpAny_askSetting (wpAny_ite ?_))
  have fin : wpAny M A (call (.builtin id) ([.ref x] ++ args) >>= fun v => pure (some v)) Q E s := wpAny_bind (wpAny_mono h (fun v s' h' => wpAny_pure h') fun _ _ h' => h')
  split
  · exact wpAny_bind ((Looks.of_pure (hb _)).here (wpAny_pure (by exact fin)))
  · exact wpAny_tryCatch (wpAny_bind ((Looks.of_pure (hb _)).here (wpAny_pure (by exact fin))))
open Builtin in
/-- o != v, o of a class with its own __eq__ that gives True or False, and without __ne__ -/
theorem op_neO (F : FnOk X.prog X.w X.K X.mg X.base CX0 k f fd [pa, pb] sp) (hr : Room (k + 1) X.A) (hb : Binds X.K fd [pa, pb] []) (hx : Passes CX0 X E0) (hn : PySem.W.findIn X.K (.ref C) "__ne__" = some (some (.builtin "object.__ne__"))) (hm : PySem.W.mroIn X.K C (.type "object") = some true) (hs : PySem.W.findIn X.K (.ref C) "__eq__" = some (some (.ref f))) (hf : PySem.W.isFn X.K (.ref f) = true) :
    OpR X (compareOp .NotEq) (fun x y H Q => ∃ (a dx : Addr) (fs : List (Str × V)) (tb : Value), x = .ref a ∧ H a = some (.ins C dx fs) ∧ TyX X.K H y tb ∧ PySem.W.notFirst X.K C tb = true ∧ sp [.ref a, y] H (fun v H' => ∃ b, v = .bl b ∧ Q (.bl (!b)) H') E0) := by
  intro pins s σ H x y v u Q I rx ry h
  obtain ⟨a, dx, fs, tb, rfl, ha, ty, nf, h⟩ := h
  cases rx
  obtain ⟨ox, od, J⟩ := inst_of I ha
  obtain ⟨Pz, Z, p, _⟩ := kit_of I ry ty
  have hu : X.A.units < cLine := by
    have := hr.un
    omega
  have hu1 : X.A.in1.units < cLine := by
    have := hr.un
    show X.A.units + 1 < cLine
    omega
  have KX := I.kIn
  have one : wpAny (model X.prog X.w) X.A (tryCompare (.ref a) "__ne__" u) (fun r s' => ∃ v, r = some v ∧ EP X pins σ Q v s') X.xe s := by
    unfold tryCompare
    refine wpAny_bind (ifBound_B (prog := X.prog) (w := X.w) KX J hn PySem.F.slot_object_ne.bind (wpAny_call (codeAny_call_builtin PySem.F.slot_object_ne.plain PySem.F.entry_object_ne (check_slot (i := "object.__ne__") (owner := "object") (n := "__ne__") (by decide +kernel) (by decide +kernel) (J.type.andThen (looks_mroIn KX hm)) (PySem.F.args_object_ne_2 _ _) ?_))))
    unfold Builtin.«object.__ne__»
    refine wpAny_bind (m := slotArgs "__ne__" 1 _) (wpAny_pure ?_)
    refine wpAny_bind (m := cRoomFor _ _) (wpAny_cRoomFor hu1 ?_)
    refine wpAny_bind (m := callSpecialIfBound? (.ref a) (Str.ofString "__eq__") _) (ifBound_K KX J hs hf (wpAny_mono (run_at (A' := X.A.in1) I.ok.frames F hr.in1 hb hx I (.cons (show RelV (.ref a) (.ref a) from rfl) (.cons ry .nil)) h) (fun r s' hq => ?_) fun _ _ y => y))
    obtain ⟨z, H', I', rz, b, rfl, q⟩ := hq
    cases rz
    refine wpAny_bind (m := truthy (.bool b)) (wpAny_truthy_bool ?_)
    exact wpAny_pure (wpAny_pure ⟨_, rfl, .bl (!b), H', I', rfl, q⟩)
  show wpAny _ _ (richCompare .NotEq _ _) _ _ _
  unfold richCompare
  simp only [oneThing_ref]
  refine wpAny_holding (wpAny_bind (wpAny_cRoomFor hu ?_))
  refine wpAny_bind (J.type.here (wpAny_bind ((Z.ty _ _ KX p).here ?_)))
  split
  · rename_i q
    have e : subIn X.K tb (.ref C) = some false := by
      rcases Bool.or_eq_true_iff.mp nf with e | e
      · rw [beq_iff_eq.mp e] at q; simp at q
      · exact beq_iff_eq.mp e
    refine wpAny_bind ((looks_subIn KX e).here ?_)
    simp only [Bool.false_eq_true, if_false]
    refine wpAny_bind (wpAny_mono one (fun r s' z => ?_) fun _ _ e => e)
    obtain ⟨v, rfl, hq⟩ := z
    exact wpAny_pure hq
  · refine wpAny_bind (wpAny_pure ?_)
    simp only [Bool.false_eq_true, if_false]
    refine wpAny_bind (wpAny_mono one (fun r s' z => ?_) fun _ _ e => e)
    obtain ⟨v, rfl, hq⟩ := z
    exact wpAny_pure hq
end
/-- entry by entry: what the other dict holds there is data, and the two are compared -/
inductive HitsD (K : PySem.W.Frag) (H : Hp) (ls : List (Key × V)) : List (Key × V) → Bool → Prop where
  | nil : HitsD K H ls [] true
  | cons {k : Key} {v u : V} {d e : PyData} {r : List (Key × V)} {b : Bool} (hv : valV ls k = some u) (h1 : Dp K H v d) (h2 : Dp K H u e) (s1 : SeqAt.shaped d = true) (s2 : SeqAt.shaped e = true) (t : HitsD K H ls r b) : HitsD K H ls ((k, v) :: r) (PyData.eqv d e && b)
section
variable {X : Cx} {pins : List (Addr × Obj)} {σ : L2.St} {H : Hp} {s : Shared}
theorem hitsD_run (I : Inv X pins σ H s) {A : Around} (hu : A.units + 64 < cLine) {ls : List (Key × V)} {vb : List (Key × Value)} (rb : KV ls vb) {ks : List (Key × V)} {va : List (Key × Value)} {b : Bool}
    (ra : KV ks va) (h : HitsD X.K H ls ks b) : PySem.W.KeqHitsP X.prog X.w A s vb va b := by
  unfold KV at ra
  induction ra generalizing b with
  | nil =>
    cases h
    exact .nil
  | @cons p q ps qs hpq t ih =>
    obtain ⟨h1, h2⟩ := hpq
    cases h with
    | cons hv d1 d2 s1 s2 tl =>
      rename_i k v u d e b'
      have rr : RelO (some u) (valueAt vb k) := by rw [← hv]; exact rb.val k
      obtain ⟨y, hy, ry⟩ := rr.some_of
      obtain ⟨key, w⟩ := q
      have h1' : k = key := h1
      rw [h1'] at hy
      obtain ⟨as, r1⟩ := Dp.reads I d v w d1 h2
      obtain ⟨bs, r2⟩ := Dp.reads I e u y d2 ry
      exact .hit hy (SeqAt.EqAt.eqP (SeqAt.eqAt_reads d e A s w y as bs r1 r2 (SeqAt.canLay_of_shaped s1) (SeqAt.canLay_of_shaped s2) (SeqAt.room_of_shaped s1 hu))) (ih tl)
theorem op_eqDd {X : Cx} (hu : X.A.units + 65 < cLine) : OpR X (compareOp .Eq) (fun x y H Q => ∃ (a b : Addr) (ks ls : List (Key × V)) (r : Bool), x = .ref a ∧ y = .ref b ∧ H a = some (.dK ks) ∧ H b = some (.dK ls) ∧ ks.length = ls.length ∧ HitsD X.K H ls ks r ∧ Q (.bl r) H) := by
  intro pins s σ H x y v u Q I rx ry h
  obtain ⟨a, b, ks, ls, r, rfl, rfl, ha, hb, hl, hp, q⟩ := h
  cases (show v = Value.ref a from rx)
  cases (show u = Value.ref b from ry)
  obtain ⟨_, ya, va, ra, da⟩ := (show ObjOk X.prog X.w H s.heap a (.dK ks) from I.hok a _ ha)
  obtain ⟨_, yb, vb, rb, db⟩ := (show ObjOk X.prog X.w H s.heap b (.dK ls) from I.hok b _ hb)
  refine PySem.W.rcP_dicts (knd := mixKind X.prog X.w) (r := r) ya yb da db (by omega) (fun _ => hitsD_run I (A := X.A.in1) (by show X.A.units + 1 + 64 < cLine; omega) rb ra hp) _ _ ?_
  have e : va.length = vb.length := by rw [← ra.length, ← rb.length]; exact hl
  rw [show (va.length == vb.length && r) = r from by rw [e]; simp]
  exact ⟨.bl r, H, I, rfl, q⟩
end
/-! ## o.m(e, .., k = v, ..) -/
def tMethN (C : Addr) (m : Str) (n j : Nat) (sp : Sp) (gV : List V → List V → List V) (E : XK) (ta : TE) (t tk : TA) : TE := fun σ H Q => ta σ H fun x H0 => ∃ a dx fs, x = .ref a ∧ H0 a = some (.ins C dx fs) ∧ fs.lookup m = none ∧ t σ H0 fun vs H1 => tk σ H1 fun zs H2 => vs.length = n ∧ zs.length = j ∧ sp (gV (x :: vs) zs) H2 Q E
section
variable {X : Cx} {CX : CXT} {k n : Nat} {C f : Addr} {fd : FuncData} {ps ks : List Str} {sp : Sp} {E : XK} {m : Str} {apos pos : Pos} {o e : Expr} {es : List Expr} {kws : List Keyword} {ta : TE} {t tk : TA} {g : List Value → List Value → List Value} {gV : List V → List V → List V}
theorem pe_methN {pl : Sem Bool} (he : PE X o ta) (c : Cls X.K C) (hm : Meth X.K C m f) (F : FnOk X.prog X.w X.K X.mg X.base CX k f fd ps sp) (hr : Room k X.A) (hb : KBn X.K fd ps (n + 1) ks g gV) (hx : Passes CX X E) (ha : PA X (e :: es) t) (hkw : PK X kws tk)
    (hall : (backToKw pos (keywordEach kws X.env)).all (·.1.isSome) = true := by rfl) (hks : (backToKw pos (keywordEach kws X.env)).filterMap (·.1) = ks := by rfl)
    (hst : starEach (e :: es) X.env = (false, eval e X.env) :: starEach es X.env := by rfl)
    (hpl : ((backTo pos (starEach (e :: es) X.env)).any (·.1) || (backToKw pos (keywordEach kws X.env)).any (·.1.isNone)) = false := by rfl)
    (ht : eval (.Call (.Attribute o m apos) (e :: es) kws pos) X.env = (do
      let ov ← eval o X.env
      standAt apos.atName
      let (f, first) ← holding [ov] (getMethod ov m pl)
      callWith pos f first (backTo pos (starEach (e :: es) X.env)) (backToKw pos (keywordEach kws X.env))) := by rfl) :
    PE X (.Call (.Attribute o m apos) (e :: es) kws pos) (tMethN C m n ks.length sp gV E ta t tk) := by
  refine ⟨fun pins s σ H Q I h => ?_⟩
  refine PySem.W.methodCall_KW (pl := pl) (thn (he.run pins s σ H _ I h) fun u s1 ⟨x, H1, I1, rx, a, dx, fs, ex, ea, l, q⟩ => ?_) ht
  subst ex
  obtain rfl : u = Value.ref a := rx
  refine getmeth_ok I1 ea c hm l ?_
  refine PySem.W.callWith_KW (first := [.ref a]) (h₀ := X.base) I.ok.mod.kin hm.kp hall (thn (ha.run pos pins s1 σ H1 _ I1 q) fun us s2 ⟨vs, H2, I2, r, q2⟩ => ?_) hpl hst
  refine thn (hkw.run pos pins s2 σ H2 _ I2 q2) fun ws s3 ⟨zs, H3, I3, rz, l1, l2, q3⟩ => ⟨I3.kIn, ?_⟩
  rw [hks]
  exact run_fnN (us := .ref a :: us) (vs := .ref a :: vs) F hr hb hx I3 (.cons rfl r) rz (congrArg Nat.succ l1) l2 q3
end
end NvO

set_option Elab.async false
set_option linter.all false
set_option maxRecDepth 100000
set_option maxHeartbeats 8000000
/-! # An own error with an __init__ of its own: from what stands in K (no law's own; of K0g) -/
namespace NvI
open PySem L2
theorem init_mk {prog : Program} {K : PySem.W.Frag} {C fI : Addr} {B i B0 newId : String} {f : String} {qual : Str}
    {oc : Value} {od : Option Addr} {doc pm : Value} {an : Option Addr} {cda : Addr} {ct : Value} {cc : Addr} {osl : Array (Option Value)} {msg : Str} {j : Nat} {p1 p2 a0 a1 a2 a3 a4 a5 q1 q2 q3 q4 : Pos}
    {ccl : Value} {cdd : Option Addr} {vs : Array Value} {ccs : Array (Option Value)} {file : Str} {tf : Tok} {cl : Value} {cld : Option Addr} {csl : Array (Option Value)}
    {nm q : Str} {N : Addr} {bs bm : List Value} {sn : List Str} {sub : List Value} {ab : Bool} {col : Option Bool} {dd : Option Addr} {k0 k1 k2 k3 k5 : Option Value} {i0 : String} {bmB : List Value}
    (iC : PySem.W.findIn K (.ref C) "__init__" = some (some (.ref fI)))
    (l1 : K.lookup fI = some ⟨oc, od, .func (PySem.W.ksFn "__init__" qual (PySem.NvE.iArgs f p1 p2) (PySem.NvE.iBody f msg j a0 a1 a2 a3 a4 a5 q1 q2 q3 q4) (PySem.NvE.iScope f) .none .none doc pm an (.ref cda) ct cc), osl⟩) (c1 : PySem.W.codeIn K (.ref cda) qual = true)
    (l2 : K.lookup cda = some ⟨ccl, cdd, .fields vs, ccs⟩) (v2 : vs[2]? = some (.str file tf)) (fl : ((prog.main.file : Str) == file) = true) (l3 : K.lookup cc = some ⟨cl, cld, .cell (some (.ref C)), csl⟩)
    (ev : ∀ L a cd c2, PySem.NvE.EvOk (PySem.W.ksEnv qual (PySem.NvE.iScope f) L a cd c2) msg j a0 a1 a2 a3 a4)
    (l4 : K.lookup C = some (excClassObj nm q C N bs bm true sn sub ab col dd k0 k1 k2 k3 k5 newId)) (rl : ∀ self, refuseLoop self "__setattr__" (.ref C :: bm) = pure ()) (ob : bm.contains (.type "object") = true) (nb : PySem.NvE.NewOk bm B0)
    (nf : ExcBaseFacts B0 newId i0 bmB) (tI : PySem.W.typeIn K (.ref fI) = some (.type "function")) (self : PySem.W.mroIn K C (.ref C) = some true) (up : PySem.W.ks_superIn K C C "__init__" = some (some (.builtin i)))
    (isB : PySem.W.subIn K (.ref C) (.type B) = some true) (stat : PySem.W.nsIn K PySem.cStatics "thirdparty.any" = some none) (sa : PySem.W.findIn K (.ref C) "__setattr__" = some (some (.builtin "object.__setattr__"))) (noF : PySem.W.findIn K (.ref C) (Str.ofString f) = some none)
    (inF : PySem.NvE.InF B i) (sup : PySem.W.nsIn K mainGlobals "super" = some none) (top : (prog.main.scope.names.lookup ("super" : Str)).isSome = false)
    (fs : (Str.ofString f == ("self" : Str)) = false) (fsup : (PySem.NvE.iScope f).names.lookup ("super" : Str) = some .globalImplicit) (fcl : (PySem.NvE.iScope f).names.lookup ("__class__" : Str) = some .free) (ff : (PySem.NvE.iScope f).names.lookup (Str.ofString f) = some .local)
    (fdb : (Str.ofString f == ("__debug__" : Str)) = false) (ncell : ∀ x ∈ (PySem.NvE.iScope f).names, x.2 ≠ .cell)
    (bd : ∀ (b : List Stmt) (doc pm ct cv : Value) (an : Option Addr) (cc : Addr) (p1 p2 : Pos) (x v : Value), bindArgs (PySem.W.ksFn "__init__" qual (PySem.NvE.iArgs f p1 p2) b (PySem.NvE.iScope f) .none .none doc pm an cv ct cc) ⟨[x, v], []⟩ = pure [(("self" : Str), x), (Str.ofString f, v)]) :
    PySem.NvE.InitTxt prog K C fI B i B0 newId f qual :=
  ⟨⟨_, _, _, _, _, _, _, _, _, _, _, _, _, _, _, _, _, _, _, _, _, _, _, l1, c1, ⟨_, _, _, _, _, _, l2, v2, fl⟩, ⟨_, _, _, l3⟩, ev⟩, ⟨_, _, _, _, _, _, _, _, _, _, _, _, _, _, _, l4, rl, ob, nb⟩, ⟨_, _, nf⟩, iC, tI, self, up, isB, stat, sa, noF, inF, sup, top, fs, fsup, fcl, ff, fdb, ncell, bd⟩
end NvI

set_option Elab.async false
set_option linter.all false
set_option maxRecDepth 100000
set_option maxHeartbeats 8000000
/-! # {t: v}, a display of one pair whose key is a tuple -/
namespace NvQ
open PySem PySem.Spec PyProof.Rows L2
def tDisp1 (tk tv : TE) : TE := fun σ H Q => ∀ p, H p = none → tPairs [(tk, tv)] σ (upd H p (.dT [])) fun ps H2 => ∃ (b : Addr) (k : List Key) (v : V), ps = [(.ref b, v)] ∧ H2 p = some (.dT []) ∧ H2 b = some (.tup (k.map kV)) ∧ Q (.ref p) (upd H2 p (.dT [(k, v)]))
theorem pe_disp1 {X : Cx} {pos : Pos} {ek ev : Expr} {tk tv : TE} (hu : X.A.units < cLine) (hk : PE X ek tk) (hv : PE X ev tv) : PE X (.Dict [some ek] [ev] pos) (tDisp1 tk tv) := by
  refine ⟨fun pins s σ H Q I q => ?_⟩
  have hn := I.hok.fresh (Nat.le_refl s.heap.objs.size)
  have I1 := I.laid (a := s.heap.objs.size) (o := .dT []) (h' := s.heap.push { cls := .type "dict", data := .dict #[] }) (t' := s.toks) (fun _ _ q => Heap.get?_push_of_some _ q) (Nat.le_refl _) (dt_empty s.heap I.big)
  have P : PPs X pos [some ek] [ev] [(tk, tv)] := pps_cons hk hv pps_nil
  have hl := pairTrees_length [some ek] [ev] X.env pos rfl rfl
  have hp0 : pairTrees [some ek] [ev] X.env pos ≠ [] := fun z => by
    rw [z] at hl
    cases hl
  have hlt : (pairTrees [some ek] [ev] X.env pos).length = 1 := hl
  rw [arm_eval_Dict, zip_pairTrees [some ek] [ev] X.env pos rfl rfl, dictDisplay_pairs _ hp0 (by rw [hlt]; decide)]
  refine wpAny_bind (wpAny_standAt (wpAny_bind (wpAny_subDictH (knd := tupleKind (mixKind X.prog X.w)) (Q := fun d s' => wpAny (model X.prog X.w) X.A (pure (Value.ref d)) (EP X pins σ Q) X.xe s') hu (by rw [hlt]; decide) ?_)))
  refine thn (P.run pins _ σ _ _ I1 (q _ hn)) fun ws s2 ⟨ps, H2, I2, rel, b, k, v, ep, e, eb, q2⟩ => ?_
  subst ep
  cases rel with
  | @cons pp qq pps qqs hpq t =>
    cases t
    obtain ⟨kk, vv⟩ := qq
    obtain ⟨r1, r2⟩ := hpq
    cases (show kk = Value.ref b from r1)
    obtain ⟨z, hd, xs, rx, dd⟩ := dt_of I2.hok e
    have rx0 : xs = [] := by
      cases rx
      rfl
    subst rx0
    refine ⟨[(k, b, vv)], ⟨rfl, rfl, key_of I2.hok eb, True.intro⟩, dd, fun h' tk' dd' hs => wpAny_pure ⟨.ref s.heap.objs.size, _, ?_, rfl, q2⟩⟩
    have dd2 : h'.DictOfH (tupleKind (mixKind X.prog X.w)) s.heap.objs.size [(k, b, vv)] := dd'
    obtain ⟨o, es, ep, ho, h2, h3, h4, _, h5⟩ := dd2
    refine d_write I2 (by rw [e]; exact True.intro) hs ⟨o, ho⟩ ⟨(by show 1 ≤ sizeLine; decide), hd, [(k, b, vv)], .cons ⟨rfl, ?_, r2⟩ .nil, o, es, ep, ho, h2, h3, h4, h5⟩
    show upd H2 s.heap.objs.size (.dT [(k, v)]) b = some (.tup (k.map kV))
    rw [upd_ne (ne_of eb e (fun z => nomatch z))]
    exact eb
end NvQ

set_option Elab.async false
set_option linter.all false
set_option maxRecDepth 100000
set_option maxHeartbeats 8000000
/-! # enumerate of a text -/
namespace NvY
open PySem PySem.Spec PyProof.Rows L2
def IteS (x : Str) : It := ⟨fun i _ => i < x.cps.size,
  fun i H v H' => ∃ (T : Addr) (a : Nat), v = .ref T ∧ H T = none ∧ H' = upd H T (.tup [.int (i : Nat), .str ⟨#[a]⟩]) ∧ x.cps[i]? = some a,
  fun i _ => i = x.cps.size⟩
theorem turn_enumS {P : Program} {w : World} {K : PySem.W.Frag} {elts : List Expr} {kk : Nat} {tpos : Pos} {x : Str} {t1 : Tok} {e it : Addr} (hne : e ≠ it) :
    Turn P w K (.Tuple elts kk tpos) (IteS x) (e :: [it]) e (fun i h => (∃ old, IsEnum h e it ((0 : Int) + (i : Int)) old) ∧ h.IsStrIter it (strIterType x) x t1 i) where
  mem := by simp
  obj := fun i h st c hc => by
    obtain ⟨⟨old, he⟩, ⟨o1, e1, _, d1⟩⟩ := st
    have e' : c = e ∨ c = it := by simpa using hc
    rcases e' with q | q
    · rw [q]; exact ⟨_, he, fun v q => nomatch q⟩
    · rw [q]; exact ⟨o1, e1, fun v q => by rw [d1] at q; cases q⟩
  keep := fun i h h' st k => by
    obtain ⟨⟨old, he⟩, ⟨o1, e1, r1⟩⟩ := st
    exact ⟨⟨old, k e (by simp) _ he⟩, ⟨o1, k it (by simp) _ e1, r1⟩⟩
  item := by
    intro X hP hw hK hc i pins s σ H E I hf st hg
    subst hP hw hK
    have hh : X.A.in1.handled = none := I.ok.hd hc
    have G := GoesN.enumFrom (elts := elts) (x1 := kk) (pos := tpos) 0 (Draws.text (prog := X.prog) (w := X.w) (A := X.A.in1) hh it x t1) e hne (by simpa using hne) (by simp)
    have live : ∀ b ∈ (e :: [it]), b < s.heap.objs.size := fun b hb => by
      obtain ⟨⟨old, he⟩, ⟨o1, e1, _⟩⟩ := id st
      have e' : b = e ∨ b = it := by simpa using hb
      rcases e' with q | q
      · rw [q]; exact Heap.lt_size he
      · rw [q]; exact Heap.lt_size e1
    refine G.goes i s (fun u s2 => ∃ v H', Inv X pins σ H' s2 ∧ RelV v u ∧ (IteS x).yld i H v H' ∧ _ ∧ ∀ b ∈ _, H' b = none) E hg st fun v h' tk hY st' hk htk => ?_
    obtain ⟨T, t, vx, rfl, hT, ⟨c1, u1, hx, rfl⟩, hIs⟩ := hY
    have hIs2 : IsTup h' T #[.int ((i : Nat) : Int) t, .str ⟨#[c1]⟩ u1] := by
      have z : (0 : Int) + (i : Int) = (i : Int) := Int.zero_add _
      rw [z] at hIs
      exact hIs
    have new : ObjOk X.prog X.w (upd H T (.tup [.int (i : Nat), .str ⟨#[c1]⟩])) h' T (.tup [.int (i : Nat), .str ⟨#[c1]⟩]) :=
      ⟨by show 2 ≤ sizeLine; decide, [.int (i : Nat) t, .str ⟨#[c1]⟩ u1], .cons ⟨t, rfl⟩ (.cons ⟨u1, rfl⟩ .nil), hIs2⟩
    have I1 : Inv X pins σ (upd H T (.tup [.int (i : Nat), .str ⟨#[c1]⟩])) { s with heap := h', toks := tk } :=
      I.turnedNew (t' := tk) (ch := [e, it]) hk (fun b hb => hf b (by
        have e' : b = e ∨ b = it := by simpa using hb
        rcases e' with q | q <;> rw [q] <;> simp)) hT new
    refine ⟨.ref T, _, I1, rfl, ⟨T, c1, rfl, I.hok.fresh hT, rfl, hx⟩, st', fun b hb => ?_⟩
    rw [upd_ne (Nat.ne_of_lt (Nat.lt_of_lt_of_le (live b hb) hT))]
    exact (hf b hb).1
  done := by
    intro X hP hw hK hc i pins s σ H E I hf st hg
    subst hP hw hK
    have hh : X.A.in1.handled = none := I.ok.hd hc
    have G := GoesN.enumFrom (elts := elts) (x1 := kk) (pos := tpos) 0 (Draws.text (prog := X.prog) (w := X.w) (A := X.A.in1) hh it x t1) e hne (by simpa using hne) (by simp)
    have hg : i = x.cps.size := hg
    subst hg
    refine G.stops s (fun s1 => Inv X pins σ H s1) E st fun h' tk hk htk => ?_
    exact I.turnedL (t' := tk) (ch := [e, it]) hk fun b hb => hf b (by
      have e' : b = e ∨ b = it := by simpa using hb
      rcases e' with q | q <;> rw [q] <;> simp)
  self := fun A i s Q E st h => let ⟨⟨_, he⟩, _⟩ := st; wpAny_pyIter_enum he h
def iEnumS (ta : TA) : TI := fun σ H R => ta σ H fun vs H1 => ∃ x : Str, vs = [.str x] ∧ R (IteS x) H1
theorem pi_enumS {X : Cx} {e : Expr} {ta : TA} {p pos tpos : Pos} {elts : List Expr} {kk : Nat} (hg : Gl X "enumerate") (hm : X.mg "enumerate" = none) (ha : PA X [e] ta) (hs : starEach [e] X.env = [(false, eval e X.env)] := by rfl) :
    PI X (.Tuple elts kk tpos) (.Call (.Name "enumerate" p) [e] [] pos) (iEnumS ta) := by
  refine ⟨fun pins s σ H R I h => ?_⟩
  refine Call_ (ld_blt I hg hm boot_enumerate (PyProof.Rows.callWith_type1 (thn (ha.run pos pins s σ H _ I h) fun us s1 ⟨vs, H1, I1, r1, q1⟩ => ?_) hs rfl))
  obtain ⟨x, ex, q⟩ := q1
  subst ex
  obtain ⟨u1, rfl, t1, rfl⟩ := vals1 r1
  refine call_enumerate_str fun h' he hit hsz hk => wpAny_pyIter_enum he ?_
  have I2 : Inv X pins σ H1 { s1 with heap := h' } := I1.kept (t' := s1.toks) hk
  refine ⟨s1.heap.objs.size + 1, _, _, _, H1, rfl, I2, turn_enumS (x := x) (t1 := t1) (e := s1.heap.objs.size + 1) (it := s1.heap.objs.size) (Nat.succ_ne_self _), ⟨⟨.none, he⟩, hit⟩, fun b hb => ?_, q⟩
  have e' : b = s1.heap.objs.size + 1 ∨ b = s1.heap.objs.size := by simpa using hb
  have hle : s1.heap.objs.size ≤ b := by
    rcases e' with z | z
    · rw [z]; exact Nat.le_add_right _ _
    · rw [z]; exact Nat.le_refl _
  exact I1.fpOk hle (I1.hok.fresh hle)
theorem walk_enumS {x : Str} : Walk (IteS x) x.cps.size (fun _ => True) (fun i H v H' => ∃ (T : Addr) (a : Nat), v = .ref T ∧ H T = none ∧ H' = upd H T (.tup [.int (i : Nat), .str ⟨#[a]⟩]) ∧ x.cps[i]? = some a) :=
  ⟨fun _ _ hi _ => hi, fun _ _ => rfl, fun _ _ _ _ _ _ y => y⟩
end NvY

set_option Elab.async false
set_option linter.all false
set_option maxRecDepth 100000
set_option maxHeartbeats 8000000
/-! # zip of a text and a list -/
namespace NvL
open PySem PySem.Spec PyProof.Rows L2
def ItzSL (K : PySem.W.Frag) (x : Str) (b : Addr) : It := ⟨fun i H => ∃ ys : List V, SqL K H b ys ∧ i < min x.cps.size ys.length,
  fun i H v H' => ∃ (T : Addr) (a : Nat) (y : V), v = .ref T ∧ H T = none ∧ H' = upd H T (.tup [.str ⟨#[a]⟩, y]) ∧ x.cps[i]? = some a ∧ ∀ ys : List V, SqL K H b ys → ys[i]? = some y,
  fun i H => ∃ ys : List V, SqL K H b ys ∧ i = min x.cps.size ys.length⟩
theorem turn_zipSL {P : Program} {w : World} {K : PySem.W.Frag} {elts : List Expr} {kk : Nat} {tpos : Pos} {x : Str} {t1 : Tok} {b z TI TO i1 i2 : Addr} (S : ZipSep2 z TI TO i1 i2 [i1] [i2, b]) (hne : b ≠ i2) :
    Turn P w K (.Tuple elts kk tpos) (ItzSL K x b) (z :: TI :: TO :: ([i1] ++ [i2])) z (fun i h => IsZip h z TI TO .none ∧ IsTupOf2 h TI (.ref i1) (.ref i2) ∧ (∃ a1 a2, IsTupOf2 h TO a1 a2) ∧ h.IsStrIter i1 (strIterType x) x t1 i ∧ h.IsListIter i2 b i) where
  mem := by simp
  obj := fun i h st c hc => by
    obtain ⟨hz, hTI, ⟨a1, a2, hTO⟩, ⟨o1, e1, _, d1⟩, ⟨o2, e2, _, d2⟩⟩ := st
    have e' : c = z ∨ c = TI ∨ c = TO ∨ c = i1 ∨ c = i2 := by simpa using hc
    rcases e' with q | q | q | q | q
    · rw [q]; exact ⟨_, hz, fun v q => nomatch q⟩
    · rw [q]; exact ⟨_, hTI, fun v q => nomatch q⟩
    · rw [q]; exact ⟨_, hTO, fun v q => nomatch q⟩
    · rw [q]; exact ⟨o1, e1, fun v q => by rw [d1] at q; cases q⟩
    · rw [q]; exact ⟨o2, e2, fun v q => by rw [d2] at q; cases q⟩
  keep := fun i h h' st k => by
    obtain ⟨hz, hTI, ⟨a1, a2, hTO⟩, ⟨o1, e1, r1⟩, h2⟩ := st
    exact ⟨k z (by simp) _ hz, k TI (by simp) _ hTI, ⟨a1, a2, k TO (by simp) _ hTO⟩, ⟨o1, k i1 (by simp) _ e1, r1⟩, h2.at fun o q => k i2 (by simp) o q⟩
  item := by
    intro X hP hw hK hc i pins s σ H E I hf st hg
    subst hP hw hK
    have hh : X.A.in1.handled = none := I.ok.hd hc
    obtain ⟨ys, hq, hlt⟩ := hg
    obtain ⟨its, rv, p, _⟩ := I.list hq
    have ly := rv.length
    have iy : i < ys.length := by omega
    obtain ⟨u, hu, ru⟩ := rv.get (List.getElem?_eq_getElem iy)
    have G := GoesN.zip2 (elts := elts) (x1 := kk) (pos := tpos) S (Draws.text (prog := X.prog) (w := X.w) (A := X.A.in1) hh i1 x t1) (Draws.list (prog := X.prog) (w := X.w) (A := X.A.in1) hh i2 b hne its.toArray)
    obtain ⟨hz, hTI, hTO, h1, h2⟩ := st
    have live : ∀ b ∈ (z :: TI :: TO :: ([i1] ++ [i2])), b < s.heap.objs.size := fun b hb => by
      obtain ⟨a1, a2, hTO⟩ := hTO
      obtain ⟨o1, e1, _⟩ := h1
      obtain ⟨o2, e2, _⟩ := h2
      have e' : b = z ∨ b = TI ∨ b = TO ∨ b = i1 ∨ b = i2 := by simpa using hb
      rcases e' with q | q | q | q | q
      · rw [q]; exact Heap.lt_size hz
      · rw [q]; exact Heap.lt_size hTI
      · rw [q]; exact Heap.lt_size hTO
      · rw [q]; exact Heap.lt_size e1
      · rw [q]; exact Heap.lt_size e2
    refine G.goes i s (fun u s2 => ∃ v H', Inv X pins σ H' s2 ∧ RelV v u ∧ (ItzSL X.K x b).yld i H v H' ∧ _ ∧ ∀ b ∈ _, H' b = none) E (by simpa [← ly] using hlt) ⟨hz, hTI, hTO, h1, ⟨h2, p.isList⟩⟩ fun v h' tk hY st' hk htk => ?_
    obtain ⟨T, vx, vy, rfl, hT, ⟨c1, u1, hx, rfl⟩, hy, hIs⟩ := hY
    have hy : its.toArray[i]? = some vy := hy
    have evy : vy = u := by
      have e : its.toArray[i]? = some u := by simpa using hu
      rw [e] at hy
      exact (Option.some.inj hy).symm
    subst evy
    have new : ObjOk X.prog X.w (upd H T (.tup [.str ⟨#[c1]⟩, ys[i]])) h' T (.tup [.str ⟨#[c1]⟩, ys[i]]) :=
      ⟨by show 2 ≤ sizeLine; decide, [.str ⟨#[c1]⟩ u1, vy], .cons ⟨u1, rfl⟩ (.cons ru .nil), hIs⟩
    have I1 : Inv X pins σ (upd H T (.tup [.str ⟨#[c1]⟩, ys[i]])) { s with heap := h', toks := tk } :=
      I.turnedNew (t' := tk) (ch := [z, TO, i1, i2]) hk (fun b hb => hf b (by
        have e' : b = z ∨ b = TO ∨ b = i1 ∨ b = i2 := by simpa using hb
        rcases e' with q | q | q | q <;> rw [q] <;> simp)) hT new
    refine ⟨.ref T, _, I1, rfl, ⟨T, c1, ys[i], rfl, I.hok.fresh hT, rfl, hx, fun l hl => by rw [I.list_inj hl hq]; exact List.getElem?_eq_getElem iy⟩, ⟨st'.1, st'.2.1, st'.2.2.1, st'.2.2.2.1, st'.2.2.2.2.1⟩, fun b hb => ?_⟩
    rw [upd_ne (Nat.ne_of_lt (Nat.lt_of_lt_of_le (live b hb) hT))]
    exact (hf b hb).1
  done := by
    intro X hP hw hK hc i pins s σ H E I hf st hg
    subst hP hw hK
    have hh : X.A.in1.handled = none := I.ok.hd hc
    obtain ⟨ys, hq, hlt⟩ := hg
    obtain ⟨its, rv, p, _⟩ := I.list hq
    have ly := rv.length
    have G := GoesN.zip2 (elts := elts) (x1 := kk) (pos := tpos) S (Draws.text (prog := X.prog) (w := X.w) (A := X.A.in1) hh i1 x t1) (Draws.list (prog := X.prog) (w := X.w) (A := X.A.in1) hh i2 b hne its.toArray)
    obtain ⟨hz, hTI, hTO, h1, h2⟩ := st
    have ei : i = min x.cps.size its.toArray.size := by simpa [← ly] using hlt
    subst ei
    refine G.stops s (fun s1 => Inv X pins σ H s1) E ⟨hz, hTI, hTO, h1, ⟨h2, p.isList⟩⟩ fun h' tk hk htk => ?_
    exact I.turnedL (t' := tk) (ch := [z, TO, i1, i2]) hk fun b hb => hf b (by
      have e' : b = z ∨ b = TO ∨ b = i1 ∨ b = i2 := by simpa using hb
      rcases e' with q | q | q | q <;> rw [q] <;> simp)
  self := fun A i s Q E st h => wpAny_pyIter_zip st.1 h
def iZipSL (K : PySem.W.Frag) (ta : TA) : TI := fun σ H R => ta σ H fun vs H1 => ∃ (x : Str) (b : Addr) (ys : List V), vs = [.str x, .ref b] ∧ SqL K H1 b ys ∧ R (ItzSL K x b) H1
theorem pi_zipSL {X : Cx} {e e2 : Expr} {ta : TA} {p pos tpos : Pos} {elts : List Expr} {kk : Nat} (hg : Gl X "zip") (hm : X.mg "zip" = none) (ha : PA X [e, e2] ta)
    (hs : starEach [e, e2] X.env = (false, eval e X.env) :: starEach [e2] X.env := by rfl) (hpl : (backTo pos (starEach [e2] X.env)).any (·.1) = false := by rfl) :
    PI X (.Tuple elts kk tpos) (.Call (.Name "zip" p) [e, e2] [] pos) (iZipSL X.K ta) := by
  refine ⟨fun pins s σ H R I h => ?_⟩
  refine Call_ (ld_blt I hg hm PyProof.Rows.boot_zip (PyProof.Rows.callWith_type1 (thn (ha.run pos pins s σ H _ I h) fun us s1 ⟨vs, H1, I1, r1, q1⟩ => ?_) hs hpl))
  obtain ⟨x, b, ys, ex, hq, q⟩ := q1
  subst ex
  obtain ⟨u1, u2, rfl, ⟨t1, rfl⟩, r2⟩ := vals2 r1
  cases r2
  obtain ⟨its, rv, p1, _⟩ := I1.list hq
  have lb : b < s1.heap.objs.size := p1.lt
  refine zip_begins2 (begins_text x t1) (begins_list b its.toArray) trivial p1.isList fun h' hz hTI hTO h1 h2 hsz hk => wpAny_pyIter_zip hz ?_
  have I2 : Inv X pins σ H1 { s1 with heap := h' } := I1.kept (t' := s1.toks) hk
  refine ⟨s1.heap.objs.size + 4, _, _, _, H1, rfl, I2, turn_zipSL (t1 := t1) (zip_sep2 (N := s1.heap.objs.size) (fp1 := []) (fp2 := [b]) (fun b hb => by cases hb) (fun c hc => by rw [List.mem_singleton.mp hc]; exact lb)) (Nat.ne_of_lt (Nat.lt_succ_of_lt lb)), ⟨hz, hTI, ⟨_, _, hTO⟩, ⟨_, h1, rfl, rfl⟩, ⟨_, h2, rfl, rfl⟩⟩, fun c hcm => ?_, q⟩
  have e' : c = s1.heap.objs.size + 4 ∨ c = s1.heap.objs.size + 2 ∨ c = s1.heap.objs.size + 3 ∨ c = s1.heap.objs.size ∨ c = s1.heap.objs.size + 1 := by simpa using hcm
  have hle : s1.heap.objs.size ≤ c := by
    rcases e' with z | z | z | z | z
    · rw [z]; exact Nat.le_add_right _ _
    · rw [z]; exact Nat.le_add_right _ _
    · rw [z]; exact Nat.le_add_right _ _
    · rw [z]; exact Nat.le_refl _
    · rw [z]; exact Nat.le_add_right _ _
  exact I1.fpOk hle (I1.hok.fresh hle)
theorem walk_zipSL {K : PySem.W.Frag} {x : Str} {b : Addr} {ys : List V} : Walk (ItzSL K x b) (min x.cps.size ys.length) (fun H => SqL K H b ys) (fun i H v H' => ∃ (T : Addr) (a : Nat) (y : V), v = .ref T ∧ H T = none ∧ H' = upd H T (.tup [.str ⟨#[a]⟩, y]) ∧ x.cps[i]? = some a ∧ ys[i]? = some y) :=
  ⟨fun _ _ hi g => ⟨ys, g, hi⟩, fun _ g => ⟨ys, g, rfl⟩, fun _ _ _ _ _ g h => by
    obtain ⟨T, a, y, h1, h2, h3, h4, h5⟩ := h
    exact ⟨T, a, y, h1, h2, h3, h4, h5 ys g⟩⟩
end NvL

set_option Elab.async false
set_option linter.all false
set_option maxRecDepth 100000
set_option maxHeartbeats 4000000
/-! # A text, many times over (no law's own) -/
namespace NvM
open PySem L2
/-- s * n -/
def times (s : Str) (n : Nat) : Str := ⟨(List.replicate n s.cps).foldl (· ++ ·) #[]⟩
theorem fold_toList (l : List (Array Nat)) : ∀ a : Array Nat, (l.foldl (· ++ ·) a).toList = a.toList ++ (l.map Array.toList).flatten := by
  induction l with
  | nil => intro a; simp
  | cons b l ih => intro a; rw [List.foldl_cons, ih]; simp
theorem times_toList (s : Str) (n : Nat) : (times s n).cps.toList = (List.replicate n s.cps.toList).flatten := by
  show ((List.replicate n s.cps).foldl (· ++ ·) #[]).toList = _
  rw [fold_toList, List.map_replicate]
  simp
theorem str_eq {a b : Str} (h : a.cps.toList = b.cps.toList) : a = b := by
  obtain ⟨a⟩ := a
  obtain ⟨b⟩ := b
  congr 1
  exact Array.ext' h
theorem times_length (s : Str) (n : Nat) : (times s n).length = n * s.length := by
  show (times s n).cps.size = n * s.cps.size
  rw [← Array.length_toList, times_toList]
  simp
def rRepStr : R2 := fun x y H Q => ∃ (i : Str) (n : Nat), x = .str i ∧ y = .int (n : Nat) ∧ i.length * n ≤ 1000000 ∧ n ≤ 1000000 ∧ i.length ≤ 1000000 ∧ Q (.str (times i n)) H
theorem op_repStr {X : Cx} : OpR X (binaryOp .Mult) rRepStr := by
  intro pins s σ H x y v u Q I rx ry h
  obtain ⟨i, n, rfl, rfl, hz, hn, hi, q⟩ := h
  obtain ⟨t, rfl⟩ := rx
  obtain ⟨t', rfl⟩ := ry
  have l : sizeLine = 16777216 := sizeLine_eq
  refine PySem.P.mul_str ?_ ?_ ?_ ?_
  · rw [decide_eq_false (by omega), decide_eq_false (by omega)]
    rfl
  · intro h1 h2 h3
    have h4 : (1000000 : Int) ≤ (2 ^ 63 - 1) / (n : Int) := Int.le_ediv_of_mul_le (by omega) (by omega)
    omega
  · intro h1 h2
    unfold Builtin.Str.tooLong
    rw [Int.toNat_natCast]
    exact decide_eq_false (by omega)
  · by_cases h1 : ((n : Nat) : Int) < 1
    · rw [if_pos h1]
      have n0 : n = 0 := by omega
      subst n0
      have e : times i 0 = Str.empty := by rfl
      rw [e] at q
      exact ⟨by decide, .str Str.empty, H, I.tok _, ⟨_, rfl⟩, q⟩
    · rw [if_neg h1]
      by_cases h2 : (((n : Nat) : Int) == 1 || i.length == 0) = true
      · rw [if_pos h2]
        have e : times i n = i := by
          refine str_eq ?_
          rw [times_toList]
          rcases Bool.or_eq_true_iff.mp h2 with h | h
          · have h := eq_of_beq h
            have n1 : n = 1 := by omega
            subst n1
            simp
          · have h := eq_of_beq h
            have h0 : i.cps.toList = [] := by
              have h : i.cps.size = 0 := h
              rw [← Array.length_toList] at h
              exact List.eq_nil_of_length_eq_zero h
            rw [h0]
            simp
        rw [e] at q
        exact ⟨.str i, H, I, ⟨_, rfl⟩, q⟩
      · rw [if_neg h2, Int.toNat_natCast]
        refine ⟨?_, .str (times i n), H, I.tok _, ⟨_, rfl⟩, q⟩
        show (times i n).length ≤ sizeLine
        rw [times_length, Nat.mul_comm]
        omega
end NvM

set_option Elab.async false
set_option linter.all false
set_option maxRecDepth 100000
set_option maxHeartbeats 2000000
/-! # A tuple, once -/
namespace NvN
open PySem PySem.Spec PyProof.Rows L2
theorem tuple_mul1 (l : Addr) (items : Array Value) (n : Nat) (dd : Option Addr) (sl : Array (Option Value)) (u : Tok) :
    Meets (Builtin.«tuple.__mul__» ⟨[.ref l, .int 1 u], []⟩) (fun _ R s => s.heap.get? l = some { cls := .type "tuple", dict := dd, data := .seq items n, slots := sl } ∧
      R (.ok (.ret (Value.ref l))) s) :=
  .of_wp fun prog w A R s h => by
    obtain ⟨hp, g, d, tk, os⟩ := s
    obtain ⟨hl, h⟩ := h
    have f1 := AutoSeq1.idx_int
    have c0 : (decide ((1 : Int) < -(2 ^ 63)) || decide ((1 : Int) ≥ 2 ^ 63)) = false := by decide
    have c1 : (items.isEmpty || (1 : Int) == 1) = true := by
      rw [Bool.or_eq_true]
      exact .inr rfl
    wp_walk using wpAny_loadPart' hl
    repeat (first
      | (refine wpAny_ite_false (decide_eq_false (by rw [c0]; exact Bool.false_ne_true)) ?_; wp_walk using wpAny_loadPart' hl)
      | (refine wpAny_ite_true (decide_eq_true (by rw [c1])) ?_; wp_walk using wpAny_loadPart' hl))
    exact ⟨_, rfl, h⟩
/-- once: the tuple itself -/
def rRepT1 (K : PySem.W.Frag) : R2 := fun x y H Q => ∃ l xs, x = .ref l ∧ y = .int 1 ∧ SqT K H l xs ∧ Q (.ref l) H
theorem op_repT1 {X : Cx} : OpR X (binaryOp .Mult) (rRepT1 X.K) := by
  intro pins s σ H x y v u Q I rx ry h
  obtain ⟨l, xs, rfl, rfl, hT, q⟩ := h
  cases rx
  obtain ⟨t, rfl⟩ := ry
  obtain ⟨its, r, ⟨⟨cls, dd, data, sl⟩, ho, hc, n, hd⟩, hs⟩ := I.tuple hT
  simp only at hc hd
  subst hc hd
  refine wpAny_binaryOp_repeat_ref (T := "tuple") (U := "int") (by decide) ⟨_, ho, rfl⟩ (fun s' => typeIs_int s' 1 t) noFill_tuple_mul F.fills_int_mul F.slot_int_rmul repeat_tuple F.slot_int_index.lookup
    (call_meets F.slot_int_rmul (typeIs_int s 1 t) F.entry_int_rmul (F.args_int_rmul_2 _ _) (int_rmul_tuple 1 t l its.toArray n dd sl)
      ⟨ho, rfl, ⟨_, ho, rfl⟩, call_meets F.slot_tuple_mul ⟨_, ho, rfl⟩ F.entry_tuple_mul (F.args_tuple_mul_2 _ _) (tuple_mul1 l its.toArray n dd sl t) ⟨ho, ?_⟩⟩)
  exact ⟨.ref l, H, I, rfl, q⟩
end NvN

set_option Elab.async false
set_option maxRecDepth 100000
set_option maxHeartbeats 4000000
/-! # The dice of the law -/
namespace M3
open PySem L2
def top (i : Nat) : Stmt := PySem.Challenge.pw_neverturns_k13_actions_and_their_words.main.body.getD i (.Pass ⟨0, 0, 0, 0⟩)
abbrev sDice : Stmt := top 49
abbrev sRoll : Stmt := top 50
abbrev sOneOf : Stmt := top 51
/-- dice that stand at d: what is left of a great cell, the mixed number, how many were drawn -/
def DiceAt (H : Hp) (d : Addr) (l m c : Int) : Prop := H d = some (.lst [.int l, .int m, .int c]) ∧ 0 ≤ l ∧ 0 ≤ m ∧ 0 ≤ c
/-- what a def leaves: the dice turned, all else as it was -/
def But (H H' : Hp) (d : Addr) : Prop := ∀ b o, b ≠ d → H b = some o → H' b = some o
def spRoll : Sp := fun vs H Q _ => ∃ (d : Addr) (l m c n : Int), vs = [.ref d, .int n] ∧ DiceAt H d l m c ∧ 0 < n ∧ n < 1073741824 ∧
  ∀ (r l' c' : Int), 0 ≤ r → r < n → 0 ≤ l' → 0 ≤ c' → Q (.int r) (upd H d (.lst [.int l', .int m, .int c']))
/-- the dice at d are turned, nothing else -/
def Turned (H H' : Hp) (d : Addr) : Prop := ∃ l m c : Int, 0 ≤ l ∧ 0 ≤ m ∧ 0 ≤ c ∧ H' = upd H d (.lst [.int l, .int m, .int c])
def Dz (H : Hp) (d : Addr) : Prop := ∃ l m c : Int, DiceAt H d l m c
theorem Turned.dz {H H' : Hp} {d : Addr} (t : Turned H H' d) : Dz H' d := by
  obtain ⟨l, m, c, h1, h2, h3, rfl⟩ := t
  exact ⟨l, m, c, upd_same, h1, h2, h3⟩
theorem Turned.ne {H H' : Hp} {d b : Addr} (t : Turned H H' d) (h : b ≠ d) : H' b = H b := by
  obtain ⟨l, m, c, h1, h2, h3, rfl⟩ := t
  exact upd_ne h
theorem Turned.trans {H H1 H2 : Hp} {d : Addr} (t : Turned H H1 d) (u : Turned H1 H2 d) : Turned H H2 d := by
  obtain ⟨l, m, c, h1, h2, h3, rfl⟩ := t
  obtain ⟨l', m', c', g1, g2, g3, rfl⟩ := u
  exact ⟨l', m', c', g1, g2, g3, upd_upd⟩
theorem SqL.turned {K : PySem.W.Frag} {H : Hp} {d a : Addr} {o : HO} {xs : List V} (hn : a ≠ d) (h : SqL K H a xs) : SqL K (upd H d o) a xs := by
  rcases h with (h | ⟨u, h⟩) | h
  · exact .inl (.inl (by rw [upd_ne hn]; exact h))
  · exact .inl (.inr ⟨u, by rw [upd_ne hn]; exact h⟩)
  · exact .inr h
def spOneOf (K : PySem.W.Frag) : Sp := fun vs H Q _ => ∃ (d a : Addr) (xs : List V), vs = [.ref d, .ref a] ∧ Dz H d ∧ SqL K H a xs ∧ a ≠ d ∧ 0 < xs.length ∧ xs.length < 1000000 ∧
  ∀ (v : V) (H' : Hp), v ∈ xs → Turned H H' d → Q v H'
def spDice (K : PySem.W.Frag) : Sp := fun vs H Q _ => ∃ (a : Addr) (ns : List Int) (i : Int), vs = [.ref a, .int i] ∧ SqL K H a (ns.map V.int) ∧ 0 ≤ i ∧ ns.length ≤ 63 ∧
  ∀ (p : Addr) (l m : Int), H p = none → 0 ≤ l → 0 ≤ m → Q (.ref p) (upd H p (.lst [.int l, .int m, .int 0]))
theorem op_powX {X : Cx} : OpR X (binaryOp .Pow) (rI (fun i j => 0 ≤ j ∧ (Builtin.Int.intBits i : Int) * j ≤ 2 ^ 27) fun i j => .int (i ^ j.toNat)) := opI fun _ _ _ _ _ _ _ hc q => PyProof.Rows.pow_int hc.1 hc.2 q
structure TxI (mg : Str → Option Value) : Prop where
  int : mg "int" = none
  abs : mg "abs" = none
  len : mg "len" = none
section
variable {P : Program} {w : World} {K : PySem.W.Frag} {mg : Str → Option Value} {base : Heap}
theorem scRoll : FnScope ["dice", "total", "number", "drawn", "one", "two"] ["dice", "total"] (defScope sRoll) := ⟨rfl, rfl, rfl, by decide +kernel, rfl, by decide +kernel, by decide +kernel⟩
theorem ok_roll {f : Addr} {fd : FuncData} (F : Fun K "_law_roll" "_law_roll" sRoll f fd) (T : TxI mg) : FnOk P w K mg base CX0 1 f fd ["dice", "total"] spRoll := by
  refine F.ok scRoll (fun vs H Q E h => ?_) (fun cdv A outer s H vs Q E hr h => ?_)
  · obtain ⟨d, l, m, c, n, rfl, _⟩ := h
    rfl
  · obtain ⟨d, l, m, c, n, rfl, ⟨hd, hl, hm, hc⟩, hn, hn2, k⟩ := h
    refine ⟨_, pss_cons (ps_set (i := 2) scRoll.nd rfl (Or.inl rfl) (pe_callTy call_int1 (by rfl) T.int (by decide +kernel) (pa_cons (pv 1) pa_nil)))
      (pss_cons (ps_if (pt_cmpR op_gt (pe_ix ix_list (pv 0) pe_int (fun _ _ => rfl)) pe_int (nomark _))
        (pss_cons (ps_set (i := 3) scRoll.nd rfl (Or.inl rfl) (pe_op op_modN (pe_ix ix_list (pv 0) pe_int (fun _ _ => rfl)) (pv 2)))
        (pss_cons (ps_asg (pe_op op_fdivN (pe_ix ix_list (pv 0) pe_int (fun _ _ => rfl)) (pv 2)) (pg_sub (pv 0) pe_int set_list))
        (pss_one (ps_ret (pe_callTy call_int1 (by rfl) T.int (by decide +kernel) (pa_cons (pv 3) pa_nil)))))) pss_nil)
      (pss_cons (ps_asg (pe_op op_add (pe_ix ix_list (pv 0) pe_int (fun _ _ => rfl)) pe_int) (pg_sub (pv 0) pe_int set_list))
      (pss_cons (ps_set (i := 4) scRoll.nd rfl (Or.inl rfl) (pe_op op_mod (pe_op op_add (pe_ix ix_list (pv 0) pe_int (fun _ _ => rfl)) (pe_op op_mul pe_int (pe_ix ix_list (pv 0) pe_int (fun _ _ => rfl)))) pe_int))
      (pss_cons (ps_set (i := 5) scRoll.nd rfl (Or.inl rfl) (pe_op op_add (pe_op op_mul (pe_op op_mod (pe_op op_mul (pv 4) (pv 4)) pe_int) (pv 4)) (pe_op op_mul pe_int (pe_ix ix_list (pv 0) pe_int (fun _ _ => rfl)))))
      (pss_cons (ps_set (i := 5) scRoll.nd rfl (Or.inl rfl) (pe_op op_mod (pv 5) pe_int))
      (pss_one (ps_ret (pe_callTy call_int1 (by rfl) T.int (by decide +kernel) (pa_cons (pe_op op_modN (pe_op op_fdiv (pv 5) pe_int) (pv 2)) pa_nil))))))))), ?_⟩
    have h1 : atI [V.int l, V.int m, V.int c] 1 = some (.int m) := rfl
    have h2 : ∀ z : Int, atI [V.int l, V.int m, V.int z] 2 = some (.int z) := fun _ => rfl
    have h1' : ∀ z : Int, atI [V.int l, V.int m, V.int z] 1 = some (.int m) := fun _ => rfl
    refine ⟨_, rfl, .inl ⟨_, rfl, ?_⟩⟩
    refine ⟨_, rfl, d, _, 0, _, rfl, rfl, SqL.of hd, rfl, _, _, rfl, rfl, _, rfl, ?_⟩
    refine ite2 (fun hpos => ?_) (fun hpos => ?_)
    · have hpos : 0 < l := of_decide_eq_true hpos
      refine ⟨_, rfl, d, _, 0, _, rfl, rfl, SqL.of hd, rfl, _, rfl, _, _, rfl, rfl, (by omega), ?_⟩
      refine ⟨_, rfl, d, _, 0, _, rfl, rfl, SqL.of hd, rfl, _, rfl, _, _, rfl, rfl, ⟨by omega, by omega⟩, ?_⟩
      refine ⟨_, rfl, d, _, 0, 0, rfl, rfl, hd, rfl, ?_⟩
      refine ⟨_, rfl, .inl ⟨_, rfl, ?_⟩⟩
      refine k _ _ _ ?_ ?_ ?_ hc
      · exact Int.fmod_nonneg (by omega) (by omega)
      · exact Int.fmod_lt_of_pos _ hn
      · exact Int.fdiv_nonneg hl (by omega)
    · refine ⟨_, rfl, d, _, 2, _, rfl, rfl, SqL.of hd, rfl, _, _, rfl, rfl, ?_⟩
      refine ⟨_, rfl, d, _, 2, 2, rfl, rfl, hd, rfl, ?_⟩
      have hd2 : (upd H d (.lst [.int l, .int m, .int (c + 1)])) d = some (.lst [.int l, .int m, .int (c + 1)]) := upd_same
      -- one
      refine ⟨_, rfl, d, _, 1, _, rfl, rfl, SqL.of hd2, rfl, ?_⟩
      refine ⟨_, rfl, d, _, 2, _, rfl, rfl, SqL.of hd2, rfl, _, _, rfl, rfl, .inl ⟨by decide, by decide⟩, _, _, rfl, rfl, _, _, rfl, rfl, (by show (0 : Int) < 2305843009213693951; decide), ?_⟩
      have b1 : ∀ x : Int, 0 ≤ x % 2305843009213693951 ∧ x % 2305843009213693951 < 2305843009213693951 := fun x => by omega
      generalize hx : (m + 1000151 * (c + 1)) % 2305843009213693951 = x1
      have bx := b1 (m + 1000151 * (c + 1))
      rw [hx] at bx
      -- two
      refine ⟨_, rfl, _, rfl, _, _, rfl, rfl, .inl ⟨by omega, by omega⟩, _, _, rfl, rfl, (by show (0 : Int) < 2305843009213693921; decide), ?_⟩
      have b2 : ∀ x : Int, 0 ≤ x % 2305843009213693921 ∧ x % 2305843009213693921 < 2305843009213693921 := fun x => by omega
      have by1 := b2 (x1 * x1)
      generalize hy : (x1 * x1) % 2305843009213693921 = y1 at by1 ⊢
      refine ⟨_, rfl, _, _, rfl, rfl, .inl ⟨by omega, by omega⟩, _, rfl, d, _, 2, _, rfl, rfl, SqL.of hd2, rfl, _, _, rfl, rfl, .inl ⟨by decide, by decide⟩, _, _, rfl, rfl, ?_⟩
      refine ⟨_, rfl, _, _, rfl, rfl, (by show (0 : Int) < 2305843009213693907; decide), ?_⟩
      have b3 : ∀ x : Int, 0 ≤ x % 2305843009213693907 := fun x => by omega
      have bz := b3 (y1 * x1 + 9403 * (c + 1))
      generalize (y1 * x1 + 9403 * (c + 1)) % 2305843009213693907 = z1 at bz ⊢
      refine ⟨_, rfl, _, _, rfl, rfl, ⟨by decide, by decide⟩, _, rfl, _, _, rfl, rfl, (by omega), .inl ⟨_, rfl, ?_⟩⟩
      refine k _ _ _ ?_ ?_ hl (by omega)
      · exact Int.fmod_nonneg (by omega) (by omega)
      · exact Int.fmod_lt_of_pos _ hn
theorem scOneOf : FnScope ["dice", "items"] ["dice", "items"] (defScope sOneOf) := ⟨rfl, rfl, rfl, by decide +kernel, rfl, by decide +kernel, by decide +kernel⟩
theorem ok_oneof {f g : Addr} {fd gd : FuncData} (F : Fun K "_law_one_of" "_law_one_of" sOneOf f fd) (G : Fun K "_law_roll" "_law_roll" sRoll g gd) (bG : Binds K gd ["dice", "total"] []) (gG : mg "_law_roll" = some (.ref g)) (T : TxI mg) :
    FnOk P w K mg base CX0 2 f fd ["dice", "items"] (spOneOf K) := by
  have GR : FnOk P w K mg base CX0 1 g gd ["dice", "total"] spRoll := ok_roll G T
  refine F.ok scOneOf (fun vs H Q E h => ?_) (fun cdv A outer s H vs Q E hr h => ?_)
  · obtain ⟨d, a, xs, rfl, _⟩ := h
    rfl
  · obtain ⟨d, a, xs, rfl, ⟨l, m, c, D⟩, ha, hn, h0, hz, k⟩ := h
    refine ⟨_, pss_one (ps_ret (pe_ix ix_list (pv 1) (pe_call GR hr rfl gG G.kp bG .nil pass0 (pa_cons (pv 0) (pa_cons (pe_callB call_len_seq (by rfl) T.len PySem.boot_len (pa_cons (pv 1) pa_nil)) pa_nil))) (fun _ _ => rfl))), ?_⟩
    refine ⟨_, rfl, _, rfl, _, rfl, a, xs, rfl, .inl ha, d, l, m, c, xs.length, rfl, D, by omega, by omega, fun r l' c' h1 h2 h3 h4 => ?_⟩
    have hlt : r.toNat < xs.length := by omega
    have er : r = (r.toNat : Int) := by omega
    refine ⟨a, xs, r, xs[r.toNat], rfl, rfl, (SqL.turned hn ha), ?_, ?_⟩
    · have q := atI_nat (List.getElem?_eq_getElem hlt)
      rw [← er] at q
      exact q
    · exact k _ _ (List.getElem_mem hlt) ⟨l', m, c', h3, D.2.2.1, h4, rfl⟩
theorem scDice : FnScope ["script", "at", "cell", "great", "left", "mixed"] ["script", "at"] (defScope sDice) := ⟨rfl, rfl, rfl, by decide +kernel, rfl, by decide +kernel, by decide +kernel⟩
theorem ok_dice {f : Addr} {fd : FuncData} (F : Fun K "_law_dice" "_law_dice" sDice f fd) (T : TxI mg) : FnOk P w K mg base CX0 1 f fd ["script", "at"] (spDice K) := by
  refine F.ok scDice (fun vs H Q E h => ?_) (fun cdv A outer s H vs Q E hr h => ?_)
  · obtain ⟨a, ns, i, rfl, _⟩ := h
    rfl
  · obtain ⟨a, ns, i, rfl, ha, hi, hl, k⟩ := h
    refine ⟨_, pss_cons (ps_set (i := 2) scDice.nd rfl (Or.inl rfl) (pe_op op_add (pe_op op_mul pe_int (pv 1)) pe_int))
      (pss_cons (ps_if (pt_cmpR op_lt (pv 1) (pe_callB call_len_seq (by rfl) T.len PySem.boot_len (pa_cons (pv 0) pa_nil)) (nomark _)) (pss_one (ps_set (i := 2) scDice.nd rfl (Or.inl rfl) (pe_ix ix_list (pv 0) (pv 1) (fun _ _ => rfl)))) pss_nil)
      (pss_cons (ps_set (i := 3) scDice.nd rfl (Or.inl rfl) (pe_op op_mod (pe_callTy call_int1 (by rfl) T.int (by decide +kernel) (pa_cons (pe_callB call_abs (by rfl) T.abs (by decide +kernel) (pa_cons (pv 2) pa_nil)) pa_nil)) (pe_op op_powX (pe_op op_pow pe_int pe_int) pe_int)))
      (pss_cons (ps_set (i := 4) scDice.nd rfl (Or.inl rfl) (pe_op op_fdivW (pv 3) (pe_op op_pow pe_int pe_int)))
      (pss_cons (ps_set (i := 5) scDice.nd rfl (Or.inl rfl) (pe_op op_add (pe_op op_add (pe_op op_add (pe_op op_mul (pe_op op_mod (pv 3) pe_int) pe_int) (pe_op op_mul pe_int (pv 1)))
        (pe_op op_mul pe_int (pe_callTy call_int1 (by rfl) T.int (by decide +kernel) (pa_cons (pe_cmpR op_lt (pv 2) pe_int (nomark _)) pa_nil)))) pe_int))
      (pss_one (ps_ret (pe_lst (pa_cons (pv 4) (pa_cons (pe_op op_mod (pv 5) pe_int) (pa_cons pe_int pa_nil)))))))))), ?_⟩
    refine ⟨_, rfl, _, _, rfl, rfl, .inl ⟨by decide, by decide⟩, _, _, rfl, rfl, ?_⟩
    refine ⟨_, rfl, _, rfl, a, _, rfl, .inl ha, _, _, rfl, rfl, _, rfl, ?_⟩
    have pw0 : (0 : Int) < (10 ^ (60 : Int).toNat) ^ (10 : Int).toNat := Int.pow_pos (Int.pow_pos (by decide))
    have pb : (0 ≤ (10 : Int) ∧ (Builtin.Int.intBits (10 ^ (60 : Int).toNat) : Int) * 10 ≤ 2 ^ 27) := ⟨by decide, by decide +kernel⟩
    have p18 : (0 : Int) < 10 ^ (18 : Int).toNat := Int.pow_pos (by decide)
    have p18b : ((10 : Int) ^ (18 : Int).toNat).natAbs.log2 < 9000 := by decide +kernel
    have m1 : ∀ x : Int, -(2 ^ 64) < x % 2147483237 ∧ x % 2147483237 < 2 ^ 64 := fun x => by omega
    refine ite2 (fun hc => ?_) (fun hc => ?_)
    · have hc : i < ((ns.map V.int).length : Int) := of_decide_eq_true hc
      have hlt : i.toNat < ns.length := by rw [List.length_map] at hc; omega
      have er : i = (i.toNat : Int) := by omega
      have q : atI (ns.map V.int) (i.toNat : Int) = some (.int ns[i.toNat]) := atI_nat (by rw [List.getElem?_map, List.getElem?_eq_getElem hlt]; rfl)
      rw [← er] at q
      refine ⟨_, rfl, _, rfl, a, _, i, _, rfl, rfl, ha, q, ?_⟩
      generalize ns[i.toNat] = cell
      refine ⟨_, rfl, _, rfl, .inl ⟨_, rfl, _, _, rfl, rfl, ⟨by decide, by decide, by decide⟩, _, _, rfl, rfl, pb, _, _, rfl, rfl, pw0, ?_⟩⟩
      refine ⟨_, rfl, _, _, rfl, rfl, ⟨by decide, by decide, by decide⟩, _, _, rfl, rfl, ⟨p18, p18b⟩, ?_⟩
      refine ⟨_, rfl, _, _, rfl, rfl, (by show (0 : Int) < 2147483237; decide), _, _, rfl, rfl, .inl ⟨(m1 _).1, (m1 _).2⟩, _, rfl, _, _, rfl, rfl, .inl ⟨by decide, by decide⟩, _, _, rfl, rfl, ?_⟩
      refine ⟨_, rfl, _, _, rfl, rfl, .inr ⟨_, rfl, _, _, rfl, rfl, .inl ⟨by decide, by decide⟩, _, _, rfl, rfl, _, _, rfl, rfl, ?_⟩⟩
      refine ⟨_, rfl, _, rfl, _, _, rfl, rfl, (by show (0 : Int) < 2147483179; decide), (by show 3 ≤ sizeLine; decide), fun p hp => ?_⟩
      exact k p _ _ hp (Int.ediv_nonneg (Int.emod_nonneg _ (by omega)) (by omega)) (Int.emod_nonneg _ (by decide))
    · refine ⟨_, rfl, _, rfl, .inl ⟨_, rfl, _, _, rfl, rfl, ⟨by decide, by decide, by decide⟩, _, _, rfl, rfl, pb, _, _, rfl, rfl, pw0, ?_⟩⟩
      refine ⟨_, rfl, _, _, rfl, rfl, ⟨by decide, by decide, by decide⟩, _, _, rfl, rfl, ⟨p18, p18b⟩, ?_⟩
      refine ⟨_, rfl, _, _, rfl, rfl, (by show (0 : Int) < 2147483237; decide), _, _, rfl, rfl, .inl ⟨(m1 _).1, (m1 _).2⟩, _, rfl, _, _, rfl, rfl, .inl ⟨by decide, by decide⟩, _, _, rfl, rfl, ?_⟩
      refine ⟨_, rfl, _, _, rfl, rfl, .inr ⟨_, rfl, _, _, rfl, rfl, .inl ⟨by decide, by decide⟩, _, _, rfl, rfl, _, _, rfl, rfl, ?_⟩⟩
      refine ⟨_, rfl, _, rfl, _, _, rfl, rfl, (by show (0 : Int) < 2147483179; decide), (by show 3 ≤ sizeLine; decide), fun p hp => ?_⟩
      exact k p _ _ hp (Int.ediv_nonneg (Int.emod_nonneg _ (by omega)) (by omega)) (Int.emod_nonneg _ (by decide))
end
end M3

set_option Elab.async false
set_option linter.all false
set_option maxRecDepth 100000
set_option maxHeartbeats 8000000
/-! # Drawn orders, letters, words -/
namespace M3
open PySem L2
theorem keep_new {H : Hp} {p b : Addr} {o u : HO} (h : H b = some o) (hp : H p = none) : upd H p u b = some o := by
  rw [upd_ne (ne_of_none h hp)]
  exact h
/-- all but the dice stands as it stood -/
def Still (d : Addr) (H H' : Hp) : Prop := ∀ b o, b ≠ d → H b = some o → H' b = some o
theorem Still.new {d : Addr} {H H1 : Hp} {p : Addr} {u : HO} (s : Still d H H1) (hp : H1 p = none) : Still d H (upd H1 p u) := fun b o hb h => keep_new (s b o hb h) hp
theorem Still.turn {d : Addr} {H H1 H2 : Hp} (s : Still d H H1) (t : Turned H1 H2 d) : Still d H H2 := fun b o hb h => by
  rw [t.ne hb]
  exact s b o hb h
theorem Still.refl (d : Addr) (H : Hp) : Still d H H := fun _ _ _ h => h
theorem Still.trans {d : Addr} {H H1 H2 : Hp} (s : Still d H H1) (t : Still d H1 H2) : Still d H H2 := fun b o hb h => t b o hb (s b o hb h)
/-- what is made behind H changes nothing of H -/
theorem Still.at_new {d q : Addr} {H H1 : Hp} {u : HO} (s : Still d H H1) (hq : H q = none) : Still d H (upd H1 q u) := fun b o hb h => by
  rw [upd_ne (ne_of_none h hq)]
  exact s b o hb h
theorem Dz.new {H : Hp} {d p : Addr} {u : HO} (z : Dz H d) (hp : H p = none) : Dz (upd H p u) d := by
  obtain ⟨l, m, c, h, r⟩ := z
  exact ⟨l, m, c, keep_new h hp, r⟩
theorem Dz.ne {H : Hp} {d p : Addr} {u : HO} (z : Dz H d) (hp : p ≠ d) : Dz (upd H p u) d := by
  obtain ⟨l, m, c, h, r⟩ := z
  exact ⟨l, m, c, by rw [upd_ne hp.symm]; exact h, r⟩
structure TxM (mg : Str → Option Value) : Prop where
  list : mg "list" = none
  sorted : mg "sorted" = none
  range : mg "range" = none
  tuple : mg "tuple" = none
  len : mg "len" = none
/-- the facts of the dice's defs -/
structure DefsD (K : PySem.W.Frag) (mg : Str → Option Value) where
  (fR fO : Addr)
  (dR dO : FuncData)
  R : Fun K "_law_roll" "_law_roll" sRoll fR dR
  bR : Binds K dR ["dice", "total"] []
  mR : mg "_law_roll" = some (.ref fR)
  O : Fun K "_law_one_of" "_law_one_of" sOneOf fO dO
  bO : Binds K dO ["dice", "items"] []
  mO : mg "_law_one_of" = some (.ref fO)
abbrev sMixed : Stmt := top 52
theorem dp_strs {K : PySem.W.Frag} {H : Hp} : ∀ ss : List Str, DpAll K H (ss.map V.str) (ss.map PyData.str)
  | [] => .nil
  | _ :: ss => .cons (.str _) (dp_strs ss)
theorem strs_lay : ∀ ss : List Str, (∀ z ∈ ss, PyData.strOk z = true) → PyData.canLayAll0 (ss.map PyData.str) = true
  | [], _ => by rfl
  | x :: l, hk => by
    have h := strs_lay l fun z hz => hk z (List.mem_cons_of_mem _ hz)
    have h0 := hk x List.mem_cons_self
    simp only [List.map_cons, PyData.canLayAll0, PyData.canLay0, h, h0, Bool.and_self]
theorem strs_depth : ∀ ss : List Str, PyData.depthAll (ss.map PyData.str) = 0
  | [] => by rfl
  | _ :: l => by
    have h := strs_depth l
    simp only [List.map_cons, PyData.depthAll, PyData.depth, h, Nat.max_self]
theorem strs_shaped (ss : List Str) (hk : ∀ z ∈ ss, PyData.strOk z = true) : SeqAt.shaped (.list (ss.map PyData.str)) = true := by
  unfold SeqAt.shaped
  have h1 : (PyData.list (ss.map PyData.str)).canLay0 = true := by
    have h := strs_lay ss hk
    simp only [PyData.canLay0, h]
  have h2 : (PyData.list (ss.map PyData.str)).depth = 1 := by
    have h := strs_depth ss
    simp only [PyData.depth, h]
  rw [h1, h2]
  rfl
theorem map_erase {α β : Type} (g : α → β) : ∀ (l : List α) (i : Nat), (l.map g).eraseIdx i = (l.eraseIdx i).map g
  | [], _ => rfl
  | _ :: _, 0 => rfl
  | x :: l, i + 1 => by
    show g x :: (l.map g).eraseIdx i = g x :: (l.eraseIdx i).map g
    rw [map_erase g l i]
theorem erase_perm {α : Type} : ∀ (l : List α) (i : Nat) (h : i < l.length), (l[i] :: l.eraseIdx i).Perm l
  | _ :: _, 0, _ => List.Perm.refl _
  | x :: l, i + 1, h => by
    have h' : i < l.length := Nat.lt_of_succ_lt_succ h
    have p := erase_perm l i h'
    show (l[i] :: x :: l.eraseIdx i).Perm (x :: l)
    exact (List.Perm.swap x l[i] _).trans (p.cons x)
theorem seqIx {n k : Nat} (h : k < n) : seqIndex? (k : Int) n = some k := by
  unfold seqIndex?
  have a : ¬ (k : Int) < 0 := by omega
  have b : (0 : Int) ≤ k ∧ (k : Int) < n := by omega
  simp only [if_neg a]
  rw [decide_eq_true b.1, decide_eq_true b.2]
  rfl
theorem strs_eqv_nil (ss : List Str) : (PyData.list (ss.map PyData.str)).eqv (.list []) = ss.isEmpty := by
  cases ss with
  | nil => rfl
  | cons a l => simp [PyData.eqv, PyData.eqvAll]
def spMixed (K : PySem.W.Frag) : Sp := fun vs H Q _ => ∃ (d a : Addr) (ss : List Str), vs = [.ref d, .ref a] ∧ Dz H d ∧ SqL K H a (ss.map V.str) ∧ ss.length ≤ 100 ∧ (∀ z ∈ ss, PyData.strOk z = true) ∧
  ∀ (ys : List Str) (p : Addr) (H' : Hp), ys.Perm ss → H p = none → H' p = some (.lst (ys.map V.str)) → Dz H' d → Still d H H' → Q (.ref p) H'
section
variable {P : Program} {w : World} {K : PySem.W.Frag} {mg : Str → Option Value} {base : Heap}
theorem scMixed : FnScope ["dice", "items", "left", "found"] ["dice", "items"] (defScope sMixed) := ⟨rfl, rfl, rfl, by decide +kernel, rfl, by decide +kernel, by decide +kernel⟩
theorem ok_mixed {f : Addr} {fd : FuncData} (F : Fun K "_law_mixed" "_law_mixed" sMixed f fd) (D : DefsD K mg) (T : TxI mg) (M : TxM mg) : FnOk P w K mg base CX0 2 f fd ["dice", "items"] (spMixed K) := by
  have GR : FnOk P w K mg base CX0 1 D.fR D.dR ["dice", "total"] spRoll := ok_roll D.R T
  refine F.ok scMixed (fun vs H Q E h => ?_) (fun cdv A outer s H vs Q E hr h => ?_)
  · obtain ⟨d, a, ss, rfl, _⟩ := h
    rfl
  · obtain ⟨d, a, ss, rfl, Z, ha, hl, hok, k⟩ := h
    have hr1 : Room 1 _ := hr.mono (by decide)
    refine ⟨_, pss_cons (ps_par (i := 2) (j := 3) (by rfl) scMixed.nd rfl rfl (by decide) rfl rfl (pa_cons (pe_callTy call_list_of (by rfl) M.list (by decide +kernel) (pa_cons (pv 1) pa_nil)) (pa_cons (pe_lst pa_nil) pa_nil)) (by rfl))
      (pss_cons (ps_while PassesOwn.never (pt_cmpR (op_neD hr.units) (pv 2) (pe_lst pa_nil) (nomark _))
        (pss_one (ps_expr (pe_bm PySem.F.plainAttrs_list PySem.F.slot_list_append PySem.F.type_list_append mt_append (pv 3)
          (pa_cons (pe_bm PySem.F.plainAttrs_list PySem.F.slot_list_pop PySem.F.type_list_pop mt_popAt (pv 2) (pa_cons (pe_call GR hr1 rfl D.mR D.R.kp D.bR .nil pass0 (pa_cons (pv 0) (pa_cons (pe_callB call_len_seq (by rfl) T.len PySem.boot_len (pa_cons (pv 2) pa_nil)) pa_nil))) pa_nil)) pa_nil)))))
      (pss_one (ps_ret (pv 3)))), ?_⟩
    refine ⟨_, rfl, a, _, rfl, .inl ha, fun l nl => ⟨(by show 0 ≤ sizeLine; decide), fun f nf => ?_⟩⟩
    have ne_a : ∀ {H' : Hp} {b : Addr}, H' b = none → ∀ {o : HO}, H' d = some o → b ≠ d := fun n _ h z => by
      subst z
      rw [n] at h
      cases h
    obtain ⟨dl, dm, dc, hd, w1, w2, w3⟩ := id Z
    have ld : l ≠ d := ne_a nl hd
    have hd1 : (upd H l (.lst (ss.map V.str))) d = some (.lst [.int dl, .int dm, .int dc]) := keep_new hd nl
    have fd' : f ≠ d := ne_a nf hd1
    have lf : l ≠ f := fun z => by
      subst z
      rw [upd_same] at nf
      cases nf
    have nf0 : H f = none := by
      rw [upd_ne (Ne.symm lf)] at nf
      exact nf
    refine ⟨_, _, rfl, ?_⟩
    refine while_by (fun σ H' => σ = [some (.ref d), some (.ref a), some (.ref l), some (.ref f)] ∧ ∃ ls fs : List Str, H' l = some (.lst (ls.map V.str)) ∧ H' f = some (.lst (fs.map V.str)) ∧ (fs ++ ls).Perm ss ∧ Dz H' d ∧ Still d H H')
      (fun σ H' => match H' l with | some (.lst xs) => xs.length | _ => 0) ⟨rfl, ss, [], by rw [upd_ne lf]; exact upd_same, upd_same, List.Perm.refl _, (Z.new nl).new nf, ((Still.refl d H).new nl).new nf⟩ ?_ ?_
    · rintro σ H1 ⟨rfl, ls, fs, h1, h2, h3, h4, h5⟩
      refine ⟨_, rfl, (by show 0 ≤ sizeLine; decide), fun p np => ?_⟩
      refine ⟨_, _, .lst (SqL.of (keep_new h1 np)) (dp_strs ls), .lst (SqL.of upd_same) .nil, strs_shaped ls (fun z hz => hok z (h3.subset (List.mem_append_right _ hz))), by decide, ?_⟩
      rw [strs_eqv_nil]
      refine ⟨_, rfl, ?_⟩
      cases ls with
      | nil =>
        refine iteF ?_
        rw [List.append_nil] at h3
        exact ⟨_, rfl, k fs f _ h3 nf0 (keep_new h2 np) (h4.new np) (h5.new np)⟩
      | cons z ls =>
        refine iteT ?_
        have g1 : (upd H1 p (.lst [])) l = some (.lst ((z :: ls).map V.str)) := keep_new h1 np
        have g2 : (upd H1 p (.lst [])) f = some (.lst (fs.map V.str)) := keep_new h2 np
        have g4 : Dz (upd H1 p (.lst [])) d := h4.new np
        have g5 : Still d H (upd H1 p (.lst [])) := h5.new np
        generalize upd H1 p (.lst []) = H2 at g1 g2 g4 g5 ⊢
        obtain ⟨l0, m0, c0, D0⟩ := g4
        have hlen : (z :: ls).length ≤ 100 := by
          have := h3.length_eq
          rw [List.length_append] at this
          omega
        refine ⟨_, rfl, .inl ⟨rfl, _, SqL.of g2⟩, _, rfl, .inl ⟨rfl, _, SqL.of g1⟩, _, rfl, _, rfl, l, _, rfl, .inl (SqL.of g1), d, l0, m0, c0, _, rfl, D0, ?_, ?_, fun r l' c' r0 rn q0 q1 => ?_⟩
        · rw [List.length_map]
          show (0 : Int) < ((ls.length + 1 : Nat) : Int)
          omega
        · rw [List.length_map]
          omega
        · rw [List.length_map] at rn
          have rl : r.toNat < (z :: ls).length := by omega
          have er : r = (r.toNat : Int) := by omega
          have TT : Turned H2 (upd H2 d (.lst [.int l', .int m0, .int c'])) d := ⟨l', m0, c', q0, D0.2.2.1, q1, rfl⟩
          have k1 : (upd H2 d (.lst [.int l', .int m0, .int c'])) l = some (.lst ((z :: ls).map V.str)) := by
            rw [upd_ne ld]
            exact g1
          have k2 : (upd H2 d (.lst [.int l', .int m0, .int c'])) f = some (.lst (fs.map V.str)) := by
            rw [upd_ne fd']
            exact g2
          have k4 := TT.dz
          have k5 := g5.turn TT
          generalize upd H2 d (.lst [.int l', .int m0, .int c']) = H3 at k1 k2 k4 k5 ⊢
          refine ⟨l, _, r, r.toNat, .str ((z :: ls)[r.toNat]), rfl, rfl, k1, by omega, by omega, ?_, ?_, ?_⟩
          · rw [List.length_map, er]
            exact seqIx rl
          · rw [List.getElem?_map, List.getElem?_eq_getElem rl]
            rfl
          · refine ⟨f, _, _, rfl, rfl, by rw [upd_ne (Ne.symm lf)]; exact k2, ?_, ?_⟩
            · rw [List.length_map]
              have := h3.length_eq
              rw [List.length_append] at this
              exact Nat.lt_of_le_of_lt (show fs.length ≤ 100 by omega) (by decide)
            · refine ⟨⟨rfl, (z :: ls).eraseIdx r.toNat, fs ++ [(z :: ls)[r.toNat]], ?_, ?_, ?_, ?_, ?_⟩, ?_⟩
              · rw [upd_ne lf, upd_same, map_erase]
              · rw [upd_same, List.map_append]
                rfl
              · refine List.Perm.trans ?_ h3
                rw [List.append_assoc]
                refine List.Perm.append_left fs ?_
                exact (erase_perm (z :: ls) r.toNat rl)
              · exact (k4.ne ld).ne fd'
              · exact (k5.at_new nl).at_new nf0
              · show (match (upd _ f _) l with | some (.lst xs) => xs.length | _ => 0) < (match H1 l with | some (.lst xs) => xs.length | _ => 0)
                rw [h1, upd_ne lf, upd_same]
                show (((z :: ls).map V.str).eraseIdx r.toNat).length < ((z :: ls).map V.str).length
                rw [List.length_eraseIdx, List.length_map, if_pos rl]
                show ls.length + 1 - 1 < ls.length + 1
                omega
    · rintro σ H1 Q1 Q2 hq ⟨x, hx, hz, hh⟩
      refine ⟨x, hx, hz, fun p np => ?_⟩
      obtain ⟨d1, d2, q1, q2, q3, q4, k1, q5, q6⟩ := hh p np
      exact ⟨d1, d2, q1, q2, q3, q4, k1, q5, hq _ _ q6⟩
end
end M3

set_option Elab.async false
set_option linter.all false
set_option maxRecDepth 100000
set_option maxHeartbeats 8000000
/-! # Drawn sets of letters, drawn words -/
namespace M3
open PySem L2
/-- list(a text): its signs -/
theorem call_listS {X : Cx} (hc : X.calm = true) : CallR X (.type "list") (fun xs H Q => ∃ x : Str, xs = [.str x] ∧ x.length ≤ sizeLine ∧ ∀ l, H l = none → Q (.ref l) (upd H l (.lst ((PyProof.Rows.signs x).map V.str)))) := by
  intro pins s σ H xs us Q I r h
  obtain ⟨x, rfl, hz, q⟩ := h
  obtain ⟨u, rfl, rx⟩ := vals1 r
  obtain ⟨t, rfl⟩ := rx
  refine call_list_str (I.ok.hd hc) x t (hn := hz) fun h' tk acc' c' hk hS hacc => ?_
  refine ⟨.ref s.heap.objs.size, _, I.laid (t' := tk) hk (Nat.le_refl _) (show ObjOk X.prog X.w _ h' _ (.lst ((PyProof.Rows.signs x).map V.str)) from ⟨?_, acc'.toList, c', ?_, by simpa using hS⟩), rfl, q _ (I.hok.fresh (Nat.le_refl _))⟩
  · rw [List.length_map]
    unfold PyProof.Rows.signs
    rw [List.length_map]
    exact hz
  · have hl : acc'.toList.length = x.cps.toList.length := by
      have := hacc.1
      simpa using this
    refine vals_of_at ?_ fun j y v h1 h2 => ?_
    · unfold PyProof.Rows.signs
      rw [List.length_map, List.length_map, hl]
    · obtain ⟨c, u, e1, e2⟩ := hacc.2 j v (by simpa using h2)
      unfold PyProof.Rows.signs at h1
      rw [List.getElem?_map, List.getElem?_map] at h1
      have e3 : x.cps.toList[j]? = some c := by simpa using e1
      rw [e3] at h1
      cases h1
      exact ⟨u, e2⟩
abbrev sLetters : Stmt := top 53
theorem scLetters : FnScope ["dice", "total"] ["dice", "total"] (defScope sLetters) := ⟨rfl, rfl, rfl, by decide +kernel, rfl, by decide +kernel, by decide +kernel⟩
/-- a set of letters that is drawn: ascending signs of abckxz -/
def IsSet (w : Str) (n : Nat) : Prop := ∃ cs : List Nat, w = ⟨cs.toArray⟩ ∧ cs.length = n ∧ cs.Pairwise (· < ·) ∧ ∀ c ∈ cs, c ∈ [97, 98, 99, 107, 120, 122]
abbrev six : List Nat := [97, 98, 99, 107, 120, 122]
theorem signs_six : PyProof.Rows.signs "abckxz" = six.map fun c => (⟨#[c]⟩ : Str) := by decide +kernel
theorem six_lt : ∀ a ∈ six, ∀ b ∈ six, a ≠ b → PyProof.Rows.sortedS [(⟨#[a]⟩ : Str), ⟨#[b]⟩] = true → a < b := by decide +kernel
theorem six_join : ∀ a ∈ six, ∀ b ∈ six, Txt.join "" [(⟨#[a]⟩ : Str), ⟨#[b]⟩] = ⟨#[a, b]⟩ := by decide +kernel
theorem six_join1 : ∀ a ∈ six, Txt.join "" [(⟨#[a]⟩ : Str)] = ⟨#[a]⟩ := by decide +kernel
theorem six_ok : ∀ z ∈ PyProof.Rows.signs "abckxz", PyData.strOk z = true := by
  rw [signs_six]
  decide +kernel
theorem six_nodup : (PyProof.Rows.signs "abckxz").Nodup := by
  rw [signs_six]
  decide +kernel
theorem set_of {ys zs : List Str} {n : Nat} (h1 : 1 ≤ n) (h2 : n ≤ 2) (perm : ys.Perm (PyProof.Rows.signs "abckxz")) (pz : zs.Perm (ys.take n)) (so : PyProof.Rows.sortedS zs = true) : IsSet (Txt.join "" zs) n ∧ (zs.map (·.length)).sum ≤ 2 := by
  have hn : ys.Nodup := perm.nodup_iff.mpr six_nodup
  have hz : zs.Nodup := pz.nodup_iff.mpr (hn.sublist (List.take_sublist n ys))
  have ly : ys.length = 6 := by
    rw [perm.length_eq, signs_six]
    rfl
  have lz : zs.length = n := by
    rw [pz.length_eq, List.length_take, ly]
    omega
  have hm : ∀ z ∈ zs, ∃ a ∈ six, z = (⟨#[a]⟩ : Str) := fun z h => by
    have h' := perm.subset (List.mem_of_mem_take (pz.subset h))
    rw [signs_six] at h'
    obtain ⟨a, ha, e⟩ := List.mem_map.mp h'
    exact ⟨a, ha, e.symm⟩
  match zs, lz, hz, hm, so with
  | [], lz, _, _, _ =>
    have lz : 0 = n := lz
    omega
  | [z], lz, _, hm, _ =>
    obtain ⟨a, ha, e⟩ := hm z List.mem_cons_self
    subst e
    have lz : 1 = n := lz
    refine ⟨⟨[a], six_join1 a ha, lz, List.pairwise_singleton _ _, fun c hc => ?_⟩, by show 1 + 0 ≤ 2; decide⟩
    rw [List.mem_singleton.mp hc]
    exact ha
  | [x, y], lz, hz, hm, so =>
    obtain ⟨a, ha, e⟩ := hm x List.mem_cons_self
    obtain ⟨b, hb, e'⟩ := hm y (List.mem_cons_of_mem _ List.mem_cons_self)
    subst e e'
    have lz : 2 = n := lz
    have ne : a ≠ b := fun q => by
      subst q
      simp at hz
    have lt := six_lt a ha b hb ne so
    refine ⟨⟨[a, b], six_join a ha b hb, lz, ?_, fun c hc => ?_⟩, by show 1 + (1 + 0) ≤ 2; decide⟩
    · simp [lt]
    · rcases List.mem_cons.mp hc with q | q
      · rw [q]
        exact ha
      · rw [List.mem_singleton.mp q]
        exact hb
  | _ :: _ :: _ :: l, lz, _, _, _ =>
    have lz : l.length + 3 = n := lz
    omega
theorem cut_take {ss : List Str} {n : Nat} (h : n ≤ ss.length) : cutV (ss.map V.str) none (some (n : Int)) = (ss.take n).map V.str := by
  unfold cutV
  rw [HT.sIx_none, HT.sIx_nat, List.length_map, List.drop_zero, Nat.sub_zero, Nat.min_eq_left h, List.map_take]
def spLetters : Sp := fun vs H Q _ => ∃ (d : Addr) (n : Nat), vs = [.ref d, .int n] ∧ Dz H d ∧ 1 ≤ n ∧ n ≤ 2 ∧ ∀ (x : Str) (H' : Hp), IsSet x n → Dz H' d → Still d H H' → Q (.str x) H'
section
variable {P : Program} {w : World} {K : PySem.W.Frag} {mg : Str → Option Value} {base : Heap}
theorem ok_letters {f g : Addr} {fd gd : FuncData} (F : Fun K "_law_letters" "_law_letters" sLetters f fd) (FM : Fun K "_law_mixed" "_law_mixed" sMixed g gd) (bM : Binds K gd ["dice", "items"] []) (mM : mg "_law_mixed" = some (.ref g)) (D : DefsD K mg) (T : TxI mg) (M : TxM mg) :
    FnOk P w K mg base CX0 3 f fd ["dice", "total"] spLetters := by
  have GM : FnOk P w K mg base CX0 2 g gd ["dice", "items"] (spMixed K) := ok_mixed FM D T M
  refine F.ok scLetters (fun vs H Q E h => ?_) (fun cdv A outer s H vs Q E hr h => ?_)
  · obtain ⟨d, n, rfl, _⟩ := h
    rfl
  · obtain ⟨d, n, rfl, Z, h1, h2, k⟩ := h
    have hr2 : Room 2 _ := hr.mono (by decide)
    refine ⟨_, pss_one (ps_ret (pe_join pe_str (pe_callB cr_sortedS (by rfl) M.sorted (by decide +kernel) (pa_cons (pe_slice sl_list (pe_call GM hr2 rfl mM FM.kp bM .nil pass0 (pa_cons (pv 0) (pa_cons (pe_callTy (call_listS rfl) (by rfl) M.list (by decide +kernel) (pa_cons pe_str pa_nil)) pa_nil))) po_none (po_some (pv 1))) pa_nil)))), ?_⟩
    refine ⟨⟨_, rfl⟩, _, rfl, "abckxz", rfl, by decide, fun l nl => ?_⟩
    refine ⟨d, l, _, rfl, Z.new nl, SqL.of upd_same, by decide +kernel, six_ok, fun ys p H' perm np hp Z' st => ?_⟩
    refine ⟨_, rfl, _, rfl, p, _, rfl, SqL.of hp, fun p2 np2 => ?_⟩
    have ly : ys.length = 6 := by
      rw [perm.length_eq, signs_six]
      rfl
    rw [cut_take (by omega)]
    refine ⟨p2, ys.take n, rfl, SqL.of upd_same, ?_, fun zs p3 pz so np3 => ?_⟩
    · rw [List.length_take]
      omega
    · obtain ⟨s1, s2⟩ := set_of h1 h2 perm pz so
      refine ⟨"", p3, zs, rfl, rfl, .inl (SqL.of upd_same), ?_, ?_⟩
      · have e : ("" : Str).length = 0 := by decide +kernel
        rw [e]
        omega
      · exact k _ _ s1 ((Z'.new np2).new np3) (((((Still.refl d H).new nl).trans st).new np2).new np3)
end
end M3

set_option Elab.async false
set_option linter.all false
set_option maxRecDepth 100000
set_option maxHeartbeats 8000000
/-! # Drawn words -/
namespace M3
open PySem L2
abbrev sWord : Stmt := top 54
abbrev nWord : List Str := ["dice", "letters", "most", "turn"]
theorem scWord : FnScope nWord ["dice", "letters", "most"] (defScope sWord) := ⟨rfl, rfl, rfl, by decide +kernel, rfl, by decide +kernel, by decide +kernel⟩
theorem join_flat (zs : List Str) : Txt.join "" zs = ⟨(zs.flatMap fun z => z.cps.toList).toArray⟩ := by
  have e0 : ("" : Str).cps = #[] := by decide +kernel
  have go : ∀ (ps : List Str) (acc : Array Nat), ps.foldl (fun acc p => acc ++ ("" : Str).cps ++ p.cps) acc = acc ++ (ps.flatMap fun z => z.cps.toList).toArray := by
    intro ps
    induction ps with
    | nil =>
      intro acc
      simp
    | cons p ps ih =>
      intro acc
      rw [List.foldl_cons, ih, e0]
      apply Array.toList_inj.mp
      simp
  cases zs with
  | nil => decide +kernel
  | cons z zs =>
    show (⟨(zs.foldl (fun acc p => acc ++ ("" : Str).cps ++ p.cps) z.cps)⟩ : Str) = _
    rw [go]
    congr 1
    apply Array.toList_inj.mp
    simp
/-- a word of the letters x -/
def IsW (x : Str) (w : Str) : Prop := ∀ c ∈ w.cps.toList, c ∈ x.cps.toList
theorem join_word {x : Str} {zs : List Str} (h : ∀ z ∈ zs, ∃ c ∈ x.cps.toList, z = (⟨#[c]⟩ : Str)) : IsW x (Txt.join "" zs) ∧ (Txt.join "" zs).length = zs.length ∧ (zs.map (·.length)).sum = zs.length := by
  rw [join_flat]
  refine ⟨fun c hc => ?_, ?_, ?_⟩
  · have hc : c ∈ zs.flatMap fun z => z.cps.toList := by simpa using hc
    obtain ⟨z, hz, q⟩ := List.mem_flatMap.mp hc
    obtain ⟨a, ha, e⟩ := h z hz
    rw [e] at q
    have q : c ∈ [a] := q
    rw [List.mem_singleton.mp q]
    exact ha
  · show (zs.flatMap fun z => z.cps.toList).toArray.size = zs.length
    rw [List.size_toArray]
    induction zs with
    | nil => rfl
    | cons z zs ih =>
      obtain ⟨a, _, e⟩ := h z List.mem_cons_self
      rw [List.flatMap_cons, List.length_append, ih fun y hy => h y (List.mem_cons_of_mem _ hy), e, List.length_cons]
      show 1 + zs.length = zs.length + 1
      omega
  · induction zs with
    | nil => rfl
    | cons z zs ih =>
      obtain ⟨a, _, e⟩ := h z List.mem_cons_self
      rw [List.map_cons, List.sum_cons, ih fun y hy => h y (List.mem_cons_of_mem _ hy), e, List.length_cons]
      show 1 + zs.length = zs.length + 1
      omega
theorem tYes_if {σ : St} {H : Hp} {A B : Hp → Prop} (h : A H) : tYes σ H (fun b H3 => if b = true then A H3 else B H3) := by
  show (if true = true then A H else B H)
  exact h
def spWord : Sp := fun vs H Q _ => ∃ (d : Addr) (x : Str) (m : Nat), vs = [.ref d, .str x, .int m] ∧ Dz H d ∧ 0 < x.length ∧ x.length ≤ 100 ∧ m ≤ 100 ∧
  ∀ (y : Str) (H' : Hp), IsW x y → y.length ≤ m → Dz H' d → Still d H H' → Q (.str y) H'
theorem Still.free {d b : Addr} {H H1 : Hp} (s : Still d H H1) (z : Dz H1 d) (h : H1 b = none) : H b = none := by
  cases e : H b with
  | none => rfl
  | some o =>
    have nb : b ≠ d := fun q => by
      subst q
      obtain ⟨l, m, c, q, _⟩ := z
      rw [h] at q
      cases q
    rw [s b o nb e] at h
    cases h
theorem Dz.not {d b : Addr} {H : Hp} (z : Dz H d) (h : H b = none) : b ≠ d := fun q => by
  subst q
  obtain ⟨l, m, c, q, _⟩ := z
  rw [h] at q
  cases q
section
variable {P : Program} {w : World} {K : PySem.W.Frag} {mg : Str → Option Value} {base : Heap}
theorem ok_word {f : Addr} {fd : FuncData} (F : Fun K "_law_word" "_law_word" sWord f fd) (D : DefsD K mg) (T : TxI mg) (M : TxM mg) :
    FnOk P w K mg base CX0 3 f fd ["dice", "letters", "most"] spWord := by
  have GR : FnOk P w K mg base CX0 1 D.fR D.dR ["dice", "total"] spRoll := ok_roll D.R T
  have GO : FnOk P w K mg base CX0 2 D.fO D.dO ["dice", "items"] (spOneOf K) := ok_oneof D.O D.R D.bR D.mR T
  refine F.ok scWord (fun vs H Q E h => ?_) (fun cdv A outer s H vs Q E hr h => ?_)
  · obtain ⟨d, x, m, rfl, _⟩ := h
    rfl
  · obtain ⟨d, x, m, rfl, Z, x1, x2, hm, k⟩ := h
    have hr2 : Room 2 _ := hr.mono (by decide)
    have hr1 : Room 1 _ := hr.mono (by decide)
    refine ⟨_, pss_one (ps_ret (pe_join pe_str (pe_lc (own := [("turn", 3)]) (g := gName 3) (tt := tYes) rfl scWord.nd (pi_range1 rfl M.range (pa_cons (pe_call GR hr1 rfl D.mR D.R.kp D.bR .nil pass0 (pa_cons (pv 0) (pa_cons (pe_op op_add (pv 2) pe_int) pa_nil))) pa_nil)) (blkOk_by (N := nWord) (sc := defScope sWord) (by decide +kernel)) (fun _ _ _ _ _ => pg_name (i := 3) scWord.nd rfl (Or.inl rfl)) (fun _ _ _ _ _ => pts_nil)
      (fun _ _ _ _ _ => pe_call GO hr2 rfl D.mO D.O.kp D.bO .nil pass0 (pa_cons (pv 0) (pa_cons (pe_callTy (call_listS rfl) (by rfl) M.list (by decide +kernel) (pa_cons (pv 1) pa_nil)) pa_nil)))))), ?_⟩
    obtain ⟨l0, m0, c0, D0⟩ := id Z
    refine ⟨⟨_, rfl⟩, _, rfl, _, rfl, _, _, rfl, rfl, d, l0, m0, c0, _, rfl, D0, by omega, by omega, fun r l' c' r0 rn q0 q1 => ?_⟩
    have TT : Turned H (upd H d (.lst [.int l', .int m0, .int c'])) d := ⟨l', m0, c', q0, D0.2.2.1, q1, rfl⟩
    have Z1 := TT.dz
    have S1 := (Still.refl d H).turn TT
    generalize upd H d (.lst [.int l', .int m0, .int c']) = H1 at Z1 S1 ⊢
    refine ⟨r, rfl, by omega, by omega, fun C nC => ?_⟩
    have Cd : C ≠ d := Z1.not nC
    have HC : H C = none := S1.free Z1 nC
    refine lc_range (lo := 0) (n := r.toNat) (fun j H9 => ∃ zs : List Str, H9 C = some (.lst (zs.map V.str)) ∧ zs.length = j ∧ (∀ z ∈ zs, ∃ c ∈ x.cps.toList, z = (⟨#[c]⟩ : Str)) ∧ Dz H9 d ∧ Still d H H9)
      ⟨[], upd_same, rfl, (fun z hz => by cases hz), Z1.new nC, S1.new nC⟩ ?_ ?_
    · rintro j H9 hj ⟨zs, h1, h2, h3, h4, h5⟩
      refine ⟨rfl, tYes_if ?_⟩
      have hj : j < 101 := by omega
      refine ⟨_, rfl, _, rfl, x, rfl, Nat.le_trans x2 (by decide), fun l nl => ?_⟩
      have ls : ((PyProof.Rows.signs x).map V.str).length = x.length := by
        unfold PyProof.Rows.signs
        rw [List.length_map, List.length_map]
        rfl
      refine ⟨d, l, _, rfl, h4.new nl, SqL.of upd_same, h4.not nl, by rw [ls]; exact x1, by rw [ls]; omega, fun v H2 hv T2 => ?_⟩
      obtain ⟨z, hz, rfl⟩ := List.mem_map.mp hv
      have hz' : ∃ c ∈ x.cps.toList, z = (⟨#[c]⟩ : Str) := by
        unfold PyProof.Rows.signs at hz
        obtain ⟨c, hc, e⟩ := List.mem_map.mp hz
        exact ⟨c, hc, e.symm⟩
      have g1 : H2 C = some (.lst (zs.map V.str)) := by
        rw [T2.ne Cd]
        exact keep_new h1 nl
      refine ⟨_, g1, ?_, zs ++ [z], ?_, ?_, fun y hy => ?_, T2.dz.ne Cd, ((h5.new nl).turn T2).at_new HC⟩
      · rw [List.length_map, h2]
        exact Nat.lt_trans hj (by decide)
      · rw [upd_same, List.map_append]
        rfl
      · rw [List.length_append, h2]
        rfl
      · rcases List.mem_append.mp hy with q | q
        · exact h3 y q
        · rw [List.mem_singleton.mp q]
          exact hz'
    · rintro H9 ⟨zs, h1, h2, h3, h4, h5⟩
      obtain ⟨w1, w2, w3⟩ := join_word h3
      have e0 : ("" : Str).length = 0 := by decide +kernel
      refine ⟨"", C, zs, rfl, rfl, .inl (SqL.of h1), ?_, k _ _ w1 ?_ h4 h5⟩
      · rw [e0, w3, h2]
        omega
      · rw [w2, h2]
        omega
end
end M3

set_option Elab.async false
set_option linter.all false
set_option maxRecDepth 100000
set_option maxHeartbeats 8000000
/-! # Drawn ways to lead -/
namespace M3
open PySem L2
abbrev sAction : Stmt := top 55
abbrev nAction : List Str := ["dice", "size", "sort", "spot", "by", "found", "one", "other", "place"]
theorem scAction : FnScope nAction ["dice", "size", "sort"] (defScope sAction) := ⟨rfl, rfl, rfl, by decide +kernel, rfl, by decide +kernel, by decide +kernel⟩
def nts (xs : List Nat) : List V := xs.map fun (x : Nat) => V.int (x : Int)
theorem nts_length (xs : List Nat) : (nts xs).length = xs.length := List.length_map _
theorem nts_append (xs : List Nat) (x : Nat) : some (HO.lst (nts xs ++ [V.int x])) = some (HO.lst (nts (xs ++ [x]))) := by
  unfold nts
  rw [List.map_append]
  rfl
theorem nts_eq (xs : List Nat) : some (HO.lst (nts xs)) = some (HO.lst ((xs.map Int.ofNat).map V.int)) := by
  unfold nts
  rw [List.map_map]
  rfl
theorem nts_eq' (xs : List Nat) : nts xs = (xs.map Int.ofNat).map V.int := by
  unfold nts
  rw [List.map_map]
  rfl
theorem ixNat {n k : Nat} (h : k < n) : ixN n (k : Int) = some k := by
  unfold ixN
  rw [if_pos (by omega), if_pos (by omega)]
  rfl
theorem rgV_nats (n : Nat) : rgV 0 (n : Int) = nts (List.range n) := by
  unfold rgV nts
  have e : ((n : Int) - 0).toNat = n := by omega
  rw [e]
  exact List.map_congr_left fun i _ => by rw [Int.zero_add]
theorem nats_perm {ys : List Int} {xs : List Nat} (p : ys.Perm (xs.map Int.ofNat)) : ∃ zs : List Nat, ys = zs.map Int.ofNat ∧ zs.Perm xs := by
  refine ⟨ys.map Int.toNat, ?_, ?_⟩
  · have h : ∀ y ∈ ys, Int.ofNat y.toNat = y := fun y hy => by
      obtain ⟨x, _, e⟩ := List.mem_map.mp (p.subset hy)
      rw [← e]
      rfl
    rw [List.map_map]
    exact ((List.map_congr_left h).trans (List.map_id ys)).symm
  · have q := p.map Int.toNat
    rw [List.map_map] at q
    have e : xs.map (Int.toNat ∘ Int.ofNat) = xs := (List.map_congr_left (fun x _ => rfl)).trans (List.map_id xs)
    rw [e] at q
    exact q
/-- a number is drawn -/
def spDraw : Sp := fun vs H Q _ => ∃ (d : Addr) (n : Nat), vs = [.ref d, .int n] ∧ Dz H d ∧ 0 < n ∧ n < 1073741824 ∧ ∀ (x : Nat) (H' : Hp), x < n → Dz H' d → Still d H H' → Q (.int x) H'
def spAction : Sp := fun vs H Q _ => ∃ (d : Addr) (n : Nat) (i : Int), vs = [.ref d, .int n, .int i] ∧ Dz H d ∧ 0 < n ∧ n ≤ 10 ∧
  ∀ (xs : List Nat) (p : Addr) (H' : Hp), xs.length = n → (∀ x ∈ xs, x < n) → H p = none → H' p = some (.lst (nts xs)) → Dz H' d → Still d H H' → Q (.ref p) H'
section
variable {P : Program} {w : World} {K : PySem.W.Frag} {mg : Str → Option Value} {base : Heap}
theorem ok_draw {f : Addr} {fd : FuncData} (F : Fun K "_law_roll" "_law_roll" sRoll f fd) (T : TxI mg) : FnOk P w K mg base CX0 1 f fd ["dice", "total"] spDraw := by
  refine (ok_roll F T).imp fun vs H Q E h => ?_
  obtain ⟨d, n, rfl, ⟨l, m, c, D⟩, h1, h2, k⟩ := h
  refine ⟨d, l, m, c, n, rfl, D, by omega, by omega, fun r l' c' r0 rn q0 q1 => ?_⟩
  have TT : Turned H (upd H d (.lst [.int l', .int m, .int c'])) d := ⟨l', m, c', q0, D.2.2.1, q1, rfl⟩
  have er : r = (r.toNat : Int) := by omega
  rw [er]
  exact k r.toNat _ (by omega) TT.dz ((Still.refl d H).turn TT)
theorem ok_action {f : Addr} {fd : FuncData} (F : Fun K "_law_action" "_law_action" sAction f fd) (D : DefsD K mg) (T : TxI mg) (M : TxM mg) :
    FnOk P w K mg base CX0 2 f fd ["dice", "size", "sort"] spAction := by
  have GR : FnOk P w K mg base CX0 1 D.fR D.dR ["dice", "total"] spDraw := ok_draw D.R T
  refine F.ok scAction (fun vs H Q E h => ?_) (fun cdv A outer s H vs Q E hr h => ?_)
  · obtain ⟨d, n, i, rfl, _⟩ := h
    rfl
  · obtain ⟨d, n, i, rfl, Z, hn, h10, k⟩ := h
    have hr1 : Room 1 _ := hr.mono (by decide)
    refine ⟨_, (pss_cons (ps_if (pt_cmpR op_eq (pv 2) pe_int (nomark _)) (pss_one (ps_ret (pe_lc (own := [("place", 8)]) (g := gName 8) (tt := tYes) rfl scAction.nd (pi_range1 rfl M.range (pa_cons (pv 1) pa_nil)) (blkOk_by (N := nAction) (sc := defScope sAction) (by decide +kernel)) (fun _ _ _ _ _ => pg_name (i := 8) scAction.nd rfl (Or.inl rfl)) (fun _ _ _ _ _ => pts_nil) (fun _ _ _ _ _ => (pe_op op_add (pv 8) (pe_call GR hr1 rfl D.mR D.R.kp D.bR .nil pass0 (pa_cons (pv 0) (pa_cons (pe_op op_sub (pv 1) (pv 8)) pa_nil)))))))) pss_nil)
      (pss_cons (ps_if (pt_cmpR op_eq (pv 2) pe_int (nomark _)) (pss_cons (ps_set (i := 3) scAction.nd rfl (Or.inr rfl) (pe_call GR hr1 rfl D.mR D.R.kp D.bR .nil pass0 (pa_cons (pv 0) (pa_cons (pv 1) pa_nil))))
        (pss_one (ps_ret (pe_lc (own := [("place", 8)]) (g := gName 8) (tt := tYes) rfl scAction.nd (pi_range1 rfl M.range (pa_cons (pv 1) pa_nil)) (blkOk_by (N := nAction) (sc := defScope sAction) (by decide +kernel)) (fun _ _ _ _ _ => pg_name (i := 8) scAction.nd rfl (Or.inl rfl)) (fun _ _ _ _ _ => pts_nil) (fun _ _ _ _ _ => (pv 3)))))) pss_nil)
      (pss_cons (ps_if (pt_cmpR op_eq (pv 2) pe_int (nomark _)) (pss_cons (ps_set (i := 4) scAction.nd rfl (Or.inr rfl) (pe_call GR hr1 rfl D.mR D.R.kp D.bR .nil pass0 (pa_cons (pv 0) (pa_cons (pv 1) pa_nil))))
        (pss_one (ps_ret (pe_lc (own := [("place", 8)]) (g := gName 8) (tt := tYes) rfl scAction.nd (pi_range1 rfl M.range (pa_cons (pv 1) pa_nil)) (blkOk_by (N := nAction) (sc := defScope sAction) (by decide +kernel)) (fun _ _ _ _ _ => pg_name (i := 8) scAction.nd rfl (Or.inl rfl)) (fun _ _ _ _ _ => pts_nil) (fun _ _ _ _ _ => (pe_op op_modN (pe_callTy call_int1 (by rfl) T.int (by decide +kernel) (pa_cons (pe_op op_add (pv 8) (pv 4)) pa_nil)) (pv 1))))))) pss_nil)
      (pss_cons (ps_if (pt_cmpR op_eq (pv 2) pe_int (nomark _)) (pss_one (ps_ret (pe_listRg rfl rfl M.list (prg_1 rfl M.range (pv 1))))) pss_nil)
      (pss_cons (ps_if (pt_cmpR op_eq (pv 2) pe_int (nomark _)) (pss_one (ps_ret (pe_callB cr_sorted (by rfl) M.sorted (by decide +kernel) (pa_cons (pe_lc (own := [("place", 8)]) (g := gName 8) (tt := tYes) rfl scAction.nd (pi_range1 rfl M.range (pa_cons (pv 1) pa_nil)) (blkOk_by (N := nAction) (sc := defScope sAction) (by decide +kernel)) (fun _ _ _ _ _ => pg_name (i := 8) scAction.nd rfl (Or.inl rfl)) (fun _ _ _ _ _ => pts_nil) (fun _ _ _ _ _ => (pe_call GR hr1 rfl D.mR D.R.kp D.bR .nil pass0 (pa_cons (pv 0) (pa_cons (pv 1) pa_nil))))) pa_nil)))) pss_nil)
      (pss_cons (ps_set (i := 5) scAction.nd rfl (Or.inl rfl) (pe_ifExp (pt_cmpR op_eq (pv 2) pe_int (nomark _)) (pe_lc (own := [("place", 8)]) (g := gName 8) (tt := tYes) rfl scAction.nd (pi_range1 rfl M.range (pa_cons (pv 1) pa_nil)) (blkOk_by (N := nAction) (sc := defScope sAction) (by decide +kernel)) (fun _ _ _ _ _ => pg_name (i := 8) scAction.nd rfl (Or.inl rfl)) (fun _ _ _ _ _ => pts_nil) (fun _ _ _ _ _ => (pe_call GR hr1 rfl D.mR D.R.kp D.bR .nil pass0 (pa_cons (pv 0) (pa_cons (pv 1) pa_nil))))) (pe_listRg rfl rfl M.list (prg_1 rfl M.range (pv 1)))))
      (pss_cons (ps_if (pt_cmpR op_eq (pv 2) pe_int (nomark _)) (pss_cons (ps_par (i := 6) (j := 7) (by rfl) scAction.nd rfl rfl (by decide) rfl rfl (pa_cons (pe_call GR hr1 rfl D.mR D.R.kp D.bR .nil pass0 (pa_cons (pv 0) (pa_cons (pv 1) pa_nil))) (pa_cons (pe_call GR hr1 rfl D.mR D.R.kp D.bR .nil pass0 (pa_cons (pv 0) (pa_cons (pv 1) pa_nil))) pa_nil)) (by rfl))
        (pss_one (ps_asg (pe_tup (pa_cons (pv 7) (pa_cons (pv 6) pa_nil))) (pg_tup rfl (pgs_cons (pg_sub (pv 5) (pv 6) set_list) (pgs_cons (pg_sub (pv 5) (pv 7) set_list) pgs_nil)))))) pss_nil)
      (pss_one (ps_ret (pv 5)))))))))), ?_⟩
    have h10' : (n : Int) ≤ 10 := by omega
    have RGOK : RgOk 0 (n : Int) := RgOk.of_le (by decide) (by omega) (by decide) (by omega)
    have ZH := Z
    have SH := Still.refl d H
    refine ⟨_, rfl, rfl, _, rfl, ?_⟩
    refine ite2 (fun _ => ?_) (fun _ => ?_)
    · refine ⟨_, rfl, (n : Int), rfl, by omega, by omega, fun C nC => ?_⟩
      have Cd : C ≠ d := ZH.not nC
      have HC : H C = none := SH.free ZH nC
      refine lc_range (lo := 0) (n := (n : Int).toNat) (fun j H9 => ∃ xs : List Nat, H9 C = some (.lst (nts xs)) ∧ xs.length = j ∧ (∀ x ∈ xs, x < n) ∧ Dz H9 d ∧ Still d H H9) ⟨[], upd_same, rfl, (fun z hz => by cases hz), ZH.new nC, SH.new nC⟩ ?_ ?_
      · rintro j H9 hj ⟨xs, h1, h2, h3, h4, h5⟩
        refine ⟨rfl, tYes_if ?_⟩
        have hj : j < n := by omega
        have fin : ∀ (x : Nat) (H4 : Hp), x < n → Dz H4 d → Still d H9 H4 → ∃ acc, H4 C = some (.lst acc) ∧ acc.length < sizeLine ∧ ∃ ys : List Nat, upd H4 C (.lst (acc ++ [.int x])) C = some (.lst (nts ys)) ∧ ys.length = j + 1 ∧ (∀ y ∈ ys, y < n) ∧ Dz (upd H4 C (.lst (acc ++ [.int x]))) d ∧ Still d H (upd H4 C (.lst (acc ++ [.int x]))) := fun x H4 hx z4 s4 => by
          refine ⟨_, s4 _ _ Cd h1, ?_, xs ++ [x], ?_, ?_, fun y hy => ?_, z4.ne Cd, (h5.trans s4).at_new HC⟩
          · rw [nts_length, h2]
            exact Nat.lt_trans hj (Nat.lt_of_le_of_lt h10 (by decide))
          · rw [upd_same, nts_append]
          · rw [List.length_append, h2]
            rfl
          · rcases List.mem_append.mp hy with q | q
            · exact h3 y q
            · rw [List.mem_singleton.mp q]
              exact hx
        refine ⟨_, rfl, _, rfl, _, rfl, _, rfl, _, _, rfl, rfl, d, n - j, ?_, h4, by omega, by omega, fun x H4 xn z4 s4 => ?_⟩
        · have e : ((n - j : Nat) : Int) = (n : Int) - (0 + (j : Int)) := by omega
          show [V.ref d, V.int ((n : Int) - (0 + (j : Int)))] = _
          rw [← e]
        · refine ⟨_, _, rfl, rfl, ?_⟩
          have q := fin (j + x) H4 (by omega) z4 s4
          have e : ((j + x : Nat) : Int) = (0 + (j : Int)) + (x : Int) := by omega
          rw [e] at q
          exact q
      · rintro H9 ⟨xs, h1, h2, h3, h4, h5⟩
        have h2 : xs.length = n := by rw [h2]; omega
        exact k xs C H9 h2 h3 HC h1 h4 h5
    · refine ⟨_, rfl, rfl, _, rfl, ?_⟩
      refine ite2 (fun _ => ?_) (fun _ => ?_)
      · refine ⟨_, rfl, _, rfl, d, n, rfl, Z, hn, by omega, fun y H1 yn ZH SH => ?_⟩
        refine ⟨_, rfl, (n : Int), rfl, by omega, by omega, fun C nC => ?_⟩
        have Cd : C ≠ d := ZH.not nC
        have HC : H C = none := SH.free ZH nC
        refine lc_range (lo := 0) (n := (n : Int).toNat) (fun j H9 => ∃ xs : List Nat, H9 C = some (.lst (nts xs)) ∧ xs.length = j ∧ (∀ x ∈ xs, x < n) ∧ Dz H9 d ∧ Still d H H9) ⟨[], upd_same, rfl, (fun z hz => by cases hz), ZH.new nC, SH.new nC⟩ ?_ ?_
        · rintro j H9 hj ⟨xs, h1, h2, h3, h4, h5⟩
          refine ⟨rfl, tYes_if ?_⟩
          have hj : j < n := by omega
          have fin : ∀ (x : Nat) (H4 : Hp), x < n → Dz H4 d → Still d H9 H4 → ∃ acc, H4 C = some (.lst acc) ∧ acc.length < sizeLine ∧ ∃ ys : List Nat, upd H4 C (.lst (acc ++ [.int x])) C = some (.lst (nts ys)) ∧ ys.length = j + 1 ∧ (∀ y ∈ ys, y < n) ∧ Dz (upd H4 C (.lst (acc ++ [.int x]))) d ∧ Still d H (upd H4 C (.lst (acc ++ [.int x]))) := fun x H4 hx z4 s4 => by
            refine ⟨_, s4 _ _ Cd h1, ?_, xs ++ [x], ?_, ?_, fun y hy => ?_, z4.ne Cd, (h5.trans s4).at_new HC⟩
            · rw [nts_length, h2]
              exact Nat.lt_trans hj (Nat.lt_of_le_of_lt h10 (by decide))
            · rw [upd_same, nts_append]
            · rw [List.length_append, h2]
              rfl
            · rcases List.mem_append.mp hy with q | q
              · exact h3 y q
              · rw [List.mem_singleton.mp q]
                exact hx
          exact ⟨_, rfl, fin y _ yn h4 (Still.refl _ _)⟩
        · rintro H9 ⟨xs, h1, h2, h3, h4, h5⟩
          have h2 : xs.length = n := by rw [h2]; omega
          exact k xs C H9 h2 h3 HC h1 h4 h5
      · refine ⟨_, rfl, rfl, _, rfl, ?_⟩
        refine ite2 (fun _ => ?_) (fun _ => ?_)
        · refine ⟨_, rfl, _, rfl, d, n, rfl, Z, hn, by omega, fun y H1 yn ZH SH => ?_⟩
          refine ⟨_, rfl, (n : Int), rfl, by omega, by omega, fun C nC => ?_⟩
          have Cd : C ≠ d := ZH.not nC
          have HC : H C = none := SH.free ZH nC
          refine lc_range (lo := 0) (n := (n : Int).toNat) (fun j H9 => ∃ xs : List Nat, H9 C = some (.lst (nts xs)) ∧ xs.length = j ∧ (∀ x ∈ xs, x < n) ∧ Dz H9 d ∧ Still d H H9) ⟨[], upd_same, rfl, (fun z hz => by cases hz), ZH.new nC, SH.new nC⟩ ?_ ?_
          · rintro j H9 hj ⟨xs, h1, h2, h3, h4, h5⟩
            refine ⟨rfl, tYes_if ?_⟩
            have hj : j < n := by omega
            have fin : ∀ (x : Nat) (H4 : Hp), x < n → Dz H4 d → Still d H9 H4 → ∃ acc, H4 C = some (.lst acc) ∧ acc.length < sizeLine ∧ ∃ ys : List Nat, upd H4 C (.lst (acc ++ [.int x])) C = some (.lst (nts ys)) ∧ ys.length = j + 1 ∧ (∀ y ∈ ys, y < n) ∧ Dz (upd H4 C (.lst (acc ++ [.int x]))) d ∧ Still d H (upd H4 C (.lst (acc ++ [.int x]))) := fun x H4 hx z4 s4 => by
              refine ⟨_, s4 _ _ Cd h1, ?_, xs ++ [x], ?_, ?_, fun y hy => ?_, z4.ne Cd, (h5.trans s4).at_new HC⟩
              · rw [nts_length, h2]
                exact Nat.lt_trans hj (Nat.lt_of_le_of_lt h10 (by decide))
              · rw [upd_same, nts_append]
              · rw [List.length_append, h2]
                rfl
              · rcases List.mem_append.mp hy with q | q
                · exact h3 y q
                · rw [List.mem_singleton.mp q]
                  exact hx
            refine ⟨_, rfl, _, rfl, _, _, rfl, rfl, .inl ⟨_, rfl, _, rfl, _, _, rfl, rfl, by omega, ?_⟩⟩
            have e : (((j + y) % n : Nat) : Int) = (0 + (j : Int) + (y : Int)).fmod (n : Int) := by
              rw [Int.fmod_eq_emod_of_nonneg _ (by omega), Int.zero_add, Int.natCast_emod, Int.natCast_add]
            have q := fin _ H9 (Nat.mod_lt (j + y) hn) h4 (Still.refl _ _)
            rw [e] at q
            exact q
          · rintro H9 ⟨xs, h1, h2, h3, h4, h5⟩
            have h2 : xs.length = n := by rw [h2]; omega
            exact k xs C H9 h2 h3 HC h1 h4 h5
        · refine ⟨_, rfl, rfl, _, rfl, ?_⟩
          refine ite2 (fun _ => ?_) (fun _ => ?_)
          · refine ⟨_, rfl, (n : Int), rfl, RGOK, fun C nC => ?_⟩
            rw [rgV_nats]
            exact k (List.range n) C _ List.length_range (fun x hx => List.mem_range.mp hx) nC upd_same (Z.new nC) (SH.new nC)
          · refine ⟨_, rfl, rfl, _, rfl, ?_⟩
            refine ite2 (fun _ => ?_) (fun _ => ?_)
            · refine ⟨_, rfl, (n : Int), rfl, by omega, by omega, fun C nC => ?_⟩
              have Cd : C ≠ d := ZH.not nC
              have HC : H C = none := SH.free ZH nC
              refine lc_range (lo := 0) (n := (n : Int).toNat) (fun j H9 => ∃ xs : List Nat, H9 C = some (.lst (nts xs)) ∧ xs.length = j ∧ (∀ x ∈ xs, x < n) ∧ Dz H9 d ∧ Still d H H9) ⟨[], upd_same, rfl, (fun z hz => by cases hz), ZH.new nC, SH.new nC⟩ ?_ ?_
              · rintro j H9 hj ⟨xs, h1, h2, h3, h4, h5⟩
                refine ⟨rfl, tYes_if ?_⟩
                have hj : j < n := by omega
                have fin : ∀ (x : Nat) (H4 : Hp), x < n → Dz H4 d → Still d H9 H4 → ∃ acc, H4 C = some (.lst acc) ∧ acc.length < sizeLine ∧ ∃ ys : List Nat, upd H4 C (.lst (acc ++ [.int x])) C = some (.lst (nts ys)) ∧ ys.length = j + 1 ∧ (∀ y ∈ ys, y < n) ∧ Dz (upd H4 C (.lst (acc ++ [.int x]))) d ∧ Still d H (upd H4 C (.lst (acc ++ [.int x]))) := fun x H4 hx z4 s4 => by
                  refine ⟨_, s4 _ _ Cd h1, ?_, xs ++ [x], ?_, ?_, fun y hy => ?_, z4.ne Cd, (h5.trans s4).at_new HC⟩
                  · rw [nts_length, h2]
                    exact Nat.lt_trans hj (Nat.lt_of_le_of_lt h10 (by decide))
                  · rw [upd_same, nts_append]
                  · rw [List.length_append, h2]
                    rfl
                  · rcases List.mem_append.mp hy with q | q
                    · exact h3 y q
                    · rw [List.mem_singleton.mp q]
                      exact hx
                refine ⟨_, rfl, _, rfl, d, n, rfl, h4, hn, by omega, fun x H4 xn z4 s4 => ?_⟩
                exact fin x _ xn z4 s4
              · rintro H9 ⟨xs, h1, h2, h3, h4, h5⟩
                have h2 : xs.length = n := by rw [h2]; omega
                refine ⟨C, xs.map Int.ofNat, rfl, SqL.of (by rw [h1]; exact nts_eq xs), by rw [List.length_map]; omega, fun ys p perm _ np => ?_⟩
                obtain ⟨zs, e, pz⟩ := nats_perm perm
                subst e
                rw [← nts_eq']
                exact k zs p _ (by rw [pz.length_eq, h2]) (fun x hx => h3 x (pz.subset hx)) (h5.free h4 np) upd_same (h4.new np) (h5.new np)
            · refine ⟨_, rfl, rfl, _, rfl, ?_⟩
              refine ite2 (fun _ => ?_) (fun _ => ?_)
              · refine ⟨_, rfl, (n : Int), rfl, by omega, by omega, fun C nC => ?_⟩
                have Cd : C ≠ d := ZH.not nC
                have HC : H C = none := SH.free ZH nC
                refine lc_range (lo := 0) (n := (n : Int).toNat) (fun j H9 => ∃ xs : List Nat, H9 C = some (.lst (nts xs)) ∧ xs.length = j ∧ (∀ x ∈ xs, x < n) ∧ Dz H9 d ∧ Still d H H9) ⟨[], upd_same, rfl, (fun z hz => by cases hz), ZH.new nC, SH.new nC⟩ ?_ ?_
                · rintro j H9 hj ⟨xs, h1, h2, h3, h4, h5⟩
                  refine ⟨rfl, tYes_if ?_⟩
                  have hj : j < n := by omega
                  have fin : ∀ (x : Nat) (H4 : Hp), x < n → Dz H4 d → Still d H9 H4 → ∃ acc, H4 C = some (.lst acc) ∧ acc.length < sizeLine ∧ ∃ ys : List Nat, upd H4 C (.lst (acc ++ [.int x])) C = some (.lst (nts ys)) ∧ ys.length = j + 1 ∧ (∀ y ∈ ys, y < n) ∧ Dz (upd H4 C (.lst (acc ++ [.int x]))) d ∧ Still d H (upd H4 C (.lst (acc ++ [.int x]))) := fun x H4 hx z4 s4 => by
                    refine ⟨_, s4 _ _ Cd h1, ?_, xs ++ [x], ?_, ?_, fun y hy => ?_, z4.ne Cd, (h5.trans s4).at_new HC⟩
                    · rw [nts_length, h2]
                      exact Nat.lt_trans hj (Nat.lt_of_le_of_lt h10 (by decide))
                    · rw [upd_same, nts_append]
                    · rw [List.length_append, h2]
                      rfl
                    · rcases List.mem_append.mp hy with q | q
                      · exact h3 y q
                      · rw [List.mem_singleton.mp q]
                        exact hx
                  refine ⟨_, rfl, _, rfl, d, n, rfl, h4, hn, by omega, fun x H4 xn z4 s4 => ?_⟩
                  exact fin x _ xn z4 s4
                · rintro H9 ⟨xs, h1, h2, h3, h4, h5⟩
                  have h2 : xs.length = n := by rw [h2]; omega
                  refine ⟨_, rfl, rfl, _, rfl, ?_⟩
                  refine ite2 (fun h6 => ?_) (fun h6 => ?_)
                  · refine ⟨_, rfl, _, rfl, d, n, rfl, h4, hn, by omega, fun x H2 xn z2 s2 => ?_⟩
                    refine ⟨_, rfl, _, rfl, d, n, rfl, z2, hn, by omega, fun y H3 yn z3 s3 => ?_⟩
                    refine ⟨_, _, rfl, ?_⟩
                    have s93 := s2.trans s3
                    have h1 := s93 _ _ Cd h1
                    have h5 := h5.trans s93
                    refine ⟨_, rfl, _, rfl, (by show 2 ≤ sizeLine; decide), fun t nt => ⟨t, _, rfl, SqT.of upd_same, rfl, ?_⟩⟩
                    have lx : (nts xs).length = n := by rw [nts_length, h2]
                    refine ⟨_, _, rfl, _, rfl, _, rfl, C, nts xs, x, x, rfl, rfl, keep_new h1 nt, (by rw [lx]; exact ixNat xn), ?_⟩
                    refine ⟨_, _, rfl, _, rfl, _, rfl, C, _, y, y, rfl, rfl, upd_same, (by rw [List.length_set, lx]; exact ixNat yn), rfl, ?_⟩
                    have es : ((nts xs).set x (.int y)).set y (.int x) = nts ((xs.set x y).set y x) := by
                      unfold nts
                      rw [List.map_set, List.map_set]
                    rw [es]
                    refine ⟨_, rfl, k ((xs.set x y).set y x) C _ (by rw [List.length_set, List.length_set, h2]) (fun z hz => ?_) HC upd_same (((z3.new nt).ne Cd).ne Cd) (((h5.new nt).at_new HC).at_new HC)⟩
                    rcases List.mem_or_eq_of_mem_set hz with q | q
                    · rcases List.mem_or_eq_of_mem_set q with q | q
                      · exact h3 z q
                      · rw [q]
                        exact yn
                    · rw [q]
                      exact xn
                  · exact ⟨_, rfl, k xs C H9 h2 h3 HC h1 h4 h5⟩
              · refine ⟨_, rfl, (n : Int), rfl, RGOK, fun C nC => ?_⟩
                rw [rgV_nats]
                have h1 : (upd H C (.lst (nts (List.range n)))) C = some (.lst (nts (List.range n))) := upd_same
                have h2 : (List.range n).length = n := List.length_range
                have h3 : ∀ x ∈ List.range n, x < n := fun x hx => List.mem_range.mp hx
                have h4 := Z.new nC (u := .lst (nts (List.range n)))
                have h5 := SH.new nC (u := .lst (nts (List.range n)))
                have HC := nC
                have Cd : C ≠ d := Z.not nC
                generalize upd H C (.lst (nts (List.range n))) = H9 at h1 h4 h5 ⊢
                generalize List.range n = xs at h1 h2 h3 ⊢
                refine ⟨_, rfl, rfl, _, rfl, ?_⟩
                refine ite2 (fun h6 => ?_) (fun h6 => ?_)
                · refine ⟨_, rfl, _, rfl, d, n, rfl, h4, hn, by omega, fun x H2 xn z2 s2 => ?_⟩
                  refine ⟨_, rfl, _, rfl, d, n, rfl, z2, hn, by omega, fun y H3 yn z3 s3 => ?_⟩
                  refine ⟨_, _, rfl, ?_⟩
                  have s93 := s2.trans s3
                  have h1 := s93 _ _ Cd h1
                  have h5 := h5.trans s93
                  refine ⟨_, rfl, _, rfl, (by show 2 ≤ sizeLine; decide), fun t nt => ⟨t, _, rfl, SqT.of upd_same, rfl, ?_⟩⟩
                  have lx : (nts xs).length = n := by rw [nts_length, h2]
                  refine ⟨_, _, rfl, _, rfl, _, rfl, C, nts xs, x, x, rfl, rfl, keep_new h1 nt, (by rw [lx]; exact ixNat xn), ?_⟩
                  refine ⟨_, _, rfl, _, rfl, _, rfl, C, _, y, y, rfl, rfl, upd_same, (by rw [List.length_set, lx]; exact ixNat yn), rfl, ?_⟩
                  have es : ((nts xs).set x (.int y)).set y (.int x) = nts ((xs.set x y).set y x) := by
                    unfold nts
                    rw [List.map_set, List.map_set]
                  rw [es]
                  refine ⟨_, rfl, k ((xs.set x y).set y x) C _ (by rw [List.length_set, List.length_set, h2]) (fun z hz => ?_) HC upd_same (((z3.new nt).ne Cd).ne Cd) (((h5.new nt).at_new HC).at_new HC)⟩
                  rcases List.mem_or_eq_of_mem_set hz with q | q
                  · rcases List.mem_or_eq_of_mem_set q with q | q
                    · exact h3 z q
                    · rw [q]
                      exact yn
                  · rw [q]
                    exact xn
                · exact ⟨_, rfl, k xs C H9 h2 h3 HC h1 h4 h5⟩
end
end M3

set_option Elab.async false
set_option linter.all false
set_option maxRecDepth 100000
set_option maxHeartbeats 8000000
/-! # Drawn tables -/
namespace M3
open PySem L2
abbrev sTable : Stmt := top 56
abbrev nTable : List Str := ["dice", "letters", "size", "sorts", "rows", "letter", "row", "place"]
theorem scTable : FnScope nTable ["dice", "letters", "size", "sorts"] (defScope sTable) := ⟨rfl, rfl, rfl, by decide +kernel, rfl, by decide +kernel, by decide +kernel⟩
/-- lists of numbers, one for each; none of them stands at d or C -/
def RowsL (d C : Addr) (H : Hp) (vs : List V) (rs : List (List Nat)) : Prop := vs.length = rs.length ∧ ∀ (i : Nat) (r : List Nat), rs[i]? = some r → ∃ a : Addr, vs[i]? = some (V.ref a) ∧ a ≠ d ∧ a ≠ C ∧ H a = some (HO.lst (nts r))
/-- tuples of numbers, one for each -/
def RowsT (d C : Addr) (H : Hp) (vs : List V) (rs : List (List Nat)) : Prop := vs.length = rs.length ∧ ∀ (i : Nat) (r : List Nat), rs[i]? = some r → ∃ a : Addr, vs[i]? = some (V.ref a) ∧ a ≠ d ∧ a ≠ C ∧ H a = some (.tup (nts r))
theorem RowsL.to {d C : Addr} {H H' : Hp} {vs : List V} {rs : List (List Nat)} (R : RowsL d C H vs rs) (k : ∀ b o, b ≠ d → b ≠ C → H b = some o → H' b = some o) : RowsL d C H' vs rs :=
  ⟨R.1, fun i r h => by
    obtain ⟨a, h1, h2, h3, h4⟩ := R.2 i r h
    exact ⟨a, h1, h2, h3, k _ _ h2 h3 h4⟩⟩
theorem RowsT.to {d C : Addr} {H H' : Hp} {vs : List V} {rs : List (List Nat)} (R : RowsT d C H vs rs) (k : ∀ b o, b ≠ d → b ≠ C → H b = some o → H' b = some o) : RowsT d C H' vs rs :=
  ⟨R.1, fun i r h => by
    obtain ⟨a, h1, h2, h3, h4⟩ := R.2 i r h
    exact ⟨a, h1, h2, h3, k _ _ h2 h3 h4⟩⟩
theorem snoc_at {α : Type} {xs : List α} {x y : α} {i : Nat} (h : (xs ++ [x])[i]? = some y) : xs[i]? = some y ∨ (i = xs.length ∧ y = x) := by
  by_cases hi : i < xs.length
  · rw [List.getElem?_append_left hi] at h
    exact .inl h
  · rw [List.getElem?_append_right (by omega)] at h
    by_cases e : i - xs.length = 0
    · rw [e] at h
      exact .inr ⟨by omega, (Option.some.inj h).symm⟩
    · have : 1 ≤ i - xs.length := by omega
      rw [List.getElem?_eq_none (by simpa using this)] at h
      cases h
theorem RowsL.snoc {d C a : Addr} {H : Hp} {vs : List V} {rs : List (List Nat)} {r : List Nat} (R : RowsL d C H vs rs) (hd : a ≠ d) (hC : a ≠ C) (h : H a = some (.lst (nts r))) : RowsL d C H (vs ++ [.ref a]) (rs ++ [r]) := by
  refine ⟨by rw [List.length_append, List.length_append, R.1]; rfl, fun i r' hr => ?_⟩
  rcases snoc_at hr with q | ⟨e, q⟩
  · obtain ⟨b, h1, h2⟩ := R.2 i r' q
    exact ⟨b, by rw [List.getElem?_append_left (List.getElem?_eq_some_iff.mp h1).1]; exact h1, h2⟩
  · subst q
    refine ⟨a, ?_, hd, hC, h⟩
    rw [e, ← R.1, List.getElem?_append_right (Nat.le_refl _), Nat.sub_self]
    rfl
theorem RowsT.snoc {d C a : Addr} {H : Hp} {vs : List V} {rs : List (List Nat)} {r : List Nat} (R : RowsT d C H vs rs) (hd : a ≠ d) (hC : a ≠ C) (h : H a = some (.tup (nts r))) : RowsT d C H (vs ++ [.ref a]) (rs ++ [r]) := by
  refine ⟨by rw [List.length_append, List.length_append, R.1]; rfl, fun i r' hr => ?_⟩
  rcases snoc_at hr with q | ⟨e, q⟩
  · obtain ⟨b, h1, h2⟩ := R.2 i r' q
    exact ⟨b, by rw [List.getElem?_append_left (List.getElem?_eq_some_iff.mp h1).1]; exact h1, h2⟩
  · subst q
    refine ⟨a, ?_, hd, hC, h⟩
    rw [e, ← R.1, List.getElem?_append_right (Nat.le_refl _), Nat.sub_self]
    rfl
/-- a table of so many states, so many letters -/
def IsTab (t : List (List Nat)) (n m : Nat) : Prop := t.length = n ∧ ∀ r ∈ t, r.length = m ∧ ∀ z ∈ r, z < n
theorem sq_still {K : PySem.W.Frag} {d a : Addr} {H H' : Hp} {xs : List V} (s : Still d H H') (n : a ≠ d) (h : SqL K H a xs) : SqL K H' a xs := by
  rcases h with (h | ⟨o, h⟩) | h
  · exact .inl (.inl (s _ _ n h))
  · exact .inl (.inr ⟨o, s _ _ n h⟩)
  · exact .inr h
def rTupOf (K : PySem.W.Frag) : List V → Hp → VK → Prop := fun xs H Q => ∃ p ys, xs = [V.ref p] ∧ ((SqL K H p ys ∧ ∀ l, H l = none → Q (.ref l) (upd H l (.tup ys))) ∨ (SqT K H p ys ∧ Q (.ref p) H))
/-- tuple([row[place] for row in rows]) -/
def tPick (K : PySem.W.Frag) : TE := tCB (rTupOf K) (tCons (tLc (iList K (tVar 4)) (gName 6) tYes (tOp (rIxL K) (tVar 6) (tVar 7)) [6]) tNil)
def col (rs : List (List Nat)) (s : Nat) : List Nat := rs.map fun r => r.getD s 0
theorem nts_at {r : List Nat} {j : Nat} (h : j < r.length) : atI (nts r) (j : Int) = some (.int (r.getD j 0)) := by
  refine atI_nat ?_
  unfold nts
  rw [List.getElem?_map, List.getElem?_eq_getElem h]
  simp [List.getD, List.getElem?_eq_getElem h]
theorem take_snoc {α : Type} {l : List α} {i : Nat} {x : α} (h : l[i]? = some x) : l.take (i + 1) = l.take i ++ [x] := by
  rw [List.take_succ, h]
  rfl
def spTable (K : PySem.W.Frag) : Sp := fun vs H Q _ => ∃ (d a : Addr) (x : Str) (n : Nat) (ss : List Int), vs = [.ref d, .str x, .int n, .ref a] ∧ Dz H d ∧ 0 < n ∧ n ≤ 10 ∧ x.length ≤ 10 ∧ SqL K H a (ss.map V.int) ∧ a ≠ d ∧ 0 < ss.length ∧ ss.length < 1000 ∧
  ∀ (t : List (List Nat)) (us : List V) (p : Addr) (H' : Hp), IsTab t n x.length → H p = none → p ≠ d → H' p = some (.lst us) → RowsT d p H' us t → Dz H' d → Still d H H' → Q (.ref p) H'
section
variable {P : Program} {w : World} {K : PySem.W.Frag} {mg : Str → Option Value} {base : Heap}
theorem ok_one {f : Addr} {fd : FuncData} (D : DefsD K mg) (T : TxI mg) : FnOk P w K mg base CX0 2 D.fO D.dO ["dice", "items"] (spOneOf K) := ok_oneof D.O D.R D.bR D.mR T
theorem ok_table {f g : Addr} {fd gd : FuncData} (F : Fun K "_law_table" "_law_table" sTable f fd) (FA : Fun K "_law_action" "_law_action" sAction g gd) (bA : Binds K gd ["dice", "size", "sort"] []) (mA : mg "_law_action" = some (.ref g)) (D : DefsD K mg) (T : TxI mg) (M : TxM mg) :
    FnOk P w K mg base CX0 3 f fd ["dice", "letters", "size", "sorts"] (spTable K) := by
  have GO : FnOk P w K mg base CX0 2 D.fO D.dO ["dice", "items"] (spOneOf K) := ok_oneof D.O D.R D.bR D.mR T
  have GA : FnOk P w K mg base CX0 2 g gd ["dice", "size", "sort"] spAction := ok_action FA D T M
  refine F.ok scTable (fun vs H Q E h => ?_) (fun cdv A outer s H vs Q E hr h => ?_)
  · obtain ⟨d, a, x, n, ss, rfl, _⟩ := h
    rfl
  · obtain ⟨d, a, x, n, ss, rfl, Z, hn, h10, hx, ha, ad, s0, s1, k⟩ := h
    have hr2 : Room 2 _ := hr.mono (by decide)
    refine ⟨_, pss_cons (ps_set (i := 4) scTable.nd rfl (Or.inr rfl) (pe_lc (own := [("letter", 5)]) (g := gName 5) (tt := tYes) rfl scTable.nd (pi_str (pv 1)) (blkOk_by (N := nTable) (sc := defScope sTable) (by decide +kernel)) (fun _ _ _ _ _ => pg_name (i := 5) scTable.nd rfl (Or.inl rfl)) (fun _ _ _ _ _ => pts_nil)
        (fun _ _ _ _ _ => pe_call GA hr2 rfl mA FA.kp bA .nil pass0 (pa_cons (pv 0) (pa_cons (pv 2) (pa_cons (pe_call GO hr2 rfl D.mO D.O.kp D.bO .nil pass0 (pa_cons (pv 0) (pa_cons (pv 3) pa_nil))) pa_nil))))))
      (pss_one (ps_ret (pe_lc (own := [("place", 7)]) (g := gName 7) (tt := tYes) (te := tPick K) rfl scTable.nd (pi_range1 rfl M.range (pa_cons (pv 2) pa_nil)) (blkOk_by (N := nTable) (sc := defScope sTable) (by decide +kernel)) (fun _ _ _ _ _ => pg_name (i := 7) scTable.nd rfl (Or.inr rfl)) (fun _ _ _ _ _ => pts_nil)
        (fun _ _ _ _ _ => pe_callTy call_tuple_of (by rfl) M.tuple (by decide +kernel : bootBuiltins "tuple" = some (.type "tuple")) (pa_cons (pe_lc (own := [("row", 6)]) (wi := iList K (tVar 4)) (g := gName 6) (tt := tYes) (te := tOp (rIxL K) (tVar 6) (tVar 7)) rfl scTable.nd (pi_list (pv 4)) (by exact blkOk_by (N := nTable) (sc := ⟨.function, [(".0", .local), ("place", .cell), ("tuple", .globalImplicit), ("rows", .cell)], false, false, []⟩) (scope := ⟨.function, [(".0", .local), ("row", .local), ("place", .free)], false, false, []⟩) (own := [("row", 6)]) (by decide +kernel)) (fun _ _ _ _ _ => pg_name (i := 6) scTable.nd rfl (Or.inl rfl)) (fun _ _ _ _ _ => pts_nil)
          (fun _ _ _ _ _ => pe_ix ix_list (pv 6) (pv 7) (fun _ _ => rfl))) pa_nil))))), ?_⟩
    refine ⟨_, rfl, x, rfl, fun C nC => ?_⟩
    have Cd : C ≠ d := Z.not nC
    refine lc_it walk_str (fun j H9 => ∃ (vs : List V) (rs : List (List Nat)), H9 C = some (.lst vs) ∧ rs.length = j ∧ RowsL d C H9 vs rs ∧ (∀ r ∈ rs, r.length = n ∧ ∀ z ∈ r, z < n) ∧ Dz H9 d ∧ Still d H H9)
      ⟨[], [], upd_same, rfl, ⟨rfl, fun i r h => by cases h⟩, (fun z hz => by cases hz), Z.new nC, (Still.refl d H).new nC⟩ (fun _ _ _ _ => trivial) ?_ ?_
    · rintro i y H9 H9' hi ⟨vs, rs, h1, h2, h3, h4, h5, h6⟩ ⟨rfl, c, hc, rfl⟩
      refine ⟨rfl, tYes_if ?_⟩
      refine ⟨_, rfl, _, rfl, _, rfl, _, rfl, d, a, _, rfl, h5, sq_still h6 ad ha, ad, by rw [List.length_map]; exact s0, by rw [List.length_map]; omega, fun v H2 hv T2 => ?_⟩
      obtain ⟨q, _, rfl⟩ := List.mem_map.mp hv
      have S2 : Still d H9' H2 := (Still.refl d H9').turn T2
      refine ⟨d, n, q, rfl, T2.dz, hn, h10, fun xs p H3 hl hlt np hp z3 s3 => ?_⟩
      have S3 : Still d H9' H3 := S2.trans s3
      have pC : p ≠ C := fun e => by
        rw [e, S2 _ _ Cd h1] at np
        cases np
      have pd : p ≠ d := T2.dz.not np
      have hi10 : i < 10 := Nat.lt_of_lt_of_le hi hx
      have R3 : RowsL d C H3 (vs ++ [.ref p]) (rs ++ [xs]) := (h3.to fun b o h1 _ h => S3 b o h1 h).snoc pd pC hp
      refine ⟨vs, S3 _ _ Cd h1, ?_, vs ++ [.ref p], rs ++ [xs], upd_same, by rw [List.length_append, h2]; rfl, R3.to fun b o _ h2 h => by rw [upd_ne h2]; exact h, fun r hr => ?_, z3.ne Cd, (h6.trans S3).at_new nC⟩
      · rw [h3.1, h2]
        exact Nat.lt_trans hi10 (by decide)
      · rcases List.mem_append.mp hr with e | e
        · exact h4 r e
        · rw [List.mem_singleton.mp e]
          exact ⟨hl, hlt⟩
    · rintro H8 ⟨vs, rs, h1, h2, h3, h4, h5, h6⟩
      refine ⟨_, rfl, n, rfl, by omega, by omega, fun G nG => ?_⟩
      have Gd : G ≠ d := h5.not nG
      have HG : H G = none := h6.free h5 nG
      have hv10 : vs.length ≤ 10 := by
        rw [h3.1, h2]
        exact hx
      refine lc_range (lo := 0) (n := (n : Int).toNat) (fun j H9 => ∃ us : List V, H9 G = some (.lst us) ∧ RowsT d G H9 us ((List.range j).map (col rs)) ∧ ∀ b o, b ≠ G → H8 b = some o → H9 b = some o)
        ⟨[], upd_same, ⟨rfl, fun i r h => by cases h⟩, fun b o hb h => keep_new h nG⟩ ?_ ?_
      · rintro j H9 hj ⟨us, u1, u2, u3⟩
        have hj : j < n := by omega
        refine ⟨rfl, tYes_if ?_⟩
        have nG8 : ∀ {b : Addr} {o : HO}, H8 b = some o → b ≠ G := fun h z => by
          subst z
          rw [nG] at h
          cases h
        refine ⟨_, rfl, C, rfl, ⟨_, SqL.of (u3 _ _ (nG8 h1) h1)⟩, fun S nS => ?_⟩
        have S8 : ∀ {b : Addr} {o : HO}, H9 b = some o → b ≠ S := fun h z => by
          subst z
          rw [nS] at h
          cases h
        refine lc_list (K := K) (a := C) (xs := vs) (fun i H10 => H10 S = some (.lst (nts (col (rs.take i) j))) ∧ ∀ b o, b ≠ S → H9 b = some o → H10 b = some o)
          ⟨upd_same, fun b o hb h => keep_new h nS⟩ (fun i H10 _ ⟨_, z⟩ => SqL.of (z _ _ (S8 (u3 _ _ (nG8 h1) h1)) (u3 _ _ (nG8 h1) h1))) ?_ ?_
        · rintro i v H10 hv ⟨w1, w2⟩
          have hi : i < rs.length := by
            rw [← h3.1]
            exact (List.getElem?_eq_some_iff.mp hv).1
          obtain ⟨b, b1, b2, b3, b4⟩ := h3.2 i rs[i] (List.getElem?_eq_getElem hi)
          have ev : v = .ref b := Option.some.inj (hv.symm.trans b1)
          subst ev
          refine ⟨rfl, tYes_if ?_⟩
          have b5 := u3 _ _ (nG8 b4) b4
          have b6 := w2 _ _ (S8 b5) b5
          obtain ⟨ln, _⟩ := h4 rs[i] (List.getElem_mem hi)
          have ej : (0 : Int) + (j : Int) = (j : Int) := Int.zero_add _
          refine ⟨_, rfl, _, rfl, b, nts rs[i], 0 + (j : Int), .int ((rs[i].getD j 0 : Nat) : Int), rfl, rfl, SqL.of b6, by rw [ej]; exact nts_at (by omega), ?_⟩
          refine ⟨_, w1, ?_, ?_, fun b' o hb' h' => by rw [upd_ne hb']; exact w2 b' o hb' h'⟩
          · rw [nts_length]
            unfold col
            rw [List.length_map, List.length_take]
            exact Nat.lt_of_le_of_lt (Nat.le_trans (Nat.min_le_right _ _) (show rs.length ≤ 10 by rw [← h3.1]; exact hv10)) (by decide)
          · rw [upd_same, nts_append]
            unfold col
            rw [take_snoc (List.getElem?_eq_getElem hi), List.map_append]
            rfl
        · rintro H10 ⟨w1, w2⟩
          have et : rs.take vs.length = rs := by
            rw [h3.1]
            exact List.take_length
          rw [et] at w1
          refine ⟨S, _, rfl, .inl ⟨SqL.of w1, fun l nl => ?_⟩⟩
          have k10 : ∀ b o, H9 b = some o → H10 b = some o := fun b o h => w2 b o (S8 h) h
          have lG : l ≠ G := fun z => by
            rw [z, k10 _ _ u1] at nl
            cases nl
          obtain ⟨dl, dm, dc, dd, _⟩ := id h5
          have ld : l ≠ d := fun z => by
            rw [z, k10 _ _ (u3 _ _ Gd.symm dd)] at nl
            cases nl
          refine ⟨us, keep_new (k10 _ _ u1) nl, ?_, us ++ [.ref l], upd_same, ?_, fun b o hb h => ?_⟩
          · rw [u2.1, List.length_map, List.length_range]
            exact Nat.lt_of_lt_of_le (Nat.lt_of_lt_of_le hj h10) (by decide)
          · rw [List.range_succ, List.map_append]
            exact ((u2.to fun b o _ _ h => keep_new (k10 _ _ h) nl).snoc ld lG upd_same).to fun b o _ h2 h => by
              rw [upd_ne h2]
              exact h
          · rw [upd_ne hb]
            exact keep_new (k10 _ _ (u3 b o hb h)) nl
      · rintro H9 ⟨us, u1, u2, u3⟩
        have en : (n : Int).toNat = n := by omega
        rw [en] at u2
        obtain ⟨dl, dm, dc, dd, d1⟩ := id h5
        refine k ((List.range n).map (col rs)) us G H9 ⟨by rw [List.length_map, List.length_range], fun r hr => ?_⟩ HG Gd u1 u2 ⟨dl, dm, dc, u3 _ _ Gd.symm dd, d1⟩ fun b o hb h => u3 b o (fun z => by
          rw [z, HG] at h
          cases h) (h6 b o hb h)
        obtain ⟨s', hs', rfl⟩ := List.mem_map.mp hr
        have hs' : s' < n := List.mem_range.mp hs'
        refine ⟨by unfold col; rw [List.length_map, h2]; rfl, fun z hz => ?_⟩
        obtain ⟨r', hr', rfl⟩ := List.mem_map.mp hz
        obtain ⟨l1, l2⟩ := h4 r' hr'
        refine l2 _ ?_
        have : s' < r'.length := by omega
        simp [List.getD, List.getElem?_eq_getElem this]
end
end M3

set_option Elab.async false
set_option linter.all false
set_option maxRecDepth 100000
set_option maxHeartbeats 8000000
/-! # Drawn machines, plain: a dict of letters, table, ends -/
namespace M3
open PySem L2
abbrev sMachine : Stmt := top 57
abbrev nMachine : List Str := ["dice", "letters", "states", "size", "table", "ends", "state"]
theorem scMachine : FnScope nMachine ["dice", "letters", "states"] (defScope sMachine) := ⟨rfl, rfl, rfl, by decide +kernel, rfl, by decide +kernel, by decide +kernel⟩
theorem RowsT.both {d C : Addr} {H : Hp} {vs : List V} {rs : List (List Nat)} (R : RowsT d C H vs rs) : RowsT d d H vs rs := ⟨R.1, fun i r h => by
  obtain ⟨a, h1, h2, _, h4⟩ := R.2 i r h
  exact ⟨a, h1, h2, h2, h4⟩⟩
/-- a machine told plainly at p: letters x, table t, ends es -/
structure Plain (d : Addr) (H : Hp) (p : Addr) (x : Str) (t : List (List Nat)) (es : List Nat) : Prop where
  ex : ∃ (a b : Addr) (us : List V), H p = some (.dK [(.inr "letters", .str x), (.inr "table", .ref a), (.inr "ends", .ref b)]) ∧ a ≠ d ∧ H a = some (.lst us) ∧ RowsT d d H us t ∧ b ≠ d ∧ H b = some (.lst (nts es))
  tab : IsTab t t.length x.length
  up : es.Pairwise (· < ·)
  lt : ∀ e ∈ es, e < t.length
theorem Plain.still {d p : Addr} {H H' : Hp} {x : Str} {t : List (List Nat)} {es : List Nat} (h : Plain d H p x t es) (z : Dz H d) (s : Still d H H') : Plain d H' p x t es := by
  obtain ⟨⟨a, b, us, h1, h2, h3, h4, h5, h6⟩, h7, h8, h9⟩ := h
  obtain ⟨dl, dm, dc, dd, _⟩ := z
  have pd : p ≠ d := fun e => by
    rw [e, dd] at h1
    cases h1
  exact ⟨⟨a, b, us, s _ _ pd h1, h2, s _ _ h2 h3, h4.to fun b o hb _ h => s b o hb h, h5, s _ _ h5 h6⟩, h7, h8, h9⟩
theorem plain_merge {x y z : V} : mergeK [] [((.inr "letters" : Key), x), (.inr "table", y), (.inr "ends", z)] = [(.inr "letters", x), (.inr "table", y), (.inr "ends", z)] := by
  rfl
def spMachine : Sp := fun vs H Q _ => ∃ (d : Addr) (x : Str) (m : Nat), vs = [.ref d, .str x, .int m] ∧ Dz H d ∧ 0 < m ∧ m ≤ 4 ∧ x.length ≤ 10 ∧
  ∀ (t : List (List Nat)) (es : List Nat) (p : Addr) (H' : Hp), Plain d H' p x t es → 0 < t.length → t.length ≤ m → H p = none → Dz H' d → Still d H H' → Q (.ref p) H'
/-- .. and it does not hang on lists that stood ahead -/
def spMachineF : Sp := fun vs H Q _ => ∃ (d : Addr) (x : Str) (m : Nat), vs = [.ref d, .str x, .int m] ∧ Dz H d ∧ 0 < m ∧ m ≤ 4 ∧ x.length ≤ 10 ∧
  ∀ (t : List (List Nat)) (es : List Nat) (p : Addr) (H' : Hp), Plain d H' p x t es → 0 < t.length → t.length ≤ m → H p = none → Dz H' d → Still d H H' → (∀ (L : Addr) (ys : List V) (o : HO), L ≠ d → H L = some (.lst ys) → Plain d (upd H' L o) p x t es) → Q (.ref p) H'
section
variable {P : Program} {w : World} {K : PySem.W.Frag} {mg : Str → Option Value} {base : Heap}
/-- the facts of the defs that draw machines -/
structure DefsM (K : PySem.W.Frag) (mg : Str → Option Value) where
  (fA fT : Addr)
  (dA dT : FuncData)
  A : Fun K "_law_action" "_law_action" sAction fA dA
  bA : Binds K dA ["dice", "size", "sort"] []
  mA : mg "_law_action" = some (.ref fA)
  T : Fun K "_law_table" "_law_table" sTable fT dT
  bT : Binds K dT ["dice", "letters", "size", "sorts"] []
  mT : mg "_law_table" = some (.ref fT)
theorem ok_machineF {f : Addr} {fd : FuncData} (F : Fun K "_law_machine" "_law_machine" sMachine f fd) (D : DefsD K mg) (G : DefsM K mg) (T : TxI mg) (M : TxM mg) :
    FnOk P w K mg base CX0 4 f fd ["dice", "letters", "states"] spMachineF := by
  have GR : FnOk P w K mg base CX0 1 D.fR D.dR ["dice", "total"] spDraw := ok_draw D.R T
  have GT : FnOk P w K mg base CX0 3 G.fT G.dT ["dice", "letters", "size", "sorts"] (spTable K) := ok_table G.T G.A G.bA G.mA D T M
  refine F.ok scMachine (fun vs H Q E h => ?_) (fun cdv A outer s H vs Q E hr h => ?_)
  · obtain ⟨d, x, m, rfl, _⟩ := h
    rfl
  · obtain ⟨d, x, m, rfl, Z, hm, hm4, hx, k⟩ := h
    have hr3 : Room 3 _ := hr.mono (by decide)
    have hr1 : Room 1 _ := hr.mono (by decide)
    refine ⟨_, pss_cons (ps_set (i := 3) scMachine.nd rfl (Or.inl rfl) (pe_op op_add pe_int (pe_call GR hr1 rfl D.mR D.R.kp D.bR .nil pass0 (pa_cons (pv 0) (pa_cons (pv 2) pa_nil)))))
      (pss_cons (ps_set (i := 4) scMachine.nd rfl (Or.inl rfl) (pe_call GT hr3 rfl G.mT G.T.kp G.bT .nil pass0 (pa_cons (pv 0) (pa_cons (pv 1) (pa_cons (pv 3) (pa_cons (pe_lst (pa_cons pe_int (pa_cons pe_int (pa_cons pe_int (pa_cons pe_int (pa_cons pe_int (pa_cons pe_int (pa_cons pe_int (pa_cons pe_int pa_nil))))))))) pa_nil))))))
      (pss_cons (ps_setLc (i := 5) (own := [("state", 6)]) (g := gName 6) (tt := tTest (tOp rEq (tCall spDraw [] E0 (tCons (tVar 0) (tCons (tC (.int 2)) tNil))) (tC (.int 0)))) rfl scMachine.nd rfl rfl (sw_true rfl rfl rfl (by decide +kernel)) (pi_range1 rfl M.range (pa_cons (pv 3) pa_nil)) (blkOk_by (N := nMachine) (sc := defScope sMachine) (by decide +kernel)) (fun _ _ _ _ _ => pg_name (i := 6) scMachine.nd rfl (Or.inl rfl))
        (fun _ _ _ _ _ => pts_one (pt_cmpR op_eq (pe_call GR hr1 rfl D.mR D.R.kp D.bR .nil pass0 (pa_cons (pv 0) (pa_cons pe_int pa_nil))) pe_int (nomark _))) (fun _ _ _ _ _ => pv 6))
      (pss_one (ps_ret (pe_disp (pps_cons pe_str (pv 1) (pps_cons pe_str (pv 4) (pps_cons pe_str (pv 5) pps_nil))) (by rfl) (by rfl) (fun z => by cases z) (by decide)))))), ?_⟩
    refine ⟨_, rfl, _, rfl, d, m, rfl, Z, hm, by omega, fun r H1 hr' Z1 S1 => ?_⟩
    refine ⟨_, _, rfl, rfl, ?_⟩
    refine ⟨_, rfl, _, rfl, _, rfl, (by show 8 ≤ sizeLine; decide), fun l nl => ?_⟩
    have ld : l ≠ d := Z1.not nl
    have er : (1 : Int) + (r : Int) = ((1 + r : Nat) : Int) := by omega
    refine ⟨d, l, x, 1 + r, [0, 1, 2, 3, 3, 4, 5, 6], ?_, Z1.new nl, by omega, by omega, hx, SqL.of upd_same, ld, by decide, by decide, fun t us p H2 ht np pd hp R Z2 S2 => ?_⟩
    · rw [← er]
      rfl
    have S12 : Still d H H2 := (S1.new nl).trans S2
    refine ⟨_, rfl, _, rfl, by omega, by omega, fun C nC => ?_⟩
    have Cd : C ≠ d := Z2.not nC
    have HC : H2 C = none := nC
    refine lc_range (lo := 0) (n := ((1 : Int) + (r : Int)).toNat) (fun j H9 => ∃ es : List Nat, H9 C = some (.lst (nts es)) ∧ es.length ≤ j ∧ es.Pairwise (· < ·) ∧ (∀ e ∈ es, e < j) ∧ Dz H9 d ∧ Still d H2 H9)
      ⟨[], upd_same, Nat.le_refl _, List.Pairwise.nil, (fun z hz => by cases hz), Z2.new nC, (Still.refl d H2).new nC⟩ ?_ ?_
    · rintro j H9 hj ⟨es, h1, h2, h3, h4, h5, h6⟩
      refine ⟨rfl, ?_⟩
      refine ⟨_, rfl, d, 2, rfl, h5, by decide, by decide, fun z H3 hz Z3 S3 => ⟨rfl, _, rfl, ?_⟩⟩
      refine ite2 (fun _ => ?_) (fun _ => ?_)
      · refine ⟨_, rfl, _, S3 _ _ Cd h1, ?_, es ++ [j], ?_, ?_, ?_, fun e he => ?_, Z3.ne Cd, (h6.trans S3).at_new HC⟩
        · rw [nts_length]
          exact Nat.lt_of_le_of_lt (show es.length ≤ 4 by omega) (by decide)
        · have ej : (0 : Int) + (j : Int) = (j : Int) := Int.zero_add _
          rw [upd_same, ej, nts_append]
        · rw [List.length_append]
          show es.length + 1 ≤ j + 1
          omega
        · rw [List.pairwise_append]
          refine ⟨h3, List.pairwise_singleton _ _, fun a ha b hb => ?_⟩
          rw [List.mem_singleton.mp hb]
          exact h4 a ha
        · rcases List.mem_append.mp he with q | q
          · have := h4 e q
            omega
          · rw [List.mem_singleton.mp q]
            omega
      · exact ⟨es, S3 _ _ Cd h1, by omega, h3, (fun e he => Nat.lt_succ_of_lt (h4 e he)), Z3, h6.trans S3⟩
    · rintro H9 ⟨es, h1, h2, h3, h4, h5, h6⟩
      refine fun q nq => ⟨_, rfl, _, rfl, _, rfl, upd_same, [(.inr "letters", .str x), (.inr "table", .ref p), (.inr "ends", .ref C)], rfl, (by show 3 ≤ 15; decide), ?_⟩
      rw [plain_merge]
      have k9 : ∀ b o, b ≠ d → H2 b = some o → H9 b = some o := h6
      have q2 : H2 q = none := h6.free h5 nq
      have hq : H q = none := S12.free Z2 q2
      obtain ⟨t1, t2⟩ := ht
      have el : ((1 : Int) + (r : Int)).toNat = t.length := by
        rw [t1]
        omega
      rw [el] at h4
      rw [upd_upd]
      have tl : IsTab t t.length x.length := by
        rw [← t1] at t2
        exact ⟨rfl, t2⟩
      have f1 := keep_new (u := .dK [(.inr "letters", .str x), (.inr "table", .ref p), (.inr "ends", .ref C)]) (k9 _ _ pd hp) nq
      have f2 : RowsT d d (upd H9 q (.dK [(.inr "letters", .str x), (.inr "table", .ref p), (.inr "ends", .ref C)])) us t := R.both.to fun b o hb _ h => keep_new (k9 b o hb h) nq
      have f3 := keep_new (u := .dK [(.inr "letters", .str x), (.inr "table", .ref p), (.inr "ends", .ref C)]) h1 nq
      have f4 : Still d H (upd H9 q (.dK [(.inr "letters", .str x), (.inr "table", .ref p), (.inr "ends", .ref C)])) := (S12.trans h6).new nq
      have hpn : H p = none := (S1.new nl).free (Z1.new nl) np
      have hCn : H C = none := S12.free Z2 nC
      refine k t es q _ ⟨⟨p, C, us, upd_same, pd, f1, f2, Cd, f3⟩, tl, h3, h4⟩ (by omega) (by omega) hq (h5.new nq) f4 fun L ys o Ld hL => ?_
      have n1 : q ≠ L := fun z => by
        rw [← z, hq] at hL
        cases hL
      have n2 : p ≠ L := fun z => by
        rw [← z, hpn] at hL
        cases hL
      have n3 : C ≠ L := fun z => by
        rw [← z, hCn] at hL
        cases hL
      refine ⟨⟨p, C, us, by rw [upd_ne n1]; exact upd_same, pd, by rw [upd_ne n2]; exact f1, ⟨f2.1, fun i r e => ?_⟩, Cd, by rw [upd_ne n3]; exact f3⟩, tl, h3, h4⟩
      obtain ⟨a', a1, a2, a3, a4⟩ := f2.2 i r e
      refine ⟨a', a1, a2, a3, ?_⟩
      rw [upd_ne (fun z => ?_)]
      · exact a4
      · rw [z, f4 _ _ Ld hL] at a4
        cases a4
theorem ok_machine {f : Addr} {fd : FuncData} (F : Fun K "_law_machine" "_law_machine" sMachine f fd) (D : DefsD K mg) (G : DefsM K mg) (T : TxI mg) (M : TxM mg) :
    FnOk P w K mg base CX0 4 f fd ["dice", "letters", "states"] spMachine := by
  refine (ok_machineF F D G T M).imp fun vs H Q E h => ?_
  obtain ⟨d, x, m, rfl, Z, hm, hm4, hx, k⟩ := h
  exact ⟨d, x, m, rfl, Z, hm, hm4, hx, fun t es p H' h1 h2 h3 h4 h5 h6 _ => k t es p H' h1 h2 h3 h4 h5 h6⟩
end
end M3

set_option Elab.async false
set_option linter.all false
set_option maxRecDepth 100000
set_option maxHeartbeats 8000000
/-! # Numbers between, words -/
namespace M3
open PySem L2
abbrev sBetween : Stmt := top 11
abbrev sIsWord : Stmt := top 12
abbrev sHasOnly : Stmt := top 13
structure TxW (mg : Str → Option Value) : Prop where
  isi : mg "isinstance" = none
  bool : mg "bool" = none
  int : mg "int" = none
  str : mg "str" = none
  tuple : mg "tuple" = none
  all : mg "all" = none
  alpha : ∃ t, mg "ALPHABET" = some (.str "abcdefghijklmnopqrstuvwxyz" t)
theorem boot_bool' : bootBuiltins "bool" = some (.type "bool") := by decide +kernel
theorem boot_int' : bootBuiltins "int" = some (.type "int") := by decide +kernel
theorem boot_str' : bootBuiltins "str" = some (.type "str") := by decide +kernel
theorem boot_tuple' : bootBuiltins "tuple" = some (.type "tuple") := by decide +kernel
theorem scBetween : FnScope ["value", "low", "high"] ["value", "low", "high"] (defScope sBetween) := ⟨rfl, rfl, rfl, by decide +kernel, rfl, by decide +kernel, by decide +kernel⟩
theorem scIsWord : FnScope ["value"] ["value"] (defScope sIsWord) := ⟨rfl, rfl, rfl, by decide +kernel, rfl, by decide +kernel, by decide +kernel⟩
theorem scHasOnly : FnScope ["word", "letters", "letter"] ["word", "letters"] (defScope sHasOnly) := ⟨rfl, rfl, rfl, by decide +kernel, rfl, by decide +kernel, by decide +kernel⟩
/-- is it an integer between: what kind of value it is decides first -/
def spBetween (K : PySem.W.Frag) : Sp := fun vs H Q _ => ∃ (v : V) (lo hi : Int) (t : Value) (bb bi : Bool), vs = [v, .int lo, .int hi] ∧ TyX K H v t ∧ PySem.W.kitOne K t (.type "bool") = some bb ∧ PySem.W.kitOne K t (.type "int") = some bi ∧
  (bb = true → Q (.bl false) H) ∧ (bb = false → bi = false → Q (.bl false) H) ∧ (bb = false → bi = true → ∃ i : Int, v = .int i ∧ Q (.bl (decide (lo ≤ i) && decide (i ≤ hi))) H)
def only (x y : Str) : Bool := x.cps.toList.all fun c => decide (c ∈ y.cps.toList)
def spHasOnly : Sp := fun vs H Q _ => ∃ x y : Str, vs = [.str x, .str y] ∧ x.length ≤ 1000000 ∧ ∀ H' : Hp, Same H H' → Q (.bl (only x y)) H'
def spIsWord (K : PySem.W.Frag) : Sp := fun vs H Q _ => ∃ (v : V) (t : Value) (b : Bool), vs = [v] ∧ TyX K H v t ∧ PySem.W.kitOne K t (.type "str") = some b ∧
  (b = false → Q (.bl false) H) ∧ (b = true → ∃ x : Str, v = .str x ∧ x.length ≤ 1000000 ∧ ∀ H' : Hp, Same H H' → Q (.bl (only x "abcdefghijklmnopqrstuvwxyz")) H')
theorem Same.new {H H1 : Hp} {p : Addr} {u : HO} (s : Same H H1) (hp : H1 p = none) : Same H (upd H1 p u) := fun b o h => keep_new (s b o h) hp
section
variable {P : Program} {w : World} {K : PySem.W.Frag} {mg : Str → Option Value} {base : Heap}
theorem ok_between {f : Addr} {fd : FuncData} (F : Fun K "is_between" "is_between" sBetween f fd) (W : TxW mg) : FnOk P w K mg base CX0 1 f fd ["value", "low", "high"] (spBetween K) := by
  refine F.ok scBetween (fun vs H Q E h => ?_) (fun cdv A outer s H vs Q E hr h => ?_)
  · obtain ⟨v, lo, hi, t, bb, bi, rfl, _⟩ := h
    rfl
  · obtain ⟨v, lo, hi, t, bb, bi, rfl, ty, k1, k2, q1, q2, q3⟩ := h
    refine ⟨_, pss_cons (ps_if (PW.pt (pw_or (pt_val (pe_callB call_isi (by rfl) W.isi (by decide +kernel) (pa_cons (pv 0) (pa_cons (pe_bltn (v := .ty "bool") rfl W.bool boot_bool' rfl) pa_nil)))) (pw_or1 (pt_not (pt_val (pe_callB call_isi (by rfl) W.isi (by decide +kernel) (pa_cons (pv 0) (pa_cons (pe_bltn (v := .ty "int") rfl W.int boot_int' rfl) pa_nil)))))))) (pss_one (ps_ret pe_bl)) pss_nil)
      (pss_one (ps_ret (pe_chain op_le op_le (pv 1) (pv 0) (pv 2)))), ?_⟩
    refine ⟨_, rfl, v, .ty "bool", t, .type "bool", bb, rfl, .ty _, ty, k1, _, rfl, ?_⟩
    cases bb with
    | true => exact iteT (iteT (q1 rfl))
    | false =>
      refine iteF ?_
      refine ⟨_, rfl, v, .ty "int", t, .type "int", bi, rfl, .ty _, ty, k2, _, rfl, ?_⟩
      cases bi with
      | false => exact iteT (q2 rfl rfl)
      | true =>
        obtain ⟨i, rfl, q⟩ := q3 rfl rfl
        refine iteF ?_
        refine ⟨_, rfl, _, rfl, _, _, rfl, rfl, _, rfl, ?_⟩
        by_cases h1 : lo ≤ i
        · rw [decide_eq_true h1] at q ⊢
          exact iteT ⟨_, rfl, _, _, rfl, rfl, q⟩
        · rw [decide_eq_false h1] at q ⊢
          exact iteF q
theorem ok_hasonly {f : Addr} {fd : FuncData} (F : Fun K "has_only" "has_only" sHasOnly f fd) (W : TxW mg) : FnOk P w K mg base CX0 1 f fd ["word", "letters"] spHasOnly := by
  refine F.ok scHasOnly (fun vs H Q E h => ?_) (fun cdv A outer s H vs Q E hr h => ?_)
  · obtain ⟨x, y, rfl, _⟩ := h
    rfl
  · obtain ⟨x, y, rfl, hx, k⟩ := h
    refine ⟨_, pss_one (ps_ret (pe_callB (cr_all rfl) (by rfl) W.all (by decide +kernel) (pa_cons (pe_lc (own := [("letter", 2)]) (g := gName 2) (tt := tYes) rfl scHasOnly.nd (pi_str (pv 0)) (blkOk_by (N := ["word", "letters", "letter"]) (sc := defScope sHasOnly) (by decide +kernel)) (fun _ _ _ _ _ => pg_name (i := 2) scHasOnly.nd rfl (Or.inl rfl)) (fun _ _ _ _ _ => pts_nil)
      (fun _ _ _ _ _ => pe_cmpR op_in_sign (pv 2) (pv 1) rfl)) pa_nil))), ?_⟩
    refine ⟨_, rfl, x, rfl, fun C nC => ?_⟩
    refine lc_it walk_str (fun j H9 => H9 C = some (.lst (((x.cps.toList.take j).map fun c => decide (c ∈ y.cps.toList)).map V.bl)) ∧ ∀ b o, b ≠ C → H b = some o → H9 b = some o)
      ⟨upd_same, fun b o hb h => keep_new h nC⟩ (fun _ _ _ _ => trivial) ?_ ?_
    · rintro i v H9 H9' hi ⟨h1, h2⟩ ⟨rfl, c, hc, rfl⟩
      refine ⟨rfl, tYes_if ?_⟩
      have hc' : x.cps.toList[i]? = some c := by simpa using hc
      refine ⟨_, rfl, _, rfl, c, y, rfl, rfl, _, h1, ?_, ?_, fun b o hb h => by rw [upd_ne hb]; exact h2 b o hb h⟩
      · rw [List.length_map, List.length_map, List.length_take]
        have : x.cps.toList.length = x.length := by simp [Str.length]
        have l : sizeLine = 16777216 := sizeLine_eq
        omega
      · rw [upd_same, take_snoc hc', List.map_append, List.map_append]
        rfl
    · rintro H9 ⟨h1, h2⟩
      have et : x.cps.toList.take x.cps.size = x.cps.toList := List.take_of_length_le (by simp)
      rw [et] at h1
      refine ⟨C, _, rfl, SqL.of h1, ?_⟩
      have e : (x.cps.toList.map fun c => decide (c ∈ y.cps.toList)).all id = only x y := by
        unfold only
        rw [List.all_map]
        rfl
      rw [e]
      exact k _ fun b o h => h2 b o (fun z => by rw [z, nC] at h; cases h) h
theorem ok_isword {f g : Addr} {fd gd : FuncData} (F : Fun K "is_word" "is_word" sIsWord f fd) (G : Fun K "has_only" "has_only" sHasOnly g gd) (bG : Binds K gd ["word", "letters"] []) (mG : mg "has_only" = some (.ref g)) (W : TxW mg) : FnOk P w K mg base CX0 2 f fd ["value"] (spIsWord K) := by
  have GH : FnOk P w K mg base CX0 1 g gd ["word", "letters"] spHasOnly := ok_hasonly G W
  obtain ⟨ta, al⟩ := W.alpha
  refine F.ok scIsWord (fun vs H Q E h => ?_) (fun cdv A outer s H vs Q E hr h => ?_)
  · obtain ⟨v, t, b, rfl, _⟩ := h
    rfl
  · obtain ⟨v, t, b, rfl, ty, k1, q1, q2⟩ := h
    refine ⟨_, pss_cons (ps_if (pt_not (pt_val (pe_callB call_isi (by rfl) W.isi (by decide +kernel) (pa_cons (pv 0) (pa_cons (pe_bltn (v := .ty "str") rfl W.str boot_str' rfl) pa_nil))))) (pss_one (ps_ret pe_bl)) pss_nil)
      (pss_one (ps_ret (pe_call GH hr rfl mG G.kp bG .nil pass0 (pa_cons (pv 0) (pa_cons (pe_glob (v := .str "abcdefghijklmnopqrstuvwxyz") rfl al ⟨_, rfl⟩) pa_nil))))), ?_⟩
    refine ⟨_, rfl, v, .ty "str", t, .type "str", b, rfl, .ty _, ty, k1, _, rfl, ?_⟩
    cases b with
    | false => exact iteT (q1 rfl)
    | true =>
      obtain ⟨x, rfl, hx, q⟩ := q2 rfl
      refine iteF ?_
      exact ⟨_, rfl, x, _, rfl, hx, q⟩
end
end M3

set_option Elab.async false
set_option linter.all false
set_option maxRecDepth 100000
set_option maxHeartbeats 8000000
/-! # Sets of letters -/
namespace M3
open PySem L2
abbrev sIsLetters : Stmt := top 14
abbrev nIsLetters : List Str := ["value", "low", "high"]
theorem scIsLetters : FnScope nIsLetters ["value"] (defScope sIsLetters) := ⟨rfl, rfl, rfl, by decide +kernel, rfl, by decide +kernel, by decide +kernel⟩
structure TxZ (mg : Str → Option Value) : Prop where
  zip : mg "zip" = none
  len : mg "len" = none
  maxL : ∃ t, mg "MAX_LETTERS" = some (.int 2 t)
/-- each sign is ahead of the next one -/
def ups (x : Str) : List Bool := (x.cps.toList.zip (x.cps.toList.drop 1)).map fun p => decide ([p.1] < [p.2])
def isLet (x : Str) : Bool := only x "abcdefghijklmnopqrstuvwxyz" && (decide (1 ≤ x.length) && (decide (x.length ≤ 2) && (ups x).all id))
def spIsLetters (K : PySem.W.Frag) : Sp := fun vs H Q _ => ∃ (v : V) (t : Value) (b : Bool), vs = [v] ∧ TyX K H v t ∧ PySem.W.kitOne K t (.type "str") = some b ∧
  (b = false → Q (.bl false) H) ∧ (b = true → ∃ x : Str, v = .str x ∧ x.length ≤ 1000000 ∧ ∀ H' : Hp, Same H H' → Q (.bl (isLet x)) H')
theorem cut1 (x : Str) : cutS x (some 1) none = ⟨(x.cps.toList.drop 1).toArray⟩ := by
  unfold cutS
  have e : HT.sIx x.length 0 (some ((1 : Nat) : Int)) = min 1 x.length := HT.sIx_nat _ _ _
  have e' : HT.sIx x.length 0 (some 1) = min 1 x.length := e
  rw [e', HT.sIx_none]
  have l : x.cps.toList.length = x.length := by simp [Str.length]
  congr 2
  by_cases h : x.length = 0
  · have z : x.cps.toList = [] := List.eq_nil_of_length_eq_zero (by omega)
    rw [z]
    simp
  · have m : min 1 x.length = 1 := by omega
    rw [m]
    exact List.take_of_length_le (by rw [List.length_drop]; omega)
theorem zip_at {α : Type} {l : List α} {i : Nat} {a b : α} (h1 : l[i]? = some a) (h2 : (l.drop 1)[i]? = some b) : (l.zip (l.drop 1))[i]? = some (a, b) := by
  rw [List.getElem?_zip_eq_some]
  exact ⟨h1, h2⟩
section
variable {P : Program} {w : World} {K : PySem.W.Frag} {mg : Str → Option Value} {base : Heap}
/-- the facts of the defs of words -/
structure DefsW (K : PySem.W.Frag) (mg : Str → Option Value) where
  (fB fW fO : Addr)
  (dB dW dO : FuncData)
  B : Fun K "is_between" "is_between" sBetween fB dB
  bB : Binds K dB ["value", "low", "high"] []
  mB : mg "is_between" = some (.ref fB)
  W : Fun K "is_word" "is_word" sIsWord fW dW
  bW : Binds K dW ["value"] []
  mW : mg "is_word" = some (.ref fW)
  O : Fun K "has_only" "has_only" sHasOnly fO dO
  bO : Binds K dO ["word", "letters"] []
  mO : mg "has_only" = some (.ref fO)
theorem ok_isletters {f : Addr} {fd : FuncData} (F : Fun K "is_letters" "is_letters" sIsLetters f fd) (D : DefsW K mg) (W : TxW mg) (Zx : TxZ mg) : FnOk P w K mg base CX0 3 f fd ["value"] (spIsLetters K) := by
  have GW : FnOk P w K mg base CX0 2 D.fW D.dW ["value"] (spIsWord K) := ok_isword D.W D.O D.bO D.mO W
  obtain ⟨tm, ml⟩ := Zx.maxL
  refine F.ok scIsLetters (fun vs H Q E h => ?_) (fun cdv A outer s H vs Q E hr h => ?_)
  · obtain ⟨v, t, b, rfl, _⟩ := h
    rfl
  · obtain ⟨v, t, b, rfl, ty, k1, q1, q2⟩ := h
    have hr2 : Room 2 _ := hr.mono (by decide)
    refine ⟨_, pss_cons (ps_if (PW.pt (pw_or (pt_not (pt_val (pe_call GW hr2 rfl D.mW D.W.kp D.bW .nil pass0 (pa_cons (pv 0) pa_nil)))) (pw_or1 (pt_not (pt_chain op_le op_le pe_int (pe_callB call_len_str (by rfl) Zx.len PySem.boot_len (pa_cons (pv 0) pa_nil)) (pe_glob (v := .int 2) rfl ml ⟨_, rfl⟩)))))) (pss_one (ps_ret pe_bl)) pss_nil)
      (pss_one (ps_ret (pe_callB (cr_all rfl) (by rfl) W.all (by decide +kernel) (pa_cons (pe_lc (own := [("low", 1), ("high", 2)]) (g := gTup K 2 (gCons (gName 1) (gCons (gName 2) gNil))) (tt := tYes) rfl scIsLetters.nd (NvZ.pi_zipS rfl Zx.zip (pa_cons (pv 0) (pa_cons (pe_slice sl_str (pv 0) (po_some pe_int) po_none) pa_nil))) (blkOk_by (N := nIsLetters) (sc := defScope sIsLetters) (by decide +kernel))
        (fun _ _ _ _ _ => pg_tup rfl (pgs_cons (pg_name (i := 1) scIsLetters.nd rfl (Or.inl rfl)) (pgs_cons (pg_name (i := 2) scIsLetters.nd rfl (Or.inl rfl)) pgs_nil))) (fun _ _ _ _ _ => pts_nil) (fun _ _ _ _ _ => pe_cmpR op_lt_str (pv 1) (pv 2) (nomark _))) pa_nil)))), ?_⟩
    refine ⟨_, rfl, v, t, b, rfl, ty, k1, fun e => ⟨_, rfl, ?_⟩, fun e => ?_⟩
    · exact iteT (iteT (q1 e))
    · obtain ⟨x, rfl, hx, q⟩ := q2 e
      refine ⟨x, rfl, hx, fun H1 s1 => ?_⟩
      unfold isLet at q
      refine ⟨_, rfl, ?_⟩
      cases h1 : only x "abcdefghijklmnopqrstuvwxyz" with
      | false =>
        rw [h1] at q
        exact iteT (iteT (q H1 s1))
      | true =>
        rw [h1] at q
        refine iteF ?_
        have hz : x.length ≤ sizeLine := Nat.le_trans hx (by rw [sizeLine_eq]; decide)
        refine ⟨_, rfl, x, rfl, hz, _, _, rfl, rfl, _, rfl, ?_⟩
        have e1 : decide ((1 : Int) ≤ (x.length : Int)) = decide (1 ≤ x.length) := by
          by_cases h : 1 ≤ x.length
          · rw [decide_eq_true h, decide_eq_true (by omega)]
          · rw [decide_eq_false h, decide_eq_false (by omega)]
        have e2 : decide ((x.length : Int) ≤ 2) = decide (x.length ≤ 2) := by
          by_cases h : x.length ≤ 2
          · rw [decide_eq_true h, decide_eq_true (by omega)]
          · rw [decide_eq_false h, decide_eq_false (by omega)]
        rw [e1]
        cases h2 : decide (1 ≤ x.length) with
        | false =>
          rw [h2] at q
          exact iteF ⟨_, rfl, iteT (q H1 s1)⟩
        | true =>
          rw [h2] at q
          refine iteT ⟨_, _, rfl, rfl, _, rfl, ?_⟩
          rw [e2]
          cases h3 : decide (x.length ≤ 2) with
          | false =>
            rw [h3] at q
            exact iteT (q H1 s1)
          | true =>
            rw [h3] at q
            refine iteF ?_
            refine ⟨_, rfl, _, rfl, 1, rfl, x, rfl, hz, x, _, rfl, ?_⟩
            rw [cut1]
            intro C nC
            have lu : (ups x).length = min x.cps.size (⟨(x.cps.toList.drop 1).toArray⟩ : Str).cps.size := by
              unfold ups
              rw [List.length_map, List.length_zip]
              simp
            refine lc_it NvZ.walk_zipS (fun j H9 => H9 C = some (.lst (((ups x).take j).map V.bl)) ∧ ∀ b o, b ≠ C → H1 b = some o → H9 b = some o)
              ⟨upd_same, fun b o hb h => keep_new h nC⟩ (fun _ _ _ _ => trivial) ?_ ?_
            · rintro i v H9 H9' hi ⟨h1, h2⟩ ⟨T', a, b, rfl, nT, rfl, ha, hb⟩
              refine ⟨T', _, rfl, SqT.of upd_same, rfl, _, _, rfl, _, _, rfl, rfl, rfl, tYes_if ?_⟩
              have hu : (ups x)[i]? = some (decide ([a] < [b])) := by
                unfold ups
                rw [List.getElem?_map, zip_at (l := x.cps.toList) (by simpa using ha) (by simpa using hb)]
                rfl
              refine ⟨_, rfl, _, rfl, _, _, rfl, rfl, _, keep_new h1 nT, ?_, ?_, fun b' o hb' h => by rw [upd_ne hb']; exact keep_new (h2 b' o hb' h) nT⟩
              · rw [List.length_map, List.length_take]
                have : (ups x).length ≤ x.cps.size := by rw [lu]; exact Nat.min_le_left _ _
                have l : sizeLine = 16777216 := sizeLine_eq
                have : x.cps.size ≤ 1000000 := hx
                omega
              · rw [upd_same, take_snoc hu, List.map_append]
                rfl
            · rintro H9 ⟨h1, h2⟩
              rw [← lu, List.take_length] at h1
              refine ⟨C, _, rfl, SqL.of h1, q H9 fun b o h => h2 b o (fun z => ?_) (s1 _ _ h)⟩
              rw [z] at h
              have := s1 _ _ h
              rw [nC] at this
              cases this
end
end M3

set_option Elab.async false
set_option linter.all false
set_option maxRecDepth 100000
set_option maxHeartbeats 8000000
/-! # Lines, tables, choices -/
namespace M3
open PySem L2
abbrev sIsTable : Stmt := top 17
abbrev sIsLine : Stmt := top 18
abbrev sIsChoice : Stmt := top 19
abbrev nIsTable : List Str := ["value", "width", "most", "line"]
abbrev nIsLine : List Str := ["value", "width", "size", "goal"]
abbrev nIsChoice : List Str := ["value", "size", "state", "low", "high"]
theorem scIsTable : FnScope nIsTable ["value", "width", "most"] (defScope sIsTable) := ⟨rfl, rfl, rfl, by decide +kernel, rfl, by decide +kernel, by decide +kernel⟩
theorem scIsLine : FnScope nIsLine ["value", "width", "size"] (defScope sIsLine) := ⟨rfl, rfl, rfl, by decide +kernel, rfl, by decide +kernel, by decide +kernel⟩
theorem scIsChoice : FnScope nIsChoice ["value", "size"] (defScope sIsChoice) := ⟨rfl, rfl, rfl, by decide +kernel, rfl, by decide +kernel, by decide +kernel⟩
theorem ty_tup {K : PySem.W.Frag} {H : Hp} {a : Addr} {xs : List V} (h : SqT K H a xs) : TyX K H (.ref a) (.type "tuple") := by
  rcases h with (h | ⟨o, h⟩) | ⟨o, _, _, h, c, _⟩
  · exact .base (.tup h)
  · exact .fTuple h
  · exact .kTuple h c
theorem sqt_same {K : PySem.W.Frag} {a : Addr} {H H' : Hp} {xs : List V} (s : Same H H') (h : SqT K H a xs) : SqT K H' a xs := by
  rcases h with (h | ⟨o, h⟩) | h
  · exact .inl (.inl (s _ _ h))
  · exact .inl (.inr ⟨o, s _ _ h⟩)
  · exact .inr h
def inside (n i : Int) : Bool := decide (0 ≤ i) && decide (i ≤ n - 1)
/-- a tuple of integers is handed in -/
def spIsLine (K : PySem.W.Frag) : Sp := fun vs H Q _ => ∃ (a : Addr) (xs : List Int) (w n : Int), vs = [.ref a, .int w, .int n] ∧ SqT K H a (xs.map V.int) ∧ xs.length ≤ 1000000 ∧ ∀ H' : Hp, Same H H' → Q (.bl (decide ((xs.length : Int) = w) && xs.all (inside n))) H'
section
variable {P : Program} {w : World} {K : PySem.W.Frag} {mg : Str → Option Value} {base : Heap}
theorem kit_tup : PySem.W.kitOne K (.type "tuple") (.type "tuple") = some true := kit_ty (by decide +kernel)
theorem kit_int_bool : PySem.W.kitOne K (.type "int") (.type "bool") = some false := kit_ty (by decide +kernel)
theorem kit_int_int : PySem.W.kitOne K (.type "int") (.type "int") = some true := kit_ty (by decide +kernel)
theorem ok_isline {f : Addr} {fd : FuncData} (F : Fun K "is_line" "is_line" sIsLine f fd) (D : DefsW K mg) (W : TxW mg) (Zx : TxZ mg) : FnOk P w K mg base CX0 2 f fd ["value", "width", "size"] (spIsLine K) := by
  have GB : FnOk P w K mg base CX0 1 D.fB D.dB ["value", "low", "high"] (spBetween K) := ok_between D.B W
  refine F.ok scIsLine (fun vs H Q E h => ?_) (fun cdv A outer s H vs Q E hr h => ?_)
  · obtain ⟨a, xs, w', n, rfl, _⟩ := h
    rfl
  · obtain ⟨a, xs, w', n, rfl, ha, hx, k⟩ := h
    refine ⟨_, pss_cons (ps_if (PW.pt (pw_or (pt_not (pt_val (pe_callB call_isi (by rfl) W.isi (by decide +kernel) (pa_cons (pv 0) (pa_cons (pe_bltn (v := .ty "tuple") rfl W.tuple boot_tuple' rfl) pa_nil))))) (pw_or1 (pt_cmpR op_ne (pe_callB call_len_seq (by rfl) Zx.len PySem.boot_len (pa_cons (pv 0) pa_nil)) (pv 1) (nomark _))))) (pss_one (ps_ret pe_bl)) pss_nil)
      (pss_one (ps_ret (pe_callB (cr_all rfl) (by rfl) W.all (by decide +kernel) (pa_cons (pe_lc (own := [("goal", 3)]) (g := gName 3) (tt := tYes) rfl scIsLine.nd (pi_tup (pv 0)) (blkOk_by (N := nIsLine) (sc := defScope sIsLine) (by decide +kernel)) (fun _ _ _ _ _ => pg_name (i := 3) scIsLine.nd rfl (Or.inl rfl)) (fun _ _ _ _ _ => pts_nil)
        (fun _ _ _ _ _ => pe_call GB hr rfl D.mB D.B.kp D.bB .nil pass0 (pa_cons (pv 3) (pa_cons pe_int (pa_cons (pe_op op_sub (pv 2) pe_int) pa_nil))))) pa_nil)))), ?_⟩
    refine ⟨_, rfl, .ref a, .ty "tuple", _, .type "tuple", true, rfl, .ty _, ty_tup ha, kit_tup, _, rfl, ?_⟩
    refine iteF ?_
    refine ⟨_, rfl, a, _, rfl, .inr ha, _, rfl, rfl, _, rfl, ?_⟩
    have e1 : (!decide (V.int ((xs.map V.int).length : Int) = V.int w')) = !decide ((xs.length : Int) = w') := by
      rw [List.length_map]
      by_cases h : (xs.length : Int) = w'
      · rw [decide_eq_true h, decide_eq_true (by rw [h])]
      · rw [decide_eq_false h, decide_eq_false (fun z => h (by injection z))]
    rw [e1]
    cases h1 : decide ((xs.length : Int) = w') with
    | false =>
      rw [h1] at k
      exact iteT (k H (Same.refl H))
    | true =>
      rw [h1] at k
      refine iteF ?_
      refine ⟨_, rfl, a, rfl, ⟨_, ha⟩, fun C nC => ?_⟩
      refine lc_it (walk_tup (K := K) (a := a) (xs := xs.map V.int)) (fun j H9 => H9 C = some (.lst (((xs.take j).map (inside n)).map V.bl)) ∧ Same H H9 ∧ H C = none)
        ⟨upd_same, Same.new (Same.refl H) nC, nC⟩ (fun i H9 _ ⟨_, z, _⟩ => sqt_same z ha) ?_ ?_
      · rintro i v H9 H9' hi ⟨q1, q2, _⟩ ⟨rfl, hv⟩
        refine ⟨rfl, tYes_if ?_⟩
        rw [List.getElem?_map] at hv
        cases e : xs[i]? with
        | none =>
          rw [e] at hv
          cases hv
        | some y =>
          rw [e] at hv
          cases hv
          refine ⟨_, rfl, _, rfl, _, _, rfl, rfl, .int y, 0, n - 1, .type "int", false, true, rfl, .base (.int y), kit_int_bool, kit_int_int, (fun z => by cases z), (fun _ z => by cases z), fun _ _ => ⟨y, rfl, ?_⟩⟩
          refine ⟨_, q1, ?_, ?_, fun b o h => ?_, nC⟩
          · rw [List.length_map, List.length_map, List.length_take]
            have l : sizeLine = 16777216 := sizeLine_eq
            omega
          · rw [upd_same, take_snoc e, List.map_append, List.map_append]
            rfl
          · rw [upd_ne (fun z => by rw [z, nC] at h; cases h)]
            exact q2 b o h
      · rintro H9 ⟨q1, q2, _⟩
        have et : xs.take (xs.map V.int).length = xs := by
          rw [List.length_map]
          exact List.take_length
        rw [et] at q1
        refine ⟨C, _, rfl, SqL.of q1, ?_⟩
        rw [List.all_map]
        exact k H9 q2
end
end M3

set_option Elab.async false
set_option linter.all false
set_option maxRecDepth 100000
set_option maxHeartbeats 8000000
/-! # Tables judged -/
namespace M3
open PySem L2
/-- tuples of integers stand at these addresses -/
def Lines (K : PySem.W.Frag) (H : Hp) (us : List V) (t : List (List Int)) : Prop := us.length = t.length ∧ ∀ (i : Nat) (r : List Int), t[i]? = some r → ∃ b : Addr, us[i]? = some (V.ref b) ∧ SqT K H b (r.map V.int) ∧ r.length ≤ 1000
theorem Lines.same {K : PySem.W.Frag} {H H' : Hp} {us : List V} {t : List (List Int)} (h : Lines K H us t) (s : Same H H') : Lines K H' us t := ⟨h.1, fun i r e => by
  obtain ⟨b, h1, h2, h3⟩ := h.2 i r e
  exact ⟨b, h1, sqt_same s h2, h3⟩⟩
def tabOk (t : List (List Int)) (w m : Int) : Bool := decide (1 ≤ (t.length : Int)) && (decide ((t.length : Int) ≤ m) && t.all fun r => decide ((r.length : Int) = w) && r.all (inside t.length))
def spIsTable (K : PySem.W.Frag) : Sp := fun vs H Q _ => ∃ (a : Addr) (us : List V) (t : List (List Int)) (w m : Int), vs = [.ref a, .int w, .int m] ∧ SqT K H a us ∧ Lines K H us t ∧ t.length ≤ 1000000 ∧ ∀ H' : Hp, Same H H' → Q (.bl (tabOk t w m)) H'
section
variable {P : Program} {w : World} {K : PySem.W.Frag} {mg : Str → Option Value} {base : Heap}
theorem ok_istable {f g : Addr} {fd gd : FuncData} (F : Fun K "is_table" "is_table" sIsTable f fd) (G : Fun K "is_line" "is_line" sIsLine g gd) (bG : Binds K gd ["value", "width", "size"] []) (mG : mg "is_line" = some (.ref g)) (D : DefsW K mg) (W : TxW mg) (Zx : TxZ mg) :
    FnOk P w K mg base CX0 3 f fd ["value", "width", "most"] (spIsTable K) := by
  have GL : FnOk P w K mg base CX0 2 g gd ["value", "width", "size"] (spIsLine K) := ok_isline G D W Zx
  refine F.ok scIsTable (fun vs H Q E h => ?_) (fun cdv A outer s H vs Q E hr h => ?_)
  · obtain ⟨a, us, t, w', m, rfl, _⟩ := h
    rfl
  · obtain ⟨a, us, t, w', m, rfl, ha, hL, ht, k⟩ := h
    refine ⟨_, pss_cons (ps_if (PW.pt (pw_or (pt_not (pt_val (pe_callB call_isi (by rfl) W.isi (by decide +kernel) (pa_cons (pv 0) (pa_cons (pe_bltn (v := .ty "tuple") rfl W.tuple boot_tuple' rfl) pa_nil))))) (pw_or1 (pt_not (pt_chain op_le op_le pe_int (pe_callB call_len_seq (by rfl) Zx.len PySem.boot_len (pa_cons (pv 0) pa_nil)) (pv 2)))))) (pss_one (ps_ret pe_bl)) pss_nil)
      (pss_one (ps_ret (pe_callB (cr_all rfl) (by rfl) W.all (by decide +kernel) (pa_cons (pe_lc (own := [("line", 3)]) (g := gName 3) (tt := tYes) (te := tCall (spIsLine K) [] E0 (tCons (tVar 3) (tCons (tVar 1) (tCons (tCB (fun xs H Q => ∃ p ys, xs = [V.ref p] ∧ (SqL K H p ys ∨ SqT K H p ys) ∧ Q (V.int ys.length) H) (tCons (tVar 0) tNil)) tNil)))) rfl scIsTable.nd (pi_tup (pv 0)) (blkOk_by (N := nIsTable) (sc := defScope sIsTable) (by decide +kernel)) (fun _ _ _ _ _ => pg_name (i := 3) scIsTable.nd rfl (Or.inl rfl)) (fun _ _ _ _ _ => pts_nil)
        (fun _ _ _ _ _ => pe_call GL hr rfl mG G.kp bG .nil pass0 (pa_cons (pv 3) (pa_cons (pv 1) (pa_cons (pe_callB call_len_seq (by rfl) Zx.len PySem.boot_len (pa_cons (pv 0) pa_nil)) pa_nil))))) pa_nil)))), ?_⟩
    have lu : us.length = t.length := hL.1
    refine ⟨_, rfl, .ref a, .ty "tuple", _, .type "tuple", true, rfl, .ty _, ty_tup ha, kit_tup, _, rfl, ?_⟩
    refine iteF ?_
    refine ⟨_, rfl, a, _, rfl, .inr ha, _, _, rfl, rfl, _, rfl, ?_⟩
    rw [lu]
    unfold tabOk at k
    cases h1 : decide (1 ≤ (t.length : Int)) with
    | false =>
      rw [h1] at k
      exact iteF ⟨_, rfl, iteT (k H (Same.refl H))⟩
    | true =>
      rw [h1] at k
      refine iteT ⟨_, rfl, _, _, rfl, rfl, _, rfl, ?_⟩
      cases h2 : decide ((t.length : Int) ≤ m) with
      | false =>
        rw [h2] at k
        exact iteT (k H (Same.refl H))
      | true =>
        rw [h2] at k
        refine iteF ?_
        refine ⟨_, rfl, a, rfl, ⟨_, ha⟩, fun C nC => ?_⟩
        refine lc_it (walk_tup (K := K) (a := a) (xs := us)) (fun j H9 => H9 C = some (.lst (((t.take j).map fun r => decide ((r.length : Int) = w') && r.all (inside t.length)).map V.bl)) ∧ Same H H9)
          ⟨upd_same, Same.new (Same.refl H) nC⟩ (fun i H9 _ ⟨_, z⟩ => sqt_same z ha) ?_ ?_
        · rintro i v H9 H9' hi ⟨q1, q2⟩ ⟨rfl, hv⟩
          refine ⟨rfl, tYes_if ?_⟩
          have hi' : i < t.length := by rw [← lu]; exact hi
          obtain ⟨b, b1, b2, b3⟩ := hL.2 i t[i] (List.getElem?_eq_getElem hi')
          have ev : v = .ref b := Option.some.inj (hv.symm.trans b1)
          subst ev
          refine ⟨_, rfl, _, rfl, _, rfl, a, us, rfl, .inr (sqt_same q2 ha), b, t[i], w', (us.length : Int), rfl, sqt_same q2 b2, Nat.le_trans b3 (by decide), fun H3 s3 => ?_⟩
          rw [lu]
          refine ⟨_, s3 _ _ q1, ?_, ?_, fun b' o h => ?_⟩
          · rw [List.length_map, List.length_map, List.length_take]
            have l : sizeLine = 16777216 := sizeLine_eq
            omega
          · rw [upd_same, take_snoc (List.getElem?_eq_getElem hi'), List.map_append, List.map_append]
            rfl
          · rw [upd_ne (fun z => by rw [z, nC] at h; cases h)]
            exact s3 _ _ (q2 b' o h)
        · rintro H9 ⟨q1, q2⟩
          have et : t.take us.length = t := by
            rw [lu]
            exact List.take_length
          rw [et] at q1
          refine ⟨C, _, rfl, SqL.of q1, ?_⟩
          rw [List.all_map]
          exact k H9 q2
end
end M3

set_option Elab.async false
set_option linter.all false
set_option maxRecDepth 100000
set_option maxHeartbeats 8000000
/-! # Choices judged -/
namespace M3
open PySem L2
theorem walk_zT {K : PySem.W.Frag} {a b : Addr} {xs ys : List V} {n : Nat} (hn : n = min xs.length ys.length) :
    Walk (RZ.ItzT K a b) n (fun H => SqT K H a xs ∧ SqT K H b ys) (YPair (fun i => xs[i]?) (fun i => ys[i]?)) where
  goes := fun i H hi q => by
    have h1 : i < xs.length := by omega
    have h2 : i < ys.length := by omega
    refine ⟨xs, ys, _, _, q.1, q.2, List.getElem?_eq_getElem h1, List.getElem?_eq_getElem h2⟩
  stops := fun H q => by
    refine ⟨xs, ys, q.1, q.2, ?_⟩
    omega
  yields := fun i H v H' hi q y => by
    obtain ⟨T, c, e, h1, h2, h3, h4, h5⟩ := y
    exact ⟨T, c, e, h1, h2, h3, h4 xs q.1, h5 ys q.2⟩
def climbs (xs : List Int) : List Bool := (xs.zip (xs.drop 1)).map fun p => decide (p.1 < p.2)
def choiceOk (xs : List Int) (n : Int) : Bool := xs.all (inside n) && (climbs xs).all id
def spIsChoice (K : PySem.W.Frag) : Sp := fun vs H Q _ => ∃ (a : Addr) (xs : List Int) (n : Int), vs = [.ref a, .int n] ∧ SqT K H a (xs.map V.int) ∧ xs.length ≤ 1000000 ∧ ∀ H' : Hp, Same H H' → Q (.bl (choiceOk xs n)) H'
section
variable {P : Program} {w : World} {K : PySem.W.Frag} {mg : Str → Option Value} {base : Heap}
theorem ok_ischoice {f : Addr} {fd : FuncData} (F : Fun K "is_choice" "is_choice" sIsChoice f fd) (D : DefsW K mg) (W : TxW mg) (Zx : TxZ mg) : FnOk P w K mg base CX0 2 f fd ["value", "size"] (spIsChoice K) := by
  have GB : FnOk P w K mg base CX0 1 D.fB D.dB ["value", "low", "high"] (spBetween K) := ok_between D.B W
  refine F.ok scIsChoice (fun vs H Q E h => ?_) (fun cdv A outer s H vs Q E hr h => ?_)
  · obtain ⟨a, xs, n, rfl, _⟩ := h
    rfl
  · obtain ⟨a, xs, n, rfl, ha, hx, k⟩ := h
    refine ⟨_, pss_cons (ps_if (pt_not (pt_val (pe_callB call_isi (by rfl) W.isi (by decide +kernel) (pa_cons (pv 0) (pa_cons (pe_bltn (v := .ty "tuple") rfl W.tuple boot_tuple' rfl) pa_nil))))) (pss_one (ps_ret pe_bl)) pss_nil)
      (pss_cons (ps_if (pt_not (pt_val (pe_callB (cr_all rfl) (by rfl) W.all (by decide +kernel) (pa_cons (pe_lc (own := [("state", 2)]) (g := gName 2) (tt := tYes) rfl scIsChoice.nd (pi_tup (pv 0)) (blkOk_by (N := nIsChoice) (sc := defScope sIsChoice) (by decide +kernel)) (fun _ _ _ _ _ => pg_name (i := 2) scIsChoice.nd rfl (Or.inl rfl)) (fun _ _ _ _ _ => pts_nil)
        (fun _ _ _ _ _ => pe_call GB hr rfl D.mB D.B.kp D.bB .nil pass0 (pa_cons (pv 2) (pa_cons pe_int (pa_cons (pe_op op_sub (pv 1) pe_int) pa_nil))))) pa_nil)))) (pss_one (ps_ret pe_bl)) pss_nil)
      (pss_one (ps_ret (pe_callB (cr_all rfl) (by rfl) W.all (by decide +kernel) (pa_cons (pe_lc (own := [("low", 3), ("high", 4)]) (g := gTup K 2 (gCons (gName 3) (gCons (gName 4) gNil))) (tt := tYes) rfl scIsChoice.nd (RZ.pi_zipA rfl Zx.zip (pa_cons (pv 0) (pa_cons (pe_slice sl_tupA (pv 0) (po_some pe_int) po_none) pa_nil))) (blkOk_by (N := nIsChoice) (sc := defScope sIsChoice) (by decide +kernel))
        (fun _ _ _ _ _ => pg_tup rfl (pgs_cons (pg_name (i := 3) scIsChoice.nd rfl (Or.inl rfl)) (pgs_cons (pg_name (i := 4) scIsChoice.nd rfl (Or.inl rfl)) pgs_nil))) (fun _ _ _ _ _ => pts_nil) (fun _ _ _ _ _ => pe_cmpR op_lt (pv 3) (pv 4) (nomark _))) pa_nil))))), ?_⟩
    refine ⟨_, rfl, .ref a, .ty "tuple", _, .type "tuple", true, rfl, .ty _, ty_tup ha, kit_tup, _, rfl, ?_⟩
    refine iteF ?_
    refine ⟨_, rfl, a, rfl, ⟨_, ha⟩, fun C nC => ?_⟩
    refine lc_it (walk_tup (K := K) (a := a) (xs := xs.map V.int)) (fun j H9 => H9 C = some (.lst (((xs.take j).map (inside n)).map V.bl)) ∧ Same H H9)
      ⟨upd_same, Same.new (Same.refl H) nC⟩ (fun i H9 _ ⟨_, z⟩ => sqt_same z ha) ?_ ?_
    · rintro i v H9 H9' hi ⟨q1, q2⟩ ⟨rfl, hv⟩
      refine ⟨rfl, tYes_if ?_⟩
      rw [List.getElem?_map] at hv
      cases e : xs[i]? with
      | none =>
        rw [e] at hv
        cases hv
      | some y =>
        rw [e] at hv
        cases hv
        refine ⟨_, rfl, _, rfl, _, _, rfl, rfl, .int y, 0, n - 1, .type "int", false, true, rfl, .base (.int y), kit_int_bool, kit_int_int, (fun z => by cases z), (fun _ z => by cases z), fun _ _ => ⟨y, rfl, ?_⟩⟩
        refine ⟨_, q1, ?_, ?_, fun b o h => ?_⟩
        · rw [List.length_map, List.length_map, List.length_take]
          have l : sizeLine = 16777216 := sizeLine_eq
          omega
        · rw [upd_same, take_snoc e, List.map_append, List.map_append]
          rfl
        · rw [upd_ne (fun z => by rw [z, nC] at h; cases h)]
          exact q2 b o h
    · rintro H9 ⟨q1, q2⟩
      have et : xs.take (xs.map V.int).length = xs := by
        rw [List.length_map]
        exact List.take_length
      rw [et] at q1
      refine ⟨C, _, rfl, SqL.of q1, _, rfl, ?_⟩
      rw [List.all_map]
      unfold choiceOk at k
      have ea : xs.all (id ∘ inside n) = xs.all (inside n) := rfl
      rw [ea]
      cases h1 : xs.all (inside n) with
      | false =>
        rw [h1] at k
        exact iteT (k H9 q2)
      | true =>
        rw [h1] at k
        refine iteF ?_
        have ha9 := sqt_same q2 ha
        refine ⟨_, rfl, _, rfl, 1, rfl, a, _, rfl, ha9, ?_⟩
        have h1x : HT.sIx (xs.map V.int).length 0 (some 1) = min 1 xs.length := by
          have e : HT.sIx (xs.map V.int).length 0 (some ((1 : Nat) : Int)) = min 1 (xs.map V.int).length := HT.sIx_nat _ _ _
          rw [List.length_map] at e
          rw [List.length_map]
          exact e
        refine ⟨fun hw => ?_, fun hw p np => ?_⟩
        · have nil : xs = [] := by
            have := hw.1
            rw [h1x] at this
            exact List.eq_nil_of_length_eq_zero (by omega)
          have hd : (xs.drop 1).map V.int = xs.map V.int := by
            rw [nil]
            rfl
          refine ⟨a, a, xs.map V.int, (xs.drop 1).map V.int, rfl, .inr ⟨sqt_same q2 ha, (by rw [hd]; exact sqt_same q2 ha), fun G nG => ?_⟩⟩
          have sH : Same H H9 := q2
          have hz : SqT K H9 a ((xs.drop 1).map V.int) := (by rw [hd]; exact sqt_same q2 ha)
          generalize H9 = H10 at nG sH hz ⊢
          have lc : (climbs xs).length = min xs.length (xs.drop 1).length := by
            unfold climbs
            rw [List.length_map, List.length_zip]
          refine lc_it (walk_zT (K := K) (a := a) (b := a) (xs := xs.map V.int) (ys := (xs.drop 1).map V.int) (n := (climbs xs).length) (by rw [lc, List.length_map, List.length_map])) (fun j H9 => H9 G = some (.lst (((climbs xs).take j).map V.bl)) ∧ ∀ b o, b ≠ G → H10 b = some o → H9 b = some o)
            ⟨upd_same, fun b o hb h => keep_new h nG⟩ (fun i H9 _ ⟨_, z⟩ => ?_) ?_ ?_
          · have z' : ∀ c ys, SqT K H10 c ys → SqT K H9 c ys := fun c ys h => by
              rcases h with (h | ⟨o, h⟩) | h
              · exact .inl (.inl (z _ _ (fun e => by rw [e, nG] at h; cases h) h))
              · exact .inl (.inr ⟨o, z _ _ (fun e => by rw [e, nG] at h; cases h) h⟩)
              · exact .inr h
            exact ⟨z' _ _ (sqt_same sH ha), z' _ _ hz⟩
          · rintro i v H11 H12 hi ⟨p1, p2⟩ ⟨T', u1, u2, rfl, nT, rfl, hu1, hu2⟩
            refine ⟨T', _, rfl, SqT.of upd_same, rfl, _, _, rfl, _, _, rfl, rfl, rfl, tYes_if ?_⟩
            have hu1 : (xs.map V.int)[i]? = some u1 := hu1
            have hu2 : ((xs.drop 1).map V.int)[i]? = some u2 := hu2
            rw [List.getElem?_map] at hu1 hu2
            cases e1 : xs[i]? with
            | none =>
              rw [e1] at hu1
              cases hu1
            | some y1 =>
              cases e2 : (xs.drop 1)[i]? with
              | none =>
                rw [e2] at hu2
                cases hu2
              | some y2 =>
                rw [e1] at hu1
                rw [e2] at hu2
                cases hu1
                cases hu2
                have hu : (climbs xs)[i]? = some (decide (y1 < y2)) := by
                  unfold climbs
                  rw [List.getElem?_map, zip_at e1 e2]
                  rfl
                refine ⟨_, rfl, _, rfl, _, _, rfl, rfl, _, keep_new p1 nT, ?_, ?_, fun b' o hb' h => by rw [upd_ne hb']; exact keep_new (p2 b' o hb' h) nT⟩
                · rw [List.length_map, List.length_take]
                  have : (climbs xs).length ≤ xs.length := by rw [lc]; exact Nat.min_le_left _ _
                  have l : sizeLine = 16777216 := sizeLine_eq
                  omega
                · rw [upd_same, take_snoc hu, List.map_append]
                  rfl
          · rintro H11 ⟨p1, p2⟩
            rw [List.take_length] at p1
            exact ⟨G, _, rfl, SqL.of p1, k H11 fun b o h => p2 b o (fun z => by rw [z] at h; have := sH _ _ h; rw [nG] at this; cases this) (sH _ _ h)⟩
        · have hd : cutV (xs.map V.int) (some 1) none = (xs.drop 1).map V.int := by
            unfold cutV
            rw [h1x, HT.sIx_none, List.length_map, ← List.map_drop, ← List.map_take]
            by_cases h0 : xs.length = 0
            · rw [List.eq_nil_of_length_eq_zero h0]
              rfl
            · have m : min 1 xs.length = 1 := by omega
              rw [m, List.take_of_length_le (by rw [List.length_drop]; omega)]
          refine ⟨a, p, xs.map V.int, (xs.drop 1).map V.int, rfl, .inr ⟨sqt_same (Same.new q2 np) ha, (by rw [hd]; exact SqT.of upd_same), fun G nG => ?_⟩⟩
          have sH : Same H (upd H9 p (.tup (cutV (xs.map V.int) (some 1) none))) := (Same.new q2 np)
          have hz : SqT K (upd H9 p (.tup (cutV (xs.map V.int) (some 1) none))) p ((xs.drop 1).map V.int) := (by rw [hd]; exact SqT.of upd_same)
          generalize (upd H9 p (.tup (cutV (xs.map V.int) (some 1) none))) = H10 at nG sH hz ⊢
          have lc : (climbs xs).length = min xs.length (xs.drop 1).length := by
            unfold climbs
            rw [List.length_map, List.length_zip]
          refine lc_it (walk_zT (K := K) (a := a) (b := p) (xs := xs.map V.int) (ys := (xs.drop 1).map V.int) (n := (climbs xs).length) (by rw [lc, List.length_map, List.length_map])) (fun j H9 => H9 G = some (.lst (((climbs xs).take j).map V.bl)) ∧ ∀ b o, b ≠ G → H10 b = some o → H9 b = some o)
            ⟨upd_same, fun b o hb h => keep_new h nG⟩ (fun i H9 _ ⟨_, z⟩ => ?_) ?_ ?_
          · have z' : ∀ c ys, SqT K H10 c ys → SqT K H9 c ys := fun c ys h => by
              rcases h with (h | ⟨o, h⟩) | h
              · exact .inl (.inl (z _ _ (fun e => by rw [e, nG] at h; cases h) h))
              · exact .inl (.inr ⟨o, z _ _ (fun e => by rw [e, nG] at h; cases h) h⟩)
              · exact .inr h
            exact ⟨z' _ _ (sqt_same sH ha), z' _ _ hz⟩
          · rintro i v H11 H12 hi ⟨p1, p2⟩ ⟨T', u1, u2, rfl, nT, rfl, hu1, hu2⟩
            refine ⟨T', _, rfl, SqT.of upd_same, rfl, _, _, rfl, _, _, rfl, rfl, rfl, tYes_if ?_⟩
            have hu1 : (xs.map V.int)[i]? = some u1 := hu1
            have hu2 : ((xs.drop 1).map V.int)[i]? = some u2 := hu2
            rw [List.getElem?_map] at hu1 hu2
            cases e1 : xs[i]? with
            | none =>
              rw [e1] at hu1
              cases hu1
            | some y1 =>
              cases e2 : (xs.drop 1)[i]? with
              | none =>
                rw [e2] at hu2
                cases hu2
              | some y2 =>
                rw [e1] at hu1
                rw [e2] at hu2
                cases hu1
                cases hu2
                have hu : (climbs xs)[i]? = some (decide (y1 < y2)) := by
                  unfold climbs
                  rw [List.getElem?_map, zip_at e1 e2]
                  rfl
                refine ⟨_, rfl, _, rfl, _, _, rfl, rfl, _, keep_new p1 nT, ?_, ?_, fun b' o hb' h => by rw [upd_ne hb']; exact keep_new (p2 b' o hb' h) nT⟩
                · rw [List.length_map, List.length_take]
                  have : (climbs xs).length ≤ xs.length := by rw [lc]; exact Nat.min_le_left _ _
                  have l : sizeLine = 16777216 := sizeLine_eq
                  omega
                · rw [upd_same, take_snoc hu, List.map_append]
                  rfl
          · rintro H11 ⟨p1, p2⟩
            rw [List.take_length] at p1
            exact ⟨G, _, rfl, SqL.of p1, k H11 fun b o h => p2 b o (fun z => by rw [z] at h; have := sH _ _ h; rw [nG] at this; cases this) (sH _ _ h)⟩
end
end M3

set_option Elab.async false
set_option linter.all false
set_option maxRecDepth 100000
set_option maxHeartbeats 8000000
/-! # Leading words -/
namespace M3
open PySem L2
abbrev sLawLed : Stmt := top 59
abbrev sLed : Stmt := top 21
abbrev nLawLed : List Str := ["table", "letters", "word", "start", "place", "letter"]
abbrev nLed : List Str := ["table", "letters", "start", "word", "now", "letter"]
theorem scLawLed : FnScope nLawLed ["table", "letters", "word", "start"] (defScope sLawLed) := ⟨rfl, rfl, rfl, by decide +kernel, rfl, by decide +kernel, by decide +kernel⟩
theorem scLed : FnScope nLed ["table", "letters", "start", "word"] (defScope sLed) := ⟨rfl, rfl, rfl, by decide +kernel, rfl, by decide +kernel, by decide +kernel⟩
/-- tuples of numbers stand at these addresses -/
def Tups (K : PySem.W.Frag) (H : Hp) (us : List V) (t : List (List Nat)) : Prop := us.length = t.length ∧ ∀ (i : Nat) (r : List Nat), t[i]? = some r → ∃ b : Addr, us[i]? = some (V.ref b) ∧ SqT K H b (nts r)
def step (t : List (List Nat)) (x : Str) (q c : Nat) : Nat := (t.getD q []).getD (x.cps.toList.idxOf c) 0
/-- to which state a word leads -/
def goes (t : List (List Nat)) (x : Str) (q : Nat) (cs : List Nat) : Nat := cs.foldl (step t x) q
theorem step_lt {t : List (List Nat)} {x : Str} {n m : Nat} (h : IsTab t n m) (hm : x.cps.toList.length = m) {q c : Nat} (hq : q < n) (hc : c ∈ x.cps.toList) : step t x q c < n := by
  obtain ⟨h1, h2⟩ := h
  have hq' : q < t.length := by omega
  obtain ⟨l1, l2⟩ := h2 t[q] (List.getElem_mem hq')
  have hi : x.cps.toList.idxOf c < t[q].length := by
    rw [l1, ← hm]
    exact List.idxOf_lt_length_of_mem hc
  unfold step
  have e : t.getD q [] = t[q] := by simp [List.getD, List.getElem?_eq_getElem hq']
  rw [e]
  have e2 : t[q].getD (x.cps.toList.idxOf c) 0 = t[q][x.cps.toList.idxOf c] := by simp [List.getD, List.getElem?_eq_getElem hi]
  rw [e2]
  exact l2 _ (List.getElem_mem hi)
theorem goes_lt {t : List (List Nat)} {x : Str} {n m : Nat} (h : IsTab t n m) (hm : x.cps.toList.length = m) : ∀ (cs : List Nat) (q : Nat), q < n → (∀ c ∈ cs, c ∈ x.cps.toList) → goes t x q cs < n
  | [], _, hq, _ => hq
  | c :: cs, q, hq, hc => goes_lt h hm cs (step t x q c) (step_lt h hm hq (hc c List.mem_cons_self)) fun d hd => hc d (List.mem_cons_of_mem _ hd)
theorem occ1 : ∀ a ∈ six, Builtin.Str.occurrences ⟨#[a]⟩ ⟨#[a]⟩ 0 1 1 = [0] := by decide +kernel
theorem occ2 : ∀ a ∈ six, ∀ b ∈ six, a < b → Builtin.Str.occurrences ⟨#[a, b]⟩ ⟨#[a]⟩ 0 2 1 = [0] ∧ Builtin.Str.occurrences ⟨#[a, b]⟩ ⟨#[b]⟩ 0 2 1 = [1] := by decide +kernel
theorem set_occ {x : Str} {n c : Nat} (h : IsSet x n) (h2 : n ≤ 2) (hc : c ∈ x.cps.toList) : Builtin.Str.occurrences x ⟨#[c]⟩ 0 x.length 1 = [x.cps.toList.idxOf c] := by
  obtain ⟨cs, rfl, hl, hp, hm⟩ := h
  match cs, hl, hp, hm with
  | [], _, _, _ => cases hc
  | [a], _, _, hm =>
    have e : c = a := List.mem_singleton.mp hc
    subst e
    have ei : List.idxOf c [c] = 0 := by simp
    show Builtin.Str.occurrences ⟨#[c]⟩ ⟨#[c]⟩ 0 1 1 = [List.idxOf c [c]]
    rw [ei]
    exact occ1 c (hm c List.mem_cons_self)
  | [a, b], _, hp, hm =>
    have lt : a < b := by simpa using hp
    obtain ⟨o1, o2⟩ := occ2 a (hm a List.mem_cons_self) b (hm b (List.mem_cons_of_mem _ List.mem_cons_self)) lt
    rcases List.mem_cons.mp hc with e | e
    · subst e
      have ei : List.idxOf c [c, b] = 0 := by simp
      show Builtin.Str.occurrences ⟨#[c, b]⟩ ⟨#[c]⟩ 0 2 1 = [List.idxOf c [c, b]]
      rw [ei]
      exact o1
    · have e : c = b := List.mem_singleton.mp e
      subst e
      have ei : List.idxOf c [a, c] = 1 := by
        have nb : (a == c) = false := beq_eq_false_iff_ne.mpr (by omega)
        simp [List.idxOf_cons, nb]
      show Builtin.Str.occurrences ⟨#[a, c]⟩ ⟨#[c]⟩ 0 2 1 = [List.idxOf c [a, c]]
      rw [ei]
      exact o2
  | _ :: _ :: _ :: l, hl, _, _ =>
    have hl : l.length + 3 = n := hl
    omega
def spLawLed (K : PySem.W.Frag) : Sp := fun vs H Q _ => ∃ (a : Addr) (x y : Str) (q n m : Nat) (t : List (List Nat)) (us : List V), vs = [.ref a, .str x, .str y, .int q] ∧ SqL K H a us ∧ Tups K H us t ∧ IsTab t n m ∧ IsSet x m ∧ m ≤ 2 ∧ IsW x y ∧ q < n ∧
  Q (.int (goes t x q y.cps.toList : Nat)) H
def spLed (K : PySem.W.Frag) : Sp := fun vs H Q _ => ∃ (a : Addr) (x y : Str) (q n m : Nat) (t : List (List Nat)) (us : List V), vs = [.ref a, .str x, .int q, .str y] ∧ SqT K H a us ∧ Tups K H us t ∧ IsTab t n m ∧ IsSet x m ∧ m ≤ 2 ∧ IsW x y ∧ q < n ∧
  Q (.int (goes t x q y.cps.toList : Nat)) H
theorem goes_snoc {t : List (List Nat)} {x : Str} {q c : Nat} {cs : List Nat} : goes t x q (cs ++ [c]) = step t x (goes t x q cs) c := by
  unfold goes
  rw [List.foldl_append]
  rfl
section
variable {P : Program} {w : World} {K : PySem.W.Frag} {mg : Str → Option Value} {base : Heap}
theorem ok_lawled {f : Addr} {fd : FuncData} (F : Fun K "_law_led" "_law_led" sLawLed f fd) : FnOk P w K mg base CX0 1 f fd ["table", "letters", "word", "start"] (spLawLed K) := by
  refine F.ok scLawLed (fun vs H Q E h => ?_) (fun cdv A outer s H vs Q E hr h => ?_)
  · obtain ⟨a, x, y, q, n, m, t, us, rfl, _⟩ := h
    rfl
  · obtain ⟨a, x, y, q, n, m, t, us, rfl, ha, hT, tab, st, m2, hw, hq, k⟩ := h
    refine ⟨_, pss_cons (ps_set (i := 4) scLawLed.nd rfl (Or.inl rfl) (pv 3))
      (pss_cons (ps_for PassesOwn.never rfl (pi_str (pv 2)) (pg_name (i := 5) scLawLed.nd rfl (Or.inl rfl))
        (pss_one (ps_set (i := 4) scLawLed.nd rfl (Or.inl rfl) (pe_ix ix_tup (pe_ix ix_list (pv 0) (pv 4) (fun _ _ => rfl)) (pe_bm PySem.F.plainAttrs_str PySem.F.slot_str_index PySem.F.type_str_index mt_sindex (pv 1) (pa_cons (pv 5) pa_nil)) (fun _ _ => rfl)))))
      (pss_one (ps_ret (pv 4)))), ?_⟩
    have hm : x.cps.toList.length = m := by
      obtain ⟨cs, e, hl, _⟩ := st
      rw [e]
      simpa using hl
    refine ⟨_, rfl, _, rfl, y, rfl, for_it walk_str (fun i σ H' => H' = H ∧ ∃ l : Option V, σ = [some (.ref a), some (.str x), some (.str y), some (.int q), some (.int ((goes t x q (y.cps.toList.take i) : Nat) : Int)), l]) ⟨rfl, none, rfl⟩ (fun _ _ _ _ _ => trivial) ?_ ?_⟩
    · rintro i v σ H1 H2 hi ⟨rfl, l, rfl⟩ ⟨rfl, c, hc, rfl⟩
      have hc' : y.cps.toList[i]? = some c := by simpa using hc
      have cx : c ∈ x.cps.toList := hw c (List.mem_of_getElem? hc')
      have hq2 : goes t x q (y.cps.toList.take i) < n := goes_lt tab hm _ _ hq fun d hd => hw d (List.mem_of_mem_take hd)
      have eg : goes t x q (y.cps.toList.take (i + 1)) = step t x (goes t x q (y.cps.toList.take i)) c := by
        rw [take_snoc hc', goes_snoc]
      generalize goes t x q (y.cps.toList.take i) = p at hq2 eg ⊢
      have hp : p < t.length := by rw [tab.1]; exact hq2
      obtain ⟨b, b1, b2⟩ := hT.2 p t[p] (List.getElem?_eq_getElem hp)
      have hi2 : x.cps.toList.idxOf c < t[p].length := by
        rw [(tab.2 t[p] (List.getElem_mem hp)).1, ← hm]
        exact List.idxOf_lt_length_of_mem cx
      refine ⟨_, rfl, _, rfl, a, us, (p : Int), .ref b, rfl, rfl, ha, atI_nat b1, ?_⟩
      have es : step t x p c = t[p].getD (x.cps.toList.idxOf c) 0 := by
        unfold step
        have e : t.getD p [] = t[p] := by simp [List.getD, List.getElem?_eq_getElem hp]
        rw [e]
      rw [es] at eg
      refine ⟨_, rfl, rfl, _, rfl, x, ⟨#[c]⟩, x.cps.toList.idxOf c, [], rfl, rfl, set_occ st m2 cx, b, nts t[p], _, _, rfl, rfl, b2, nts_at hi2, ?_⟩
      rw [eg]
      exact ⟨rfl, some (.str ⟨#[c]⟩), rfl⟩
    · rintro σ H1 ⟨rfl, l, rfl⟩
      refine ⟨_, rfl, ?_⟩
      have et : y.cps.toList.take y.cps.size = y.cps.toList := List.take_of_length_le (by simp)
      rw [et]
      exact k
theorem ok_led {f : Addr} {fd : FuncData} (F : Fun K "led" "led" sLed f fd) : FnOk P w K mg base CX0 1 f fd ["table", "letters", "start", "word"] (spLed K) := by
  refine F.ok scLed (fun vs H Q E h => ?_) (fun cdv A outer s H vs Q E hr h => ?_)
  · obtain ⟨a, x, y, q, n, m, t, us, rfl, _⟩ := h
    rfl
  · obtain ⟨a, x, y, q, n, m, t, us, rfl, ha, hT, tab, st, m2, hw, hq, k⟩ := h
    refine ⟨_, pss_cons (ps_set (i := 4) scLed.nd rfl (Or.inl rfl) (pv 2))
      (pss_cons (ps_for PassesOwn.never rfl (pi_str (pv 3)) (pg_name (i := 5) scLed.nd rfl (Or.inl rfl))
        (pss_one (ps_set (i := 4) scLed.nd rfl (Or.inl rfl) (pe_ix ix_tup (pe_ix ix_tup (pv 0) (pv 4) (fun _ _ => rfl)) (pe_bm PySem.F.plainAttrs_str PySem.F.slot_str_index PySem.F.type_str_index mt_sindex (pv 1) (pa_cons (pv 5) pa_nil)) (fun _ _ => rfl)))))
      (pss_one (ps_ret (pv 4)))), ?_⟩
    have hm : x.cps.toList.length = m := by
      obtain ⟨cs, e, hl, _⟩ := st
      rw [e]
      simpa using hl
    refine ⟨_, rfl, _, rfl, y, rfl, for_it walk_str (fun i σ H' => H' = H ∧ ∃ l : Option V, σ = [some (.ref a), some (.str x), some (.int q), some (.str y), some (.int ((goes t x q (y.cps.toList.take i) : Nat) : Int)), l]) ⟨rfl, none, rfl⟩ (fun _ _ _ _ _ => trivial) ?_ ?_⟩
    · rintro i v σ H1 H2 hi ⟨rfl, l, rfl⟩ ⟨rfl, c, hc, rfl⟩
      have hc' : y.cps.toList[i]? = some c := by simpa using hc
      have cx : c ∈ x.cps.toList := hw c (List.mem_of_getElem? hc')
      have hq2 : goes t x q (y.cps.toList.take i) < n := goes_lt tab hm _ _ hq fun d hd => hw d (List.mem_of_mem_take hd)
      have eg : goes t x q (y.cps.toList.take (i + 1)) = step t x (goes t x q (y.cps.toList.take i)) c := by
        rw [take_snoc hc', goes_snoc]
      generalize goes t x q (y.cps.toList.take i) = p at hq2 eg ⊢
      have hp : p < t.length := by rw [tab.1]; exact hq2
      obtain ⟨b, b1, b2⟩ := hT.2 p t[p] (List.getElem?_eq_getElem hp)
      have hi2 : x.cps.toList.idxOf c < t[p].length := by
        rw [(tab.2 t[p] (List.getElem_mem hp)).1, ← hm]
        exact List.idxOf_lt_length_of_mem cx
      refine ⟨_, rfl, _, rfl, a, us, (p : Int), .ref b, rfl, rfl, ha, atI_nat b1, ?_⟩
      have es : step t x p c = t[p].getD (x.cps.toList.idxOf c) 0 := by
        unfold step
        have e : t.getD p [] = t[p] := by simp [List.getD, List.getElem?_eq_getElem hp]
        rw [e]
      rw [es] at eg
      refine ⟨_, rfl, rfl, _, rfl, x, ⟨#[c]⟩, x.cps.toList.idxOf c, [], rfl, rfl, set_occ st m2 cx, b, nts t[p], _, _, rfl, rfl, b2, nts_at hi2, ?_⟩
      rw [eg]
      exact ⟨rfl, some (.str ⟨#[c]⟩), rfl⟩
    · rintro σ H1 ⟨rfl, l, rfl⟩
      refine ⟨_, rfl, ?_⟩
      have et : y.cps.toList.take y.cps.size = y.cps.toList := List.take_of_length_le (by simp)
      rw [et]
      exact k
end
end M3

set_option Elab.async false
set_option linter.all false
set_option maxRecDepth 100000
set_option maxHeartbeats 8000000
/-! # Machines made -/
namespace M3
open PySem L2
abbrev sInit : Stmt := inClass (top 33) 0
abbrev nInit : List Str := ["self", "letters", "table", "ends"]
theorem scInit : FnScope nInit nInit (defScope sInit) := ⟨rfl, rfl, rfl, by decide +kernel, rfl, by decide +kernel, by decide +kernel⟩
/-- the attributes of a machine, in the order in which they are stored -/
def flds (x : Str) (a b : Addr) : List (Str × V) := putF "_ends" (.ref b) (putF "_table" (.ref a) (putF "_letters" (.str x) []))
/-- the class InvalidMachine, raised -/
structure TxE (K : PySem.W.Frag) (mg : Str → Option Value) (c : Addr) : Prop where
  x : PySem.W.excIn K c [.type "ValueError", .type "Exception", .type "BaseException", .type "object"] "ValueError.__new__" = true
  g : mg "InvalidMachine" = some (.ref c)
  k : PySem.W.keepIn K (.ref c) = true
  b : PySem.W.subIn K (.ref c) (.type "BaseException") = some true
  t : PySem.W.typeIn K (.ref c) = some (.type "type")
structure TxK (K : PySem.W.Frag) (mg : Str → Option Value) (C : Addr) : Prop where
  cl : Cls K C
  nL : NoAttr K C "_letters"
  nT : NoAttr K C "_table"
  nE : NoAttr K C "_ends"
  mS : ∃ t, mg "MAX_STATES" = some (.int 4 t)
theorem set_let1 : ∀ a ∈ six, isLet ⟨#[a]⟩ = true := by decide +kernel
theorem set_let2 : ∀ a ∈ six, ∀ b ∈ six, a < b → isLet ⟨#[a, b]⟩ = true := by decide +kernel
theorem set_let {x : Str} {n : Nat} (h : IsSet x n) (h1 : 1 ≤ n) (h2 : n ≤ 2) : isLet x = true := by
  obtain ⟨cs, rfl, hl, hp, hm⟩ := h
  match cs, hl, hp, hm with
  | [], hl, _, _ =>
    have hl : 0 = n := hl
    omega
  | [a], _, _, hm => exact set_let1 a (hm a List.mem_cons_self)
  | [a, b], _, hp, hm => exact set_let2 a (hm a List.mem_cons_self) b (hm b (List.mem_cons_of_mem _ List.mem_cons_self)) (by simpa using hp)
  | _ :: _ :: _ :: l, hl, _, _ =>
    have hl : l.length + 3 = n := hl
    omega
def asInt (t : List (List Nat)) : List (List Int) := t.map fun r => r.map Int.ofNat
theorem inside_nat {n i : Nat} (h : i < n) : inside n (Int.ofNat i) = true := by
  unfold inside
  have a : (0 : Int) ≤ Int.ofNat i := Int.natCast_nonneg i
  have b : Int.ofNat i ≤ (n : Int) - 1 := by
    show ((i : Nat) : Int) ≤ (n : Int) - 1
    omega
  rw [decide_eq_true a, decide_eq_true b]
  rfl
theorem tab_ok {t : List (List Nat)} {n m : Nat} (h : IsTab t n m) (h1 : 1 ≤ n) (h4 : n ≤ 4) : tabOk (asInt t) (m : Int) 4 = true := by
  obtain ⟨e, h⟩ := h
  have le : (asInt t).length = n := by
    unfold asInt
    rw [List.length_map, e]
  unfold tabOk
  rw [le, decide_eq_true (show (1 : Int) ≤ (n : Int) by omega), decide_eq_true (show (n : Int) ≤ 4 by omega)]
  have q : ((asInt t).all fun r => decide ((r.length : Int) = (m : Int)) && r.all (inside (n : Int))) = true := by
    rw [List.all_eq_true]
    intro r hr
    unfold asInt at hr
    obtain ⟨r0, hr0, rfl⟩ := List.mem_map.mp hr
    obtain ⟨l1, l2⟩ := h r0 hr0
    rw [List.length_map, l1, decide_eq_true rfl, Bool.true_and, List.all_eq_true]
    intro i hi
    obtain ⟨j, hj, rfl⟩ := List.mem_map.mp hi
    exact inside_nat (l2 j hj)
  rw [q]
  rfl
theorem climbs_up : ∀ es : List Nat, es.Pairwise (· < ·) → (climbs (es.map Int.ofNat)).all id = true
  | [], _ => rfl
  | [_], _ => rfl
  | a :: b :: l, h => by
    have h' := List.pairwise_cons.mp h
    have ih := climbs_up (b :: l) h'.2
    have lt : (a : Int) < (b : Int) := by
      have := h'.1 b List.mem_cons_self
      omega
    show (decide ((a : Int) < (b : Int)) && (climbs ((b :: l).map Int.ofNat)).all id) = true
    rw [decide_eq_true lt, ih]
    rfl
theorem choice_ok {es : List Nat} {n : Nat} (h : es.Pairwise (· < ·)) (hl : ∀ e ∈ es, e < n) : choiceOk (es.map Int.ofNat) (n : Int) = true := by
  unfold choiceOk
  rw [climbs_up es h, Bool.and_true, List.all_eq_true]
  intro i hi
  obtain ⟨j, hj, rfl⟩ := List.mem_map.mp hi
  exact inside_nat (hl j hj)
theorem tups_lines {K : PySem.W.Frag} {H : Hp} {us : List V} {t : List (List Nat)} {n m : Nat} (h : Tups K H us t) (tb : IsTab t n m) (hm : m ≤ 1000) : Lines K H us (asInt t) := by
  refine ⟨by unfold asInt; rw [List.length_map]; exact h.1, fun i r e => ?_⟩
  unfold asInt at e
  rw [List.getElem?_map] at e
  cases e0 : t[i]? with
  | none =>
    rw [e0] at e
    cases e
  | some r0 =>
    rw [e0] at e
    cases e
    obtain ⟨b, b1, b2⟩ := h.2 i r0 e0
    refine ⟨b, b1, by rw [← nts_eq']; exact b2, ?_⟩
    rw [List.length_map, (tb.2 r0 (List.mem_of_getElem? e0)).1]
    exact hm
end M3

set_option Elab.async false
set_option linter.all false
set_option maxRecDepth 100000
set_option maxHeartbeats 8000000
/-! # Machine.__init__ -/
namespace M3
open PySem L2
/-- the facts of the defs of tables -/
structure DefsT (K : PySem.W.Frag) (mg : Str → Option Value) where
  (fL fT fN fC : Addr)
  (dL dT dN dC : FuncData)
  L : Fun K "is_letters" "is_letters" sIsLetters fL dL
  bL : Binds K dL ["value"] []
  mL : mg "is_letters" = some (.ref fL)
  T : Fun K "is_table" "is_table" sIsTable fT dT
  bT : Binds K dT ["value", "width", "most"] []
  mT : mg "is_table" = some (.ref fT)
  N : Fun K "is_line" "is_line" sIsLine fN dN
  bN : Binds K dN ["value", "width", "size"] []
  mN : mg "is_line" = some (.ref fN)
  C : Fun K "is_choice" "is_choice" sIsChoice fC dC
  bC : Binds K dC ["value", "size"] []
  mC : mg "is_choice" = some (.ref fC)
def spInit (K : PySem.W.Frag) (C : Addr) : Sp := fun vs H Q _ => ∃ (p dx a b : Addr) (x : Str) (us : List V) (t : List (List Nat)) (es : List Nat) (n m : Nat), vs = [.ref p, .str x, .ref a, .ref b] ∧ H p = some (.ins C dx []) ∧
  IsSet x m ∧ 1 ≤ m ∧ m ≤ 2 ∧ SqT K H a us ∧ Tups K H us t ∧ IsTab t n m ∧ 1 ≤ n ∧ n ≤ 4 ∧ SqT K H b (nts es) ∧ es.Pairwise (· < ·) ∧ (∀ e ∈ es, e < n) ∧
  ∀ H' : Hp, H' p = some (.ins C dx (flds x a b)) → (∀ c o, c ≠ p → H c = some o → H' c = some o) → Q .non H'
section
variable {P : Program} {w : World} {K : PySem.W.Frag} {mg : Str → Option Value} {base : Heap}
theorem kit_str : PySem.W.kitOne K (.type "str") (.type "str") = some true := kit_ty (by decide +kernel)
theorem set_len {x : Str} {m : Nat} (h : IsSet x m) : x.length = m := by
  obtain ⟨cs, rfl, hl, _⟩ := h
  simpa [Str.length] using hl
theorem asc_len {es : List Nat} : ∀ {n : Nat}, es.Pairwise (· < ·) → (∀ e ∈ es, e < n) → es.length ≤ n := by
  induction es with
  | nil => intro n _ _; exact Nat.zero_le _
  | cons a l ih =>
    intro n hp hl
    have hp' := List.pairwise_cons.mp hp
    have ha := hl a List.mem_cons_self
    have hm : ∀ (k : Nat) (l : List Nat), l.Pairwise (· < ·) → (∀ e ∈ l, k < e) → (∀ e ∈ l, e < n) → k < n → l.length + k + 1 ≤ n := by
      intro k l
      induction l generalizing k with
      | nil => intro _ _ _ h; simp; omega
      | cons b l ih2 =>
        intro q1 q2 q3 q4
        have q1' := List.pairwise_cons.mp q1
        have := ih2 b q1'.2 q1'.1 (fun e he => q3 e (List.mem_cons_of_mem _ he)) (q3 b List.mem_cons_self)
        have kb := q2 b List.mem_cons_self
        simp
        omega
    have := hm a l hp'.2 hp'.1 (fun e he => hl e (List.mem_cons_of_mem _ he)) ha
    simp
    omega
theorem ok_init {f C c : Addr} {fd : FuncData} (F : C8.Fun K "__init__" "Machine.__init__" sInit f fd) (D : DefsT K mg) (DW : DefsW K mg) (W : TxW mg) (Zx : TxZ mg) (TE : TxE K mg c) (TK : TxK K mg C) : FnOk P w K mg base CX0 4 f fd nInit (spInit K C) := by
  have GL : FnOk P w K mg base CX0 3 D.fL D.dL ["value"] (spIsLetters K) := ok_isletters D.L DW W Zx
  have GT : FnOk P w K mg base CX0 3 D.fT D.dT ["value", "width", "most"] (spIsTable K) := ok_istable D.T D.N D.bN D.mN DW W Zx
  have GC : FnOk P w K mg base CX0 2 D.fC D.dC ["value", "size"] (spIsChoice K) := ok_ischoice D.C DW W Zx
  obtain ⟨ts, ms⟩ := TK.mS
  refine C8.fn0 F scInit (fun vs H Q E h => ?_) (fun cdv A outer s H vs Q E hr h => ?_)
  · obtain ⟨p, dx, a, b, x, us, t, es, n, m, rfl, _⟩ := h
    rfl
  · obtain ⟨p, dx, a, b, x, us, t, es, n, m, rfl, hp, hx, m1, m2, ha, hT, tb, n1, n4, hb, up, lt, k⟩ := h
    have hr2 : Room 2 _ := hr.mono (by decide)
    refine ⟨_, pss_cons (ps_if (pt_not (pt_val (pe_call GL hr rfl D.mL D.L.kp D.bL .nil pass0 (pa_cons (pv 1) pa_nil)))) (pss_one (ps_raise rfl takes0 (pmk_own PySem.F.excBase_ValueError TE.x TE.g TE.k (raises_own TE.b TE.t) rfl))) pss_nil)
      (pss_cons (ps_if (pt_not (pt_val (pe_call GT hr rfl D.mT D.T.kp D.bT .nil pass0 (pa_cons (pv 2) (pa_cons (pe_callB call_len_str (by rfl) Zx.len PySem.boot_len (pa_cons (pv 1) pa_nil)) (pa_cons (pe_glob (v := .int 4) rfl ms ⟨_, rfl⟩) pa_nil)))))) (pss_one (ps_raise rfl takes0 (pmk_own PySem.F.excBase_ValueError TE.x TE.g TE.k (raises_own TE.b TE.t) rfl))) pss_nil)
      (pss_cons (ps_if (pt_not (pt_val (pe_call GC hr2 rfl D.mC D.C.kp D.bC .nil pass0 (pa_cons (pv 3) (pa_cons (pe_callB call_len_seq (by rfl) Zx.len PySem.boot_len (pa_cons (pv 2) pa_nil)) pa_nil))))) (pss_one (ps_raise rfl takes0 (pmk_own PySem.F.excBase_ValueError TE.x TE.g TE.k (raises_own TE.b TE.t) rfl))) pss_nil)
      (pss_cons (ps_fld (pv 0) (pv 1) rfl) (pss_cons (ps_fld (pv 0) (pv 2) rfl) (pss_one (ps_fld (pv 0) (pv 3) rfl)))))), ?_⟩
    have lx := set_len hx
    refine ⟨_, rfl, .str x, .type "str", true, rfl, .base (.str x), kit_str, (fun z => by cases z), fun _ => ⟨x, rfl, by omega, fun H1 s1 => ⟨_, rfl, ?_⟩⟩⟩
    rw [set_let hx m1 m2]
    refine iteF ?_
    refine ⟨_, rfl, _, rfl, x, rfl, Nat.le_trans (show x.length ≤ 2 by omega) (by decide), a, us, asInt t, (x.length : Int), 4, rfl, sqt_same s1 ha, (tups_lines hT tb (by omega)).same s1, ?_, fun H2 s2 => ⟨_, rfl, ?_⟩⟩
    · unfold asInt
      rw [List.length_map, tb.1]
      omega
    rw [lx, tab_ok tb n1 n4]
    refine iteF ?_
    have s12 := s1.trans s2
    have lu : us.length = n := by rw [hT.1, tb.1]
    refine ⟨_, rfl, _, rfl, a, us, rfl, .inr (sqt_same s12 ha), b, es.map Int.ofNat, (us.length : Int), rfl, by rw [← nts_eq']; exact sqt_same s12 hb, ?_, fun H3 s3 => ⟨_, rfl, ?_⟩⟩
    · rw [List.length_map]
      have := asc_len up lt
      omega
    rw [lu, choice_ok up lt]
    refine iteF ?_
    have s13 := s12.trans s3
    have hp3 := s13 _ _ hp
    refine ⟨_, rfl, _, rfl, p, C, dx, [], rfl, hp3, TK.cl, TK.nL, (by show 0 < 1000; decide), ?_⟩
    refine ⟨_, rfl, _, rfl, p, C, dx, _, rfl, upd_same, TK.cl, TK.nT, (by show 1 < 1000; decide), ?_⟩
    refine ⟨_, rfl, _, rfl, p, C, dx, _, rfl, upd_same, TK.cl, TK.nE, (by show 2 < 1000; decide), ?_⟩
    refine k _ upd_same fun c' o hc h => ?_
    rw [upd_ne hc, upd_ne hc, upd_ne hc]
    exact s13 _ _ h
end
end M3

set_option Elab.async false
set_option linter.all false
set_option maxRecDepth 100000
set_option maxHeartbeats 8000000
/-! # A plain machine made one -/
namespace M3
open PySem L2
abbrev sMade : Stmt := top 58
theorem scMade : FnScope ["plain"] ["plain"] (defScope sMade) := ⟨rfl, rfl, rfl, by decide +kernel, rfl, by decide +kernel, by decide +kernel⟩
/-- a machine stands at p: letters x, table t, ends es -/
structure Mach (K : PySem.W.Frag) (C : Addr) (H : Hp) (p : Addr) (x : Str) (t : List (List Nat)) (es : List Nat) : Prop where
  ex : ∃ (dx a b : Addr) (us : List V), H p = some (.ins C dx (flds x a b)) ∧ SqT K H a us ∧ Tups K H us t ∧ SqT K H b (nts es)
/-- tuples that stand as such -/
theorem tups_of {K : PySem.W.Frag} {d C : Addr} {H : Hp} {us : List V} {t : List (List Nat)} (h : RowsT d C H us t) : Tups K H us t := ⟨h.1, fun i r e => by
  obtain ⟨b, b1, _, _, b4⟩ := h.2 i r e
  exact ⟨b, b1, SqT.of b4⟩⟩
theorem Tups.same {K : PySem.W.Frag} {H H' : Hp} {us : List V} {t : List (List Nat)} (h : Tups K H us t) (s : Same H H') : Tups K H' us t := ⟨h.1, fun i r e => by
  obtain ⟨b, b1, b2⟩ := h.2 i r e
  exact ⟨b, b1, sqt_same s b2⟩⟩
theorem Mach.same {K : PySem.W.Frag} {C p : Addr} {H H' : Hp} {x : Str} {t : List (List Nat)} {es : List Nat} (h : Mach K C H p x t es) (s : Same H H') : Mach K C H' p x t es := by
  obtain ⟨dx, a, b, us, h1, h2, h3, h4⟩ := h
  exact ⟨dx, a, b, us, s _ _ h1, sqt_same s h2, h3.same s, sqt_same s h4⟩
abbrev plainK (x : V) (a b : V) : List (Key × V) := [(.inr "letters", x), (.inr "table", a), (.inr "ends", b)]
theorem plain_l {x a b : V} : valV (plainK x a b) (.inr "letters") = some x := by rfl
theorem plain_t {x a b : V} : valV (plainK x a b) (.inr "table") = some a := by rfl
theorem plain_e {x a b : V} : valV (plainK x a b) (.inr "ends") = some b := by rfl
theorem get_l {H : Hp} {p : Addr} {x a b : V} (h : H p = some (.dK (plainK x a b))) : DGet H p (.str "letters") (some x) := by
  have g := DGet.k (k := .inr "letters") h
  rw [plain_l] at g
  exact g
theorem get_t {H : Hp} {p : Addr} {x a b : V} (h : H p = some (.dK (plainK x a b))) : DGet H p (.str "table") (some a) := by
  have g := DGet.k (k := .inr "table") h
  rw [plain_t] at g
  exact g
theorem get_e {H : Hp} {p : Addr} {x a b : V} (h : H p = some (.dK (plainK x a b))) : DGet H p (.str "ends") (some b) := by
  have g := DGet.k (k := .inr "ends") h
  rw [plain_e] at g
  exact g
def spMade (K : PySem.W.Frag) (C : Addr) : Sp := fun vs H Q _ => ∃ (p d : Addr) (x : Str) (t : List (List Nat)) (es : List Nat) (m : Nat), vs = [.ref p] ∧ Plain d H p x t es ∧ IsSet x m ∧ 1 ≤ m ∧ m ≤ 2 ∧ 1 ≤ t.length ∧ t.length ≤ 4 ∧
  ∀ (q : Addr) (H' : Hp), H q = none → Mach K C H' q x t es → Same H H' → Q (.ref q) H'
section
variable {P : Program} {w : World} {K : PySem.W.Frag} {mg : Str → Option Value} {base : Heap}
theorem ok_made {f g C c : Addr} {fd gd : FuncData} (F : Fun K "_law_made_machine" "_law_made_machine" sMade f fd) (G : C8.Fun K "__init__" "Machine.__init__" sInit g gd) (bG : Binds K gd nInit []) (MK : Mk K C g) (mC : mg "Machine" = some (.ref C)) (D : DefsT K mg) (DW : DefsW K mg) (W : TxW mg) (Zx : TxZ mg) (M : TxM mg) (TE : TxE K mg c) (TK : TxK K mg C) :
    FnOk P w K mg base CX0 6 f fd ["plain"] (spMade K C) := by
  have GI : FnOk P w K mg base CX0 4 g gd nInit (spInit K C) := ok_init G D DW W Zx TE TK
  refine F.ok scMade (fun vs H Q E h => ?_) (fun cdv A outer s H vs Q E hr h => ?_)
  · obtain ⟨p, d, x, t, es, m, rfl, _⟩ := h
    rfl
  · obtain ⟨p, d, x, t, es, m, rfl, ⟨⟨a, b, us, hp, ad, ha, R, bd, hb⟩, tb, up, lt⟩, hx, m1, m2, t1, t4, k⟩ := h
    have hu := hu_of hr
    refine ⟨_, pss_one (ps_ret (pe_make MK GI (hr.mono (by decide)) rfl mC bG .nil pass0 (pa_cons (pe_dget hu (pv 0) pe_str (fun _ _ => rfl)) (pa_cons (pe_callTy call_tuple_of (by rfl) M.tuple (by decide +kernel) (pa_cons (pe_dget hu (pv 0) pe_str (fun _ _ => rfl)) pa_nil)) (pa_cons (pe_callTy call_tuple_of (by rfl) M.tuple (by decide +kernel) (pa_cons (pe_dget hu (pv 0) pe_str (fun _ _ => rfl)) pa_nil)) pa_nil))))), ?_⟩
    refine ⟨_, rfl, p, _, rfl, get_l hp, _, rfl, p, _, rfl, get_t hp, a, us, rfl, .inl ⟨SqL.of ha, fun l1 n1 => ?_⟩⟩
    refine ⟨_, rfl, p, _, rfl, get_e (keep_new hp n1), b, nts es, rfl, .inl ⟨SqL.of (keep_new hb n1), fun l2 n2 => ?_⟩⟩
    have s2 : Same H (upd (upd H l1 (.tup us)) l2 (.tup (nts es))) := Same.new (Same.new (Same.refl H) n1) n2
    have f1 : (upd (upd H l1 (.tup us)) l2 (.tup (nts es))) l1 = some (.tup us) := keep_new upd_same n2
    have f2 : (upd (upd H l1 (.tup us)) l2 (.tup (nts es))) l2 = some (.tup (nts es)) := upd_same
    generalize upd (upd H l1 (.tup us)) l2 (.tup (nts es)) = H2 at s2 f1 f2 ⊢
    intro q dx nq ndx nex
    have s3 : Same H2 (upd (upd H2 dx (.own q)) q (.ins C dx [])) := Same.new (Same.new (Same.refl H2) ndx) (by rw [upd_ne (Ne.symm nex)]; exact nq)
    have T2 : Tups K H us t := tups_of R
    refine ⟨q, dx, l1, l2, x, us, t, es, t.length, m, rfl, upd_same, hx, m1, m2, SqT.of (s3 _ _ f1), (T2.same s2).same s3, ?_, t1, t4, SqT.of (s3 _ _ f2), up, lt, fun H' hq kp => ⟨rfl, ?_⟩⟩
    · rw [set_len hx] at tb
      exact tb
    · have s4 : Same H2 H' := fun c' o h => kp c' o (fun z => by rw [z, nq] at h; cases h) (s3 _ _ h)
      have hqH : H q = none := by
        cases e : H q with
        | none => rfl
        | some o =>
          have := s2 _ _ e
          rw [nq] at this
          cases this
      exact k q H' hqH ⟨dx, l1, l2, us, hq, SqT.of (s4 _ _ f1), (T2.same s2).same s4, SqT.of (s4 _ _ f2)⟩ (s2.trans s4)
end
end M3

set_option Elab.async false
set_option linter.all false
set_option maxRecDepth 100000
set_option maxHeartbeats 8000000
/-! # Numbers in lists -/
namespace M3
open PySem L2
theorem inV_nts (q : Nat) : ∀ es : List Nat, inV (.int q) (nts es) = decide (q ∈ es)
  | [] => by rfl
  | e :: es => by
    have ih := inV_nts q es
    show (((e : Int) == (q : Int)) || inV (.int q) (nts es)) = decide (q ∈ e :: es)
    rw [ih]
    by_cases h : q = e
    · subst h
      simp
    · have a : ((e : Int) == (q : Int)) = false := beq_eq_false_iff_ne.mpr (by omega)
      rw [a, Bool.false_or]
      by_cases hm : q ∈ es
      · rw [decide_eq_true hm, decide_eq_true (List.mem_cons_of_mem _ hm)]
      · rw [decide_eq_false hm, decide_eq_false (fun z => by
          rcases List.mem_cons.mp z with z | z
          · exact h z
          · exact hm z)]
theorem flat_nts : ∀ es : List Nat, (nts es).all flatV = true
  | [] => by rfl
  | _ :: es => by
    have ih := flat_nts es
    show (true && (nts es).all flatV) = true
    rw [ih]
    rfl
end M3

set_option Elab.async false
set_option linter.all false
set_option maxRecDepth 100000
set_option maxHeartbeats 8000000
/-! # Words repeated -/
namespace M3
open PySem L2
/-- the state behind k turns of the word -/
def iter (t : List (List Nat)) (x y : Str) : Nat → Nat
  | 0 => 0
  | k + 1 => goes t x (iter t x y k) y.cps.toList
theorem iter_lt {t : List (List Nat)} {x y : Str} {m : Nat} (tb : IsTab t t.length m) (hm : x.cps.toList.length = m) (t1 : 1 ≤ t.length) (hw : IsW x y) : ∀ k, iter t x y k < t.length
  | 0 => t1
  | k + 1 => goes_lt tb hm _ _ (iter_lt tb hm t1 hw k) hw
theorem iter_shift {t : List (List Nat)} {x y : Str} {i c : Nat} (h : iter t x y (i + c) = iter t x y i) : ∀ k, i ≤ k → iter t x y (k + c) = iter t x y k := by
  intro k hk
  obtain ⟨r, rfl⟩ := Nat.exists_eq_add_of_le hk
  induction r with
  | zero => exact h
  | succ r ih =>
    have e : i + (r + 1) + c = (i + r + c) + 1 := by omega
    rw [e]
    show goes t x (iter t x y (i + r + c)) y.cps.toList = goes t x (iter t x y (i + r)) y.cps.toList
    rw [ih (by omega)]
theorem iter_times {t : List (List Nat)} {x y : Str} {i c : Nat} (h : ∀ k, i ≤ k → iter t x y (k + c) = iter t x y k) : ∀ r k, i ≤ k → iter t x y (k + c * r) = iter t x y k
  | 0, k, _ => rfl
  | r + 1, k, hk => by
    have e : k + c * (r + 1) = (k + c * r) + c := by rw [Nat.mul_succ]; omega
    rw [e, h _ (by omega)]
    exact iter_times h r k hk
theorem pigeon {f : Nat → Nat} (h : ∀ k, f k < 4) : ∃ i j, i < j ∧ j ≤ 4 ∧ f i = f j := by
  have h0 := h 0
  have h1 := h 1
  have h2 := h 2
  have h3 := h 3
  have h4 := h 4
  by_cases a1 : f 0 = f 1
  · exact ⟨0, 1, by omega, by omega, a1⟩
  by_cases a2 : f 0 = f 2
  · exact ⟨0, 2, by omega, by omega, a2⟩
  by_cases a3 : f 0 = f 3
  · exact ⟨0, 3, by omega, by omega, a3⟩
  by_cases a4 : f 0 = f 4
  · exact ⟨0, 4, by omega, by omega, a4⟩
  by_cases b2 : f 1 = f 2
  · exact ⟨1, 2, by omega, by omega, b2⟩
  by_cases b3 : f 1 = f 3
  · exact ⟨1, 3, by omega, by omega, b3⟩
  by_cases b4 : f 1 = f 4
  · exact ⟨1, 4, by omega, by omega, b4⟩
  by_cases c3 : f 2 = f 3
  · exact ⟨2, 3, by omega, by omega, c3⟩
  by_cases c4 : f 2 = f 4
  · exact ⟨2, 4, by omega, by omega, c4⟩
  by_cases d4 : f 3 = f 4
  · exact ⟨3, 4, by omega, by omega, d4⟩
  omega
/-- behind six turns the states come again after twelve -/
theorem iter_12 {t : List (List Nat)} {x y : Str} (h : ∀ k, iter t x y k < 4) : ∀ k, 6 ≤ k → iter t x y (k + 12) = iter t x y k := by
  obtain ⟨i, j, ij, j4, e⟩ := pigeon h
  have e' : iter t x y (i + (j - i)) = iter t x y i := by
    have z : i + (j - i) = j := by omega
    rw [z, e]
  have s := iter_times (iter_shift e')
  intro k hk
  have c : ∃ r, 12 = (j - i) * r := by
    have : j - i = 1 ∨ j - i = 2 ∨ j - i = 3 ∨ j - i = 4 := by omega
    rcases this with q | q | q | q
    · exact ⟨12, by omega⟩
    · exact ⟨6, by omega⟩
    · exact ⟨4, by omega⟩
    · exact ⟨3, by omega⟩
  obtain ⟨r, hr⟩ := c
  have q := s r k (by omega)
  rw [← hr] at q
  exact q
theorem iter_mod {t : List (List Nat)} {x y : Str} (h : ∀ k, iter t x y k < 4) (k : Nat) (hk : 6 ≤ k) : iter t x y (6 + (k - 6) % 12) = iter t x y k := by
  have q := iter_times (i := 6) (c := 12) (iter_12 h) ((k - 6) / 12) (6 + (k - 6) % 12) (by omega)
  have e : 6 + (k - 6) % 12 + 12 * ((k - 6) / 12) = k := by omega
  rw [e] at q
  exact q.symm
def iters (t : List (List Nat)) (x y : Str) (n : Nat) : List Nat := (List.range n).map (iter t x y)
theorem iters_at {t : List (List Nat)} {x y : Str} {n k : Nat} (h : k < n) : atI (nts (iters t x y n)) (k : Int) = some (.int ((iter t x y k : Nat) : Int)) := by
  refine atI_nat ?_
  unfold nts iters
  rw [List.map_map, List.getElem?_map, List.getElem?_range h]
  rfl
theorem iters_last {t : List (List Nat)} {x y : Str} {n : Nat} : atI (nts (iters t x y (n + 1))) (-1) = some (.int ((iter t x y n : Nat) : Int)) := by
  have l : (nts (iters t x y (n + 1))).length = n + 1 := by
    rw [nts_length]
    unfold iters
    rw [List.length_map, List.length_range]
  have q := iters_at (t := t) (x := x) (y := y) (n := n + 1) (k := n) (by omega)
  unfold atI at q ⊢
  rw [l] at q ⊢
  have e1 : ixN (n + 1) (-1) = some n := by
    unfold ixN
    rw [if_neg (by omega), if_pos (by omega)]
    congr 1
    omega
  have e2 : ixN (n + 1) (n : Int) = some n := ixNat (by omega)
  rw [e2] at q
  rw [e1]
  exact q
end M3

set_option Elab.async false
set_option linter.all false
set_option maxRecDepth 100000
set_option maxHeartbeats 8000000
/-! # led_often: the states of a repeated word, until one comes again -/
namespace M3
open PySem L2
abbrev nOften : List Str := ["table", "letters", "start", "word", "times", "trail", "first_at", "goal", "back"]
/-- where each state of the trail stands -/
structure At (t : List (List Nat)) (x y : Str) (j : Nat) (kvs : List (Key × V)) : Prop where
  yes : ∀ i, i < j → valV kvs (.inl ((iter t x y i : Nat) : Int)) = some (.int (i : Nat))
  only : ∀ (q : Int) (v : V), valV kvs (.inl q) = some v → ∃ i : Nat, i < j ∧ q = ((iter t x y i : Nat) : Int) ∧ v = .int (i : Nat)
  len : kvs.length ≤ j
theorem At.le {t : List (List Nat)} {x y : Str} {j : Nat} {kvs : List (Key × V)} (h : At t x y j kvs) (l : ∀ k, iter t x y k < 4) : j ≤ 4 := by
  obtain ⟨a, b, ab, b4, e⟩ := pigeon l
  by_cases hj : j ≤ 4
  · exact hj
  · have h1 := h.yes a (by omega)
    have h2 := h.yes b (by omega)
    rw [e, h2] at h1
    have q : V.int (b : Nat) = V.int (a : Nat) := Option.some.inj h1
    have q' : ((b : Nat) : Int) = ((a : Nat) : Int) := by injection q
    omega
theorem At.one {t : List (List Nat)} {x y : Str} : At t x y 1 [(.inl 0, .int 0)] := by
  refine ⟨fun i hi => ?_, fun q v h => ?_, Nat.le_refl _⟩
  · have e : i = 0 := by omega
    subst e
    exact valV_pos rfl
  · by_cases e : q = 0
    · subst e
      rw [valV_pos rfl] at h
      exact ⟨0, by omega, rfl, (Option.some.inj h).symm⟩
    · rw [valV_neg (fun z => e (by injection z with z; exact z.symm)), valV_nil] at h
      cases h
theorem At.put {t : List (List Nat)} {x y : Str} {j : Nat} {kvs : List (Key × V)} (h : At t x y j kvs) (n : valV kvs (.inl ((iter t x y j : Nat) : Int)) = none) : At t x y (j + 1) (putK kvs (.inl ((iter t x y j : Nat) : Int)) (.int (j : Nat))) := by
  refine ⟨fun i hi => ?_, fun q v e => ?_, ?_⟩
  · rw [valV_put]
    by_cases c : (Sum.inl ((iter t x y i : Nat) : Int) : Key) = Sum.inl ((iter t x y j : Nat) : Int)
    · rw [if_pos c]
      by_cases ij : i = j
      · rw [ij]
      · have q := h.yes i (by omega)
        rw [c, n] at q
        cases q
    · rw [if_neg c]
      refine h.yes i ?_
      by_cases ij : i = j
      · rw [ij] at c
        exact absurd rfl c
      · omega
  · rw [valV_put] at e
    by_cases c : (Sum.inl q : Key) = Sum.inl ((iter t x y j : Nat) : Int)
    · rw [if_pos c] at e
      exact ⟨j, by omega, by injection c, (Option.some.inj e).symm⟩
    · rw [if_neg c] at e
      obtain ⟨i, h1, h2, h3⟩ := h.only q v e
      exact ⟨i, by omega, h2, h3⟩
  · rw [putK_new _ n, List.length_append]
    show kvs.length + 1 ≤ j + 1
    have := h.len
    omega
theorem iter_back {t : List (List Nat)} {x y : Str} {i j : Nat} (ij : i < j) (h : iter t x y j = iter t x y i) (k : Nat) (hk : j ≤ k) : iter t x y (i + (k - i) % (j - i)) = iter t x y k := by
  have e' : iter t x y (i + (j - i)) = iter t x y i := by
    have z : i + (j - i) = j := by omega
    rw [z, h]
  have s := iter_times (iter_shift e') ((k - i) / (j - i)) (i + (k - i) % (j - i)) (by omega)
  have d := Nat.mod_add_div (k - i) (j - i)
  have e : i + (k - i) % (j - i) + (j - i) * ((k - i) / (j - i)) = k := by omega
  rw [e] at s
  exact s.symm
def spOften (K : PySem.W.Frag) : Sp := fun vs H Q _ => ∃ (a : Addr) (x y : Str) (m k : Nat) (t : List (List Nat)) (us : List V), vs = [.ref a, .str x, .int 0, .str y, .int k] ∧ SqT K H a us ∧ Tups K H us t ∧ IsTab t t.length m ∧ IsSet x m ∧ m ≤ 2 ∧ IsW x y ∧ 1 ≤ t.length ∧ t.length ≤ 4 ∧
  ∀ H' : Hp, Same H H' → Q (.int ((iter t x y k : Nat) : Int)) H'
section
variable {P : Program} {w : World} {K : PySem.W.Frag} {mg : Str → Option Value} {base : Heap}
end
end M3

set_option Elab.async false
set_option linter.all false
set_option maxRecDepth 100000
set_option maxHeartbeats 8000000
/-! # The methods of a machine: in, len, after, the fields -/
namespace M3
open PySem L2
abbrev sContains : Stmt := inClass (top 33) 14
abbrev sLen : Stmt := inClass (top 33) 15
abbrev sPropL : Stmt := inClass (top 33) 1
abbrev sPropT : Stmt := inClass (top 33) 2
abbrev sPropE : Stmt := inClass (top 33) 3
theorem scContains : FnScope ["self", "x"] ["self", "x"] (defScope sContains) := ⟨rfl, rfl, rfl, by decide +kernel, rfl, by decide +kernel, by decide +kernel⟩
theorem scLen : FnScope ["self"] ["self"] (defScope sLen) := ⟨rfl, rfl, rfl, by decide +kernel, rfl, by decide +kernel, by decide +kernel⟩
theorem scPropL : FnScope ["self"] ["self"] (defScope sPropL) := ⟨rfl, rfl, rfl, by decide +kernel, rfl, by decide +kernel, by decide +kernel⟩
theorem scPropT : FnScope ["self"] ["self"] (defScope sPropT) := ⟨rfl, rfl, rfl, by decide +kernel, rfl, by decide +kernel, by decide +kernel⟩
theorem scPropE : FnScope ["self"] ["self"] (defScope sPropE) := ⟨rfl, rfl, rfl, by decide +kernel, rfl, by decide +kernel, by decide +kernel⟩
theorem ke1 : ¬ (("_letters" : Str) = "_ends") := by decide +kernel
theorem ke2 : ¬ (("_letters" : Str) = "_table") := by decide +kernel
theorem ke3 : ¬ (("_table" : Str) = "_ends") := by decide +kernel
theorem fld_l {x : Str} {a b : Addr} : (flds x a b).lookup ("_letters" : Str) = some (.str x) := by
  unfold flds
  rw [lookup_putF, if_neg ke1, lookup_putF, if_neg ke2, lookup_putF, if_pos rfl]
theorem fld_t {x : Str} {a b : Addr} : (flds x a b).lookup ("_table" : Str) = some (.ref a) := by
  unfold flds
  rw [lookup_putF, if_neg ke3, lookup_putF, if_pos rfl]
theorem fld_e {x : Str} {a b : Addr} : (flds x a b).lookup ("_ends" : Str) = some (.ref b) := by
  unfold flds
  rw [lookup_putF, if_pos rfl]
/-- what is right of a machine's letters, table and ends -/
structure Right (x : Str) (t : List (List Nat)) (es : List Nat) (m : Nat) : Prop where
  st : IsSet x m
  m1 : 1 ≤ m
  m2 : m ≤ 2
  tb : IsTab t t.length m
  t1 : 1 ≤ t.length
  t4 : t.length ≤ 4
  up : es.Pairwise (· < ·)
  lt : ∀ e ∈ es, e < t.length
theorem only_in {x y : Str} (h : only y x = true) : IsW x y := fun c hc => by
  unfold only at h
  exact of_decide_eq_true (List.all_eq_true.mp h c hc)
def spContains (K : PySem.W.Frag) (C : Addr) : Sp := fun vs H Q _ => ∃ (p : Addr) (v : V) (tv : Value) (b : Bool) (x : Str) (t : List (List Nat)) (es : List Nat) (m : Nat), vs = [.ref p, v] ∧ Mach K C H p x t es ∧ Right x t es m ∧ TyX K H v tv ∧ PySem.W.kitOne K tv (.type "str") = some b ∧
  (b = false → Q (.bl false) H) ∧ (b = true → ∃ y : Str, v = .str y ∧ y.length ≤ 1000000 ∧ ∀ H' : Hp, Same H H' → Q (.bl (only y "abcdefghijklmnopqrstuvwxyz" && (only y x && decide (goes t x 0 y.cps.toList ∈ es)))) H')
def spLen (K : PySem.W.Frag) (C : Addr) : Sp := fun vs H Q _ => ∃ (p : Addr) (x : Str) (t : List (List Nat)) (es : List Nat), vs = [.ref p] ∧ Mach K C H p x t es ∧ Q (.int (t.length : Nat)) H
/-- the letters are told -/
def spPropL (K : PySem.W.Frag) (C : Addr) : Sp := fun vs H Q _ => ∃ (p : Addr) (x : Str) (t : List (List Nat)) (es : List Nat), vs = [.ref p] ∧ Mach K C H p x t es ∧ Q (.str x) H
/-- the table is told: a tuple of tuples -/
def spPropT (K : PySem.W.Frag) (C : Addr) : Sp := fun vs H Q _ => ∃ (p : Addr) (x : Str) (t : List (List Nat)) (es : List Nat), vs = [.ref p] ∧ Mach K C H p x t es ∧ ∀ (a : Addr) (us : List V), SqT K H a us → Tups K H us t → Q (.ref a) H
/-- the ends are told: a tuple -/
def spPropE (K : PySem.W.Frag) (C : Addr) : Sp := fun vs H Q _ => ∃ (p : Addr) (x : Str) (t : List (List Nat)) (es : List Nat), vs = [.ref p] ∧ Mach K C H p x t es ∧ ∀ a : Addr, SqT K H a (nts es) → Q (.ref a) H
section
variable {P : Program} {w : World} {K : PySem.W.Frag} {mg : Str → Option Value} {base : Heap} {C : Addr}
theorem ok_contains {f g : Addr} {fd gd : FuncData} (F : Fun K "__contains__" "Machine.__contains__" sContains f fd) (DW : DefsW K mg) (G : Fun K "led" "led" sLed g gd) (bG : Binds K gd ["table", "letters", "start", "word"] []) (mG : mg "led" = some (.ref g)) (W : TxW mg) (TK : TxK K mg C) :
    FnOk P w K mg base CX0 3 f fd ["self", "x"] (spContains K C) := by
  have GW : FnOk P w K mg base CX0 2 DW.fW DW.dW ["value"] (spIsWord K) := ok_isword DW.W DW.O DW.bO DW.mO W
  have GO : FnOk P w K mg base CX0 1 DW.fO DW.dO ["word", "letters"] spHasOnly := ok_hasonly DW.O W
  have GL : FnOk P w K mg base CX0 1 g gd ["table", "letters", "start", "word"] (spLed K) := ok_led G
  refine F.ok scContains (fun vs H Q E h => ?_) (fun cdv A outer s H vs Q E hr h => ?_)
  · obtain ⟨p, v, tv, b, x, t, es, m, rfl, _⟩ := h
    rfl
  · obtain ⟨p, v, tv, b, x, t, es, m, rfl, M, R, ty, k1, q1, q2⟩ := h
    have hr2 : Room 2 _ := hr.mono (by decide)
    have hr1 : Room 1 _ := hr.mono (by decide)
    refine ⟨_, pss_cons (ps_if (PW.pt (pw_or (pt_not (pt_val (pe_call GW hr2 rfl DW.mW DW.W.kp DW.bW .nil pass0 (pa_cons (pv 1) pa_nil)))) (pw_or1 (pt_not (pt_val (pe_call GO hr1 rfl DW.mO DW.O.kp DW.bO .nil pass0 (pa_cons (pv 1) (pa_cons (pe_fld (pv 0) rfl) pa_nil)))))))) (pss_one (ps_ret pe_bl)) pss_nil)
      (pss_one (ps_ret (pe_cmpR op_in_seq (pe_call GL hr1 rfl mG G.kp bG .nil pass0 (pa_cons (pe_fld (pv 0) rfl) (pa_cons (pe_fld (pv 0) rfl) (pa_cons pe_int (pa_cons (pv 1) pa_nil))))) (pe_fld (pv 0) rfl) (by rfl)))), ?_⟩
    refine ⟨_, rfl, v, tv, b, rfl, ty, k1, fun e => ⟨_, rfl, ?_⟩, fun e => ?_⟩
    · exact iteT (iteT (q1 e))
    · obtain ⟨y, rfl, hy, q⟩ := q2 e
      refine ⟨y, rfl, hy, fun H1 s1 => ⟨_, rfl, ?_⟩⟩
      cases h1 : only y "abcdefghijklmnopqrstuvwxyz" with
      | false =>
        rw [h1] at q
        exact iteT (iteT (q H1 s1))
      | true =>
        rw [h1] at q
        refine iteF ?_
        obtain ⟨dx, a, b', us, i1, i2, i3, i4⟩ := M.same s1
        refine ⟨_, rfl, _, rfl, p, C, dx, _, _, rfl, i1, TK.cl, TK.nL, fld_l, y, x, rfl, hy, fun H2 s2 => ⟨_, rfl, ?_⟩⟩
        cases h2 : only y x with
        | false =>
          rw [h2] at q
          exact iteT (q H2 (s1.trans s2))
        | true =>
          rw [h2] at q
          refine iteF ?_
          refine ⟨_, rfl, p, C, dx, _, _, rfl, s2 _ _ i1, TK.cl, TK.nT, fld_t, _, rfl, p, C, dx, _, _, rfl, s2 _ _ i1, TK.cl, TK.nL, fld_l, _, rfl, a, x, y, 0, t.length, m, t, us, rfl, sqt_same s2 i2, i3.same s2, R.tb, R.st, R.m2, only_in h2, R.t1, ?_⟩
          refine ⟨_, rfl, p, C, dx, _, _, rfl, s2 _ _ i1, TK.cl, TK.nE, fld_e, b', nts es, rfl, .inr (sqt_same s2 i4), rfl, flat_nts es, ?_⟩
          rw [inV_nts]
          exact q H2 (s1.trans s2)
theorem ok_len {f : Addr} {fd : FuncData} (F : Fun K "__len__" "Machine.__len__" sLen f fd) (Zx : TxZ mg) (TK : TxK K mg C) : FnOk P w K mg base CX0 1 f fd ["self"] (spLen K C) := by
  refine F.ok scLen (fun vs H Q E h => ?_) (fun cdv A outer s H vs Q E hr h => ?_)
  · obtain ⟨p, x, t, es, rfl, _⟩ := h
    rfl
  · obtain ⟨p, x, t, es, rfl, ⟨dx, a, b, us, h1, h2, h3, h4⟩, k⟩ := h
    refine ⟨_, pss_one (ps_ret (pe_callB call_len_seq (by rfl) Zx.len PySem.boot_len (pa_cons (pe_fld (pv 0) rfl) pa_nil))), ?_⟩
    refine ⟨_, rfl, p, C, dx, _, _, rfl, h1, TK.cl, TK.nT, fld_t, a, us, rfl, .inr h2, ?_⟩
    rw [h3.1]
    exact k
theorem ok_propL {f : Addr} {fd : FuncData} (F : Fun K "letters" "Machine.letters" sPropL f fd) (TK : TxK K mg C) : FnOk P w K mg base CX0 1 f fd ["self"] (spPropL K C) := by
  refine F.ok scPropL (fun vs H Q E h => ?_) (fun cdv A outer s H vs Q E hr h => ?_)
  · obtain ⟨p, x, t, es, rfl, _⟩ := h
    rfl
  · obtain ⟨p, x, t, es, rfl, ⟨dx, a, b, us, h1, h2, h3, h4⟩, k⟩ := h
    refine ⟨_, pss_one (ps_ret (pe_fld (pv 0) rfl)), ?_⟩
    exact ⟨_, rfl, p, C, dx, _, _, rfl, h1, TK.cl, TK.nL, fld_l, k⟩
theorem ok_propT {f : Addr} {fd : FuncData} (F : Fun K "table" "Machine.table" sPropT f fd) (TK : TxK K mg C) : FnOk P w K mg base CX0 1 f fd ["self"] (spPropT K C) := by
  refine F.ok scPropT (fun vs H Q E h => ?_) (fun cdv A outer s H vs Q E hr h => ?_)
  · obtain ⟨p, x, t, es, rfl, _⟩ := h
    rfl
  · obtain ⟨p, x, t, es, rfl, ⟨dx, a, b, us, h1, h2, h3, h4⟩, k⟩ := h
    refine ⟨_, pss_one (ps_ret (pe_fld (pv 0) rfl)), ?_⟩
    exact ⟨_, rfl, p, C, dx, _, _, rfl, h1, TK.cl, TK.nT, fld_t, k a us h2 h3⟩
theorem ok_propE {f : Addr} {fd : FuncData} (F : Fun K "ends" "Machine.ends" sPropE f fd) (TK : TxK K mg C) : FnOk P w K mg base CX0 1 f fd ["self"] (spPropE K C) := by
  refine F.ok scPropE (fun vs H Q E h => ?_) (fun cdv A outer s H vs Q E hr h => ?_)
  · obtain ⟨p, x, t, es, rfl, _⟩ := h
    rfl
  · obtain ⟨p, x, t, es, rfl, ⟨dx, a, b, us, h1, h2, h3, h4⟩, k⟩ := h
    refine ⟨_, pss_one (ps_ret (pe_fld (pv 0) rfl)), ?_⟩
    exact ⟨_, rfl, p, C, dx, _, _, rfl, h1, TK.cl, TK.nE, fld_e, k b h4⟩
end
end M3

set_option Elab.async false
set_option linter.all false
set_option maxRecDepth 100000
set_option maxHeartbeats 8000000
/-! # check_word, Machine.after -/
namespace M3
open PySem L2
/-- an own error of the package over TurnError, raised: its facts -/
structure TxR (K : PySem.W.Frag) (mg : Str → Option Value) (nm : Str) (c : Addr) : Prop where
  x : PySem.W.excIn K c [.type "ValueError", .type "Exception", .type "BaseException", .type "object"] "ValueError.__new__" = true
  g : mg nm = some (.ref c)
  k : PySem.W.keepIn K (.ref c) = true
  b : PySem.W.subIn K (.ref c) (.type "BaseException") = some true
  t : PySem.W.typeIn K (.ref c) = some (.type "type")
/-- InvalidNumber, raised: it keeps what it takes -/
structure TxN (P : Program) (K : PySem.W.Frag) (mg : Str → Option Value) (c : Addr) : Prop where
  tx : ∃ (fI : Addr) (B i B0 newId : String) (qual : Str), PySem.NvE.InitTxt P K c fI B i B0 newId "value" qual
  g : mg "InvalidNumber" = some (.ref c)
  k : PySem.W.keepIn K (.ref c) = true
  b : PySem.W.subIn K (.ref c) (.type "BaseException") = some true
  t : PySem.W.typeIn K (.ref c) = some (.type "type")
theorem keepN {P : Program} {K : PySem.W.Frag} {mg : Str → Option Value} {c : Addr} (T : TxN P K mg c) {X : Cx} (h1 : X.prog = P) (h2 : X.K = K) (h3 : X.mg = mg) : KeepC X "InvalidNumber" c "value" := by
  subst h1 h2 h3
  exact ⟨T.tx, T.g, T.k, T.b, T.t⟩
def spCheck : Sp := fun vs H Q _ => ∃ y : Str, vs = [.str y] ∧ y.length ≤ 1000000 ∧ only y "abcdefghijklmnopqrstuvwxyz" = true ∧ ∀ H' : Hp, Same H H' → Q .non H'
def spOnlyC : Sp := fun vs H Q _ => ∃ y x : Str, vs = [.str y, .str x] ∧ y.length ≤ 1000000 ∧ only y x = true ∧ ∀ H' : Hp, Same H H' → Q .non H'
def spAfter (K : PySem.W.Frag) (C : Addr) : Sp := fun vs H Q _ => ∃ (p : Addr) (x y : Str) (t : List (List Nat)) (es : List Nat) (m k : Nat), vs = [.ref p, .str y, .int k] ∧ Mach K C H p x t es ∧ Right x t es m ∧ IsW x y ∧ only y "abcdefghijklmnopqrstuvwxyz" = true ∧ y.length ≤ 1000000 ∧ k ≤ 100000000000 ∧
  ∀ H' : Hp, Same H H' → Q (.int ((iter t x y k : Nat) : Int)) H'
section
variable {P : Program} {w : World} {K : PySem.W.Frag} {mg : Str → Option Value} {base : Heap} {C : Addr}
theorem only_of {x y : Str} (h : IsW x y) : only y x = true := by
  unfold only
  rw [List.all_eq_true]
  intro c hc
  exact decide_eq_true (h c hc)
end
end M3

set_option Elab.async false
set_option linter.all false
set_option maxRecDepth 100000
set_option maxHeartbeats 8000000
/-! # Machine.__eq__ as a def -/
namespace M3
open PySem L2
abbrev sEq : Stmt := inClass (top 33) 16
theorem scEq : FnScope ["self", "other"] ["self", "other"] (defScope sEq) := ⟨rfl, rfl, rfl, by decide +kernel, rfl, by decide +kernel, by decide +kernel⟩
def dN (es : List Nat) : PyData := .tuple (es.map fun n => .int ((n : Nat) : Int))
def dT (t : List (List Nat)) : PyData := .tuple (t.map dN)
def dM (x : Str) (t : List (List Nat)) (es : List Nat) : PyData := .tuple [.str x, dT t, dN es]
theorem eqv_nats : ∀ a b : List Nat, PyData.eqvAll (a.map fun n => .int ((n : Nat) : Int)) (b.map fun n => .int ((n : Nat) : Int)) = decide (a = b)
  | [], [] => by simp [PyData.eqvAll]
  | [], _ :: _ => by simp [PyData.eqvAll]
  | _ :: _, [] => by simp [PyData.eqvAll]
  | x :: a, y :: b => by
    have ih := eqv_nats a b
    simp only [List.map_cons, PyData.eqvAll, PyData.eqv, ih]
    by_cases h : x = y
    · subst h
      by_cases h2 : a = b
      · subst h2
        simp
      · simp [h2]
    · have n : ¬ ((x : Int) = (y : Int)) := fun z => h (by omega)
      simp [h, n]
theorem eqv_dN (a b : List Nat) : (dN a).eqv (dN b) = decide (a = b) := by
  unfold dN
  rw [PyData.eqv]
  exact eqv_nats a b
theorem eqv_tabs : ∀ a b : List (List Nat), PyData.eqvAll (a.map dN) (b.map dN) = decide (a = b)
  | [], [] => by simp [PyData.eqvAll]
  | [], _ :: _ => by simp [PyData.eqvAll]
  | _ :: _, [] => by simp [PyData.eqvAll]
  | x :: a, y :: b => by
    have ih := eqv_tabs a b
    simp only [List.map_cons, PyData.eqvAll, eqv_dN, ih]
    by_cases h : x = y
    · subst h
      by_cases h2 : a = b
      · subst h2
        simp
      · simp [h2]
    · simp [h]
theorem eqv_dM (x y : Str) (t s : List (List Nat)) (a b : List Nat) : (dM x t a).eqv (dM y s b) = (decide (x = y) && (decide (t = s) && decide (a = b))) := by
  unfold dM
  rw [PyData.eqv]
  simp only [PyData.eqvAll, eqv_dN]
  have e : (dT t).eqv (dT s) = decide (t = s) := by
    unfold dT
    rw [PyData.eqv]
    exact eqv_tabs t s
  rw [e]
  simp only [PyData.eqv, Bool.and_true]
  congr 1
theorem dp_nats {K : PySem.W.Frag} {H : Hp} : ∀ es : List Nat, DpAll K H (nts es) (es.map fun n => .int ((n : Nat) : Int))
  | [] => .nil
  | _ :: es => .cons (.int _) (dp_nats es)
theorem dp_rows {K : PySem.W.Frag} {H : Hp} : ∀ (t : List (List Nat)) (us : List V), Tups K H us t → DpAll K H us (t.map dN)
  | [], us, h => by
    have e : us = [] := List.eq_nil_of_length_eq_zero h.1
    subst e
    exact .nil
  | r :: t, us, h => by
    obtain ⟨b, b1, b2⟩ := h.2 0 r rfl
    match us, h, b1 with
    | u :: us, h, b1 =>
      have e : u = .ref b := Option.some.inj b1
      subst e
      have l : us.length = t.length := by
        have := h.1
        simpa using this
      exact .cons (.tup b2 (dp_nats r)) (dp_rows t us ⟨l, fun i r' hr => h.2 (i + 1) r' hr⟩)
theorem lay_nats : ∀ es : List Nat, PyData.canLayAll0 (es.map fun n => .int ((n : Nat) : Int)) = true
  | [] => by rfl
  | _ :: es => by
    have ih := lay_nats es
    simp only [List.map_cons, PyData.canLayAll0, PyData.canLay0, ih, Bool.and_self]
theorem lay_dN (es : List Nat) : (dN es).canLay0 = true := by
  unfold dN
  simp only [PyData.canLay0, lay_nats]
theorem lay_rows : ∀ t : List (List Nat), PyData.canLayAll0 (t.map dN) = true
  | [] => by rfl
  | _ :: t => by
    have ih := lay_rows t
    simp only [List.map_cons, PyData.canLayAll0, lay_dN, ih, Bool.and_self]
theorem dep_nats : ∀ es : List Nat, PyData.depthAll (es.map fun n => .int ((n : Nat) : Int)) = 0
  | [] => by rfl
  | _ :: es => by
    have ih := dep_nats es
    simp only [List.map_cons, PyData.depthAll, PyData.depth, ih, Nat.max_self]
theorem dep_dN (es : List Nat) : (dN es).depth = 1 := by
  unfold dN
  simp only [PyData.depth, dep_nats]
theorem dep_rows : ∀ t : List (List Nat), PyData.depthAll (t.map dN) ≤ 1
  | [] => by simp [PyData.depthAll]
  | _ :: t => by
    have ih := dep_rows t
    simp only [List.map_cons, PyData.depthAll, dep_dN]
    omega
theorem set_ok {x : Str} {m : Nat} (h : IsSet x m) : PyData.strOk x = true := by
  obtain ⟨cs, rfl, _, _, hm⟩ := h
  show (cs.toArray.all fun c => decide (c < 1114112)) = true
  rw [List.all_toArray, List.all_eq_true]
  intro c hc
  have := hm c hc
  refine decide_eq_true ?_
  simp only [List.mem_cons, List.not_mem_nil, or_false] at this
  omega
theorem shaped_dM {x : Str} {t : List (List Nat)} {es : List Nat} {m : Nat} (h : IsSet x m) : SeqAt.shaped (dM x t es) = true := by
  unfold SeqAt.shaped
  have h1 : (dM x t es).canLay0 = true := by
    unfold dM dT
    simp only [PyData.canLay0, PyData.canLayAll0, lay_rows, lay_dN, set_ok h, Bool.and_self]
  have h2 : (dM x t es).depth ≤ 64 := by
    have r := dep_rows t
    unfold dM dT
    simp only [PyData.depth, PyData.depthAll, dep_dN]
    omega
  rw [h1, decide_eq_true h2]
  rfl
def spEq (K : PySem.W.Frag) (C : Addr) : Sp := fun vs H Q _ => ∃ (p : Addr) (v : V) (tv : Value) (b : Bool) (x : Str) (t : List (List Nat)) (es : List Nat) (m : Nat), vs = [.ref p, v] ∧ Mach K C H p x t es ∧ Right x t es m ∧ TyX K H v tv ∧ PySem.W.kitOne K tv (.ref C) = some b ∧
  (b = false → Q (.bl false) H) ∧ (b = true → ∃ (q : Addr) (y : Str) (s : List (List Nat)) (es' : List Nat) (m' : Nat), v = .ref q ∧ Mach K C H q y s es' ∧ Right y s es' m' ∧ ∀ H' : Hp, Same H H' → Q (.bl (decide (x = y) && (decide (t = s) && decide (es = es')))) H')
section
variable {P : Program} {w : World} {K : PySem.W.Frag} {mg : Str → Option Value} {base : Heap} {C : Addr}
theorem ok_eq {f : Addr} {fd : FuncData} (F : Fun K "__eq__" "Machine.__eq__" sEq f fd) (W : TxW mg) (TK : TxK K mg C) (mC : mg "Machine" = some (.ref C)) : FnOk P w K mg base CX0 1 f fd ["self", "other"] (spEq K C) := by
  refine F.ok scEq (fun vs H Q E h => ?_) (fun cdv A outer s H vs Q E hr h => ?_)
  · obtain ⟨p, v, tv, b, x, t, es, m, rfl, _⟩ := h
    rfl
  · obtain ⟨p, v, tv, b, x, t, es, m, rfl, M, R, ty, k1, q1, q2⟩ := h
    refine ⟨_, pss_cons (ps_if (pt_not (pt_val (pe_callB call_isi (by rfl) W.isi (by decide +kernel) (pa_cons (pv 1) (pa_cons (pe_glob (v := .ref C) rfl mC rfl) pa_nil))))) (pss_one (ps_ret pe_bl)) pss_nil)
      (pss_one (ps_ret (pe_cmpR (op_eqD hr.units) (pe_tup (pa_cons (pe_fld (pv 0) rfl) (pa_cons (pe_fld (pv 0) rfl) (pa_cons (pe_fld (pv 0) rfl) pa_nil)))) (pe_tup (pa_cons (pe_fld (pv 1) rfl) (pa_cons (pe_fld (pv 1) rfl) (pa_cons (pe_fld (pv 1) rfl) pa_nil)))) (nomark _)))), ?_⟩
    refine ⟨_, rfl, v, .ref C, tv, .ref C, b, rfl, .own C, ty, k1, _, rfl, ?_⟩
    cases b with
    | false => exact iteT (q1 rfl)
    | true =>
      obtain ⟨q, y, s, es', m', rfl, M', R', k⟩ := q2 rfl
      refine iteF ?_
      obtain ⟨dx, a, b, us, i1, i2, i3, i4⟩ := id M
      obtain ⟨dx', a', b', us', j1, j2, j3, j4⟩ := id M'
      refine ⟨_, rfl, p, C, dx, _, _, rfl, i1, TK.cl, TK.nL, fld_l, _, rfl, p, C, dx, _, _, rfl, i1, TK.cl, TK.nT, fld_t, _, rfl, p, C, dx, _, _, rfl, i1, TK.cl, TK.nE, fld_e, (by show 3 ≤ sizeLine; decide), fun T1 n1 => ?_⟩
      have s1 : Same H (upd H T1 (.tup [.str x, .ref a, .ref b])) := Same.new (Same.refl H) n1
      refine ⟨_, rfl, q, C, dx', _, _, rfl, s1 _ _ j1, TK.cl, TK.nL, fld_l, _, rfl, q, C, dx', _, _, rfl, s1 _ _ j1, TK.cl, TK.nT, fld_t, _, rfl, q, C, dx', _, _, rfl, s1 _ _ j1, TK.cl, TK.nE, fld_e, (by show 3 ≤ sizeLine; decide), fun T2 n2 => ?_⟩
      have s2 : Same H (upd (upd H T1 (.tup [.str x, .ref a, .ref b])) T2 (.tup [.str y, .ref a', .ref b'])) := Same.new s1 n2
      refine ⟨dM x t es, dM y s es', .tup (SqT.of (keep_new upd_same n2)) (.cons (.str x) (.cons (.tup (sqt_same s2 i2) (dp_rows t us (i3.same s2))) (.cons (.tup (sqt_same s2 i4) (dp_nats es)) .nil))),
        .tup (SqT.of upd_same) (.cons (.str y) (.cons (.tup (sqt_same s2 j2) (dp_rows s us' (j3.same s2))) (.cons (.tup (sqt_same s2 j4) (dp_nats es')) .nil))), shaped_dM R.st, shaped_dM R'.st, ?_⟩
      rw [eqv_dM]
      exact k _ s2
end
end M3

set_option Elab.async false
set_option linter.all false
set_option maxRecDepth 100000
set_option maxHeartbeats 8000000
/-! # Actions: one behind the other, of no letter, one letter further -/
namespace M3
open PySem L2
abbrev sUnmoved : Stmt := top 40
abbrev sLedOn : Stmt := top 41
abbrev nComposed : List Str := ["first", "second", "state"]
abbrev nLedOn : List Str := ["table", "states", "column", "state"]
theorem scUnmoved : FnScope ["table"] ["table"] (defScope sUnmoved) := ⟨rfl, rfl, rfl, by decide +kernel, rfl, by decide +kernel, by decide +kernel⟩
theorem scLedOn : FnScope nLedOn ["table", "states", "column"] (defScope sLedOn) := ⟨rfl, rfl, rfl, by decide +kernel, rfl, by decide +kernel, by decide +kernel⟩
/-- one action behind another one -/
def comp (fs gs : List Nat) : List Nat := fs.map fun q => gs.getD q 0
/-- a letter further, by its column -/
def ledon (t : List (List Nat)) (fs : List Nat) (c : Nat) : List Nat := fs.map fun q => (t.getD q []).getD c 0
def spComposed (K : PySem.W.Frag) : Sp := fun vs H Q _ => ∃ (a b : Addr) (fs gs : List Nat), vs = [.ref a, .ref b] ∧ SqT K H a (nts fs) ∧ SqT K H b (nts gs) ∧ (∀ q ∈ fs, q < gs.length) ∧ fs.length ≤ 1000 ∧
  ∀ (p : Addr) (H' : Hp), H p = none → H' p = some (.tup (nts (comp fs gs))) → Same H H' → Q (.ref p) H'
def spUnmoved (K : PySem.W.Frag) : Sp := fun vs H Q _ => ∃ (a : Addr) (us : List V), vs = [.ref a] ∧ SqT K H a us ∧ us.length ≤ 1000 ∧
  ∀ (p : Addr) (H' : Hp), H p = none → H' p = some (.tup (nts (List.range us.length))) → Same H H' → Q (.ref p) H'
def spLedOn (K : PySem.W.Frag) : Sp := fun vs H Q _ => ∃ (a b : Addr) (us : List V) (t : List (List Nat)) (fs : List Nat) (c m : Nat), vs = [.ref a, .ref b, .int c] ∧ SqT K H a us ∧ Tups K H us t ∧ IsTab t t.length m ∧ SqT K H b (nts fs) ∧ (∀ q ∈ fs, q < t.length) ∧ fs.length ≤ 1000 ∧ c < m ∧
  ∀ (p : Addr) (H' : Hp), H p = none → H' p = some (.tup (nts (ledon t fs c))) → Same H H' → Q (.ref p) H'
section
variable {P : Program} {w : World} {K : PySem.W.Frag} {mg : Str → Option Value} {base : Heap}
theorem map_take_snoc {α β : Type} {f : α → β} {l : List α} {i : Nat} (h : i < l.length) : (l.take (i + 1)).map f = (l.take i).map f ++ [f l[i]] := by
  rw [take_snoc (List.getElem?_eq_getElem h), List.map_append]
  rfl
theorem nts_at' {r : List Nat} {j : Nat} (h : j < r.length) : atI (nts r) (j : Int) = some (.int (r.getD j 0)) := nts_at h
theorem ok_unmoved {f : Addr} {fd : FuncData} (F : Fun K "unmoved" "unmoved" sUnmoved f fd) (M : TxM mg) : FnOk P w K mg base CX0 1 f fd ["table"] (spUnmoved K) := by
  refine F.ok scUnmoved (fun vs H Q E h => ?_) (fun cdv A outer s H vs Q E hr h => ?_)
  · obtain ⟨a, us, rfl, _⟩ := h
    rfl
  · obtain ⟨a, us, rfl, ha, hl, k⟩ := h
    refine ⟨_, pss_one (ps_ret (pe_tupRg rfl rfl M.tuple (prg_1 rfl M.range (pe_callB call_len_seq (by rfl) M.len PySem.boot_len (pa_cons (pv 0) pa_nil))))), ?_⟩
    refine ⟨_, rfl, a, us, rfl, .inr ha, _, rfl, .of_le (by decide) (by omega) (by decide) (by omega), fun p np => ?_⟩
    rw [rgV_nats]
    exact k p _ np upd_same (Same.new (Same.refl H) np)
theorem ok_ledon {f : Addr} {fd : FuncData} (F : Fun K "led_on" "led_on" sLedOn f fd) (M : TxM mg) : FnOk P w K mg base CX0 1 f fd ["table", "states", "column"] (spLedOn K) := by
  refine F.ok scLedOn (fun vs H Q E h => ?_) (fun cdv A outer s H vs Q E hr h => ?_)
  · obtain ⟨a, b, us, t, fs, c, m, rfl, _⟩ := h
    rfl
  · obtain ⟨a, b, us, t, fs, c, m, rfl, ha, hT, tb, hb, hq, hl, hc, k⟩ := h
    refine ⟨_, pss_one (ps_ret (pe_callTy call_tuple_of (by rfl) M.tuple (by decide +kernel) (pa_cons (pe_lc (own := [("state", 3)]) (g := gName 3) (tt := tYes) (te := tOp (rIxT K) (tOp (rIxT K) (tVar 0) (tVar 3)) (tVar 2)) rfl scLedOn.nd (pi_tup (pv 1)) (blkOk_by (N := nLedOn) (sc := defScope sLedOn) (by decide +kernel)) (fun _ _ _ _ _ => pg_name (i := 3) scLedOn.nd rfl (Or.inl rfl)) (fun _ _ _ _ _ => pts_nil)
      (fun _ _ _ _ _ => pe_ix ix_tup (pe_ix ix_tup (pv 0) (pv 3) (fun _ _ => rfl)) (pv 2) (fun _ _ => rfl))) pa_nil))), ?_⟩
    refine ⟨_, rfl, b, rfl, ⟨_, hb⟩, fun D nD => ?_⟩
    have sm : ∀ {H9 : Hp}, (∀ b' o, b' ≠ D → H b' = some o → H9 b' = some o) → Same H H9 := fun z b' o h => z b' o (fun q => by rw [q, nD] at h; cases h) h
    refine lc_tup (K := K) (a := b) (xs := nts fs) (fun j H9 => H9 D = some (.lst (nts (ledon t (fs.take j) c))) ∧ ∀ b' o, b' ≠ D → H b' = some o → H9 b' = some o)
      ⟨upd_same, fun b' o hb' h => keep_new h nD⟩ (fun i H9 _ ⟨_, z⟩ => sqt_same (sm z) hb) ?_ ?_
    · rintro i v H9 hv ⟨q1, q2⟩
      have hi : i < fs.length := by
        have := (List.getElem?_eq_some_iff.mp hv).1
        rw [nts_length] at this
        exact this
      unfold nts at hv
      rw [List.getElem?_map, List.getElem?_eq_getElem hi] at hv
      cases hv
      refine ⟨rfl, tYes_if ?_⟩
      have hp := hq fs[i] (List.getElem_mem hi)
      obtain ⟨b', b1, b2⟩ := hT.2 fs[i] t[fs[i]] (List.getElem?_eq_getElem hp)
      have s9 := sm q2
      have hc2 : c < t[fs[i]].length := by
        rw [(tb.2 _ (List.getElem_mem hp)).1]
        exact hc
      have ed : t.getD fs[i] [] = t[fs[i]] := by simp [List.getD, List.getElem?_eq_getElem hp]
      refine ⟨_, rfl, _, rfl, a, us, _, .ref b', rfl, rfl, sqt_same s9 ha, atI_nat b1, _, rfl, b', nts t[fs[i]], _, _, rfl, rfl, sqt_same s9 b2, nts_at hc2, _, q1, ?_, ?_, fun b'' o hb' h => by rw [upd_ne hb']; exact q2 b'' o hb' h⟩
      · unfold ledon
        rw [nts_length, List.length_map, List.length_take]
        exact Nat.lt_of_le_of_lt (show _ ≤ 1000 by omega) (by decide)
      · rw [upd_same]
        unfold ledon nts
        rw [map_take_snoc hi, List.map_append, ed]
        rfl
    · rintro H9 ⟨q1, q2⟩
      have et : fs.take (nts fs).length = fs := by
        rw [nts_length]
        exact List.take_length
      rw [et] at q1
      refine ⟨D, _, rfl, .inl ⟨SqL.of q1, fun l hl9 => ?_⟩⟩
      have s9 := sm q2
      have hl0 : H l = none := by
        cases e : H l with
        | none => rfl
        | some o =>
          have := s9 _ _ e
          rw [hl9] at this
          cases this
      exact k l _ hl0 upd_same (Same.new s9 hl9)
end
end M3

set_option Elab.async false
set_option linter.all false
set_option maxRecDepth 100000
set_option maxHeartbeats 8000000
/-! # The action of a word -/
namespace M3
open PySem L2
/-- where the letters lead each state -/
def act (t : List (List Nat)) (x : Str) (cs : List Nat) : List Nat := (List.range t.length).map fun q => goes t x q cs
theorem act_nil {t : List (List Nat)} {x : Str} : act t x [] = List.range t.length := by
  unfold act
  rw [show (fun q => goes t x q []) = id from rfl, List.map_id]
theorem act_snoc {t : List (List Nat)} {x : Str} {cs : List Nat} {c : Nat} : act t x (cs ++ [c]) = ledon t (act t x cs) (x.cps.toList.idxOf c) := by
  unfold act ledon
  rw [List.map_map]
  refine List.map_congr_left fun q _ => ?_
  rw [goes_snoc]
  rfl
theorem act_lt {t : List (List Nat)} {x : Str} {m : Nat} (tb : IsTab t t.length m) (hm : x.cps.toList.length = m) {cs : List Nat} (hw : ∀ c ∈ cs, c ∈ x.cps.toList) : ∀ z ∈ act t x cs, z < t.length := by
  intro z hz
  unfold act at hz
  obtain ⟨q, hq, rfl⟩ := List.mem_map.mp hz
  exact goes_lt tb hm _ _ (List.mem_range.mp hq) hw
theorem ledon_lt {t : List (List Nat)} {m c : Nat} (tb : IsTab t t.length m) (hc : c < m) {fs : List Nat} (hf : ∀ z ∈ fs, z < t.length) : ∀ z ∈ ledon t fs c, z < t.length := by
  intro z hz
  unfold ledon at hz
  obtain ⟨q, hq, rfl⟩ := List.mem_map.mp hz
  have hp := hf q hq
  have ed : t.getD q [] = t[q] := by simp [List.getD, List.getElem?_eq_getElem hp]
  obtain ⟨e1, e2⟩ := tb.2 t[q] (List.getElem_mem hp)
  rw [ed]
  have hc2 : c < t[q].length := by rw [e1]; exact hc
  have eg : t[q].getD c 0 = t[q][c] := by simp [List.getD, List.getElem?_eq_getElem hc2]
  rw [eg]
  exact e2 _ (List.getElem_mem hc2)
/-- a tuple of numbers as a key -/
def key (fs : List Nat) : List Key := fs.map fun q => (Sum.inl ((q : Nat) : Int) : Key)
theorem key_tup (fs : List Nat) : (key fs).map kV = nts fs := by
  unfold key nts
  rw [List.map_map]
  rfl
theorem key_inj {fs gs : List Nat} (h : key fs = key gs) : fs = gs := by
  induction fs generalizing gs with
  | nil =>
    cases gs with
    | nil => rfl
    | cons g gs => cases h
  | cons f fs ih =>
    cases gs with
    | nil => cases h
    | cons g gs =>
      have h : (Sum.inl ((f : Nat) : Int) : Key) :: key fs = Sum.inl ((g : Nat) : Int) :: key gs := h
      injection h with h1 h2
      injection h1 with h1
      have e : f = g := by omega
      rw [e, ih h2]
/-- actions that stand as tuples -/
def RowsA (H : Hp) (us : List V) (F : List (List Nat)) : Prop := us.length = F.length ∧ ∀ (i : Nat) (r : List Nat), F[i]? = some r → ∃ b : Addr, us[i]? = some (.ref b) ∧ H b = some (.tup (nts r))
theorem RowsA.to {H H' : Hp} {us : List V} {F : List (List Nat)} (h : RowsA H us F) (k : ∀ b ys, H b = some (.tup ys) → H' b = some (.tup ys)) : RowsA H' us F := ⟨h.1, fun i r e => by
  obtain ⟨b, b1, b2⟩ := h.2 i r e
  exact ⟨b, b1, k _ _ b2⟩⟩
theorem RowsA.snoc {H : Hp} {us : List V} {F : List (List Nat)} {b : Addr} {r : List Nat} (h : RowsA H us F) (hb : H b = some (.tup (nts r))) : RowsA H (us ++ [.ref b]) (F ++ [r]) := by
  refine ⟨by rw [List.length_append, List.length_append, h.1]; rfl, fun i r' e => ?_⟩
  rcases snoc_at e with e | ⟨rfl, rfl⟩
  · obtain ⟨b', b1, b2⟩ := h.2 i r' e
    refine ⟨b', ?_, b2⟩
    rw [List.getElem?_append_left (List.getElem?_eq_some_iff.mp b1).1]
    exact b1
  · refine ⟨b, ?_, hb⟩
    rw [← h.1, List.getElem?_append_right (Nat.le_refl _), Nat.sub_self]
    rfl
/-- the dict that numbers the found actions -/
structure NumsA (kvs : List (List Key × V)) (F : List (List Nat)) : Prop where
  only : ∀ (k : List Key) (v : V), valV kvs k = some v → ∃ i r, F[i]? = some r ∧ k = key r ∧ v = .int ((i : Nat) : Int)
  len : kvs.length ≤ F.length
theorem putT_len {kvs : List (List Key × V)} {k : List Key} {v : V} : (putK kvs k v).length ≤ kvs.length + 1 := by
  unfold putK
  split
  · rw [List.length_map]
    omega
  · rw [List.length_append]
    exact Nat.le_refl _
theorem NumsA.put {kvs : List (List Key × V)} {F : List (List Nat)} {r : List Nat} (h : NumsA kvs F) : NumsA (putK kvs (key r) (.int ((F.length : Nat) : Int))) (F ++ [r]) := by
  refine ⟨fun k v e => ?_, ?_⟩
  · rw [valV_put] at e
    by_cases c : k = key r
    · rw [if_pos c] at e
      refine ⟨F.length, r, ?_, c, (Option.some.inj e).symm⟩
      rw [List.getElem?_append_right (Nat.le_refl _), Nat.sub_self]
      rfl
    · rw [if_neg c] at e
      obtain ⟨i, r', h1, h2, h3⟩ := h.only k v e
      refine ⟨i, r', ?_, h2, h3⟩
      rw [List.getElem?_append_left (List.getElem?_eq_some_iff.mp h1).1]
      exact h1
  · have := putT_len (kvs := kvs) (k := key r) (v := V.int ((F.length : Nat) : Int))
    have := h.len
    rw [List.length_append]
    show _ ≤ F.length + 1
    omega
theorem at_app {α : Type} {F : List α} {i : Nat} {r : α} (h : F[i]? = some r) (s : α) : (F ++ [s])[i]? = some r := by
  rw [List.getElem?_append_left (List.getElem?_eq_some_iff.mp h).1]
  exact h
section
variable {P : Program} {w : World} {K : PySem.W.Frag} {mg : Str → Option Value} {base : Heap}
end
end M3

set_option Elab.async false
set_option linter.all false
set_option maxRecDepth 100000
set_option maxHeartbeats 2000000
/-! # A lambda with parameters and captured names, handed to a def that calls it -/
namespace NvK
open PySem PySem.Spec PyProof.Rows L2 LamX NdefX
/-- a lambda's words, the cells that it captured, its code object -/
structure LF where
  qual : Str
  params : Arguments
  body : Expr
  scope : Scope
  cl : List (Str × Addr)
  c : Addr
/-- .. as a def without a body: for its frame -/
abbrev LF.nf (F : LF) : NF := ⟨"<lambda>", F.qual, F.params, [], F.scope, F.cl, F.c⟩
/-- the object at f is the lambda F -/
def LamO (f : Addr) (F : LF) : HO := .ext fun h => ∃ (pm ctv : Value), h.get? f = some (PySem.W.kla_obj "<lambda>" F.qual F.params F.body F.scope F.cl pm F.c ctv)
theorem lamO_ne {f : Addr} {F : LF} (ps : Array Value) : LamO f F ≠ .tbl ps := fun z => by
  unfold LamO at z
  cases z
theorem lamO_at {P : Program} {w : World} {H : Hp} {h : Heap} {f : Addr} {F : LF} (hok : HOk P w H h) (e : H f = some (LamO f F)) : ∃ (pm ctv : Value), h.get? f = some (PySem.W.kla_obj "<lambda>" F.qual F.params F.body F.scope F.cl pm F.c ctv) := by
  obtain ⟨z, _, _⟩ := hok f _ e
  exact z
section
variable {X : Cx} {pins : List (Addr × Obj)} {σ : L2.St} {H : Hp} {s : Shared}
/-- a lambda's object just made is known from now on -/
theorem inv_lam {F : LF} {o : Obj} {t' : Nat} {pm ctv : Value} (I : Inv X pins σ H s) (ho : o = PySem.W.kla_obj "<lambda>" F.qual F.params F.body F.scope F.cl pm F.c ctv) :
    Inv X pins σ (upd H s.heap.objs.size (LamO s.heap.objs.size F)) { s with heap := s.heap.push o, toks := t' } := by
  subst ho
  refine I.laid (a := s.heap.objs.size) (fun b u e => Heap.get?_push_of_some _ e) (Nat.le_refl _) ?_
  have e : (s.heap.push (PySem.W.kla_obj "<lambda>" F.qual F.params F.body F.scope F.cl pm F.c ctv)).get? s.heap.objs.size = some (PySem.W.kla_obj "<lambda>" F.qual F.params F.body F.scope F.cl pm F.c ctv) := Heap.get?_push_size _ rfl
  exact ⟨⟨pm, ctv, e⟩, ⟨_, e⟩, fun h1 h2 ⟨p, t, z⟩ st => ⟨p, t, st _ z⟩⟩
/-- the lambda is made: its code object is new, or found in the table -/
theorem lamn_make {T : List NTab} {nm : Nat → Nat → Str} {c P : Addr} {params : Arguments} {body : Expr} {scope : Scope} {pos : Pos} {E : Value → Shared → Prop} {Q : Value → Shared → Prop} (I : Inv X pins σ H s) (TB : TabB X.base X.mg c P) (hcode : X.env.code = .ref c)
    (hm : (P, nm) ∈ T) (hn : nm pos.line pos.col = X.env.qual ++ "<lambda>") (hu : ∀ p ∈ T, p.1 = P → p.2 = nm) (hT : TabsN T H) (hdef : defaultsOf params X.env = ([], [])) (hfree : ∀ y ∈ scope.names, y.2 = .free → ∃ c, X.env.cells.lookup y.1 = some c)
    (h : ∀ (f c' : Addr) (H1 : Hp) (s' : Shared), Inv X pins σ H1 s' → ExtN H H1 → (∀ b, H1 b = Option.none → H b = Option.none) → TabsN T H1 → H f = none → H1 f = some (LamO f ⟨X.env.qual ++ "<lambda>", params, body, scope, cloFrom X.env.cells scope.names [], c'⟩) → H1 c' = some (CodeO c' (X.env.qual ++ "<lambda>")) → Q (.ref f) s') :
    wpAny (model X.prog X.w) X.A (eval (.Lambda params body scope pos) X.env) Q E s := by
  obtain ⟨ps, hP, ht, ha⟩ := (show TabN H P nm from hT _ hm)
  refine PySem.W.kla_eval hdef ?_
  have bP : s.heap.BuiltinsAt X.mg P := TB.bm.keeps I.bk
  have hP' : s.heap.get? P = some { cls := .none, data := .fields ps } := I.hok P _ hP
  cases hc : codeAmong pos ps.toList with
  | none =>
    refine PySem.W.kla_makeFunction (mg := X.mg) (c := c) (P := P) (ps := ps) (closure_ok hfree) I.ok.glob (I.mod.glob.keeps I.bk) hcode (TB.code.keeps I.bk) hP' ht hc TB.gP bP fun c' ctv h' tk hx hge hlt hrec htb => ?_
    obtain ⟨c2, oc, vs, t, e2, hoc, hd, hv⟩ := hrec
    cases e2
    have nC : H c' = none := I.hok.fresh hge
    have I1 := inv_table (t' := tk) (more := #[rawInt pos.line, rawInt pos.col, .ref c']) (h' := h') I hP (fun b o hb e => hx b o hb e) htb hge ⟨oc, vs, t, hoc, hd, hv⟩
    have hE : ExtN H (upd (upd H P (.tbl (ps ++ #[rawInt pos.line, rawInt pos.col, .ref c']))) c' (CodeO c' (X.env.qual ++ "<lambda>"))) := fun b o e n => by
      rw [upd_ne (ne_of_none e nC), upd_ne (fun z => n ps (Option.some.inj (e.symm.trans (by rw [z]; exact hP))))]
      exact e
    have eL : (ps ++ #[rawInt pos.line, rawInt pos.col, .ref c']).toList = ps.toList ++ [rawInt pos.line, rawInt pos.col, .ref c'] := by simp
    have T1 : TabsN T (upd (upd H P (.tbl (ps ++ #[rawInt pos.line, rawInt pos.col, .ref c']))) c' (CodeO c' (X.env.qual ++ "<lambda>"))) := fun p hp => by
      by_cases hb : p.1 = P
      · rw [hu p hp hb, hb]
        refine ⟨_, by rw [upd_ne (ne_of_none hP nC), upd_same], by rw [eL]; exact PySem.TriplesOk_snoc _ _ _ _ ht, fun p' cv hcv => ?_⟩
        rw [eL] at hcv
        rcases among_app2 _ ht hcv with z | ⟨z, z1, z2⟩
        · obtain ⟨c0, e1, e2⟩ := ha p' cv z
          exact ⟨c0, e1, hE _ _ e2 codeO_ne⟩
        · refine ⟨c', z, ?_⟩
          rw [← z1, ← z2, hn]
          exact upd_same
      · obtain ⟨ps', a1, a2, a3⟩ := hT p hp
        refine ⟨ps', by rw [upd_ne (ne_of_none a1 nC), upd_ne hb]; exact a1, a2, fun p' cv hcv => ?_⟩
        obtain ⟨c0, e1, e2⟩ := a3 p' cv hcv
        exact ⟨c0, e1, hE _ _ e2 codeO_ne⟩
    have nF := I1.hok.fresh (Nat.le_refl _)
    have I2 := inv_lam (F := ⟨X.env.qual ++ "<lambda>", params, body, scope, cloFrom X.env.cells scope.names [], c'⟩) (t' := tk) (pm := (X.mg "__name__").getD .none) (ctv := ctv) I1 rfl
    refine h h'.objs.size c' _ _ I2 (fun b o e n => ?_) (fun b e => upd_none (upd_none (upd_none e))) (T1.ext fun b o e => ?_) (I.hok.fresh (Nat.le_trans hge (Nat.le_of_lt hlt))) upd_same ?_
    · have e1 := hE b o e n
      exact (upd_ne (ne_of_none e1 nF)).trans e1
    · exact (upd_ne (ne_of_none e nF)).trans e
    · exact (upd_ne (Nat.ne_of_lt hlt)).trans upd_same
  | some cv =>
    obtain ⟨c', e, hco⟩ := ha pos cv hc
    subst e
    rw [hn] at hco
    refine PySem.W.kla_makeFunctionHit (mg := X.mg) (c := c) (P := P) (ps := ps) (closure_ok hfree) I.ok.glob (I.mod.glob.keeps I.bk) hcode (TB.code.keeps I.bk) hP' ht hc bP fun ctv h' tk hx hsz => ?_
    have I1 : Inv X pins σ H { s with heap := h', toks := tk } := I.kept hx
    have nF : H h'.objs.size = none := I1.hok.fresh (Nat.le_refl _)
    have I2 := inv_lam (F := ⟨X.env.qual ++ "<lambda>", params, body, scope, cloFrom X.env.cells scope.names [], c'⟩) (t' := tk) (pm := (X.mg "__name__").getD .none) (ctv := ctv) I1 rfl
    refine h h'.objs.size c' _ _ I2 (fun b o e n => ?_) (fun b e => upd_none e) (hT.ext fun b o e => ?_) nF upd_same ?_
    · exact (upd_ne (ne_of_none e nF)).trans e
    · exact (upd_ne (ne_of_none e nF)).trans e
    · exact (upd_ne (ne_of_none hco nF)).trans hco
end
/-- the reading of a lambda: a new function value; T: the tables of code objects -/
def tLamN (T : List NTab) (mk : Addr → LF) : TE := fun _ H Q => TabsN T H ∧ ∀ (f c' : Addr) (H1 : Hp), ExtN H H1 → (∀ b, H1 b = Option.none → H b = Option.none) → TabsN T H1 → H f = none → H1 f = some (LamO f (mk c')) → H1 c' = some (CodeO c' (mk c').qual) → Q (.ref f) H1
section
variable {X : Cx}
theorem pe_lamN {T : List NTab} {nm : Nat → Nat → Str} {c P : Addr} {params : Arguments} {body : Expr} {scope : Scope} {pos : Pos} (TB : TabB X.base X.mg c P) (hcode : X.env.code = .ref c) (hm : (P, nm) ∈ T) (hn : nm pos.line pos.col = X.env.qual ++ "<lambda>") (hu : ∀ p ∈ T, p.1 = P → p.2 = nm)
    (hfree : ∀ y ∈ scope.names, y.2 = .free → X.env.scope.names.lookup y.1 = some .cell ∨ X.env.scope.names.lookup y.1 = some .free) (hdef : defaultsOf params X.env = ([], [])) :
    PE X (.Lambda params body scope pos) (tLamN T fun c' => ⟨X.env.qual ++ "<lambda>", params, body, scope, cloFrom X.env.cells scope.names [], c'⟩) := by
  refine ⟨fun pins s σ H Q I h => ?_⟩
  obtain ⟨hT, h⟩ := h
  have hfr : ∀ y ∈ scope.names, y.2 = .free → ∃ c, X.env.cells.lookup y.1 = some c := fun y hy e => (hfree y hy e).elim (fun z => I.ok.has _ (.inl z)) fun z => I.ok.has _ (.inr z)
  refine lamn_make I TB hcode hm hn hu hT hdef hfr fun f c' H1 s' I1 eN nn T1 f0 f1 c1 => ?_
  exact ⟨.ref f, H1, I1, rfl, h f c' H1 eN nn T1 f0 f1 c1⟩
end
/-! ### what a function value promises from a state on -/
/-- from the state (s, H) on, in which the frames outer run: the lambda F at f keeps sp -/
structure Given (P : Program) (w : World) (K : PySem.W.Frag) (mg : Str → Option Value) (base : Heap) (CX : CXT) (k : Nat) (outer : List Env) (s : Shared) (H : Hp) (f : Addr) (F : LF) (sp : Sp) : Prop where
  run : ∀ (A : Around) (outer' : List Env) (s' : Shared) (H' : Hp) (us : List Value) (vs : List V) (Q : VK) (E : XK), Room k A → Env0 P w K mg base A outer' s' H' → Un (frs outer) [] H H' s.heap s'.heap → H' f = some (LamO f F) → H' F.c = some (CodeO F.c F.qual) →
    Vals vs us → sp vs H' Q E → codeAny (model P w) A (.call (.ref f) ⟨us, []⟩) (CR CX outer' P w H' s' Q E) s'
theorem Given.imp {P : Program} {w : World} {K : PySem.W.Frag} {mg : Str → Option Value} {base : Heap} {CX : CXT} {k : Nat} {outer : List Env} {s : Shared} {H : Hp} {f : Addr} {F : LF} {sp sp' : Sp} (G : Given P w K mg base CX k outer s H f F sp) (h : ∀ vs H Q E, sp' vs H Q E → sp vs H Q E) :
    Given P w K mg base CX k outer s H f F sp' := ⟨fun A o s' H' us vs Q E hr e0 un h1 h2 r q => G.run A o s' H' us vs Q E hr e0 un h1 h2 r (h _ _ _ _ q)⟩
theorem cellsAt_un {cl : List (Str × Addr)} {fr : List Str} {ws : List (Option V)} {h h' : Heap} {H H' : Hp} {fs : List Addr} (C : CellsAt cl fr ws h H) (un : Un fs [] H H' h h') (nf : ∀ y c, cl.lookup y = some c → c ∉ fs) : CellsAt cl fr ws h' H' := by
  have kp : ∀ y c, cl.lookup y = some c → ∀ v, h.IsCell c v → h'.IsCell c v := fun y c e v ⟨o, ho, hd⟩ => ⟨o, un.keep c o ho (C.all y c e).1 (nf y c e) (by simp), hd⟩
  refine ⟨C.len, fun y c e => ?_, C.inj, fun i y e => ?_⟩
  · obtain ⟨n, v, z⟩ := C.all y c e
    refine ⟨?_, v, kp y c e v z⟩
    obtain ⟨o, ho, _⟩ := z
    exact un.free c o ho n (by simp)
  · obtain ⟨c, hc, hv⟩ := C.has i y e
    refine ⟨c, hc, fun v ev => ?_⟩
    obtain ⟨u, r, z⟩ := hv v ev
    exact ⟨u, r, kp y c hc _ z⟩
section
variable {X : Cx} {pins : List (Addr × Obj)} {σ : L2.St} {H : Hp} {s : Shared}
/-- a cell of the running def is no frame -/
theorem cell_nofr (I : Inv X pins σ H s) {y : Str} {c : Addr} (e : X.env.cells.lookup y = some c) (hf : X.fn y = true) : c ∉ frs X.stack := fun z => by
  rcases List.mem_cons.mp (I.stkSub c z) with q | q
  · exact I.cne y c e q
  · obtain ⟨_, o, ho, _⟩ := I.ok.funs.mem q
    exact absurd (Nat.lt_of_lt_of_le (Heap.lt_size ho) (I.ok.cab y c hf e)) (Nat.lt_irrefl _)
/-- THE RULE: a lambda made here, by its body -/
theorem given_lam {CX : CXT} {N ps fr : List Str} {js : List Nat} {F : LF} {f : Addr} {k : Nat} {sp : Sp} (I : Inv X pins σ H s) (cp : Caps X F.cl fr js) (hfn : ∀ y, X.fn y = true) (S : NScope N ps fr F.scope)
    (hb : ∀ (pm ctv : Value) (us : List Value), us.length = ps.length → bindArgs (PySem.W.kla_fn "<lambda>" F.qual F.params F.body F.scope F.cl pm (.ref F.c) ctv) ⟨us, []⟩ = pure (ps.zip us)) (len : ∀ vs H Q E, sp vs H Q E → vs.length = ps.length)
    (hbody : ∀ (A : Around) (outer' : List Env) (s' : Shared) (H' : Hp) (vs : List V) (Q : VK) (E : XK), Room k (A.deeper (envF F.nf f s'.heap.objs.size)) → sp vs H' Q E →
      ∃ t, PE (ncx CX X.prog X.w X.K X.mg X.base N F.nf f A outer' s' H' E) F.body t ∧ t (startF N vs (js.map (slotAt σ))) H' Q) :
    Given X.prog X.w X.K X.mg X.base CX (k + 1) X.stack s H f F sp := by
  refine ⟨fun A outer' s' H' us vs Q E hr e0 un hf hc r hsp => ?_⟩
  have hl := len _ _ _ _ hsp
  have lim : s'.heap.NoLimit := e0.mod.nolimit.keeps fun b o e => (e0.bs b o e).1
  have C : CellsAt F.cl fr (js.map (slotAt σ)) s'.heap H' := cellsAt_un (cells_of I cp) un fun y c e => cell_nofr I (cp.sub y c e) (hfn y)
  obtain ⟨pm, ctv, ho⟩ := lamO_at e0.hok hf
  refine PySem.W.kla_callFunE hr.depth ho rfl S.co S.gen rfl (codeO_at e0.hok hc) ?_
  rw [hb pm ctv us (by rw [← r.length]; exact hl)]
  refine wpAny_pure (wpAny_newFunctionEnv S.nocell (fun ⟨n, _⟩ hy => S.par n (List.of_mem_zip hy).1) (fun h₁ hns hsb => ⟨lim.fresh _ hsb, ?_⟩) S.kind)
  show codeAny _ _ (.expr F.body (envF F.nf f s'.heap.objs.size)) _ _
  have kp : ∀ b o, s'.heap.get? b = some o → h₁.get? b = some o := fun b o e => hsb.extBut b o (Nat.ne_of_lt (Heap.lt_size e)) (Heap.get?_push_of_some _ e)
  obtain ⟨t, ht, hq⟩ := hbody A outer' s' H' vs Q E (hr.deeper _) hsp
  have J : Inv (ncx CX X.prog X.w X.K X.mg X.base N F.nf f A outer' s' H' E) [] (startF N vs (js.map (slotAt σ))) H' { s' with heap := h₁, toks := s'.toks + (ps.zip us).length } := inv_startN (F := F.nf) S hr.hd e0 hl r C hns kp
  refine PySem.W.kla_codeExpr (wpAny_mono (ht.run [] _ _ H' Q J hq) (fun v s2 hv => ?_) fun e s2 hv => hv)
  obtain ⟨w', H2, J2, rv, q⟩ := hv
  exact ⟨w', H2, J2.os, J2.bare, J2.base, J2.hok, rv, q⟩
end
/-! ### calls of what was handed -/
/-- f(..), f a name that holds the lambda F -/
def tGiv (i : Nat) (f : Addr) (F : LF) (sp : Sp) (E : XK) (t : TA) : TE := fun σ H Q => σ[i]? = some (some (.ref f)) ∧ H f = some (LamO f F) ∧ t σ H fun vs H1 => H1 f = some (LamO f F) ∧ H1 F.c = some (CodeO F.c F.qual) ∧ sp vs H1 Q E
section
variable {X : Cx} {CX : CXT} {i j k : Nat} {x : Str} {f : Addr} {F : LF} {sp : Sp} {E : XK} {t : TA} {e : Expr} {es : List Expr} {p pos : Pos}
theorem lamAt_of {pins : List (Addr × Obj)} {σ : L2.St} {H : Hp} {s : Shared} (I : Inv X pins σ H s) (e : H f = some (LamO f F)) : PySem.W.FnAt f s.heap := by
  obtain ⟨pm, ctv, ho⟩ := lamO_at I.hok e
  exact ⟨_, _, _, _, ho⟩
theorem pe_given (G : Given X.prog X.w X.K X.mg X.base CX k X.outer X.s_0 X.H_0 f F sp) (hr : Room j X.A) (hk : k ≤ j) (hx : Passes CX X E) (hex : X.ex = []) (hN : X.N[i]? = some x) (hv : Vis X.env.scope x) (ha : PA X (e :: es) t)
    (hd : (x == ("__debug__" : Str)) = false := by decide) (hcd : (x == ("__classdict__" : Str)) = false := by decide)
    (he : starEach (e :: es) X.env = (false, eval e X.env) :: starEach es X.env := by rfl) (hpl : (backTo pos (starEach es X.env)).any (·.1) = false := by rfl) :
    PE X (.Call (.Name x p) (e :: es) [] pos) (tGiv i f F sp E t) := by
  refine ⟨fun pins s σ H Q I h => ?_⟩
  obtain ⟨hs, hf, ht⟩ := h
  refine wpAny_Call_Name_kw (thn ((pe_var (pos := p) hN hv hd hcd).run pins s σ H (fun v H1 => v = .ref f ∧ H1 = H) I ⟨.ref f, hs, rfl, rfl⟩) fun u s1 ⟨v, H1, I1, r1, q1⟩ => ?_)
  obtain ⟨ev, eH⟩ := q1
  subst ev
  rw [eH] at I1
  obtain rfl : u = Value.ref f := r1
  refine PySem.W.callWith_F (first := []) (lamAt_of I1 hf) (thn (ha.run pos pins s1 σ H _ I1 ht) fun us s2 ⟨vs, H2, I2, r, h1, h2, q⟩ => ⟨lamAt_of I2 h1, ?_⟩) he hpl
  show wpAny _ _ (call (.ref f) us) _ _ _
  have un : Un (frs X.outer) [] X.H_0 H2 X.s_0.heap s2.heap := by
    have z := I2.base
    rw [hex] at z
    exact z
  refine wpAny_call (codeAny_mono (G.run X.A X.stack s2 H2 us vs Q E (hr.mono hk) I2.env0 un h1 h2 r q) fun r s' hq => ?_)
  cases r with
  | error e => exact hx pins σ H2 s2 e s' I2 hq
  | ok fl =>
    cases fl with
    | ret u => exact I2.after hq
    | next => exact False.elim hq
    | brk => exact False.elim hq
    | cont => exact False.elim hq
/-- x(..) of a top's def that gets a function value; what the callee asks is told of the very state -/
theorem pe_callV {g : Addr} {TV : L2.St → List V → Hp → VK → Prop} (hg : Gl X x) (hm : X.mg x = some (.ref g)) (hk : PySem.W.keepIn X.K (.ref g) = true) (hx : Passes CX X E) (ha : PA X (e :: es) t)
    (R : ∀ (pins : List (Addr × Obj)) (s : Shared) (σ : L2.St) (H : Hp) (Q : VK) (us : List Value) (vs : List V), Inv X pins σ H s → Vals vs us → TV σ vs H Q → codeAny (model X.prog X.w) X.A (.call (.ref g) ⟨us, []⟩) (CR CX X.stack X.prog X.w H s Q E) s)
    (hdb : (x == ("__debug__" : Str)) = false := by decide) (he : starEach (e :: es) X.env = (false, eval e X.env) :: starEach es X.env := by rfl) (hpl : (backTo pos (starEach es X.env)).any (·.1) = false := by rfl) :
    PE X (.Call (.Name x p) (e :: es) [] pos) (fun σ H Q => t σ H fun vs H1 => TV σ vs H1 Q) := by
  refine ⟨fun pins s σ H Q I h => ?_⟩
  refine wpAny_Call_Name_kw (ld_glob I hg hm ?_ hdb)
  refine PySem.W.callWith_K (h₀ := X.base) I.ok.mod.kin hk (thn (ha.run pos pins s σ H _ I h) fun us s1 ⟨vs, H1, I1, r, q⟩ => ⟨I1.kIn, ?_⟩) he hpl
  refine wpAny_call (codeAny_mono (R pins s1 σ H1 Q us vs I1 r q) fun r s' hq => ?_)
  cases r with
  | error e => exact hx pins σ H1 s1 e s' I1 hq
  | ok fl =>
    cases fl with
    | ret u => exact I1.after hq
    | next => exact False.elim hq
    | brk => exact False.elim hq
    | cont => exact False.elim hq
end
end NvK

set_option Elab.async false
set_option linter.all false
set_option maxRecDepth 100000
set_option maxHeartbeats 8000000
/-! # walked: a word's letters, each by a step that is handed over; the things walked are tuples of numbers and texts -/
namespace M3
open PySem L2
abbrev nWalked : List Str := ["start", "step", "word", "found", "numbers", "known", "now", "letter", "goal"]
/-- things that stand as tuples -/
def RowsK (H : Hp) (us : List V) (F : List (List Key)) : Prop := us.length = F.length ∧ ∀ (i : Nat) (r : List Key), F[i]? = some r → ∃ b : Addr, us[i]? = some (.ref b) ∧ H b = some (.tup (r.map kV))
theorem RowsK.to {H H' : Hp} {us : List V} {F : List (List Key)} (h : RowsK H us F) (k : ∀ b ys, H b = some (.tup ys) → H' b = some (.tup ys)) : RowsK H' us F := ⟨h.1, fun i r e => by
  obtain ⟨b, b1, b2⟩ := h.2 i r e
  exact ⟨b, b1, k _ _ b2⟩⟩
theorem RowsK.snoc {H : Hp} {us : List V} {F : List (List Key)} {b : Addr} {r : List Key} (h : RowsK H us F) (hb : H b = some (.tup (r.map kV))) : RowsK H (us ++ [.ref b]) (F ++ [r]) := by
  refine ⟨by rw [List.length_append, List.length_append, h.1]; rfl, fun i r' e => ?_⟩
  rcases snoc_at e with e | ⟨rfl, rfl⟩
  · obtain ⟨b', b1, b2⟩ := h.2 i r' e
    refine ⟨b', ?_, b2⟩
    rw [List.getElem?_append_left (List.getElem?_eq_some_iff.mp b1).1]
    exact b1
  · refine ⟨b, ?_, hb⟩
    rw [← h.1, List.getElem?_append_right (Nat.le_refl _), Nat.sub_self]
    rfl
/-- the dict that numbers the found things -/
structure NumsK (kvs : List (List Key × V)) (F : List (List Key)) : Prop where
  only : ∀ (k : List Key) (v : V), valV kvs k = some v → ∃ i, F[i]? = some k ∧ v = .int ((i : Nat) : Int)
  len : kvs.length ≤ F.length
theorem NumsK.put {kvs : List (List Key × V)} {F : List (List Key)} {r : List Key} (h : NumsK kvs F) : NumsK (putK kvs r (.int ((F.length : Nat) : Int))) (F ++ [r]) := by
  refine ⟨fun k v e => ?_, ?_⟩
  · rw [valV_put] at e
    by_cases c : k = r
    · rw [if_pos c] at e
      refine ⟨F.length, ?_, (Option.some.inj e).symm⟩
      rw [List.getElem?_append_right (Nat.le_refl _), Nat.sub_self, c]
      rfl
    · rw [if_neg c] at e
      obtain ⟨i, h1, h3⟩ := h.only k v e
      refine ⟨i, ?_, h3⟩
      rw [List.getElem?_append_left (List.getElem?_eq_some_iff.mp h1).1]
      exact h1
  · have := putT_len (kvs := kvs) (k := r) (v := V.int ((F.length : Nat) : Int))
    have := h.len
    rw [List.length_append]
    show _ ≤ F.length + 1
    omega
/-- the dict of known steps -/
structure StepsK (g : List Key → Nat → List Key) (kvs : List (List Key × V)) (F : List (List Key)) (n : Nat) : Prop where
  only : ∀ (i c : Nat) (v : V), valV kvs [.inl ((i : Nat) : Int), .inr ⟨#[c]⟩] = some v → ∃ (j : Nat) (r s : List Key), v = .int ((j : Nat) : Int) ∧ F[i]? = some r ∧ F[j]? = some s ∧ s = g r c
  len : kvs.length ≤ n
theorem StepsK.app {g : List Key → Nat → List Key} {kvs : List (List Key × V)} {F : List (List Key)} {n : Nat} (h : StepsK g kvs F n) (s : List Key) : StepsK g kvs (F ++ [s]) n := ⟨fun i c v e => by
  obtain ⟨j, r, s', h1, h2, h3, h4⟩ := h.only i c v e
  exact ⟨j, r, s', h1, at_app h2 s, at_app h3 s, h4⟩, h.len⟩
theorem StepsK.put {g : List Key → Nat → List Key} {kvs : List (List Key × V)} {F : List (List Key)} {n i c j : Nat} {r s : List Key} (h : StepsK g kvs F n) (h2 : F[i]? = some r) (h3 : F[j]? = some s) (h4 : s = g r c) :
    StepsK g (putK kvs [.inl ((i : Nat) : Int), .inr ⟨#[c]⟩] (.int ((j : Nat) : Int))) F (n + 1) := by
  refine ⟨fun i' c' v e => ?_, ?_⟩
  · rw [valV_put] at e
    by_cases q : ([.inl ((i' : Nat) : Int), .inr ⟨#[c']⟩] : List Key) = [.inl ((i : Nat) : Int), .inr ⟨#[c]⟩]
    · rw [if_pos q] at e
      injection q with q1 q2
      injection q1 with q1
      injection q2 with q2
      injection q2 with q2
      injection q2 with q2
      have ei : i' = i := by omega
      have ec : c' = c := by
        have q3 : (#[c'] : Array Nat).toList = (#[c] : Array Nat).toList := by rw [q2]
        injection q3
      subst ei ec
      exact ⟨j, r, s, (Option.some.inj e).symm, h2, h3, h4⟩
    · rw [if_neg q] at e
      exact h.only i' c' v e
  · have := putT_len (kvs := kvs) (k := [.inl ((i : Nat) : Int), .inr ⟨#[c]⟩]) (v := V.int ((j : Nat) : Int))
    have := h.len
    omega
/-- what walked asks: the start, the step F at f with its promise gsp, the word -/
def spWalked (f : Addr) (F : NvK.LF) (gsp : Sp) : Sp := fun vs H Q _ => ∃ (b0 : Addr) (y : Str) (k0 : List Key) (g : List Key → Nat → List Key) (Ok : List Key → Prop), vs = [.ref b0, .ref f, .str y] ∧ H b0 = some (.tup (k0.map kV)) ∧ H f = some (NvK.LamO f F) ∧ H F.c = some (LamX.CodeO F.c F.qual) ∧
  Ok k0 ∧ (∀ c ∈ y.cps.toList, ∀ k, Ok k → Ok (g k c)) ∧
  (∀ (H' : Hp) (b : Addr) (k : List Key) (c : Nat) (Q' : VK) (E' : XK), Same H H' → H' b = some (.tup (k.map kV)) → Ok k → c ∈ y.cps.toList → (∀ (b' : Addr) (H8 : Hp), H8 b' = some (.tup ((g k c).map kV)) → Same H' H8 → Q' (.ref b') H8) → gsp [.ref b, .str ⟨#[c]⟩] H' Q' E') ∧
  y.length ≤ 1000000 ∧ ∀ (b' : Addr) (H' : Hp), H' b' = some (.tup ((y.cps.toList.foldl g k0).map kV)) → Same H H' → Q (.ref b') H'
theorem fold_snoc {α β : Type} {g : β → α → β} {k0 : β} {l : List α} {i : Nat} {c : α} (h : l[i]? = some c) : (l.take (i + 1)).foldl g k0 = g ((l.take i).foldl g k0) c := by
  rw [take_snoc h, List.foldl_append]
  rfl
theorem fold_ok {g : List Key → Nat → List Key} {Ok : List Key → Prop} : ∀ (l : List Nat) (k0 : List Key), Ok k0 → (∀ c ∈ l, ∀ k, Ok k → Ok (g k c)) → Ok (l.foldl g k0)
  | [], _, h, _ => h
  | c :: l, k0, h, st => fold_ok l (g k0 c) (st c List.mem_cons_self k0 h) fun c' hc => st c' (List.mem_cons_of_mem _ hc)
section
variable {P : Program} {w : World} {K : PySem.W.Frag} {mg : Str → Option Value} {base : Heap}
end
end M3

set_option Elab.async false
set_option linter.all false
set_option maxRecDepth 100000
set_option maxHeartbeats 8000000
/-! # The action of a word, walked with a lambda -/
namespace M3
open PySem L2 LamX NdefX NvK
/-- all that was tracked is as it was, but the tables of code objects, which tell what they must -/
structure Ext (T : List NTab) (H H' : Hp) : Prop where
  ext : ExtN H H'
  non : ∀ b, H' b = Option.none → H b = Option.none
  tab : TabsN T H'
theorem exn_at {H H' : Hp} (e : ExtN H H') {b : Addr} {o : HO} (h : H b = some o) (n : ∀ ps, o ≠ .tbl ps := by intro ps z; cases z) : H' b = some o := e b o h n
theorem Ext.at_ {T : List NTab} {H H' : Hp} (e : Ext T H H') {b : Addr} {o : HO} (h : H b = some o) (n : ∀ ps, o ≠ .tbl ps := by intro ps z; cases z) : H' b = some o := e.ext b o h n
theorem same_non {H H' : Hp} (s : Same H H') : ∀ b, H' b = Option.none → H b = Option.none := fun b hq => by
  cases e : H b with
  | none => rfl
  | some o =>
    have := s _ _ e
    rw [hq] at this
    cases this
theorem Ext.of {T : List NTab} {H H' : Hp} (t : TabsN T H) (s : Same H H') : Ext T H H' := ⟨ExtN.of s, same_non s, t.ext s⟩
theorem Ext.refl {T : List NTab} {H : Hp} (t : TabsN T H) : Ext T H H := Ext.of t (Same.refl H)
theorem Ext.trans {T : List NTab} {H H1 H2 : Hp} (a : Ext T H H1) (b : Ext T H1 H2) : Ext T H H2 := ⟨a.ext.trans b.ext, fun c h => a.non c (b.non c h), b.tab⟩
theorem Ext.same {T : List NTab} {H H1 H2 : Hp} (a : Ext T H H1) (s : Same H1 H2) : Ext T H H2 := a.trans (Ext.of a.tab s)
theorem Ext.new {T : List NTab} {H H1 : Hp} {b : Addr} {o : HO} (a : Ext T H H1) (n : H1 b = none) : Ext T H (upd H1 b o) := a.same (Same.new (Same.refl H1) n)
theorem sqt_ext {K : PySem.W.Frag} {H H' : Hp} {a : Addr} {us : List V} (e : ExtN H H') (h : SqT K H a us) : SqT K H' a us := by
  rcases h with (h | ⟨o, h⟩) | h
  · exact .inl (.inl (exn_at e h))
  · exact .inl (.inr ⟨o, exn_at e h⟩)
  · exact .inr h
theorem Tups.ext {K : PySem.W.Frag} {H H' : Hp} {us : List V} {t : List (List Nat)} (h : Tups K H us t) (s : ExtN H H') : Tups K H' us t := ⟨h.1, fun i r e => by
  obtain ⟨b, b1, b2⟩ := h.2 i r e
  exact ⟨b, b1, sqt_ext s b2⟩⟩
theorem Mach.ext {K : PySem.W.Frag} {C p : Addr} {H H' : Hp} {x : Str} {t : List (List Nat)} {es : List Nat} (h : Mach K C H p x t es) (s : ExtN H H') : Mach K C H' p x t es := by
  obtain ⟨dx, a, b, us, h1, h2, h3, h4⟩ := h
  exact ⟨dx, a, b, us, exn_at s h1, sqt_ext s h2, h3.ext s, sqt_ext s h4⟩
/-- a key read back as numbers -/
def unkey (k : List Key) : List Nat := k.map fun q => match q with
  | .inl i => i.toNat
  | .inr _ => 0
theorem unkey_key (fs : List Nat) : unkey (key fs) = fs := by
  induction fs with
  | nil => rfl
  | cons f fs ih =>
    show (((f : Nat) : Int).toNat :: unkey (key fs)) = f :: fs
    rw [ih, Int.toNat_natCast]
theorem fold_key {t : List (List Nat)} {x : Str} : ∀ (cs ds : List Nat), cs.foldl (fun k c => key (ledon t (unkey k) (x.cps.toList.idxOf c))) (key (act t x ds)) = key (act t x (ds ++ cs))
  | [], ds => by rw [List.append_nil]; rfl
  | c :: cs, ds => by
    rw [List.foldl_cons, unkey_key, ← act_snoc, fold_key cs (ds ++ [c]), List.append_assoc]
    rfl
abbrev nActed : List Str := ["table", "letters", "word"]
/-- the lambda in a return's call, the second argument -/
def lamOf (s : Stmt) : Expr := match s with
  | .FunctionDef _ _ [.Return (some (.Call _ [_, l, _] _ _)) _] _ _ _ _ _ _ _ => l
  | _ => .Constant .none 0 ⟨0, 0, 0, 0⟩
def lamArgs (e : Expr) : Arguments := match e with
  | .Lambda a _ _ _ => a
  | _ => { posonlyargs := [], args := [], vararg := none, kwonlyargs := [], kw_defaults := [], kwarg := none, defaults := [] }
def lamBody (e : Expr) : Expr := match e with
  | .Lambda _ b _ _ => b
  | e => e
def lamScope (e : Expr) : Scope := match e with
  | .Lambda _ _ sc _ => sc
  | _ => { kind := .function, names := [], isGenerator := false, isCoroutine := false }
/-- a lambda's words in the def x -/
def lfOf (x : Str) (e : Expr) (cells : List (Str × Addr)) (c : Addr) : LF := ⟨x ++ ".<locals>." ++ "<lambda>", lamArgs e, lamBody e, lamScope e, cloFrom cells (lamScope e).names [], c⟩
abbrev nLam : List Str := ["action", "letter", "table", "letters"]
def nmActed : Nat → Nat → Str := fun _ _ => "acted.<locals>.<lambda>"
/-- what the lambda keeps, the table at a and the letters x captured -/
def spLamA (K : PySem.W.Frag) (a : Addr) (x : Str) : Sp := fun vs H Q E => ∃ (b : Addr) (c : Nat), vs = [.ref b, .str ⟨#[c]⟩] ∧ spLedOn K [.ref a, .ref b, .int (x.cps.toList.idxOf c : Nat)] H Q E ∧ (∃ m, IsSet x m ∧ m ≤ 2) ∧ c ∈ x.cps.toList
def spActed (K : PySem.W.Frag) (T : List NTab) : Sp := fun vs H Q _ => ∃ (a : Addr) (x y : Str) (us : List V) (t : List (List Nat)) (m : Nat), vs = [.ref a, .str x, .str y] ∧ SqT K H a us ∧ Tups K H us t ∧ IsTab t t.length m ∧ IsSet x m ∧ m ≤ 2 ∧ IsW x y ∧ t.length ≤ 1000 ∧ y.length ≤ 1000000 ∧ TabsN T H ∧
  ∀ (b : Addr) (H' : Hp), H' b = some (.tup (nts (act t x y.cps.toList))) → Ext T H H' → Q (.ref b) H'
section
variable {P : Program} {w : World} {K : PySem.W.Frag} {mg : Str → Option Value} {base : Heap}
end
end M3

set_option Elab.async false
set_option linter.all false
set_option maxRecDepth 100000
set_option maxHeartbeats 8000000
/-! # All but the dice and the tables of code objects -/
namespace M3
open PySem L2 NdefX
structure Stl (T : List NTab) (d : Addr) (H H' : Hp) : Prop where
  st : ∀ b o, b ≠ d → H b = some o → (∀ ps, o ≠ .tbl ps) → H' b = some o
  non : ∀ b, H' b = Option.none → H b = Option.none
  tab : TabsN T H'
theorem tabs_still {T : List NTab} {d : Addr} {H H' : Hp} (t : TabsN T H) (z : Dz H d) (s : Still d H H') : TabsN T H' := fun p hp => by
  obtain ⟨l, m, c, e, _⟩ := z
  obtain ⟨ps, h1, h2, h3⟩ := t p hp
  refine ⟨ps, s _ _ (fun q => by rw [q, e] at h1; cases h1) h1, h2, fun pos cv hc => ?_⟩
  obtain ⟨c', e1, e2⟩ := h3 pos cv hc
  exact ⟨c', e1, s _ _ (fun q => by rw [q, e] at e2; unfold LamX.CodeO at e2; cases e2) e2⟩
theorem still_non {d : Addr} {H H' : Hp} (z' : Dz H' d) (s : Still d H H') : ∀ b, H' b = Option.none → H b = Option.none := fun b hb => by
  cases e : H b with
  | none => rfl
  | some o =>
    have q := s b o (z'.not hb) e
    rw [hb] at q
    cases q
theorem Stl.of {T : List NTab} {d : Addr} {H H' : Hp} (t : TabsN T H) (z : Dz H d) (z' : Dz H' d) (s : Still d H H') : Stl T d H H' := ⟨fun b o hb h _ => s b o hb h, still_non z' s, tabs_still t z s⟩
theorem Stl.ofE {T : List NTab} {d : Addr} {H H' : Hp} (e : Ext T H H') : Stl T d H H' := ⟨fun b o _ h n => e.ext b o h n, e.non, e.tab⟩
theorem Stl.trans {T : List NTab} {d : Addr} {H H1 H2 : Hp} (a : Stl T d H H1) (b : Stl T d H1 H2) : Stl T d H H2 := ⟨fun c o hc h n => b.st c o hc (a.st c o hc h n) n, fun c h => a.non c (b.non c h), b.tab⟩
theorem Stl.refl {T : List NTab} {H : Hp} (d : Addr) (t : TabsN T H) : Stl T d H H := Stl.ofE (Ext.refl t)
theorem Stl.still {T : List NTab} {d : Addr} {H H1 H2 : Hp} (a : Stl T d H H1) (z : Dz H1 d) (z' : Dz H2 d) (s : Still d H1 H2) : Stl T d H H2 := a.trans (Stl.of a.tab z z' s)
theorem Stl.same {T : List NTab} {d : Addr} {H H1 H2 : Hp} (a : Stl T d H H1) (s : Same H1 H2) : Stl T d H H2 := a.trans (Stl.ofE (Ext.of a.tab s))
theorem Stl.toE {T : List NTab} {d : Addr} {H H1 H2 : Hp} (a : Ext T H H1) (b : Stl T d H1 H2) (n : H d = none) : Ext T H H2 := ⟨fun c o h q => b.st c o (fun z => by rw [z, n] at h; cases h) (a.ext c o h q) q, fun c h => a.non c (b.non c h), b.tab⟩
theorem dz_ext {d : Addr} {H H' : Hp} (e : LamX.ExtN H H') (z : Dz H d) : Dz H' d := by
  obtain ⟨l, m, c, h, r⟩ := z
  exact ⟨l, m, c, exn_at e h, r⟩
theorem sqt_stl {K : PySem.W.Frag} {T : List NTab} {d a : Addr} {H H' : Hp} {xs : List V} (s : Stl T d H H') (z : Dz H d) (h : SqT K H a xs) : SqT K H' a xs := by
  obtain ⟨l, m, c, e, _⟩ := z
  rcases h with (h | ⟨u, h⟩) | h
  · exact .inl (.inl (s.st _ _ (fun q => by rw [q, e] at h; cases h) h (fun ps q => by cases q)))
  · exact .inl (.inr ⟨u, s.st _ _ (fun q => by rw [q, e] at h; cases h) h (fun ps q => by cases q)⟩)
  · exact .inr h
theorem Mach.stl {K : PySem.W.Frag} {T : List NTab} {C p d : Addr} {H H' : Hp} {x : Str} {t : List (List Nat)} {es : List Nat} (h : Mach K C H p x t es) (z : Dz H d) (s : Stl T d H H') : Mach K C H' p x t es := by
  obtain ⟨dx, a, b, us, h1, h2, h3, h4⟩ := h
  obtain ⟨l, m, c, e, _⟩ := id z
  refine ⟨dx, a, b, us, s.st _ _ (fun q => by rw [q, e] at h1; cases h1) h1 (fun ps q => by cases q), sqt_stl s z h2, ⟨h3.1, fun i r hr => ?_⟩, sqt_stl s z h4⟩
  obtain ⟨b', b1, b2⟩ := h3.2 i r hr
  exact ⟨b', b1, sqt_stl s z b2⟩
theorem Plain.stl {T : List NTab} {d p : Addr} {H H' : Hp} {x : Str} {t : List (List Nat)} {es : List Nat} (h : Plain d H p x t es) (z : Dz H d) (s : Stl T d H H') : Plain d H' p x t es := by
  obtain ⟨⟨a, b, us, h1, h2, h3, h4, h5, h6⟩, h7, h8, h9⟩ := h
  obtain ⟨dl, dm, dc, dd, _⟩ := z
  have pd : p ≠ d := fun e => by
    rw [e, dd] at h1
    cases h1
  refine ⟨⟨a, b, us, s.st _ _ pd h1 (fun ps q => by cases q), h2, s.st _ _ h2 h3 (fun ps q => by cases q), ⟨h4.1, fun i r hr => ?_⟩, h5, s.st _ _ h5 h6 (fun ps q => by cases q)⟩, h7, h8, h9⟩
  obtain ⟨a', e1, e2, e3, e4⟩ := h4.2 i r hr
  exact ⟨a', e1, e2, e3, s.st _ _ e2 e4 (fun ps q => by cases q)⟩
theorem tabs_upd {T : List NTab} {H : Hp} {D : Addr} {vs us : List V} (t : TabsN T H) (h : H D = some (.lst vs)) : TabsN T (upd H D (.lst us)) := fun p hp => by
  obtain ⟨ps, h1, h2, h3⟩ := t p hp
  refine ⟨ps, by rw [upd_ne (ne_of h1 h (fun z => by cases z))]; exact h1, h2, fun pos cv hc => ?_⟩
  obtain ⟨c', e1, e2⟩ := h3 pos cv hc
  exact ⟨c', e1, by rw [upd_ne (ne_of e2 h (fun z => by unfold LamX.CodeO at z; cases z))]; exact e2⟩
/-- a list at D is written anew -/
theorem Stl.put {T : List NTab} {D : Addr} {H H1 : Hp} {vs us : List V} (a : Stl T D H H1) (h : H1 D = some (.lst vs)) : Stl T D H (upd H1 D (.lst us)) := ⟨fun b o hb e n => by rw [upd_ne hb]; exact a.st b o hb e n, fun b e => a.non b (upd_none e), tabs_upd a.tab h⟩
theorem Stl.one {T : List NTab} {D : Addr} {H H1 : Hp} (a : Stl T D H H1) (n : H D = none) (t : TabsN T H) : Ext T H H1 := Stl.toE (Ext.refl t) a n
theorem sql_ext {K : PySem.W.Frag} {H H' : Hp} {a : Addr} {us : List V} (e : LamX.ExtN H H') (h : SqL K H a us) : SqL K H' a us := by
  rcases h with (h | ⟨o, h⟩) | h
  · exact .inl (.inl (exn_at e h))
  · exact .inl (.inr ⟨o, exn_at e h⟩)
  · exact .inr h
end M3

set_option Elab.async false
set_option linter.all false
set_option maxRecDepth 100000
set_option maxHeartbeats 8000000
/-! # The actions of all words, with words for them -/
namespace M3
open PySem L2
abbrev sActWords : Stmt := top 42
abbrev nAW : List Str := ["table", "letters", "most", "words", "found", "at", "column", "letter", "goal"]
theorem scAW : FnScope nAW ["table", "letters", "most"] (defScope sActWords) := ⟨rfl, rfl, rfl, by decide +kernel, rfl, by decide +kernel, by decide +kernel⟩
/-- the dict of the found actions and their words -/
structure WordsA (t : List (List Nat)) (x : Str) (kvs : List (List Key × V)) (F : List (List Nat)) : Prop where
  has : ∀ (i : Nat) (r : List Nat), F[i]? = some r → ∃ w : Str, valV kvs (key r) = some (.str w) ∧ IsW x w ∧ r = act t x w.cps.toList ∧ w.length ≤ i
  len : kvs.length ≤ F.length
theorem snoc_cps (w : Str) (c : Nat) : (w ++ (⟨#[c]⟩ : Str)).cps.toList = w.cps.toList ++ [c] := by
  show (w.cps ++ #[c]).toList = _
  simp
theorem WordsA.put {t : List (List Nat)} {x : Str} {kvs : List (List Key × V)} {F : List (List Nat)} {r s : List Nat} {w : Str} {c i : Nat} (h : WordsA t x kvs F) (n : valV kvs (key s) = none) (hw : IsW x w) (er : r = act t x w.cps.toList) (hc : c ∈ x.cps.toList) (es : s = ledon t r (x.cps.toList.idxOf c)) (l : w.length ≤ i) (hi : i < F.length) :
    WordsA t x (putK kvs (key s) (.str (w ++ ⟨#[c]⟩))) (F ++ [s]) := by
  have sn := snoc_cps w c
  refine ⟨fun j r' e => ?_, ?_⟩
  · rcases snoc_at e with e | ⟨rfl, rfl⟩
    · obtain ⟨w', h1, h2, h3, h4⟩ := h.has j r' e
      refine ⟨w', ?_, h2, h3, h4⟩
      rw [valV_put]
      by_cases q : key r' = key s
      · rw [q, n] at h1
        cases h1
      · rw [if_neg q]
        exact h1
    · refine ⟨w ++ ⟨#[c]⟩, by rw [valV_put, if_pos rfl], fun d hd => ?_, by rw [sn, act_snoc, es, er], ?_⟩
      · rw [sn] at hd
        rcases List.mem_append.mp hd with q | q
        · exact hw d q
        · rw [List.mem_singleton.mp q]
          exact hc
      · show (w.cps ++ #[c]).size ≤ F.length
        have : w.cps.size ≤ i := l
        simp
        omega
  · have := putT_len (kvs := kvs) (k := key s) (v := V.str (w ++ ⟨#[c]⟩))
    have := h.len
    rw [List.length_append]
    show _ ≤ F.length + 1
    omega
theorem set_ix {x : Str} {m j c : Nat} (h : IsSet x m) (h2 : m ≤ 2) (e : x.cps.toList[j]? = some c) : x.cps.toList.idxOf c = j := by
  obtain ⟨cs, rfl, hl, hp, _⟩ := h
  have e : cs[j]? = some c := e
  show cs.idxOf c = j
  match cs, hl, hp, j, e with
  | [a], _, _, 0, e =>
    cases e
    simp
  | [a, b], _, _, 0, e =>
    cases e
    simp
  | [a, b], _, hp, 1, e =>
    cases e
    have ab : a < c := by simpa using hp
    have n : (a == c) = false := beq_eq_false_iff_ne.mpr (by omega)
    simp [List.idxOf_cons, n]
  | _ :: _ :: _ :: l, hl, _, _, _ =>
    have hl : l.length + 3 = m := hl
    omega
def spActWords (K : PySem.W.Frag) : Sp := fun vs H Q _ => ∃ (a : Addr) (x : Str) (us : List V) (t : List (List Nat)) (m mo : Nat), vs = [.ref a, .str x, .int mo] ∧ SqT K H a us ∧ Tups K H us t ∧ IsTab t t.length m ∧ IsSet x m ∧ m ≤ 2 ∧ t.length ≤ 1000 ∧ mo ≤ 1000 ∧
  ∀ (D : Addr) (kW : List (List Key × V)) (Fs : List (List Nat)) (H' : Hp), H' D = some (.dT kW) → WordsA t x kW Fs → kW.length ≤ 2000 → Fs.Nodup → (∀ r ∈ Fs, (∀ z ∈ r, z < t.length) ∧ r.length = t.length) → Same H H' → Q (.ref D) H'
section
variable {P : Program} {w : World} {K : PySem.W.Frag} {mg : Str → Option Value} {base : Heap}
theorem ok_actwords {f g g2 : Addr} {fd gd gd2 : FuncData} (F : Fun K "action_words" "action_words" sActWords f fd) (G : Fun K "unmoved" "unmoved" sUnmoved g gd) (bG : Binds K gd ["table"] []) (mG : mg "unmoved" = some (.ref g)) (G2 : Fun K "led_on" "led_on" sLedOn g2 gd2) (b2 : Binds K gd2 ["table", "states", "column"] []) (m2 : mg "led_on" = some (.ref g2)) (M : TxM mg) (hE : mg "enumerate" = none) :
    FnOk P w K mg base CX0 2 f fd ["table", "letters", "most"] (spActWords K) := by
  have GU : FnOk P w K mg base CX0 1 g gd ["table"] (spUnmoved K) := ok_unmoved G M
  have GL : FnOk P w K mg base CX0 1 g2 gd2 ["table", "states", "column"] (spLedOn K) := ok_ledon G2 M
  refine F.ok scAW (fun vs H Q E h => ?_) (fun cdv A outer s H vs Q E hr h => ?_)
  · obtain ⟨a, x, us, t, m, mo, rfl, _⟩ := h
    rfl
  · obtain ⟨a, x, us, t, m, mo, rfl, ha, hT, tb, st, hm2, tl, hmo, k⟩ := h
    have hu := hu_of hr
    have hu0 : (A.deeper (PyProof.Rows.envOfC "action_words" (defScope sActWords) s.heap.objs.size f cdv)).units < cLine := Nat.lt_of_succ_lt hu
    refine ⟨_, pss_cons (ps_set (i := 3) scAW.nd rfl (Or.inl rfl) (NvQ.pe_disp1 hu0 (pe_call GU hr rfl mG G.kp bG .nil pass0 (pa_cons (pv 0) pa_nil)) pe_str))
      (pss_cons (ps_set (i := 4) scAW.nd rfl (Or.inl rfl) (pe_lst (pa_cons (pe_call GU hr rfl mG G.kp bG .nil pass0 (pa_cons (pv 0) pa_nil)) pa_nil)))
      (pss_cons (ps_set (i := 5) scAW.nd rfl (Or.inl rfl) pe_int)
      (pss_cons (ps_while PassesOwn.never (pt_chain op_lt op_le (pv 5) (pe_callB call_len_seq (by rfl) M.len PySem.boot_len (pa_cons (pv 4) pa_nil)) (pv 2))
        (pss_cons (ps_for PassesOwn.never rfl (NvY.pi_enumS rfl hE (pa_cons (pv 1) pa_nil)) (pg_tup rfl (pgs_cons (pg_name (i := 6) scAW.nd rfl (Or.inl rfl)) (pgs_cons (pg_name (i := 7) scAW.nd rfl (Or.inl rfl)) pgs_nil)))
          (pss_cons (ps_set (i := 8) scAW.nd rfl (Or.inl rfl) (pe_call GL hr rfl m2 G2.kp b2 .nil pass0 (pa_cons (pv 0) (pa_cons (pe_ix ix_list (pv 4) (pv 5) (fun _ _ => rfl)) (pa_cons (pv 6) pa_nil)))))
          (pss_one (ps_if (pt_cmp (pc_dnotin hu (pv 8) (pv 3)))
            (pss_cons (ps_dput hu (pv 3) (pv 8) (pe_op op_add_str (pe_dget hu (pv 3) (pe_ix ix_list (pv 4) (pv 5) (fun _ _ => rfl)) (fun _ _ => rfl)) (pv 7)) rfl)
            (pss_one (ps_expr (pe_bm PySem.F.plainAttrs_list PySem.F.slot_list_append PySem.F.type_list_append mt_append (pv 4) (pa_cons (pv 8) pa_nil))))) pss_nil))))
        (pss_one (ps_aug (i := 5) scAW.nd rfl (.inl rfl) pe_int ip_add))))
      (pss_one (ps_ret (pv 3)))))), ?_⟩
    have lu : us.length = t.length := hT.1
    have hm : x.cps.toList.length = m := by
      have := set_len st
      simpa [Str.length] using this
    have free : ∀ {H9 : Hp} {q : Addr}, Same H H9 → H9 q = none → H q = none := fun {H9 q} sx hq => by
      cases e : H q with
      | none => rfl
      | some o =>
        have := sx _ _ e
        rw [hq] at this
        cases this
    intro LW nLW
    have s0 : Same H (upd H LW (.dT [])) := Same.new (Same.refl H) nLW
    refine ⟨_, rfl, a, us, rfl, sqt_same s0 ha, by omega, fun p0 H1 np h1 s1 => ?_⟩
    rw [lu] at h1
    have hW1 : H1 LW = some (.dT []) := s1 _ _ upd_same
    have pW : p0 ≠ LW := ne_of h1 hW1 (fun z => by cases z)
    refine ⟨p0, key (List.range t.length), .str "", rfl, hW1, by rw [key_tup]; exact h1, ?_⟩
    have hW2 : (upd H1 LW (.dT [(key (List.range t.length), .str "")])) LW = some (.dT [(key (List.range t.length), .str "")]) := upd_same
    have sx : Same H (upd H1 LW (.dT [(key (List.range t.length), .str "")])) := fun b o h => by
      rw [upd_ne (ne_of_none h nLW)]
      exact (s0.trans s1) _ _ h
    generalize upd H1 LW (.dT [(key (List.range t.length), .str "")]) = H2 at hW2 sx ⊢
    clear h1 hW1 pW s1 np
    refine ⟨_, rfl, a, us, rfl, sqt_same sx ha, by omega, fun p1 H3 np h3 s3 => ⟨(by show 1 ≤ sizeLine; decide), fun LF nLF => ?_⟩⟩
    rw [lu] at h3
    have fLF : H LF = none := free (sx.trans s3) nLF
    have hF4 : (upd H3 LF (.lst [.ref p1])) LF = some (.lst [.ref p1]) := upd_same
    have hp4 : (upd H3 LF (.lst [.ref p1])) p1 = some (.tup (nts (List.range t.length))) := keep_new h3 nLF
    have hW4 : (upd H3 LF (.lst [.ref p1])) LW = some (.dT [(key (List.range t.length), .str "")]) := keep_new (s3 _ _ hW2) nLF
    have s4 : Same H (upd H3 LF (.lst [.ref p1])) := Same.new (sx.trans s3) nLF
    generalize upd H3 LF (.lst [.ref p1]) = H4 at hF4 hp4 hW4 s4 ⊢
    clear h3 s3 nLF np hW2 sx
    have FW : LF ≠ LW := ne_of hF4 hW4 (fun z => by cases z)
    refine while_by (fun σ H' => ∃ (us' : List V) (Fs : List (List Nat)) (kW : List (List Key × V)) (at' : Nat) (v1 v2 v3 : Option V), σ = [some (.ref a), some (.str x), some (.int (mo : Nat)), some (.ref LW), some (.ref LF), some (.int (at' : Nat)), v1, v2, v3] ∧
        H' LF = some (.lst us') ∧ H' LW = some (.dT kW) ∧ RowsA H' us' Fs ∧ WordsA t x kW Fs ∧ (∀ r ∈ Fs, (∀ z ∈ r, z < t.length) ∧ r.length = t.length) ∧ Fs.length ≤ mo + 2 ∧ Fs.Nodup ∧ Same H H')
      (fun σ H' => match σ with | [_, _, _, _, _, some (.int i), _, _, _] => mo + 1 - i.toNat | _ => 0)
      ⟨[.ref p1], [List.range t.length], _, 0, none, none, none, rfl, hF4, hW4, ?_, ?_, ?_, (by show 1 ≤ mo + 2; omega), (by simp), s4⟩ ?_ ?_
    · exact ⟨rfl, fun i r e => by
        match i, e with
        | 0, e => exact ⟨p1, rfl, by cases e; exact hp4⟩⟩
    · refine ⟨fun i r e => ?_, Nat.le_refl _⟩
      match i, e with
      | 0, e =>
        cases e
        have e0 : ("" : Str).cps.toList = [] := by decide +kernel
        refine ⟨"", valV_pos rfl, fun c hc => ?_, by rw [e0, act_nil], by decide +kernel⟩
        rw [e0] at hc
        cases hc
    · intro r hr'
      rw [List.mem_singleton.mp hr']
      exact ⟨fun z hz => List.mem_range.mp hz, List.length_range⟩
    · rintro σ H5 ⟨us', Fs, kW, at', v1, v2, v3, rfl, hF, hW, RA, WA, wf, lf, nd, sH⟩
      refine ⟨_, rfl, _, rfl, LF, us', rfl, .inl (SqL.of hF), _, _, rfl, rfl, _, rfl, ?_⟩
      rw [RA.1]
      have stop : kW.length ≤ 2000 := by have := WA.len; omega
      refine ite2 (fun h1 => ?_) (fun h1 => ?_)
      · refine ⟨_, rfl, _, _, rfl, rfl, _, rfl, ?_⟩
        have h1 : at' < Fs.length := by
          have := of_decide_eq_true h1
          omega
        refine ite2 (fun h2 => ?_) (fun h2 => ?_)
        · have h2 : Fs.length ≤ mo := by
            have := of_decide_eq_true h2
            omega
          refine ⟨_, rfl, x, rfl, for_it NvY.walk_enumS (fun j σ H' => ∃ (us' : List V) (Fs : List (List Nat)) (kW : List (List Key × V)) (v1 v2 v3 : Option V), σ = [some (.ref a), some (.str x), some (.int (mo : Nat)), some (.ref LW), some (.ref LF), some (.int (at' : Nat)), v1, v2, v3] ∧
              H' LF = some (.lst us') ∧ H' LW = some (.dT kW) ∧ RowsA H' us' Fs ∧ WordsA t x kW Fs ∧ (∀ r ∈ Fs, (∀ z ∈ r, z < t.length) ∧ r.length = t.length) ∧ Fs.length ≤ mo + j ∧ at' < Fs.length ∧ Fs.Nodup ∧ Same H H')
            ⟨us', Fs, kW, v1, v2, v3, rfl, hF, hW, RA, WA, wf, by omega, h1, nd, sH⟩ (fun _ _ _ _ _ => trivial) ?_ ?_⟩
          · rintro j v σ H6 H7 hj ⟨us', Fs, kW, v1, v2, v3, rfl, hF, hW, RA, WA, wf, lf, la, nd, sH⟩ ⟨T, c, rfl, nT, rfl, hc⟩
            have hc' : x.cps.toList[j]? = some c := by simpa using hc
            have cx : c ∈ x.cps.toList := List.mem_of_getElem? hc'
            have jm : j < m := by
              have : x.cps.toList.length = m := hm
              have e : x.cps.toList.length = x.cps.size := by simp
              omega
            have ej : x.cps.toList.idxOf c = j := set_ix st hm2 hc'
            obtain ⟨bq, b1, b2'⟩ := RA.2 at' _ (List.getElem?_eq_getElem la)
            obtain ⟨w1, w2⟩ := wf _ (List.getElem_mem la)
            obtain ⟨wd, d1, d2, d3, d4⟩ := WA.has at' _ (List.getElem?_eq_getElem la)
            generalize Fs[at'] = r at b2' w1 w2 d1 d3
            refine ⟨T, _, rfl, SqT.of upd_same, rfl, _, _, rfl, _, _, rfl, rfl, ?_⟩
            have hF := keep_new (u := .tup [.int (j : Nat), .str ⟨#[c]⟩]) hF nT
            have hW := keep_new (u := .tup [.int (j : Nat), .str ⟨#[c]⟩]) hW nT
            have b2' := keep_new (u := .tup [.int (j : Nat), .str ⟨#[c]⟩]) b2' nT
            have RA := RA.to (H' := upd H6 T (.tup [.int (j : Nat), .str ⟨#[c]⟩])) (fun b ys h => keep_new h nT)
            have sH : Same H (upd H6 T (.tup [.int (j : Nat), .str ⟨#[c]⟩])) := Same.new sH nT
            generalize upd H6 T (.tup [.int (j : Nat), .str ⟨#[c]⟩]) = H8 at hF hW b2' RA sH ⊢
            refine ⟨_, rfl, _, rfl, _, rfl, LF, us', _, _, rfl, rfl, SqL.of hF, atI_nat b1, _, rfl, a, bq, us, t, r, j, m, rfl, sqt_same sH ha, hT.same sH, tb, SqT.of b2', w1, by omega, jm, fun g H9 ng hg sg => ?_⟩
            have hF := sg _ _ hF
            have hW := sg _ _ hW
            have RA := RA.to (H' := H9) (fun b ys h => sg _ _ h)
            have sH := sH.trans sg
            have lw := ledon_lt tb jm w1
            have ll : (ledon t r j).length = t.length := by
              unfold ledon
              rw [List.length_map, w2]
            have hg' : H9 g = some (.tup ((key (ledon t r j)).map kV)) := by rw [key_tup]; exact hg
            refine ⟨_, rfl, _, rfl, LW, _, rfl, DGet.t (k := key (ledon t r j)) hW hg', _, rfl, ?_⟩
            have sz : (100000 : Nat) < sizeLine := by decide
            cases e : valV kW (key (ledon t r j)) with
            | some v =>
              refine iteF ?_
              exact ⟨us', Fs, kW, _, _, _, rfl, hF, hW, RA, WA, wf, by omega, la, nd, sH⟩
            | none =>
              refine iteT ?_
              obtain ⟨bq', e1, e2⟩ := RA.2 at' _ (List.getElem?_eq_getElem la)
              have bb : bq' = bq := by
                rw [b1] at e1
                exact (V.ref.inj (Option.some.inj e1)).symm
              subst bb
              have b3 := sg _ _ b2'
              have G : DGet H9 LW (.ref bq') (some (.str wd)) := by
                have q := DGet.t (k := key r) hW (by rw [key_tup]; exact b3)
                rw [d1] at q
                exact q
              have wl : wd.length + (⟨#[c]⟩ : Str).length ≤ sizeLine := by
                have : (⟨#[c]⟩ : Str).length = 1 := rfl
                omega
              refine ⟨_, rfl, _, rfl, _, rfl, LF, us', _, _, rfl, rfl, SqL.of hF, atI_nat b1, LW, _, rfl, G, _, rfl, wd, ⟨#[c]⟩, rfl, rfl, wl, _, rfl, _, rfl, LW, _, rfl, DPut.t hW hg' (by have := WA.len; omega), ?_⟩
              have gF : g ≠ LF := ne_of hg hF (fun z => by cases z)
              have gW : g ≠ LW := ne_of hg hW (fun z => by cases z)
              have FW : LF ≠ LW := ne_of hF hW (fun z => by cases z)
              have WA2 := WA.put (c := c) e d2 d3 cx (by rw [ej]) d4 la
              have hFa : (upd H9 LW (.dT (putK kW (key (ledon t r j)) (.str (wd ++ ⟨#[c]⟩))))) LF = some (.lst us') := by rw [upd_ne FW]; exact hF
              have lF : us'.length = Fs.length := RA.1
              refine ⟨_, rfl, .inl ⟨rfl, _, SqL.of hFa⟩, _, rfl, LF, us', .ref g, rfl, rfl, hFa, (by omega), ?_⟩
              refine ⟨us' ++ [.ref g], Fs ++ [ledon t r j], putK kW (key (ledon t r j)) (.str (wd ++ ⟨#[c]⟩)), _, _, _, rfl, upd_same, ?_, ?_, WA2, ?_, ?_, ?_, ?_, ?_⟩
              · rw [upd_ne (Ne.symm FW)]
                exact upd_same
              · refine (RA.to fun b ys h => ?_).snoc ?_
                · rw [upd_ne (ne_of h hF (fun z => by cases z)), upd_ne (ne_of h hW (fun z => by cases z))]
                  exact h
                · rw [upd_ne gF, upd_ne gW]
                  exact hg
              · intro r' hr2
                rcases List.mem_append.mp hr2 with q | q
                · exact wf r' q
                · rw [List.mem_singleton.mp q]
                  exact ⟨lw, ll⟩
              · rw [List.length_append]
                show Fs.length + 1 ≤ _
                omega
              · rw [List.length_append]
                omega
              · rw [List.nodup_append]
                refine ⟨nd, by simp, fun y hy z hz q => ?_⟩
                rw [List.mem_singleton.mp hz] at q
                obtain ⟨i', hi', ei'⟩ := List.getElem_of_mem hy
                obtain ⟨w', h1', _⟩ := WA.has i' y (by rw [List.getElem?_eq_getElem hi', ei'])
                rw [q, e] at h1'
                cases h1'
              · intro b o h
                rw [upd_ne (ne_of_none h fLF), upd_ne (ne_of_none h nLW)]
                exact sH _ _ h
          · rintro σ H6 ⟨us', Fs, kW, v1, v2, v3, rfl, hF, hW, RA, WA, wf, lf, la, nd, sH⟩
            have xs2 : x.cps.size ≤ 2 := by
              have e : x.cps.toList.length = x.cps.size := by simp
              omega
            refine ⟨_, rfl, _, _, rfl, rfl, ⟨us', Fs, kW, at' + 1, v1, v2, v3, rfl, hF, hW, RA, WA, wf, by omega, nd, sH⟩, ?_⟩
            show mo + 1 - (at' + 1) < mo + 1 - at'
            omega
        · exact ⟨_, rfl, k LW kW Fs H5 hW WA stop nd wf sH⟩
      · exact ⟨_, rfl, iteF ⟨_, rfl, k LW kW Fs H5 hW WA stop nd wf sH⟩⟩
    · rintro σ H1 Q1 Q2 hq h
      obtain ⟨v1, hv1, v2, hv2, p, ys, hp, hs, i1, i2, c1, c2, b, hb, hh⟩ := h
      refine ⟨v1, hv1, v2, hv2, p, ys, hp, hs, i1, i2, c1, c2, b, hb, ?_⟩
      cases b with
      | true =>
        obtain ⟨v3, hv3, j1, j2, d1, d2, b2, hb2, hh⟩ := hh
        exact ⟨v3, hv3, j1, j2, d1, d2, b2, hb2, hq _ _ hh⟩
      | false =>
        obtain ⟨b2, hb2, hh⟩ := hh
        exact ⟨b2, hb2, hq _ _ hh⟩
end
end M3

set_option Elab.async false
set_option linter.all false
set_option maxRecDepth 100000
set_option maxHeartbeats 8000000
/-! # The actions of all words: just what action_words gives, by a function on lists -/
namespace M3
open PySem L2
/-- one action further by one letter, if it is new -/
def addA (t : List (List Nat)) (r : List Nat) (w : Str) (j c : Nat) (F : List (List Nat × Str)) : List (List Nat × Str) :=
  if ledon t r j ∈ F.map Prod.fst then F else F ++ [(ledon t r j, w ++ ⟨#[c]⟩)]
/-- .. by the first letters, so many -/
def rowA (t : List (List Nat)) (x : Str) (r : List Nat) (w : Str) (F : List (List Nat × Str)) : Nat → List (List Nat × Str)
  | 0 => F
  | j + 1 => addA t r w j (x.cps.toList.getD j 0) (rowA t x r w F j)
/-- one found action after the other -/
def bfsL (t : List (List Nat)) (x : Str) (mo : Nat) : Nat → Nat → List (List Nat × Str) → List (List Nat × Str)
  | 0, _, F => F
  | n + 1, i, F => match F[i]? with
    | none => F
    | some z => if F.length ≤ mo then bfsL t x mo n (i + 1) (rowA t x z.1 z.2 F x.cps.size) else F
/-- the actions in the order of their words, with these -/
def bfs (t : List (List Nat)) (x : Str) (mo : Nat) : List (List Nat × Str) := bfsL t x mo (mo + 1) 0 [(List.range t.length, "")]
def ents (F : List (List Nat × Str)) : List (List Key × V) := F.map fun z => (key z.1, V.str z.2)
theorem ents_none {s : List Nat} : ∀ {F : List (List Nat × Str)}, s ∉ F.map Prod.fst → valV (ents F) (key s) = none
  | [], _ => valV_nil
  | z :: F, h => by
    have h1 : ¬ key z.1 = key s := fun e => h (by rw [← key_inj e]; exact List.mem_cons_self)
    show valV ((key z.1, V.str z.2) :: ents F) (key s) = none
    rw [valV_neg h1]
    exact ents_none fun h2 => h (List.mem_cons_of_mem _ h2)
theorem ents_some {s : List Nat} : ∀ {F : List (List Nat × Str)}, s ∈ F.map Prod.fst → ∃ w, valV (ents F) (key s) = some (.str w)
  | z :: F, h => by
    by_cases h1 : key z.1 = key s
    · exact ⟨z.2, valV_pos h1⟩
    · show ∃ w, valV ((key z.1, V.str z.2) :: ents F) (key s) = some (.str w)
      rw [valV_neg h1]
      rcases List.mem_cons.mp h with h2 | h2
      · rw [h2] at h1
        exact absurd rfl h1
      · exact ents_some h2
theorem ents_at {F : List (List Nat × Str)} (nd : (F.map Prod.fst).Nodup) : ∀ {i : Nat} {z : List Nat × Str}, F[i]? = some z → valV (ents F) (key z.1) = some (.str z.2) := by
  induction F with
  | nil =>
    intro i z h
    cases h
  | cons y F ih =>
    intro i z h
    have nd' : y.1 ∉ F.map Prod.fst ∧ (F.map Prod.fst).Nodup := List.nodup_cons.mp nd
    cases i with
    | zero =>
      cases h
      exact valV_pos rfl
    | succ i =>
      have h : F[i]? = some z := h
      have ne : ¬ key y.1 = key z.1 := fun e => nd'.1 (by
        rw [key_inj e]
        exact List.mem_map.mpr ⟨z, List.mem_of_getElem? h, rfl⟩)
      show valV ((key y.1, V.str y.2) :: ents F) (key z.1) = _
      rw [valV_neg ne]
      exact ih nd'.2 h
theorem put_new {s : List Nat} {w : Str} {F : List (List Nat × Str)} (h : s ∉ F.map Prod.fst) : putK (ents F) (key s) (.str w) = ents (F ++ [(s, w)]) := by
  rw [putK_new _ (ents_none h)]
  unfold ents
  rw [List.map_append]
  rfl
theorem addA_old {t : List (List Nat)} {r : List Nat} {w : Str} {j c : Nat} {F : List (List Nat × Str)} (h : ledon t r j ∈ F.map Prod.fst) : addA t r w j c F = F := if_pos h
theorem addA_new {t : List (List Nat)} {r : List Nat} {w : Str} {j c : Nat} {F : List (List Nat × Str)} (h : ledon t r j ∉ F.map Prod.fst) : addA t r w j c F = F ++ [(ledon t r j, w ++ ⟨#[c]⟩)] := if_neg h
theorem addA_at {t : List (List Nat)} {r : List Nat} {w : Str} {j c i : Nat} {z : List Nat × Str} {F : List (List Nat × Str)} (h : F[i]? = some z) : (addA t r w j c F)[i]? = some z := by
  unfold addA
  split
  · exact h
  · exact at_app h _
theorem rowA_at {t : List (List Nat)} {x : Str} {r : List Nat} {w : Str} {i : Nat} {z : List Nat × Str} {F : List (List Nat × Str)} (h : F[i]? = some z) : ∀ n, (rowA t x r w F n)[i]? = some z
  | 0 => h
  | n + 1 => addA_at (rowA_at h n)
theorem addA_nodup {t : List (List Nat)} {r : List Nat} {w : Str} {j c : Nat} {F : List (List Nat × Str)} (h : (F.map Prod.fst).Nodup) : ((addA t r w j c F).map Prod.fst).Nodup := by
  unfold addA
  split
  · exact h
  · rename_i n
    rw [List.map_append, List.nodup_append]
    refine ⟨h, by simp, fun y hy z hz q => ?_⟩
    have hz : z ∈ [ledon t r j] := hz
    rw [List.mem_singleton.mp hz] at q
    rw [q] at hy
    exact n hy
theorem rowA_nodup {t : List (List Nat)} {x : Str} {r : List Nat} {w : Str} {F : List (List Nat × Str)} (h : (F.map Prod.fst).Nodup) : ∀ n, ((rowA t x r w F n).map Prod.fst).Nodup
  | 0 => h
  | n + 1 => addA_nodup (rowA_nodup h n)
theorem addA_len {t : List (List Nat)} {r : List Nat} {w : Str} {j c : Nat} {F : List (List Nat × Str)} : (addA t r w j c F).length ≤ F.length + 1 := by
  unfold addA
  split
  · omega
  · rw [List.length_append]
    exact Nat.le_refl _
theorem rowA_len {t : List (List Nat)} {x : Str} {r : List Nat} {w : Str} {F : List (List Nat × Str)} : ∀ n, (rowA t x r w F n).length ≤ F.length + n
  | 0 => Nat.le_refl _
  | n + 1 => by
    have := rowA_len (t := t) (x := x) (r := r) (w := w) (F := F) n
    have h := addA_len (t := t) (r := r) (w := w) (j := n) (c := x.cps.toList.getD n 0) (F := rowA t x r w F n)
    show (addA t r w n (x.cps.toList.getD n 0) (rowA t x r w F n)).length ≤ _
    omega
/-- what is kept of each found action: lines of states, short words of the letters -/
def FoundA (t : List (List Nat)) (x : Str) (F : List (List Nat × Str)) : Prop := ∀ (i : Nat) (z : List Nat × Str), F[i]? = some z → (∀ q ∈ z.1, q < t.length) ∧ z.1.length = t.length ∧ IsW x z.2 ∧ z.1 = act t x z.2.cps.toList ∧ z.2.length ≤ i
theorem addA_found {t : List (List Nat)} {x : Str} {m : Nat} (tb : IsTab t t.length m) {F : List (List Nat × Str)} {i j c : Nat} {z : List Nat × Str} (h : FoundA t x F) (hz : F[i]? = some z) {G : List (List Nat × Str)} (hG : FoundA t x G) (hi : i < G.length) (hj : j < m) (hc : c ∈ x.cps.toList) (ej : x.cps.toList.idxOf c = j) : FoundA t x (addA t z.1 z.2 j c G) := by
  unfold addA
  split
  · exact hG
  · intro k y hy
    obtain ⟨z1, z2, z3, z4, z5⟩ := h i z hz
    rcases snoc_at hy with hy | ⟨rfl, rfl⟩
    · exact hG k y hy
    · have sn := snoc_cps z.2 c
      refine ⟨ledon_lt tb hj z1, ?_, fun d hd => ?_, ?_, ?_⟩
      · show (ledon t z.1 j).length = _
        unfold ledon
        rw [List.length_map, z2]
      · have hd : d ∈ (z.2 ++ (⟨#[c]⟩ : Str)).cps.toList := hd
        rw [sn] at hd
        rcases List.mem_append.mp hd with q | q
        · exact z3 d q
        · rw [List.mem_singleton.mp q]
          exact hc
      · show ledon t z.1 j = act t x (z.2 ++ (⟨#[c]⟩ : Str)).cps.toList
        rw [sn, act_snoc, ej, ← z4]
      · show (z.2.cps ++ #[c]).size ≤ G.length
        have : z.2.cps.size ≤ i := z5
        simp
        omega
def spActWordsE (K : PySem.W.Frag) : Sp := fun vs H Q _ => ∃ (a : Addr) (x : Str) (us : List V) (t : List (List Nat)) (m mo : Nat), vs = [.ref a, .str x, .int mo] ∧ SqT K H a us ∧ Tups K H us t ∧ IsTab t t.length m ∧ IsSet x m ∧ m ≤ 2 ∧ t.length ≤ 1000 ∧ mo ≤ 1000 ∧
  ∀ (D : Addr) (H' : Hp), H' D = some (.dT (ents (bfs t x mo))) → Same H H' → Q (.ref D) H'
theorem getD_some' {l : List Nat} {q v : Nat} (h : l[q]? = some v) : l.getD q 0 = v := by
  rw [List.getD_eq_getElem?_getD, h]
  rfl
theorem bfsL_stop {t : List (List Nat)} {x : Str} {mo i : Nat} {F : List (List Nat × Str)} (h : F.length ≤ i ∨ mo < F.length) : ∀ n, bfsL t x mo n i F = F
  | 0 => rfl
  | n + 1 => by
    show (match F[i]? with
      | none => F
      | some z => if F.length ≤ mo then bfsL t x mo n (i + 1) (rowA t x z.1 z.2 F x.cps.size) else F) = F
    rcases h with h | h
    · rw [List.getElem?_eq_none h]
    · split
      · rfl
      · exact if_neg (by omega)
section
variable {P : Program} {w : World} {K : PySem.W.Frag} {mg : Str → Option Value} {base : Heap}
theorem ok_actwordsE {f g g2 : Addr} {fd gd gd2 : FuncData} (F : Fun K "action_words" "action_words" sActWords f fd) (G : Fun K "unmoved" "unmoved" sUnmoved g gd) (bG : Binds K gd ["table"] []) (mG : mg "unmoved" = some (.ref g)) (G2 : Fun K "led_on" "led_on" sLedOn g2 gd2) (b2 : Binds K gd2 ["table", "states", "column"] []) (m2 : mg "led_on" = some (.ref g2)) (M : TxM mg) (hE : mg "enumerate" = none) :
    FnOk P w K mg base CX0 2 f fd ["table", "letters", "most"] (spActWordsE K) := by
  have GU : FnOk P w K mg base CX0 1 g gd ["table"] (spUnmoved K) := ok_unmoved G M
  have GL : FnOk P w K mg base CX0 1 g2 gd2 ["table", "states", "column"] (spLedOn K) := ok_ledon G2 M
  refine F.ok scAW (fun vs H Q E h => ?_) (fun cdv A outer s H vs Q E hr h => ?_)
  · obtain ⟨a, x, us, t, m, mo, rfl, _⟩ := h
    rfl
  · obtain ⟨a, x, us, t, m, mo, rfl, ha, hT, tb, st, hm2, tl, hmo, k⟩ := h
    have hu := hu_of hr
    have hu0 : (A.deeper (PyProof.Rows.envOfC "action_words" (defScope sActWords) s.heap.objs.size f cdv)).units < cLine := Nat.lt_of_succ_lt hu
    refine ⟨_, pss_cons (ps_set (i := 3) scAW.nd rfl (Or.inl rfl) (NvQ.pe_disp1 hu0 (pe_call GU hr rfl mG G.kp bG .nil pass0 (pa_cons (pv 0) pa_nil)) pe_str))
      (pss_cons (ps_set (i := 4) scAW.nd rfl (Or.inl rfl) (pe_lst (pa_cons (pe_call GU hr rfl mG G.kp bG .nil pass0 (pa_cons (pv 0) pa_nil)) pa_nil)))
      (pss_cons (ps_set (i := 5) scAW.nd rfl (Or.inl rfl) pe_int)
      (pss_cons (ps_while PassesOwn.never (pt_chain op_lt op_le (pv 5) (pe_callB call_len_seq (by rfl) M.len PySem.boot_len (pa_cons (pv 4) pa_nil)) (pv 2))
        (pss_cons (ps_for PassesOwn.never rfl (NvY.pi_enumS rfl hE (pa_cons (pv 1) pa_nil)) (pg_tup rfl (pgs_cons (pg_name (i := 6) scAW.nd rfl (Or.inl rfl)) (pgs_cons (pg_name (i := 7) scAW.nd rfl (Or.inl rfl)) pgs_nil)))
          (pss_cons (ps_set (i := 8) scAW.nd rfl (Or.inl rfl) (pe_call GL hr rfl m2 G2.kp b2 .nil pass0 (pa_cons (pv 0) (pa_cons (pe_ix ix_list (pv 4) (pv 5) (fun _ _ => rfl)) (pa_cons (pv 6) pa_nil)))))
          (pss_one (ps_if (pt_cmp (pc_dnotin hu (pv 8) (pv 3)))
            (pss_cons (ps_dput hu (pv 3) (pv 8) (pe_op op_add_str (pe_dget hu (pv 3) (pe_ix ix_list (pv 4) (pv 5) (fun _ _ => rfl)) (fun _ _ => rfl)) (pv 7)) rfl)
            (pss_one (ps_expr (pe_bm PySem.F.plainAttrs_list PySem.F.slot_list_append PySem.F.type_list_append mt_append (pv 4) (pa_cons (pv 8) pa_nil))))) pss_nil))))
        (pss_one (ps_aug (i := 5) scAW.nd rfl (.inl rfl) pe_int ip_add))))
      (pss_one (ps_ret (pv 3)))))), ?_⟩
    have lu : us.length = t.length := hT.1
    have hm : x.cps.toList.length = m := by
      have := set_len st
      simpa [Str.length] using this
    have free : ∀ {H9 : Hp} {q : Addr}, Same H H9 → H9 q = none → H q = none := fun {H9 q} sx hq => by
      cases e : H q with
      | none => rfl
      | some o =>
        have := sx _ _ e
        rw [hq] at this
        cases this
    intro LW nLW
    have s0 : Same H (upd H LW (.dT [])) := Same.new (Same.refl H) nLW
    refine ⟨_, rfl, a, us, rfl, sqt_same s0 ha, by omega, fun p0 H1 np h1 s1 => ?_⟩
    rw [lu] at h1
    have hW1 : H1 LW = some (.dT []) := s1 _ _ upd_same
    have pW : p0 ≠ LW := ne_of h1 hW1 (fun z => by cases z)
    refine ⟨p0, key (List.range t.length), .str "", rfl, hW1, by rw [key_tup]; exact h1, ?_⟩
    have hW2 : (upd H1 LW (.dT [(key (List.range t.length), .str "")])) LW = some (.dT [(key (List.range t.length), .str "")]) := upd_same
    have sx : Same H (upd H1 LW (.dT [(key (List.range t.length), .str "")])) := fun b o h => by
      rw [upd_ne (ne_of_none h nLW)]
      exact (s0.trans s1) _ _ h
    generalize upd H1 LW (.dT [(key (List.range t.length), .str "")]) = H2 at hW2 sx ⊢
    clear h1 hW1 pW s1 np
    refine ⟨_, rfl, a, us, rfl, sqt_same sx ha, by omega, fun p1 H3 np h3 s3 => ⟨(by show 1 ≤ sizeLine; decide), fun LF nLF => ?_⟩⟩
    rw [lu] at h3
    have fLF : H LF = none := free (sx.trans s3) nLF
    have hF4 : (upd H3 LF (.lst [.ref p1])) LF = some (.lst [.ref p1]) := upd_same
    have hp4 : (upd H3 LF (.lst [.ref p1])) p1 = some (.tup (nts (List.range t.length))) := keep_new h3 nLF
    have hW4 : (upd H3 LF (.lst [.ref p1])) LW = some (.dT [(key (List.range t.length), .str "")]) := keep_new (s3 _ _ hW2) nLF
    have s4 : Same H (upd H3 LF (.lst [.ref p1])) := Same.new (sx.trans s3) nLF
    generalize upd H3 LF (.lst [.ref p1]) = H4 at hF4 hp4 hW4 s4 ⊢
    clear h3 s3 nLF np hW2 sx
    have FW : LF ≠ LW := ne_of hF4 hW4 (fun z => by cases z)
    refine while_by (fun σ H' => ∃ (us' : List V) (F : List (List Nat × Str)) (at' : Nat) (v1 v2 v3 : Option V), σ = [some (.ref a), some (.str x), some (.int (mo : Nat)), some (.ref LW), some (.ref LF), some (.int (at' : Nat)), v1, v2, v3] ∧
        H' LF = some (.lst us') ∧ H' LW = some (.dT (ents F)) ∧ RowsA H' us' (F.map Prod.fst) ∧ FoundA t x F ∧ (F.map Prod.fst).Nodup ∧ F.length ≤ mo + 2 ∧ bfsL t x mo (mo + 1 - at') at' F = bfs t x mo ∧ Same H H')
      (fun σ H' => match σ with | [_, _, _, _, _, some (.int i), _, _, _] => mo + 1 - i.toNat | _ => 0)
      ⟨[.ref p1], [(List.range t.length, "")], 0, none, none, none, rfl, hF4, hW4, ?_, ?_, by simp, (by show 1 ≤ mo + 2; omega), rfl, s4⟩ ?_ ?_
    · exact ⟨rfl, fun i r e => by
        match i, e with
        | 0, e => exact ⟨p1, rfl, by cases e; exact hp4⟩⟩
    · intro i z e
      match i, e with
      | 0, e =>
        cases e
        have e0 : ("" : Str).cps.toList = [] := by decide +kernel
        refine ⟨fun q hq => List.mem_range.mp hq, List.length_range, fun c hc => ?_, by rw [e0, act_nil], (show ("" : Str).length ≤ 0 by decide +kernel)⟩
        rw [e0] at hc
        cases hc
    · rintro σ H5 ⟨us', F, at', v1, v2, v3, rfl, hF, hW, RA, FA, nd, lf, bf, sH⟩
      refine ⟨_, rfl, _, rfl, LF, us', rfl, .inl (SqL.of hF), _, _, rfl, rfl, _, rfl, ?_⟩
      have lus : us'.length = F.length := by rw [RA.1, List.length_map]
      rw [lus]
      refine ite2 (fun h1 => ?_) (fun h1 => ?_)
      · refine ⟨_, rfl, _, _, rfl, rfl, _, rfl, ?_⟩
        have h1 : at' < F.length := by
          have := of_decide_eq_true h1
          omega
        refine ite2 (fun h2 => ?_) (fun h2 => ?_)
        · have h2 : F.length ≤ mo := by
            have := of_decide_eq_true h2
            omega
          have hz : F[at']? = some F[at'] := List.getElem?_eq_getElem h1
          generalize F[at'] = z at hz
          have bf2 : bfsL t x mo (mo + 1 - (at' + 1)) (at' + 1) (rowA t x z.1 z.2 F x.cps.size) = bfs t x mo := by
            rw [← bf, show mo + 1 - at' = (mo + 1 - (at' + 1)) + 1 by omega]
            show _ = (match F[at']? with
              | none => F
              | some z => if F.length ≤ mo then bfsL t x mo (mo + 1 - (at' + 1)) (at' + 1) (rowA t x z.1 z.2 F x.cps.size) else F)
            rw [hz]
            exact (if_pos h2).symm
          refine ⟨_, rfl, x, rfl, for_it NvY.walk_enumS (fun j σ H' => ∃ (us' : List V) (v1 v2 v3 : Option V), σ = [some (.ref a), some (.str x), some (.int (mo : Nat)), some (.ref LW), some (.ref LF), some (.int (at' : Nat)), v1, v2, v3] ∧
              H' LF = some (.lst us') ∧ H' LW = some (.dT (ents (rowA t x z.1 z.2 F j))) ∧ RowsA H' us' ((rowA t x z.1 z.2 F j).map Prod.fst) ∧ FoundA t x (rowA t x z.1 z.2 F j) ∧ Same H H')
            ⟨us', v1, v2, v3, rfl, hF, hW, RA, FA, sH⟩ (fun _ _ _ _ _ => trivial) ?_ ?_⟩
          · rintro j v σ H6 H7 hj ⟨us', v1, v2, v3, rfl, hF, hW, RA, FA2, sH⟩ ⟨T, c, rfl, nT, rfl, hc⟩
            have hc' : x.cps.toList[j]? = some c := by simpa using hc
            have cx : c ∈ x.cps.toList := List.mem_of_getElem? hc'
            have ec : x.cps.toList.getD j 0 = c := getD_some' hc'
            have jm : j < m := by
              have : x.cps.toList.length = m := hm
              have e : x.cps.toList.length = x.cps.size := by simp
              omega
            have ej : x.cps.toList.idxOf c = j := set_ix st hm2 hc'
            have gz : (rowA t x z.1 z.2 F j)[at']? = some z := rowA_at hz j
            have ndj := rowA_nodup (x := x) (r := z.1) (w := z.2) (t := t) nd j
            have lj := rowA_len (x := x) (r := z.1) (w := z.2) (t := t) (F := F) j
            have rw1 : rowA t x z.1 z.2 F (j + 1) = addA t z.1 z.2 j c (rowA t x z.1 z.2 F j) := by
              show addA t z.1 z.2 j (x.cps.toList.getD j 0) _ = _
              rw [ec]
            rw [rw1]
            have FA3 := addA_found tb FA hz FA2 (List.getElem?_eq_some_iff.mp gz).1 jm cx ej
            generalize rowA t x z.1 z.2 F j = G at hW RA FA2 gz ndj lj FA3 ⊢
            have gm : (G.map Prod.fst)[at']? = some z.1 := by
              rw [List.getElem?_map, gz]
              rfl
            obtain ⟨bq, b1, b2'⟩ := RA.2 at' _ gm
            obtain ⟨w1, w2, d2, d3, d4⟩ := FA2 at' z gz
            have d1 := ents_at ndj gz
            refine ⟨T, _, rfl, SqT.of upd_same, rfl, _, _, rfl, _, _, rfl, rfl, ?_⟩
            have hF := keep_new (u := .tup [.int (j : Nat), .str ⟨#[c]⟩]) hF nT
            have hW := keep_new (u := .tup [.int (j : Nat), .str ⟨#[c]⟩]) hW nT
            have b2' := keep_new (u := .tup [.int (j : Nat), .str ⟨#[c]⟩]) b2' nT
            have RA := RA.to (H' := upd H6 T (.tup [.int (j : Nat), .str ⟨#[c]⟩])) (fun b ys h => keep_new h nT)
            have sH : Same H (upd H6 T (.tup [.int (j : Nat), .str ⟨#[c]⟩])) := Same.new sH nT
            generalize upd H6 T (.tup [.int (j : Nat), .str ⟨#[c]⟩]) = H8 at hF hW b2' RA sH ⊢
            refine ⟨_, rfl, _, rfl, _, rfl, LF, us', _, _, rfl, rfl, SqL.of hF, atI_nat b1, _, rfl, a, bq, us, t, z.1, j, m, rfl, sqt_same sH ha, hT.same sH, tb, SqT.of b2', w1, by omega, jm, fun g H9 ng hg sg => ?_⟩
            have hF := sg _ _ hF
            have hW := sg _ _ hW
            have RA := RA.to (H' := H9) (fun b ys h => sg _ _ h)
            have sH := sH.trans sg
            have hg' : H9 g = some (.tup ((key (ledon t z.1 j)).map kV)) := by rw [key_tup]; exact hg
            refine ⟨_, rfl, _, rfl, LW, _, rfl, DGet.t (k := key (ledon t z.1 j)) hW hg', _, rfl, ?_⟩
            have sz : (100000 : Nat) < sizeLine := by decide
            by_cases mem : ledon t z.1 j ∈ G.map Prod.fst
            · obtain ⟨wv, ev⟩ := ents_some mem
              rw [ev]
              refine iteF ?_
              rw [addA_old mem] at FA3 ⊢
              exact ⟨us', _, _, _, rfl, hF, hW, RA, FA2, sH⟩
            · rw [ents_none mem]
              refine iteT ?_
              rw [addA_new mem] at FA3 ⊢
              obtain ⟨bq', e1, e2⟩ := RA.2 at' _ gm
              have bb : bq' = bq := by
                rw [b1] at e1
                exact (V.ref.inj (Option.some.inj e1)).symm
              subst bb
              have b3 := sg _ _ b2'
              have GD : DGet H9 LW (.ref bq') (some (.str z.2)) := by
                have q := DGet.t (k := key z.1) hW (by rw [key_tup]; exact b3)
                rw [d1] at q
                exact q
              have wl : z.2.length + (⟨#[c]⟩ : Str).length ≤ sizeLine := by
                have : (⟨#[c]⟩ : Str).length = 1 := rfl
                have : at' < G.length := (List.getElem?_eq_some_iff.mp gz).1
                omega
              have le : (ents G).length = G.length := List.length_map _
              refine ⟨_, rfl, _, rfl, _, rfl, LF, us', _, _, rfl, rfl, SqL.of hF, atI_nat b1, LW, _, rfl, GD, _, rfl, z.2, ⟨#[c]⟩, rfl, rfl, wl, _, rfl, _, rfl, LW, _, rfl, DPut.t hW hg' (by omega), ?_⟩
              rw [put_new mem]
              have gF : g ≠ LF := ne_of hg hF (fun z => by cases z)
              have gW : g ≠ LW := ne_of hg hW (fun z => by cases z)
              have FW : LF ≠ LW := ne_of hF hW (fun z => by cases z)
              have hFa : (upd H9 LW (.dT (ents (G ++ [(ledon t z.1 j, z.2 ++ ⟨#[c]⟩)])))) LF = some (.lst us') := by rw [upd_ne FW]; exact hF
              have lF : us'.length = G.length := by rw [RA.1, List.length_map]
              refine ⟨_, rfl, .inl ⟨rfl, _, SqL.of hFa⟩, _, rfl, LF, us', .ref g, rfl, rfl, hFa, (by omega), ?_⟩
              refine ⟨us' ++ [.ref g], _, _, _, rfl, upd_same, ?_, ?_, FA3, ?_⟩
              · rw [upd_ne (Ne.symm FW)]
                exact upd_same
              · rw [List.map_append]
                refine (RA.to fun b ys h => ?_).snoc ?_
                · rw [upd_ne (ne_of h hF (fun z => by cases z)), upd_ne (ne_of h hW (fun z => by cases z))]
                  exact h
                · rw [upd_ne gF, upd_ne gW]
                  exact hg
              · intro b o h
                rw [upd_ne (ne_of_none h fLF), upd_ne (ne_of_none h nLW)]
                exact sH _ _ h
          · rintro σ H6 ⟨us', v1, v2, v3, rfl, hF, hW, RA, FA2, sH⟩
            have xs2 : x.cps.size ≤ 2 := by
              have e : x.cps.toList.length = x.cps.size := by simp
              omega
            have lj := rowA_len (x := x) (r := z.1) (w := z.2) (t := t) (F := F) x.cps.size
            refine ⟨_, rfl, _, _, rfl, rfl, ⟨us', _, at' + 1, v1, v2, v3, rfl, hF, hW, RA, FA2, rowA_nodup nd _, by omega, bf2, sH⟩, ?_⟩
            show mo + 1 - (at' + 1) < mo + 1 - at'
            omega
        · have h2 : mo < F.length := by
            by_cases q : mo < F.length
            · exact q
            · exact absurd (decide_eq_true (show ((F.length : Nat) : Int) ≤ ((mo : Nat) : Int) by omega)) h2
          rw [bfsL_stop (.inr h2)] at bf
          rw [bf] at hW
          exact ⟨_, rfl, k LW H5 hW sH⟩
      · have h1 : F.length ≤ at' := by
          by_cases q : F.length ≤ at'
          · exact q
          · exact absurd (decide_eq_true (show ((at' : Nat) : Int) < ((F.length : Nat) : Int) by omega)) h1
        rw [bfsL_stop (.inl h1)] at bf
        rw [bf] at hW
        exact ⟨_, rfl, iteF ⟨_, rfl, k LW H5 hW sH⟩⟩
    · rintro σ H1 Q1 Q2 hq h
      obtain ⟨v1, hv1, v2, hv2, p, ys, hp, hs, i1, i2, c1, c2, b, hb, hh⟩ := h
      refine ⟨v1, hv1, v2, hv2, p, ys, hp, hs, i1, i2, c1, c2, b, hb, ?_⟩
      cases b with
      | true =>
        obtain ⟨v3, hv3, j1, j2, d1, d2, b2, hb2, hh⟩ := hh
        exact ⟨v3, hv3, j1, j2, d1, d2, b2, hb2, hq _ _ hh⟩
      | false =>
        obtain ⟨b2, hb2, hh⟩ := hh
        exact ⟨b2, hb2, hq _ _ hh⟩
end
end M3

set_option Elab.async false
set_option linter.all false
set_option maxRecDepth 100000
set_option maxHeartbeats 8000000
/-! # All actions are found -/
namespace M3
open PySem L2
theorem addA_mem {t : List (List Nat)} {r : List Nat} {w : Str} {j c : Nat} {F : List (List Nat × Str)} {s : List Nat} (h : s ∈ F.map Prod.fst) : s ∈ (addA t r w j c F).map Prod.fst := by
  unfold addA
  split
  · exact h
  · rw [List.map_append]
    exact List.mem_append_left _ h
theorem addA_has {t : List (List Nat)} {r : List Nat} {w : Str} {j c : Nat} {F : List (List Nat × Str)} : ledon t r j ∈ (addA t r w j c F).map Prod.fst := by
  by_cases h : ledon t r j ∈ F.map Prod.fst
  · exact addA_mem h
  · rw [addA_new h, List.map_append]
    exact List.mem_append_right _ List.mem_cons_self
theorem rowA_mem {t : List (List Nat)} {x : Str} {r : List Nat} {w : Str} {F : List (List Nat × Str)} {s : List Nat} (h : s ∈ F.map Prod.fst) : ∀ n, s ∈ (rowA t x r w F n).map Prod.fst
  | 0 => h
  | n + 1 => addA_mem (rowA_mem h n)
theorem rowA_has {t : List (List Nat)} {x : Str} {r : List Nat} {w : Str} {F : List (List Nat × Str)} {j : Nat} : ∀ n, j < n → ledon t r j ∈ (rowA t x r w F n).map Prod.fst
  | 0, h => absurd h (Nat.not_lt_zero _)
  | n + 1, h => by
    by_cases c : j = n
    · subst c
      exact addA_has
    · exact addA_mem (rowA_has n (by omega))
/-- what stands is a beginning of what stands later -/
theorem addA_pre {t : List (List Nat)} {r : List Nat} {w : Str} {j c : Nat} {F : List (List Nat × Str)} {i : Nat} {z : List Nat × Str} (h : (addA t r w j c F)[i]? = some z) (hi : i < F.length) : F[i]? = some z := by
  have := addA_at (t := t) (r := r) (w := w) (j := j) (c := c) (List.getElem?_eq_getElem hi)
  rw [this] at h
  rw [List.getElem?_eq_getElem hi]
  exact h
/-- the first actions have all their followers -/
def ClosedA (t : List (List Nat)) (x : Str) (n : Nat) (F : List (List Nat × Str)) : Prop := ∀ (i : Nat) (z : List Nat × Str), i < n → F[i]? = some z → ∀ j, j < x.cps.size → ledon t z.1 j ∈ F.map Prod.fst
theorem bfsL_closed {t : List (List Nat)} {x : Str} {mo : Nat} : ∀ (n i : Nat) (F : List (List Nat × Str)), mo + 1 ≤ n + i → ClosedA t x i F → (bfsL t x mo n i F).length ≤ mo → ClosedA t x (bfsL t x mo n i F).length (bfsL t x mo n i F)
  | 0, i, F, h, c, l => fun k z hk hz => c k z (by have l : F.length ≤ mo := l; have hk : k < F.length := hk; omega) hz
  | n + 1, i, F, h, c, l => by
    by_cases h1 : F.length ≤ i
    · rw [bfsL_stop (.inl h1)]
      exact fun k z hk hz => c k z (by omega) hz
    · by_cases h2 : mo < F.length
      · rw [bfsL_stop (.inr h2)] at l
        omega
      · have hz : F[i]? = some F[i] := List.getElem?_eq_getElem (by omega)
        generalize F[i] = z at hz
        have e : bfsL t x mo (n + 1) i F = bfsL t x mo n (i + 1) (rowA t x z.1 z.2 F x.cps.size) := by
          show (match F[i]? with
            | none => F
            | some z => if F.length ≤ mo then bfsL t x mo n (i + 1) (rowA t x z.1 z.2 F x.cps.size) else F) = _
          rw [hz]
          exact if_pos (by omega)
        rw [e] at l ⊢
        refine bfsL_closed n (i + 1) _ (by omega) (fun k y hk hy j hj => ?_) l
        by_cases ki : k = i
        · rw [ki, rowA_at hz] at hy
          cases hy
          exact rowA_has _ hj
        · have kF : F[k]? = some F[k] := List.getElem?_eq_getElem (by omega)
          rw [rowA_at kF] at hy
          cases hy
          exact rowA_mem (c k _ (by omega) kF j hj) _
theorem bfsL_at {t : List (List Nat)} {x : Str} {mo : Nat} : ∀ (n i : Nat) (F : List (List Nat × Str)) {k : Nat} {z : List Nat × Str}, F[k]? = some z → (bfsL t x mo n i F)[k]? = some z
  | 0, i, F, k, z, h => h
  | n + 1, i, F, k, z, h => by
    show (match F[i]? with
      | none => F
      | some z => if F.length ≤ mo then bfsL t x mo n (i + 1) (rowA t x z.1 z.2 F x.cps.size) else F)[k]? = some z
    split
    · exact h
    · split
      · exact bfsL_at n (i + 1) _ (rowA_at h _)
      · exact h
theorem bfs_closed {t : List (List Nat)} {x : Str} {mo : Nat} (l : (bfs t x mo).length ≤ mo) : ClosedA t x (bfs t x mo).length (bfs t x mo) :=
  bfsL_closed _ _ _ (by omega) (fun i z h => absurd h (Nat.not_lt_zero _)) l
/-- every word has an action that was found, if they are not too many -/
theorem bfs_all {t : List (List Nat)} {x : Str} {mo m : Nat} (st : IsSet x m) (hm2 : m ≤ 2) (l : (bfs t x mo).length ≤ mo) : ∀ (n : Nat) (w : List Nat), w.length = n → (∀ c ∈ w, c ∈ x.cps.toList) → act t x w ∈ (bfs t x mo).map Prod.fst
  | 0, w, hn, _ => by
    rw [List.eq_nil_of_length_eq_zero hn, act_nil]
    have h : (bfs t x mo)[0]? = some (List.range t.length, ("" : Str)) := bfsL_at _ _ _ rfl
    exact List.mem_map.mpr ⟨_, List.mem_of_getElem? h, rfl⟩
  | n + 1, w, hn, hw => by
    have ne : w ≠ [] := fun e => by rw [e] at hn; cases hn
    have ew := List.dropLast_concat_getLast ne
    have ih := bfs_all st hm2 l n w.dropLast (by rw [List.length_dropLast]; omega) (fun c hc => hw c ((List.dropLast_sublist w).subset hc))
    rw [← ew, act_snoc]
    obtain ⟨z, hz, ez⟩ := List.mem_map.mp ih
    obtain ⟨i, hi, ei⟩ := List.getElem_of_mem hz
    have cx := hw _ (List.getLast_mem ne)
    have hj : x.cps.toList.idxOf (w.getLast ne) < x.cps.size := by
      have := List.idxOf_lt_length_of_mem cx
      simpa using this
    rw [← ez]
    exact bfs_closed l i z hi (by rw [List.getElem?_eq_getElem hi, ei]) _ hj
end M3

set_option Elab.async false
set_option linter.all false
set_option maxRecDepth 100000
set_option maxHeartbeats 8000000
/-! # The word of an action is the first one -/
namespace M3
open PySem L2
/-- the order of words: shorter ones first, then by letters -/
def lessW (a b : List Nat) : Prop := a.length < b.length ∨ (a.length = b.length ∧ a < b)
theorem lessW_trans {a b c : List Nat} (h : lessW a b) (k : lessW b c) : lessW a c := by
  rcases h with h | ⟨h1, h2⟩ <;> rcases k with k | ⟨k1, k2⟩
  · exact .inl (by omega)
  · exact .inl (by omega)
  · exact .inl (by omega)
  · exact .inr ⟨by omega, List.lt_trans h2 k2⟩
theorem lt_snoc : ∀ {a b : List Nat} (c d : Nat), a.length = b.length → a < b → a ++ [c] < b ++ [d]
  | [], [], c, d, _, h => absurd h (by simp)
  | x :: a, y :: b, c, d, hl, h => by
    have hl : a.length = b.length := by simpa using hl
    rw [List.cons_lt_cons_iff] at h
    show x :: (a ++ [c]) < y :: (b ++ [d])
    rw [List.cons_lt_cons_iff]
    rcases h with h | ⟨h1, h2⟩
    · exact .inl h
    · exact .inr ⟨h1, lt_snoc c d hl h2⟩
theorem lt_same : ∀ {a : List Nat} {c d : Nat}, c < d → a ++ [c] < a ++ [d]
  | [], c, d, h => by
    show [c] < [d]
    rw [List.cons_lt_cons_iff]
    exact .inl h
  | x :: a, c, d, h => by
    show x :: (a ++ [c]) < x :: (a ++ [d])
    rw [List.cons_lt_cons_iff]
    exact .inr ⟨rfl, lt_same h⟩
theorem lessW_snoc {a b : List Nat} {c d : Nat} (h : lessW a b) : lessW (a ++ [c]) (b ++ [d]) := by
  rcases h with h | ⟨h1, h2⟩
  · refine .inl ?_
    rw [List.length_append, List.length_append]
    show a.length + 1 < b.length + 1
    omega
  · refine .inr ⟨by rw [List.length_append, List.length_append, h1]; rfl, lt_snoc c d h1 h2⟩
theorem lessW_same {a : List Nat} {c d : Nat} (h : c < d) : lessW (a ++ [c]) (a ++ [d]) := .inr ⟨by simp, lt_same h⟩
theorem lessW_one {a : List Nat} {c : Nat} : lessW a (a ++ [c]) := .inl (by simp)
theorem lessW_irrefl {a : List Nat} (h : lessW a a) : False := by
  rcases h with h | ⟨_, h⟩
  · omega
  · exact List.lt_irrefl a h
theorem lessW_le {a b c d : List Nat} (h : a = b ∨ lessW a b) (k : b = c ∨ lessW b c) : a = c ∨ lessW a c := by
  rcases h with rfl | h <;> rcases k with rfl | k
  · exact .inl rfl
  · exact .inr k
  · exact .inr h
  · exact .inr (lessW_trans h k)
/-- the word of a found action -/
def codes (z : List Nat × Str) : List Nat := z.2.cps.toList
def OrdA (F : List (List Nat × Str)) : Prop := ∀ (a b : Nat) (y z : List Nat × Str), a < b → F[a]? = some y → F[b]? = some z → lessW (codes y) (codes z)
def Asc (x : Str) : Prop := ∀ (i j c d : Nat), i < j → x.cps.toList[i]? = some c → x.cps.toList[j]? = some d → c < d
theorem asc_of {x : Str} {m : Nat} (h : IsSet x m) : Asc x := by
  obtain ⟨cs, rfl, _, hp, _⟩ := h
  intro i j c d ij hi hj
  have hi : cs[i]? = some c := hi
  have hj : cs[j]? = some d := hj
  obtain ⟨i1, i2⟩ := List.getElem?_eq_some_iff.mp hi
  obtain ⟨j1, j2⟩ := List.getElem?_eq_some_iff.mp hj
  rw [← i2, ← j2]
  exact List.pairwise_iff_getElem.mp hp i j i1 j1 ij
/-- the followers of the first i actions are found by words that are not behind theirs -/
structure StageA (t : List (List Nat)) (x : Str) (i : Nat) (F : List (List Nat × Str)) : Prop where
  ord : OrdA F
  bnd : ∀ u, F[i]? = some u → ∀ z ∈ F, ∀ c ∈ x.cps.toList, lessW (codes z) (codes u ++ [c])
  best : ∀ (k : Nat) (u : List Nat × Str), k < i → F[k]? = some u → ∀ (j c : Nat), x.cps.toList[j]? = some c → ∃ y ∈ F, y.1 = ledon t u.1 j ∧ (codes y = codes u ++ [c] ∨ lessW (codes y) (codes u ++ [c]))
structure RowP (t : List (List Nat)) (x : Str) (u : List Nat × Str) (F : List (List Nat × Str)) (n : Nat) (G : List (List Nat × Str)) : Prop where
  ord : OrdA G
  old : ∀ z ∈ G, z ∈ F ∨ ∃ j c, j < n ∧ x.cps.toList[j]? = some c ∧ codes z = codes u ++ [c]
  best : ∀ (j c : Nat), j < n → x.cps.toList[j]? = some c → ∃ y ∈ G, y.1 = ledon t u.1 j ∧ (codes y = codes u ++ [c] ∨ lessW (codes y) (codes u ++ [c]))
theorem row_p {t : List (List Nat)} {x : Str} (asc : Asc x) {i : Nat} {F : List (List Nat × Str)} {u : List Nat × Str} (S : StageA t x i F) (hu : F[i]? = some u) : ∀ n, n ≤ x.cps.size → RowP t x u F n (rowA t x u.1 u.2 F n)
  | 0, _ => ⟨S.ord, fun z hz => .inl hz, fun j c h => absurd h (Nat.not_lt_zero _)⟩
  | n + 1, hn => by
    have R := row_p asc S hu n (by omega)
    have hx : n < x.cps.toList.length := by
      rw [Array.length_toList]
      omega
    have hc : x.cps.toList[n]? = some x.cps.toList[n] := List.getElem?_eq_getElem hx
    have hcm : x.cps.toList[n] ∈ x.cps.toList := List.getElem_mem hx
    generalize hcc : x.cps.toList[n] = c at hc hcm
    have ec : x.cps.toList.getD n 0 = c := getD_some' hc
    have lt : ∀ z ∈ rowA t x u.1 u.2 F n, lessW (codes z) (codes u ++ [c]) := fun z hz => by
      rcases R.old z hz with h | ⟨j, d, hj, hd, e⟩
      · exact S.bnd u hu z h c hcm
      · rw [e]
        exact lessW_same (asc j n d c hj hd hc)
    show RowP t x u F (n + 1) (addA t u.1 u.2 n (x.cps.toList.getD n 0) (rowA t x u.1 u.2 F n))
    rw [ec]
    by_cases mem : ledon t u.1 n ∈ (rowA t x u.1 u.2 F n).map Prod.fst
    · rw [addA_old mem]
      refine ⟨R.ord, fun z hz => ?_, fun j d hj hd => ?_⟩
      · rcases R.old z hz with h | ⟨j, d, hj, hd, e⟩
        · exact .inl h
        · exact .inr ⟨j, d, by omega, hd, e⟩
      · by_cases q : j = n
        · subst q
          rw [hc] at hd
          cases hd
          obtain ⟨y, hy, ey⟩ := List.mem_map.mp mem
          exact ⟨y, hy, ey, .inr (lt y hy)⟩
        · exact R.best j d (by omega) hd
    · rw [addA_new mem]
      have sn : codes (ledon t u.1 n, u.2 ++ ⟨#[c]⟩) = codes u ++ [c] := snoc_cps u.2 c
      refine ⟨fun a b y z ab ha hb => ?_, fun z hz => ?_, fun j d hj hd => ?_⟩
      · rcases snoc_at hb with hb | ⟨rfl, rfl⟩
        · rcases snoc_at ha with ha | ⟨rfl, rfl⟩
          · exact R.ord a b y z ab ha hb
          · have := (List.getElem?_eq_some_iff.mp hb).1
            omega
        · rcases snoc_at ha with ha | ⟨rfl, rfl⟩
          · rw [sn]
            exact lt y (List.mem_of_getElem? ha)
          · omega
      · rcases List.mem_append.mp hz with h | h
        · rcases R.old z h with h | ⟨j, d, hj, hd, e⟩
          · exact .inl h
          · exact .inr ⟨j, d, by omega, hd, e⟩
        · rw [List.mem_singleton.mp h]
          exact .inr ⟨n, c, by omega, hc, sn⟩
      · by_cases q : j = n
        · subst q
          rw [hc] at hd
          cases hd
          exact ⟨_, List.mem_append_right _ List.mem_cons_self, rfl, .inl sn⟩
        · obtain ⟨y, hy, e1, e2⟩ := R.best j d (by omega) hd
          exact ⟨y, List.mem_append_left _ hy, e1, e2⟩
theorem row_stage {t : List (List Nat)} {x : Str} (asc : Asc x) {i : Nat} {F : List (List Nat × Str)} {u : List Nat × Str} (S : StageA t x i F) (hu : F[i]? = some u) : StageA t x (i + 1) (rowA t x u.1 u.2 F x.cps.size) := by
  have R := row_p asc S hu x.cps.size (Nat.le_refl _)
  have iF : i < F.length := (List.getElem?_eq_some_iff.mp hu).1
  have up : ∀ z ∈ F, z ∈ rowA t x u.1 u.2 F x.cps.size := fun z hz => by
    obtain ⟨k, hk, ek⟩ := List.getElem_of_mem hz
    exact List.mem_of_getElem? (rowA_at (by rw [List.getElem?_eq_getElem hk, ek]) _)
  refine ⟨R.ord, fun v hv z hz c hc => ?_, fun k v hk hv j c hj => ?_⟩
  · have uv : lessW (codes u) (codes v) := R.ord i (i + 1) u v (by omega) (rowA_at hu _) hv
    rcases R.old z hz with h | ⟨j, d, _, hd, e⟩
    · exact lessW_trans (S.bnd u hu z h c hc) (lessW_snoc uv)
    · rw [e]
      exact lessW_snoc uv
  · by_cases q : k = i
    · subst q
      rw [rowA_at hu] at hv
      cases hv
      refine R.best j c ?_ hj
      have := (List.getElem?_eq_some_iff.mp hj).1
      rw [Array.length_toList] at this
      exact this
    · have kF : F[k]? = some F[k] := List.getElem?_eq_getElem (by omega)
      rw [rowA_at kF] at hv
      cases hv
      obtain ⟨y, hy, e1, e2⟩ := S.best k _ (by omega) kF j c hj
      exact ⟨y, up y hy, e1, e2⟩
theorem stage_more {t : List (List Nat)} {x : Str} {i k : Nat} {F : List (List Nat × Str)} (S : StageA t x i F) (h : F.length ≤ i) (hk : F.length ≤ k) : StageA t x k F :=
  ⟨S.ord, fun u hu => (by rw [List.getElem?_eq_none hk] at hu; cases hu), fun a u ha hu => S.best a u (by have := (List.getElem?_eq_some_iff.mp hu).1; omega) hu⟩
theorem bfsL_stage {t : List (List Nat)} {x : Str} (asc : Asc x) {mo : Nat} : ∀ (n i : Nat) (F : List (List Nat × Str)), mo + 1 ≤ n + i → StageA t x i F → (bfsL t x mo n i F).length ≤ mo → StageA t x (bfsL t x mo n i F).length (bfsL t x mo n i F)
  | 0, i, F, h, S, l => stage_more S (by have l : F.length ≤ mo := l; omega) (Nat.le_refl _)
  | n + 1, i, F, h, S, l => by
    by_cases h1 : F.length ≤ i
    · rw [bfsL_stop (.inl h1)]
      exact stage_more S h1 (Nat.le_refl _)
    · by_cases h2 : mo < F.length
      · rw [bfsL_stop (.inr h2)] at l
        omega
      · have hz : F[i]? = some F[i] := List.getElem?_eq_getElem (by omega)
        generalize F[i] = z at hz
        have e : bfsL t x mo (n + 1) i F = bfsL t x mo n (i + 1) (rowA t x z.1 z.2 F x.cps.size) := by
          show (match F[i]? with
            | none => F
            | some z => if F.length ≤ mo then bfsL t x mo n (i + 1) (rowA t x z.1 z.2 F x.cps.size) else F) = _
          rw [hz]
          exact if_pos (by omega)
        rw [e] at l ⊢
        exact bfsL_stage asc n (i + 1) _ (by omega) (row_stage asc S hz) l
theorem bfs_stage {t : List (List Nat)} {x : Str} (asc : Asc x) {mo : Nat} (l : (bfs t x mo).length ≤ mo) : StageA t x (bfs t x mo).length (bfs t x mo) := by
  refine bfsL_stage asc _ _ _ (by omega) ⟨fun a b y z ab ha hb => ?_, fun u hu z hz c hc => ?_, fun k u hk => absurd hk (Nat.not_lt_zero _)⟩ l
  · have h1 := (List.getElem?_eq_some_iff.mp hb).1
    have h1 : b < 1 := h1
    omega
  · cases hu
    rw [List.mem_singleton.mp hz]
    exact lessW_one
/-- the word that is told with an action is the first one of all that have it -/
theorem bfs_first {t : List (List Nat)} {x : Str} {mo m : Nat} (st : IsSet x m) (l : (bfs t x mo).length ≤ mo) : ∀ (n : Nat) (w : List Nat), w.length = n → (∀ c ∈ w, c ∈ x.cps.toList) → ∃ y ∈ bfs t x mo, y.1 = act t x w ∧ (codes y = w ∨ lessW (codes y) w)
  | 0, w, hn, _ => by
    have h : (bfs t x mo)[0]? = some (List.range t.length, ("" : Str)) := bfsL_at _ _ _ rfl
    have e0 : ("" : Str).cps.toList = [] := by decide +kernel
    rw [List.eq_nil_of_length_eq_zero hn, act_nil]
    exact ⟨_, List.mem_of_getElem? h, rfl, .inl e0⟩
  | n + 1, w, hn, hw => by
    have ne : w ≠ [] := fun e => by rw [e] at hn; cases hn
    have ew := List.dropLast_concat_getLast ne
    obtain ⟨y, hy, e1, e2⟩ := bfs_first st l n w.dropLast (by rw [List.length_dropLast]; omega) (fun c hc => hw c ((List.dropLast_sublist w).subset hc))
    obtain ⟨i, hi, ei⟩ := List.getElem_of_mem hy
    have cx := hw _ (List.getLast_mem ne)
    have hj : x.cps.toList[x.cps.toList.idxOf (w.getLast ne)]? = some (w.getLast ne) := by
      rw [List.getElem?_eq_getElem (List.idxOf_lt_length_of_mem cx), List.getElem_idxOf]
    obtain ⟨z, hz, f1, f2⟩ := (bfs_stage (asc_of st) l).best i y hi (by rw [List.getElem?_eq_getElem hi, ei]) _ _ hj
    refine ⟨z, hz, ?_, ?_⟩
    · rw [← ew, act_snoc, f1, e1]
    · rw [← ew]
      refine lessW_le (d := []) f2 ?_
      rcases e2 with e2 | e2
      · exact .inl (by rw [e2])
      · exact .inr (lessW_snoc e2)
end M3

set_option Elab.async false
set_option linter.all false
set_option maxRecDepth 100000
set_option maxHeartbeats 8000000
/-! # An action repeated, until it comes again -/
namespace M3
open PySem L2
abbrev nRepeats : List Str := ["action", "trail", "first_at", "goal"]
/-- the powers of an action -/
def pw (g : List Nat) : Nat → List Nat
  | 0 => List.range g.length
  | k + 1 => comp (pw g k) g
theorem comp_length (fs gs : List Nat) : (comp fs gs).length = fs.length := by
  unfold comp
  rw [List.length_map]
theorem pw_length (g : List Nat) : ∀ k, (pw g k).length = g.length
  | 0 => List.length_range
  | k + 1 => by
    show (comp (pw g k) g).length = _
    rw [comp_length, pw_length g k]
theorem getD_lt {g : List Nat} {n : Nat} (h : ∀ q ∈ g, q < n) {q : Nat} (hq : q < g.length) : g.getD q 0 < n := by
  have e : g.getD q 0 = g[q] := by simp [List.getD, List.getElem?_eq_getElem hq]
  rw [e]
  exact h _ (List.getElem_mem hq)
theorem pw_lt {g : List Nat} (h : ∀ q ∈ g, q < g.length) : ∀ k, ∀ q ∈ pw g k, q < g.length
  | 0, q, hq => List.mem_range.mp hq
  | k + 1, q, hq => by
    have hq : q ∈ (pw g k).map fun q => g.getD q 0 := hq
    obtain ⟨z, hz, rfl⟩ := List.mem_map.mp hq
    exact getD_lt h (pw_lt h k z hz)
/-- the first powers, all of them different -/
def Apart (g : List Nat) (n : Nat) : Prop := ∀ i j, i < n → j < n → pw g i = pw g j → i = j
/-- the dict of the powers' places -/
structure Firsts (g : List Nat) (kvs : List (List Key × V)) (n : Nat) : Prop where
  only : ∀ (k : List Key) (v : V), valV kvs k = some v → ∃ i, i < n ∧ k = key (pw g i) ∧ v = .int ((i : Nat) : Int)
  has : ∀ i, i < n → (valV kvs (key (pw g i))).isSome = true
  len : kvs.length ≤ n
theorem Firsts.put {g : List Nat} {kvs : List (List Key × V)} {n : Nat} (h : Firsts g kvs n) : Firsts g (putK kvs (key (pw g n)) (.int ((n : Nat) : Int))) (n + 1) := by
  refine ⟨fun k v e => ?_, fun i hi => ?_, ?_⟩
  · rw [valV_put] at e
    by_cases c : k = key (pw g n)
    · rw [if_pos c] at e
      exact ⟨n, by omega, c, (Option.some.inj e).symm⟩
    · rw [if_neg c] at e
      obtain ⟨i, h1, h2, h3⟩ := h.only k v e
      exact ⟨i, by omega, h2, h3⟩
  · rw [valV_put]
    by_cases c : key (pw g i) = key (pw g n)
    · rw [if_pos c]
      rfl
    · rw [if_neg c]
      refine h.has i ?_
      by_cases q : i = n
      · rw [q] at c
        exact absurd rfl c
      · omega
  · have := putT_len (kvs := kvs) (k := key (pw g n)) (v := V.int ((n : Nat) : Int))
    have := h.len
    omega
def pws (g : List Nat) (n : Nat) : List (List Nat) := (List.range n).map (pw g)
theorem pws_at {g : List Nat} {n i : Nat} (h : i < n) : (pws g n)[i]? = some (pw g i) := by
  unfold pws
  rw [List.getElem?_map, List.getElem?_range h]
  rfl
theorem pws_length {g : List Nat} {n : Nat} : (pws g n).length = n := by
  unfold pws
  rw [List.length_map, List.length_range]
theorem pws_succ {g : List Nat} {n : Nat} : pws g (n + 1) = pws g n ++ [pw g n] := by
  unfold pws
  rw [List.range_succ, List.map_append]
  rfl
theorem at_last {xs : List V} {n : Nat} {v : V} (hl : xs.length = n + 1) (h : xs[n]? = some v) : atI xs (-1) = some v := by
  unfold atI
  have e : ixN xs.length (-1) = some n := by
    unfold ixN
    rw [if_neg (by omega), if_pos (by omega)]
    congr 1
    omega
  rw [e]
  exact h
def spRepeats (K : PySem.W.Frag) : Sp := fun vs H Q _ => ∃ (a : Addr) (g : List Nat) (i0 j0 : Nat), vs = [.ref a] ∧ SqT K H a (nts g) ∧ (∀ q ∈ g, q < g.length) ∧ g.length ≤ 1000 ∧ i0 < j0 ∧ j0 ≤ 100000 ∧ pw g i0 = pw g j0 ∧
  ∀ (p L : Addr) (us : List V) (n b : Nat) (H' : Hp), H' p = some (.tup [.ref L, .int (b : Nat)]) → H' L = some (.lst us) → us.length = n → b < n → n ≤ 100000 → Apart g n → pw g n = pw g b → Same H H' → Q (.ref p) H'
section
variable {P : Program} {w : World} {K : PySem.W.Frag} {mg : Str → Option Value} {base : Heap}
end
end M3

set_option Elab.async false
set_option linter.all false
set_option maxRecDepth 100000
set_option maxHeartbeats 8000000
/-! # What later defs ask of the others -/
namespace M3
open PySem L2
/-- a def of the top that keeps a promise -/
structure FnC (P : Program) (w : World) (K : PySem.W.Frag) (mg : Str → Option Value) (base : Heap) (k : Nat) (x : Str) (ps : List Str) (sp : Sp) where
  f : Addr
  fd : FuncData
  G : FnOk P w K mg base CX0 k f fd ps sp
  b : Binds K fd ps []
  m : mg x = some (.ref f)
  kp : PySem.W.keepIn K (.ref f) = true
/-- .. that may raise -/
structure FnX (P : Program) (w : World) (K : PySem.W.Frag) (mg : Str → Option Value) (base : Heap) (k : Nat) (x : Str) (ps : List Str) (sp : Sp) where
  f : Addr
  fd : FuncData
  G : FnOk P w K mg base (L2.CX P w) k f fd ps sp
  b : Binds K fd ps []
  m : mg x = some (.ref f)
  kp : PySem.W.keepIn K (.ref f) = true
/-- a method of the class at C that keeps a promise; ds: its defaults -/
structure MtC (P : Program) (w : World) (K : PySem.W.Frag) (mg : Str → Option Value) (base : Heap) (C : Addr) (k : Nat) (x : Str) (ps : List Str) (dvs : List V) (sp : Sp) where
  f : Addr
  fd : FuncData
  ds : List Value
  G : FnOk P w K mg base CX0 k f fd ps sp
  v : Vals dvs ds
  b : Binds K fd ps ds
  m : Meth K C x f
/-- a property of the class at C whose getter keeps a promise -/
structure PrC (P : Program) (w : World) (K : PySem.W.Frag) (mg : Str → Option Value) (base : Heap) (C : Addr) (k : Nat) (x : Str) (sp : Sp) where
  (pa g : Addr)
  fd : FuncData
  hp : PropOf K C x pa g
  G : FnOk P w K mg base CX0 k g fd ["self"] sp
  b : Binds K fd ["self"] []
/-- the class of machines, seen from outside -/
structure TxO (K : PySem.W.Frag) (C : Addr) : Prop where
  ks : PySem.W.kitOne K (.ref C) (.type "str") = some false
  ha : PySem.W.findIn K (.ref C) "__class__" = some (some (.builtin "object.__class__"))
  hn : PySem.W.specialIn K (.builtin "object.__class__") "__get__" = some (some (.builtin "getset_descriptor.__get__"))
  tk : PySem.W.takesIn K (.builtin "object.__class__") = some true
  hm : PySem.W.mroIn K C (.type "object") = some true
  kc : PySem.W.kitOne K (.ref C) (.ref C) = some true
/-- an own error that keeps what it takes -/
structure TxA (P : Program) (K : PySem.W.Frag) (mg : Str → Option Value) (nm : Str) (fld : String) (c : Addr) : Prop where
  tx : ∃ (fI : Addr) (B i B0 newId : String) (qual : Str), PySem.NvE.InitTxt P K c fI B i B0 newId fld qual
  g : mg nm = some (.ref c)
  k : PySem.W.keepIn K (.ref c) = true
  b : PySem.W.subIn K (.ref c) (.type "BaseException") = some true
  t : PySem.W.typeIn K (.ref c) = some (.type "type")
  x : PySem.W.exmOne K (.ref c) (.ref c) = some true
theorem TxA.keeps {P : Program} {K : PySem.W.Frag} {mg : Str → Option Value} {nm : Str} {fld : String} {c : Addr} (T : TxA P K mg nm fld c) {X : Cx} (h1 : X.prog = P) (h2 : X.K = K) (h3 : X.mg = mg) : KeepC X nm c fld := by
  subst h1 h2 h3
  exact ⟨T.tx, T.g, T.k, T.b, T.t⟩
theorem kf1 : ¬ (("after" : Str) = "_ends") := by decide +kernel
theorem kf2 : ¬ (("after" : Str) = "_table") := by decide +kernel
theorem kf3 : ¬ (("after" : Str) = "_letters") := by decide +kernel
theorem fld_after {x : Str} {a b : Addr} : (flds x a b).lookup ("after" : Str) = none := by
  unfold flds
  rw [lookup_putF, if_neg kf1, lookup_putF, if_neg kf2, lookup_putF, if_neg kf3]
  rfl
theorem let1 : ∀ a ∈ six, only ⟨#[a]⟩ "abcdefghijklmnopqrstuvwxyz" = true := by decide +kernel
theorem only_all {x : Str} {n : Nat} (h : IsSet x n) {y : Str} (hw : IsW x y) : only y "abcdefghijklmnopqrstuvwxyz" = true := by
  obtain ⟨cs, rfl, hl, hp, hm⟩ := h
  unfold only
  rw [List.all_eq_true]
  intro c hc
  have h1 := hm c (by simpa using hw c hc)
  have h2 := let1 c h1
  unfold only at h2
  rw [List.all_eq_true] at h2
  exact h2 c (by simp)
theorem ne_not {v u : V} (h : v = u) : (!decide (v = u)) = false := by
  rw [decide_eq_true h]
  rfl
theorem same_still {d : Addr} {H H' : Hp} (s : Same H H') : Still d H H' := fun b o _ h => s b o h
theorem same_dz {d : Addr} {H H' : Hp} (s : Same H H') (z : Dz H d) : Dz H' d := by
  obtain ⟨l, m, c, e, h⟩ := z
  exact ⟨l, m, c, s _ _ e, h⟩
theorem sqt_still {K : PySem.W.Frag} {d a : Addr} {H H' : Hp} {xs : List V} (s : Still d H H') (z : Dz H d) (h : SqT K H a xs) : SqT K H' a xs := by
  obtain ⟨l, m, c, e, _⟩ := z
  rcases h with (h | ⟨u, h⟩) | h
  · exact .inl (.inl (s _ _ (fun q => by rw [q, e] at h; cases h) h))
  · exact .inl (.inr ⟨u, s _ _ (fun q => by rw [q, e] at h; cases h) h⟩)
  · exact .inr h
theorem Mach.still {K : PySem.W.Frag} {C p d : Addr} {H H' : Hp} {x : Str} {t : List (List Nat)} {es : List Nat} (h : Mach K C H p x t es) (z : Dz H d) (s : Still d H H') : Mach K C H' p x t es := by
  obtain ⟨dx, a, b, us, h1, h2, h3, h4⟩ := h
  obtain ⟨l, m, c, e, _⟩ := id z
  refine ⟨dx, a, b, us, s _ _ (fun q => by rw [q, e] at h1; cases h1) h1, sqt_still s z h2, ⟨h3.1, fun i r hr => ?_⟩, sqt_still s z h4⟩
  obtain ⟨b', b1, b2⟩ := h3.2 i r hr
  exact ⟨b', b1, sqt_still s z b2⟩
theorem free_of {H H' : Hp} {q : Addr} (s : Same H H') (h : H' q = none) : H q = none := by
  cases e : H q with
  | none => rfl
  | some o =>
    have := s _ _ e
    rw [h] at this
    cases this
end M3

set_option Elab.async false
set_option linter.all false
set_option maxRecDepth 100000
set_option maxHeartbeats 8000000
/-! # enumerate of a tuple -/
namespace PySem
open Sem (wp)
open AutoSeq1 (wpAny_loadPart')
theorem nvt_meets (l : Addr) (items : Array Value) (n : Nat) (dct : Option Addr) (sl : Array (Option Value)) :
    Meets (Builtin.«enumerate.__new__» ⟨[.type "enumerate", .ref l], []⟩) (fun _ R s => s.heap.get? l = some { cls := .type "tuple", dict := dct, data := .seq items n, slots := sl } ∧
      R (.ok (.ret (.ref (s.heap.push { cls := .type "tuple_iterator", data := .fields #[.ref l, .int 0 0] }).objs.size)))
        { s with heap := (s.heap.push { cls := .type "tuple_iterator", data := .fields #[.ref l, .int 0 0] }).push { cls := .type "enumerate", data := .fields #[.none, .bool false, .ref s.heap.objs.size, rawInt 0, .none, .none] } }) :=
  .of_wp fun prog w A R s h => by
    obtain ⟨hp, g, d, tk, os⟩ := s; obtain ⟨hl, h⟩ := h
    have hsub := sub_enumerate
    have hL : Heap.IsTuple (Shared.heap ⟨hp, g, d, tk, os⟩) l items := ⟨_, hl, rfl, n, rfl⟩
    wp_walk using wpAny_loadPart' hl
    refine wpAny_stack_any fun st => wpAny_pure ?_
    split
    · rename_i c _ _ _ _ _
      cases (c == Value.type "enumerate")
      · wp_walk using wpAny_loadPart' hl, wpAny_pyIter_tuple hL
        exact ⟨_, rfl, h⟩
      · wp_walk using wpAny_loadPart' hl, wpAny_pyIter_tuple hL
        exact ⟨_, rfl, h⟩
    · wp_walk using wpAny_loadPart' hl, wpAny_pyIter_tuple hL
      exact ⟨_, rfl, h⟩
section
variable {prog : Program} {w : World} {A : Around} {E : Value → Shared → Prop} {s : Shared}
theorem nvt_call {l : Addr} {items : Array Value} {Q : Value → Shared → Prop} (hL : s.heap.IsTuple l items)
    (h : ∀ h', IsEnum h' (s.heap.objs.size + 1) s.heap.objs.size 0 .none → h'.IsTupleIter s.heap.objs.size l 0 → h'.objs.size = s.heap.objs.size + 2 →
      (∀ b o, s.heap.get? b = some o → h'.get? b = some o) → Q (.ref (s.heap.objs.size + 1)) { s with heap := h' }) :
    wpAny (model prog w) A (call (.type "enumerate") [.ref l]) Q E s := by
  obtain ⟨⟨c, dct, dt, sl⟩, hl, hc, n, hd⟩ := hL
  replace hc : c = .type "tuple" := hc
  replace hd : dt = .seq items n := hd
  subst hc hd
  refine callType_new F.called_enumerate (by decide) (F.typeCall_enumerate_1 _) (F.newCall_enumerate_1 _) (fun obj => F.args_object_init_2 obj _) F.entry_enumerate_new
    (nvt_meets l items n dct sl) ⟨hl, ?_⟩
  have hz : (s.heap.push { cls := .type "tuple_iterator", data := .fields #[.ref l, .int 0 0] }).objs.size = s.heap.objs.size + 1 := Heap.size_push ..
  show _ ∧ _
  rw [hz]
  have he : IsEnum ((s.heap.push { cls := .type "tuple_iterator", data := .fields #[.ref l, .int 0 0] }).push
      { cls := .type "enumerate", data := .fields #[.none, .bool false, .ref s.heap.objs.size, rawInt 0, .none, .none] }) (s.heap.objs.size + 1) s.heap.objs.size 0 .none := by
    have := Heap.get?_push_size (s.heap.push { cls := .type "tuple_iterator", data := .fields #[.ref l, .int 0 0] })
      (o := { cls := .type "enumerate", data := .fields #[.none, .bool false, .ref s.heap.objs.size, rawInt 0, .none, .none] }) rfl
    rw [hz] at this; exact this
  refine ⟨⟨_, he, rfl⟩, h _ he ⟨_, Heap.get?_push_of_some _ (Heap.get?_push_size _ rfl), rfl, rfl⟩ (by rw [Heap.size_push, hz]) fun b o x => Heap.get?_push_of_some _ (Heap.get?_push_of_some _ x)⟩
end
end PySem
namespace NvT
open PySem PySem.Spec PyProof.Rows L2
def IteT (K : PySem.W.Frag) (a : Addr) : It :=
  ⟨fun i H => ∃ (xs : List V) (x : V), SqT K H a xs ∧ xs[i]? = some x, fun i H v H' => ∃ T x, v = .ref T ∧ H T = none ∧ H' = upd H T (.tup [.int (i : Nat), x]) ∧ ∀ xs, SqT K H a xs → xs[i]? = some x, fun i H => ∃ xs : List V, SqT K H a xs ∧ xs.length = i⟩
theorem turn_enumT {P : Program} {w : World} {K : PySem.W.Frag} {elts : List Expr} {kk : Nat} {tpos : Pos} {a e it : Addr} (hne : e ≠ it) (hai : a ≠ it) (hae : a ≠ e) :
    Turn P w K (.Tuple elts kk tpos) (IteT K a) [e, it] e (fun i h => (∃ old, IsEnum h e it ((0 : Int) + (i : Int)) old) ∧ h.IsTupleIter it a i) where
  mem := by simp
  obj := fun i h st b hb => by
    obtain ⟨⟨old, he⟩, ⟨o, ho, hc, hd⟩⟩ := st
    have e' : b = e ∨ b = it := by simpa using hb
    rcases e' with z | z
    · rw [z]; exact ⟨_, he, fun v q => nomatch q⟩
    · rw [z]; exact ⟨o, ho, fun v q => by rw [hd] at q; cases q⟩
  keep := fun i h h' st k => let ⟨⟨old, he⟩, hi⟩ := st; ⟨⟨old, k e (by simp) _ he⟩, hi.at fun o q => k it (by simp) o q⟩
  item := by
    intro X hP hw hK hc i pins s σ H E I hf st hg
    subst hP hw hK
    have hh : X.A.in1.handled = none := I.ok.hd hc
    obtain ⟨xs, x, hq, hx⟩ := hg
    obtain ⟨its, rv, p, hz⟩ := I.tuple hq
    obtain ⟨u, hu, ru⟩ := rv.get hx
    have li : i < its.toArray.size := by
      have := (List.getElem?_eq_some_iff.mp hu).1
      simpa using this
    have G := GoesN.enumFrom (elts := elts) (x1 := kk) (pos := tpos) 0 (Draws.tuple (prog := X.prog) (w := X.w) (A := X.A.in1) hh it a hai its.toArray) e hne (by simp [hne, Ne.symm hae]) (by simp)
    have live : ∀ b ∈ [e, it], b < s.heap.objs.size := fun b hb => by
      obtain ⟨⟨old, he⟩, ⟨o1, e1, _⟩⟩ := id st
      have e' : b = e ∨ b = it := by simpa using hb
      rcases e' with q | q
      · rw [q]; exact Heap.lt_size he
      · rw [q]; exact Heap.lt_size e1
    refine G.goes i s (fun u s2 => ∃ v H', Inv X pins σ H' s2 ∧ RelV v u ∧ (IteT X.K a).yld i H v H' ∧ _ ∧ ∀ b ∈ _, H' b = none) E li ⟨st.1, st.2, p⟩ fun v h' tk hY st' hk htk => ?_
    obtain ⟨T, t, vx, rfl, hT, hx2, hIs⟩ := hY
    have hx2 : its.toArray[i]? = some vx := hx2
    have evx : vx = u := by
      have e : its.toArray[i]? = some u := by simpa using hu
      rw [e] at hx2
      exact (Option.some.inj hx2).symm
    subst evx
    have hIs2 : IsTup h' T #[.int ((i : Nat) : Int) t, vx] := by
      have z : (0 : Int) + (i : Int) = (i : Int) := Int.zero_add _
      rw [z] at hIs
      exact hIs
    have new : ObjOk X.prog X.w (upd H T (.tup [.int (i : Nat), x])) h' T (.tup [.int (i : Nat), x]) :=
      ⟨by show 2 ≤ sizeLine; decide, [.int (i : Nat) t, vx], .cons ⟨t, rfl⟩ (.cons ru .nil), hIs2⟩
    have I1 : Inv X pins σ (upd H T (.tup [.int (i : Nat), x])) { s with heap := h', toks := tk } :=
      I.turnedNew (t' := tk) (ch := [e, it]) hk (fun b hb => hf b (by
        have e' : b = e ∨ b = it := by simpa using hb
        rcases e' with q | q <;> rw [q] <;> simp)) hT new
    refine ⟨.ref T, _, I1, rfl, ⟨T, x, rfl, I.hok.fresh hT, rfl, fun ys hy => by rw [I.tuple_inj hy hq]; exact hx⟩, ⟨st'.1, st'.2.1⟩, fun b hb => ?_⟩
    rw [upd_ne (Nat.ne_of_lt (Nat.lt_of_lt_of_le (live b hb) hT))]
    exact (hf b hb).1
  done := by
    intro X hP hw hK hc i pins s σ H E I hf st hg
    subst hP hw hK
    have hh : X.A.in1.handled = none := I.ok.hd hc
    obtain ⟨xs, hq, hx⟩ := hg
    obtain ⟨its, rv, p, hz⟩ := I.tuple hq
    have hl := rv.length
    have G := GoesN.enumFrom (elts := elts) (x1 := kk) (pos := tpos) 0 (Draws.tuple (prog := X.prog) (w := X.w) (A := X.A.in1) hh it a hai its.toArray) e hne (by simp [hne, Ne.symm hae]) (by simp)
    have ei : i = its.toArray.size := by simp; omega
    subst ei
    refine G.stops s (fun s1 => Inv X pins σ H s1) E ⟨st.1, st.2, p⟩ fun h' tk hk htk => ?_
    exact I.turnedL (t' := tk) (ch := [e, it]) hk fun b hb => hf b (by
      have e' : b = e ∨ b = it := by simpa using hb
      rcases e' with q | q <;> rw [q] <;> simp)
  self := fun A i s Q E st h => let ⟨⟨_, he⟩, _⟩ := st; wpAny_pyIter_enum he h
def iEnumT (K : PySem.W.Frag) (ta : TA) : TI := fun σ H R => ta σ H fun vs H1 => ∃ a xs, vs = [.ref a] ∧ SqT K H1 a xs ∧ R (IteT K a) H1
theorem pi_enumT {X : Cx} {e : Expr} {ta : TA} {p pos tpos : Pos} {elts : List Expr} {kk : Nat} (hg : Gl X "enumerate") (hm : X.mg "enumerate" = none) (ha : PA X [e] ta) (hs : starEach [e] X.env = [(false, eval e X.env)] := by rfl) :
    PI X (.Tuple elts kk tpos) (.Call (.Name "enumerate" p) [e] [] pos) (iEnumT X.K ta) := by
  refine ⟨fun pins s σ H R I h => ?_⟩
  refine Call_ (ld_blt I hg hm boot_enumerate (PyProof.Rows.callWith_type1 (thn (ha.run pos pins s σ H _ I h) fun us s1 ⟨vs, H1, I1, r1, q1⟩ => ?_) hs rfl))
  obtain ⟨a, xs, ex, hq, q⟩ := q1
  subst ex
  cases r1 with
  | cons r rr =>
    cases rr
    cases r
    obtain ⟨its, rv, p', hz⟩ := I1.tuple hq
    have hal : a < s1.heap.objs.size := by
      obtain ⟨o, ho, _⟩ := p'
      exact Heap.lt_size ho
    refine nvt_call (items := its.toArray) p' fun h' he hit hsz hk => wpAny_pyIter_enum he ?_
    have I2 : Inv X pins σ H1 { s1 with heap := h' } := I1.kept (t' := s1.toks) hk
    refine ⟨s1.heap.objs.size + 1, [s1.heap.objs.size + 1, s1.heap.objs.size], _, _, H1, rfl, I2, turn_enumT (a := a) (e := s1.heap.objs.size + 1) (it := s1.heap.objs.size) (Nat.succ_ne_self _) (Nat.ne_of_lt hal) (Nat.ne_of_lt (Nat.lt_succ_of_lt hal)), ⟨⟨.none, he⟩, hit⟩, fun b hb => ?_, q⟩
    have e' : b = s1.heap.objs.size + 1 ∨ b = s1.heap.objs.size := by simpa using hb
    have hle : s1.heap.objs.size ≤ b := by
      rcases e' with z | z
      · rw [z]; exact Nat.le_add_right _ _
      · rw [z]; exact Nat.le_refl _
    exact I1.fpOk hle (I1.hok.fresh hle)
theorem walk_enumT {K : PySem.W.Frag} {a : Addr} {xs : List V} : Walk (IteT K a) xs.length (fun H => SqT K H a xs) (YPair (fun i => some (.int (i : Nat))) (fun i => xs[i]?)) where
  goes := fun i H hi q => ⟨xs, _, q, List.getElem?_eq_getElem hi⟩
  stops := fun H q => ⟨xs, q, rfl⟩
  yields := fun i H v H' hi q y => by
    obtain ⟨T, x, e, h1, h2, h3⟩ := y
    exact ⟨T, .int (i : Nat), x, e, h1, h2, rfl, h3 xs q⟩
end NvT

set_option Elab.async false
set_option linter.all false
set_option maxRecDepth 100000
set_option maxHeartbeats 8000000
/-! # for k, v in d.items(), the keys tuples -/
namespace NvU
open PySem PySem.Spec PyProof.Rows L2
/-- the pairs, each a new tuple of the key's own tuple and the value -/
def ItiT (d : Addr) (o : Obj) (kvs : List (List Key × V)) : It :=
  ⟨fun i H => H d = some (.frz o (.dT kvs)) ∧ i < kvs.length, fun i H x H' => ∃ (T q : Addr) (k : List Key) (v : V), kvs[i]? = some (k, v) ∧ x = .ref T ∧ H q = some (.tup (k.map kV)) ∧ H T = none ∧ H' = upd H T (.tup [.ref q, v]), fun i H => H d = some (.frz o (.dT kvs)) ∧ kvs.length ≤ i⟩
theorem frzT2 {X : Cx} {pins : List (Addr × Obj)} {σ : L2.St} {H : Hp} {s : Shared} {d : Addr} {o : Obj} {kvs : List (List Key × V)} (I : Inv X pins σ H s) (h : H d = some (.frz o (.dT kvs))) :
    (d == sysModules) = false ∧ s.heap.get? d = some o ∧ o.ExactDict ∧ ∃ (es : Array DictEntry) (ep : Nat), o.data = .dict es ep ∧ es.size = kvs.length ∧
      ∀ (i : Nat) (k : List Key) (v : V), kvs[i]? = some (k, v) → ∃ (en : DictEntry) (q : Addr), es[i]? = some en ∧ en.key = .ref q ∧ H q = some (.tup (k.map kV)) ∧ RelV v en.val := by
  obtain ⟨hd, z, hs, xs, pr, o', es, ep, ho, hx, hdt, he, _⟩ := I.hok d _ h
  rw [hd] at ho
  cases ho
  refine ⟨hs, hd, hx, es, ep, hdt, ?_, fun i k v e => ?_⟩
  · have l1 : es.size = xs.length := size_of_entries he
    have l2 : kvs.length = xs.length := Paired.length pr
    omega
  · obtain ⟨b, hb, e1, e2, e3⟩ := paired_get pr e
    have q := entry_at he i
    rw [hb] at q
    exact ⟨_, b.2.1, q, rfl, e2, e3⟩
section
variable {P : Program} {w : World} {K : PySem.W.Frag} {d : Addr} {o : Obj} {es : Array DictEntry} {ep : Nat}
theorem turn_itemsT {kvs : List (List Key × V)} {elts : List Expr} {kk : Nat} {tpos : Pos} (it : Addr) (hod : o.data = .dict es ep) :
    Turn P w K (.Tuple elts kk tpos) (ItiT d o kvs) [it] it (fun i h => ∃ ok ov, IsItemIter h it d i kvs.length ep ok ov) where
  mem := by simp
  obj := fun i h st b hb => by
    have e : b = it := by simpa using hb
    subst e
    obtain ⟨ok, ov, e⟩ := st
    exact ⟨_, e, fun v z => nomatch z⟩
  keep := fun i h h' st k => let ⟨ok, ov, e⟩ := st; ⟨ok, ov, k it (by simp) _ e⟩
  item := by
    intro X hP hw hK hc i pins s σ H E I hf st hg
    subst hP hw hK
    obtain ⟨hd, hi⟩ := hg
    obtain ⟨hs, hgd, hx, es', ep', hdt, hsz, ent⟩ := frzT2 I hd
    obtain ⟨rfl, rfl⟩ := dict_ep hod hdt
    obtain ⟨⟨k, v⟩, hkv⟩ : ∃ p, kvs[i]? = some p := ⟨kvs[i], List.getElem?_eq_getElem hi⟩
    obtain ⟨en, q, hen, hkey, hq, rv⟩ := ent i k v hkv
    obtain ⟨ok, ov, he⟩ := st
    rw [← hsz] at he hi
    have een : es'[i] = en := by
      rw [Array.getElem?_eq_getElem hi] at hen
      exact Option.some.inj hen
    have hlt : it < s.heap.objs.size := Heap.lt_size he
    refine DT.nextI he ⟨o, hgd, hx, hdt⟩ hi fun h' ho hT hz hk => ?_
    rw [een, hkey] at ho hT
    refine ⟨_, rfl, wpAny_letOwnedTupleGo_items (s := { s with heap := h' }) ho fun h'' he' sb => ?_⟩
    have hT2 : h''.get? s.heap.objs.size = some { cls := .type "tuple", data := .seq #[.ref q, en.val] } := (sb.2 _ (Nat.ne_of_gt hlt)).trans hT
    have new : ObjOk X.prog X.w (upd H s.heap.objs.size (.tup [.ref q, v])) h'' s.heap.objs.size (.tup [.ref q, v]) :=
      ⟨by show 2 ≤ sizeLine; decide, [.ref q, en.val], .cons rfl (.cons rv .nil), ⟨_, hT2, rfl, _, rfl⟩⟩
    have I1 : Inv X pins σ (upd H s.heap.objs.size (.tup [.ref q, v])) { s with heap := h'' } :=
      I.turnedNew (t' := s.toks) (ch := [it]) (fun b ob hb e => (sb.2 b (by simpa using hb)).trans (hk b ob (by simpa using hb) e)) hf (Nat.le_refl _) new
    refine ⟨.ref s.heap.objs.size, _, I1, rfl, ⟨_, q, k, v, hkv, rfl, hq, I.hok.fresh (Nat.le_refl _), rfl⟩, ⟨.ref q, en.val, (by rw [← hsz]; exact he')⟩, fun b hb => ?_⟩
    have e : b = it := by simpa using hb
    rw [e, upd_ne (Nat.ne_of_lt hlt)]
    exact (hf it (by simp)).1
  done := by
    intro X hP hw hK hc i pins s σ H E I hf st hg
    subst hP hw hK
    obtain ⟨hd, hi⟩ := hg
    obtain ⟨f0, f1, f2, f3, f4, f5⟩ := hf it (by simp)
    obtain ⟨hs, hgd, hx, es', ep', hdt, hsz, ent⟩ := frzT2 I hd
    obtain ⟨rfl, rfl⟩ := dict_ep hod hdt
    obtain ⟨ok, ov, he⟩ := st
    rw [← hsz] at he
    exact DT.endI (I.ok.hd hc) he ⟨o, hgd, hx, hdt⟩ (by omega) fun h' eb => ⟨rfl, I.turned (t' := s.toks) (fun b o hb e => eb b o hb e) f0 f1 f3 f4 f5⟩
  self := fun A i s Q E st h => let ⟨_, _, e⟩ := st; PySem.W.kcp_self e h
end
def iItemsT (td : TE) : TI := fun σ H R => td σ H fun x H1 => ∃ d o kvs, x = .ref d ∧ H1 d = some (.frz o (.dT kvs)) ∧ R (ItiT d o kvs) H1
theorem pi_itemsT {X : Cx} {e : Expr} {td : TE} {apos cpos : Pos} {elts : List Expr} {kk : Nat} {tpos : Pos} (he : PE X e td) (hbase : attributeBase e "items" X.env (eval e X.env) = eval e X.env := by rfl) (hline : (apos.endLine == cpos.line) = true := by rfl) :
    PI X (.Tuple elts kk tpos) (.Call (.Attribute e "items" apos) [] [] cpos) (iItemsT td) := by
  refine ⟨fun pins s σ H R I h => ?_⟩
  refine wpAny_Call_method (T := "dict") (id := "dict.items") hbase rfl hline F.plainAttrs_dict F.slot_dict_items F.type_dict_items (thn (he.run pins s σ H _ I h) fun u s1 ⟨x, H1, I1, rx, d, o, kvs, ex, hd, q⟩ => ?_)
  subst ex
  obtain rfl : u = Value.ref d := rx
  obtain ⟨hs, hgd, hx, es, ep, hdt, hsz, ent⟩ := frzT2 I1 hd
  have raw : DT.Raw s1.heap d es ep := ⟨o, hgd, hx, hdt⟩
  refine ⟨raw.typeIs, fun a e => (by cases e; exact ⟨o, hgd, hx.2.1⟩), ?_⟩
  have I2 : Inv X pins σ H1 { s1 with heap := s1.heap.push { cls := .type "dict_items", data := .fields #[.ref d] } } := I1.kept (t' := s1.toks) fun b ob q => Heap.get?_push_of_some _ q
  have fin : wpAny (model X.prog X.w) X.A (pyIter (.ref s1.heap.objs.size)) (PIE X pins σ (.Tuple elts kk tpos) R) X.xe { s1 with heap := s1.heap.push { cls := .type "dict_items", data := .fields #[.ref d] } } := by
    refine DT.iterI (d := d) (es := es) (ep := ep) ⟨_, Heap.get?_push_size _ rfl, rfl, rfl⟩ (raw.push _) (pi_one (tk := s1.toks) I2 _ (turn_itemsT _ hdt) ⟨.none, .none, ?_⟩ q)
    rw [← hsz]
    exact Heap.get?_push_size _ rfl
  show wpAny _ _ (callWith cpos (.builtin "dict.items") [.ref d] [] []) _ X.xe s1
  exact method_meetsIn F.slot_dict_items F.entry_dict_items rfl (PySem.evalArgs_none ⟨rfl, raw.typeIs, F.args_dict_items_1 _, _, DT.meetsItems (es := es) (ep := ep) hs, ⟨raw, fin⟩⟩)
theorem walk_itemsT {d : Addr} {o : Obj} {kvs : List (List Key × V)} : Walk (ItiT d o kvs) kvs.length (fun H => H d = some (.frz o (.dT kvs))) (fun i H x H' => ∃ (T q : Addr) (k : List Key) (v : V), kvs[i]? = some (k, v) ∧ x = .ref T ∧ H q = some (.tup (k.map kV)) ∧ H T = none ∧ H' = upd H T (.tup [.ref q, v])) :=
  ⟨fun _ _ hi q => ⟨q, hi⟩, fun _ q => ⟨q, Nat.le_refl _⟩, fun _ _ _ _ _ _ y => y⟩
end NvU

set_option Elab.async false
set_option linter.all false
set_option maxRecDepth 100000
set_option maxHeartbeats 8000000
/-! # Turns of actions: comes_back, turned_state, turn_among -/
namespace M3
open PySem L2
abbrev nComes : List Str := ["action", "state", "now", "_"]
abbrev nTurned : List Str := ["action", "state", "goal"]
abbrev nAmong : List Str := ["words", "action", "word", "state"]
/-- where an action, so often, leads a state -/
def its (g : List Nat) (q : Nat) : Nat → Nat
  | 0 => q
  | k + 1 => g.getD (its g q k) 0
theorem its_lt {g : List Nat} {q : Nat} (w : ∀ z ∈ g, z < g.length) (hq : q < g.length) : ∀ k, its g q k < g.length
  | 0 => hq
  | k + 1 => by
    have h := its_lt w hq k
    show g.getD (its g q k) 0 < g.length
    have e : g.getD (its g q k) 0 = g[its g q k] := by simp [List.getD, List.getElem?_eq_getElem h]
    rw [e]
    exact w _ (List.getElem_mem h)
def comesB (g : List Nat) (q : Nat) : Bool := (List.range g.length).any fun k => decide (its g q (k + 1) = q)
def turnedB (g : List Nat) (q : Nat) : Bool := decide (g.getD q 0 ≠ q) && comesB g q
def turned (g : List Nat) : Option Nat := (List.range g.length).find? (turnedB g)
def among (F : List (List Nat × Str)) : Option (Str × Nat) := F.findSome? fun z => (turned z.1).map fun q => (z.2, q)
def optV : Option Nat → V
  | none => .non
  | some q => .int (q : Nat)
def spComes (K : PySem.W.Frag) : Sp := fun vs H Q _ => ∃ (a : Addr) (g : List Nat) (q : Nat), vs = [.ref a, .int (q : Nat)] ∧ SqT K H a (nts g) ∧ (∀ z ∈ g, z < g.length) ∧ q < g.length ∧ Q (.bl (comesB g q)) H
def spTurned (K : PySem.W.Frag) : Sp := fun vs H Q _ => ∃ (a : Addr) (g : List Nat), vs = [.ref a] ∧ SqT K H a (nts g) ∧ (∀ z ∈ g, z < g.length) ∧ ∀ H' : Hp, Same H H' → Q (optV (turned g)) H'
def spAmong : Sp := fun vs H Q _ => ∃ (D : Addr) (F : List (List Nat × Str)), vs = [.ref D] ∧ H D = some (.dT (ents F)) ∧ (∀ z ∈ F, ∀ q ∈ z.1, q < z.1.length) ∧
  (among F = none → ∀ H' : Hp, Same H H' → Q .non H') ∧ ∀ (y : Str) (q : Nat), among F = some (y, q) → ∀ (p : Addr) (H' : Hp), H' p = some (.tup [.str y, .int (q : Nat)]) → Same H H' → Q (.ref p) H'
section
variable {P : Program} {w : World} {K : PySem.W.Frag} {mg : Str → Option Value} {base : Heap}
theorem find_none {p : Nat → Bool} {n : Nat} (h : ∀ j, j < n → p j = false) : (List.range n).find? p = none := by
  rw [List.find?_eq_none]
  intro j hj z
  rw [h j (List.mem_range.mp hj)] at z
  cases z
theorem find_at {p : Nat → Bool} {n i : Nat} (h : ∀ j, j < i → p j = false) (hi : i < n) (t : p i = true) : (List.range n).find? p = some i := by
  induction n with
  | zero => exact absurd hi (Nat.not_lt_zero _)
  | succ n ih =>
    rw [List.range_succ, List.find?_append]
    by_cases c : i < n
    · rw [ih c]
      rfl
    · have e : i = n := by omega
      subst e
      rw [find_none h]
      simp [List.find?, t]
theorem keep_frz {H H' : Hp} {d : Addr} {o u : HO} (h : H d = some u) (s : Same (upd H d o) H') : Same H (upd H' d u) := fun b v e => by
  by_cases c : b = d
  · rw [c, upd_same]
    rw [c, h] at e
    exact e
  · rw [upd_ne c]
    exact s _ _ (by rw [upd_ne c]; exact e)
end
end M3

set_option Elab.async false
set_option linter.all false
set_option maxRecDepth 100000
set_option maxHeartbeats 8000000
/-! # C(e, ..) whose __init__ may raise, within a try -/
namespace NvX
open PySem PySem.Spec PyProof.Rows L2
def tMakeS (C : Addr) (sp : Sp) (E : L2.St → XK) (t : TA) : TE := fun σ H Q => t σ H fun vs H1 => ∀ x dx, H1 x = none → H1 dx = none → dx ≠ x →
  sp (.ref x :: vs) (upd (upd H1 dx (.own x)) x (.ins C dx [])) (fun v H2 => v = .non ∧ Q (.ref x) H2) (E σ)
section
variable {X : Cx} {CX : CXT} {k : Nat} {f C : Addr} {fd : FuncData} {ps : List Str} {sp : Sp} {E : L2.St → XK} {x : Str} {p pos : Pos} {e : Expr} {es : List Expr} {t : TA}
theorem run_makeS {pins : List (Addr × Obj)} {σ : L2.St} {H : Hp} {s : Shared} {Q : VK} {us : List Value} {vs : List V} (M : Mk X.K C f) (F : FnOk X.prog X.w X.K X.mg X.base CX k f fd ps sp) (hr : Room (k + 1) X.A) (hb : Binds X.K fd ps [])
    (hx : PassesAt CX X σ (E σ)) (I : Inv X pins σ H s) (r : Vals vs us)
    (h : ∀ x dx, H x = none → H dx = none → dx ≠ x → sp (.ref x :: vs) (upd (upd H dx (.own x)) x (.ins C dx [])) (fun v H2 => v = .non ∧ Q (.ref x) H2) (E σ)) :
    wpAny (model X.prog X.w) X.A (call (.ref C) us) (EP X pins σ Q) X.xe s := by
  have hq := h (s.heap.objs.size + 1) s.heap.objs.size (I.hok.fresh (Nat.le_succ _)) (I.hok.fresh (Nat.le_refl _)) (Nat.ne_of_lt (Nat.lt_succ_self _))
  have I2 := Inv.made (C := C) I
  have r2 : Vals (V.ref (s.heap.objs.size + 1) :: vs) (Value.ref (s.heap.objs.size + 1) :: us) := .cons rfl r
  have hl : (Value.ref (s.heap.objs.size + 1) :: us ++ []).length = ps.length := by
    have e := r2.length
    rw [F.len _ _ _ _ hq] at e
    rw [List.append_nil]
    exact e.symm
  have hb2 := hb _ (Value.ref (s.heap.objs.size + 1) :: us) I2.kIn hl
  rw [List.append_nil] at hb2
  refine wpAny_call (make_map (f := f) I.kIn M.makes M.init (beq_iff_eq.mp M.fn) (codeAny_mono (F.run _ X.stack _ _ ⟨Value.ref (s.heap.objs.size + 1) :: us, []⟩ (Value.ref (s.heap.objs.size + 1) :: us) _ _ (E σ) (hr.make C us [])
    (I2.env0.make C us []) hb2 r2 hq) fun r s' hq' => ?_))
  cases r with
  | error e => exact hx pins _ _ e s' I2 hq'
  | ok fl =>
    cases fl with
    | ret u =>
      obtain ⟨v, H', I3, rv, ev, q3⟩ := I2.after hq'
      subst ev
      exact ⟨rv, ⟨V.ref (s.heap.objs.size + 1), H', I3, rfl, q3⟩⟩
    | next => exact False.elim hq'
    | brk => exact False.elim hq'
    | cont => exact False.elim hq'
theorem pe_makeS (M : Mk X.K C f) (F : FnOk X.prog X.w X.K X.mg X.base CX k f fd ps sp) (hr : Room (k + 1) X.A) (hg : Gl X x) (hm : X.mg x = some (.ref C)) (hb : Binds X.K fd ps []) (hx : ∀ σ, PassesAt CX X σ (E σ))
    (ha : PA X (e :: es) t) (hdb : (x == ("__debug__" : Str)) = false := by decide) (he : starEach (e :: es) X.env = (false, eval e X.env) :: starEach es X.env := by rfl) (hpl : (backTo pos (starEach es X.env)).any (·.1) = false := by rfl) :
    PE X (.Call (.Name x p) (e :: es) [] pos) (tMakeS C sp E t) := by
  refine ⟨fun pins s σ H Q I h => ?_⟩
  refine wpAny_Call_Name_kw (ld_glob I hg hm ?_ hdb)
  refine PySem.W.callWith_K (h₀ := X.base) I.ok.mod.kin M.kp (thn (ha.run pos pins s σ H _ I h) fun us s1 ⟨vs, H1, I1, r, q⟩ => ⟨I1.kIn, ?_⟩) he hpl
  exact run_makeS M F hr hb (hx σ) I1 r q
end
end NvX

set_option Elab.async false
set_option linter.all false
set_option maxRecDepth 100000
set_option maxHeartbeats 8000000
/-! # Boxes: __init__, __len__, check_place, place -/
namespace M3
open PySem L2
/-- the attributes of a box, in the order in which they are stored -/
def flB (x : Str) (a : Addr) : List (Str × V) := putF "_table" (.ref a) (putF "_letters" (.str x) [])
theorem kb3 : ¬ (("_letters" : Str) = "_table") := by decide +kernel
theorem flb_l {x : Str} {a : Addr} : (flB x a).lookup ("_letters" : Str) = some (.str x) := by
  unfold flB
  rw [lookup_putF, if_neg kb3, lookup_putF, if_pos rfl]
theorem flb_t {x : Str} {a : Addr} : (flB x a).lookup ("_table" : Str) = some (.ref a) := by
  unfold flB
  rw [lookup_putF, if_pos rfl]
theorem kbp1 : ¬ (("place" : Str) = "_table") := by decide +kernel
theorem kbp2 : ¬ (("place" : Str) = "_letters") := by decide +kernel
theorem flb_place {x : Str} {a : Addr} : (flB x a).lookup ("place" : Str) = none := by
  unfold flB
  rw [lookup_putF, if_neg kbp1, lookup_putF, if_neg kbp2]
  rfl
structure TxB (K : PySem.W.Frag) (mg : Str → Option Value) (C : Addr) : Prop where
  cl : Cls K C
  nL : NoAttr K C "_letters"
  nT : NoAttr K C "_table"
  mP : ∃ t, mg "MAX_PLACES" = some (.int 4 t)
  mA : ∃ t, mg "ALL_ACTIONS" = some (.int 256 t)
  mT : ∃ t, mg "MAX_TIMES" = some (.int 100000000000 t)
/-- what is right of a box's letters and table -/
structure RightB (x : Str) (t : List (List Nat)) (m : Nat) : Prop where
  st : IsSet x m
  m1 : 1 ≤ m
  m2 : m ≤ 2
  tb : IsTab t t.length m
  t1 : 1 ≤ t.length
  t4 : t.length ≤ 4
structure BoxAt (K : PySem.W.Frag) (C : Addr) (H : Hp) (p : Addr) (x : Str) (t : List (List Nat)) : Prop where
  ex : ∃ (dx a : Addr) (us : List V), H p = some (.ins C dx (flB x a)) ∧ SqT K H a us ∧ Tups K H us t
theorem BoxAt.same {K : PySem.W.Frag} {C p : Addr} {H H' : Hp} {x : Str} {t : List (List Nat)} (h : BoxAt K C H p x t) (s : Same H H') : BoxAt K C H' p x t := by
  obtain ⟨dx, a, us, h1, h2, h3⟩ := h
  exact ⟨dx, a, us, s _ _ h1, sqt_same s h2, h3.same s⟩
/-- an action is a way to lead -/
theorem rowA_found {t : List (List Nat)} {x : Str} {m : Nat} (tb : IsTab t t.length m) (st : IsSet x m) (hm2 : m ≤ 2) {F : List (List Nat × Str)} (h : FoundA t x F) {i : Nat} {z : List Nat × Str} (hz : F[i]? = some z) : ∀ n, n ≤ x.cps.size → FoundA t x (rowA t x z.1 z.2 F n)
  | 0, _ => h
  | n + 1, hn => by
    have ih := rowA_found tb st hm2 h hz n (by omega)
    have hx : n < x.cps.toList.length := by
      rw [Array.length_toList]
      omega
    have hc : x.cps.toList[n]? = some x.cps.toList[n] := List.getElem?_eq_getElem hx
    have hcm : x.cps.toList[n] ∈ x.cps.toList := List.getElem_mem hx
    generalize x.cps.toList[n] = c at hc hcm
    have ec : x.cps.toList.getD n 0 = c := getD_some' hc
    have lm : x.cps.toList.length = m := by
      have := set_len st
      simpa [Str.length] using this
    show FoundA t x (addA t z.1 z.2 n (x.cps.toList.getD n 0) (rowA t x z.1 z.2 F n))
    rw [ec]
    exact addA_found tb h hz ih (List.getElem?_eq_some_iff.mp (rowA_at hz n)).1 (by omega) hcm (set_ix st hm2 hc)
theorem bfsL_found {t : List (List Nat)} {x : Str} {m mo : Nat} (tb : IsTab t t.length m) (st : IsSet x m) (hm2 : m ≤ 2) : ∀ (n i : Nat) (F : List (List Nat × Str)), FoundA t x F → FoundA t x (bfsL t x mo n i F)
  | 0, _, _, h => h
  | n + 1, i, F, h => by
    show FoundA t x (match F[i]? with
      | none => F
      | some z => if F.length ≤ mo then bfsL t x mo n (i + 1) (rowA t x z.1 z.2 F x.cps.size) else F)
    cases hz : F[i]? with
    | none => exact h
    | some z =>
      show FoundA t x (if F.length ≤ mo then bfsL t x mo n (i + 1) (rowA t x z.1 z.2 F x.cps.size) else F)
      split
      · exact bfsL_found tb st hm2 n (i + 1) _ (rowA_found tb st hm2 h hz _ (Nat.le_refl _))
      · exact h
theorem bfs_found {t : List (List Nat)} {x : Str} {m mo : Nat} (tb : IsTab t t.length m) (st : IsSet x m) (hm2 : m ≤ 2) : FoundA t x (bfs t x mo) := by
  refine bfsL_found tb st hm2 _ _ _ fun i z e => ?_
  match i, e with
  | 0, e =>
    cases e
    have e0 : ("" : Str).cps.toList = [] := by decide +kernel
    refine ⟨fun q hq => List.mem_range.mp hq, List.length_range, fun c hc => ?_, by rw [e0, act_nil], (show ("" : Str).length ≤ 0 by decide +kernel)⟩
    rw [e0] at hc
    cases hc
theorem found_wf {t : List (List Nat)} {x : Str} {F : List (List Nat × Str)} (h : FoundA t x F) : ∀ z ∈ F, ∀ q ∈ z.1, q < z.1.length := fun z hz q hq => by
  obtain ⟨i, hi, ei⟩ := List.getElem_of_mem hz
  obtain ⟨h1, h2, _⟩ := h i z (by rw [List.getElem?_eq_getElem hi, ei])
  rw [h2]
  exact h1 q hq
def spBoxInit (K : PySem.W.Frag) (C cG : Addr) : Sp := fun vs H Q E => ∃ (p dx a : Addr) (x : Str) (us : List V) (t : List (List Nat)) (m : Nat), vs = [.ref p, .str x, .ref a] ∧ H p = some (.ins C dx []) ∧
  RightB x t m ∧ SqT K H a us ∧ Tups K H us t ∧
  (among (bfs t x 256) = none → ∀ H' : Hp, H' p = some (.ins C dx (flB x a)) → (∀ c o, c ≠ p → H c = some o → H' c = some o) → Q .non H') ∧
  (∀ (y : Str) (q : Nat), among (bfs t x 256) = some (y, q) → ∀ (d T : Addr) (H' : Hp), H' d = some (.xd [("turn", .ref T)]) → H' T = some (.tup [.str y, .int (q : Nat)]) → Same H H' → E (.ref cG) (some d) H')
def spBoxLen (K : PySem.W.Frag) (C : Addr) : Sp := fun vs H Q _ => ∃ (p : Addr) (x : Str) (t : List (List Nat)), vs = [.ref p] ∧ BoxAt K C H p x t ∧ Q (.int (t.length : Nat)) H
def spCheckP (K : PySem.W.Frag) (C : Addr) : Sp := fun vs H Q _ => ∃ (p : Addr) (x : Str) (t : List (List Nat)) (q : Nat), vs = [.ref p, .int (q : Nat)] ∧ BoxAt K C H p x t ∧ q < t.length ∧ t.length ≤ 1000 ∧ ∀ H' : Hp, Same H H' → Q .non H'
section
variable {P : Program} {w : World} {K : PySem.W.Frag} {mg : Str → Option Value} {base : Heap} {C cG : Addr}
end
end M3

set_option Elab.async false
set_option linter.all false
set_option maxRecDepth 100000
set_option maxHeartbeats 8000000
/-! # _law_actions -/
namespace M3
open PySem L2
abbrev sLawActs : Stmt := top 61
abbrev nLA : List Str := ["table", "letters", "most", "steps", "first", "found", "order", "at", "letter", "step", "later", "row", "place"]
theorem scLA : FnScope nLA ["table", "letters", "most"] (defScope sLawActs) := ⟨rfl, rfl, rfl, by decide +kernel, rfl, by decide +kernel, by decide +kernel⟩
def spLawActs (K : PySem.W.Frag) : Sp := fun vs H Q _ => ∃ (a : Addr) (x : Str) (us : List V) (t : List (List Nat)) (m mo : Nat), vs = [.ref a, .str x, .int (mo : Nat)] ∧ SqL K H a us ∧ Tups K H us t ∧ IsTab t t.length m ∧ IsSet x m ∧ m ≤ 2 ∧ t.length ≤ 10 ∧ mo ≤ 1000 ∧
  ((bfs t x mo).length ≤ mo → ∀ (D : Addr) (H' : Hp), H' D = some (.dT (ents (bfs t x mo))) → H D = none → Same H H' → Q (.ref D) H') ∧ (mo < (bfs t x mo).length → ∀ H' : Hp, Same H H' → Q .non H')
theorem col_getD {t : List (List Nat)} {j p : Nat} (h : p < t.length) : (col t j).getD p 0 = (t.getD p []).getD j 0 := by
  unfold col
  simp [List.getD, List.getElem?_eq_getElem h]
def tInner (K : PySem.W.Frag) : TE := tLc (iList K (tVar 0)) (gName 11) tYes (tOp (rIxT K) (tVar 11) (tVar 7)) [11]
section
variable {P : Program} {w : World} {K : PySem.W.Frag} {mg : Str → Option Value} {base : Heap}
theorem ok_lawacts {f : Addr} {fd : FuncData} (F : Fun K "_law_actions" "_law_actions" sLawActs f fd) (M : TxM mg) (hZ : mg "zip" = none) : FnOk P w K mg base CX0 1 f fd ["table", "letters", "most"] (spLawActs K) := by
  refine F.ok scLA (fun vs H Q E h => ?_) (fun cdv A outer s H vs Q E hr h => ?_)
  · obtain ⟨a, x, us, t, m, mo, rfl, _⟩ := h
    rfl
  · obtain ⟨a, x, us, t, m, mo, rfl, ha, hT, tb, st, hm2, tl, hmo, k1, k2⟩ := h
    have hu := hu_of hr
    have hu0 : (A.deeper (PyProof.Rows.envOfC "_law_actions" (defScope sLawActs) s.heap.objs.size f cdv)).units < cLine := Nat.lt_of_succ_lt hu
    refine ⟨_, pss_cons (ps_setLc (i := 3) (own := [("at", 7)]) (g := gName 7) (tt := tYes) (te := tInner K) rfl scLA.nd rfl rfl (by rfl) (pi_range1 rfl M.range (pa_cons (pe_callB call_len_str (by rfl) M.len PySem.boot_len (pa_cons (pv 1) pa_nil)) pa_nil)) (blkOk_by (N := nLA) (sc := defScope sLawActs) (by decide +kernel)) (fun _ _ _ _ _ => pg_name (i := 7) scLA.nd rfl (Or.inr rfl)) (fun _ _ _ _ _ => pts_nil)
        (fun _ _ _ _ _ => pe_lc (own := [("row", 11)]) (wi := iList K (tVar 0)) (g := gName 11) (tt := tYes) (te := tOp (rIxT K) (tVar 11) (tVar 7)) rfl scLA.nd (pi_list (pv 0)) (by exact blkOk_by (N := nLA) (sc := ⟨.function, [(".0", .local), ("at", .cell), ("table", .cell)], false, false, []⟩) (scope := ⟨.function, [(".0", .local), ("row", .local), ("at", .free)], false, false, []⟩) (own := [("row", 11)]) (by decide +kernel)) (fun _ _ _ _ _ => pg_name (i := 11) scLA.nd rfl (Or.inl rfl)) (fun _ _ _ _ _ => pts_nil)
          (fun _ _ _ _ _ => pe_ix ix_tup (pv 11) (pv 7) (fun _ _ => rfl))))
      (pss_cons (ps_set (i := 4) scLA.nd rfl (Or.inl rfl) (pe_tupRg rfl rfl M.tuple (prg_1 rfl M.range (pe_callB call_len_seq (by rfl) M.len PySem.boot_len (pa_cons (pv 0) pa_nil)))))
      (pss_cons (ps_par3 (i := 5) (j := 6) (l := 7) rfl scLA.nd rfl rfl rfl (by decide) (by decide) (by decide) rfl rfl rfl (pa_cons (NvQ.pe_disp1 hu0 (pv 4) pe_str) (pa_cons (pe_lst (pa_cons (pv 4) pa_nil)) (pa_cons pe_int pa_nil))) rfl)
      (pss_cons (ps_while PassesOwn.never (PW.pt (pw_and (pt_cmpR op_lt (pv 7) (pe_callB call_len_seq (by rfl) M.len PySem.boot_len (pa_cons (pv 6) pa_nil)) (nomark _)) (pw_and1 (pt_cmpR op_le (pe_callB call_len_seq (by rfl) M.len PySem.boot_len (pa_cons (pv 6) pa_nil)) (pv 2) (nomark _)))))
        (pss_cons (ps_for PassesOwn.never rfl (NvL.pi_zipSL rfl hZ (pa_cons (pv 1) (pa_cons (pv 3) pa_nil))) (pg_tup rfl (pgs_cons (pg_name (i := 8) scLA.nd rfl (Or.inl rfl)) (pgs_cons (pg_name (i := 9) scLA.nd rfl (Or.inr rfl)) pgs_nil)))
          (pss_cons (ps_set (i := 10) scLA.nd rfl (Or.inl rfl) (pe_callTy call_tuple_of (by rfl) M.tuple (by decide +kernel) (pa_cons (pe_lc (own := [("place", 12)]) (g := gName 12) (tt := tYes) (te := tOp (rIxL K) (tVar 9) (tVar 12)) rfl scLA.nd (pi_tup (pe_ix ix_list (pv 6) (pv 7) (fun _ _ => rfl))) (blkOk_by (N := nLA) (sc := defScope sLawActs) (by decide +kernel)) (fun _ _ _ _ _ => pg_name (i := 12) scLA.nd rfl (Or.inl rfl)) (fun _ _ _ _ _ => pts_nil)
              (fun _ _ _ _ _ => pe_ix ix_list (pv 9) (pv 12) (fun _ _ => rfl))) pa_nil)))
          (pss_one (ps_if (pt_cmp (pc_dnotin hu (pv 10) (pv 5)))
            (pss_cons (ps_dput hu (pv 5) (pv 10) (pe_op op_add_str (pe_dget hu (pv 5) (pe_ix ix_list (pv 6) (pv 7) (fun _ _ => rfl)) (fun _ _ => rfl)) (pv 8)) rfl)
            (pss_one (ps_expr (pe_bm PySem.F.plainAttrs_list PySem.F.slot_list_append PySem.F.type_list_append mt_append (pv 6) (pa_cons (pv 10) pa_nil))))) pss_nil))))
        (pss_one (ps_set (i := 7) scLA.nd rfl (Or.inl rfl) (pe_op op_add (pv 7) pe_int)))))
      (pss_one (ps_ret (pe_ifExp (pt_cmpR op_le (pe_callB call_len_dT (by rfl) M.len PySem.boot_len (pa_cons (pv 5) pa_nil)) (pv 2) (nomark _)) (pv 5) pe_non)))))), ?_⟩
    have lu : us.length = t.length := hT.1
    have hm : x.cps.toList.length = m := by
      have := set_len st
      simpa [Str.length] using this
    have lx := set_len st
    have free : ∀ {H9 : Hp} {q : Addr}, Same H H9 → H9 q = none → H q = none := fun {H9 q} sx hq => free_of sx hq
    refine ⟨_, rfl, x, rfl, Nat.le_trans (show x.length ≤ 2 by omega) (by decide), ?_⟩
    rw [lx]
    refine ⟨_, rfl, by omega, by omega, fun G nG => ?_⟩
    have sm : ∀ {H9 : Hp}, (∀ b' o, b' ≠ G → H b' = some o → H9 b' = some o) → Same H H9 := fun z b' o h => z b' o (fun q => by rw [q, nG] at h; cases h) h
    refine lc_range (lo := 0) (n := ((m : Nat) : Int).toNat) (fun j H9 => ∃ us9 : List V, H9 G = some (.lst us9) ∧ RowsL G G H9 us9 ((List.range j).map (col t)) ∧ ∀ b o, b ≠ G → H b = some o → H9 b = some o)
      ⟨[], upd_same, ⟨rfl, fun i r h => by cases h⟩, fun b o hb h => keep_new h nG⟩ ?_ ?_
    · rintro j H9 hj ⟨us9, u1, u2, u3⟩
      have hj : j < m := by omega
      have s9 := sm u3
      refine ⟨rfl, tYes_if ?_⟩
      refine ⟨_, rfl, a, rfl, ⟨_, s9.seq ha⟩, fun S nS => ?_⟩
      have sm2 : ∀ {H10 : Hp}, (∀ b' o, b' ≠ S → H9 b' = some o → H10 b' = some o) → Same H9 H10 := fun z b' o h => z b' o (fun q => by rw [q, nS] at h; cases h) h
      refine lc_list (K := K) (a := a) (xs := us) (fun i H10 => H10 S = some (.lst (nts (col (t.take i) j))) ∧ ∀ b o, b ≠ S → H9 b = some o → H10 b = some o)
        ⟨upd_same, fun b o hb h => keep_new h nS⟩ (fun i H10 _ ⟨_, z⟩ => (sm2 z).seq (s9.seq ha)) ?_ ?_
      · rintro i v H10 hv ⟨w1, w2⟩
        have hi : i < t.length := by
          rw [← lu]
          exact (List.getElem?_eq_some_iff.mp hv).1
        obtain ⟨b, b1, b2⟩ := hT.2 i t[i] (List.getElem?_eq_getElem hi)
        have ev : v = .ref b := Option.some.inj (hv.symm.trans b1)
        subst ev
        refine ⟨rfl, tYes_if ?_⟩
        obtain ⟨ln, _⟩ := tb.2 t[i] (List.getElem_mem hi)
        have ej : (0 : Int) + (j : Int) = (j : Int) := Int.zero_add _
        refine ⟨_, rfl, _, rfl, b, nts t[i], 0 + (j : Int), .int ((t[i].getD j 0 : Nat) : Int), rfl, rfl, sqt_same (sm2 w2) (sqt_same s9 b2), by rw [ej]; exact nts_at (by omega), ?_⟩
        refine ⟨_, w1, ?_, ?_, fun b' o hb' h' => by rw [upd_ne hb']; exact w2 b' o hb' h'⟩
        · rw [nts_length]
          unfold col
          rw [List.length_map, List.length_take]
          exact Nat.lt_of_le_of_lt (Nat.le_trans (Nat.min_le_right _ _) tl) (by decide)
        · rw [upd_same, nts_append]
          unfold col
          rw [take_snoc (List.getElem?_eq_getElem hi), List.map_append]
          rfl
      · rintro H10 ⟨w1, w2⟩
        have et : t.take us.length = t := by
          rw [lu]
          exact List.take_length
        rw [et] at w1
        have SG : S ≠ G := fun z => by
          rw [z, u1] at nS
          cases nS
        refine ⟨us9, w2 _ _ (Ne.symm SG) u1, ?_, us9 ++ [.ref S], upd_same, ?_, fun b o hb h => ?_⟩
        · rw [u2.1, List.length_map, List.length_range]
          exact Nat.lt_of_lt_of_le hj (Nat.le_trans hm2 (by decide))
        · rw [List.range_succ, List.map_append]
          refine ((u2.to fun b o _ _ h => (sm2 w2) b o h).snoc SG SG w1).to fun b o _ h2 h => ?_
          rw [upd_ne h2]
          exact h
        · rw [upd_ne hb]
          exact (sm2 w2) b o (u3 b o hb h)
    · rintro H1 ⟨us9, u1, u2, u3⟩
      have em : ((m : Nat) : Int).toNat = m := by omega
      rw [em] at u2
      have s1 := sm u3
      refine ⟨_, rfl, a, us, rfl, .inl (s1.seq ha), _, rfl, .of_le (by decide) (by omega) (by decide) (by omega), fun p0 np => ?_⟩
      rw [lu, rgV_nats]
      have hp2 : (upd H1 p0 (.tup (nts (List.range t.length)))) p0 = some (.tup (nts (List.range t.length))) := upd_same
      have s2 : Same H1 (upd H1 p0 (.tup (nts (List.range t.length)))) := Same.new (Same.refl H1) np
      generalize upd H1 p0 (.tup (nts (List.range t.length))) = H2 at hp2 s2 ⊢
      have g2 := s2 _ _ u1
      have r2 := u2.to (H' := H2) fun b o _ _ h => s2 b o h
      have t2 := s1.trans s2
      clear s2 u1 u2 u3 s1 np
      intro LW nLW
      have nLW0 : H LW = none := free t2 nLW
      have pW : p0 ≠ LW := ne_of_none hp2 nLW
      refine ⟨_, rfl, p0, key (List.range t.length), .str "", rfl, upd_same, (by rw [key_tup, upd_ne pW]; exact hp2), ?_⟩
      rw [upd_upd]
      have hW3 : (upd H2 LW (.dT [(key (List.range t.length), .str "")])) LW = some (.dT [(key (List.range t.length), .str "")]) := upd_same
      have s3 : Same H2 (upd H2 LW (.dT [(key (List.range t.length), .str "")])) := Same.new (Same.refl H2) nLW
      generalize upd H2 LW (.dT [(key (List.range t.length), .str "")]) = H3 at hW3 s3 ⊢
      refine ⟨_, rfl, (by show 1 ≤ sizeLine; decide), fun LF nLF => ⟨_, _, _, rfl, ?_⟩⟩
      have nLF0 : H LF = none := free (t2.trans s3) nLF
      have hF4 : (upd H3 LF (.lst [.ref p0])) LF = some (.lst [.ref p0]) := upd_same
      have s4 : Same H3 (upd H3 LF (.lst [.ref p0])) := Same.new (Same.refl H3) nLF
      generalize upd H3 LF (.lst [.ref p0]) = H4 at hF4 s4 ⊢
      have hW4 := s4 _ _ hW3
      have hp4 := s4 _ _ (s3 _ _ hp2)
      have g4 := s4 _ _ (s3 _ _ g2)
      have r4 : RowsL LF LW H4 us9 ((List.range m).map (col t)) := ⟨r2.1, fun i r h => by
        obtain ⟨b, b1, b2, b3, b4⟩ := r2.2 i r h
        exact ⟨b, b1, ne_of_none (s3 _ _ b4) nLF, ne_of_none b4 nLW, s4 _ _ (s3 _ _ b4)⟩⟩
      have t4 := (t2.trans s3).trans s4
      have GF : G ≠ LF := ne_of_none (s3 _ _ g2) nLF
      have GW : G ≠ LW := ne_of_none g2 nLW
      have FW : LF ≠ LW := ne_of hF4 hW4 (fun z => by cases z)
      clear s4 s3 nLF nLW pW hW3 hp2 g2 r2 t2
      refine while_by (fun σ H' => ∃ (us' : List V) (F : List (List Nat × Str)) (at' : Nat) (v1 v2 v3 : Option V), σ = [some (.ref a), some (.str x), some (.int (mo : Nat)), some (.ref G), some (.ref p0), some (.ref LW), some (.ref LF), some (.int (at' : Nat)), v1, v2, v3, none, none] ∧
          H' LF = some (.lst us') ∧ H' LW = some (.dT (ents F)) ∧ RowsA H' us' (F.map Prod.fst) ∧ FoundA t x F ∧ (F.map Prod.fst).Nodup ∧ F.length ≤ mo + 2 ∧ bfsL t x mo (mo + 1 - at') at' F = bfs t x mo ∧ ∀ b o, b ≠ LF → b ≠ LW → H4 b = some o → H' b = some o)
        (fun σ H' => match σ with | [_, _, _, _, _, _, _, some (.int i), _, _, _, _, _] => mo + 1 - i.toNat | _ => 0)
        ⟨[.ref p0], [(List.range t.length, "")], 0, none, none, none, rfl, hF4, hW4, ?_, ?_, by simp, (by show 1 ≤ mo + 2; omega), rfl, fun b o _ _ h => h⟩ ?_ ?_
      · exact ⟨rfl, fun i r e => by
          match i, e with
          | 0, e => exact ⟨p0, rfl, by cases e; exact hp4⟩⟩
      · intro i z e
        match i, e with
        | 0, e =>
          cases e
          have e0 : ("" : Str).cps.toList = [] := by decide +kernel
          refine ⟨fun q hq => List.mem_range.mp hq, List.length_range, fun c hc => ?_, by rw [e0, act_nil], (show ("" : Str).length ≤ 0 by decide +kernel)⟩
          rw [e0] at hc
          cases hc
      · rintro σ H5 ⟨us', F, at', v1, v2, v3, rfl, hF, hW, RA, FA, nd, lf, bf, kp⟩
        have kS : Same H H5 := fun b o h => kp b o (ne_of_none h nLF0) (ne_of_none h nLW0) (t4 _ _ h)
        have lus : us'.length = F.length := by rw [RA.1, List.length_map]
        -- the end
        have le : (ents (bfs t x mo)).length = (bfs t x mo).length := List.length_map _
        refine ⟨_, rfl, _, rfl, LF, us', rfl, .inl (SqL.of hF), _, _, rfl, rfl, _, rfl, ?_⟩
        rw [lus]
        refine ite2 (fun h1 => ?_) (fun h1 => ?_)
        · refine ⟨_, rfl, LF, us', rfl, .inl (SqL.of hF), _, rfl, _, _, rfl, rfl, _, rfl, ?_⟩
          rw [lus]
          have h1 : at' < F.length := by
            have := of_decide_eq_true h1
            omega
          refine ite2 (fun h2 => ?_) (fun h2 => ?_)
          · have h2 : F.length ≤ mo := by
              have := of_decide_eq_true h2
              omega
            have hz : F[at']? = some F[at'] := List.getElem?_eq_getElem h1
            generalize F[at'] = z at hz
            have bf2 : bfsL t x mo (mo + 1 - (at' + 1)) (at' + 1) (rowA t x z.1 z.2 F x.cps.size) = bfs t x mo := by
              rw [← bf, show mo + 1 - at' = (mo + 1 - (at' + 1)) + 1 by omega]
              show _ = (match F[at']? with
                | none => F
                | some z => if F.length ≤ mo then bfsL t x mo (mo + 1 - (at' + 1)) (at' + 1) (rowA t x z.1 z.2 F x.cps.size) else F)
              rw [hz]
              exact (if_pos h2).symm
            have l9 : us9.length = m := by rw [r4.1, List.length_map, List.length_range]
            have xsz : x.cps.size = m := by
              have e : x.cps.toList.length = x.cps.size := by simp
              omega
            have hmin : min x.cps.size us9.length = x.cps.size := by omega
            refine ⟨_, rfl, _, rfl, x, G, us9, rfl, SqL.of (kp _ _ GF GW g4), for_it (NvL.walk_zipSL (K := K) (x := x) (b := G) (ys := us9)) (fun j σ H' => ∃ (us' : List V) (v1 v2 v3 : Option V), σ = [some (.ref a), some (.str x), some (.int (mo : Nat)), some (.ref G), some (.ref p0), some (.ref LW), some (.ref LF), some (.int (at' : Nat)), v1, v2, v3, none, none] ∧
                H' LF = some (.lst us') ∧ H' LW = some (.dT (ents (rowA t x z.1 z.2 F j))) ∧ RowsA H' us' ((rowA t x z.1 z.2 F j).map Prod.fst) ∧ FoundA t x (rowA t x z.1 z.2 F j) ∧ ∀ b o, b ≠ LF → b ≠ LW → H4 b = some o → H' b = some o)
              ⟨us', v1, v2, v3, rfl, hF, hW, RA, FA, kp⟩ (fun i σ H' _ h => ?_) ?_ ?_⟩
            · obtain ⟨_, _, _, _, _, _, _, _, _, kp⟩ := h
              exact SqL.of (kp _ _ GF GW g4)
            · rintro j v σ H6 H7 hj ⟨us', v1, v2, v3, rfl, hF, hW, RA, FA2, kp⟩ ⟨T, c, y, rfl, nT, rfl, hc, hy⟩
              rw [hmin] at hj
              have hc' : x.cps.toList[j]? = some c := by simpa using hc
              have cx : c ∈ x.cps.toList := List.mem_of_getElem? hc'
              have ec : x.cps.toList.getD j 0 = c := getD_some' hc'
              have jm : j < m := by omega
              have ej : x.cps.toList.idxOf c = j := set_ix st hm2 hc'
              obtain ⟨bs, y1, bF, bW, y4⟩ := r4.2 j (col t j) (by rw [List.getElem?_map, List.getElem?_range jm]; rfl)
              rw [y1] at hy
              cases hy
              have gz : (rowA t x z.1 z.2 F j)[at']? = some z := rowA_at hz j
              have ndj := rowA_nodup (x := x) (r := z.1) (w := z.2) (t := t) nd j
              have lj := rowA_len (x := x) (r := z.1) (w := z.2) (t := t) (F := F) j
              have rw1 : rowA t x z.1 z.2 F (j + 1) = addA t z.1 z.2 j c (rowA t x z.1 z.2 F j) := by
                show addA t z.1 z.2 j (x.cps.toList.getD j 0) _ = _
                rw [ec]
              rw [rw1]
              have FA3 := addA_found tb FA hz FA2 (List.getElem?_eq_some_iff.mp gz).1 jm cx ej
              generalize rowA t x z.1 z.2 F j = GG at hW RA FA2 gz ndj lj FA3 ⊢
              have gm : (GG.map Prod.fst)[at']? = some z.1 := by
                rw [List.getElem?_map, gz]
                rfl
              obtain ⟨bq, b1, b2'⟩ := RA.2 at' _ gm
              obtain ⟨w1, w2, d2, d3, d4⟩ := FA2 at' z gz
              have d1 := ents_at ndj gz
              refine ⟨T, _, rfl, SqT.of upd_same, rfl, _, _, rfl, _, _, rfl, rfl, ?_⟩
              have sT : Same H6 (upd H6 T (.tup [.str ⟨#[c]⟩, .ref bs])) := Same.new (Same.refl H6) nT
              generalize upd H6 T (.tup [.str ⟨#[c]⟩, .ref bs]) = H8 at sT ⊢
              have hF := sT _ _ hF
              have hW := sT _ _ hW
              have b2' := sT _ _ b2'
              have RA := RA.to (H' := H8) (fun b ys h => sT _ _ h)
              have kp : ∀ b o, b ≠ LF → b ≠ LW → H4 b = some o → H8 b = some o := fun b o h1 h2 h => sT _ _ (kp b o h1 h2 h)
              have y8 := kp _ _ bF bW y4
              refine ⟨_, rfl, _, rfl, LF, us', _, _, rfl, rfl, SqL.of hF, atI_nat b1, bq, rfl, ⟨_, SqT.of b2'⟩, fun C nC => ?_⟩
              have smC : ∀ {H9 : Hp}, (∀ b' o, b' ≠ C → H8 b' = some o → H9 b' = some o) → Same H8 H9 := fun z b' o h => z b' o (fun q => by rw [q, nC] at h; cases h) h
              refine lc_tup (K := K) (a := bq) (xs := nts z.1) (fun i H9 => H9 C = some (.lst (nts (ledon t (z.1.take i) j))) ∧ ∀ b' o, b' ≠ C → H8 b' = some o → H9 b' = some o)
                ⟨upd_same, fun b' o hb' h => keep_new h nC⟩ (fun i H9 _ ⟨_, q⟩ => sqt_same (smC q) (SqT.of b2')) ?_ ?_
              · rintro i v H9 hv ⟨q1, q2⟩
                have hi : i < z.1.length := by
                  have := (List.getElem?_eq_some_iff.mp hv).1
                  rw [nts_length] at this
                  exact this
                unfold nts at hv
                rw [List.getElem?_map, List.getElem?_eq_getElem hi] at hv
                cases hv
                refine ⟨rfl, tYes_if ?_⟩
                have hp := w1 z.1[i] (List.getElem_mem hi)
                have lc : (col t j).length = t.length := by
                  unfold col
                  rw [List.length_map]
                refine ⟨_, rfl, _, rfl, bs, nts (col t j), _, _, rfl, rfl, SqL.of ((smC q2) _ _ y8), nts_at (by omega), ?_⟩
                rw [col_getD hp]
                refine ⟨_, q1, ?_, ?_, fun b'' o hb' h => by rw [upd_ne hb']; exact q2 b'' o hb' h⟩
                · unfold ledon
                  rw [nts_length, List.length_map, List.length_take]
                  exact Nat.lt_of_le_of_lt (show _ ≤ 1000 by omega) (by decide)
                · rw [upd_same]
                  unfold ledon nts
                  rw [map_take_snoc hi, List.map_append]
                  rfl
              · rintro H9 ⟨q1, q2⟩
                have et : z.1.take (nts z.1).length = z.1 := by
                  rw [nts_length]
                  exact List.take_length
                rw [et] at q1
                refine ⟨C, _, rfl, .inl ⟨SqL.of q1, fun g ng => ?_⟩⟩
                have s9 : Same H8 (upd H9 g (.tup (nts (ledon t z.1 j)))) := Same.new (smC q2) ng
                have hg : (upd H9 g (.tup (nts (ledon t z.1 j)))) g = some (.tup (nts (ledon t z.1 j))) := upd_same
                generalize upd H9 g (.tup (nts (ledon t z.1 j))) = HA at s9 hg ⊢
                have hF := s9 _ _ hF
                have hW := s9 _ _ hW
                have RA := RA.to (H' := HA) (fun b ys h => s9 _ _ h)
                have kp : ∀ b o, b ≠ LF → b ≠ LW → H4 b = some o → HA b = some o := fun b o h1 h2 h => s9 _ _ (kp b o h1 h2 h)
                have hg' : HA g = some (.tup ((key (ledon t z.1 j)).map kV)) := by rw [key_tup]; exact hg
                refine ⟨_, rfl, _, rfl, LW, _, rfl, DGet.t (k := key (ledon t z.1 j)) hW hg', _, rfl, ?_⟩
                have sz : (100000 : Nat) < sizeLine := by decide
                by_cases mem : ledon t z.1 j ∈ GG.map Prod.fst
                · obtain ⟨wv, ev⟩ := ents_some mem
                  rw [ev]
                  refine iteF ?_
                  rw [addA_old mem] at FA3 ⊢
                  exact ⟨us', _, _, _, rfl, hF, hW, RA, FA2, kp⟩
                · rw [ents_none mem]
                  refine iteT ?_
                  rw [addA_new mem] at FA3 ⊢
                  obtain ⟨bq', e1, e2⟩ := RA.2 at' _ gm
                  have bb : bq' = bq := by
                    rw [b1] at e1
                    exact (V.ref.inj (Option.some.inj e1)).symm
                  subst bb
                  have b3 := s9 _ _ b2'
                  have GD : DGet HA LW (.ref bq') (some (.str z.2)) := by
                    have q := DGet.t (k := key z.1) hW (by rw [key_tup]; exact b3)
                    rw [d1] at q
                    exact q
                  have wl : z.2.length + (⟨#[c]⟩ : Str).length ≤ sizeLine := by
                    have : (⟨#[c]⟩ : Str).length = 1 := rfl
                    have : at' < GG.length := (List.getElem?_eq_some_iff.mp gz).1
                    omega
                  have le : (ents GG).length = GG.length := List.length_map _
                  refine ⟨_, rfl, _, rfl, _, rfl, LF, us', _, _, rfl, rfl, SqL.of hF, atI_nat b1, LW, _, rfl, GD, _, rfl, z.2, ⟨#[c]⟩, rfl, rfl, wl, _, rfl, _, rfl, LW, _, rfl, DPut.t hW hg' (by omega), ?_⟩
                  rw [put_new mem]
                  have gF : g ≠ LF := ne_of hg hF (fun z => by cases z)
                  have gW : g ≠ LW := ne_of hg hW (fun z => by cases z)
                  have hFa : (upd HA LW (.dT (ents (GG ++ [(ledon t z.1 j, z.2 ++ ⟨#[c]⟩)])))) LF = some (.lst us') := by rw [upd_ne FW]; exact hF
                  have lF : us'.length = GG.length := by rw [RA.1, List.length_map]
                  refine ⟨_, rfl, .inl ⟨rfl, _, SqL.of hFa⟩, _, rfl, LF, us', .ref g, rfl, rfl, hFa, (by omega), ?_⟩
                  refine ⟨us' ++ [.ref g], _, _, _, rfl, upd_same, ?_, ?_, FA3, ?_⟩
                  · rw [upd_ne (Ne.symm FW)]
                    exact upd_same
                  · rw [List.map_append]
                    refine (RA.to fun b ys h => ?_).snoc ?_
                    · rw [upd_ne (ne_of h hF (fun z => by cases z)), upd_ne (ne_of h hW (fun z => by cases z))]
                      exact h
                    · rw [upd_ne gF, upd_ne gW]
                      exact hg
                  · intro b o h1 h2 h
                    rw [upd_ne h1, upd_ne h2]
                    exact kp b o h1 h2 h
            · rintro σ H6 ⟨us', v1, v2, v3, rfl, hF, hW, RA, FA2, kp⟩
              rw [hmin] at hW RA FA2
              have lj := rowA_len (x := x) (r := z.1) (w := z.2) (t := t) (F := F) x.cps.size
              refine ⟨_, rfl, _, _, rfl, rfl, ⟨us', _, at' + 1, v1, v2, v3, rfl, hF, hW, RA, FA2, rowA_nodup nd _, by omega, bf2, kp⟩, ?_⟩
              show mo + 1 - (at' + 1) < mo + 1 - at'
              omega
          · have h2 : mo < F.length := by
              by_cases q : mo < F.length
              · exact q
              · exact absurd (decide_eq_true (show ((F.length : Nat) : Int) ≤ ((mo : Nat) : Int) by omega)) h2
            rw [bfsL_stop (.inr h2)] at bf
            rw [bf] at hW
            refine ⟨_, rfl, LW, _, rfl, hW, _, rfl, _, _, rfl, rfl, _, rfl, ?_⟩
            rw [le]
            refine ite2 (fun h3 => ?_) (fun h3 => ?_)
            · have h3 := of_decide_eq_true h3
              exact ⟨_, rfl, k1 (by omega) LW H5 hW nLW0 kS⟩
            · have h3 : ¬ (((bfs t x mo).length : Nat) : Int) ≤ ((mo : Nat) : Int) := fun z => h3 (decide_eq_true z)
              exact k2 (by omega) H5 kS
        · have h1 : F.length ≤ at' := by
            by_cases q : F.length ≤ at'
            · exact q
            · exact absurd (decide_eq_true (show ((at' : Nat) : Int) < ((F.length : Nat) : Int) by omega)) h1
          rw [bfsL_stop (.inl h1)] at bf
          rw [bf] at hW
          refine iteF ?_
          refine ⟨_, rfl, LW, _, rfl, hW, _, rfl, _, _, rfl, rfl, _, rfl, ?_⟩
          rw [le]
          refine ite2 (fun h3 => ?_) (fun h3 => ?_)
          · have h3 := of_decide_eq_true h3
            exact ⟨_, rfl, k1 (by omega) LW H5 hW nLW0 kS⟩
          · have h3 : ¬ (((bfs t x mo).length : Nat) : Int) ≤ ((mo : Nat) : Int) := fun z => h3 (decide_eq_true z)
            exact k2 (by omega) H5 kS
      · rintro σ H1 Q1 Q2 hq h
        obtain ⟨v1, hv1, v2, hv2, p, ys, hp, hs, i1, i2, c1, c2, b, hb, hh⟩ := h
        refine ⟨v1, hv1, v2, hv2, p, ys, hp, hs, i1, i2, c1, c2, b, hb, ?_⟩
        cases b with
        | true =>
          obtain ⟨v3, hv3, p3, ys3, hp3, hs3, v4, hv4, j1, j2, d1, d2, b2, hb2, hh⟩ := hh
          exact ⟨v3, hv3, p3, ys3, hp3, hs3, v4, hv4, j1, j2, d1, d2, b2, hb2, hq _ _ hh⟩
        | false => exact hq _ _ hh
end
end M3

set_option Elab.async false
set_option linter.all false
set_option maxRecDepth 100000
set_option maxHeartbeats 8000000
/-! # Going round: the law's own look; few actions -/
namespace M3
open PySem L2
theorem few_nats : ∀ (n : Nat) (l : List Nat), l.Nodup → (∀ x ∈ l, x < n) → l.length ≤ n
  | 0, l, _, h => by
    match l, h with
    | [], _ => exact Nat.le_refl _
    | a :: _, h => exact absurd (h a List.mem_cons_self) (Nat.not_lt_zero _)
  | n + 1, l, nd, h => by
    by_cases c : n ∈ l
    · have e := List.length_erase_of_mem c
      have q := few_nats n (l.erase n) (nd.erase n) fun x hx => by
        have hx := (nd.mem_erase_iff).mp hx
        have := h x hx.2
        have := hx.1
        omega
      omega
    · have q := few_nats n l nd fun x hx => by
        have h1 := h x hx
        by_cases e : x = n
        · rw [e] at hx
          exact absurd hx c
        · omega
      omega
/-- a way to lead up to four places, as a number -/
def code4 : List Nat → Nat
  | [] => 0
  | a :: l => a + 4 * code4 l
theorem code4_lt : ∀ {l : List Nat}, (∀ z ∈ l, z < 4) → code4 l < 4 ^ l.length
  | [], _ => by decide
  | a :: l, h => by
    have ih := code4_lt (l := l) fun z hz => h z (List.mem_cons_of_mem _ hz)
    have ha := h a List.mem_cons_self
    show a + 4 * code4 l < 4 ^ (l.length + 1)
    rw [Nat.pow_succ]
    omega
theorem code4_inj : ∀ {l k : List Nat}, l.length = k.length → (∀ z ∈ l, z < 4) → (∀ z ∈ k, z < 4) → code4 l = code4 k → l = k
  | [], [], _, _, _, _ => rfl
  | [], _ :: _, h, _, _, _ => by cases h
  | _ :: _, [], h, _, _, _ => by cases h
  | a :: l, b :: k, hl, h1, h2, e => by
    have ha := h1 a List.mem_cons_self
    have hb := h2 b List.mem_cons_self
    have e : a + 4 * code4 l = b + 4 * code4 k := e
    have e1 : a = b := by omega
    have e2 : code4 l = code4 k := by omega
    rw [e1, code4_inj (by simpa using hl) (fun z hz => h1 z (List.mem_cons_of_mem _ hz)) (fun z hz => h2 z (List.mem_cons_of_mem _ hz)) e2]
theorem few_256 {F : List (List Nat)} {n : Nat} (n4 : n ≤ 4) (nd : F.Nodup) (h : ∀ r ∈ F, (∀ z ∈ r, z < n) ∧ r.length = n) : F.length ≤ 256 := by
  have q := few_nats 256 (F.map code4) (by
    unfold List.Nodup
    rw [List.pairwise_map]
    refine List.Pairwise.imp_of_mem (fun {r s} hr hs ne e => ne ?_) nd
    obtain ⟨r1, r2⟩ := h r hr
    obtain ⟨s1, s2⟩ := h s hs
    exact code4_inj (by rw [r2, s2]) (fun z hz => Nat.lt_of_lt_of_le (r1 z hz) n4) (fun z hz => Nat.lt_of_lt_of_le (s1 z hz) n4) e) (fun x hx => by
    obtain ⟨r, hr, rfl⟩ := List.mem_map.mp hx
    obtain ⟨r1, r2⟩ := h r hr
    have q := code4_lt (l := r) fun z hz => Nat.lt_of_lt_of_le (r1 z hz) n4
    rw [r2] at q
    exact Nat.lt_of_lt_of_le q (Nat.le_trans (Nat.pow_le_pow_right (by decide) n4) (by decide)))
  rw [List.length_map] at q
  exact q
theorem bfsL_nodup {t : List (List Nat)} {x : Str} {mo : Nat} : ∀ (n i : Nat) (F : List (List Nat × Str)), (F.map Prod.fst).Nodup → ((bfsL t x mo n i F).map Prod.fst).Nodup
  | 0, _, _, h => h
  | n + 1, i, F, h => by
    show ((match F[i]? with
      | none => F
      | some z => if F.length ≤ mo then bfsL t x mo n (i + 1) (rowA t x z.1 z.2 F x.cps.size) else F).map Prod.fst).Nodup
    split
    · exact h
    · split
      · exact bfsL_nodup n (i + 1) _ (rowA_nodup h _)
      · exact h
theorem bfs_nodup {t : List (List Nat)} {x : Str} {mo : Nat} : ((bfs t x mo).map Prod.fst).Nodup := bfsL_nodup _ _ _ (by simp)
theorem bfs_few {t : List (List Nat)} {x : Str} {m : Nat} (R : RightB x t m) : (bfs t x 256).length ≤ 256 := by
  have FA := bfs_found (mo := 256) R.tb R.st R.m2
  have q := few_256 (F := (bfs t x 256).map Prod.fst) R.t4 bfs_nodup fun r hr => by
    obtain ⟨z, hz, rfl⟩ := List.mem_map.mp hr
    obtain ⟨i, hi, ei⟩ := List.getElem_of_mem hz
    obtain ⟨h1, h2, _⟩ := FA i z (by rw [List.getElem?_eq_getElem hi, ei])
    exact ⟨h1, h2⟩
  rw [List.length_map] at q
  exact q
theorem its_add {g : List Nat} {q : Nat} : ∀ {i j : Nat}, its g q i = its g q j → ∀ k, its g q (i + k) = its g q (j + k)
  | _, _, h, 0 => h
  | i, j, h, k + 1 => by
    show g.getD (its g q (i + k)) 0 = g.getD (its g q (j + k)) 0
    rw [its_add h k]
/-- what comes back does so within as many steps as there are places -/
theorem its_first {g : List Nat} {q r : Nat} (w : ∀ z ∈ g, z < g.length) (hq : q < g.length) (h : its g q r = q) (r1 : 1 ≤ r) (no : ∀ j, 1 ≤ j → j < r → its g q j ≠ q) : r ≤ g.length := by
  by_cases c : r ≤ g.length
  · exact c
  · have nd : ((List.range r).map (its g q)).Nodup := by
      unfold List.Nodup
      rw [List.pairwise_map]
      refine List.Pairwise.imp_of_mem (fun {i j} hi hj ij e => ?_) List.pairwise_lt_range
      have hi := List.mem_range.mp hi
      have hj := List.mem_range.mp hj
      have k := its_add e (r - j)
      rw [show j + (r - j) = r by omega, h] at k
      exact no (i + (r - j)) (by omega) (by omega) k
    have q := few_nats g.length _ nd fun x hx => by
      obtain ⟨i, _, rfl⟩ := List.mem_map.mp hx
      exact its_lt w hq i
    rw [List.length_map, List.length_range] at q
    exact q
theorem turnedB_yes {g : List Nat} {q c : Nat} (w : ∀ z ∈ g, z < g.length) (hq : q < g.length) (h : its g q c = q) (c1 : 1 < c) (no : ∀ j, 1 ≤ j → j < c → its g q j ≠ q) : turnedB g q = true := by
  have l := its_first w hq h (by omega) no
  unfold turnedB comesB
  have n1 : g.getD q 0 ≠ q := no 1 (Nat.le_refl _) c1
  rw [decide_eq_true n1, Bool.true_and, List.any_eq_true]
  exact ⟨c - 1, List.mem_range.mpr (by omega), decide_eq_true (by rw [show c - 1 + 1 = c by omega]; exact h)⟩
theorem turnedB_one {g : List Nat} {q : Nat} (h : its g q 1 = q) : turnedB g q = false := by
  unfold turnedB
  have h : g.getD q 0 = q := h
  rw [decide_eq_false (fun z => z h)]
  rfl
theorem turnedB_no {g : List Nat} {q : Nat} (no : ∀ j, 1 ≤ j → j ≤ g.length → its g q j ≠ q) : turnedB g q = false := by
  unfold turnedB comesB
  have e : ((List.range g.length).any fun k => decide (its g q (k + 1) = q)) = false := by
    rw [List.any_eq_false]
    intro j hj
    rw [decide_eq_true_eq]
    exact no (j + 1) (by omega) (List.mem_range.mp hj)
  rw [e, Bool.and_false]
abbrev sActOf : Stmt := top 60
abbrev nGoes : List Str := ["action", "place", "now", "count"]
abbrev nActOf : List Str := ["table", "letters", "word", "start"]
theorem scActOf : FnScope nActOf ["table", "letters", "word"] (defScope sActOf) := ⟨rfl, rfl, rfl, by decide +kernel, rfl, by decide +kernel, by decide +kernel⟩
def spGoes (K : PySem.W.Frag) : Sp := fun vs H Q _ => ∃ (a : Addr) (g : List Nat) (q : Nat), vs = [.ref a, .int (q : Nat)] ∧ SqT K H a (nts g) ∧ (∀ z ∈ g, z < g.length) ∧ q < g.length ∧ Q (.bl (turnedB g q)) H
def spActOf (K : PySem.W.Frag) : Sp := fun vs H Q _ => ∃ (a : Addr) (x y : Str) (us : List V) (t : List (List Nat)) (m : Nat), vs = [.ref a, .str x, .str y] ∧ SqL K H a us ∧ Tups K H us t ∧ IsTab t t.length m ∧ IsSet x m ∧ m ≤ 2 ∧ IsW x y ∧ t.length ≤ 1000 ∧
  ∀ (p : Addr) (H' : Hp), H p = none → H' p = some (.tup (nts (act t x y.cps.toList))) → Same H H' → Q (.ref p) H'
def spIsT (K : PySem.W.Frag) : Sp := fun vs H Q _ => ∃ (a : Addr) (x y : Str) (us : List V) (t : List (List Nat)) (m q : Nat), vs = [.ref a, .str x, .str y, .int (q : Nat)] ∧ SqL K H a us ∧ Tups K H us t ∧ IsTab t t.length m ∧ IsSet x m ∧ m ≤ 2 ∧ IsW x y ∧ t.length ≤ 1000 ∧ q < t.length ∧
  ∀ H' : Hp, Same H H' → Q (.bl (turnedB (act t x y.cps.toList) q)) H'
section
variable {P : Program} {w : World} {K : PySem.W.Frag} {mg : Str → Option Value} {base : Heap}
theorem ok_actof {f g : Addr} {fd gd : FuncData} (F : Fun K "_law_action_of" "_law_action_of" sActOf f fd) (G : Fun K "_law_led" "_law_led" sLawLed g gd) (bG : Binds K gd ["table", "letters", "word", "start"] []) (mG : mg "_law_led" = some (.ref g)) (M : TxM mg) :
    FnOk P w K mg base CX0 2 f fd ["table", "letters", "word"] (spActOf K) := by
  have GL : FnOk P w K mg base CX0 1 g gd ["table", "letters", "word", "start"] (spLawLed K) := ok_lawled G
  refine F.ok scActOf (fun vs H Q E h => ?_) (fun cdv A outer s H vs Q E hr h => ?_)
  · obtain ⟨a, x, y, us, t, m, rfl, _⟩ := h
    rfl
  · obtain ⟨a, x, y, us, t, m, rfl, ha, hT, tb, hx, m2, hw, tl, k⟩ := h
    have lu : us.length = t.length := hT.1
    refine ⟨_, pss_one (ps_ret (pe_callTy call_tuple_of (by rfl) M.tuple (by decide +kernel) (pa_cons (pe_lc (own := [("start", 3)]) (g := gName 3) (tt := tYes) rfl scActOf.nd (pi_range1 rfl M.range (pa_cons (pe_callB call_len_seq (by rfl) M.len PySem.boot_len (pa_cons (pv 0) pa_nil)) pa_nil)) (blkOk_by (N := nActOf) (sc := defScope sActOf) (by decide +kernel)) (fun _ _ _ _ _ => pg_name (i := 3) scActOf.nd rfl (Or.inl rfl)) (fun _ _ _ _ _ => pts_nil)
      (fun _ _ _ _ _ => pe_call GL hr rfl mG G.kp bG .nil pass0 (pa_cons (pv 0) (pa_cons (pv 1) (pa_cons (pv 2) (pa_cons (pv 3) pa_nil)))))) pa_nil))), ?_⟩
    refine ⟨_, rfl, a, us, rfl, .inl ha, ?_⟩
    rw [lu]
    refine ⟨_, rfl, by omega, by omega, fun D nD => ?_⟩
    have sm : ∀ {H9 : Hp}, (∀ b' o, b' ≠ D → H b' = some o → H9 b' = some o) → Same H H9 := fun z b' o h => z b' o (fun q => by rw [q, nD] at h; cases h) h
    refine lc_range (lo := 0) (n := ((t.length : Nat) : Int).toNat) (fun j H9 => H9 D = some (.lst (nts ((List.range j).map fun q => goes t x q y.cps.toList))) ∧ ∀ b' o, b' ≠ D → H b' = some o → H9 b' = some o)
      ⟨upd_same, fun b' o hb' h => keep_new h nD⟩ ?_ ?_
    · rintro j H9 hj ⟨w1, w2⟩
      have hj : j < t.length := by omega
      refine ⟨rfl, tYes_if ?_⟩
      have s9 := sm w2
      refine ⟨_, rfl, _, rfl, _, rfl, _, rfl, a, x, y, j, t.length, m, t, us, by rw [show (0 : Int) + (j : Int) = ((j : Nat) : Int) by omega]; rfl, s9.seq ha, hT.same s9, tb, hx, m2, hw, hj, ?_⟩
      refine ⟨_, w1, ?_, ?_, fun b' o hb' h => by rw [upd_ne hb']; exact w2 b' o hb' h⟩
      · rw [nts_length, List.length_map, List.length_range]
        exact Nat.lt_of_lt_of_le hj (Nat.le_trans tl (by decide))
      · rw [upd_same, List.range_succ, List.map_append]
        unfold nts
        rw [List.map_append]
        rfl
    · rintro H9 ⟨w1, w2⟩
      have en : ((t.length : Nat) : Int).toNat = t.length := by omega
      rw [en] at w1
      refine ⟨D, _, rfl, .inl ⟨SqL.of w1, fun l nl => ?_⟩⟩
      have s9 := sm w2
      exact k l _ (free_of s9 nl) upd_same (Same.new s9 nl)
end
end M3

set_option Elab.async false
set_option linter.all false
set_option maxRecDepth 100000
set_option maxHeartbeats 8000000
/-! # check_machine, few_actions, settles -/
namespace M3
open PySem L2 NdefX
abbrev sCheckM : Stmt := top 37
abbrev sFew : Stmt := top 47
theorem scCheckM : FnScope ["value"] ["value"] (defScope sCheckM) := ⟨rfl, rfl, rfl, by decide +kernel, rfl, by decide +kernel, by decide +kernel⟩
theorem scFew : FnScope ["machine", "words"] ["machine"] (defScope sFew) := ⟨rfl, rfl, rfl, by decide +kernel, rfl, by decide +kernel, by decide +kernel⟩
def spCheckM (K : PySem.W.Frag) (C : Addr) : Sp := fun vs H Q _ => ∃ (p : Addr) (x : Str) (t : List (List Nat)) (es : List Nat), vs = [.ref p] ∧ Mach K C H p x t es ∧ Q .non H
/-- the dict of all actions, or TooMany -/
def spFew (K : PySem.W.Frag) (C cT : Addr) : Sp := fun vs H Q E => ∃ (p : Addr) (x : Str) (t : List (List Nat)) (es : List Nat) (m : Nat), vs = [.ref p] ∧ Mach K C H p x t es ∧ Right x t es m ∧
  (∀ (D : Addr) (kW : List (List Key × V)) (Fs : List (List Nat)) (H' : Hp), H' D = some (.dT kW) → WordsA t x kW Fs → kW.length ≤ 60 → Fs.Nodup → (∀ r ∈ Fs, (∀ z ∈ r, z < t.length) ∧ r.length = t.length) → Same H H' → Q (.ref D) H') ∧
  (∀ (kW : List (List Key × V)) (Fs : List (List Nat)) (d : Addr) (H' : Hp), WordsA t x kW Fs → 60 < kW.length → Fs.Nodup → (∀ r ∈ Fs, (∀ z ∈ r, z < t.length) ∧ r.length = t.length) → Same H H' → E (.ref cT) (some d) H')
/-- from where on the powers of the word's action come again, and after how many -/
def spSettles (K : PySem.W.Frag) (T : List NTab) (C cT : Addr) : Sp := fun vs H Q E => ∃ (p : Addr) (x y : Str) (t : List (List Nat)) (es : List Nat) (m i0 j0 : Nat), vs = [.ref p, .str y] ∧ Mach K C H p x t es ∧ Right x t es m ∧ IsW x y ∧ TabsN T H ∧ y.length ≤ 1000 ∧ i0 < j0 ∧ j0 ≤ 100000 ∧ pw (act t x y.cps.toList) i0 = pw (act t x y.cps.toList) j0 ∧
  (∀ (q : Addr) (n b : Nat) (H' : Hp), H' q = some (.tup [.int (b : Nat), .int ((n - b : Nat) : Int)]) → b < n → n ≤ 100000 → Apart (act t x y.cps.toList) n → pw (act t x y.cps.toList) n = pw (act t x y.cps.toList) b → Ext T H H' → Q (.ref q) H') ∧
  (∀ (kW : List (List Key × V)) (Fs : List (List Nat)) (d : Addr) (H' : Hp), WordsA t x kW Fs → 60 < kW.length → Fs.Nodup → (∀ r ∈ Fs, (∀ z ∈ r, z < t.length) ∧ r.length = t.length) → Ext T H H' → E (.ref cT) (some d) H')
section
variable {P : Program} {w : World} {K : PySem.W.Frag} {mg : Str → Option Value} {base : Heap} {C : Addr}
theorem ok_checkm {f cM : Addr} {fd : FuncData} (F : Fun K "check_machine" "check_machine" sCheckM f fd) (W : TxW mg) (TK : TxK K mg C) (TO : TxO K C) (mC : mg "Machine" = some (.ref C)) (TM : TxR K mg "InvalidMachine" cM) : FnOk P w K mg base CX0 1 f fd ["value"] (spCheckM K C) := by
  refine F.ok scCheckM (fun vs H Q E h => ?_) (fun cdv A outer s H vs Q E hr h => ?_)
  · obtain ⟨p, x, t, es, rfl, _⟩ := h
    rfl
  · obtain ⟨p, x, t, es, rfl, M, k⟩ := h
    refine ⟨_, pss_one (ps_if (pt_not (pt_val (pe_callB call_isi (by rfl) W.isi (by decide +kernel) (pa_cons (pv 0) (pa_cons (pe_glob (v := .ref C) rfl mC rfl) pa_nil))))) (pss_one (ps_raise rfl takes0 (pmk_own PySem.F.excBase_ValueError TM.x TM.g TM.k (raises_own TM.b TM.t) rfl))) pss_nil), ?_⟩
    obtain ⟨dx, a, b, us, i1, i2, i3, i4⟩ := id M
    exact ⟨_, rfl, .ref p, .ref C, .ref C, .ref C, true, rfl, .own C, .base (.ins i1 TK.cl TO.ha TO.hn TO.tk TO.hm), TO.kc, _, rfl, iteF k⟩
theorem ok_few {f cT : Addr} {fd : FuncData} (F : Fun K "few_actions" "few_actions" sFew f fd) (cW : FnC P w K mg base 2 "action_words" ["table", "letters", "most"] (spActWords K))
    (pL : PrC P w K mg base C 1 "letters" (spPropL K C)) (pT : PrC P w K mg base C 1 "table" (spPropT K C)) (TK : TxK K mg C) (M : TxM mg) (TT : TxA P K mg "TooMany" "limit" cT) (hM : ∃ t, mg "MAX_ACTIONS" = some (.int 60 t)) :
    FnOk P w K mg base (L2.CX P w) 3 f fd ["machine"] (spFew K C cT) := by
  obtain ⟨tm, hm⟩ := hM
  refine F.okX scFew (fun vs H Q E h => ?_) (fun cdv A outer s H vs Q E hr h => ?_)
  · obtain ⟨p, x, t, es, m, rfl, _⟩ := h
    rfl
  · obtain ⟨p, x, t, es, m, rfl, Ma, R, k1, k2⟩ := h
    have tk := takes_of (X := cxOf (L2.CX P w) P w K mg base ["machine", "words"] "few_actions" (defScope sFew) f cdv A outer s H E) (E := E) rfl rfl rfl rfl
    refine ⟨_, pss_cons (ps_set (i := 1) scFew.nd rfl (Or.inl rfl) (pe_call cW.G hr rfl cW.m cW.kp cW.b .nil pass0 (pa_cons (pe_prop (pv 0) TK.cl pT.hp pT.G hr pT.b .nil pass0 rfl) (pa_cons (pe_prop (pv 0) TK.cl pL.hp pL.G hr pL.b .nil pass0 rfl) (pa_cons (pe_glob (v := .int 60) rfl hm ⟨_, rfl⟩) pa_nil)))))
      (pss_cons (ps_if (pt_cmpR op_gt (pe_callB call_len_dT (by rfl) M.len PySem.boot_len (pa_cons (pv 1) pa_nil)) (pe_glob (v := .int 60) rfl hm ⟨_, rfl⟩) (nomark _)) (pss_one (ps_raise rfl tk (pmk_keep (TT.keeps rfl rfl rfl) hr (pa_cons (pe_glob (v := .int 60) rfl hm ⟨_, rfl⟩) pa_nil)))) pss_nil)
      (pss_one (ps_ret (pv 1)))), ?_⟩
    obtain ⟨dx, a, b, us, i1, i2, i3, i4⟩ := id Ma
    refine ⟨_, rfl, p, dx, _, rfl, i1, p, x, t, es, rfl, Ma, fun a2 us2 q1 q2 => ⟨_, rfl, p, dx, _, rfl, i1, p, x, t, es, rfl, Ma, a2, x, us2, t, m, 60, rfl, q1, q2, R.tb, R.st, R.m2, (by have := R.t4; omega), by decide, fun D kW Fs H' hD WA lk nd wf s1 => ?_⟩⟩
    refine ⟨_, rfl, D, kW, rfl, hD, _, _, rfl, rfl, _, rfl, ?_⟩
    refine ite2 (fun h1 => ?_) (fun h1 => ?_)
    · have h1 := of_decide_eq_true h1
      exact ⟨_, rfl, fun d hd => k2 kW Fs d _ WA (by omega) nd wf (Same.new s1 hd)⟩
    · have h1 : ¬ (60 < (kW.length : Int)) := fun z => h1 (decide_eq_true z)
      exact ⟨_, rfl, k1 D kW Fs H' hD WA (by omega) nd wf s1⟩
end
end M3

set_option Elab.async false
set_option linter.all false
set_option maxRecDepth 100000
set_option maxHeartbeats 4000000
/-! # tuple(d), d a dict -/
namespace NvTD
open PySem PySem.Spec PyProof.Rows PySem.W L2
section
variable {prog : Program} {w : World} {A : Around} {E : Value → Shared → Prop} {s : Shared} {T : String} {r d : Addr} {n : Nat} {P : Nat → Value → Prop} {OK : Heap → Prop}
theorem collect_src {Q : List Value → Shared → Prop} (K : KdlSrc prog w T r d n P OK) (hh : A.handled = none) (hok : OK s.heap) (hn : n ≤ sizeLine)
    (hQ : ∀ (h' : Heap) (tk : Nat) (acc : Array Value), (∀ b o, s.heap.get? b = some o → h'.get? b = some o) → ItemsOf P acc n → Q acc.toList { s with heap := h', toks := tk }) :
    wpAny (model prog w) A (collect (.ref r)) Q E s := by
  unfold collect
  refine wpAny_bind (wpAny_runValue (codeAny_builtin F.entry_proto_collect ?_))
  rw [Around.under_plainId F.plain_proto_collect _]
  show wpAny _ A.in1 (newList [] >>= fun l => again (.builtin "list.__iadd__" ⟨[l, .ref r], []⟩)) _ _ s
  refine wpAny_bind (wpAny_newObj_type ?_)
  refine wpAny_pure ⟨plainId_quiet F.plain_list_iadd _, codeAny_builtin F.entry_list_iadd ?_⟩
  rw [Around.under_plainId F.plain_list_iadd _]
  show wpAny _ A.in1 (Builtin.List.listExtendWith (.ref s.heap.objs.size) (.ref r) (.ref s.heap.objs.size)) _ _ _
  have hS : (s.heap.push { cls := .type "list", data := .seq ([] : List Value).toArray }).get? s.heap.objs.size = some { cls := .type "list", data := .seq #[] 0 } := Heap.get?_push_size _ rfl
  have hlt := K.there _ hok
  have hok2 : OK (s.heap.push { cls := .type "list", data := .seq ([] : List Value).toArray }) := K.keep _ _ hok fun b _ o e => Heap.get?_push_of_some _ e
  refine wpAny_mono (kdl_extend (A := A) (R := fun rr s' => rr = .ok (.ret (.ref s.heap.objs.size)) ∧ ∃ (h' : Heap) (tk : Nat) (acc : Array Value) (c' : Nat), s' = { s with heap := h', toks := tk } ∧
      (∀ b o, s.heap.get? b = some o → h'.get? b = some o) ∧ h'.get? s.heap.objs.size = some { cls := .type "list", dict := none, data := .seq acc c', slots := #[] } ∧ ItemsOf P acc n)
    (s := { s with heap := s.heap.push { cls := .type "list", data := .seq ([] : List Value).toArray } }) K hh hok2 s.heap.objs.size (Nat.ne_of_gt hlt.1) (Nat.ne_of_gt hlt.2) (.ref s.heap.objs.size) 0 hS
    (fun h' tk acc c' hk e hi => ⟨rfl, h', tk, acc, c', rfl, fun b o q => hk b o (Nat.ne_of_lt (Heap.lt_size q)) (Heap.get?_push_of_some _ q), e, hi⟩) hn) (fun fin s' h => ?_) (fun e s' h => ?_)
  · cases fin with
    | done f =>
      obtain ⟨e, h', tk, acc, c', rfl, hk, hS', hi⟩ := h
      cases e
      show wpAny _ A (load s.heap.objs.size >>= _) _ _ _
      exact wpAny_bind (wpAny_load hS' (wpAny_pure (hQ h' tk acc hk hi)))
    | again c' =>
      refine ⟨h.1, codeAny_mono h.2 fun rr s'' hr' => ?_⟩
      obtain ⟨rfl, h', tk, acc, c', rfl, hk, hS', hi⟩ := hr'
      show wpAny _ A (load s.heap.objs.size >>= _) _ _ _
      exact wpAny_bind (wpAny_load hS' (wpAny_pure (hQ h' tk acc hk hi)))
  · exact absurd h.1 (by simp)
theorem code_tuple_new_dict {Q₁ : Value → Shared → Prop} (K : KdlSrc prog w "dict" r d n P OK) (hh : A.handled = none) (hok : OK s.heap) (hn : n ≤ sizeLine)
    (h : ∀ (h' : Heap) (tk : Nat) (acc : Array Value), (∀ b o, s.heap.get? b = some o → h'.get? b = some o) → ItemsOf P acc n →
      Q₁ (.ref h'.objs.size) { s with heap := h'.push { cls := .type "tuple", data := .seq acc }, toks := tk }) :
    codeAny (model prog w) A (.call (.builtin "tuple.__new__") ⟨[.type "tuple", .ref r], []⟩) (wants Q₁ E) s := by
  refine codeAny_of_tree ?_
  show wpAny _ A.in1 (do checkBuiltinCall "tuple.__new__" ⟨[.type "tuple", .ref r], []⟩; again (.builtin "tuple.__new__" ⟨[.type "tuple", .ref r], []⟩)) _ _ s
  refine wpAny_bind (wpAny_of_eq (F.newCall_tuple_1 _) (wpAny_pure ⟨plainId_quiet F.plain_tuple_new _, codeAny_builtin F.entry_tuple_new ?_⟩))
  rw [Around.under_plainId F.plain_tuple_new _]
  have hsub := sub_tuple_self
  have hinit := init_tuple_lookup
  have hmh := madeHere_tuple
  have hTI : s.TypeIs (.ref r) "dict" := K.type s hok
  have hh1 : A.in1.handled = none := hh
  wp_walk using wpAny_typeOf hTI, collect_src (A := A.in1) K hh1 hok hn
  intro h' tk acc hk hacc
  show wpAny _ _ (Builtin.Tuple.tupleExact acc.toList.toArray >>= fun v => ret v) _ _ _
  unfold Builtin.Tuple.tupleExact
  refine wpAny_bind (wpAny_newObj_type ?_ (by show acc.toList.toArray.size ≤ sizeLine; simp only [Array.toArray_toList]; rw [hacc.1]; exact hn))
  refine wpAny_pure ?_
  have e : acc.toList.toArray = acc := by simp
  rw [e]
  exact h h' tk acc hk hacc
theorem call_tuple_src {Q : Value → Shared → Prop} (K : KdlSrc prog w "dict" r d n P OK) (hh : A.handled = none) (hok : OK s.heap) (hn : n ≤ sizeLine)
    (hQ : ∀ (h' : Heap) (tk : Nat) (acc : Array Value), (∀ b o, s.heap.get? b = some o → h'.get? b = some o) → ItemsOf P acc n →
      Q (.ref h'.objs.size) { s with heap := h'.push { cls := .type "tuple", data := .seq acc }, toks := tk }) :
    wpAny (model prog w) A (call (.type "tuple") [.ref r]) Q E s := by
  refine callType_codes (Q₁ := fun obj s₁ => s₁.TypeIs obj "tuple" ∧ Q obj s₁) F.called_tuple (F.typeCall_tuple_1 _) F.entry_object_init
    (code_tuple_new_dict (A := A.in1) K hh hok hn fun h' tk acc hk hacc => ⟨⟨_, Heap.get?_push_size _ rfl, rfl⟩, hQ h' tk acc hk hacc⟩) fun obj s₁ h₁ => ?_
  exact ⟨h₁.1, F.args_object_init_2 obj _, object_init_meets F.called_tuple.init.lookup F.called_tuple.made (by decide) prog w A.in1 _ s₁ ⟨h₁.1, rfl, h₁.2⟩⟩
end
section
variable {X : Cx}
theorem call_tuple_dT (hc : X.calm = true) : CallR X (.type "tuple") (fun xs H Q => ∃ d kvs, xs = [V.ref d] ∧ Rd H d (.dT kvs) ∧ ∀ p bs, H p = none → IsKeys H kvs bs → Q (.ref p) (upd H p (.tup (bs.map V.ref)))) := by
  intro pins s σ H xs us Q I r h
  obtain ⟨d, kvs, rfl, hd, q⟩ := h
  obtain ⟨u, rfl, rx⟩ := vals1 r
  cases rx
  obtain ⟨z, hs, ks, pr, o, es, ep, ho, hx, hdt, he, hn⟩ := (show ObjOk X.prog X.w H s.heap d (.dT kvs) from hd.ok I.hok)
  have l1 : es.size = ks.length := size_of_entries he
  have l2 : kvs.length = ks.length := Paired.length pr
  refine call_tuple_src (kdl_raw hs hx hdt) (I.ok.hd hc) ho (by omega) fun h' tk acc' kp it => ?_
  have ea : acc'.toList = ks.map fun x => Value.ref x.2.1 := by
    have hl : acc'.toList.length = ks.length := by rw [Array.length_toList, it.1]; exact l1
    apply List.ext_getElem?
    intro j
    rw [List.getElem?_map]
    cases hj : acc'.toList[j]? with
    | none =>
      have h1 := List.getElem?_eq_none_iff.mp hj
      rw [List.getElem?_eq_none (by omega)]
      all_goals rfl
    | some v =>
      obtain ⟨en, hen, hv⟩ := it.2 j v (by rw [← Array.getElem?_toList]; exact hj)
      have qe := entry_at he j
      rw [hen] at qe
      cases hb : ks[j]? with
      | none =>
        rw [hb] at qe
        exact nomatch (show some en = none from qe)
      | some b =>
        rw [hb] at qe
        have e2 : en = entryOfKey (tupleKind (mixKind X.prog X.w)) b := Option.some.inj qe
        rw [hv, e2]
        all_goals rfl
  have eb : acc'.toList = (ks.map fun x => x.2.1).map Value.ref := by rw [ea, List.map_map]; all_goals rfl
  have rv : Vals ((ks.map fun x => x.2.1).map V.ref) acc'.toList := by rw [eb]; exact vals_refs _
  have hz : ((ks.map fun x => x.2.1).map V.ref).length ≤ sizeLine := by rw [List.length_map, List.length_map]; omega
  have I2 : Inv X pins σ H { s with heap := h', toks := tk } := I.kept kp
  refine ⟨.ref h'.objs.size, _, I2.laid (t' := tk) (o := .tup ((ks.map fun x => x.2.1).map V.ref)) (fun c o e => Heap.get?_push_of_some _ e) (Nat.le_refl _) ?_, rfl, q _ _ (I2.hok.fresh (Nat.le_refl _)) (isKeys_of pr)⟩
  refine ⟨hz, acc'.toList, rv, ?_⟩
  rw [Array.toArray_toList]
  exact IsTup.new _ _
end
end NvTD

set_option Elab.async false
set_option linter.all false
set_option maxRecDepth 100000
set_option maxHeartbeats 8000000
/-! # A method that is asked by an operator or a built-in, or without defaults -/
namespace M3
open PySem L2
structure OpC (P : Program) (w : World) (K : PySem.W.Frag) (mg : Str → Option Value) (base : Heap) (C : Addr) (k : Nat) (x : Str) (ps : List Str) (sp : Sp) where
  f : Addr
  fd : FuncData
  G : FnOk P w K mg base CX0 k f fd ps sp
  b : Binds K fd ps []
  m : Meth K C x f
end M3

set_option Elab.async false
set_option linter.all false
set_option maxRecDepth 100000
set_option maxHeartbeats 8000000
/-! # few_actions with its limit, actions, word_of -/
namespace M3
open PySem L2 NdefX
abbrev sActs : Stmt := top 45
abbrev sWordOf : Stmt := top 46
theorem scActs : FnScope ["machine"] ["machine"] (defScope sActs) := ⟨rfl, rfl, rfl, by decide +kernel, rfl, by decide +kernel, by decide +kernel⟩
theorem scWordOf : FnScope ["machine", "action"] ["machine", "action"] (defScope sWordOf) := ⟨rfl, rfl, rfl, by decide +kernel, rfl, by decide +kernel, by decide +kernel⟩
/-- the dict of all actions, or TooMany(60) -/
def spFewL (K : PySem.W.Frag) (C cT : Addr) : Sp := fun vs H Q E => ∃ (p : Addr) (x : Str) (t : List (List Nat)) (es : List Nat) (m : Nat), vs = [.ref p] ∧ Mach K C H p x t es ∧ Right x t es m ∧
  ((bfs t x 60).length ≤ 60 → ∀ (D : Addr) (H' : Hp), H' D = some (.dT (ents (bfs t x 60))) → Same H H' → Q (.ref D) H') ∧
  (60 < (bfs t x 60).length → ∀ (d : Addr) (H' : Hp), H' d = some (.xd [("limit", .int 60)]) → Same H H' → E (.ref cT) (some d) H')
def spActs (K : PySem.W.Frag) (C cT : Addr) : Sp := fun vs H Q E => ∃ (p : Addr) (x : Str) (t : List (List Nat)) (es : List Nat) (m : Nat), vs = [.ref p] ∧ Mach K C H p x t es ∧ Right x t es m ∧
  ((bfs t x 60).length ≤ 60 → ∀ (l : Addr) (us : List V) (H' : Hp), H' l = some (.tup us) → RowsA H' us ((bfs t x 60).map Prod.fst) → Same H H' → Q (.ref l) H') ∧
  (60 < (bfs t x 60).length → ∀ (d : Addr) (H' : Hp), H' d = some (.xd [("limit", .int 60)]) → Same H H' → E (.ref cT) (some d) H')
def spWordOf (K : PySem.W.Frag) (C cT : Addr) : Sp := fun vs H Q E => ∃ (p a : Addr) (x : Str) (t : List (List Nat)) (es : List Nat) (m : Nat) (g : List Nat), vs = [.ref p, .ref a] ∧ Mach K C H p x t es ∧ Right x t es m ∧ H a = some (.tup (nts g)) ∧ g.length = t.length ∧ (∀ z ∈ g, z < t.length) ∧
  ((bfs t x 60).length ≤ 60 → ∀ H' : Hp, Same H H' → Q ((valV (ents (bfs t x 60)) (key g)).getD .non) H') ∧
  (60 < (bfs t x 60).length → ∀ (d : Addr) (H' : Hp), H' d = some (.xd [("limit", .int 60)]) → Same H H' → E (.ref cT) (some d) H')
theorem key_kV (r : List Nat) : (key r).map kV = nts r := by
  unfold key nts
  rw [List.map_map]
  rfl
theorem rows_keys {H : Hp} : ∀ {F : List (List Nat × Str)} {bs : List Addr}, IsKeys H (ents F) bs → RowsA H (bs.map V.ref) (F.map Prod.fst)
  | [], bs, h => by
    have h : Paired (fun (p : List Key × V) b => H b = some (.tup (p.1.map kV))) [] bs := h
    cases h
    exact ⟨rfl, fun i r e => by cases e⟩
  | z :: F, bs, h => by
    have h : Paired (fun (p : List Key × V) b => H b = some (.tup (p.1.map kV))) ((key z.1, V.str z.2) :: ents F) bs := h
    cases h with
    | cons h1 h2 =>
      obtain ⟨a, b⟩ := rows_keys (F := F) h2
      refine ⟨by rw [List.map_cons, List.map_cons, List.length_cons, List.length_cons, a], fun i r e => ?_⟩
      match i, e with
      | 0, e =>
        cases e
        refine ⟨_, rfl, ?_⟩
        have h1 := h1
        rw [key_kV] at h1
        exact h1
      | i + 1, e => exact b i r e
section
variable {P : Program} {w : World} {K : PySem.W.Frag} {mg : Str → Option Value} {base : Heap} {C cT cO : Addr}
theorem ok_fewL {f : Addr} {fd : FuncData} (F : Fun K "few_actions" "few_actions" sFew f fd) (cW : FnC P w K mg base 2 "action_words" ["table", "letters", "most"] (spActWordsE K))
    (pL : PrC P w K mg base C 1 "letters" (spPropL K C)) (pT : PrC P w K mg base C 1 "table" (spPropT K C)) (TK : TxK K mg C) (M : TxM mg) (TT : TxA P K mg "TooMany" "limit" cT) (hM : ∃ t, mg "MAX_ACTIONS" = some (.int 60 t)) :
    FnOk P w K mg base (L2.CX P w) 3 f fd ["machine"] (spFewL K C cT) := by
  obtain ⟨tm, hm⟩ := hM
  refine F.okX scFew (fun vs H Q E h => ?_) (fun cdv A outer s H vs Q E hr h => ?_)
  · obtain ⟨p, x, t, es, m, rfl, _⟩ := h
    rfl
  · obtain ⟨p, x, t, es, m, rfl, Ma, R, k1, k2⟩ := h
    have tk := takes_of (X := cxOf (L2.CX P w) P w K mg base ["machine", "words"] "few_actions" (defScope sFew) f cdv A outer s H E) (E := E) rfl rfl rfl rfl
    refine ⟨_, pss_cons (ps_set (i := 1) scFew.nd rfl (Or.inl rfl) (pe_call cW.G hr rfl cW.m cW.kp cW.b .nil pass0 (pa_cons (pe_prop (pv 0) TK.cl pT.hp pT.G hr pT.b .nil pass0 rfl) (pa_cons (pe_prop (pv 0) TK.cl pL.hp pL.G hr pL.b .nil pass0 rfl) (pa_cons (pe_glob (v := .int 60) rfl hm ⟨_, rfl⟩) pa_nil)))))
      (pss_cons (ps_if (pt_cmpR op_gt (pe_callB call_len_dT (by rfl) M.len PySem.boot_len (pa_cons (pv 1) pa_nil)) (pe_glob (v := .int 60) rfl hm ⟨_, rfl⟩) (nomark _)) (pss_one (ps_raise rfl tk (pmk_keep (TT.keeps rfl rfl rfl) hr (pa_cons (pe_glob (v := .int 60) rfl hm ⟨_, rfl⟩) pa_nil)))) pss_nil)
      (pss_one (ps_ret (pv 1)))), ?_⟩
    obtain ⟨dx, a, b, us, i1, i2, i3, i4⟩ := id Ma
    refine ⟨_, rfl, p, dx, _, rfl, i1, p, x, t, es, rfl, Ma, fun a2 us2 q1 q2 => ⟨_, rfl, p, dx, _, rfl, i1, p, x, t, es, rfl, Ma, a2, x, us2, t, m, 60, rfl, q1, q2, R.tb, R.st, R.m2, (by have := R.t4; omega), by decide, fun D H' hD s1 => ?_⟩⟩
    refine ⟨_, rfl, D, _, rfl, hD, _, _, rfl, rfl, _, rfl, ?_⟩
    have le : (ents (bfs t x 60)).length = (bfs t x 60).length := by
      unfold ents
      rw [List.length_map]
    rw [le]
    refine ite2 (fun h1 => ?_) (fun h1 => ?_)
    · have h1 := of_decide_eq_true h1
      exact ⟨_, rfl, fun d hd => k2 (by omega) d _ upd_same (Same.new s1 hd)⟩
    · have h1 : ¬ (60 < ((bfs t x 60).length : Int)) := fun z => h1 (decide_eq_true z)
      exact ⟨_, rfl, k1 (by omega) D H' hD s1⟩
theorem ok_acts {f : Addr} {fd : FuncData} (F : Fun K "actions" "actions" sActs f fd) (cM : FnC P w K mg base 1 "check_machine" ["value"] (spCheckM K C)) (cF : FnX P w K mg base 3 "few_actions" ["machine"] (spFewL K C cT)) (M : TxM mg) :
    FnOk P w K mg base (L2.CX P w) 4 f fd ["machine"] (spActs K C cT) := by
  refine F.okX scActs (fun vs H Q E h => ?_) (fun cdv A outer s H vs Q E hr h => ?_)
  · obtain ⟨p, x, t, es, m, rfl, _⟩ := h
    rfl
  · obtain ⟨p, x, t, es, m, rfl, Ma, R, k1, k2⟩ := h
    have hr1 : Room 1 _ := hr.mono (by decide)
    have tk := takes_of (X := cxOf (L2.CX P w) P w K mg base ["machine"] "actions" (defScope sActs) f cdv A outer s H E) (E := E) rfl rfl rfl rfl
    refine ⟨_, pss_cons (ps_expr (pe_call cM.G hr1 rfl cM.m cM.kp cM.b .nil pass0 (pa_cons (pv 0) pa_nil)))
      (pss_one (ps_ret (pe_callTy call_tuple_of (by rfl) M.tuple (by decide +kernel) (pa_cons (pe_callTy (call_list_dT rfl) (by rfl) M.list (by decide +kernel) (pa_cons (pe_callS cF.G hr rfl cF.m cF.kp cF.b (fun σ => passAt tk σ) (pa_cons (pv 0) pa_nil)) pa_nil)) pa_nil)))), ?_⟩
    refine ⟨_, rfl, p, x, t, es, rfl, Ma, ?_⟩
    refine ⟨_, rfl, p, x, t, es, m, rfl, Ma, R, fun few D H1 hD s1 => ?_, fun many d H1 hd s1 => k2 many d H1 hd s1⟩
    refine ⟨D, _, rfl, .inl hD, fun l bs nl kb => ?_⟩
    refine ⟨l, bs.map V.ref, rfl, .inl ⟨SqL.of upd_same, fun q nq => ?_⟩⟩
    have s2 : Same H1 (upd (upd H1 l (.lst (bs.map V.ref))) q (.tup (bs.map V.ref))) := Same.new (Same.new (Same.refl H1) nl) nq
    exact k1 few q _ _ upd_same ((rows_keys kb).to fun b ys h => s2 _ _ h) (s1.trans s2)
theorem ok_wordof {f : Addr} {fd : FuncData} (F : Fun K "word_of" "word_of" sWordOf f fd) (cM : FnC P w K mg base 1 "check_machine" ["value"] (spCheckM K C)) (cF : FnX P w K mg base 3 "few_actions" ["machine"] (spFewL K C cT))
    (cL : FnC P w K mg base 2 "is_line" ["value", "width", "size"] (spIsLine K)) (oL : OpC P w K mg base C 1 "__len__" ["self"] (spLen K C)) (TK : TxK K mg C) (TO : TxR K mg "InvalidOperation" cO) (M : TxM mg) :
    FnOk P w K mg base (L2.CX P w) 4 f fd ["machine", "action"] (spWordOf K C cT) := by
  refine F.okX scWordOf (fun vs H Q E h => ?_) (fun cdv A outer s H vs Q E hr h => ?_)
  · obtain ⟨p, a, x, t, es, m, g, rfl, _⟩ := h
    rfl
  · obtain ⟨p, a, x, t, es, m, g, rfl, Ma, R, ha, gl, glt, k1, k2⟩ := h
    have hu := hu_of hr
    have hr2 : Room 2 _ := hr.mono (by decide)
    have hr1 : Room 1 _ := hr.mono (by decide)
    have tk := takes_of (X := cxOf (L2.CX P w) P w K mg base ["machine", "action"] "word_of" (defScope sWordOf) f cdv A outer s H E) (E := E) rfl rfl rfl rfl
    refine ⟨_, pss_cons (ps_expr (pe_call cM.G hr1 rfl cM.m cM.kp cM.b .nil pass0 (pa_cons (pv 0) pa_nil)))
      (pss_cons (ps_if (pt_not (pt_val (pe_call cL.G hr2 rfl cL.m cL.kp cL.b .nil pass0 (pa_cons (pv 1) (pa_cons (pe_callB (NvO.call_lenO oL.G hr2 oL.b pass0 oL.m.at_ oL.m.fn) (by rfl) M.len PySem.boot_len (pa_cons (pv 0) pa_nil)) (pa_cons (pe_callB (NvO.call_lenO oL.G hr2 oL.b pass0 oL.m.at_ oL.m.fn) (by rfl) M.len PySem.boot_len (pa_cons (pv 0) pa_nil)) pa_nil))))))
        (pss_one (ps_raise rfl tk (pmk_own PySem.F.excBase_ValueError TO.x TO.g TO.k (raises_own TO.b TO.t) rfl))) pss_nil)
      (pss_one (ps_ret (pe_dget1 hu (pe_callS cF.G hr rfl cF.m cF.kp cF.b (fun σ => passAt tk σ) (pa_cons (pv 0) pa_nil)) (pv 1) ⟨rfl, rfl, rfl, rfl⟩)))), ?_⟩
    obtain ⟨dx, a1, b1, us, i1, i2, i3, i4⟩ := id Ma
    have t4 := R.t4
    refine ⟨_, rfl, p, x, t, es, rfl, Ma, ?_⟩
    refine ⟨_, rfl, _, rfl, p, dx, _, rfl, i1, p, x, t, es, rfl, Ma, ((t.length : Nat) : Int), rfl, by omega, by omega, _, rfl, p, dx, _, rfl, i1, p, x, t, es, rfl, Ma, ((t.length : Nat) : Int), rfl, by omega, by omega, ?_⟩
    refine ⟨a, g.map Int.ofNat, _, _, rfl, by rw [← nts_eq']; exact SqT.of ha, by rw [List.length_map]; omega, fun H1 s1 => ⟨_, rfl, ?_⟩⟩
    have e : (decide (((g.map Int.ofNat).length : Int) = ((t.length : Nat) : Int)) && (g.map Int.ofNat).all (inside ((t.length : Nat) : Int))) = true := by
      rw [List.length_map, gl, decide_eq_true rfl, Bool.true_and, List.all_eq_true]
      intro i hi
      obtain ⟨j, hj, rfl⟩ := List.mem_map.mp hi
      exact inside_nat (glt j hj)
    rw [e]
    refine iteF ?_
    refine ⟨_, rfl, p, x, t, es, m, rfl, Ma.same s1, R, fun few D H2 hD s2 => ?_, fun many d H2 hd s2 => k2 many d H2 hd (s1.trans s2)⟩
    refine ⟨D, rfl, .inr ⟨_, .inl hD⟩, _, rfl, _, DGet.t (k := key g) hD (by rw [key_tup]; exact s2 _ _ (s1 _ _ ha)), ?_⟩
    exact k1 few H2 (s1.trans s2)
end
end M3

set_option Elab.async false
set_option linter.all false
set_option maxRecDepth 100000
set_option maxHeartbeats 4000000
/-! # A lambda without parameters, handed to a def that calls it and may catch what it raises -/
namespace NvK
open PySem PySem.Spec PyProof.Rows L2 LamX NdefX
section
variable {X : Cx} {CX : CXT} {i j k : Nat} {x : Str} {f : Addr} {F : LF} {sp : Sp} {E : L2.St → XK} {p pos : Pos}
/-- f(), f a name that holds the lambda F; what it raises is told of the state at the call -/
theorem pe_given0 (G : Given X.prog X.w X.K X.mg X.base CX k X.outer X.s_0 X.H_0 f F sp) (hr : Room j X.A) (hk : k ≤ j) (hx : ∀ σ, PassesAt CX X σ (E σ)) (hex : X.ex = []) (hN : X.N[i]? = some x) (hv : Vis X.env.scope x)
    (hd : (x == ("__debug__" : Str)) = false := by decide) (hcd : (x == ("__classdict__" : Str)) = false := by decide) :
    PE X (.Call (.Name x p) [] [] pos) (fun σ H Q => σ[i]? = some (some (.ref f)) ∧ H f = some (LamO f F) ∧ H F.c = some (CodeO F.c F.qual) ∧ sp [] H Q (E σ)) := by
  refine ⟨fun pins s σ H Q I ⟨hs, hf, hc, q⟩ => ?_⟩
  refine wpAny_Call_Name_kw (thn ((pe_var (pos := p) hN hv hd hcd).run pins s σ H (fun v H1 => v = .ref f ∧ H1 = H) I ⟨.ref f, hs, rfl, rfl⟩) fun u s1 ⟨v, H1, I1, r1, q1⟩ => ?_)
  obtain ⟨rfl, rfl⟩ := q1
  obtain rfl : u = Value.ref f := r1
  refine PySem.W.callWith_F0 (lamAt_of I1 hf) ?_
  have un : Un (frs X.outer) [] X.H_0 H1 X.s_0.heap s1.heap := by
    have z := I1.base
    rwa [hex] at z
  refine wpAny_call (codeAny_mono (G.run X.A X.stack s1 H1 [] [] Q (E σ) (hr.mono hk) I1.env0 un hf hc .nil q) fun r s' hq => ?_)
  match r, hq with
  | .error e, hq => exact hx σ pins H1 s1 e s' I1 hq
  | .ok (.ret u), hq => exact I1.after hq
end
/-- a def of the top that gets one function value and calls it; TT: what it makes of what the value promises -/
structure Teller (P : Program) (w : World) (K : PySem.W.Frag) (mg : Str → Option Value) (base : Heap) (x : Str) (TT : (XK → Hp → VK → Prop) → Hp → VK → Prop) where
  g : Addr
  m : mg x = some (.ref g)
  kp : PySem.W.keepIn K (.ref g) = true
  run : ∀ (k : Nat) (A : Around) (outer : List Env) (s : Shared) (H : Hp) (f : Addr) (F : LF) (sp : Sp) (Q : VK), Room (k + 2) A → Env0 P w K mg base A outer s H → Given P w K mg base (L2.CX P w) (k + 1) outer s H f F sp → H f = some (LamO f F) → H F.c = some (CodeO F.c F.qual) →
    TT (fun E H' Q' => sp [] H' Q' E) H Q → codeAny (model P w) A (.call (.ref g) ⟨[.ref f], []⟩) (CR C8.CX0 outer P w H s Q C8.E0) s
/-- the reading of x(lambda: body): N the names that the lambda has captured, js their slots -/
def tTell (T : List NTab) (N : List Str) (js : List Nat) (TT : (XK → Hp → VK → Prop) → Hp → VK → Prop) (t : XK → TE) : TE := fun σ H Q => TabsN T H ∧ ∀ H1, M3.Ext T H H1 → TT (fun E H' Q' => t E (startF N [] (js.map (slotAt σ))) H' Q') H1 Q
section
variable {X : Cx} {TT : (XK → Hp → VK → Prop) → Hp → VK → Prop}
theorem pe_tell {T : List NTab} {nm : Nat → Nat → Str} {x : Str} {c P : Addr} {k : Nat} {N : List Str} {js : List Nat} {params : Arguments} {body : Expr} {scope : Scope} {t : XK → TE} {p lpos pos : Pos} (D : Teller X.prog X.w X.K X.mg X.base x TT) (hg : Gl X x)
    (mono : ∀ (a b : XK → Hp → VK → Prop) (H : Hp) (Q : VK), (∀ E H' Q', a E H' Q' → b E H' Q') → TT a H Q → TT b H Q)
    (TB : TabB X.base X.mg c P) (hcode : X.env.code = .ref c) (hm : (P, nm) ∈ T) (hn : nm lpos.line lpos.col = X.env.qual ++ "<lambda>") (hu : ∀ p ∈ T, p.1 = P → p.2 = nm) (hfn : ∀ y, X.fn y = true) (hr : Room (k + 2) X.A)
    (S : NScope N [] N scope) (hfree : ∀ y ∈ scope.names, y.2 = .free → X.env.scope.names.lookup y.1 = some .cell ∨ X.env.scope.names.lookup y.1 = some .free) (hfr : ∀ y ∈ N, (y, NameKind.free) ∈ scope.names) (hjs : js.map (fun j => X.N[j]?) = N.map some)
    (hdef : defaultsOf params X.env = ([], [])) (hbind : ∀ (q : Str) (cl : List (Str × Addr)) (pm cv ctv : Value), bindArgs (PySem.W.kla_fn "<lambda>" q params body scope cl pm cv ctv) ⟨[], []⟩ = pure [])
    (hbody : ∀ (cl : List (Str × Addr)) (c' f : Addr) (A : Around) (outer : List Env) (s : Shared) (H : Hp) (E : XK), Room k (A.deeper (envF (LF.nf ⟨X.env.qual ++ "<lambda>", params, body, scope, cl, c'⟩) f s.heap.objs.size)) → PE (ncx (L2.CX X.prog X.w) X.prog X.w X.K X.mg X.base N (LF.nf ⟨X.env.qual ++ "<lambda>", params, body, scope, cl, c'⟩) f A outer s H E) body (t E))
    (hdb : (x == ("__debug__" : Str)) = false := by decide) :
    PE X (.Call (.Name x p) [.Lambda params body scope lpos] [] pos) (tTell T N js TT t) := by
  refine ⟨fun pins s σ H Q I ⟨hT, h⟩ => ?_⟩
  refine wpAny_Call_Name_kw (ld_glob I hg D.m ?_ hdb)
  refine PySem.W.callWith_K (h₀ := X.base) I.ok.mod.kin D.kp ?_ (by rfl) (by rfl)
  show wpAny _ _ (spliced ((false, eval (.Lambda params body scope lpos) X.env) :: backTo pos (starEach [] X.env))) _ _ s
  have hfr2 : ∀ y ∈ scope.names, y.2 = .free → ∃ c, X.env.cells.lookup y.1 = some c := fun y hy e => (hfree y hy e).elim (fun z => I.ok.has _ (.inl z)) fun z => I.ok.has _ (.inr z)
  refine Calls.spliced_cons (lamn_make I TB hcode hm hn hu hT hdef hfr2 fun f c' H1 s' I1 eN nn T1 f0 f1 c1 => ?_)
  refine Calls.spliced_nil ⟨I1.kIn, ?_⟩
  have e1 : M3.Ext T H H1 := ⟨eN, nn, T1⟩
  have G : Given X.prog X.w X.K X.mg X.base (L2.CX X.prog X.w) (k + 1) X.stack s' H1 f ⟨X.env.qual ++ "<lambda>", params, body, scope, cloFrom X.env.cells scope.names [], c'⟩ (fun vs H' Q' E' => vs = [] ∧ t E' (startF N [] (js.map (slotAt σ))) H' Q') := by
    refine given_lam (N := N) (ps := []) (fr := N) (js := js) I1 (Caps.made I1.ok hfree hfr hjs) hfn S (fun pm ctv us hl => ?_) (fun vs H Q E ⟨e, _⟩ => by rw [e]; rfl) fun A' outer' s2 H2 vs Q2 E2 hr2 ⟨e, q⟩ => ?_
    · have eu : us = [] := List.eq_nil_of_length_eq_zero hl
      rw [eu]
      exact hbind _ _ _ _ _
    · subst e
      exact ⟨_, hbody _ _ _ _ _ _ _ _ hr2, q⟩
  have rc := D.run k X.A X.stack s' H1 f _ _ Q hr I1.env0 G f1 c1 (mono _ _ _ _ (fun E H' Q' z => ⟨rfl, z⟩) (h H1 e1))
  refine wpAny_call (codeAny_mono rc fun r s2 hq => ?_)
  match r, hq with
  | .ok (.ret u), hq => exact I1.after hq
end
end NvK

set_option Elab.async false
set_option linter.all false
set_option maxRecDepth 100000
set_option maxHeartbeats 8000000
/-! # _law_told: a lambda called, TooMany caught -/
namespace M3
open PySem L2 NdefX
abbrev sToldM : Stmt := top 62
abbrev nToldM : List Str := ["call", "e"]
theorem scToldM : FnScope nToldM ["call"] (defScope sToldM) := ⟨rfl, rfl, rfl, by decide +kernel, rfl, by decide +kernel, by decide +kernel⟩
/-- TooMany, raised and caught -/
structure TxT (P : Program) (K : PySem.W.Frag) (mg : Str → Option Value) (c : Addr) : Prop where
  a : TxA P K mg "TooMany" "limit" c
  xf : XfC K c
  nf : PySem.W.findIn K (.ref c) "limit" = some none
/-- what _law_told makes of the lambda's reading -/
def TTm (cT : Addr) : (XK → Hp → VK → Prop) → Hp → VK → Prop := fun tl H Q =>
  ∀ E : XK, (∀ (dd : Addr) (i : Int) (H' : Hp), H' dd = some (.xd [("limit", .int i)]) → i.natAbs.log2 < 1920 → ("many " : Str).length + (toString i : Str).length ≤ sizeLine → Q (.str (("many " : Str) ++ (toString i : Str))) H' → E (.ref cT) (some dd) H') → tl E H Q
theorem TTm.mono {cT : Addr} (a b : XK → Hp → VK → Prop) (H : Hp) (Q : VK) (h : ∀ E H' Q', a E H' Q' → b E H' Q') (q : TTm cT a H Q) : TTm cT b H Q := fun E hE => h _ _ _ (q E hE)
section
variable {P : Program} {w : World} {K : PySem.W.Frag} {mg : Str → Option Value} {base : Heap} {cT : Addr}
def teller_m {g : Addr} {gd : FuncData} (F9 : Fun K "_law_told" "_law_told" sToldM g gd) (bW : Binds K gd ["call"] []) (m9 : mg "_law_told" = some (.ref g)) (TX : TxT P K mg cT) (hrep : mg "repr" = none) : NvK.Teller P w K mg base "_law_told" (TTm cT) where
  g := g
  m := m9
  kp := F9.kp
  run := fun k A outer s H f F sp Q hr e0 G hf hc h => by
    obtain ⟨oc, od, kV', doc, pm, an, cdv, ct, osl, rfl, lk, hcd⟩ := F9.ex
    refine LamX.run_ofS (N := nToldM) (ps := ["call"]) (us := [.ref f]) (vs := [.ref f]) lk hcd scToldM hr e0 ?_ (.cons rfl .nil) rfl fun hr' => ?_
    · exact bW s [.ref f] (e0.mod.kin.keeps fun b o e => (e0.bs b o e).1) rfl
    · suffices z : ∃ t, PSs (cxOf C8.CX0 P w K mg base nToldM "_law_told" (defScope sToldM) g cdv A outer s H C8.E0).nox (defBody sToldM) t ∧ t { nx := fun _ H' => Q .non H', rt := Q } (L2.start nToldM [.ref f]) H by
        obtain ⟨t, ht, q⟩ := z
        exact ⟨t, ht.nox, q⟩
      refine ⟨_, pss_one (ps_try_as (X := (cxOf C8.CX0 P w K mg base nToldM "_law_told" (defScope sToldM) g cdv A outer s H C8.E0).nox) (i := 1) (c := .ref cT)
          (tb := fun W D σ H => σ[0]? = some (some (.ref f)) ∧ H f = some (NvK.LamO f F) ∧ H F.c = some (LamX.CodeO F.c F.qual) ∧ sp [] H D.rt (WE W σ))
          rfl rfl scToldM.nd rfl rfl ⟨rfl, by decide, .inl TX.a.g⟩ LamX.takes0 (fun W pn xe tk _ => pss_one (ps_ret (NvK.pe_given0 (i := 0) (E := WE W) G hr' (Nat.le_refl _) (fun σ => passAt tk σ) rfl rfl (Or.inl rfl)))) (fun a oe cls d pn hz hf => pss_one (ps_ret (pe_op op_add_str pe_str (pe_callB SkE.call_repr_int (by rfl) hrep (by decide +kernel : bootBuiltins "repr" = some (.builtin "repr")) (pa_cons (pe_xf TX.xf TX.nf hz hf (pv 1)) pa_nil)))))), ?_⟩
      refine ⟨rfl, hf, hc, ?_⟩
      refine h _ fun dd i H' e3 e4 e5 e6 => ⟨true, TX.a.x, fun _ a9 na => ?_, (fun z => nomatch z)⟩
      exact ⟨_, rfl, rfl, rfl, dd, _, _, rfl, e3, by simp [List.lookup], _, rfl, e4, _, _, rfl, rfl, e5, e6⟩
end
end M3

set_option Elab.async false
set_option linter.all false
set_option maxRecDepth 100000
set_option maxHeartbeats 4000000
/-! # (int, str) > (int, str) -/
namespace NvGT
open PySem PySem.Spec PyProof.Rows L2
theorem gt_str_op {A : Around} {s : Shared} (x y : Str) (t u : Tok) : Ob.RcOp .Gt A s (.str x t) (.str y u) (decide (y.cps.toList < x.cps.toList)) := fun _ _ _ _ h => PySem.P.gt_str h
/-- a pair of a number and a text is greater than another one -/
def pairGt (i j : Int) (x y : Str) : Bool := if i = j then decide (y.cps.toList < x.cps.toList) else decide (j < i)
def rGtP (K : PySem.W.Frag) : R2 := fun u v H Q => ∃ (a b : Addr) (i j : Int) (x y : Str), u = .ref a ∧ v = .ref b ∧ SqT K H a [.int i, .str x] ∧ SqT K H b [.int j, .str y] ∧ Q (.bl (pairGt i j x y)) H
theorem op_gtP {X : Cx} (hu : X.A.units < cLine) : OpR X (compareOp .Gt) (rGtP X.K) := by
  intro pins s σ H u v u' v' Q I ru rv h
  obtain ⟨a, b, i, j, x, y, rfl, rfl, ha, hb, q⟩ := h
  cases ru
  cases rv
  obtain ⟨its, r1, p1, _⟩ := I.tuple ha
  obtain ⟨its2, r2, p2, _⟩ := I.tuple hb
  cases r1 with
  | cons g1 r1 =>
  cases r1 with
  | cons g2 r1 =>
  cases r1
  cases r2 with
  | cons g3 r2 =>
  cases r2 with
  | cons g4 r2 =>
  cases r2
  obtain ⟨t1, rfl⟩ := g1
  obtain ⟨t2, rfl⟩ := g2
  obtain ⟨t3, rfl⟩ := g3
  obtain ⟨t4, rfl⟩ := g4
  have R := Ob.RcOp.tuples_gt (A := X.A) (s := s) (e := fun k => if k = 0 then decide (i = j) else decide (x = y)) (r := fun k => if k = 0 then decide (j < i) else decide (y.cps.toList < x.cps.toList)) p1 p2 hu (fun k h1 h2 => by
    match k, h1, h2 with
    | 0, _, _ =>
      have z : (i == j) = decide (i = j) := by
        by_cases q : i = j
        · rw [decide_eq_true q]; exact beq_iff_eq.mpr q
        · rw [decide_eq_false q]; exact beq_eq_false_iff_ne.mpr q
      show SeqAt.EqAt _ _ (.int i t1) (.int j t3) (decide (i = j))
      rw [← z]
      exact SeqAt.EqAt.int_int _ _ _ _
    | 1, _, _ =>
      show SeqAt.EqAt _ _ (.str x t2) (.str y t4) (decide (x = y))
      have z : (x == y) = decide (x = y) := by
        by_cases q : x = y
        · rw [decide_eq_true q]; exact beq_iff_eq.mpr q
        · rw [decide_eq_false q]; exact beq_eq_false_iff_ne.mpr q
      rw [← z]
      exact SeqAt.EqAt.str_str _ _ _ _
    | k + 2, h1, _ =>
      exact absurd (show k + 2 < 2 from h1) (by omega)) (fun k h1 h2 _ => by
    match k, h1, h2 with
    | 0, _, _ => exact Ob.RcOp.gt_int _ _ _ _
    | 1, _, _ => exact gt_str_op _ _ _ _
    | k + 2, h1, _ =>
      exact absurd (show k + 2 < 2 from h1) (by omega))
  have ev : Ob.lexAt (fun k => if k = 0 then decide (i = j) else decide (x = y)) (fun k => if k = 0 then decide (j < i) else decide (y.cps.toList < x.cps.toList)) (decide (2 > 2)) 0 2 = pairGt i j x y := by
    unfold pairGt
    rw [Ob.lexAt_succ, Ob.lexAt_succ, Ob.lexAt_zero]
    by_cases q : i = j
    · rw [if_pos q, if_pos (by simp [q])]
      by_cases q2 : x = y
      · subst q2
        rw [if_pos (by simp)]
        exact (decide_eq_false (fun z => List.lt_irrefl _ z)).symm
      · rw [if_neg (by simp [q2])]
        rfl
    · rw [if_neg q, if_neg (by simp [q])]
      rfl
  have z : wpAny (model X.prog X.w) X.A (compareOp .Gt (.ref a) (.ref b)) (EP X pins σ Q) X.xe s := R X.prog X.w X.xe (EP X pins σ Q) ⟨.bl _, H, I, by rw [← ev]; rfl, q⟩
  exact z
end NvGT

set_option Elab.async false
set_option linter.all false
set_option maxRecDepth 100000
set_option maxHeartbeats 8000000
/-! # Tuples of tuples as data; ends drawn -/
namespace M3
open PySem L2
theorem eqv_dT (a b : List (List Nat)) : (dT a).eqv (dT b) = decide (a = b) := by
  unfold dT
  rw [PyData.eqv]
  exact eqv_tabs a b
theorem shaped_dT (t : List (List Nat)) : SeqAt.shaped (dT t) = true := by
  unfold SeqAt.shaped
  have h1 : (dT t).canLay0 = true := by
    unfold dT
    simp only [PyData.canLay0, lay_rows]
  have h2 : (dT t).depth ≤ 64 := by
    have r := dep_rows t
    unfold dT
    simp only [PyData.depth]
    omega
  rw [h1, decide_eq_true h2]
  rfl
theorem RowsA.tups {K : PySem.W.Frag} {H : Hp} {us : List V} {t : List (List Nat)} (h : RowsA H us t) : Tups K H us t := ⟨h.1, fun i r e => by
  obtain ⟨b, b1, b2⟩ := h.2 i r e
  exact ⟨b, b1, SqT.of b2⟩⟩
theorem ends_of {ns : List Int} {l : List Nat} {n : Nat} (pm : ns.Perm (l.map Int.ofNat)) (so : ns.Pairwise (· ≤ ·)) (nd : l.Nodup) (lt : ∀ z ∈ l, z < n) : ∃ es : List Nat, ns.map V.int = nts es ∧ es.Pairwise (· < ·) ∧ (∀ z ∈ es, z < n) ∧ es.length = l.length := by
  have nn : ∀ i ∈ ns, ∃ z : Nat, i = (z : Int) := fun i hi => by
    obtain ⟨z, _, e⟩ := List.mem_map.mp (pm.mem_iff.mp hi)
    exact ⟨z, e.symm⟩
  have p2 : (ns.map Int.toNat).Perm l := by
    have := pm.map Int.toNat
    rw [List.map_map] at this
    rwa [show (l.map (Int.toNat ∘ Int.ofNat)) = l from (List.map_congr_left (g := id) fun z _ => rfl).trans (List.map_id _)] at this
  refine ⟨ns.map Int.toNat, ?_, ?_, fun z hz => lt z (p2.mem_iff.mp hz), p2.length_eq⟩
  · unfold nts
    rw [List.map_map]
    refine List.map_congr_left fun i hi => ?_
    obtain ⟨z, rfl⟩ := nn i hi
    rfl
  · have a : (ns.map Int.toNat).Pairwise (· ≤ ·) := by
      rw [List.pairwise_map]
      exact so.imp fun h => by omega
    have b : (ns.map Int.toNat).Nodup := p2.nodup_iff.mpr nd
    exact (List.Pairwise.and a b).imp fun h => Nat.lt_of_le_of_ne h.1 h.2
theorem cut_takeN {es : List Nat} {n : Nat} (h : n ≤ es.length) : cutV (nts es) none (some (n : Int)) = nts (es.take n) := by
  unfold cutV
  rw [HT.sIx_none, HT.sIx_nat, nts_length, List.drop_zero, Nat.sub_zero, Nat.min_eq_left h]
  unfold nts
  rw [List.map_take]
end M3

set_option Elab.async false
set_option linter.all false
set_option maxRecDepth 100000
set_option maxHeartbeats 8000000
/-! # _law_right (k13) -/
namespace M3
open PySem L2 NdefX
abbrev sRight : Stmt := top 63
abbrev nRight : List Str := ["dice", "plain", "made", "size", "due", "told", "turn", "row", "word", "action", "first", "state"]
theorem scRight : FnScope nRight ["dice"] (defScope sRight) := ⟨rfl, rfl, rfl, by decide +kernel, rfl, by decide +kernel, by decide +kernel⟩
def nmRight : Nat → Nat → Str := fun _ _ => "_law_right.<locals>.<lambda>"
theorem sqt_but {K : PySem.W.Frag} {D a : Addr} {H H' : Hp} {kvs : List (List Key × V)} {xs : List V} (hD : H D = some (.dT kvs)) (s : ∀ b o, b ≠ D → H b = some o → H' b = some o) (h : SqT K H a xs) : SqT K H' a xs := by
  rcases h with (h | ⟨u, h⟩) | h
  · exact .inl (.inl (s _ _ (ne_of h hD (fun z => by cases z)) h))
  · exact .inl (.inr ⟨u, s _ _ (ne_of h hD (fun z => by cases z)) h⟩)
  · exact .inr h
theorem Mach.but {K : PySem.W.Frag} {C D p : Addr} {H H' : Hp} {kvs : List (List Key × V)} {x : Str} {t : List (List Nat)} {es : List Nat} (h : Mach K C H p x t es) (hD : H D = some (.dT kvs)) (s : ∀ b o, b ≠ D → H b = some o → H' b = some o) : Mach K C H' p x t es := by
  obtain ⟨dx, a, b, us, h1, h2, h3, h4⟩ := h
  refine ⟨dx, a, b, us, s _ _ (ne_of h1 hD (fun z => by cases z)) h1, sqt_but hD s h2, ⟨h3.1, fun i r e => ?_⟩, sqt_but hD s h4⟩
  obtain ⟨b', b1, b2⟩ := h3.2 i r e
  exact ⟨b', b1, sqt_but hD s b2⟩
theorem shaped_dN (es : List Nat) : SeqAt.shaped (dN es) = true := by
  unfold SeqAt.shaped
  have h1 : (dN es).canLay0 = true := lay_dN es
  have h2 : (dN es).depth ≤ 64 := by
    rw [dep_dN]
    decide
  rw [h1, decide_eq_true h2]
  rfl
theorem act_length (t : List (List Nat)) (x : Str) (cs : List Nat) : (act t x cs).length = t.length := by
  unfold act
  rw [List.length_map, List.length_range]
theorem ents_scal {F : List (List Nat × Str)} {g : List Nat} : scal ((valV (ents F) (key g)).getD .non) ((valV (ents F) (key g)).getD .non) = true := by
  by_cases h : g ∈ F.map Prod.fst
  · obtain ⟨w, e⟩ := ents_some h
    rw [e]
    rfl
  · rw [ents_none h]
    rfl
theorem rep_flat : ∀ n : Nat, (List.replicate n [V.int 0]).flatten = nts (List.replicate n 0)
  | 0 => rfl
  | n + 1 => by
    rw [List.replicate_succ, List.flatten_cons, rep_flat n, List.replicate_succ]
    rfl
theorem not_gt {a b : Str} (h : a.cps.toList = b.cps.toList ∨ lessW a.cps.toList b.cps.toList) : NvGT.pairGt ((a.length : Nat) : Int) ((b.length : Nat) : Int) a b = false := by
  have la : a.length = a.cps.toList.length := by simp [Str.length]
  have lb : b.length = b.cps.toList.length := by simp [Str.length]
  unfold NvGT.pairGt
  rcases h with h | h | ⟨h, h2⟩
  · rw [if_pos (by rw [la, lb, h]), h]
    exact decide_eq_false (fun z => List.lt_irrefl _ z)
  · rw [if_neg (by omega)]
    exact decide_eq_false (by omega)
  · rw [if_pos (by rw [la, lb, h])]
    exact decide_eq_false (fun z => List.lt_irrefl _ (List.lt_trans z h2))
def spRight (T : List NTab) : Sp := fun vs H Q _ => ∃ d : Addr, vs = [.ref d] ∧ Dz H d ∧ TabsN T H ∧ ∀ H' : Hp, Dz H' d → Stl T d H H' → Q (.bl true) H'
section
variable {P : Program} {w : World} {K : PySem.W.Frag} {mg : Str → Option Value} {base : Heap} {C cT : Addr}
theorem ok_right {T : List NTab} {f c Pt : Addr} {fd : FuncData} (F : Fun K "_law_right" "_law_right" sRight f fd) (hcode : fd.code = .ref c) (TB : LamX.TabB base mg c Pt) (hT : (Pt, nmRight) ∈ T) (hun : ∀ p ∈ T, p.1 = Pt → p.2 = nmRight)
    (cR : FnC P w K mg base 1 "_law_roll" ["dice", "total"] spDraw) (cL : FnC P w K mg base 3 "_law_letters" ["dice", "total"] spLetters) (cM : FnC P w K mg base 4 "_law_machine" ["dice", "letters", "states"] spMachine)
    (cK : FnC P w K mg base 6 "_law_made_machine" ["plain"] (spMade K C)) (cW : FnC P w K mg base 3 "_law_word" ["dice", "letters", "most"] spWord) (cA : FnC P w K mg base 1 "_law_actions" ["table", "letters", "most"] (spLawActs K)) (cO : FnC P w K mg base 2 "_law_action_of" ["table", "letters", "word"] (spActOf K))
    (xA : FnX P w K mg base 4 "actions" ["machine"] (spActs K C cT)) (xW : FnX P w K mg base 4 "word_of" ["machine", "action"] (spWordOf K C cT)) (tl : NvK.Teller P w K mg base "_law_told" (TTm cT))
    (M : TxM mg) : FnOk P w K mg base CX0 7 f fd ["dice"] (spRight T) := by
  obtain ⟨oc, od, kV', doc, pm, an, cdv, ct, osl, rfl, lk, hcd⟩ := F.ex
  have hcv : cdv = .ref c := hcode
  subst hcv
  refine fn_of lk hcd scRight (fun vs H Q E h => ?_) (fun A outer s H vs Q E hr h => ?_)
  · obtain ⟨d, rfl, _⟩ := h
    rfl
  · obtain ⟨d, rfl, Z, tabs, k⟩ := h
    suffices z : ∃ t, PSs (cxOf CX0 P w K mg base nRight "_law_right" (defScope sRight) f (.ref c) A outer s H E).nox (defBody sRight) t ∧ t { nx := fun _ H' => Q .non H', rt := Q } (start nRight [.ref d]) H by
      obtain ⟨t, ht, q⟩ := z
      exact ⟨t, ht.nox, q⟩
    have hu := hu_of hr
    have hr5 : Room 5 _ := hr.mono (by decide)
    have hr4 : Room 4 _ := hr.mono (by decide)
    have hr3 : Room 3 _ := hr.mono (by decide)
    have hr2 : Room 2 _ := hr.mono (by decide)
    have hr1 : Room 1 _ := hr.mono (by decide)
    refine ⟨_, (pss_cons (ps_set (i := 1) scRight.nd rfl (Or.inl rfl) (pe_call cM.G hr4 rfl cM.m cM.kp cM.b .nil pass0 (pa_cons (pv 0) (pa_cons (pe_call cL.G hr3 rfl cL.m cL.kp cL.b .nil pass0 (pa_cons (pv 0) (pa_cons (pe_op op_add pe_int (pe_call cR.G hr1 rfl cR.m cR.kp cR.b .nil pass0 (pa_cons (pv 0) (pa_cons pe_int pa_nil)))) pa_nil))) (pa_cons pe_int pa_nil)))))
        (pss_cons (ps_asg (pe_tup (pa_cons (pe_call cK.G hr rfl cK.m cK.kp cK.b .nil pass0 (pa_cons (pv 1) pa_nil)) (pa_cons (pe_callB call_len_seq (by rfl) M.len PySem.boot_len (pa_cons (pe_dget hu (pv 1) pe_str (fun _ _ => rfl)) pa_nil)) pa_nil))) (pg_tup rfl (pgs_cons (pg_name (i := 2) scRight.nd rfl (Or.inr rfl)) (pgs_cons (pg_name (i := 3) scRight.nd rfl (Or.inr rfl)) pgs_nil))))
        (pss_cons (ps_set (i := 4) scRight.nd rfl (Or.inr rfl) (pe_call cA.G hr1 rfl cA.m cA.kp cA.b .nil pass0 (pa_cons (pe_dget hu (pv 1) pe_str (fun _ _ => rfl)) (pa_cons (pe_dget hu (pv 1) pe_str (fun _ _ => rfl)) (pa_cons pe_int pa_nil)))))
        (pss_cons (ps_set (i := 5) scRight.nd rfl (Or.inl rfl) (NvK.pe_tell (k := 4) (N := ["made"]) (js := [2]) (nm := nmRight) tl rfl TTm.mono TB rfl hT rfl hun (fun _ => rfl) (hr.mono (by decide)) (by exact nscope_by (by decide +kernel)) (by exact ndef_free (sc := defScope sRight) (fr := ["made"]) (by decide +kernel)) (by exact ndef_fr (sc := defScope sRight) (fr := ["made"]) (by decide +kernel)) rfl rfl (fun _ _ _ _ _ => rfl)
          (fun cl c' f A outer s H E hr => pe_callS xA.G hr rfl xA.m xA.kp xA.b (fun σ => passAt (takes_of rfl rfl rfl rfl) σ) (pa_cons (pv 0) pa_nil))))
        (pss_cons (ps_if (pt_cmpR op_isN (pv 4) pe_non (nomark _)) (pss_one (ps_ret (pe_and (pe_cmpR op_eq (pv 5) pe_str (nomark _)) (pe_one (pe_cmpR op_eq (NvK.pe_tell (k := 4) (N := ["made", "size"]) (js := [2, 3]) (nm := nmRight) tl rfl TTm.mono TB rfl hT rfl hun (fun _ => rfl) (hr.mono (by decide)) (by exact nscope_by (by decide +kernel)) (by exact ndef_free (sc := defScope sRight) (fr := ["made", "size"]) (by decide +kernel)) (by exact ndef_fr (sc := defScope sRight) (fr := ["made", "size"]) (by decide +kernel)) rfl rfl (fun _ _ _ _ _ => rfl)
          (fun cl c' f A outer s H E hr => pe_callS xW.G hr rfl xW.m xW.kp xW.b (fun σ => passAt (takes_of rfl rfl rfl rfl) σ) (pa_cons (pv 0) (pa_cons (pe_op (show OpR _ _ (fun x y H Q => rRepT K x y H Q ∨ NvN.rRepT1 K x y H Q) from op_repT.or NvN.op_repT1) (pe_tup (pa_cons pe_int pa_nil)) (pv 1)) pa_nil)))) pe_str (nomark _)))))) pss_nil)
        (pss_cons (ps_if (pt_cmpR (op_neD hr.units) (pv 5) (pe_callTy (NvTD.call_tuple_dT rfl) (by rfl) M.tuple (by decide +kernel) (pa_cons (pv 4) pa_nil)) (nomark _)) (pss_one (ps_ret pe_bl)) pss_nil)
        (pss_cons (ps_if (pt_cmpR (op_neD hr.units) (pe_lock (pe_lc (own := [("action", 9)]) (g := gName 9) (tt := tTest (tOp rNe (tCall (spWordOf K C cT) [] E0 (tCons (tVar 2) (tCons (tVar 9) tNil))) (tDGet (tVar 4) (tVar 9)))) (te := tVar 9) rfl scRight.nd (pi_keys (pv 4)) (blkOk_by (N := nRight) (sc := defScope sRight) (by decide +kernel)) (fun _ _ _ _ _ => pg_name (i := 9) scRight.nd rfl (Or.inl rfl)) (fun _ _ _ _ _ => pts_one (pt_cmpR op_ne (pe_call xW.G hr4 rfl xW.m xW.kp xW.b .nil passL (pa_cons (pv 2) (pa_cons (pv 9) pa_nil))) (pe_dget hu (pv 4) (pv 9) (fun _ _ => rfl)) (nomark _))) (fun _ _ _ _ _ => pv 9))) (pe_lst pa_nil) (nomark _)) (pss_one (ps_ret pe_bl)) pss_nil)
        (pss_cons (ps_for PassesOwn.never rfl (pi_range1 rfl M.range (pa_cons pe_int pa_nil)) (pg_name (i := 6) scRight.nd rfl (Or.inl rfl))
        (pss_cons (ps_set (i := 7) scRight.nd rfl (Or.inl rfl) (pe_callTy call_tuple_of (by rfl) M.tuple (by decide +kernel) (pa_cons (pe_lc (own := [("state", 11)]) (g := gName 11) (tt := tYes) rfl scRight.nd (pi_range1 rfl M.range (pa_cons (pv 3) pa_nil)) (blkOk_by (N := nRight) (sc := defScope sRight) (by decide +kernel)) (fun _ _ _ _ _ => pg_name (i := 11) scRight.nd rfl (Or.inl rfl)) (fun _ _ _ _ _ => pts_nil) (fun _ _ _ _ _ => (pe_call cR.G hr1 rfl cR.m cR.kp cR.b .nil pass0 (pa_cons (pv 0) (pa_cons (pv 3) pa_nil))))) pa_nil)))
        (pss_cons (ps_if (pt_cmpR op_ne (pe_call xW.G hr4 rfl xW.m xW.kp xW.b .nil passL (pa_cons (pv 2) (pa_cons (pv 7) pa_nil))) (pe_dget2 hu (pv 4) (pv 7) pe_non ⟨rfl, rfl, rfl, rfl⟩) (nomark _)) (pss_one (ps_ret pe_bl)) pss_nil)
        (pss_cons (ps_set (i := 8) scRight.nd rfl (Or.inl rfl) (pe_call cW.G hr3 rfl cW.m cW.kp cW.b .nil pass0 (pa_cons (pv 0) (pa_cons (pe_dget hu (pv 1) pe_str (fun _ _ => rfl)) (pa_cons pe_int pa_nil)))))
        (pss_cons (ps_set (i := 9) scRight.nd rfl (Or.inl rfl) (pe_call cO.G hr2 rfl cO.m cO.kp cO.b .nil pass0 (pa_cons (pe_dget hu (pv 1) pe_str (fun _ _ => rfl)) (pa_cons (pe_dget hu (pv 1) pe_str (fun _ _ => rfl)) (pa_cons (pv 8) pa_nil)))))
        (pss_cons (ps_set (i := 10) scRight.nd rfl (Or.inl rfl) (pe_call xW.G hr4 rfl xW.m xW.kp xW.b .nil passL (pa_cons (pv 2) (pa_cons (pv 9) pa_nil))))
        (pss_one (ps_if (PW.pt (pw_or (pt_cmpR (op_neD hr.units) (pe_call cO.G hr2 rfl cO.m cO.kp cO.b .nil pass0 (pa_cons (pe_dget hu (pv 1) pe_str (fun _ _ => rfl)) (pa_cons (pe_dget hu (pv 1) pe_str (fun _ _ => rfl)) (pa_cons (pv 10) pa_nil)))) (pv 9) (nomark _)) (pw_or1 (pt_cmpR (NvGT.op_gtP (Nat.lt_of_succ_lt hu)) (pe_tup (pa_cons (pe_callB call_len_str (by rfl) M.len PySem.boot_len (pa_cons (pv 10) pa_nil)) (pa_cons (pv 10) pa_nil))) (pe_tup (pa_cons (pe_callB call_len_str (by rfl) M.len PySem.boot_len (pa_cons (pv 8) pa_nil)) (pa_cons (pv 8) pa_nil))) (nomark _))))) (pss_one (ps_ret pe_bl)) pss_nil))))))))
        (pss_one (ps_ret pe_bl)))))))))), ?_⟩
    refine ⟨_, rfl, _, rfl, _, rfl, d, 2, rfl, Z, by decide, by decide, fun r H1 rn Z1 S1 => ⟨_, _, rfl, rfl, ?_⟩⟩
    have e1 : [V.ref d, V.int (1 + (r : Int))] = [V.ref d, V.int ((1 + r : Nat) : Int)] := by rw [show ((1 + r : Nat) : Int) = 1 + (r : Int) by omega]
    refine ⟨d, 1 + r, e1, Z1, by omega, by omega, fun x H2 hx Z2 S2 => ?_⟩
    generalize hm : 1 + r = m at hx
    have m1 : 1 ≤ m := by omega
    have m2 : m ≤ 2 := by omega
    have lx := set_len hx
    refine ⟨d, x, 4, rfl, Z2, by decide, by decide, by omega, fun t es p H3 Pl t0 t4 np Z3 S3 => ?_⟩
    refine ⟨_, rfl, p, d, x, t, es, m, rfl, Pl, hx, m1, m2, t0, t4, fun a H4 na Ma s4 => ?_⟩
    have Pl4 := Pl.still Z3 (same_still s4)
    obtain ⟨⟨pa, pb, us, hp, pad, hpa, RT, pbd, hpb⟩, tb, up, lt⟩ := id Pl4
    refine ⟨_, rfl, p, _, rfl, get_t hp, pa, us, rfl, .inl (SqL.of hpa), (by show 2 ≤ sizeLine; decide), fun T' nT => ⟨T', _, rfl, SqT.of upd_same, rfl, _, _, rfl, _, _, rfl, rfl, ?_⟩⟩
    have s5 : Same H4 (upd H4 T' (.tup [.ref a, .int ((us.length : Nat) : Int)])) := Same.new (Same.refl H4) nT
    rw [RT.1] at s5 ⊢
    generalize upd H4 T' (.tup [.ref a, .int ((t.length : Nat) : Int)]) = H5 at s5 ⊢
    have s45 := s4.trans s5
    have Pl5 := Pl.still Z3 (same_still s45)
    have Z5 := same_dz s45 Z3
    have S5 : Stl T d H H5 := Stl.of tabs Z Z5 (((S1.trans S2).trans S3).trans (same_still s45))
    have Ma := Ma.same s5
    have R : Right x t es m := ⟨hx, m1, m2, by have := Pl5.tab; rw [lx] at this; exact this, t0, t4, Pl5.up, Pl5.lt⟩
    have hcx : x.cps.toList.length = m := by simpa [Str.length] using lx
    have x1 : 0 < x.length ∧ x.length ≤ 100 := by omega
    clear s4 s5 s45 na np Z1 Z2 Z3 S1 S2 S3 Pl Pl4 hp hpa RT hpb pad pbd tb up lt nT e1
    obtain ⟨⟨pa, pb, us, hp, pad, hpa, RT, pbd, hpb⟩, tb, up, lt⟩ := id Pl5
    have num : (toString (60 : Int) : Str) = "60" := by decide +kernel
    have cat : (("many " : Str) ++ (toString (60 : Int) : Str)) = "many 60" := by decide +kernel
    have sml : ("many " : Str).length + (toString (60 : Int) : Str).length ≤ sizeLine := Nat.le_trans (show _ ≤ 100 by decide +kernel) (by decide)
    refine ⟨_, rfl, p, _, rfl, get_t hp, _, rfl, p, _, rfl, get_l hp, pa, x, us, t, m, 60, rfl, SqL.of hpa, tups_of RT, R.tb, R.st, R.m2, by omega, by decide, fun few D H6 hD nD s6 => ?_, fun many H6 s6 => ?_⟩
    · have S6 := S5.same s6
      have Ma6 := Ma.same s6
      have Pl6 := Pl5.still Z5 (same_still s6)
      have Z6 := same_dz s6 Z5
      have nd : ((bfs t x 60).map Prod.fst).Nodup := bfs_nodup
      have FA := bfs_found (mo := 60) R.tb R.st R.m2
      refine ⟨S6.tab, fun H7 e7 E1 hE1 => ⟨_, rfl, a, x, t, es, m, rfl, Ma6.ext e7.ext, R, fun _ l ul H8 hl RA s8 => ?_, fun many => absurd many (by omega)⟩⟩
      have e8 := e7.same s8
      have Z8 := dz_ext e8.ext Z6
      have S8 := S6.trans (Stl.ofE e8)
      have Ma8 := Ma6.ext e8.ext
      have Pl8 := Pl6.stl Z6 (Stl.ofE e8)
      have hD8 : H8 D = some (.dT (ents (bfs t x 60))) := exn_at e8.ext hD
      clear hD nD s6 e7 s8 e8 Z6 S6 Ma6 Pl6 Pl5 S5 Z5 Ma hp hpa RT hpb hE1
      refine ⟨_, rfl, rfl, _, rfl, ?_⟩
      rw [decide_eq_false (fun z => by cases z)]
      refine iteF ?_
      refine ⟨_, rfl, _, rfl, D, _, rfl, .inl hD8, fun l2 bs nl2 kb => ?_⟩
      have s9 : Same H8 (upd H8 l2 (.tup (bs.map V.ref))) := Same.new (Same.refl H8) nl2
      refine ⟨dT ((bfs t x 60).map Prod.fst), dT ((bfs t x 60).map Prod.fst), .tup (SqT.of (s9 _ _ hl)) (dp_rows _ ul (RA.tups.same s9)), .tup (SqT.of upd_same) (dp_rows _ _ ((rows_keys kb).tups.same s9)), shaped_dT _, shaped_dT _, _, rfl, ?_⟩
      rw [eqv_dT, decide_eq_true rfl]
      refine iteF ?_
      generalize upd H8 l2 (.tup (bs.map V.ref)) = H9 at s9 ⊢
      have Z9 := same_dz s9 Z8
      have S9 := S8.same s9
      have Ma9 := Ma8.same s9
      have Pl9 := Pl8.still Z8 (same_still s9)
      have hD9 := s9 _ _ hD8
      clear s9 hD8 Z8 S8 Ma8 Pl8 hl RA kb nl2
      have lE : (ents (bfs t x 60)).length = (bfs t x 60).length := List.length_map _
      refine ⟨D, _, hD9, trivial, fun od => ⟨_, rfl, D, od, rfl, .inr ⟨_, upd_same, fun G nG => ?_⟩⟩⟩
      have HFs : ∀ b o, b ≠ D → H9 b = some o → (upd H9 D (.frz od (.dT (ents (bfs t x 60))))) b = some o := fun b o hb h => by rw [upd_ne hb]; exact h
      have HFD : (upd H9 D (.frz od (.dT (ents (bfs t x 60))))) D = some (.frz od (.dT (ents (bfs t x 60)))) := upd_same
      generalize upd H9 D (.frz od (.dT (ents (bfs t x 60)))) = HF at HFs HFD nG ⊢
      have smG : ∀ {HA : Hp}, (∀ b o, b ≠ G → HF b = some o → HA b = some o) → Same HF HA := fun z b o h => z b o (ne_of_none h nG) h
      have MaF := Ma9.but hD9 HFs
      refine lc_it (walk_keysT (d := D) (o := od) (kvs := ents (bfs t x 60))) (fun j HA => HA G = some (.lst []) ∧ ∀ b o, b ≠ G → HF b = some o → HA b = some o)
        ⟨upd_same, fun b o hb h => keep_new h nG⟩ (fun j HA _ ⟨_, z⟩ => smG z _ _ HFD) ?_ ?_
      · rintro j v HA HA' hj ⟨q1, q2⟩ ⟨rfl, kk, vv, q, hk, rfl, hq⟩
        rw [lE] at hj
        have hz : (bfs t x 60)[j]? = some (bfs t x 60)[j] := List.getElem?_eq_getElem hj
        generalize (bfs t x 60)[j] = z at hz
        have ek : (kk, vv) = (key z.1, V.str z.2) := by
          unfold ents at hk
          rw [List.getElem?_map, hz] at hk
          exact (Option.some.inj hk).symm
        cases ek
        obtain ⟨w1, w2, w3, w4, w5⟩ := FA j z hz
        have sA := smG q2
        rw [key_tup] at hq
        refine ⟨rfl, ?_⟩
        refine ⟨_, rfl, _, rfl, a, q, x, t, es, m, z.1, rfl, MaF.same sA, R, hq, w2, w1, fun _ HB sB => ?_, fun many => absurd many (by omega)⟩
        have GD : DGet HB D (.ref q) (some (.str z.2)) := .inr ⟨ents (bfs t x 60), key z.1, q, .inr ⟨od, sB _ _ (sA _ _ HFD)⟩, rfl, by rw [key_tup]; exact sB _ _ hq, (ents_at nd hz).symm⟩
        refine ⟨_, rfl, _, rfl, D, _, rfl, GD, ?_⟩
        rw [ents_at nd hz]
        refine ⟨rfl, _, rfl, ?_⟩
        rw [ne_not (show (some (V.str z.2)).getD V.non = V.str z.2 from rfl)]
        exact iteF ⟨sB _ _ q1, fun b o hb h => sB _ _ (q2 b o hb h)⟩
      · rintro HA ⟨q1, q2⟩
        have sA := smG q2
        refine ⟨sA _ _ HFD, (by show 0 ≤ sizeLine; decide), fun L nL => ?_⟩
        have gD : G ≠ D := ne_of q1 (sA _ _ HFD) (fun z => by cases z)
        have s9 : Same H9 (upd HA D (.dT (ents (bfs t x 60)))) := fun b o h => by
          by_cases e : b = D
          · rw [e, hD9] at h
            rw [e, upd_same, Option.some.inj h]
          · rw [upd_ne e]
            exact sA _ _ (HFs _ _ e h)
        refine ⟨.list [], .list [], .lst (SqL.of (keep_new (by rw [upd_ne gD]; exact q1) nL)) .nil, .lst (SqL.of upd_same) .nil, by decide, by decide, _, rfl, iteF ?_⟩
        have s9L := Same.new s9 nL (u := .lst [])
        generalize upd (upd HA D (.dT (ents (bfs t x 60)))) L (.lst []) = HX at s9L ⊢
        have ZX := same_dz s9L Z9
        have SX := S9.same s9L
        have MaX := Ma9.same s9L
        have PlX := Pl9.still Z9 (same_still s9L)
        have hDX := s9L _ _ hD9
        clear q1 q2 sA nL gD s9 s9L nG HFs HFD smG MaF Ma9 Pl9 hD9 Z9 S9
        refine ⟨8, rfl, by decide, by decide, for_range (lo := 0) (n := 8) (fun i σ H' => (∃ v6 v7 v8 v9 v10 v11 : Option V, σ = [some (.ref d), some (.ref p), some (.ref a), some (.int ((t.length : Nat) : Int)), some (.ref D), some (.ref l), v6, v7, v8, v9, v10, v11]) ∧ Dz H' d ∧ Stl T d HX H') ⟨⟨_, _, _, _, _, _, rfl⟩, ZX, Stl.refl d SX.tab⟩ ?_ ?_⟩
        · rintro i σ HY hi ⟨⟨v6, v7, v8, v9, v10, v11, rfl⟩, ZY, SY⟩
          refine ⟨_, rfl, ((t.length : Nat) : Int), rfl, by omega, by omega, fun G nG => ?_⟩
          have Gd : G ≠ d := ZY.not nG
          refine lc_range (lo := 0) (n := ((t.length : Nat) : Int).toNat) (fun j HA => ∃ xs : List Nat, HA G = some (.lst (nts xs)) ∧ xs.length = j ∧ (∀ z ∈ xs, z < t.length) ∧ Dz HA d ∧ Still d HY HA) ⟨[], upd_same, rfl, (fun z hz => by cases hz), ZY.new nG, (Still.refl d HY).new nG⟩ ?_ ?_
          · rintro j HA hj ⟨xs, h1, h2, h3, h4, h5⟩
            refine ⟨rfl, tYes_if ?_⟩
            refine ⟨_, rfl, _, rfl, d, t.length, rfl, h4, by omega, by omega, fun y HB yn z4 s4 => ?_⟩
            refine ⟨_, s4 _ _ Gd h1, ?_, xs ++ [y], ?_, ?_, fun u hu' => ?_, z4.ne Gd, (h5.trans s4).at_new nG⟩
            · rw [nts_length, h2]
              have hj : j < t.length := by omega
              exact Nat.lt_trans hj (Nat.lt_of_le_of_lt t4 (by decide))
            · rw [upd_same, nts_append]
            · rw [List.length_append, h2]
              rfl
            · rcases List.mem_append.mp hu' with q | q
              · exact h3 u q
              · rw [List.mem_singleton.mp q]
                exact yn
          · rintro HA ⟨xs, h1, h2, h3, ZA, SA⟩
            have h2 : xs.length = t.length := by rw [h2]; omega
            refine ⟨G, _, rfl, .inl ⟨SqL.of h1, fun g ng => ?_⟩⟩
            have hg : (upd HA g (.tup (nts xs))) g = some (.tup (nts xs)) := upd_same
            have ZB := ZA.new (u := .tup (nts xs)) ng
            have SB := (SY.still ZY ZA SA).same (Same.new (u := .tup (nts xs)) (Same.refl HA) ng)
            generalize upd HA g (.tup (nts xs)) = HB at hg ZB SB ⊢
            have hDB : HB D = some (.dT (ents (bfs t x 60))) := by
              obtain ⟨l0, m0, c0, e0, _⟩ := id ZX
              exact SB.st _ _ (fun q => by rw [q, e0] at hDX; cases hDX) hDX (fun ps q => by cases q)
            have MaB := MaX.stl ZX SB
            refine ⟨_, rfl, _, rfl, a, g, x, t, es, m, xs, rfl, MaB, R, hg, h2, h3, fun _ HC sC => ?_, fun many => absurd many (by omega)⟩
            have hDC := sC _ _ hDB
            have PlC := PlX.stl ZX (SB.same sC)
            have ZC := same_dz sC ZB
            have SC := SB.same sC
            have MaC := MaB.same sC
            refine ⟨_, rfl, D, rfl, .inr ⟨_, .inl hDC⟩, _, rfl, _, DGet.t (k := key xs) hDC (by rw [key_tup]; exact sC _ _ hg), ents_scal, _, rfl, ?_⟩
            rw [ne_not rfl]
            refine iteF ?_
            clear hg ZB SB hDB MaB sC h1 ZA SA nG Gd ng
            obtain ⟨⟨pa, pb, us, hp, pad, hpa, RT, pbd, hpb⟩, tb, up, lt⟩ := id PlC
            refine ⟨_, rfl, _, rfl, p, _, rfl, get_l hp, d, x, 7, rfl, ZC, x1.1, x1.2, by decide, fun y HE hw hl ZE SE => ?_⟩
            have PlE := PlC.still ZC SE
            have SE' := SC.still ZC ZE SE
            have MaE := MaC.stl ZC (Stl.of SC.tab ZC ZE SE)
            obtain ⟨⟨pa, pb, us, hp, pad, hpa, RT, pbd, hpb⟩, tb, up, lt⟩ := id PlE
            refine ⟨_, rfl, p, _, rfl, get_t hp, _, rfl, p, _, rfl, get_l hp, _, rfl, pa, x, y, us, t, m, rfl, SqL.of hpa, tups_of RT, R.tb, R.st, R.m2, hw, by omega, fun c2 HG nc2 hc2 sG => ?_⟩
            have wf := act_lt R.tb hcx hw
            obtain ⟨z, hzF, z1, z2⟩ := bfs_first R.st few y.cps.toList.length y.cps.toList rfl hw
            obtain ⟨iz, hiz, ez⟩ := List.getElem_of_mem hzF
            have hz : (bfs t x 60)[iz]? = some z := by rw [List.getElem?_eq_getElem hiz, ez]
            obtain ⟨w1, w2, w3, w4, w5⟩ := FA iz z hz
            refine ⟨_, rfl, _, rfl, a, c2, x, t, es, m, act t x y.cps.toList, rfl, MaE.same sG, R, hc2, act_length _ _ _, wf, fun _ HI sI => ?_, fun many => absurd many (by omega)⟩
            rw [← z1, ents_at nd hz]
            have sGI := sG.trans sI
            have PlI := PlE.still ZE (same_still sGI)
            obtain ⟨⟨pa, pb, us, hp, pad, hpa, RT, pbd, hpb⟩, tb, up, lt⟩ := id PlI
            refine ⟨_, rfl, p, _, rfl, get_t hp, _, rfl, p, _, rfl, get_l hp, _, rfl, pa, x, z.2, us, t, m, rfl, SqL.of hpa, tups_of RT, R.tb, R.st, R.m2, w3, by omega, fun c3 HJ nc3 hc3 sJ => ?_⟩
            rw [← w4] at hc3
            rw [← z1] at hc2
            refine ⟨_, rfl, dN z.1, dN z.1, .tup (SqT.of hc3) (dp_nats _), .tup (SqT.of (sJ _ _ (sI _ _ hc2))) (dp_nats _), shaped_dN _, shaped_dN _, _, rfl, ?_⟩
            rw [eqv_dN, decide_eq_true rfl]
            refine iteF ?_
            have zl : z.2.length ≤ sizeLine := Nat.le_trans (show _ ≤ 100 by have := (List.getElem?_eq_some_iff.mp hz).1; omega) (by decide)
            refine ⟨_, rfl, z.2, rfl, zl, _, rfl, (by show 2 ≤ sizeLine; decide), fun T1 n1 => ⟨_, rfl, y, rfl, Nat.le_trans (show y.length ≤ 100 by omega) (by decide), _, rfl, (by show 2 ≤ sizeLine; decide), fun T2 n2 => ?_⟩⟩
            refine ⟨T1, T2, _, _, z.2, y, rfl, rfl, SqT.of (keep_new upd_same n2), SqT.of upd_same, _, rfl, ?_⟩
            rw [not_gt z2]
            have sX := Same.new (u := .tup [.int ((y.length : Nat) : Int), .str y]) (Same.new (u := .tup [.int ((z.2.length : Nat) : Int), .str z.2]) (sGI.trans sJ) n1) n2
            exact iteF ⟨⟨_, _, _, _, _, _, rfl⟩, same_dz sX ZE, SE'.same sX⟩
        · rintro σ HY ⟨⟨v6, v7, v8, v9, v10, v11, rfl⟩, ZY, SY⟩
          exact k HY ZY (SX.trans SY)
    · have S6 := S5.same s6
      have Ma6 := Ma.same s6
      have Z6 := same_dz s6 Z5
      refine ⟨S6.tab, fun H7 e7 E1 hE1 => ⟨_, rfl, a, x, t, es, m, rfl, Ma6.ext e7.ext, R, fun few => absurd few (by omega), fun _ dd H8 hd s8 => hE1 dd 60 H8 hd (by decide) sml ?_⟩⟩
      rw [cat]
      refine ⟨_, rfl, rfl, _, rfl, ?_⟩
      rw [decide_eq_true rfl]
      refine iteT ?_
      refine ⟨_, rfl, rfl, _, rfl, ?_⟩
      rw [decide_eq_true rfl]
      refine iteT ?_
      have e8 := e7.same s8
      refine ⟨e8.tab, fun H9 e9 E2 hE2 => ⟨_, rfl, (by show 1 ≤ sizeLine; decide), fun T1 nT1 => ⟨_, rfl, ?_⟩⟩⟩
      have e69 := e8.trans e9
      have tail : ∀ (g : Addr) (HA : Hp), HA g = some (.tup (nts (List.replicate t.length 0))) → Same H9 HA → spWordOf K C cT [.ref a, .ref g] HA (fun v H' => scal v (.str "many 60") = true ∧ Q (.bl (decide (v = .str "many 60"))) H') E2 := fun g HA hg sA =>
        ⟨a, g, x, t, es, m, List.replicate t.length 0, rfl, (Ma6.ext e69.ext).same sA, R, hg, List.length_replicate, fun z hz => by rw [(List.mem_replicate.mp hz).2]; exact R.t1, fun few => absurd few (by omega), fun _ dd HB hd sB => hE2 dd 60 HB hd (by decide) sml (by
          rw [cat]
          refine ⟨rfl, ?_⟩
          rw [decide_eq_true rfl]
          have eB := (e69.same sA).same sB
          exact k HB (dz_ext eB.ext Z6) (S6.trans (Stl.ofE eB)))⟩
      by_cases one : t.length = 1
      · refine .inr ⟨T1, _, rfl, (by rw [one]; rfl), SqT.of upd_same, ?_⟩
        exact tail T1 _ (by rw [upd_same, one]; rfl) (Same.new (Same.refl H9) nT1)
      · refine .inl ⟨T1, ((t.length : Nat) : Int), [.int 0], rfl, rfl, SqT.of upd_same, (fun z => by cases z), by omega, by omega, (by show 1 ≤ 1000; decide), fun r0 nr0 => ?_⟩
        exact tail r0 _ (by rw [upd_same, show ((t.length : Nat) : Int).toNat = t.length from rfl, rep_flat]) (Same.new (Same.new (Same.refl H9) nT1) nr0)
end
end M3

set_option Elab.async false
set_option linter.all false
set_option maxRecDepth 100000
set_option maxHeartbeats 8000000
/-! # The law itself -/
namespace M3
open PySem L2 NdefX
abbrev sLaw : Stmt := top 64
abbrev nLaw : List Str := ["script", "at", "dice", "turn", "wild", "small", "told"]
theorem scLaw : FnScope nLaw ["script"] (defScope sLaw) := ⟨rfl, rfl, rfl, by decide +kernel, rfl, by decide +kernel, by decide +kernel⟩
structure TxL (mg : Str → Option Value) : Prop where
  max : mg "max" = none
  min : mg "min" = none
def nmLaw : Nat → Nat → Str := fun _ _ => "law.<locals>.<lambda>"
theorem set_ab : IsSet "ab" 2 := ⟨[97, 98], by decide +kernel, rfl, by decide, by decide⟩
def tWild : List (List Nat) := [[1, 0], [2, 0], [3, 2], [0, 3]]
def tSmall : List (List Nat) := [[1, 0], [2, 0], [0, 2]]
theorem right_wild : Right "ab" tWild [] 2 := ⟨set_ab, by decide, by decide, ⟨rfl, by decide⟩, by decide, by decide, .nil, by decide⟩
theorem right_small : Right "ab" tSmall [] 2 := ⟨set_ab, by decide, by decide, ⟨rfl, by decide⟩, by decide, by decide, .nil, by decide⟩
theorem wild_many : 60 < (bfs tWild "ab" 60).length := by decide +kernel
theorem small_few : (bfs tSmall "ab" 60).length = 24 := by decide +kernel
theorem small_bab : valV (ents (bfs tSmall "ab" 60)) (key [0, 0, 0]) = some (.str "bab") := by decide +kernel
def dEnd : PyData := .list [.str "many 60", .int 24, .str "bab", .int 60]
theorem end_shaped : SeqAt.shaped dEnd = true := by decide +kernel
theorem end_eqv : dEnd.eqv dEnd = true := by decide +kernel
theorem mach_made {K : PySem.W.Frag} {C q dx a1 b1 : Addr} {H2 H' : Hp} {x : Str} {us : List V} {t : List (List Nat)} {es : List Nat} (nq : H2 q = none) (ndx : H2 dx = none) (nex : dx ≠ q) (hq : H' q = some (.ins C dx (flds x a1 b1)))
    (kp : ∀ c o, c ≠ q → (upd (upd H2 dx (.own q)) q (.ins C dx [])) c = some o → H' c = some o) (h2 : SqT K H2 a1 us) (T : Tups K H2 us t) (hb : SqT K H2 b1 (nts es)) : Mach K C H' q x t es ∧ Same H2 H' := by
  have s3 : Same H2 (upd (upd H2 dx (.own q)) q (.ins C dx [])) := Same.new (Same.new (Same.refl H2) ndx) (by rw [upd_ne (Ne.symm nex)]; exact nq)
  have s4 : Same H2 H' := fun c o h => kp c o (fun z => by rw [z, nq] at h; cases h) (s3 _ _ h)
  exact ⟨⟨dx, a1, b1, us, hq, sqt_same s4 h2, T.same s4, sqt_same s4 hb⟩, s4⟩
theorem Tups.cons {K : PySem.W.Frag} {H : Hp} {u : Addr} {r : List Nat} {us : List V} {t : List (List Nat)} (h : SqT K H u (nts r)) (T : Tups K H us t) : Tups K H (.ref u :: us) (r :: t) := ⟨by rw [List.length_cons, List.length_cons, T.1], fun i r' e => by
  match i, e with
  | 0, e => exact ⟨u, rfl, by cases e; exact h⟩
  | i + 1, e => exact T.2 i r' e⟩
theorem Tups.nil {K : PySem.W.Frag} {H : Hp} : Tups K H [] [] := ⟨rfl, fun i r e => by cases e⟩
def spLaw (K : PySem.W.Frag) (T : List NTab) : Sp := fun vs H Q _ => ∃ (a : Addr) (ns : List Int), vs = [.ref a] ∧ TabsN T H ∧ SqL K H a (ns.map V.int) ∧ ns.length ≤ 63 ∧ ∀ H', Q (.bl true) H'
section
variable {P : Program} {w : World} {K : PySem.W.Frag} {mg : Str → Option Value} {base : Heap} {C CM cT cG : Addr} {T : List NTab}
theorem ok_law {f gI b0 c Pt : Addr} {fd dI : FuncData} (F : Fun K "law" "law" sLaw f fd) (hcode : fd.code = .ref c) (TBl : LamX.TabB base mg c Pt) (hT : (Pt, nmLaw) ∈ T) (hun : ∀ p ∈ T, p.1 = Pt → p.2 = nmLaw)
    (cD : FnC P w K mg base 1 "_law_dice" ["script", "at"] (spDice K)) (cR : FnC P w K mg base 7 "_law_right" ["dice"] (spRight T))
    (tl : NvK.Teller P w K mg base "_law_told" (TTm cT)) (MK : Mk K C gI) (GI : FnOk P w K mg base CX0 4 gI dI nInit (spInit K C)) (bI1 : Binds K dI nInit [.ref b0]) (hb0 : ∀ H, SqT K H b0 []) (mC : mg "Machine" = some (.ref C))
    (xA : FnX P w K mg base 4 "actions" ["machine"] (spActs K C cT)) (xW : FnX P w K mg base 4 "word_of" ["machine", "action"] (spWordOf K C cT)) {tkM : Tok} (hMA : mg "MAX_ACTIONS" = some (.int 60 tkM)) (M : TxM mg) (TL : TxL mg) :
    FnOk P w K mg base CX0 8 f fd ["script"] (spLaw K T) := by
  obtain ⟨oc, od, kV', doc, pm, an, cdv, ct, osl, rfl, lk, hcd⟩ := F.ex
  have hcv : cdv = .ref c := hcode
  subst hcv
  refine fn_of lk hcd scLaw (fun vs H Q E h => ?_) (fun A outer s H vs Q E hr h => ?_)
  · obtain ⟨a, ns, rfl, _⟩ := h
    rfl
  · obtain ⟨a, ns, rfl, tabs, ha, hl, k⟩ := h
    suffices z : ∃ t, PSs (cxOf CX0 P w K mg base nLaw "law" (defScope sLaw) f (.ref c) A outer s H E).nox (defBody sLaw) t ∧ t { nx := fun _ H' => Q .non H', rt := Q } (start nLaw [.ref a]) H by
      obtain ⟨t, ht, q⟩ := z
      exact ⟨t, ht.nox, q⟩
    have hu := hu_of hr
    have hr6 : Room 6 _ := hr.mono (by decide)
    have hr5 : Room 5 _ := hr.mono (by decide)
    have hr4 : Room 4 _ := hr.mono (by decide)
    have hr3 : Room 3 _ := hr.mono (by decide)
    have hr2 : Room 2 _ := hr.mono (by decide)
    have hr1 : Room 1 _ := hr.mono (by decide)
    refine ⟨_, (pss_cons (ps_for PassesOwn.never rfl (pi_range1 rfl M.range (pa_cons (pe_callB (call_max2 rfl) (by rfl) TL.max (by decide +kernel) (pa_cons pe_int (pa_cons (pe_callB (call_min2 rfl) (by rfl) TL.min (by decide +kernel) (pa_cons pe_int (pa_cons (pe_callB call_len_seq (by rfl) M.len PySem.boot_len (pa_cons (pv 0) pa_nil)) pa_nil))) pa_nil))) pa_nil)) (pg_name (i := 1) scLaw.nd rfl (Or.inl rfl))
        (pss_cons (ps_set (i := 2) scLaw.nd rfl (Or.inl rfl) (pe_call cD.G hr1 rfl cD.m cD.kp cD.b .nil pass0 (pa_cons (pv 0) (pa_cons (pv 1) pa_nil))))
        (pss_one (ps_for PassesOwn.never rfl (pi_range1 rfl M.range (pa_cons pe_int pa_nil)) (pg_name (i := 3) scLaw.nd rfl (Or.inl rfl))
        (pss_one (ps_if (pt_not (pt_val (pe_call cR.G hr rfl cR.m cR.kp cR.b .nil pass0 (pa_cons (pv 2) pa_nil)))) (pss_one (ps_ret pe_bl)) pss_nil))))))
        (pss_cons (ps_set (i := 4) scLaw.nd rfl (Or.inr rfl) (pe_make MK GI hr5 rfl mC bI1 (.cons (show RelV (.ref b0) (.ref b0) from rfl) .nil) pass0 (pa_cons pe_str (pa_cons (pe_tup (pa_cons (pe_tup (pa_cons pe_int (pa_cons pe_int pa_nil))) (pa_cons (pe_tup (pa_cons pe_int (pa_cons pe_int pa_nil))) (pa_cons (pe_tup (pa_cons pe_int (pa_cons pe_int pa_nil))) (pa_cons (pe_tup (pa_cons pe_int (pa_cons pe_int pa_nil))) pa_nil))))) pa_nil))))
        (pss_cons (ps_set (i := 5) scLaw.nd rfl (Or.inl rfl) (pe_make MK GI hr5 rfl mC bI1 (.cons (show RelV (.ref b0) (.ref b0) from rfl) .nil) pass0 (pa_cons pe_str (pa_cons (pe_tup (pa_cons (pe_tup (pa_cons pe_int (pa_cons pe_int pa_nil))) (pa_cons (pe_tup (pa_cons pe_int (pa_cons pe_int pa_nil))) (pa_cons (pe_tup (pa_cons pe_int (pa_cons pe_int pa_nil))) pa_nil)))) pa_nil))))
        (pss_cons (ps_set (i := 6) scLaw.nd rfl (Or.inl rfl) (pe_lst (pa_cons (NvK.pe_tell (k := 4) (N := ["wild"]) (js := [4]) (nm := nmLaw) tl rfl TTm.mono TBl rfl hT rfl hun (fun _ => rfl) (hr.mono (by decide)) (by exact nscope_by (by decide +kernel)) (by exact ndef_free (sc := defScope sLaw) (fr := ["wild"]) (by decide +kernel)) (by exact ndef_fr (sc := defScope sLaw) (fr := ["wild"]) (by decide +kernel)) rfl rfl (fun _ _ _ _ _ => rfl)
          (fun cl c' f A outer s H E hr => pe_callS xA.G hr rfl xA.m xA.kp xA.b (fun σ => passAt (takes_of rfl rfl rfl rfl) σ) (pa_cons (pv 0) pa_nil))) (pa_cons (pe_callB call_len_seq (by rfl) M.len PySem.boot_len (pa_cons (pe_call xA.G hr4 rfl xA.m xA.kp xA.b .nil passL (pa_cons (pv 5) pa_nil)) pa_nil)) (pa_cons (pe_call xW.G hr4 rfl xW.m xW.kp xW.b .nil passL (pa_cons (pv 5) (pa_cons (pe_tup (pa_cons pe_int (pa_cons pe_int (pa_cons pe_int pa_nil)))) pa_nil))) (pa_cons (pe_glob (v := .int 60) rfl hMA ⟨_, rfl⟩) pa_nil))))))
        (pss_one (ps_ret (pe_cmpR (op_eqD hr.units) (pv 6) (pe_lst (pa_cons pe_str (pa_cons pe_int (pa_cons pe_str (pa_cons pe_int pa_nil))))) (nomark _)))))))), ?_⟩
    have lb : ∀ n : Nat, n ≤ 63 → ∀ m : Int, m = (if (if (n : Int) < 6 then (n : Int) else 6) > 1 then (if (n : Int) < 6 then (n : Int) else 6) else 1) → 1 ≤ m ∧ m ≤ 6 := fun n hn m hm => by
      rw [hm]
      by_cases h8 : (n : Int) < 6
      · rw [if_pos h8]
        by_cases h1 : (n : Int) > 1
        · rw [if_pos h1]
          omega
        · rw [if_neg h1]
          omega
      · rw [if_neg h8]
        decide
    refine ⟨_, rfl, a, _, rfl, .inl ha, _, _, rfl, _, _, rfl, ?_⟩
    have ln : (ns.map V.int).length = ns.length := List.length_map _
    rw [ln]
    have lb := lb _ hl _ rfl
    generalize (if (if (ns.length : Int) < 6 then (ns.length : Int) else 6) > 1 then (if (ns.length : Int) < 6 then (ns.length : Int) else 6) else 1) = m at lb ⊢
    refine ⟨m, rfl, by omega, by omega, for_range (lo := 0) (n := m.toNat) (fun i σ H' => (∃ v1 v2 v3 : Option V, σ = [some (.ref a), v1, v2, v3, none, none, none]) ∧ Ext T H H') ⟨⟨none, none, none, rfl⟩, Ext.refl tabs⟩ ?_ ?_⟩
    · rintro i σ H1 hi ⟨⟨v1, v2, v3, rfl⟩, s1⟩
      refine ⟨_, rfl, _, rfl, a, ns, _, rfl, sql_ext s1.ext ha, by omega, hl, fun d l q nd l0 q0 => ?_⟩
      have Z0 : Dz (upd H1 d (.lst [.int l, .int q, .int 0])) d := ⟨l, q, 0, upd_same, l0, q0, by decide⟩
      have s2 : Ext T H (upd H1 d (.lst [.int l, .int q, .int 0])) := s1.new nd
      have nd0 : H d = none := s1.non d nd
      generalize upd H1 d (.lst [.int l, .int q, .int 0]) = H2 at Z0 s2 ⊢
      refine ⟨4, rfl, by decide, by decide, for_range (lo := 0) (n := 4) (fun j σ H' => (∃ v1 v3 : Option V, σ = [some (.ref a), v1, some (.ref d), v3, none, none, none]) ∧ Dz H' d ∧ Stl T d H2 H') ⟨⟨_, _, rfl⟩, Z0, Stl.refl d s2.tab⟩ ?_ ?_⟩
      · rintro j σ H3 hj ⟨⟨w1, w3, rfl⟩, Z3, S3⟩
        exact ⟨_, rfl, d, rfl, Z3, S3.tab, fun H4 Z4 S4 => ⟨_, rfl, iteF ⟨⟨_, _, rfl⟩, Z4, S3.trans S4⟩⟩⟩
      · rintro σ H3 ⟨⟨w1, w3, rfl⟩, Z3, S3⟩
        exact ⟨⟨_, _, _, rfl⟩, Stl.toE s2 S3 nd0⟩
    · rintro σ H1 ⟨⟨v1, v2, v3, rfl⟩, s1⟩
      have tab1 := s1.tab
      clear ha lb s1 hl tabs
      refine ⟨(by show 2 ≤ sizeLine; decide), fun gu1 gn1 => ⟨(by show 2 ≤ sizeLine; decide), fun gu2 gn2 => ⟨(by show 2 ≤ sizeLine; decide), fun gu3 gn3 => ⟨(by show 2 ≤ sizeLine; decide), fun gu4 gn4 => ⟨(by show 4 ≤ sizeLine; decide), fun qa gn5 => ?_⟩⟩⟩⟩⟩
      generalize hXg : upd _ qa (.tup _) = H2
      have g1 : H2 gu1 = some (.tup (nts [1, 0])) := by
        rw [← hXg]
        exact (keep_new (keep_new (keep_new (keep_new upd_same gn2) gn3) gn4) gn5)
      have g2 : H2 gu2 = some (.tup (nts [2, 0])) := by
        rw [← hXg]
        exact (keep_new (keep_new (keep_new upd_same gn3) gn4) gn5)
      have g3 : H2 gu3 = some (.tup (nts [3, 2])) := by
        rw [← hXg]
        exact (keep_new (keep_new upd_same gn4) gn5)
      have g4 : H2 gu4 = some (.tup (nts [0, 3])) := by
        rw [← hXg]
        exact (keep_new upd_same gn5)
      have g5 : H2 qa = some (.tup [.ref gu1, .ref gu2, .ref gu3, .ref gu4]) := by
        rw [← hXg]
        exact upd_same
      have s12 : Same H1 H2 := by
        rw [← hXg]
        exact (Same.new (Same.new (Same.new (Same.new (Same.new (Same.refl H1) gn1) gn2) gn3) gn4) gn5)
      clear hXg gn1 gn2 gn3 gn4 gn5
      intro q qd qn1 qn2 qn3
      have qs3 : Same H2 (upd (upd H2 qd (.own q)) q (.ins C qd [])) := Same.new (Same.new (Same.refl H2) qn2) (by rw [upd_ne (Ne.symm qn3)]; exact qn1)
      have qT : Tups K H2 [.ref gu1, .ref gu2, .ref gu3, .ref gu4] tWild := (Tups.cons (SqT.of g1) (Tups.cons (SqT.of g2) (Tups.cons (SqT.of g3) (Tups.cons (SqT.of g4) Tups.nil))))
      refine ⟨q, qd, qa, b0, "ab", [.ref gu1, .ref gu2, .ref gu3, .ref gu4], tWild, [], 4, 2, rfl, upd_same, right_wild.st, by decide, by decide, SqT.of (qs3 _ _ g5), qT.same qs3, right_wild.tb, by decide, by decide, hb0 _, .nil, (fun e he => by cases he), fun H3 qh qk => ⟨rfl, ?_⟩⟩
      obtain ⟨Mw, qs4⟩ := mach_made (x := "ab") (t := tWild) (es := []) qn1 qn2 qn3 qh qk (SqT.of g5) qT (hb0 _)
      clear qs3 qh qk qn1 qn2 qn3 qT g1 g2 g3 g4 g5
      refine ⟨(by show 2 ≤ sizeLine; decide), fun gu1 gn1 => ⟨(by show 2 ≤ sizeLine; decide), fun gu2 gn2 => ⟨(by show 2 ≤ sizeLine; decide), fun gu3 gn3 => ⟨(by show 3 ≤ sizeLine; decide), fun ra gn4 => ?_⟩⟩⟩⟩
      generalize hXg : upd _ ra (.tup _) = H4
      have g1 : H4 gu1 = some (.tup (nts [1, 0])) := by
        rw [← hXg]
        exact (keep_new (keep_new (keep_new upd_same gn2) gn3) gn4)
      have g2 : H4 gu2 = some (.tup (nts [2, 0])) := by
        rw [← hXg]
        exact (keep_new (keep_new upd_same gn3) gn4)
      have g3 : H4 gu3 = some (.tup (nts [0, 2])) := by
        rw [← hXg]
        exact (keep_new upd_same gn4)
      have g4 : H4 ra = some (.tup [.ref gu1, .ref gu2, .ref gu3]) := by
        rw [← hXg]
        exact upd_same
      have s34 : Same H3 H4 := by
        rw [← hXg]
        exact (Same.new (Same.new (Same.new (Same.new (Same.refl H3) gn1) gn2) gn3) gn4)
      clear hXg gn1 gn2 gn3 gn4
      intro r rd rn1 rn2 rn3
      have rs3 : Same H4 (upd (upd H4 rd (.own r)) r (.ins C rd [])) := Same.new (Same.new (Same.refl H4) rn2) (by rw [upd_ne (Ne.symm rn3)]; exact rn1)
      have rT : Tups K H4 [.ref gu1, .ref gu2, .ref gu3] tSmall := (Tups.cons (SqT.of g1) (Tups.cons (SqT.of g2) (Tups.cons (SqT.of g3) Tups.nil)))
      refine ⟨r, rd, ra, b0, "ab", [.ref gu1, .ref gu2, .ref gu3], tSmall, [], 3, 2, rfl, upd_same, right_small.st, by decide, by decide, SqT.of (rs3 _ _ g4), rT.same rs3, right_small.tb, by decide, by decide, hb0 _, .nil, (fun e he => by cases he), fun H5 rh rk => ⟨rfl, ?_⟩⟩
      obtain ⟨Ms, rs4⟩ := mach_made (x := "ab") (t := tSmall) (es := []) rn1 rn2 rn3 rh rk (SqT.of g4) rT (hb0 _)
      clear rs3 rh rk rn1 rn2 rn3 rT g1 g2 g3 g4
      have e5 : Ext T H1 H5 := Ext.of tab1 ((s12.trans qs4).trans (s34.trans rs4))
      have Mw := Mw.same (s34.trans rs4)
      have cat : (("many " : Str) ++ (toString (60 : Int) : Str)) = "many 60" := by decide +kernel
      have sml : ("many " : Str).length + (toString (60 : Int) : Str).length ≤ sizeLine := Nat.le_trans (show _ ≤ 100 by decide +kernel) (by decide)
      have wm := wild_many
      have sf := small_few
      refine ⟨e5.tab, fun H6 e6 E1 hE1 => ⟨_, rfl, q, "ab", tWild, [], 2, rfl, Mw.ext e6.ext, right_wild, fun few => absurd few (by omega), fun _ dd H7 hd s7 => hE1 dd 60 H7 hd (by decide) sml ?_⟩⟩
      rw [cat]
      have e7 := e6.same s7
      have Ms7 := Ms.ext e7.ext
      refine ⟨_, rfl, r, "ab", tSmall, [], 2, rfl, Ms7, right_small, fun few l us H8 hl RA s8 => ⟨l, us, rfl, .inr (SqT.of hl), ?_⟩, fun many => absurd many (by omega)⟩
      have lu : us.length = 24 := by rw [RA.1, List.length_map, sf]
      rw [lu]
      refine ⟨_, rfl, (by show 3 ≤ sizeLine; decide), fun g ng => ⟨r, g, "ab", tSmall, [], 2, [0, 0, 0], rfl, (Ms7.same s8).same (Same.new (Same.refl H8) ng), right_small, upd_same, rfl, by decide, fun _ H9 s9 => ?_, fun many => absurd many (by omega)⟩⟩
      rw [small_bab]
      refine ⟨(by show 4 ≤ sizeLine; decide), fun L nL => ⟨_, rfl, (by show 4 ≤ sizeLine; decide), fun L2 nL2 => ?_⟩⟩
      refine ⟨dEnd, dEnd, .lst (SqL.of (keep_new upd_same nL2)) (.cons (.str _) (.cons (.int _) (.cons (.str _) (.cons (.int _) .nil)))), .lst (SqL.of upd_same) (.cons (.str _) (.cons (.int _) (.cons (.str _) (.cons (.int _) .nil)))), end_shaped, end_shaped, ?_⟩
      rw [end_eqv]
      exact k _
end
end M3

set_option Elab.async false
set_option linter.all false
set_option maxRecDepth 100000
set_option maxHeartbeats 8000000
/-! # What the top has made, put together -/
namespace M3
open PySem L2
/-- a def of the top: where it stands, what it is -/
structure DefAt (K : PySem.W.Frag) (x : Str) (st : Stmt) : Prop where
  ex : ∃ (f : Addr) (fd : FuncData), Fun K x x st f fd ∧ PySem.W.nsIn K mainGlobals x = some (some (.ref f))
theorem def_mk {K : PySem.W.Frag} {x : Str} {st : Stmt} {f : Addr} {oc : Value} {od an : Option Addr} {osl : Array (Option Value)} {kV doc pm cdv ct : Value} (a : PySem.W.nsIn K mainGlobals x = some (some (.ref f)))
    (l : K.lookup f = some ⟨oc, od, .func (PySem.W.fnOf x x (defArgs st) (defBody st) (defScope st) .none kV doc pm an cdv ct), osl⟩) (c : PySem.W.codeIn K cdv x = true) (k : PySem.W.keepIn K (.ref f) = true) : DefAt K x st := ⟨f, _, fun_mk l c k, a⟩
/-- a method -/
structure MetAt (K : PySem.W.Frag) (C : Addr) (x qual : Str) (st : Stmt) : Prop where
  ex : ∃ (f : Addr) (fd : FuncData), Fun K x qual st f fd ∧ Meth K C x f
theorem met_mk {K : PySem.W.Frag} {C : Addr} {x qual : Str} {st : Stmt} {f : Addr} {oc : Value} {od an : Option Addr} {osl : Array (Option Value)} {kV doc pm cdv ct : Value} (a : PySem.W.findIn K (.ref C) x = some (some (.ref f))) (fn : PySem.W.isFn K (.ref f) = true)
    (l : K.lookup f = some ⟨oc, od, .func (PySem.W.fnOf x qual (defArgs st) (defBody st) (defScope st) .none kV doc pm an cdv ct), osl⟩) (c : PySem.W.codeIn K cdv qual = true) (k : PySem.W.keepIn K (.ref f) = true) : MetAt K C x qual st := ⟨f, _, fun_mk l c k, ⟨a, fn, k⟩⟩
/-- a property -/
structure PropAt (K : PySem.W.Frag) (C : Addr) (x qual : Str) (st : Stmt) : Prop where
  ex : ∃ (p f : Addr) (fd : FuncData), Fun K x qual st f fd ∧ PropOf K C x p f
theorem prop_mk {K : PySem.W.Frag} {C : Addr} {x qual : Str} {st : Stmt} {p f : Addr} {rest : List Value} {oc : Value} {od an : Option Addr} {osl : Array (Option Value)} {kV doc pm cdv ct : Value} (a : PySem.W.findIn K (.ref C) x = some (some (.ref p)))
    (g : PySem.W.specialIn K (.ref p) "__get__" = some (some (.builtin "property.__get__"))) (t : PySem.W.takesIn K (.ref p) = some true) (r : PySem.W.recIn K p "property" = some (.ref f :: rest))
    (l : K.lookup f = some ⟨oc, od, .func (PySem.W.fnOf x qual (defArgs st) (defBody st) (defScope st) .none kV doc pm an cdv ct), osl⟩) (c : PySem.W.codeIn K cdv qual = true) (k : PySem.W.keepIn K (.ref f) = true) : PropAt K C x qual st := ⟨p, f, _, fun_mk l c k, ⟨a, g, t, ⟨rest, r⟩⟩⟩
/-- __init__, its last parameter with a default: an empty tuple -/
structure InitAt (K : PySem.W.Frag) (C : Addr) : Prop where
  ex : ∃ (f b0 : Addr) (fd : FuncData), C8.Fun K "__init__" "Machine.__init__" sInit f fd ∧ Mk K C f ∧ Binds K fd nInit [] ∧ Binds K fd nInit [.ref b0] ∧ ∀ H : Hp, SqT K H b0 []
theorem init_at {K : PySem.W.Frag} {C f T b0 : Addr} {oc tc : Value} {od an td bd : Option Addr} {osl tsl bsl : Array (Option Value)} {kV doc pm cdv ct : Value} {n n' : Nat}
    (i : PySem.W.findIn K (.ref C) "__init__" = some (some (.ref f))) (mk : PySem.W.makesIn K C = true) (fn : PySem.W.isFn K (.ref f) = true) (kp : PySem.W.keepIn K (.ref C) = true)
    (l : K.lookup f = some ⟨oc, od, .func (PySem.W.fnOf "__init__" "Machine.__init__" (C8.fnArgs sInit) (C8.fnBody sInit) (C8.fnScope sInit) (.ref T) kV doc pm an cdv ct), osl⟩) (c : PySem.W.codeIn K cdv "Machine.__init__" = true)
    (lT : K.lookup T = some ⟨tc, td, .seq #[.ref b0] n, tsl⟩) (lB : K.lookup b0 = some ⟨.type "tuple", bd, .seq #[] n', bsl⟩) : InitAt K C := by
  refine ⟨f, b0, _, ⟨_, _, _, _, _, _, _, _, _, _, rfl, l, c⟩, ⟨mk, i, fn, kp⟩, fun s us X hl => ?_, fun s us X hl => ?_, fun H => .inr ⟨_, #[], n', lB, rfl, rfl, Nat.zero_le _, .nil⟩⟩
  · rw [List.append_nil] at hl ⊢
    have hl : us.length = 4 := hl
    match us, hl with
    | [_, _, _, _], _ => exact BindsTo.of_looks fun M => looks_items (its := #[.ref b0]) X lT rfl (.of_pure rfl)
  · rw [List.length_append] at hl
    have hl : us.length + 1 = 4 := hl
    have hl : us.length = 3 := by omega
    match us, hl with
    | [_, _, _], _ => exact BindsTo.of_looks fun M => looks_items (its := #[.ref b0]) X lT rfl (.of_pure rfl)
theorem vals_app {vs zs : List V} {us ws : List Value} (h : Vals vs us) (k : Vals zs ws) : Vals (vs ++ zs) (us ++ ws) := h.append k
/-- the package's errors over TurnError -/
def errN (K : PySem.W.Frag) (c : Addr) : Bool := PySem.W.keepIn K (.ref c) && (decide (PySem.W.subIn K (.ref c) (.type "BaseException") = some true) && decide (PySem.W.typeIn K (.ref c) = some (.type "type")))
def errB (K : PySem.W.Frag) (c : Addr) : Bool := PySem.W.excIn K c [.type "ValueError", .type "Exception", .type "BaseException", .type "object"] "ValueError.__new__" && errN K c
theorem errR {K : PySem.W.Frag} {mg : Str → Option Value} {nm : Str} {c : Addr} (h : errB K c = true) (g : mg nm = some (.ref c)) : TxR K mg nm c := by
  obtain ⟨h1, h⟩ := Bool.and_eq_true_iff.mp h
  obtain ⟨h2, h⟩ := Bool.and_eq_true_iff.mp h
  obtain ⟨h3, h4⟩ := Bool.and_eq_true_iff.mp h
  exact ⟨h1, g, h2, of_decide_eq_true h3, of_decide_eq_true h4⟩
theorem errE {K : PySem.W.Frag} {mg : Str → Option Value} {c : Addr} (h : errB K c = true) (g : mg "InvalidMachine" = some (.ref c)) : TxE K mg c := by
  obtain ⟨h1, h2, h3, h4, h5⟩ := errR h g
  exact ⟨h1, h2, h3, h4, h5⟩
theorem errN_ok {P : Program} {K : PySem.W.Frag} {mg : Str → Option Value} {c i : Addr} (h : errN K c = true) (t : PySem.NvE.InitTxt P K c i "RuntimeError" "RuntimeError.__init__" "RuntimeError" "RuntimeError.__new__" "value" "InvalidNumber.__init__") (g : mg "InvalidNumber" = some (.ref c)) : TxN P K mg c := by
  obtain ⟨h2, h⟩ := Bool.and_eq_true_iff.mp h
  obtain ⟨h3, h4⟩ := Bool.and_eq_true_iff.mp h
  exact ⟨⟨_, _, _, _, _, _, t⟩, g, h2, of_decide_eq_true h3, of_decide_eq_true h4⟩
/-- the class of machines -/
def clsL (K : PySem.W.Frag) (C : Addr) : List Bool := [PySem.W.plainGet K C Str.empty, PySem.W.hasDictIn K C, PySem.W.plainOver K C, decide (PySem.W.findIn K (.ref C) "__setattr__" = some (some (.builtin "object.__setattr__"))),
  decide (PySem.W.findIn K (.ref C) "_letters" = some none), decide (PySem.W.findIn K (.ref C) "_table" = some none), decide (PySem.W.findIn K (.ref C) "_ends" = some none),
  decide (PySem.W.kitOne K (.ref C) (.type "str") = some false), decide (PySem.W.findIn K (.ref C) "__class__" = some (some (.builtin "object.__class__"))), decide (PySem.W.specialIn K (.builtin "object.__class__") "__get__" = some (some (.builtin "getset_descriptor.__get__"))),
  decide (PySem.W.takesIn K (.builtin "object.__class__") = some true), decide (PySem.W.mroIn K C (.type "object") = some true), decide (PySem.W.kitOne K (.ref C) (.ref C) = some true)]
def clsB (K : PySem.W.Frag) (C : Addr) : Bool := (clsL K C).all id
theorem clsB_ok {K : PySem.W.Frag} {C : Addr} (h : clsB K C = true) : Cls K C ∧ NoAttr K C "_letters" ∧ NoAttr K C "_table" ∧ NoAttr K C "_ends" ∧ TxO K C := by
  have h := List.all_eq_true.mp h
  have q : ∀ (i : Nat) (b : Bool), (clsL K C)[i]? = some b → b = true := fun i b e => h b (List.mem_of_getElem? e)
  exact ⟨⟨q 0 _ rfl, q 1 _ rfl, q 2 _ rfl, of_decide_eq_true (q 3 _ rfl)⟩, (of_decide_eq_true (q 4 _ rfl) : PySem.W.findIn K (.ref C) "_letters" = some none), (of_decide_eq_true (q 5 _ rfl) : PySem.W.findIn K (.ref C) "_table" = some none), (of_decide_eq_true (q 6 _ rfl) : PySem.W.findIn K (.ref C) "_ends" = some none),
    ⟨of_decide_eq_true (q 7 _ rfl), of_decide_eq_true (q 8 _ rfl), of_decide_eq_true (q 9 _ rfl), of_decide_eq_true (q 10 _ rfl), of_decide_eq_true (q 11 _ rfl), of_decide_eq_true (q 12 _ rfl)⟩⟩
/-- TooMany, which keeps the limit -/
def errA (K : PySem.W.Frag) (c : Addr) : Bool := decide (PySem.W.exmOne K (.ref c) (.ref c) = some true) && errN K c
theorem errA_ok {P : Program} {K : PySem.W.Frag} {mg : Str → Option Value} {c i : Addr} (h : errA K c = true) (t : PySem.NvE.InitTxt P K c i "OverflowError" "OverflowError.__init__" "OverflowError" "OverflowError.__new__" "limit" "TooMany.__init__") (g : mg "TooMany" = some (.ref c)) : TxA P K mg "TooMany" "limit" c := by
  obtain ⟨h1, h⟩ := Bool.and_eq_true_iff.mp h
  obtain ⟨h2, h⟩ := Bool.and_eq_true_iff.mp h
  obtain ⟨h3, h4⟩ := Bool.and_eq_true_iff.mp h
  exact ⟨⟨_, _, _, _, _, _, t⟩, g, h2, of_decide_eq_true h3, of_decide_eq_true h4, of_decide_eq_true h1⟩
open PySem.Spec PyProof.Rows in
/-- a law's end, its promise over what the top has left -/
theorem walk_ofK {l : PySem.W.OpenLaw} {n k : Nat} {q : Program} {loose : List Str} {XP : (Str → Option Value) → Heap → Prop} {YP : World → Heap → Prop} {d : PySem.DefRec} {K : Params → PySem.W.Frag} {sp : PySem.W.Frag → Sp} {x : Str}
    (hn : l.most = some n) (hn2 : n ≤ sizeLine) (hdf : d.params.defaults = []) (hr : Room k callerA) (hY : ∀ (w : World) (h : Heap), YP w h → (K w.params).In h)
    (F : ∀ (w : World) (mg : Str → Option Value) (fa : Addr) (h : Heap), (K w.params).In h → h.Ns mainGlobals mg → mg d.name = some (.ref fa) →
      ∃ fd : FuncData, (∀ (s : Shared) (u : Value), BindsTo s fd ⟨[u], []⟩ [(x, u)]) ∧ ∀ base : Heap, (K w.params).In base → base.Ns mainGlobals mg → FnOk l.prog w (K w.params) mg base CX0 k fa fd [x] (sp (K w.params)))
    (hsp : ∀ (K : PySem.W.Frag) (H : Hp) (a : Addr) (ns : List Int), ns.length ≤ n → Only H → SqL K H a (ns.map V.int) → sp K [.ref a] H (fun v _ => v = .bl true) fun _ _ _ => False) :
    PySem.W.WalkO q loose XP YP l.row.toRowW d [] (fun f vs => PySem.call f vs) :=
  walk_of (CX := fun _ => CX0) (sp := fun w => sp (K w.params)) hn hn2 hdf hr hY F (fun w H a ns h1 h2 h3 => hsp (K w.params) H a ns h1 h2 h3) (fun _ _ _ _ _ h => h)

end M3

set_option Elab.async false
set_option linter.all false
set_option maxRecDepth 100000
set_option maxHeartbeats 8000000
/-! # What the top has made: a def whose code object is known; a law's end with tables of code objects -/
namespace M3
open PySem L2 NdefX
structure DefAtC (K : PySem.W.Frag) (x : Str) (st : Stmt) (c : Addr) : Prop where
  ex : ∃ (f : Addr) (fd : FuncData), Fun K x x st f fd ∧ PySem.W.nsIn K mainGlobals x = some (some (.ref f)) ∧ fd.code = .ref c
theorem defc_mk {K : PySem.W.Frag} {x : Str} {st : Stmt} {f c : Addr} {oc : Value} {od an : Option Addr} {osl : Array (Option Value)} {kV doc pm ct : Value} (a : PySem.W.nsIn K mainGlobals x = some (some (.ref f)))
    (l : K.lookup f = some ⟨oc, od, .func (PySem.W.fnOf x x (defArgs st) (defBody st) (defScope st) .none kV doc pm an (.ref c) ct), osl⟩) (c' : PySem.W.codeIn K (.ref c) x = true) (k : PySem.W.keepIn K (.ref f) = true) : DefAtC K x st c := ⟨f, _, fun_mk l c' k, a, rfl⟩
open PySem.Spec PyProof.Rows in
/-- a law's end over one table of code objects: c the code object, P its table -/
theorem lawAt_of {l : PySem.W.OpenLaw} {w : World} {K : PySem.W.Frag} {mg : Str → Option Value} {fa c P : Addr} {h : Heap} {nm : Nat → Nat → Str} {sp : Sp} {k n : Nat} {x : Str}
    (A : ∃ fd : FuncData, (∀ (s : Shared) (v : Value), BindsTo s fd ⟨[v], []⟩ [(x, v)]) ∧ ∀ base : Heap, K.In base → base.Ns mainGlobals mg → LamX.TabB base mg c P → FnOk l.prog w K mg base CX0 k fa fd [x] sp)
    (hsp : ∀ (H : Hp) (a : Addr) (ns : List Int), ns.length ≤ n → TabsN [(P, nm)] H → SqL K H a (ns.map V.int) → sp [.ref a] H (fun v _ => v = .bl true) fun _ _ _ => False)
    (hT : h.get? P = some { cls := .none, data := .fields #[] }) (nT : K.lookup P = none) (hC : PySem.W.CodeHd h c P) : LamX.LawAtS l w K CX0 k n x mg fa h := by
  obtain ⟨fd, hb, hF⟩ := A
  have one : ∀ p ∈ [(c, P)], p = (c, P) := fun p hp => List.mem_singleton.mp hp
  refine ⟨fd, [(c, P)], sp, fun p hp => ?_, fun p hp => ?_, fun p hp => ?_, hb, fun H a ns hl _ hH hS => hsp H a ns hl (fun p hp => ?_) hS, fun base k1 k2 tb => hF base k1 k2 (tb (c, P) (List.mem_singleton.mpr rfl))⟩
  · rw [one p hp]
    exact hT
  · rw [one p hp]
    exact nT
  · rw [one p hp]
    exact hC
  · rw [List.mem_singleton.mp hp]
    exact TabN.nil (hH (c, P) (List.mem_singleton.mpr rfl))
open PySem.Spec PyProof.Rows in
theorem walk_ofKT {l : PySem.W.OpenLaw} {n k : Nat} {q : Program} {loose : List Str} {XP : (Str → Option Value) → Heap → Prop} {YP : World → Heap → Prop} {d : PySem.DefRec} {K : Params → PySem.W.Frag} {x : Str}
    (hn : l.most = some n) (hn2 : n ≤ sizeLine) (hdf : d.params.defaults = []) (hr : Room k callerA) (hY : ∀ (w : World) (h : Heap), YP w h → (K w.params).In h)
    (F : ∀ (w : World) (mg : Str → Option Value) (fa : Addr) (h : Heap), YP w h → (K w.params).In h → h.Ns mainGlobals mg → mg d.name = some (.ref fa) → LamX.LawAtS l w (K w.params) CX0 k n x mg fa h) :
    PySem.W.WalkO q loose XP YP l.row.toRowW d [] (fun f vs => PySem.call f vs) :=
  LamX.walk_ofTs (CX := fun _ => CX0) hn hn2 hdf hr hY F (fun _ _ _ _ _ h => h)
end M3

set_option Elab.async false
set_option linter.all false
set_option maxRecDepth 100000
set_option maxHeartbeats 8000000
/-! # A law's end over two tables of code objects -/
namespace M3
open PySem L2 NdefX
open PySem.Spec PyProof.Rows in
theorem lawAt_of2 {l : PySem.W.OpenLaw} {w : World} {K : PySem.W.Frag} {mg : Str → Option Value} {fa c1 P1 c2 P2 : Addr} {h : Heap} {nm1 nm2 : Nat → Nat → Str} {sp : Sp} {k n : Nat} {x : Str}
    (A : ∃ fd : FuncData, (∀ (s : Shared) (v : Value), BindsTo s fd ⟨[v], []⟩ [(x, v)]) ∧ ∀ base : Heap, K.In base → base.Ns mainGlobals mg → LamX.TabB base mg c1 P1 → LamX.TabB base mg c2 P2 → FnOk l.prog w K mg base CX0 k fa fd [x] sp)
    (hsp : ∀ (H : Hp) (a : Addr) (ns : List Int), ns.length ≤ n → TabsN [(P1, nm1), (P2, nm2)] H → SqL K H a (ns.map V.int) → sp [.ref a] H (fun v _ => v = .bl true) fun _ _ _ => False)
    (hT1 : h.get? P1 = some { cls := .none, data := .fields #[] }) (hT2 : h.get? P2 = some { cls := .none, data := .fields #[] }) (nT1 : K.lookup P1 = none) (nT2 : K.lookup P2 = none) (hC1 : PySem.W.CodeHd h c1 P1) (hC2 : PySem.W.CodeHd h c2 P2) : LamX.LawAtS l w K CX0 k n x mg fa h := by
  obtain ⟨fd, hb, hF⟩ := A
  have two : ∀ (R : Addr × Addr → Prop), R (c1, P1) → R (c2, P2) → ∀ p ∈ [(c1, P1), (c2, P2)], R p := fun R a b p hp => by
    rcases List.mem_cons.mp hp with e | e
    · rw [e]
      exact a
    · rw [List.mem_singleton.mp e]
      exact b
  refine ⟨fd, [(c1, P1), (c2, P2)], sp, two _ hT1 hT2, two _ nT1 nT2, two _ hC1 hC2, hb, fun H a ns hl _ hH hS => hsp H a ns hl (fun p hp => ?_) hS, fun base k1 k2 tb => hF base k1 k2 (tb (c1, P1) List.mem_cons_self) (tb (c2, P2) (List.mem_cons_of_mem _ (List.mem_singleton.mpr rfl)))⟩
  rcases List.mem_cons.mp hp with e | e
  · rw [e]
    exact TabN.nil (hH (c1, P1) List.mem_cons_self)
  · rw [List.mem_singleton.mp e]
    exact TabN.nil (hH (c2, P2) (List.mem_cons_of_mem _ (List.mem_singleton.mpr rfl)))
end M3

set_option Elab.async false
set_option linter.all false
set_option maxRecDepth 100000
set_option maxHeartbeats 8000000
/-! # TooMany, as the top has made it -/
namespace M3
open PySem L2
def errT (K : PySem.W.Frag) (c : Addr) : Bool := xfB K c && (decide (PySem.W.findIn K (.ref c) "limit" = some none) && errA K c)
theorem errT_ok {P : Program} {K : PySem.W.Frag} {mg : Str → Option Value} {c i : Addr} (h : errT K c = true) (t : PySem.NvE.InitTxt P K c i "OverflowError" "OverflowError.__init__" "OverflowError" "OverflowError.__new__" "limit" "TooMany.__init__") (g : mg "TooMany" = some (.ref c)) : TxT P K mg c := by
  obtain ⟨h1, h⟩ := Bool.and_eq_true_iff.mp h
  obtain ⟨h2, h⟩ := Bool.and_eq_true_iff.mp h
  exact ⟨errA_ok h t g, xfB_ok h1, of_decide_eq_true h2⟩
end M3

set_option Elab.async false
set_option linter.all false
set_option maxRecDepth 100000
set_option maxHeartbeats 8000000
/-! # What the top has made, put together (k13) -/
namespace M3
open PySem L2
theorem all_mk {P : Program} {w : World} {K : PySem.W.Frag} {h : Heap} {mg : Str → Option Value} {fa : Addr} (X : K.In h) (G : h.Ns mainGlobals mg) (hfa : mg "law" = some (.ref fa))
    {tk_a tk_l tk_m tk_s : Tok}
    {cRight_ PRight_ cLaw_ PLaw_ : Addr}
    {cMc cM cT iT cO : Addr}
    (dLaw : DefAtC K "law" sLaw cLaw_)
    (dDice : DefAt K "_law_dice" sDice)
    (dRight : DefAtC K "_law_right" sRight cRight_)
    (dRoll : DefAt K "_law_roll" sRoll)
    (dLetters : DefAt K "_law_letters" sLetters)
    (dMixed : DefAt K "_law_mixed" sMixed)
    (dOneOf : DefAt K "_law_one_of" sOneOf)
    (dMachine : DefAt K "_law_machine" sMachine)
    (dAction : DefAt K "_law_action" sAction)
    (dTable : DefAt K "_law_table" sTable)
    (dMade : DefAt K "_law_made_machine" sMade)
    (dIsLetters : DefAt K "is_letters" sIsLetters)
    (dIsTable : DefAt K "is_table" sIsTable)
    (dIsLine : DefAt K "is_line" sIsLine)
    (dIsChoice : DefAt K "is_choice" sIsChoice)
    (dBetween : DefAt K "is_between" sBetween)
    (dIsWord : DefAt K "is_word" sIsWord)
    (dHasOnly : DefAt K "has_only" sHasOnly)
    (dWord : DefAt K "_law_word" sWord)
    (dLawActs : DefAt K "_law_actions" sLawActs)
    (dActOf : DefAt K "_law_action_of" sActOf)
    (dLawLed : DefAt K "_law_led" sLawLed)
    (dActs : DefAt K "actions" sActs)
    (dCheckM : DefAt K "check_machine" sCheckM)
    (dFew : DefAt K "few_actions" sFew)
    (dActWords : DefAt K "action_words" sActWords)
    (dUnmoved : DefAt K "unmoved" sUnmoved)
    (dLedOn : DefAt K "led_on" sLedOn)
    (dWordOf : DefAt K "word_of" sWordOf)
    (dToldM : DefAt K "_law_told" sToldM)
    (gMc : PySem.W.nsIn K mainGlobals "Machine" = some (some (.ref cMc)))
    (vA : PySem.W.nsIn K mainGlobals "ALPHABET" = some (some (.str "abcdefghijklmnopqrstuvwxyz" tk_a)))
    (vL : PySem.W.nsIn K mainGlobals "MAX_LETTERS" = some (some (.int 2 tk_l)))
    (eM : errB K cM = true)
    (gM : PySem.W.nsIn K mainGlobals "InvalidMachine" = some (some (.ref cM)))
    (hMc : clsB K cMc = true)
    (vS : PySem.W.nsIn K mainGlobals "MAX_STATES" = some (some (.int 4 tk_s)))
    (mMI : InitAt K cMc)
    (eT : errA K cT = true)
    (tT : PySem.NvE.InitTxt P K cT iT "OverflowError" "OverflowError.__init__" "OverflowError" "OverflowError.__new__" "limit" "TooMany.__init__")
    (gT : PySem.W.nsIn K mainGlobals "TooMany" = some (some (.ref cT)))
    (vM : PySem.W.nsIn K mainGlobals "MAX_ACTIONS" = some (some (.int 60 tk_m)))
    (eO : errB K cO = true)
    (gO : PySem.W.nsIn K mainGlobals "InvalidOperation" = some (some (.ref cO)))
    (eTT : errT K cT = true)
    (neRightLaw : PRight_ ≠ PLaw_)
    (neLawRight : PLaw_ ≠ PRight_)
    (pPropL : PropAt K cMc "letters" "Machine.letters" sPropL)
    (pPropT : PropAt K cMc "table" "Machine.table" sPropT)
    (mLen : MetAt K cMc "__len__" "Machine.__len__" sLen)
    (z_int : PySem.W.nsIn K mainGlobals "int" = some none)
    (z_abs : PySem.W.nsIn K mainGlobals "abs" = some none)
    (z_len : PySem.W.nsIn K mainGlobals "len" = some none)
    (z_list : PySem.W.nsIn K mainGlobals "list" = some none)
    (z_sorted : PySem.W.nsIn K mainGlobals "sorted" = some none)
    (z_range : PySem.W.nsIn K mainGlobals "range" = some none)
    (z_tuple : PySem.W.nsIn K mainGlobals "tuple" = some none)
    (z_isinstance : PySem.W.nsIn K mainGlobals "isinstance" = some none)
    (z_bool : PySem.W.nsIn K mainGlobals "bool" = some none)
    (z_str : PySem.W.nsIn K mainGlobals "str" = some none)
    (z_all : PySem.W.nsIn K mainGlobals "all" = some none)
    (z_zip : PySem.W.nsIn K mainGlobals "zip" = some none)
    (z_enumerate : PySem.W.nsIn K mainGlobals "enumerate" = some none)
    (z_repr : PySem.W.nsIn K mainGlobals "repr" = some none)
    (z_max : PySem.W.nsIn K mainGlobals "max" = some none)
    (z_min : PySem.W.nsIn K mainGlobals "min" = some none)
    : ∃ fd : FuncData, (∀ (s : Shared) (v : Value), BindsTo s fd ⟨[v], []⟩ [("script", v)]) ∧ ∀ base : Heap, K.In base → base.Ns mainGlobals mg → LamX.TabB base mg cRight_ PRight_ → LamX.TabB base mg cLaw_ PLaw_ → FnOk P w K mg base CX0 8 fa fd ["script"] (spLaw K [(PRight_, nmRight), (PLaw_, nmLaw)]) := by
  obtain ⟨fLaw, DLaw, FLaw, aLaw, cdLaw⟩ := dLaw.ex
  have mLaw_ := PySem.W.mg_of X G aLaw
  have bLaw := FLaw.binds (ps := ["script"]) fun _ _ _ _ _ _ us hl => match us, hl with | [_], _ => rfl
  obtain ⟨fDice, DDice, FDice, aDice⟩ := dDice.ex
  have mDice_ := PySem.W.mg_of X G aDice
  have bDice := FDice.binds (ps := ["script", "at"]) fun _ _ _ _ _ _ us hl => match us, hl with | [_, _], _ => rfl
  obtain ⟨fRight, DRight, FRight, aRight, cdRight⟩ := dRight.ex
  have mRight_ := PySem.W.mg_of X G aRight
  have bRight := FRight.binds (ps := ["dice"]) fun _ _ _ _ _ _ us hl => match us, hl with | [_], _ => rfl
  obtain ⟨fRoll, DRoll, FRoll, aRoll⟩ := dRoll.ex
  have mRoll_ := PySem.W.mg_of X G aRoll
  have bRoll := FRoll.binds (ps := ["dice", "total"]) fun _ _ _ _ _ _ us hl => match us, hl with | [_, _], _ => rfl
  obtain ⟨fLetters, DLetters, FLetters, aLetters⟩ := dLetters.ex
  have mLetters_ := PySem.W.mg_of X G aLetters
  have bLetters := FLetters.binds (ps := ["dice", "total"]) fun _ _ _ _ _ _ us hl => match us, hl with | [_, _], _ => rfl
  obtain ⟨fMixed, DMixed, FMixed, aMixed⟩ := dMixed.ex
  have mMixed_ := PySem.W.mg_of X G aMixed
  have bMixed := FMixed.binds (ps := ["dice", "items"]) fun _ _ _ _ _ _ us hl => match us, hl with | [_, _], _ => rfl
  obtain ⟨fOneOf, DOneOf, FOneOf, aOneOf⟩ := dOneOf.ex
  have mOneOf_ := PySem.W.mg_of X G aOneOf
  have bOneOf := FOneOf.binds (ps := ["dice", "items"]) fun _ _ _ _ _ _ us hl => match us, hl with | [_, _], _ => rfl
  obtain ⟨fMachine, DMachine, FMachine, aMachine⟩ := dMachine.ex
  have mMachine_ := PySem.W.mg_of X G aMachine
  have bMachine := FMachine.binds (ps := ["dice", "letters", "states"]) fun _ _ _ _ _ _ us hl => match us, hl with | [_, _, _], _ => rfl
  obtain ⟨fAction, DAction, FAction, aAction⟩ := dAction.ex
  have mAction_ := PySem.W.mg_of X G aAction
  have bAction := FAction.binds (ps := ["dice", "size", "sort"]) fun _ _ _ _ _ _ us hl => match us, hl with | [_, _, _], _ => rfl
  obtain ⟨fTable, DTable, FTable, aTable⟩ := dTable.ex
  have mTable_ := PySem.W.mg_of X G aTable
  have bTable := FTable.binds (ps := ["dice", "letters", "size", "sorts"]) fun _ _ _ _ _ _ us hl => match us, hl with | [_, _, _, _], _ => rfl
  obtain ⟨fMade, DMade, FMade, aMade⟩ := dMade.ex
  have mMade_ := PySem.W.mg_of X G aMade
  have bMade := FMade.binds (ps := ["plain"]) fun _ _ _ _ _ _ us hl => match us, hl with | [_], _ => rfl
  obtain ⟨fIsLetters, DIsLetters, FIsLetters, aIsLetters⟩ := dIsLetters.ex
  have mIsLetters_ := PySem.W.mg_of X G aIsLetters
  have bIsLetters := FIsLetters.binds (ps := ["value"]) fun _ _ _ _ _ _ us hl => match us, hl with | [_], _ => rfl
  obtain ⟨fIsTable, DIsTable, FIsTable, aIsTable⟩ := dIsTable.ex
  have mIsTable_ := PySem.W.mg_of X G aIsTable
  have bIsTable := FIsTable.binds (ps := ["value", "width", "most"]) fun _ _ _ _ _ _ us hl => match us, hl with | [_, _, _], _ => rfl
  obtain ⟨fIsLine, DIsLine, FIsLine, aIsLine⟩ := dIsLine.ex
  have mIsLine_ := PySem.W.mg_of X G aIsLine
  have bIsLine := FIsLine.binds (ps := ["value", "width", "size"]) fun _ _ _ _ _ _ us hl => match us, hl with | [_, _, _], _ => rfl
  obtain ⟨fIsChoice, DIsChoice, FIsChoice, aIsChoice⟩ := dIsChoice.ex
  have mIsChoice_ := PySem.W.mg_of X G aIsChoice
  have bIsChoice := FIsChoice.binds (ps := ["value", "size"]) fun _ _ _ _ _ _ us hl => match us, hl with | [_, _], _ => rfl
  obtain ⟨fBetween, DBetween, FBetween, aBetween⟩ := dBetween.ex
  have mBetween_ := PySem.W.mg_of X G aBetween
  have bBetween := FBetween.binds (ps := ["value", "low", "high"]) fun _ _ _ _ _ _ us hl => match us, hl with | [_, _, _], _ => rfl
  obtain ⟨fIsWord, DIsWord, FIsWord, aIsWord⟩ := dIsWord.ex
  have mIsWord_ := PySem.W.mg_of X G aIsWord
  have bIsWord := FIsWord.binds (ps := ["value"]) fun _ _ _ _ _ _ us hl => match us, hl with | [_], _ => rfl
  obtain ⟨fHasOnly, DHasOnly, FHasOnly, aHasOnly⟩ := dHasOnly.ex
  have mHasOnly_ := PySem.W.mg_of X G aHasOnly
  have bHasOnly := FHasOnly.binds (ps := ["word", "letters"]) fun _ _ _ _ _ _ us hl => match us, hl with | [_, _], _ => rfl
  obtain ⟨fWord, DWord, FWord, aWord⟩ := dWord.ex
  have mWord_ := PySem.W.mg_of X G aWord
  have bWord := FWord.binds (ps := ["dice", "letters", "most"]) fun _ _ _ _ _ _ us hl => match us, hl with | [_, _, _], _ => rfl
  obtain ⟨fLawActs, DLawActs, FLawActs, aLawActs⟩ := dLawActs.ex
  have mLawActs_ := PySem.W.mg_of X G aLawActs
  have bLawActs := FLawActs.binds (ps := ["table", "letters", "most"]) fun _ _ _ _ _ _ us hl => match us, hl with | [_, _, _], _ => rfl
  obtain ⟨fActOf, DActOf, FActOf, aActOf⟩ := dActOf.ex
  have mActOf_ := PySem.W.mg_of X G aActOf
  have bActOf := FActOf.binds (ps := ["table", "letters", "word"]) fun _ _ _ _ _ _ us hl => match us, hl with | [_, _, _], _ => rfl
  obtain ⟨fLawLed, DLawLed, FLawLed, aLawLed⟩ := dLawLed.ex
  have mLawLed_ := PySem.W.mg_of X G aLawLed
  have bLawLed := FLawLed.binds (ps := ["table", "letters", "word", "start"]) fun _ _ _ _ _ _ us hl => match us, hl with | [_, _, _, _], _ => rfl
  obtain ⟨fActs, DActs, FActs, aActs⟩ := dActs.ex
  have mActs_ := PySem.W.mg_of X G aActs
  have bActs := FActs.binds (ps := ["machine"]) fun _ _ _ _ _ _ us hl => match us, hl with | [_], _ => rfl
  obtain ⟨fCheckM, DCheckM, FCheckM, aCheckM⟩ := dCheckM.ex
  have mCheckM_ := PySem.W.mg_of X G aCheckM
  have bCheckM := FCheckM.binds (ps := ["value"]) fun _ _ _ _ _ _ us hl => match us, hl with | [_], _ => rfl
  obtain ⟨fFew, DFew, FFew, aFew⟩ := dFew.ex
  have mFew_ := PySem.W.mg_of X G aFew
  have bFew := FFew.binds (ps := ["machine"]) fun _ _ _ _ _ _ us hl => match us, hl with | [_], _ => rfl
  obtain ⟨fActWords, DActWords, FActWords, aActWords⟩ := dActWords.ex
  have mActWords_ := PySem.W.mg_of X G aActWords
  have bActWords := FActWords.binds (ps := ["table", "letters", "most"]) fun _ _ _ _ _ _ us hl => match us, hl with | [_, _, _], _ => rfl
  obtain ⟨fUnmoved, DUnmoved, FUnmoved, aUnmoved⟩ := dUnmoved.ex
  have mUnmoved_ := PySem.W.mg_of X G aUnmoved
  have bUnmoved := FUnmoved.binds (ps := ["table"]) fun _ _ _ _ _ _ us hl => match us, hl with | [_], _ => rfl
  obtain ⟨fLedOn, DLedOn, FLedOn, aLedOn⟩ := dLedOn.ex
  have mLedOn_ := PySem.W.mg_of X G aLedOn
  have bLedOn := FLedOn.binds (ps := ["table", "states", "column"]) fun _ _ _ _ _ _ us hl => match us, hl with | [_, _, _], _ => rfl
  obtain ⟨fWordOf, DWordOf, FWordOf, aWordOf⟩ := dWordOf.ex
  have mWordOf_ := PySem.W.mg_of X G aWordOf
  have bWordOf := FWordOf.binds (ps := ["machine", "action"]) fun _ _ _ _ _ _ us hl => match us, hl with | [_, _], _ => rfl
  obtain ⟨fToldM, DToldM, FToldM, aToldM⟩ := dToldM.ex
  have mToldM_ := PySem.W.mg_of X G aToldM
  have bToldM := FToldM.binds (ps := ["call"]) fun _ _ _ _ _ _ us hl => match us, hl with | [_], _ => rfl
  obtain ⟨qPropL, fPropL, DPropL, FPropL, QPropL⟩ := pPropL.ex
  have bPropL := FPropL.binds (ps := ["self"]) fun _ _ _ _ _ _ us hl => match us, hl with | [_], _ => rfl
  obtain ⟨qPropT, fPropT, DPropT, FPropT, QPropT⟩ := pPropT.ex
  have bPropT := FPropT.binds (ps := ["self"]) fun _ _ _ _ _ _ us hl => match us, hl with | [_], _ => rfl
  obtain ⟨fLen, DLen, FLen, MLen⟩ := mLen.ex
  have bLen := FLen.binds (ps := ["self"]) fun _ _ _ _ _ _ us hl => match us, hl with | [_], _ => rfl
  have e := hfa.symm.trans mLaw_
  cases e
  have TI : TxI mg := ⟨(PySem.W.mg_none_of X G z_int), (PySem.W.mg_none_of X G z_abs), (PySem.W.mg_none_of X G z_len)⟩
  have DD : DefsD K mg := ⟨fRoll, fOneOf, DRoll, DOneOf, FRoll, bRoll, mRoll_, FOneOf, bOneOf, mOneOf_⟩
  have TM : TxM mg := ⟨(PySem.W.mg_none_of X G z_list), (PySem.W.mg_none_of X G z_sorted), (PySem.W.mg_none_of X G z_range), (PySem.W.mg_none_of X G z_tuple), (PySem.W.mg_none_of X G z_len)⟩
  have DM : DefsM K mg := ⟨fAction, fTable, DAction, DTable, FAction, bAction, mAction_, FTable, bTable, mTable_⟩
  have mCMc : mg "Machine" = some (.ref cMc) := PySem.W.mg_of X G gMc
  have DT : DefsT K mg := ⟨fIsLetters, fIsTable, fIsLine, fIsChoice, DIsLetters, DIsTable, DIsLine, DIsChoice, FIsLetters, bIsLetters, mIsLetters_, FIsTable, bIsTable, mIsTable_, FIsLine, bIsLine, mIsLine_, FIsChoice, bIsChoice, mIsChoice_⟩
  have DW : DefsW K mg := ⟨fBetween, fIsWord, fHasOnly, DBetween, DIsWord, DHasOnly, FBetween, bBetween, mBetween_, FIsWord, bIsWord, mIsWord_, FHasOnly, bHasOnly, mHasOnly_⟩
  have TW : TxW mg := ⟨(PySem.W.mg_none_of X G z_isinstance), (PySem.W.mg_none_of X G z_bool), (PySem.W.mg_none_of X G z_int), (PySem.W.mg_none_of X G z_str), (PySem.W.mg_none_of X G z_tuple), (PySem.W.mg_none_of X G z_all), ⟨_, PySem.W.mg_of X G vA⟩⟩
  have TZ : TxZ mg := ⟨(PySem.W.mg_none_of X G z_zip), (PySem.W.mg_none_of X G z_len), ⟨_, PySem.W.mg_of X G vL⟩⟩
  have TE : TxE K mg cM := errE eM (PySem.W.mg_of X G gM)
  have clMc : Cls K cMc ∧ NoAttr K cMc "_letters" ∧ NoAttr K cMc "_table" ∧ NoAttr K cMc "_ends" ∧ TxO K cMc := clsB_ok hMc
  have TK : TxK K mg cMc := ⟨clMc.1, clMc.2.1, clMc.2.2.1, clMc.2.2.2.1, ⟨_, PySem.W.mg_of X G vS⟩⟩
  obtain ⟨fMI, b0, DMI, FMI, MKMI, bMI, bMI1, hb0⟩ := mMI.ex
  have zZ : mg "zip" = none := (PySem.W.mg_none_of X G z_zip)
  have TO : TxO K cMc := clMc.2.2.2.2
  have TRM : TxR K mg "InvalidMachine" cM := errR eM (PySem.W.mg_of X G gM)
  have zE : mg "enumerate" = none := (PySem.W.mg_none_of X G z_enumerate)
  have TA : TxA P K mg "TooMany" "limit" cT := errA_ok eT tT (PySem.W.mg_of X G gT)
  have hMA : ∃ t, mg "MAX_ACTIONS" = some (.int 60 t) := ⟨_, PySem.W.mg_of X G vM⟩
  have TRO : TxR K mg "InvalidOperation" cO := errR eO (PySem.W.mg_of X G gO)
  have TT : TxT P K mg cT := errT_ok eTT tT (PySem.W.mg_of X G gT)
  have zRepr : mg "repr" = none := (PySem.W.mg_none_of X G z_repr)
  have mMA : mg "MAX_ACTIONS" = some (.int 60 tk_m) := PySem.W.mg_of X G vM
  have TL : TxL mg := ⟨(PySem.W.mg_none_of X G z_max), (PySem.W.mg_none_of X G z_min)⟩
  refine ⟨DLaw, ?_, fun base _ _ TBRight TBLaw => ?_⟩
  rotate_left
  · let _u := ()
    have hinRight : ((PRight_, nmRight) : NdefX.NTab) ∈ [(PRight_, nmRight), (PLaw_, nmLaw)] := by simp
    have hunRight : ∀ p ∈ ([(PRight_, nmRight), (PLaw_, nmLaw)] : List NdefX.NTab), p.1 = PRight_ → p.2 = nmRight := fun p hp e => by
      simp only [List.mem_cons, List.not_mem_nil, or_false] at hp
      rcases hp with rfl | rfl
      · rfl
      · exact absurd e neLawRight
    have hinLaw : ((PLaw_, nmLaw) : NdefX.NTab) ∈ [(PRight_, nmRight), (PLaw_, nmLaw)] := by simp
    have hunLaw : ∀ p ∈ ([(PRight_, nmRight), (PLaw_, nmLaw)] : List NdefX.NTab), p.1 = PLaw_ → p.2 = nmLaw := fun p hp e => by
      simp only [List.mem_cons, List.not_mem_nil, or_false] at hp
      rcases hp with rfl | rfl
      · exact absurd e neRightLaw
      · rfl
    let cDice : FnC P w K mg base 1 "_law_dice" ["script", "at"] (spDice K) := ⟨fDice, DDice, ok_dice FDice TI, bDice, mDice_, FDice.kp⟩
    let cRoll : FnC P w K mg base 1 "_law_roll" ["dice", "total"] spDraw := ⟨fRoll, DRoll, ok_draw FRoll TI, bRoll, mRoll_, FRoll.kp⟩
    let cLetters : FnC P w K mg base 3 "_law_letters" ["dice", "total"] spLetters := ⟨fLetters, DLetters, ok_letters FLetters FMixed bMixed mMixed_ DD TI TM, bLetters, mLetters_, FLetters.kp⟩
    let cMachine : FnC P w K mg base 4 "_law_machine" ["dice", "letters", "states"] spMachine := ⟨fMachine, DMachine, ok_machine FMachine DD DM TI TM, bMachine, mMachine_, FMachine.kp⟩
    let cMade : FnC P w K mg base 6 "_law_made_machine" ["plain"] (spMade K cMc) := ⟨fMade, DMade, ok_made FMade FMI bMI MKMI mCMc DT DW TW TZ TM TE TK /- obMI -/, bMade, mMade_, FMade.kp⟩
    let cWord : FnC P w K mg base 3 "_law_word" ["dice", "letters", "most"] spWord := ⟨fWord, DWord, ok_word FWord DD TI TM, bWord, mWord_, FWord.kp⟩
    let cLA : FnC P w K mg base 1 "_law_actions" ["table", "letters", "most"] (spLawActs K) := ⟨fLawActs, DLawActs, ok_lawacts FLawActs TM zZ, bLawActs, mLawActs_, FLawActs.kp⟩
    let cActOf : FnC P w K mg base 2 "_law_action_of" ["table", "letters", "word"] (spActOf K) := ⟨fActOf, DActOf, ok_actof FActOf FLawLed bLawLed mLawLed_ TM, bActOf, mActOf_, FActOf.kp⟩
    let cCheckM : FnC P w K mg base 1 "check_machine" ["value"] (spCheckM K cMc) := ⟨fCheckM, DCheckM, ok_checkm FCheckM TW TK TO mCMc TRM, bCheckM, mCheckM_, FCheckM.kp⟩
    let cWds : FnC P w K mg base 2 "action_words" ["table", "letters", "most"] (spActWordsE K) := ⟨fActWords, DActWords, ok_actwordsE FActWords FUnmoved bUnmoved mUnmoved_ FLedOn bLedOn mLedOn_ TM zE, bActWords, mActWords_, FActWords.kp⟩
    let pML : PrC P w K mg base cMc 1 "letters" (spPropL K cMc) := ⟨qPropL, fPropL, DPropL, QPropL, ok_propL FPropL TK, bPropL⟩
    let pMT : PrC P w K mg base cMc 1 "table" (spPropT K cMc) := ⟨qPropT, fPropT, DPropT, QPropT, ok_propT FPropT TK, bPropT⟩
    let xFewL : FnX P w K mg base 3 "few_actions" ["machine"] (spFewL K cMc cT) := ⟨fFew, DFew, ok_fewL FFew cWds pML pMT TK TM TA hMA, bFew, mFew_, FFew.kp⟩
    let xActs : FnX P w K mg base 4 "actions" ["machine"] (spActs K cMc cT) := ⟨fActs, DActs, ok_acts FActs cCheckM xFewL TM, bActs, mActs_, FActs.kp⟩
    let cIsLine : FnC P w K mg base 2 "is_line" ["value", "width", "size"] (spIsLine K) := ⟨fIsLine, DIsLine, ok_isline FIsLine DW TW TZ, bIsLine, mIsLine_, FIsLine.kp⟩
    let oMLen : OpC P w K mg base cMc 1 "__len__" ["self"] (spLen K cMc) := ⟨fLen, DLen, ok_len FLen TZ TK, bLen, MLen⟩
    let xWordOf : FnX P w K mg base 4 "word_of" ["machine", "action"] (spWordOf K cMc cT) := ⟨fWordOf, DWordOf, ok_wordof FWordOf cCheckM xFewL cIsLine oMLen TK TRO TM, bWordOf, mWordOf_, FWordOf.kp⟩
    let tlM : NvK.Teller P w K mg base "_law_told" (TTm cT) := teller_m FToldM bToldM mToldM_ TT zRepr
    let cRight : FnC P w K mg base 7 "_law_right" ["dice"] (spRight [(PRight_, nmRight), (PLaw_, nmLaw)]) := ⟨fRight, DRight, ok_right FRight cdRight TBRight hinRight hunRight cRoll cLetters cMachine cMade cWord cLA cActOf xActs xWordOf tlM TM, bRight, mRight_, FRight.kp⟩
    have GMI : FnOk P w K mg base CX0 4 fMI DMI nInit (spInit K cMc) := ok_init FMI DT DW TW TZ TE TK /- obMI -/
    exact ok_law FLaw cdLaw TBLaw hinLaw hunLaw cDice cRight tlM MKMI GMI bMI1 hb0 mCMc xActs xWordOf mMA TM TL
  · obtain ⟨oc, od, kV, doc, pm, an, cdv, ct, osl, el, lk, hcd⟩ := FLaw.ex
    subst el
    exact fun s v => .of_eq rfl
end M3

set_option Elab.async false
set_option linter.all false
set_option maxRecDepth 100000
open PySem PySem.W PyProof.Rows
set_option maxHeartbeats 0 in
theorem PySem.Challenge.cw_neverturns_k13_actions_and_their_words_holds : PySem.Challenge.rw_neverturns_k13_actions_and_their_words.Holds := by
  w_on; o_law; k_head; (case hw => w_witness2)
  k_fill
  refine M3.walk_ofKT (l := PySem.Challenge.rw_neverturns_k13_actions_and_their_words) (n := 63) (k := 8) (x := "script") rfl (by decide) rfl ⟨rfl, by decide, by decide⟩ (fun w h Y => PySem.W.km_in_of Y) ?F
  intro w mg fa h Y KX G hmg
  refine M3.lawAt_of2 (c1 := ?nvcc1) (P1 := _) (c2 := ?nvcc2) (P2 := _) (nm1 := M3.nmRight) (nm2 := M3.nmLaw) (sp := M3.spLaw _ [(_, M3.nmRight), (_, M3.nmLaw)]) ?nvA (fun H a ns hl hT hS => ⟨a, ns, rfl, hT, hS, hl, fun _ => rfl⟩) (PySem.W.km_tabs_of Y _ (.head _)) (PySem.W.km_tabs_of Y _ (.tail _ (.head _))) ?nvN1 ?nvN2 ?nvC1 ?nvC2
  case nvN1 => kernel_rfl
  case nvN2 => kernel_rfl
  case nvA =>
    refine' M3.all_mk KX G hmg ?nvdLaw ?nvdDice ?nvdRight ?nvdRoll ?nvdLetters ?nvdMixed ?nvdOneOf ?nvdMachine ?nvdAction ?nvdTable ?nvdMade ?nvdIsLetters ?nvdIsTable ?nvdIsLine ?nvdIsChoice ?nvdBetween ?nvdIsWord ?nvdHasOnly ?nvdWord ?nvdLawActs ?nvdActOf ?nvdLawLed ?nvdActs ?nvdCheckM ?nvdFew ?nvdActWords ?nvdUnmoved ?nvdLedOn ?nvdWordOf ?nvdToldM ?nvgMc ?nvvA ?nvvL ?nveM ?nvgM ?nvhMc ?nvvS ?nvmMI ?nveT ?nvtT ?nvgT ?nvvM ?nveO ?nvgO ?nveTT ?nvneRightLaw ?nvneLawRight ?nvpPropL ?nvpPropT ?nvmLen ?nvz_int ?nvz_abs ?nvz_len ?nvz_list ?nvz_sorted ?nvz_range ?nvz_tuple ?nvz_isinstance ?nvz_bool ?nvz_str ?nvz_all ?nvz_zip ?nvz_enumerate ?nvz_repr ?nvz_max ?nvz_min
    case nvdLaw => (refine' M3.defc_mk ?a ?l ?c' ?k; (case a => k_is); (case l => k_is); (case c' => k_is); (case k => k_is))
    case nvdDice => (refine' M3.def_mk ?a ?l ?c ?k; (case a => k_is); (case l => k_is); (case c => k_is); (case k => k_is))
    case nvdRight => (refine' M3.defc_mk ?a ?l ?c' ?k; (case a => k_is); (case l => k_is); (case c' => k_is); (case k => k_is))
    case nvdRoll => (refine' M3.def_mk ?a ?l ?c ?k; (case a => k_is); (case l => k_is); (case c => k_is); (case k => k_is))
    case nvdLetters => (refine' M3.def_mk ?a ?l ?c ?k; (case a => k_is); (case l => k_is); (case c => k_is); (case k => k_is))
    case nvdMixed => (refine' M3.def_mk ?a ?l ?c ?k; (case a => k_is); (case l => k_is); (case c => k_is); (case k => k_is))
    case nvdOneOf => (refine' M3.def_mk ?a ?l ?c ?k; (case a => k_is); (case l => k_is); (case c => k_is); (case k => k_is))
    case nvdMachine => (refine' M3.def_mk ?a ?l ?c ?k; (case a => k_is); (case l => k_is); (case c => k_is); (case k => k_is))
    case nvdAction => (refine' M3.def_mk ?a ?l ?c ?k; (case a => k_is); (case l => k_is); (case c => k_is); (case k => k_is))
    case nvdTable => (refine' M3.def_mk ?a ?l ?c ?k; (case a => k_is); (case l => k_is); (case c => k_is); (case k => k_is))
    case nvdMade => (refine' M3.def_mk ?a ?l ?c ?k; (case a => k_is); (case l => k_is); (case c => k_is); (case k => k_is))
    case nvdIsLetters => (refine' M3.def_mk ?a ?l ?c ?k; (case a => k_is); (case l => k_is); (case c => k_is); (case k => k_is))
    case nvdIsTable => (refine' M3.def_mk ?a ?l ?c ?k; (case a => k_is); (case l => k_is); (case c => k_is); (case k => k_is))
    case nvdIsLine => (refine' M3.def_mk ?a ?l ?c ?k; (case a => k_is); (case l => k_is); (case c => k_is); (case k => k_is))
    case nvdIsChoice => (refine' M3.def_mk ?a ?l ?c ?k; (case a => k_is); (case l => k_is); (case c => k_is); (case k => k_is))
    case nvdBetween => (refine' M3.def_mk ?a ?l ?c ?k; (case a => k_is); (case l => k_is); (case c => k_is); (case k => k_is))
    case nvdIsWord => (refine' M3.def_mk ?a ?l ?c ?k; (case a => k_is); (case l => k_is); (case c => k_is); (case k => k_is))
    case nvdHasOnly => (refine' M3.def_mk ?a ?l ?c ?k; (case a => k_is); (case l => k_is); (case c => k_is); (case k => k_is))
    case nvdWord => (refine' M3.def_mk ?a ?l ?c ?k; (case a => k_is); (case l => k_is); (case c => k_is); (case k => k_is))
    case nvdLawActs => (refine' M3.def_mk ?a ?l ?c ?k; (case a => k_is); (case l => k_is); (case c => k_is); (case k => k_is))
    case nvdActOf => (refine' M3.def_mk ?a ?l ?c ?k; (case a => k_is); (case l => k_is); (case c => k_is); (case k => k_is))
    case nvdLawLed => (refine' M3.def_mk ?a ?l ?c ?k; (case a => k_is); (case l => k_is); (case c => k_is); (case k => k_is))
    case nvdActs => (refine' M3.def_mk ?a ?l ?c ?k; (case a => k_is); (case l => k_is); (case c => k_is); (case k => k_is))
    case nvdCheckM => (refine' M3.def_mk ?a ?l ?c ?k; (case a => k_is); (case l => k_is); (case c => k_is); (case k => k_is))
    case nvdFew => (refine' M3.def_mk ?a ?l ?c ?k; (case a => k_is); (case l => k_is); (case c => k_is); (case k => k_is))
    case nvdActWords => (refine' M3.def_mk ?a ?l ?c ?k; (case a => k_is); (case l => k_is); (case c => k_is); (case k => k_is))
    case nvdUnmoved => (refine' M3.def_mk ?a ?l ?c ?k; (case a => k_is); (case l => k_is); (case c => k_is); (case k => k_is))
    case nvdLedOn => (refine' M3.def_mk ?a ?l ?c ?k; (case a => k_is); (case l => k_is); (case c => k_is); (case k => k_is))
    case nvdWordOf => (refine' M3.def_mk ?a ?l ?c ?k; (case a => k_is); (case l => k_is); (case c => k_is); (case k => k_is))
    case nvdToldM => (refine' M3.def_mk ?a ?l ?c ?k; (case a => k_is); (case l => k_is); (case c => k_is); (case k => k_is))
    case nvgMc => k_is
    case nvvA => k_is
    case nvvL => k_is
    case nvgM => k_is
    case nvvS => k_is
    case nvgT => k_is
    case nvvM => k_is
    case nvgO => k_is
    case nvz_int => k_is
    case nvz_abs => k_is
    case nvz_len => k_is
    case nvz_list => k_is
    case nvz_sorted => k_is
    case nvz_range => k_is
    case nvz_tuple => k_is
    case nvz_isinstance => k_is
    case nvz_bool => k_is
    case nvz_str => k_is
    case nvz_all => k_is
    case nvz_zip => k_is
    case nvz_enumerate => k_is
    case nvz_repr => k_is
    case nvz_max => k_is
    case nvz_min => k_is
    case nveTT => kernel_rfl
    case nveO => kernel_rfl
    case nveT => kernel_rfl
    case nvhMc => kernel_rfl
    case nveM => kernel_rfl
    case nvmMI => (refine' M3.init_at ?i ?mk ?fn ?kp ?l ?c ?lT ?lB; (case i => k_is); (case mk => k_is); (case fn => k_is); (case kp => k_is); (case l => k_is); (case c => k_is); (case lT => k_is); (case lB => k_is))
    case nvtT =>
      refine' NvI.init_mk ?nvic ?nvl1 ?nvc1 ?nvl2 ?nvv2 ?nvfl ?nvl3 ?nvev ?nvl4 ?nvrl ?nvob ?nvnb PySem.F.excBase_OverflowError ?nvti ?nvself ?nvup ?nvisb ?nvstat ?nvsa ?nvnof (PySem.NvE.inF_of PySem.F.excBase_OverflowError PySem.W.kxs_OverflowError) ?nvsup (by decide +kernel) (by decide +kernel) (by decide +kernel) (by decide +kernel) (by decide +kernel) (by decide +kernel) (by decide +kernel) (fun _ _ _ _ _ _ _ _ _ _ _ => rfl)
      case nvic => k_is
      case nvl1 => k_is
      case nvc1 => k_is
      case nvl2 => k_is
      case nvv2 => rfl
      case nvfl => decide +kernel
      case nvl3 => k_is
      case nvev => exact fun _ _ _ _ => ⟨_, rfl⟩
      case nvl4 => k_is
      case nvrl => exact fun _ => rfl
      case nvob => decide +kernel
      case nvnb => exact ⟨by decide +kernel, by decide +kernel, by decide +kernel⟩
      case nvti => k_is
      case nvself => k_is
      case nvup => kernel_rfl
      case nvisb => k_is
      case nvstat => k_is
      case nvsa => k_is
      case nvnof => k_is
      case nvsup => k_is
    case nvneRightLaw => decide +kernel
    case nvneLawRight => decide +kernel
    case nvpPropL => (refine' M3.prop_mk ?a ?g ?t ?r ?l ?c ?k; (case a => k_is); (case g => k_is); (case t => k_is); (case r => k_is); (case l => k_is); (case c => k_is); (case k => k_is))
    case nvpPropT => (refine' M3.prop_mk ?a ?g ?t ?r ?l ?c ?k; (case a => k_is); (case g => k_is); (case t => k_is); (case r => k_is); (case l => k_is); (case c => k_is); (case k => k_is))
    case nvmLen => (refine' M3.met_mk ?a ?f ?l ?c ?k; (case a => k_is); (case f => k_is); (case l => k_is); (case c => k_is); (case k => k_is))
  case nvC1 => exact PySem.W.codeHd_of_K KX (by kernel_rfl)
  case nvC2 => exact PySem.W.codeHd_of_K KX (by kernel_rfl)
