import PyProof.Rows.All
import Wide.All
import OpenK.AllK
import Wide.FinOn
import KE.KExcSuper
import HandS.ForMost
import HandS.Exc
import HandS.ExcOwn
import HandS.ExcInit
import HandS.ExcValue
import HandS.ExcIs
import HandS.ExcField
import HandS.IsInst
import KE.GoesNew
import KE.GoesMore
import HandS.Iter
import HandS.Walk
import KE.KFmtOwn
import HandS.Base
import HandS.Call
import HandS.List
import HandS.Text
import HandS.Dict
import HandS.DictEq
import HandS.Defaults
import HandS.Property
import HandS.Words
import KE.KDictDisplayH
import PyProof.StrOps2
import HandS.TupMul
import HandS.Wide
import PyProof.Rows.ListStrD
import HandS.Conv
import HandS.Zip
import HandS.TupAny
import HandS.Replace
import HandS.WordsExc
import HandS.Codes
import HandS.DictComp
import PyProof.EqAt
import PyProof.EqKinds
import PyProof.TupleCall
import KE.KLam
import HandS.TryOnly
import HandS.Lambda
import HandS.Nested
import PyProof.CodeObj
import HandS.ForExc
import HandS.RaiseMore
import HandS.DictTup
import HandS.Style
import HandS.TupLen
import HandS.FStr
import HandS.Star
import HandS.WordsDict
import HandS.Ends
import HandS.EndTab
import PySem.Challenge.RW_neverturns_k20_lags_first_words_and_lean
set_option Elab.async false
set_option linter.all false
set_option maxRecDepth 100000
set_option maxHeartbeats 4000000
/-! # Own exceptions whose __init__ calls super's, over any built-in base -/
namespace PySem
namespace NvE
open PySem.W PySem.Calls PyProof.Rows
/-- the __init__ of a built-in exception class, as super() finds it -/
structure InF (B i : String) : Prop where
  entry : entryFor table i = some Builtin.«BaseException.__init__»
  kind : builtinKind i = some .slot
  row : Manifest.signature? i = some ⟨.positional, "*", B, .self, [⟨"args", .varPos, false⟩]⟩
  star : (B != "*") = true
  plain : plainId i = true
  kf : KxsFacts B i
theorem inF_of {B n i : String} {bm : List Value} (F : ExcBaseFacts B n i bm) (k : KxsFacts B i) : InF B i := ⟨F.initEntry, F.initKind, F.initRow, F.noStar, F.init.plain, k⟩
theorem kf_KeyError : KxsFacts "KeyError" "KeyError.__init__" :=
  ⟨by show builtinType _ = _; rw [builtinType_eq_fast]; kernel_rfl, by first | kernel_rfl | rfl⟩
theorem inF_KeyError : InF "KeyError" "KeyError.__init__" where
  entry := PyProof.Rows.excClass_KeyError.initEntry
  kind := by decide +kernel
  row := by kernel_rfl
  star := by decide
  plain := by decide +kernel
  kf := kf_KeyError
section
variable {prog : Program} {w : World} {M : Model} {A : Around} {E : Value → Shared → Prop} {h : Heap} {g : Array GenState} {d : Drawn} {t : Nat} {os : OsState}
variable {nm q : Str} {C N : Addr} {bs bm : List Value} {hdct : Bool} {sn : List Str} {sub : List Value} {ab : Bool} {col : Option Bool} {dd : Option Addr} {k0 k1 k2 k3 k5 : Option Value} {B newId i : String}
theorem bound_ok (F : InF B i) {e : Addr} {oe : Obj} {rest : List Value} {Q : Unit → Shared → Prop}
    (hC : h.get? C = some (excClassObj nm q C N bs bm hdct sn sub ab col dd k0 k1 k2 k3 k5 newId)) (he : h.get? e = some oe) (hcls : oe.cls = .ref C)
    (hq : Q () ⟨h, g, d, t, os⟩) : wpAny M A (checkBoundCall i ⟨.ref e :: rest, []⟩) Q E ⟨h, g, d, t, os⟩ := by
  have hs := F.star
  simp only [checkBoundCall, F.kind, F.row]
  repeat (first
    | (with_reducible refine wpAny_loadPart_at he ?_; rw [hcls])
    | with_reducible refine wpAny_loadPart_at hC ?_
    | wp_step)
  refine wpAny_onRaise ?_
  have z : ∀ (a b : String) (n : Nat), Bind.check ⟨.positional, "*", B, .self, [⟨"args", .varPos, false⟩]⟩ a b n (List.map (fun x => x.fst) ({ pos := Value.ref e :: rest } : Args).kw) = pure () :=
    fun a b n => check_star_args _ _ _ _ _ _
  rw [z]
  exact wpAny_pure hq
/-- the bound built-in __init__ is called: the args are laid anew -/
theorem call_mw (F : InF B i) {u e t0 : Addr} {rest : List Value} {Q : Value → Shared → Prop}
    (hC : h.get? C = some (excClassObj nm q C N bs bm hdct sn sub ab col dd k0 k1 k2 k3 k5 newId)) (he : h.get? e = some (HandSPX.excO C t0)) (hu : h.get? u = some (kxs_mw i e)) (hz : rest.length ≤ sizeLine)
    (hq : ∀ h' t1, (∀ b o, b ≠ e → h.get? b = some o → h'.get? b = some o) → h'.get? e = some (HandSPX.excO C t1) → Q .none ⟨h', g, d, t, os⟩) :
    wpAny (model prog w) A (call (.ref u) rest) Q E ⟨h, g, d, t, os⟩ := by
  refine wpAny_call (codeAny_of_tree ?_)
  show wpAny _ A.in1 (callAny (.ref u) ⟨rest, []⟩) _ _ _
  simp only [callAny]
  refine wpAny_bind (wpAny_load hu ?_)
  have yes : (Value.type "method-wrapper" == Value.type "method" || Value.type "method-wrapper" == Value.type "builtin_function_or_method" || Value.type "method-wrapper" == Value.type "method-wrapper") = true := by decide
  simp only [kxs_mw, yes, if_true]
  refine KFB.if_so (by decide) ?_
  refine wpAny_bind (bound_ok F hC he rfl ?_)
  refine wpAny_bind (wpAny_pure (wpAny_pure ?_))
  refine ⟨plainId_quiet F.plain _, codeAny_builtin F.entry ?_⟩
  refine exc_init_tree (cls := .ref C) (t0 := t0) (dv := none) (c2 := .none) (c3 := .none) (b4 := .bool false) he hz fun h' k e' _ => ?_
  exact hq h' _ k e'
end
/-! ### the text of such an __init__ -/
/-- what the chain of bases says, as the making asks it -/
structure NewOk (bm : List Value) (B : String) : Prop where
  hasB : bm.contains (.type B) = true
  noA : bm.contains (.type "AttributeError") = false
  noN : bm.contains (.type "NameError") = false
def iArgs (f : String) (p1 p2 : Pos) : Arguments :=
  { posonlyargs := [], args := [{ arg := "self", annotation := none, pos := p1 }, { arg := Str.ofString f, annotation := none, pos := p2 }], vararg := none, kwonlyargs := [], kw_defaults := [], kwarg := none, defaults := [] }
def iBody (f : String) (msg : Str) (j : Nat) (p0 p1 p2 p3 p4 p5 q1 q2 q3 q4 : Pos) : List Stmt :=
  [.Expr (.Call (.Attribute (.Call (.Name "super" p0) [] [] p1) "__init__" p2) [.Constant (.str msg) j p3] [] p4) p5,
   .Assign [.Attribute (.Name "self" q1) (Str.ofString f) q2] (.Name (Str.ofString f) q3) q4]
def iScope (f : String) : Scope :=
  { kind := .function, names := [("self", .local), (Str.ofString f, .local), ("__class__", .free), ("super", .globalImplicit)], isGenerator := false, isCoroutine := false, more := [] }
/-- how super().__init__(msg) is evaluated: a method's call (it hangs on the places alone) -/
def EvOk (env : Env) (msg : Str) (j : Nat) (a0 a1 a2 a3 a4 : Pos) : Prop := ∃ pl : Sem Bool,
  eval (.Call (.Attribute (.Call (.Name "super" a0) [] [] a1) "__init__" a2) [.Constant (.str msg) j a3] [] a4) env = (do
    let ov ← attributeBase (.Call (.Name "super" a0) [] [] a1) "__init__" env (eval (.Call (.Name "super" a0) [] [] a1) env)
    standAt a2.atName
    let (f, first) ← holding [ov] (getMethod ov "__init__" pl)
    callWith a4 f first (backTo a4 (starEach [.Constant (.str msg) j a3] env)) [])
/-- what the written part says of such a class at C, its __init__ at fI -/
structure InitTxt (prog : Program) (K : Frag) (C fI : Addr) (B i B0 newId : String) (f : String) (qual : Str) : Prop where
  fn : ∃ (oc : Value) (od : Option Addr) (doc pm : Value) (an : Option Addr) (cda : Addr) (ct : Value) (cc : Addr) (osl : Array (Option Value)) (msg : Str) (j : Nat) (p1 p2 a0 a1 a2 a3 a4 a5 q1 q2 q3 q4 : Pos),
    K.lookup fI = some ⟨oc, od, .func (ksFn "__init__" qual (iArgs f p1 p2) (iBody f msg j a0 a1 a2 a3 a4 a5 q1 q2 q3 q4) (iScope f) .none .none doc pm an (.ref cda) ct cc), osl⟩ ∧ codeIn K (.ref cda) qual = true ∧
    (∃ (ccl : Value) (cdd : Option Addr) (vs : Array Value) (ccs : Array (Option Value)) (file : Str) (tf : Tok), K.lookup cda = some ⟨ccl, cdd, .fields vs, ccs⟩ ∧ vs[2]? = some (.str file tf) ∧ ((prog.main.file : Str) == file) = true) ∧
    (∃ (cl : Value) (cld : Option Addr) (csl : Array (Option Value)), K.lookup cc = some ⟨cl, cld, .cell (some (.ref C)), csl⟩) ∧ (∀ L a cd c2, EvOk (ksEnv qual (iScope f) L a cd c2) msg j a0 a1 a2 a3 a4)
  cls : ∃ nm q N bs bm sn sub ab col dd k0 k1 k2 k3 k5, K.lookup C = some (excClassObj nm q C N bs bm true sn sub ab col dd k0 k1 k2 k3 k5 newId) ∧ (∀ self, refuseLoop self "__setattr__" (.ref C :: bm) = pure ()) ∧ bm.contains (.type "object") = true ∧ NewOk bm B0
  newF : ∃ i0 bmB, ExcBaseFacts B0 newId i0 bmB
  iC : findIn K (.ref C) "__init__" = some (some (.ref fI))
  tI : typeIn K (.ref fI) = some (.type "function")
  self : mroIn K C (.ref C) = some true
  up : ks_superIn K C C "__init__" = some (some (.builtin i))
  isB : subIn K (.ref C) (.type B) = some true
  stat : nsIn K cStatics "thirdparty.any" = some none
  sa : findIn K (.ref C) "__setattr__" = some (some (.builtin "object.__setattr__"))
  noF : findIn K (.ref C) (Str.ofString f) = some none
  inF : InF B i
  sup : nsIn K mainGlobals "super" = some none
  top : (prog.main.scope.names.lookup ("super" : Str)).isSome = false
  fs : (Str.ofString f == ("self" : Str)) = false
  fsup : (iScope f).names.lookup ("super" : Str) = some .globalImplicit
  fcl : (iScope f).names.lookup ("__class__" : Str) = some .free
  ff : (iScope f).names.lookup (Str.ofString f) = some .local
  fdb : (Str.ofString f == ("__debug__" : Str)) = false
  ncell : ∀ x ∈ (iScope f).names, x.2 ≠ .cell
  bd : ∀ (b : List Stmt) (doc pm ct cv : Value) (an : Option Addr) (cc : Addr) (p1 p2 : Pos) (x v : Value), bindArgs (ksFn "__init__" qual (iArgs f p1 p2) b (iScope f) .none .none doc pm an cv ct cc) ⟨[x, v], []⟩ = pure [(("self" : Str), x), (Str.ofString f, v)]
section
open Builtin Builtin.ObjectAttr
variable {prog : Program} {w : World} {A : Around} {E : Value → Shared → Prop} {R : Result → Shared → Prop} {hp : Heap} {g : Array GenState} {d : Drawn} {t : Nat} {os : OsState}
/-- self.name = v on an exception that has no dict yet, whatever its bases -/
theorem osa_any {K : Frag} {name : Str} {tk : Tok} {v : Value} {x C : Addr} {fv : Array Value} {cd : ClassData}
    (X : K.In hp) (hx : hp.get? x = some { cls := .ref C, data := .fields fv }) (hcd : clsIn K C = some cd) (hp0 : refuseLoop (.ref x) "__setattr__" cd.mro = pure ()) (hob : cd.mro.contains (.type "object") = true) (hne : cd.mro.isEmpty = false)
    (hh : cd.hasDict = true) (ha : findIn K (.ref C) name = some none)
    (hq : ∀ h' tk' dx, (∀ b o, b ≠ x → hp.get? b = some o → h'.get? b = some o) → hp.objs.size ≤ dx → dx ≠ x → h'.get? x = some { cls := .ref C, dict := some dx, data := .fields fv } →
      h'.Ns1 dx (fun y => if y = name then some v else none) → R (.ok (.ret .none)) ⟨h', g, d, tk', os⟩) :
    codeAny (model prog w) A (.call (.builtin "object.__setattr__") ⟨[.ref x, .str name tk, v], []⟩) R ⟨hp, g, d, t, os⟩ := by
  have I : InstAt hp x { cls := .ref C, data := .fields fv } C none := ⟨hx, rfl, rfl, trivial⟩
  have SF := F.store_object
  have hxs : x ≠ hp.objs.size := Nat.ne_of_lt (Heap.lt_size hx)
  have hm0 : mroIn K C (.type "object") = some true := by
    unfold mroIn
    rw [hcd, Option.bind_some, if_neg (by rw [hne]; decide), hob]
  have sub : Looks (model prog w) hp (isInstance (.ref x) (.type "object")) true := I.type.andThen (looks_mroIn X hm0)
  refine codeAny_call_builtin SF.slot.plain SF.entry (@check_slot (model prog w) _ _ ⟨hp, g, d, t, os⟩ "object.__setattr__" "object" "__setattr__" (.ref x) [.str name tk, v] [] _ SF.kind SF.split sub (SF.args (.ref x) (.str name tk) v) ?_)
  have hmr : Looks (model prog w) hp (mroOf (.ref C)) cd.mro := (looks_clsIn X hcd).andThen .now
  have L3 : Looks (model prog w) hp (storeTaker? none) none := .now
  have hcls : Looks (model prog w) hp (classData C) cd := looks_clsIn X hcd
  rw [osa_eq, refuse_eq]
  refine wpAny_bind (wpAny_bind (I.type.at (wpAny_bind (hmr.at ?_))))
  rw [hp0]
  refine wpAny_pure (wpAny_bind (I.type.at (wpAny_bind ((looks_findIn X ha).at (wpAny_bind (L3.at ?_))))))
  show wpAny _ _ (storeInOwnDict (.ref x) (.ref C) (.str name tk) name v false) _ _ _
  obtain ⟨nm, bs, mro, ns, qn, hd, sn, sb, ab, col, del⟩ := cd
  dsimp only at hh
  subst hh
  unfold storeInOwnDict ownDictForStores
  repeat (first
    | with_reducible refine HandSPX.store_in_new ?_ ?_
    | with_reducible refine wpAny_loadPart_at hx ?_
    | with_reducible refine hcls.at ?_
    | wp_step)
  · exact ⟨_, #[], _, (Heap.get?_update_ne _ _ _ _ hxs.symm).trans (Heap.get?_push_at rfl rfl), rfl, fun e he => absurd he (by simp), fun _ => rfl⟩
  · intro h' tk' hn' hs
    have hx₁ : (hp.push { cls := .type "dict", data := .dict #[] }).get? x = some { cls := .ref C, data := .fields fv } := Heap.get?_push_of_some _ hx
    refine hq h' tk' hp.objs.size (fun b o hb ho => ?_) (Nat.le_refl _) hxs.symm ?_ hn'
    · exact (hs.2 b (Nat.ne_of_lt (Heap.lt_size ho))).trans ((Heap.get?_update_ne _ _ _ _ hb).trans (Heap.get?_push_of_some _ ho))
    · exact (hs.2 x hxs).trans (Heap.get?_update_self _ hx₁ rfl)
end
section
variable {prog : Program} {w : World} {A : Around} {E : Value → Shared → Prop} {R : Result → Shared → Prop} {s : Shared} {K : Frag} {C fI : Addr} {B i B0 newId : String} {f : String} {qual : Str} {mg : Str → Option Value}
theorem init_super (T : InitTxt prog K C fI B i B0 newId f qual) {x t0 : Addr} {v : Value} (X : K.In s.heap) (G : s.heap.Ns mainGlobals mg) (BB : ∃ mb, s.heap.Ns builtinsNs mb ∧ ∀ y : Str, y ≠ "__name__" → mb y = bootBuiltins y) (hlim : s.heap.NoLimit)
    (hx : s.heap.get? x = some (HandSPX.excO C t0)) (hnK : K.lookup x = none) (room : A.depth < recursionLimit)
    (hq : ∀ h' tk dx t1, (∀ b o, b ≠ x → s.heap.get? b = some o → h'.get? b = some o) → s.heap.objs.size ≤ dx → dx ≠ x →
      h'.get? x = some { cls := .ref C, dict := some dx, data := .fields #[.ref t1, .none, .none, .none, .bool false, .none] } → h'.Ns1 dx (fun y => if y = Str.ofString f then some v else none) → R (.ok (.ret .none)) { s with heap := h', toks := tk }) :
    codeAny (model prog w) A (.call (.ref fI) ⟨[.ref x, v], []⟩) R s := by
  obtain ⟨oc, od, doc, pm, an, cda, ct, cc, osl, msg, j, p1, p2, a0, a1, a2, a3, a4, a5, q1, q2, q3, q4, lk, hcq, ⟨ccl, cdd, vs, ccs, file, tf, lcd, hvs, hfile⟩, ⟨cl, cld, csl, lcc⟩, hev⟩ := T.fn
  obtain ⟨nm, q, N, bs, bm, sn, sub, ab, col, dd, k0, k1, k2, k3, k5, hC, hpass, hob, _⟩ := T.cls
  have hnx : x ≠ C := fun z => by
    have e := X _ _ hC
    rw [← z, hx] at e
    cases e
  have hcl : clsIn K C = some { name := nm, bases := bs, mro := .ref C :: bm, ns := N, qualname := q, hasDict := true, slotNames := sn, subclasses := sub, abstract := ab, collection := col, hasDel := false } := by
    unfold clsIn
    rw [hC] <;> rfl
  have hself : (iScope f).names.lookup ("self" : Str) = some .local := by
    unfold iScope
    rfl
  have ls : List.lookup ("self" : Str) ([(("self" : Str), Value.ref x), (Str.ofString f, v)].reverse) = some (.ref x) := by
    show List.lookup ("self" : Str) [(Str.ofString f, v), (("self" : Str), Value.ref x)] = _
    have e : (("self" : Str) == Str.ofString f) = false := by
      have z := T.fs
      rw [beq_eq_false_iff_ne] at z ⊢
      exact fun y => z y.symm
    simp [List.lookup, e]
  have lf : List.lookup (Str.ofString f) ([(("self" : Str), Value.ref x), (Str.ofString f, v)].reverse) = some v := by
    show List.lookup (Str.ofString f) [(Str.ofString f, v), (("self" : Str), Value.ref x)] = _
    simp [List.lookup]
  refine ks_codeAny_call_defAt (binds := [(("self" : Str), .ref x), (Str.ofString f, v)]) room (X _ _ lk) rfl hlim (codeRec_of X hcq) rfl (BindsTo.of_eq (T.bd _ _ _ _ _ _ _ _ _ _ _)) T.ncell (fun y hy => ?_) (fun h₁ hns hk₁ => ?_)
  · rcases List.mem_cons.mp hy with e | hy
    · rw [e]
      exact hself
    · rcases List.mem_cons.mp hy with e | hy
      · rw [e]
        exact T.ff
      · cases hy
  · have X₁ : K.In h₁ := X.keeps hk₁
    have hx₁ := hk₁ _ _ hx
    have hC₁ := X₁ _ _ hC
    show _root_.PySem.wpAt (model prog w) (A.deeper (ksEnv qual (iScope f) s.heap.objs.size fI (.ref cda) cc)) (.func (iBody f msg j a0 a1 a2 a3 a4 a5 q1 q2 q3 q4) (ksEnv qual (iScope f) s.heap.objs.size fI (.ref cda) cc))
      (execs (iBody f msg j a0 a1 a2 a3 a4 a5 q1 q2 q3 q4) (ksEnv qual (iScope f) s.heap.objs.size fI (.ref cda) cc)) _ _ _
    obtain ⟨pl, hev⟩ := hev s.heap.objs.size fI (.ref cda) cc
    refine ks_wpAt_execs_cons (ks_wpAt_Expr_any (ks_wpAt_MethodCall (pl := pl) ?_ hev))
    refine ks_wpAt_super_base (env := ksEnv qual (iScope f) s.heap.objs.size fI (.ref cda) cc) T.fsup T.fcl (by decide) rfl (X₁ _ _ lk) rfl rfl rfl (X₁ _ _ lcd) rfl hvs hfile T.top ?_
    obtain ⟨mb, hb, hbb⟩ := BB
    have hsup : mg "super" = none := mg_none_of X G T.sup
    refine ks_loadName_global rfl T.fsup (loadGlobal_builtin (env := ksEnv qual (iScope f) s.heap.objs.size fI (.ref cda) cc) (G.keeps hk₁) hsup (hb.keeps hk₁) ((hbb _ (by decide +kernel)).trans (by decide +kernel)) ⟨rfl, ?_⟩)
    refine wpAny_loadName_free rfl T.fcl rfl ⟨_, X₁ _ _ lcc, rfl⟩ ?_
    refine wpAny_loadName_local rfl hself hns ls ?_
    refine ks_wpAny_isType_cls hC₁ rfl ⟨rfl, ?_⟩
    refine ks_wpAny_call_super hC₁ rfl hx₁ rfl (fun c e => nomatch e) (looks_mroIn X₁ T.self) (fun h₂ e₂ k₂ => ?_)
    have X₂ : K.In h₂ := X₁.keeps k₂
    have hx₂ := k₂ _ _ hx₁
    have I₂ : InstAt h₂ x (HandSPX.excO C t0) C none := ⟨hx₂, rfl, rfl, trivial⟩
    have hm := T.up
    unfold ks_superIn at hm
    rw [hcl] at hm
    refine kxs_getMethod T.inF.kf e₂ (looks_opaque X₂ T.stat) (l₀ := .ref C :: bm) ?_ rfl X₂ hm (I₂.type.andThen (looks_subIn X₂ T.isB)) hnx (by decide) ?_
    · exact (looks_clsIn X₂ hcl).andThen .now
    · have k₃ : ∀ b o, h₂.get? b = some o → (h₂.push (kxs_mw i x)).get? b = some o := fun b o e => Heap.get?_push_of_some _ e
      have hu : (h₂.push (kxs_mw i x)).get? h₂.objs.size = some (kxs_mw i x) := Heap.get?_push_at rfl rfl
      have hC₃ := k₃ _ _ (X₂ _ _ hC)
      have hx₃ := k₃ _ _ hx₂
      refine kxs_callWith (i := i) (x := x) rfl (evalArgs_plain ?_)
      show wpAny _ _ (spliced ((false, eval (.Constant (.str msg) j a3) _) :: backTo a4 (starEach [] _))) _ _ _
      refine Calls.spliced_cons (wpAny_Constant_str (Calls.spliced_nil ⟨hu, ?_⟩))
      refine call_mw T.inF hC₃ hx₃ hu (by show 1 ≤ sizeLine; rw [sizeLine_eq]; omega) (fun h₄ t1 k₄ hx₄ => ?_)
      refine wpAt_of_wpAny (wpAny_execs_cons (plainObj_wpAny_Assign_Attribute ?_))
      have hLx : s.heap.objs.size ≠ x := Nat.ne_of_gt (Heap.lt_size hx)
      have hns₄ : h₄.Ns s.heap.objs.size (fun y => List.lookup y ([(("self" : Str), Value.ref x), (Str.ofString f, v)].reverse)) := by
        obtain ⟨oL, es, ep, hL, r⟩ := hns
        exact ⟨oL, es, ep, k₄ _ _ hLx (k₃ _ _ (k₂ _ _ hL)), r⟩
      have X₄ : K.In h₄ := fun b o e => by
        by_cases hb : b = x
        · rw [hb, hnK] at e
          cases e
        · exact k₄ _ _ hb (k₃ _ _ (X₂ _ _ e))
      refine wpAny_Name (wpAny_loadName_local rfl T.ff hns₄ lf ?_) T.fdb
      refine wpAny_Name (wpAny_loadName_local rfl hself hns₄ ls ?_) (by decide)
      refine set_plain X₄ (ox := HandSPX.excO C t1) (od := none) ⟨hx₄, rfl, rfl, trivial⟩ T.sa ?_
      refine osa_any X₄ hx₄ hcl (hpass _) (by rw [List.contains_cons, hob, Bool.or_true]) rfl rfl T.noF (fun h₅ tk₅ dx k₅ dn dne hx₅ hn₅ => ?_)
      show wpAny _ _ (execs _ _) _ _ _
      refine wpAny_execs_nil ?_
      have z : s.heap.objs.size ≤ h₄.objs.size := Nat.le_of_lt hns₄.lt
      exact hq h₅ tk₅ dx t1 (fun b o hb e => k₅ b o hb (k₄ b o hb (k₃ _ _ (k₂ _ _ (hk₁ b o e))))) (Nat.le_trans z dn) dne hx₅ hn₅
/-- C(v): what is left of the call of such a class -/
structure ExMade (h h' : Heap) (e C d : Addr) (f : String) (v : Value) : Prop where
  keep : ∀ b o, h.get? b = some o → h'.get? b = some o
  new : h.objs.size ≤ e
  obj : ∃ t1 : Addr, h'.get? e = some ({ cls := .ref C, dict := some d, data := .fields #[.ref t1, .none, .none, .none, .bool false, .none] } : Obj)
  dbig : h.objs.size ≤ d
  dne : d ≠ e
  ns : h'.Ns1 d (fun y => if y = Str.ofString f then some v else none)
end
section
variable {prog : Program} {w : World} {M : Model} {A : Around} {E : Value → Shared → Prop} {R : Result → Shared → Prop} {h : Heap} {g : Array GenState} {d : Drawn} {t : Nat} {os : OsState}
variable {nm q : Str} {C N : Addr} {bs bm bmB : List Value} {hdct : Bool} {sn : List Str} {sub : List Value} {ab : Bool} {col : Option Bool} {dd : Option Addr} {k0 k1 k2 k3 k5 : Option Value} {B newId initId : String}
theorem chk_new (F : ExcBaseFacts B newId initId bmB) (O : NewOk bm B) {rest : List Value} {Q : Unit → Shared → Prop}
    (hC : h.get? C = some (excClassObj nm q C N bs bm hdct sn sub ab col dd k0 k1 k2 k3 k5 newId)) (hq : Q () ⟨h, g, d, t, os⟩) :
    wpAny M A (checkBuiltinCall newId ⟨.ref C :: rest, []⟩) Q E ⟨h, g, d, t, os⟩ := by
  have hcont : (Value.ref C :: bm).contains (.type B) = true := by rw [List.contains_cons, O.hasB, Bool.or_true]
  have hs := F.noStar
  simp only [checkBuiltinCall, F.newKind, F.newSplit, F.newRow]
  repeat (first
    | refine wpAny_loadPart_at hC ?_
    | (refine wpAny_isSubtype_exc hC ?_; rw [hcont])
    | refine wpAny_staticBase_exc hC ?_
    | refine wpAny_madeBy_exc hC ?_
    | simp only [bne_self_eq_false, Bool.false_eq_true, if_false]
    | wp_step)
  exact hq
theorem new_any (F : ExcBaseFacts B newId initId bmB) (O : NewOk bm B) {rest : List Value}
    (hC : h.get? C = some (excClassObj nm q C N bs bm hdct sn sub ab col dd k0 k1 k2 k3 k5 newId))
    (hq : R (.ok (.ret (.ref (h.objs.size + 1)))) ⟨(h.push (kdv_tup rest)).push (HandSPX.excO C h.objs.size), g, d, t, os⟩) (hrest : rest.length ≤ sizeLine) :
    codeAny (model prog w) A (.builtin newId ⟨.ref C :: rest, []⟩) R ⟨h, g, d, t, os⟩ := by
  have hends := F.ends
  have hcB : (Value.ref C :: bm).contains (.type B) = true := by rw [List.contains_cons, O.hasB, Bool.or_true]
  have hcA : (Value.ref C :: bm).contains (.type "AttributeError") = false := by rw [List.contains_cons, O.noA]; rfl
  have hcN : (Value.ref C :: bm).contains (.type "NameError") = false := by rw [List.contains_cons, O.noN]; rfl
  refine codeAny_builtinAt F.entry ?_
  unfold Builtin.«BaseException.__new__»
  refine wpAt_bind ?_
  show wpAt _ _ _ (stack >>= _) _ _ _
  refine wpAt_bind (wpAt_stack fun p below => wpAt_of_wpAny ?_)
  wp_walk
  refine wpAt_of_wpAny ?_
  rw [F.owner]
  repeat (first
    | with_reducible refine wpAny_madeHere_exc F.canon hC ?_
    | with_reducible refine wpAny_loadPart_at hC ?_
    | (with_reducible refine wpAny_isSubtype_exc hC ?_; first | rw [hcB] | rw [hcA] | rw [hcN])
    | wp_step)
  show R _ _
  rw [Heap.size_push]
  exact hq
theorem type_any (F : ExcBaseFacts B newId initId bmB) (O : NewOk bm B) {rest : List Value} {fI : Addr} {Q : Fin → Shared → Prop}
    (hC : h.get? C = some (excClassObj nm q C N bs bm hdct sn sub ab col dd k0 k1 k2 k3 k5 newId))
    (hi : Looks (model prog w) h (typeLookup (.ref C) "__init__") (some (.ref fI))) (hb : ∀ self, Looks (model prog w) h (bindSpecial (.ref fI) self) (.ref fI, [self])) (hrest : rest.length ≤ sizeLine)
    (hq : codeAny (model prog w) A (.call (.ref fI) ⟨.ref (h.objs.size + 1) :: rest, []⟩)
      (fun r s' => match r with
        | .ok (.ret v) => v = .none ∧ Q (.done (.ret (.ref (h.objs.size + 1)))) s'
        | .ok _ => False
        | .error e => E e s') ⟨(h.push (kdv_tup rest)).push (HandSPX.excO C h.objs.size), g, d, t, os⟩) :
    wpAny (model prog w) A (Builtin.«type.__call__» ⟨.ref C :: rest, []⟩) Q E ⟨h, g, d, t, os⟩ := by
  repeat (first
    | with_reducible refine wpAny_loadPart_at hC ?_
    | with_reducible refine wpAny_madeBy_exc hC ?_
    | wp_step)
  refine codeAny_call_builtin_code (Code.quiet_builtin _ F.quiet) (chk_new F O hC ?_)
  refine new_any F O hC ?_ hrest
  show wpAny _ _ _ _ _ _
  have k : ∀ b o, h.get? b = some o → ((h.push (kdv_tup rest)).push (HandSPX.excO C h.objs.size)).get? b = some o := fun b o e => Heap.get?_push_of_some _ (Heap.get?_push_of_some _ e)
  have hC₁ := k _ _ hC
  have hget : ((h.push (kdv_tup rest)).push (HandSPX.excO C h.objs.size)).get? (h.objs.size + 1) = some (HandSPX.excO C h.objs.size) := by heap_get
  have hcC : (Value.ref C :: bm).contains (.ref C) = true := by simp
  have i1 := hi.keeps k
  have b1 := (hb (.ref (h.objs.size + 1))).keeps k
  unfold isInstance
  repeat (first
    | with_reducible refine wpAny_loadPart_at hget ?_
    | (with_reducible refine wpAny_isSubtype_exc hC₁ ?_; rw [hcC])
    | wp_step)
  show wpAny _ _ (typeLookup (.ref C) _) _ _ _
  refine i1.at ?_
  refine wpAny_holding (wpAny_bind (b1.at ?_))
  refine wpAny_bind (wpAny_call (codeAny_mono hq fun r s' z => ?_))
  rcases r with e | (v | _ | _ | _) <;> first | exact z | exact z.elim | skip
  obtain ⟨rfl, z⟩ := z
  first
    | exact wpAny_pure (wpAny_pure z)
    | (wp_walk; exact z)
theorem call_any (F : ExcBaseFacts B newId initId bmB) (O : NewOk bm B) {rest : List Value} {fI : Addr}
    (hC : h.get? C = some (excClassObj nm q C N bs bm hdct sn sub ab col dd k0 k1 k2 k3 k5 newId))
    (hi : Looks (model prog w) h (typeLookup (.ref C) "__init__") (some (.ref fI))) (hb : ∀ self, Looks (model prog w) h (bindSpecial (.ref fI) self) (.ref fI, [self])) (hrest : rest.length ≤ sizeLine)
    (hq : codeAny (model prog w) (A.under (.builtin "type.__call__" ⟨.ref C :: rest, []⟩)) (.call (.ref fI) ⟨.ref (h.objs.size + 1) :: rest, []⟩) (InitBack (h.objs.size + 1) R)
      ⟨(h.push (kdv_tup rest)).push (HandSPX.excO C h.objs.size), g, d, t, os⟩) :
    codeAny (model prog w) A (.call (.ref C) ⟨rest, []⟩) R ⟨h, g, d, t, os⟩ := by
  have f1 := tc_lookup
  have f2 := tc_bind (.ref C)
  have hTy : (⟨h, g, d, t, os⟩ : Shared).TypeIs (.ref C) "type" := ⟨_, hC, rfl⟩
  refine codeAny_of_tree ?_
  show wpAny _ _ (callAny (.ref C) _) _ _ _
  repeat (any_goals (first | assumption | with_reducible refine wpAny_loadPart_at hC ?_ | wp_step))
  refine ⟨rfl, ?_⟩
  refine codeAny_call_builtin_at (Code.quiet_builtin _ (by decide +kernel)) entry_typeCall (wpAny_check_type_call_sub hC (type_any F O hC hi hb hrest ?_))
  refine codeAny_mono hq fun r s' z => ?_
  rcases r with e | (v | _ | _ | _) <;> exact z
end
section
variable {prog : Program} {w : World} {A : Around} {R : Result → Shared → Prop} {s : Shared} {K : Frag} {C fI : Addr} {B i B0 newId : String} {f : String} {qual : Str} {mg : Str → Option Value}
theorem one_ok (v : Value) : [v].length ≤ sizeLine := by
  show 1 ≤ sizeLine
  rw [sizeLine_eq]
  omega
theorem made (T : InitTxt prog K C fI B i B0 newId f qual) {v : Value} (X : K.In s.heap) (G : s.heap.Ns mainGlobals mg) (BB : ∃ mb, s.heap.Ns builtinsNs mb ∧ ∀ y : Str, y ≠ "__name__" → mb y = bootBuiltins y) (hlim : s.heap.NoLimit)
    (room : A.depth + 1 < recursionLimit) (hq : ∀ h' tk e d, ExMade s.heap h' e C d f v → R (.ok (.ret (.ref e))) { s with heap := h', toks := tk }) :
    codeAny (model prog w) A (.call (.ref C) ⟨[v], []⟩) R s := by
  obtain ⟨nm, q, N, bs, bm, sn, sub, ab, col, dd, k0, k1, k2, k3, k5, hC, _, _, O⟩ := T.cls
  obtain ⟨i0, bmB, FB⟩ := T.newF
  obtain ⟨hp, g, dr, tk, os⟩ := s
  have k : ∀ b o, hp.get? b = some o → ((hp.push (kdv_tup [v])).push (HandSPX.excO C hp.objs.size)).get? b = some o := fun b o e => Heap.get?_push_of_some _ (Heap.get?_push_of_some _ e)
  have hget : ((hp.push (kdv_tup [v])).push (HandSPX.excO C hp.objs.size)).get? (hp.objs.size + 1) = some (HandSPX.excO C hp.objs.size) := by heap_get
  have hnK : K.lookup (hp.objs.size + 1) = none := by
    cases e : K.lookup (hp.objs.size + 1) with
    | none => rfl
    | some o =>
      have z : hp.get? (hp.objs.size + 1) = some o := X _ _ e
      exact absurd (Nat.lt_of_succ_lt (Heap.lt_size z)) (Nat.lt_irrefl _)
  refine call_any FB O (X _ _ hC) (looks_findIn X T.iC) (fun self => bind_fn X self T.tI) (one_ok v) ?_
  refine init_super (s := ⟨(hp.push (kdv_tup [v])).push (HandSPX.excO C hp.objs.size), g, dr, tk, os⟩) T (X.keeps k) (G.keeps k) (let ⟨mb, h1, h2⟩ := BB; ⟨mb, h1.keeps k, h2⟩) (hlim.keeps k) hget hnK ?_ fun h' tk' dx t1 k' dn dne hx hns => ?_
  · show A.depth + 1 < recursionLimit
    exact room
  · have old : ∀ b o, hp.get? b = some o → h'.get? b = some o := fun b o e => k' b o (Nat.ne_of_lt (Nat.lt_succ_of_lt (Heap.lt_size e))) (k b o e)
    have z : hp.objs.size + 1 + 1 ≤ dx := by
      have q := dn
      rw [Heap.size_push, Heap.size_push] at q
      exact q
    exact ⟨rfl, hq h' tk' (hp.objs.size + 1) dx ⟨old, Nat.le_succ _, ⟨t1, hx⟩, Nat.le_trans (Nat.le_trans (Nat.le_succ _) (Nat.le_succ _)) z, dne, hns⟩⟩
end
end NvE
end PySem

set_option Elab.async false
set_option linter.all false
set_option maxRecDepth 100000
set_option maxHeartbeats 4000000
/-! # Rules over the hand layer: such exceptions raised, held as values, asked for their class and their fields -/
namespace L2
open PySem PySem.Spec PyProof.Rows
theorem relO_one {f : Str} {v : V} {u : Value} (r : RelV v u) (y : Str) : RelO (List.lookup y [(f, v)]) (if y = f then some u else none) := by
  by_cases h : y = f
  · subst h
    rw [if_pos rfl]
    have q : List.lookup y [(y, v)] = some v := by simp [List.lookup]
    rw [q]
    exact r
  · rw [if_neg h]
    have e : (y == f) = false := by simpa using h
    have q : List.lookup y [(f, v)] = none := by simp [List.lookup, e]
    rw [q]
    trivial
section
variable {X : Cx} {C fI : Addr} {B i B0 newId : String} {f : String} {qual : Str}
/-- what the rules ask of the class x at C, whose __init__ keeps its argument in the field f -/
structure KeepC (X : Cx) (x : Str) (C : Addr) (f : String) : Prop where
  tx : ∃ (fI : Addr) (B i B0 newId : String) (qual : Str), PySem.NvE.InitTxt X.prog X.K C fI B i B0 newId f qual
  gC : X.mg x = some (.ref C)
  kC : PySem.W.keepIn X.K (.ref C) = true
  exC : PySem.W.subIn X.K (.ref C) (.type "BaseException") = some true
  tyC : PySem.W.typeIn X.K (.ref C) = some (.type "type")
theorem call_keep {x : Str} {f : String} (T : KeepC X x C f) {pins : List (Addr × Obj)} {σ : St} {H : Hp} {s : Shared} {u : Value} {Q : Value → Shared → Prop} {E : Value → Shared → Prop} (I : Inv X pins σ H s) (room : X.A.depth + 1 < recursionLimit)
    (hq : ∀ h' tk e d, PySem.NvE.ExMade s.heap h' e C d f u → Q (.ref e) { s with heap := h', toks := tk }) : wpAny (model X.prog X.w) X.A (call (.ref C) [u]) Q E s := by
  obtain ⟨fI, B, i, B0, newId, qual, T0⟩ := T.tx
  refine wpAny_call (PySem.NvE.made T0 I.kIn (I.mod.glob.keeps I.bk) (let ⟨mb, h1, h2⟩ := I.mod.blt; ⟨mb, h1.keeps I.bk, h2⟩) I.nolimit room fun h' tk e d M => ?_)
  exact hq h' tk e d M
/-- X(e), to be raised -/
def tMkKeep (C : Addr) (f : String) (ta : TA) : St → Hp → XK → Prop := fun σ H Q => ta σ H fun vs H1 => ∃ v, vs = [v] ∧ ∀ d, H1 d = none → Q (.ref C) (some d) (upd H1 d (.xd [(Str.ofString f, v)]))
theorem pmk_keep {x : Str} {f : String} {a : Expr} {ta : TA} {p pos : Pos} {k : Nat} (T : KeepC X x C f) (hr : Room k X.A) (ha : PA X [a] ta) (hg : Gl X x := by rfl) (hdb : (x == ("__debug__" : Str)) = false := by decide)
    (he : starEach (a :: []) X.env = (false, eval a X.env) :: starEach [] X.env := by rfl) (hpl : (backTo pos (starEach [] X.env)).any (·.1) = false := by rfl) :
    PMk X (.Call (.Name x p) [a] [] pos) (tMkKeep C f ta) := by
  intro pins s σ H Q I h
  refine wpAny_Call_Name_kw (ld_glob I hg T.gC ?_ hdb)
  refine PySem.W.callWith_K (h₀ := X.base) I.ok.mod.kin T.kC (thn (ha.run pos pins s σ H _ I h) fun us s1 hh => ?_) he hpl
  obtain ⟨vs, H1, I1, r1, v, ev, q1⟩ := hh
  subst ev
  refine ⟨I1.kIn, ?_⟩
  cases r1 with
  | cons rv rn =>
    rename_i v' us'
    cases rn
    show wpAny _ _ (call (.ref C) [v']) _ _ _
    refine call_keep T I1 (by have := hr.dp; omega) fun h' tk' e d M => ?_
    obtain ⟨hp, g, dr, tk, os⟩ := s1
    show MkP X pins σ Q (.ref e) ⟨h', g, dr, tk', os⟩
    obtain ⟨t1, hoe⟩ := M.obj
    have hns := M.ns
    obtain ⟨G', g1, g2⟩ := restrict h' fun b => decide (b ≠ e)
    have gk : ∀ b, b ≠ e → G'.get? b = h'.get? b := fun b hb => g1 b (decide_eq_true hb)
    have ge : G'.get? e = none := g2 e (by simp)
    have old : ∀ b o, hp.get? b = some o → G'.get? b = some o := fun b o q => (gk b (Nat.ne_of_lt (Nat.lt_of_lt_of_le (Heap.lt_size q) M.new))).trans (M.keep b o q)
    have ob : ObjOk X.prog X.w (upd H1 d (.xd [(Str.ofString f, v)])) G' d (.xd [(Str.ofString f, v)]) := ⟨_, hns.at (fun o q => (gk d M.dne).trans q), fun y => relO_one rv y⟩
    have J : Inv X pins σ (upd H1 d (.xd [(Str.ofString f, v)])) ⟨G', g, dr, tk', os⟩ := I1.laid (t' := tk') old M.dbig ob
    refine ⟨e, _, _, ⟨G', g, dr, tk', os⟩, _, .ref C, some d, rfl, J, fun b o q => ?_, ge, hoe, ⟨rfl, rfl⟩, rfl, rfl, ?_, rfl, I1.bare, raises_own T.exC T.tyC, q1 d (I1.hok.fresh M.dbig)⟩
    · by_cases hb : b = e
      · have q' : G'.get? b = some o := q
        rw [hb, ge] at q'
        cases q'
      · exact (gk b hb).symm.trans q
    · rw [upd_ne (Ne.symm M.dne)]
      exact I1.hok.fresh M.new
/-- X(e) as a value: a new exception object and its dict -/
def tKeep (C : Addr) (f : String) (ta : TA) : TE := fun σ H Q => ta σ H fun vs H1 => ∃ v, vs = [v] ∧ ∀ a d, H1 a = none → H1 d = none → d ≠ a → Q (.ref a) (upd (upd H1 d (exd d [(Str.ofString f, v)])) a (exo a C (some d)))
theorem pe_keep {x : Str} {f : String} {a : Expr} {ta : TA} {p pos : Pos} {k : Nat} (T : KeepC X x C f) (hr : Room k X.A) (ha : PA X [a] ta) (hg : Gl X x := by rfl) (hdb : (x == ("__debug__" : Str)) = false := by decide)
    (he : starEach (a :: []) X.env = (false, eval a X.env) :: starEach [] X.env := by rfl) (hpl : (backTo pos (starEach [] X.env)).any (·.1) = false := by rfl) :
    PE X (.Call (.Name x p) [a] [] pos) (tKeep C f ta) := by
  refine ⟨fun pins s σ H Q I h => ?_⟩
  refine wpAny_Call_Name_kw (ld_glob I hg T.gC ?_ hdb)
  refine PySem.W.callWith_K (h₀ := X.base) I.ok.mod.kin T.kC (thn (ha.run pos pins s σ H _ I h) fun us s1 hh => ?_) he hpl
  obtain ⟨vs, H1, I1, r1, v, ev, q1⟩ := hh
  subst ev
  refine ⟨I1.kIn, ?_⟩
  cases r1 with
  | cons rv rn =>
    rename_i v' us'
    cases rn
    show wpAny _ _ (call (.ref C) [v']) _ _ _
    refine call_keep T I1 (by have := hr.dp; omega) fun h' tk' e d M => ?_
    obtain ⟨t1, hoe⟩ := M.obj
    have hns := M.ns
    have ne := I1.hok.fresh M.new
    have nd := I1.hok.fresh M.dbig
    have be : ∀ {b : Addr} {o : Obj}, s1.heap.get? b = some o → b ≠ e := fun {b o} q => Nat.ne_of_lt (Nat.lt_of_lt_of_le (Heap.lt_size q) M.new)
    have bd : ∀ {b : Addr} {o : Obj}, s1.heap.get? b = some o → b ≠ d := fun {b o} q => Nat.ne_of_lt (Nat.lt_of_lt_of_le (Heap.lt_size q) M.dbig)
    have U : Un X.fs [] H1 (upd (upd H1 d (exd d [(Str.ofString f, v)])) e (exo e C (some d))) s1.heap h' := {
      keep := fun b o q _ _ _ => M.keep b o q
      slot := fun b o q _ _ _ => ⟨o.slots, M.keep b o q⟩
      free := fun b o q n _ => by
        rw [upd_ne (be q), upd_ne (bd q)]
        exact n
      there := fun b o q _ => ⟨o, M.keep b o q⟩
      tups := fun b xs q => by
        rw [upd_ne (ne_of_none q ne), upd_ne (ne_of_none q nd)]
        exact q
      frzs := fun b o u q => by
        rw [upd_ne (ne_of_none q ne), upd_ne (ne_of_none q nd)]
        exact q
      tbls := fun b ps q => ⟨#[], by
        rw [upd_ne (ne_of_none q ne), upd_ne (ne_of_none q nd), q]
        simp⟩ }
    have ok : HOk X.prog X.w (upd (upd H1 d (exd d [(Str.ofString f, v)])) e (exo e C (some d))) h' := fun b o q => by
      by_cases hb : b = e
      · subst hb
        rw [upd_same] at q
        cases q
        exact exo_ok hoe
      · rw [upd_ne hb] at q
        by_cases hd : b = d
        · subst hd
          rw [upd_same] at q
          cases q
          exact exd_ok hns (relO_one rv)
        · rw [upd_ne hd] at q
          refine (I1.hok b o q).stay (fun c u _ z => M.keep c u z) (fun c z => ?_) (fun c xs z => ?_)
          · rw [upd_ne (ne_of_none z ne), upd_ne (ne_of_none z nd)]
            exact z
          · rw [upd_ne (ne_of_none z ne), upd_ne (ne_of_none z nd)]
            exact z
    exact ⟨.ref e, _, I1.un (t' := tk') U ok, rfl, q1 e d ne nd M.dne⟩
end
end L2

set_option Elab.async false
set_option linter.all false
set_option maxRecDepth 100000
set_option maxHeartbeats 8000000
/-! # zip of two texts -/
namespace NvZ
open PySem PySem.Spec PyProof.Rows L2
def ItzS (x y : Str) : It := ⟨fun i _ => i < min x.cps.size y.cps.size,
  fun i H v H' => ∃ (T : Addr) (a b : Nat), v = .ref T ∧ H T = none ∧ H' = upd H T (.tup [.str ⟨#[a]⟩, .str ⟨#[b]⟩]) ∧ x.cps[i]? = some a ∧ y.cps[i]? = some b,
  fun i _ => i = min x.cps.size y.cps.size⟩
theorem turn_zipS {P : Program} {w : World} {K : PySem.W.Frag} {elts : List Expr} {kk : Nat} {tpos : Pos} {x y : Str} {t1 t2 : Tok} {z TI TO i1 i2 : Addr} (S : ZipSep2 z TI TO i1 i2 [i1] [i2]) :
    Turn P w K (.Tuple elts kk tpos) (ItzS x y) (z :: TI :: TO :: ([i1] ++ [i2])) z (fun i h => IsZip h z TI TO .none ∧ IsTupOf2 h TI (.ref i1) (.ref i2) ∧ (∃ a1 a2, IsTupOf2 h TO a1 a2) ∧ h.IsStrIter i1 (strIterType x) x t1 i ∧ h.IsStrIter i2 (strIterType y) y t2 i) where
  mem := by simp
  obj := fun i h st c hc => by
    obtain ⟨hz, hTI, ⟨a1, a2, hTO⟩, ⟨o1, e1, _, d1⟩, ⟨o2, e2, _, d2⟩⟩ := st
    have e' : c = z ∨ c = TI ∨ c = TO ∨ c = i1 ∨ c = i2 := by simpa using hc
    rcases e' with q | q | q | q | q
    · rw [q]; exact ⟨_, hz, fun v q => nomatch q⟩
    · rw [q]; exact ⟨_, hTI, fun v q => nomatch q⟩
    · rw [q]; exact ⟨_, hTO, fun v q => nomatch q⟩
    · rw [q]; exact ⟨o1, e1, fun v q => by rw [d1] at q; cases q⟩
    · rw [q]; exact ⟨o2, e2, fun v q => by rw [d2] at q; cases q⟩
  keep := fun i h h' st k => by
    obtain ⟨hz, hTI, ⟨a1, a2, hTO⟩, ⟨o1, e1, r1⟩, ⟨o2, e2, r2⟩⟩ := st
    exact ⟨k z (by simp) _ hz, k TI (by simp) _ hTI, ⟨a1, a2, k TO (by simp) _ hTO⟩, ⟨o1, k i1 (by simp) _ e1, r1⟩, ⟨o2, k i2 (by simp) _ e2, r2⟩⟩
  item := by
    intro X hP hw hK hc i pins s σ H E I hf st hg
    subst hP hw hK
    have hh : X.A.in1.handled = none := I.ok.hd hc
    have G := GoesN.zip2 (elts := elts) (x1 := kk) (pos := tpos) S (Draws.text (prog := X.prog) (w := X.w) (A := X.A.in1) hh i1 x t1) (Draws.text (prog := X.prog) (w := X.w) (A := X.A.in1) hh i2 y t2)
    have live : ∀ b ∈ (z :: TI :: TO :: ([i1] ++ [i2])), b < s.heap.objs.size := fun b hb => by
      obtain ⟨hz, hTI, ⟨a1, a2, hTO⟩, ⟨o1, e1, _⟩, ⟨o2, e2, _⟩⟩ := id st
      have e' : b = z ∨ b = TI ∨ b = TO ∨ b = i1 ∨ b = i2 := by simpa using hb
      rcases e' with q | q | q | q | q
      · rw [q]; exact Heap.lt_size hz
      · rw [q]; exact Heap.lt_size hTI
      · rw [q]; exact Heap.lt_size hTO
      · rw [q]; exact Heap.lt_size e1
      · rw [q]; exact Heap.lt_size e2
    refine G.goes i s (fun u s2 => ∃ v H', Inv X pins σ H' s2 ∧ RelV v u ∧ (ItzS x y).yld i H v H' ∧ _ ∧ ∀ b ∈ _, H' b = none) E hg st fun v h' tk hY st' hk htk => ?_
    obtain ⟨T, vx, vy, rfl, hT, ⟨c1, u1, hx, rfl⟩, ⟨c2, u2, hy, rfl⟩, hIs⟩ := hY
    have new : ObjOk X.prog X.w (upd H T (.tup [.str ⟨#[c1]⟩, .str ⟨#[c2]⟩])) h' T (.tup [.str ⟨#[c1]⟩, .str ⟨#[c2]⟩]) :=
      ⟨by show 2 ≤ sizeLine; decide, [.str ⟨#[c1]⟩ u1, .str ⟨#[c2]⟩ u2], .cons ⟨u1, rfl⟩ (.cons ⟨u2, rfl⟩ .nil), hIs⟩
    have I1 : Inv X pins σ (upd H T (.tup [.str ⟨#[c1]⟩, .str ⟨#[c2]⟩])) { s with heap := h', toks := tk } :=
      I.turnedNew (t' := tk) (ch := [z, TO, i1, i2]) hk (fun b hb => hf b (by
        have e' : b = z ∨ b = TO ∨ b = i1 ∨ b = i2 := by simpa using hb
        rcases e' with q | q | q | q <;> rw [q] <;> simp)) hT new
    refine ⟨.ref T, _, I1, rfl, ⟨T, c1, c2, rfl, I.hok.fresh hT, rfl, hx, hy⟩, st', fun b hb => ?_⟩
    rw [upd_ne (Nat.ne_of_lt (Nat.lt_of_lt_of_le (live b hb) hT))]
    exact (hf b hb).1
  done := by
    intro X hP hw hK hc i pins s σ H E I hf st hg
    subst hP hw hK
    have hh : X.A.in1.handled = none := I.ok.hd hc
    have G := GoesN.zip2 (elts := elts) (x1 := kk) (pos := tpos) S (Draws.text (prog := X.prog) (w := X.w) (A := X.A.in1) hh i1 x t1) (Draws.text (prog := X.prog) (w := X.w) (A := X.A.in1) hh i2 y t2)
    have hg : i = min x.cps.size y.cps.size := hg
    subst hg
    refine G.stops s (fun s1 => Inv X pins σ H s1) E st fun h' tk hk htk => ?_
    exact I.turnedL (t' := tk) (ch := [z, TO, i1, i2]) hk fun b hb => hf b (by
      have e' : b = z ∨ b = TO ∨ b = i1 ∨ b = i2 := by simpa using hb
      rcases e' with q | q | q | q <;> rw [q] <;> simp)
  self := fun A i s Q E st h => wpAny_pyIter_zip st.1 h
def iZipS (ta : TA) : TI := fun σ H R => ta σ H fun vs H1 => ∃ x y : Str, vs = [.str x, .str y] ∧ R (ItzS x y) H1
theorem pi_zipS {X : Cx} {e e2 : Expr} {ta : TA} {p pos tpos : Pos} {elts : List Expr} {kk : Nat} (hg : Gl X "zip") (hm : X.mg "zip" = none) (ha : PA X [e, e2] ta)
    (hs : starEach [e, e2] X.env = (false, eval e X.env) :: starEach [e2] X.env := by rfl) (hpl : (backTo pos (starEach [e2] X.env)).any (·.1) = false := by rfl) :
    PI X (.Tuple elts kk tpos) (.Call (.Name "zip" p) [e, e2] [] pos) (iZipS ta) := by
  refine ⟨fun pins s σ H R I h => ?_⟩
  refine Call_ (ld_blt I hg hm PyProof.Rows.boot_zip (PyProof.Rows.callWith_type1 (thn (ha.run pos pins s σ H _ I h) fun us s1 ⟨vs, H1, I1, r1, q1⟩ => ?_) hs hpl))
  obtain ⟨x, y, ex, q⟩ := q1
  subst ex
  obtain ⟨u1, u2, rfl, ⟨t1, rfl⟩, ⟨t2, rfl⟩⟩ := vals2 r1
  refine zip_begins2 (begins_text x t1) (begins_text y t2) trivial trivial fun h' hz hTI hTO h1 h2 hsz hk => wpAny_pyIter_zip hz ?_
  have I2 : Inv X pins σ H1 { s1 with heap := h' } := I1.kept (t' := s1.toks) hk
  refine ⟨s1.heap.objs.size + 4, _, _, _, H1, rfl, I2, turn_zipS (t1 := t1) (t2 := t2) (zip_sep2 (N := s1.heap.objs.size) (fp1 := []) (fp2 := []) (fun b hb => by cases hb) (fun b hb => by cases hb)), ⟨hz, hTI, ⟨_, _, hTO⟩, ⟨_, h1, rfl, rfl⟩, ⟨_, h2, rfl, rfl⟩⟩, fun c hcm => ?_, q⟩
  have e' : c = s1.heap.objs.size + 4 ∨ c = s1.heap.objs.size + 2 ∨ c = s1.heap.objs.size + 3 ∨ c = s1.heap.objs.size ∨ c = s1.heap.objs.size + 1 := by simpa using hcm
  have hle : s1.heap.objs.size ≤ c := by
    rcases e' with z | z | z | z | z
    · rw [z]; exact Nat.le_add_right _ _
    · rw [z]; exact Nat.le_add_right _ _
    · rw [z]; exact Nat.le_add_right _ _
    · rw [z]; exact Nat.le_refl _
    · rw [z]; exact Nat.le_add_right _ _
  exact I1.fpOk hle (I1.hok.fresh hle)
theorem walk_zipS {x y : Str} : Walk (ItzS x y) (min x.cps.size y.cps.size) (fun _ => True) (fun i H v H' => ∃ (T : Addr) (a b : Nat), v = .ref T ∧ H T = none ∧ H' = upd H T (.tup [.str ⟨#[a]⟩, .str ⟨#[b]⟩]) ∧ x.cps[i]? = some a ∧ y.cps[i]? = some b) :=
  ⟨fun _ _ hi _ => hi, fun _ _ => rfl, fun _ _ _ _ _ _ y => y⟩
end NvZ

set_option Elab.async false
set_option linter.all false
set_option maxRecDepth 100000
set_option maxHeartbeats 8000000
/-! # An own class's __contains__, __len__, __str__, asked from outside -/
namespace NvO
open PySem PySem.Spec PyProof.Rows L2
variable {X : Cx} {k : Nat} {f C : Addr} {fd : FuncData} {sp : Sp} {pa pb : Str}
/-- the frame that the walk's rules ask for -/
theorem fr_of {pins : List (Addr × Obj)} {σ : L2.St} {H : Hp} {s : Shared} (I : Inv X pins σ H s) : ∃ m, Fr X.base X.env.locals s.heap m := by
  obtain ⟨m, hn, _⟩ := I.loc
  exact ⟨m, hn, I.bk, Nat.le_trans I.ok.bsz I.ok.above⟩
theorem inst_of {pins : List (Addr × Obj)} {σ : L2.St} {H : Hp} {s : Shared} {a dx : Addr} {fs : List (Str × V)} (I : Inv X pins σ H s) (ha : H a = some (.ins C dx fs)) : ∃ (ox : Obj) (od : Option Obj), PySem.W.InstAt s.heap a ox C od := by
  obtain ⟨mA, O, _⟩ := ins_get I.hok ha
  obtain ⟨od, J, _⟩ := O.look
  exact ⟨_, od, J⟩
/-- v in o, o of a class with its own __contains__ that gives True or False -/
theorem op_inO (F : FnOk X.prog X.w X.K X.mg X.base CX0 k f fd [pa, pb] sp) (hr : Room k X.A) (hb : Binds X.K fd [pa, pb] []) (hx : Passes CX0 X E0) (hs : PySem.W.findIn X.K (.ref C) "__contains__" = some (some (.ref f))) (hf : PySem.W.isFn X.K (.ref f) = true) :
    OpR X (compareOp .In) (fun x y H Q => ∃ (a dx : Addr) (fs : List (Str × V)), y = .ref a ∧ H a = some (.ins C dx fs) ∧ sp [.ref a, x] H (fun v H' => ∃ b, v = .bl b ∧ Q (.bl b) H') E0) := by
  intro pins s σ H x y v u Q I rx ry h
  obtain ⟨a, dx, fs, rfl, ha, h⟩ := h
  cases ry
  obtain ⟨m, Fm⟩ := fr_of I
  obtain ⟨ox, od, J⟩ := inst_of I ha
  refine PySem.W.in_K Fm I.ok.mod.kin J hs hf (wpAny_mono (run_fn F hr hb .nil hx I (.cons (show RelV (.ref a) (.ref a) from rfl) (.cons rx .nil)) h) (fun r s' hq => ?_) fun _ _ z => z)
  obtain ⟨z, H', I', rz, b, rfl, q⟩ := hq
  cases rz
  exact wpAny_truthy_bool ⟨.bl b, H', I', rfl, q⟩
/-- a def runs below the body, with the same frames -/
theorem run_at {A' : Around} {pins : List (Addr × Obj)} {σ : L2.St} {H : Hp} {s : Shared} {Q : VK} {us : List Value} {vs : List V} {ps : List Str} (fr : A'.frames = some X.stack) (F : FnOk X.prog X.w X.K X.mg X.base CX0 k f fd ps sp) (hr : Room k A') (hb : Binds X.K fd ps []) (hx : Passes CX0 X E0)
    (I : Inv X pins σ H s) (r : Vals vs us) (h : sp vs H Q E0) : wpAny (model X.prog X.w) A' (call (.ref f) us) (EP X pins σ Q) X.xe s := by
  have e0 : Env0 X.prog X.w X.K X.mg X.base A' X.stack s H := by
    obtain ⟨_, a2, a3, a4, a5, a6, a7, a8⟩ := I.env0
    exact ⟨fr, a2, a3, a4, a5, a6, a7, a8⟩
  have hl : us.length = ps.length := by
    rw [← r.length]
    exact F.len _ _ _ _ h
  have b := hb s us I.kIn (by rw [List.append_nil]; exact hl)
  rw [List.append_nil] at b
  refine wpAny_call (codeAny_mono (F.run A' X.stack s H ⟨us, []⟩ us vs Q E0 hr e0 b r h) fun z s' hq => ?_)
  cases z with
  | error e => exact hx pins σ H s e s' I hq
  | ok fl =>
    cases fl with
    | ret u => exact I.after hq
    | next => exact hq.elim
    | brk => exact hq.elim
    | cont => exact hq.elim
/-- len(o), o of a class with its own __len__ -/
theorem call_lenO (F : FnOk X.prog X.w X.K X.mg X.base CX0 k f fd [pa] sp) (hr : Room (k + 1) X.A) (hb : Binds X.K fd [pa] []) (hx : Passes CX0 X E0) (hs : PySem.W.findIn X.K (.ref C) "__len__" = some (some (.ref f))) (hf : PySem.W.isFn X.K (.ref f) = true) :
    CallR X (.builtin "len") (fun xs H Q => ∃ (a dx : Addr) (fs : List (Str × V)), xs = [.ref a] ∧ H a = some (.ins C dx fs) ∧ sp [.ref a] H (fun v H' => ∃ n : Int, v = .int n ∧ 0 ≤ n ∧ n < 2 ^ 63 ∧ Q (.int n) H') E0) := by
  intro pins s σ H xs us Q I r h
  obtain ⟨a, dx, fs, rfl, ha, h⟩ := h
  obtain ⟨u, rfl, ru⟩ := vals1 r
  cases ru
  obtain ⟨m, Fm⟩ := fr_of I
  obtain ⟨ox, od, J⟩ := inst_of I ha
  refine PySem.W.len_K Fm I.ok.mod.kin J hs hf (wpAny_mono (run_at (A' := X.A.in1) I.ok.frames F hr.in1 hb hx I (.cons (show RelV (.ref a) (.ref a) from rfl) .nil) h) (fun z s' hq => ?_) fun _ _ z => z)
  obtain ⟨v, H', I', rz, n, rfl, n0, n1, q⟩ := hq
  obtain ⟨t, rfl⟩ := rz
  exact ⟨⟨n0, n1⟩, .int n, H', I'.tok _, ⟨_, rfl⟩, q⟩
/-- o == v, o of a class with its own __eq__ that gives True or False -/
theorem op_eqO (F : FnOk X.prog X.w X.K X.mg X.base CX0 k f fd [pa, pb] sp) (hr : Room k X.A) (hb : Binds X.K fd [pa, pb] []) (hx : Passes CX0 X E0) (hs : PySem.W.findIn X.K (.ref C) "__eq__" = some (some (.ref f))) (hf : PySem.W.isFn X.K (.ref f) = true) :
    OpR X (compareOp .Eq) (fun x y H Q => ∃ (a dx : Addr) (fs : List (Str × V)) (tb : Value), x = .ref a ∧ H a = some (.ins C dx fs) ∧ TyX X.K H y tb ∧ PySem.W.notFirst X.K C tb = true ∧ sp [.ref a, y] H (fun v H' => ∃ b, v = .bl b ∧ Q (.bl b) H') E0) := by
  intro pins s σ H x y v u Q I rx ry h
  obtain ⟨a, dx, fs, tb, rfl, ha, ty, nf, h⟩ := h
  cases rx
  obtain ⟨m, Fm⟩ := fr_of I
  obtain ⟨ox, od, J⟩ := inst_of I ha
  obtain ⟨Pz, Z, p, _⟩ := kit_of I ry ty
  have hu : X.A.units < cLine := by
    have := hr.un
    omega
  show wpAny _ _ (richCompare .Eq _ _) _ _ _
  refine PySem.W.cmp_K (op := .Eq) hu Fm I.ok.mod.kin J (Z.ty _ _ I.kIn p) nf hs hf (wpAny_mono (run_fn F hr hb .nil hx I (.cons (show RelV (.ref a) (.ref a) from rfl) (.cons ry .nil)) h) (fun r s' hq => ?_) fun _ _ z => z)
  obtain ⟨z, H', I', rz, b, rfl, q⟩ := hq
  cases rz
  exact ⟨.bl b, H', I', rfl, q⟩
end NvO

set_option Elab.async false
set_option linter.all false
set_option maxRecDepth 100000
set_option maxHeartbeats 8000000
/-! # str(o), o != v by own __str__, __eq__; == of dicts of data, both answers; a method called with keywords -/
namespace NvO
open PySem PySem.Spec PyProof.Rows L2 PySem.W
section
variable {X : Cx} {k : Nat} {f C : Addr} {fd : FuncData} {sp : Sp} {pa pb : Str}
open Builtin Builtin.Str in
/-- str(o), o of a class with its own __str__ -/
theorem call_strO (F : FnOk X.prog X.w X.K X.mg X.base CX0 k f fd [pa] sp) (hr : Room (k + 2) X.A) (hb : Binds X.K fd [pa] []) (hx : Passes CX0 X E0) (hs : PySem.W.findIn X.K (.ref C) "__str__" = some (some (.ref f))) (hf : PySem.W.isFn X.K (.ref f) = true) :
    CallR X (.type "str") (fun xs H Q => ∃ (a dx : Addr) (fs : List (Str × V)), xs = [.ref a] ∧ H a = some (.ins C dx fs) ∧ sp [.ref a] H (fun v H' => ∃ y : Str, v = .str y ∧ Q (.str y) H') E0) := by
  intro pins s σ H xs us Q I r h
  obtain ⟨a, dx, fs, rfl, ha, h⟩ := h
  obtain ⟨u, rfl, ru⟩ := vals1 r
  cases ru
  obtain ⟨ox, od, J⟩ := inst_of I ha
  have hu : X.A.in1.in1.units < cLine := by
    have := hr.un
    show X.A.units + 1 + 1 < cLine
    omega
  refine callType_codes (T := "str") (Bi := Builtin.«object.__init__») (Q₁ := fun r s₁ => ∃ y u, r = .str y u ∧ EP X pins σ Q r s₁) PySem.F.called_str (PySem.F.typeCall_str_1 _) PySem.F.entry_object_init ?_ ?_
  · refine codeAny_of_tree ?_
    show wpAny _ X.A.in1.in1 (do checkBuiltinCall "str.__new__" ⟨[.type "str", .ref a], []⟩; again (.builtin "str.__new__" ⟨[.type "str", .ref a], []⟩)) _ _ s
    refine wpAny_bind (wpAny_of_eq (PySem.F.newCall_str_1 _) (wpAny_pure ⟨plainId_quiet (by decide +kernel) _, codeAny_builtin PySem.F.entry_str_new ?_⟩))
    rw [Around.under_plainId (by decide +kernel) _]
    rw [str_new_tree]
    refine wpAny_bind (wpAny_pure ?_)
    refine wpAny_bind (wpAny_of_eq isSubtype_str_str ?_)
    have key : wpAny (model X.prog X.w) X.A.in1.in1 (PySem.Builtin.Str.strOf (.ref a)) (fun r s₁ => ∃ y u, r = .str y u ∧ EP X pins σ Q r s₁) X.xe s := by
      unfold PySem.Builtin.Str.strOf
      rw [show isExactStr (.ref a) = false from rfl]
      refine wpAny_bind (m := cRoomFor _ _) (wpAny_cRoomFor hu ?_)
      refine wpAny_bind (m := callSpecial? (.ref a) (Str.ofString "__str__")) (special_fn I.kIn J hs (beq_iff_eq.mp hf) (wpAny_mono (run_at (A' := X.A.in1.in1) I.ok.frames F hr.in1.in1 hb hx I (.cons (show RelV (.ref a) (.ref a) from rfl) .nil) h) (fun z s' hq => ?_) fun _ _ y => y))
      obtain ⟨v, H', I', rz, y, rfl, q⟩ := hq
      obtain ⟨t, rfl⟩ := rz
      exact wpAny_pure ⟨_, _, rfl, .str y, H', I', ⟨_, rfl⟩, q⟩
    exact wpAny_bind (wpAny_mono key (fun r s₁ hr => wpAny_pure hr) fun _ _ y => y)
  · rintro obj s₁ ⟨y, u, rfl, hq⟩
    exact ⟨typeIs_str _ _ _, PySem.F.args_object_init_2 _ _, object_init_meets PySem.F.called_str.init.lookup PySem.F.called_str.made (by decide) X.prog X.w X.A.in1 _ s₁ ⟨typeIs_str _ _ _, rfl, hq⟩⟩
/-- a built-in slot found at an instance's class, called -/
theorem ifBound_B {prog : Program} {w : World} {A : Around} {E : Value → Shared → Prop} {s : Shared} {K : Frag} {x C : Addr} {ox : Obj} {od : Option Obj} {name : Str} {id : String} {M : Model} {args : List Value} {Q : Option Value → Shared → Prop}
    (X : K.In s.heap) (I : InstAt s.heap x ox C od) (hs : findIn K (.ref C) name = some (some (.builtin id))) (hb : ∀ self, bindSpecial (.builtin id) self = pure (.builtin id, [self]))
    (h : wpAny M A (call (.builtin id) (.ref x :: args)) (fun v => Q (some v)) E s) : wpAny M A (callSpecialIfBound? (.ref x) name args) Q E s := by
  simp only [callSpecialIfBound?, bindSpecialIfBound?]
  refine wpAny_holding (wpAny_bind (wpAny_bind (wpAny_bind (I.type.here ((looks_findIn X hs).here ?_)))))
  refine wpAny_bind (wpAny_askSetting (wpAny_ite ?_))
  have fin : wpAny M A (call (.builtin id) ([.ref x] ++ args) >>= fun v => pure (some v)) Q E s := wpAny_bind (wpAny_mono h (fun v s' h' => wpAny_pure h') fun _ _ h' => h')
  split
  · exact wpAny_bind ((Looks.of_pure (hb _)).here (wpAny_pure (by exact fin)))
  · exact wpAny_tryCatch (wpAny_bind ((Looks.of_pure (hb _)).here (wpAny_pure (by exact fin))))
open Builtin in
/-- o != v, o of a class with its own __eq__ that gives True or False, and without __ne__ -/
theorem op_neO (F : FnOk X.prog X.w X.K X.mg X.base CX0 k f fd [pa, pb] sp) (hr : Room (k + 1) X.A) (hb : Binds X.K fd [pa, pb] []) (hx : Passes CX0 X E0) (hn : PySem.W.findIn X.K (.ref C) "__ne__" = some (some (.builtin "object.__ne__"))) (hm : PySem.W.mroIn X.K C (.type "object") = some true) (hs : PySem.W.findIn X.K (.ref C) "__eq__" = some (some (.ref f))) (hf : PySem.W.isFn X.K (.ref f) = true) :
    OpR X (compareOp .NotEq) (fun x y H Q => ∃ (a dx : Addr) (fs : List (Str × V)) (tb : Value), x = .ref a ∧ H a = some (.ins C dx fs) ∧ TyX X.K H y tb ∧ PySem.W.notFirst X.K C tb = true ∧ sp [.ref a, y] H (fun v H' => ∃ b, v = .bl b ∧ Q (.bl (!b)) H') E0) := by
  intro pins s σ H x y v u Q I rx ry h
  obtain ⟨a, dx, fs, tb, rfl, ha, ty, nf, h⟩ := h
  cases rx
  obtain ⟨ox, od, J⟩ := inst_of I ha
  obtain ⟨Pz, Z, p, _⟩ := kit_of I ry ty
  have hu : X.A.units < cLine := by
    have := hr.un
    omega
  have hu1 : X.A.in1.units < cLine := by
    have := hr.un
    show X.A.units + 1 < cLine
    omega
  have KX := I.kIn
  have one : wpAny (model X.prog X.w) X.A (tryCompare (.ref a) "__ne__" u) (fun r s' => ∃ v, r = some v ∧ EP X pins σ Q v s') X.xe s := by
    unfold tryCompare
    refine wpAny_bind (ifBound_B (prog := X.prog) (w := X.w) KX J hn PySem.F.slot_object_ne.bind (wpAny_call (codeAny_call_builtin PySem.F.slot_object_ne.plain PySem.F.entry_object_ne (check_slot (i := "object.__ne__") (owner := "object") (n := "__ne__") (by decide +kernel) (by decide +kernel) (J.type.andThen (looks_mroIn KX hm)) (PySem.F.args_object_ne_2 _ _) ?_))))
    unfold Builtin.«object.__ne__»
    refine wpAny_bind (m := slotArgs "__ne__" 1 _) (wpAny_pure ?_)
    refine wpAny_bind (m := cRoomFor _ _) (wpAny_cRoomFor hu1 ?_)
    refine wpAny_bind (m := callSpecialIfBound? (.ref a) (Str.ofString "__eq__") _) (ifBound_K KX J hs hf (wpAny_mono (run_at (A' := X.A.in1) I.ok.frames F hr.in1 hb hx I (.cons (show RelV (.ref a) (.ref a) from rfl) (.cons ry .nil)) h) (fun r s' hq => ?_) fun _ _ y => y))
    obtain ⟨z, H', I', rz, b, rfl, q⟩ := hq
    cases rz
    refine wpAny_bind (m := truthy (.bool b)) (wpAny_truthy_bool ?_)
    exact wpAny_pure (wpAny_pure ⟨_, rfl, .bl (!b), H', I', rfl, q⟩)
  show wpAny _ _ (richCompare .NotEq _ _) _ _ _
  unfold richCompare
  simp only [oneThing_ref]
  refine wpAny_holding (wpAny_bind (wpAny_cRoomFor hu ?_))
  refine wpAny_bind (J.type.here (wpAny_bind ((Z.ty _ _ KX p).here ?_)))
  split
  · rename_i q
    have e : subIn X.K tb (.ref C) = some false := by
      rcases Bool.or_eq_true_iff.mp nf with e | e
      · rw [beq_iff_eq.mp e] at q; simp at q
      · exact beq_iff_eq.mp e
    refine wpAny_bind ((looks_subIn KX e).here ?_)
    simp only [Bool.false_eq_true, if_false]
    refine wpAny_bind (wpAny_mono one (fun r s' z => ?_) fun _ _ e => e)
    obtain ⟨v, rfl, hq⟩ := z
    exact wpAny_pure hq
  · refine wpAny_bind (wpAny_pure ?_)
    simp only [Bool.false_eq_true, if_false]
    refine wpAny_bind (wpAny_mono one (fun r s' z => ?_) fun _ _ e => e)
    obtain ⟨v, rfl, hq⟩ := z
    exact wpAny_pure hq
end
/-- entry by entry: what the other dict holds there is data, and the two are compared -/
inductive HitsD (K : PySem.W.Frag) (H : Hp) (ls : List (Key × V)) : List (Key × V) → Bool → Prop where
  | nil : HitsD K H ls [] true
  | cons {k : Key} {v u : V} {d e : PyData} {r : List (Key × V)} {b : Bool} (hv : valV ls k = some u) (h1 : Dp K H v d) (h2 : Dp K H u e) (s1 : SeqAt.shaped d = true) (s2 : SeqAt.shaped e = true) (t : HitsD K H ls r b) : HitsD K H ls ((k, v) :: r) (PyData.eqv d e && b)
section
variable {X : Cx} {pins : List (Addr × Obj)} {σ : L2.St} {H : Hp} {s : Shared}
theorem hitsD_run (I : Inv X pins σ H s) {A : Around} (hu : A.units + 64 < cLine) {ls : List (Key × V)} {vb : List (Key × Value)} (rb : KV ls vb) {ks : List (Key × V)} {va : List (Key × Value)} {b : Bool}
    (ra : KV ks va) (h : HitsD X.K H ls ks b) : PySem.W.KeqHitsP X.prog X.w A s vb va b := by
  unfold KV at ra
  induction ra generalizing b with
  | nil =>
    cases h
    exact .nil
  | @cons p q ps qs hpq t ih =>
    obtain ⟨h1, h2⟩ := hpq
    cases h with
    | cons hv d1 d2 s1 s2 tl =>
      rename_i k v u d e b'
      have rr : RelO (some u) (valueAt vb k) := by rw [← hv]; exact rb.val k
      obtain ⟨y, hy, ry⟩ := rr.some_of
      obtain ⟨key, w⟩ := q
      have h1' : k = key := h1
      rw [h1'] at hy
      obtain ⟨as, r1⟩ := Dp.reads I d v w d1 h2
      obtain ⟨bs, r2⟩ := Dp.reads I e u y d2 ry
      exact .hit hy (SeqAt.EqAt.eqP (SeqAt.eqAt_reads d e A s w y as bs r1 r2 (SeqAt.canLay_of_shaped s1) (SeqAt.canLay_of_shaped s2) (SeqAt.room_of_shaped s1 hu))) (ih tl)
theorem op_eqDd {X : Cx} (hu : X.A.units + 65 < cLine) : OpR X (compareOp .Eq) (fun x y H Q => ∃ (a b : Addr) (ks ls : List (Key × V)) (r : Bool), x = .ref a ∧ y = .ref b ∧ H a = some (.dK ks) ∧ H b = some (.dK ls) ∧ ks.length = ls.length ∧ HitsD X.K H ls ks r ∧ Q (.bl r) H) := by
  intro pins s σ H x y v u Q I rx ry h
  obtain ⟨a, b, ks, ls, r, rfl, rfl, ha, hb, hl, hp, q⟩ := h
  cases (show v = Value.ref a from rx)
  cases (show u = Value.ref b from ry)
  obtain ⟨_, ya, va, ra, da⟩ := (show ObjOk X.prog X.w H s.heap a (.dK ks) from I.hok a _ ha)
  obtain ⟨_, yb, vb, rb, db⟩ := (show ObjOk X.prog X.w H s.heap b (.dK ls) from I.hok b _ hb)
  refine PySem.W.rcP_dicts (knd := mixKind X.prog X.w) (r := r) ya yb da db (by omega) (fun _ => hitsD_run I (A := X.A.in1) (by show X.A.units + 1 + 64 < cLine; omega) rb ra hp) _ _ ?_
  have e : va.length = vb.length := by rw [← ra.length, ← rb.length]; exact hl
  rw [show (va.length == vb.length && r) = r from by rw [e]; simp]
  exact ⟨.bl r, H, I, rfl, q⟩
end
/-! ## o.m(e, .., k = v, ..) -/
def tMethN (C : Addr) (m : Str) (n j : Nat) (sp : Sp) (gV : List V → List V → List V) (E : XK) (ta : TE) (t tk : TA) : TE := fun σ H Q => ta σ H fun x H0 => ∃ a dx fs, x = .ref a ∧ H0 a = some (.ins C dx fs) ∧ fs.lookup m = none ∧ t σ H0 fun vs H1 => tk σ H1 fun zs H2 => vs.length = n ∧ zs.length = j ∧ sp (gV (x :: vs) zs) H2 Q E
section
variable {X : Cx} {CX : CXT} {k n : Nat} {C f : Addr} {fd : FuncData} {ps ks : List Str} {sp : Sp} {E : XK} {m : Str} {apos pos : Pos} {o e : Expr} {es : List Expr} {kws : List Keyword} {ta : TE} {t tk : TA} {g : List Value → List Value → List Value} {gV : List V → List V → List V}
theorem pe_methN {pl : Sem Bool} (he : PE X o ta) (c : Cls X.K C) (hm : Meth X.K C m f) (F : FnOk X.prog X.w X.K X.mg X.base CX k f fd ps sp) (hr : Room k X.A) (hb : KBn X.K fd ps (n + 1) ks g gV) (hx : Passes CX X E) (ha : PA X (e :: es) t) (hkw : PK X kws tk)
    (hall : (backToKw pos (keywordEach kws X.env)).all (·.1.isSome) = true := by rfl) (hks : (backToKw pos (keywordEach kws X.env)).filterMap (·.1) = ks := by rfl)
    (hst : starEach (e :: es) X.env = (false, eval e X.env) :: starEach es X.env := by rfl)
    (hpl : ((backTo pos (starEach (e :: es) X.env)).any (·.1) || (backToKw pos (keywordEach kws X.env)).any (·.1.isNone)) = false := by rfl)
    (ht : eval (.Call (.Attribute o m apos) (e :: es) kws pos) X.env = (do
      let ov ← eval o X.env
      standAt apos.atName
      let (f, first) ← holding [ov] (getMethod ov m pl)
      callWith pos f first (backTo pos (starEach (e :: es) X.env)) (backToKw pos (keywordEach kws X.env))) := by rfl) :
    PE X (.Call (.Attribute o m apos) (e :: es) kws pos) (tMethN C m n ks.length sp gV E ta t tk) := by
  refine ⟨fun pins s σ H Q I h => ?_⟩
  refine PySem.W.methodCall_KW (pl := pl) (thn (he.run pins s σ H _ I h) fun u s1 ⟨x, H1, I1, rx, a, dx, fs, ex, ea, l, q⟩ => ?_) ht
  subst ex
  obtain rfl : u = Value.ref a := rx
  refine getmeth_ok I1 ea c hm l ?_
  refine PySem.W.callWith_KW (first := [.ref a]) (h₀ := X.base) I.ok.mod.kin hm.kp hall (thn (ha.run pos pins s1 σ H1 _ I1 q) fun us s2 ⟨vs, H2, I2, r, q2⟩ => ?_) hpl hst
  refine thn (hkw.run pos pins s2 σ H2 _ I2 q2) fun ws s3 ⟨zs, H3, I3, rz, l1, l2, q3⟩ => ⟨I3.kIn, ?_⟩
  rw [hks]
  exact run_fnN (us := .ref a :: us) (vs := .ref a :: vs) F hr hb hx I3 (.cons rfl r) rz (congrArg Nat.succ l1) l2 q3
end
end NvO

set_option Elab.async false
set_option linter.all false
set_option maxRecDepth 100000
set_option maxHeartbeats 8000000
/-! # An own error with an __init__ of its own: from what stands in K (no law's own; of K0g) -/
namespace NvI
open PySem L2
theorem init_mk {prog : Program} {K : PySem.W.Frag} {C fI : Addr} {B i B0 newId : String} {f : String} {qual : Str}
    {oc : Value} {od : Option Addr} {doc pm : Value} {an : Option Addr} {cda : Addr} {ct : Value} {cc : Addr} {osl : Array (Option Value)} {msg : Str} {j : Nat} {p1 p2 a0 a1 a2 a3 a4 a5 q1 q2 q3 q4 : Pos}
    {ccl : Value} {cdd : Option Addr} {vs : Array Value} {ccs : Array (Option Value)} {file : Str} {tf : Tok} {cl : Value} {cld : Option Addr} {csl : Array (Option Value)}
    {nm q : Str} {N : Addr} {bs bm : List Value} {sn : List Str} {sub : List Value} {ab : Bool} {col : Option Bool} {dd : Option Addr} {k0 k1 k2 k3 k5 : Option Value} {i0 : String} {bmB : List Value}
    (iC : PySem.W.findIn K (.ref C) "__init__" = some (some (.ref fI)))
    (l1 : K.lookup fI = some ⟨oc, od, .func (PySem.W.ksFn "__init__" qual (PySem.NvE.iArgs f p1 p2) (PySem.NvE.iBody f msg j a0 a1 a2 a3 a4 a5 q1 q2 q3 q4) (PySem.NvE.iScope f) .none .none doc pm an (.ref cda) ct cc), osl⟩) (c1 : PySem.W.codeIn K (.ref cda) qual = true)
    (l2 : K.lookup cda = some ⟨ccl, cdd, .fields vs, ccs⟩) (v2 : vs[2]? = some (.str file tf)) (fl : ((prog.main.file : Str) == file) = true) (l3 : K.lookup cc = some ⟨cl, cld, .cell (some (.ref C)), csl⟩)
    (ev : ∀ L a cd c2, PySem.NvE.EvOk (PySem.W.ksEnv qual (PySem.NvE.iScope f) L a cd c2) msg j a0 a1 a2 a3 a4)
    (l4 : K.lookup C = some (excClassObj nm q C N bs bm true sn sub ab col dd k0 k1 k2 k3 k5 newId)) (rl : ∀ self, refuseLoop self "__setattr__" (.ref C :: bm) = pure ()) (ob : bm.contains (.type "object") = true) (nb : PySem.NvE.NewOk bm B0)
    (nf : ExcBaseFacts B0 newId i0 bmB) (tI : PySem.W.typeIn K (.ref fI) = some (.type "function")) (self : PySem.W.mroIn K C (.ref C) = some true) (up : PySem.W.ks_superIn K C C "__init__" = some (some (.builtin i)))
    (isB : PySem.W.subIn K (.ref C) (.type B) = some true) (stat : PySem.W.nsIn K PySem.cStatics "thirdparty.any" = some none) (sa : PySem.W.findIn K (.ref C) "__setattr__" = some (some (.builtin "object.__setattr__"))) (noF : PySem.W.findIn K (.ref C) (Str.ofString f) = some none)
    (inF : PySem.NvE.InF B i) (sup : PySem.W.nsIn K mainGlobals "super" = some none) (top : (prog.main.scope.names.lookup ("super" : Str)).isSome = false)
    (fs : (Str.ofString f == ("self" : Str)) = false) (fsup : (PySem.NvE.iScope f).names.lookup ("super" : Str) = some .globalImplicit) (fcl : (PySem.NvE.iScope f).names.lookup ("__class__" : Str) = some .free) (ff : (PySem.NvE.iScope f).names.lookup (Str.ofString f) = some .local)
    (fdb : (Str.ofString f == ("__debug__" : Str)) = false) (ncell : ∀ x ∈ (PySem.NvE.iScope f).names, x.2 ≠ .cell)
    (bd : ∀ (b : List Stmt) (doc pm ct cv : Value) (an : Option Addr) (cc : Addr) (p1 p2 : Pos) (x v : Value), bindArgs (PySem.W.ksFn "__init__" qual (PySem.NvE.iArgs f p1 p2) b (PySem.NvE.iScope f) .none .none doc pm an cv ct cc) ⟨[x, v], []⟩ = pure [(("self" : Str), x), (Str.ofString f, v)]) :
    PySem.NvE.InitTxt prog K C fI B i B0 newId f qual :=
  ⟨⟨_, _, _, _, _, _, _, _, _, _, _, _, _, _, _, _, _, _, _, _, _, _, _, l1, c1, ⟨_, _, _, _, _, _, l2, v2, fl⟩, ⟨_, _, _, l3⟩, ev⟩, ⟨_, _, _, _, _, _, _, _, _, _, _, _, _, _, _, l4, rl, ob, nb⟩, ⟨_, _, nf⟩, iC, tI, self, up, isB, stat, sa, noF, inF, sup, top, fs, fsup, fcl, ff, fdb, ncell, bd⟩
end NvI

set_option Elab.async false
set_option linter.all false
set_option maxRecDepth 100000
set_option maxHeartbeats 8000000
/-! # {t: v}, a display of one pair whose key is a tuple -/
namespace NvQ
open PySem PySem.Spec PyProof.Rows L2
def tDisp1 (tk tv : TE) : TE := fun σ H Q => ∀ p, H p = none → tPairs [(tk, tv)] σ (upd H p (.dT [])) fun ps H2 => ∃ (b : Addr) (k : List Key) (v : V), ps = [(.ref b, v)] ∧ H2 p = some (.dT []) ∧ H2 b = some (.tup (k.map kV)) ∧ Q (.ref p) (upd H2 p (.dT [(k, v)]))
theorem pe_disp1 {X : Cx} {pos : Pos} {ek ev : Expr} {tk tv : TE} (hu : X.A.units < cLine) (hk : PE X ek tk) (hv : PE X ev tv) : PE X (.Dict [some ek] [ev] pos) (tDisp1 tk tv) := by
  refine ⟨fun pins s σ H Q I q => ?_⟩
  have hn := I.hok.fresh (Nat.le_refl s.heap.objs.size)
  have I1 := I.laid (a := s.heap.objs.size) (o := .dT []) (h' := s.heap.push { cls := .type "dict", data := .dict #[] }) (t' := s.toks) (fun _ _ q => Heap.get?_push_of_some _ q) (Nat.le_refl _) (dt_empty s.heap I.big)
  have P : PPs X pos [some ek] [ev] [(tk, tv)] := pps_cons hk hv pps_nil
  have hl := pairTrees_length [some ek] [ev] X.env pos rfl rfl
  have hp0 : pairTrees [some ek] [ev] X.env pos ≠ [] := fun z => by
    rw [z] at hl
    cases hl
  have hlt : (pairTrees [some ek] [ev] X.env pos).length = 1 := hl
  rw [arm_eval_Dict, zip_pairTrees [some ek] [ev] X.env pos rfl rfl, dictDisplay_pairs _ hp0 (by rw [hlt]; decide)]
  refine wpAny_bind (wpAny_standAt (wpAny_bind (wpAny_subDictH (knd := tupleKind (mixKind X.prog X.w)) (Q := fun d s' => wpAny (model X.prog X.w) X.A (pure (Value.ref d)) (EP X pins σ Q) X.xe s') hu (by rw [hlt]; decide) ?_)))
  refine thn (P.run pins _ σ _ _ I1 (q _ hn)) fun ws s2 ⟨ps, H2, I2, rel, b, k, v, ep, e, eb, q2⟩ => ?_
  subst ep
  cases rel with
  | @cons pp qq pps qqs hpq t =>
    cases t
    obtain ⟨kk, vv⟩ := qq
    obtain ⟨r1, r2⟩ := hpq
    cases (show kk = Value.ref b from r1)
    obtain ⟨z, hd, xs, rx, dd⟩ := dt_of I2.hok e
    have rx0 : xs = [] := by
      cases rx
      rfl
    subst rx0
    refine ⟨[(k, b, vv)], ⟨rfl, rfl, key_of I2.hok eb, True.intro⟩, dd, fun h' tk' dd' hs => wpAny_pure ⟨.ref s.heap.objs.size, _, ?_, rfl, q2⟩⟩
    have dd2 : h'.DictOfH (tupleKind (mixKind X.prog X.w)) s.heap.objs.size [(k, b, vv)] := dd'
    obtain ⟨o, es, ep, ho, h2, h3, h4, _, h5⟩ := dd2
    refine d_write I2 (by rw [e]; exact True.intro) hs ⟨o, ho⟩ ⟨(by show 1 ≤ sizeLine; decide), hd, [(k, b, vv)], .cons ⟨rfl, ?_, r2⟩ .nil, o, es, ep, ho, h2, h3, h4, h5⟩
    show upd H2 s.heap.objs.size (.dT [(k, v)]) b = some (.tup (k.map kV))
    rw [upd_ne (ne_of eb e (fun z => nomatch z))]
    exact eb
end NvQ

set_option Elab.async false
set_option linter.all false
set_option maxRecDepth 100000
set_option maxHeartbeats 8000000
/-! # enumerate of a text -/
namespace NvY
open PySem PySem.Spec PyProof.Rows L2
def IteS (x : Str) : It := ⟨fun i _ => i < x.cps.size,
  fun i H v H' => ∃ (T : Addr) (a : Nat), v = .ref T ∧ H T = none ∧ H' = upd H T (.tup [.int (i : Nat), .str ⟨#[a]⟩]) ∧ x.cps[i]? = some a,
  fun i _ => i = x.cps.size⟩
theorem turn_enumS {P : Program} {w : World} {K : PySem.W.Frag} {elts : List Expr} {kk : Nat} {tpos : Pos} {x : Str} {t1 : Tok} {e it : Addr} (hne : e ≠ it) :
    Turn P w K (.Tuple elts kk tpos) (IteS x) (e :: [it]) e (fun i h => (∃ old, IsEnum h e it ((0 : Int) + (i : Int)) old) ∧ h.IsStrIter it (strIterType x) x t1 i) where
  mem := by simp
  obj := fun i h st c hc => by
    obtain ⟨⟨old, he⟩, ⟨o1, e1, _, d1⟩⟩ := st
    have e' : c = e ∨ c = it := by simpa using hc
    rcases e' with q | q
    · rw [q]; exact ⟨_, he, fun v q => nomatch q⟩
    · rw [q]; exact ⟨o1, e1, fun v q => by rw [d1] at q; cases q⟩
  keep := fun i h h' st k => by
    obtain ⟨⟨old, he⟩, ⟨o1, e1, r1⟩⟩ := st
    exact ⟨⟨old, k e (by simp) _ he⟩, ⟨o1, k it (by simp) _ e1, r1⟩⟩
  item := by
    intro X hP hw hK hc i pins s σ H E I hf st hg
    subst hP hw hK
    have hh : X.A.in1.handled = none := I.ok.hd hc
    have G := GoesN.enumFrom (elts := elts) (x1 := kk) (pos := tpos) 0 (Draws.text (prog := X.prog) (w := X.w) (A := X.A.in1) hh it x t1) e hne (by simpa using hne) (by simp)
    have live : ∀ b ∈ (e :: [it]), b < s.heap.objs.size := fun b hb => by
      obtain ⟨⟨old, he⟩, ⟨o1, e1, _⟩⟩ := id st
      have e' : b = e ∨ b = it := by simpa using hb
      rcases e' with q | q
      · rw [q]; exact Heap.lt_size he
      · rw [q]; exact Heap.lt_size e1
    refine G.goes i s (fun u s2 => ∃ v H', Inv X pins σ H' s2 ∧ RelV v u ∧ (IteS x).yld i H v H' ∧ _ ∧ ∀ b ∈ _, H' b = none) E hg st fun v h' tk hY st' hk htk => ?_
    obtain ⟨T, t, vx, rfl, hT, ⟨c1, u1, hx, rfl⟩, hIs⟩ := hY
    have hIs2 : IsTup h' T #[.int ((i : Nat) : Int) t, .str ⟨#[c1]⟩ u1] := by
      have z : (0 : Int) + (i : Int) = (i : Int) := Int.zero_add _
      rw [z] at hIs
      exact hIs
    have new : ObjOk X.prog X.w (upd H T (.tup [.int (i : Nat), .str ⟨#[c1]⟩])) h' T (.tup [.int (i : Nat), .str ⟨#[c1]⟩]) :=
      ⟨by show 2 ≤ sizeLine; decide, [.int (i : Nat) t, .str ⟨#[c1]⟩ u1], .cons ⟨t, rfl⟩ (.cons ⟨u1, rfl⟩ .nil), hIs2⟩
    have I1 : Inv X pins σ (upd H T (.tup [.int (i : Nat), .str ⟨#[c1]⟩])) { s with heap := h', toks := tk } :=
      I.turnedNew (t' := tk) (ch := [e, it]) hk (fun b hb => hf b (by
        have e' : b = e ∨ b = it := by simpa using hb
        rcases e' with q | q <;> rw [q] <;> simp)) hT new
    refine ⟨.ref T, _, I1, rfl, ⟨T, c1, rfl, I.hok.fresh hT, rfl, hx⟩, st', fun b hb => ?_⟩
    rw [upd_ne (Nat.ne_of_lt (Nat.lt_of_lt_of_le (live b hb) hT))]
    exact (hf b hb).1
  done := by
    intro X hP hw hK hc i pins s σ H E I hf st hg
    subst hP hw hK
    have hh : X.A.in1.handled = none := I.ok.hd hc
    have G := GoesN.enumFrom (elts := elts) (x1 := kk) (pos := tpos) 0 (Draws.text (prog := X.prog) (w := X.w) (A := X.A.in1) hh it x t1) e hne (by simpa using hne) (by simp)
    have hg : i = x.cps.size := hg
    subst hg
    refine G.stops s (fun s1 => Inv X pins σ H s1) E st fun h' tk hk htk => ?_
    exact I.turnedL (t' := tk) (ch := [e, it]) hk fun b hb => hf b (by
      have e' : b = e ∨ b = it := by simpa using hb
      rcases e' with q | q <;> rw [q] <;> simp)
  self := fun A i s Q E st h => let ⟨⟨_, he⟩, _⟩ := st; wpAny_pyIter_enum he h
def iEnumS (ta : TA) : TI := fun σ H R => ta σ H fun vs H1 => ∃ x : Str, vs = [.str x] ∧ R (IteS x) H1
theorem pi_enumS {X : Cx} {e : Expr} {ta : TA} {p pos tpos : Pos} {elts : List Expr} {kk : Nat} (hg : Gl X "enumerate") (hm : X.mg "enumerate" = none) (ha : PA X [e] ta) (hs : starEach [e] X.env = [(false, eval e X.env)] := by rfl) :
    PI X (.Tuple elts kk tpos) (.Call (.Name "enumerate" p) [e] [] pos) (iEnumS ta) := by
  refine ⟨fun pins s σ H R I h => ?_⟩
  refine Call_ (ld_blt I hg hm boot_enumerate (PyProof.Rows.callWith_type1 (thn (ha.run pos pins s σ H _ I h) fun us s1 ⟨vs, H1, I1, r1, q1⟩ => ?_) hs rfl))
  obtain ⟨x, ex, q⟩ := q1
  subst ex
  obtain ⟨u1, rfl, t1, rfl⟩ := vals1 r1
  refine call_enumerate_str fun h' he hit hsz hk => wpAny_pyIter_enum he ?_
  have I2 : Inv X pins σ H1 { s1 with heap := h' } := I1.kept (t' := s1.toks) hk
  refine ⟨s1.heap.objs.size + 1, _, _, _, H1, rfl, I2, turn_enumS (x := x) (t1 := t1) (e := s1.heap.objs.size + 1) (it := s1.heap.objs.size) (Nat.succ_ne_self _), ⟨⟨.none, he⟩, hit⟩, fun b hb => ?_, q⟩
  have e' : b = s1.heap.objs.size + 1 ∨ b = s1.heap.objs.size := by simpa using hb
  have hle : s1.heap.objs.size ≤ b := by
    rcases e' with z | z
    · rw [z]; exact Nat.le_add_right _ _
    · rw [z]; exact Nat.le_refl _
  exact I1.fpOk hle (I1.hok.fresh hle)
theorem walk_enumS {x : Str} : Walk (IteS x) x.cps.size (fun _ => True) (fun i H v H' => ∃ (T : Addr) (a : Nat), v = .ref T ∧ H T = none ∧ H' = upd H T (.tup [.int (i : Nat), .str ⟨#[a]⟩]) ∧ x.cps[i]? = some a) :=
  ⟨fun _ _ hi _ => hi, fun _ _ => rfl, fun _ _ _ _ _ _ y => y⟩
end NvY

set_option Elab.async false
set_option linter.all false
set_option maxRecDepth 100000
set_option maxHeartbeats 8000000
/-! # zip of a text and a list -/
namespace NvL
open PySem PySem.Spec PyProof.Rows L2
def ItzSL (K : PySem.W.Frag) (x : Str) (b : Addr) : It := ⟨fun i H => ∃ ys : List V, SqL K H b ys ∧ i < min x.cps.size ys.length,
  fun i H v H' => ∃ (T : Addr) (a : Nat) (y : V), v = .ref T ∧ H T = none ∧ H' = upd H T (.tup [.str ⟨#[a]⟩, y]) ∧ x.cps[i]? = some a ∧ ∀ ys : List V, SqL K H b ys → ys[i]? = some y,
  fun i H => ∃ ys : List V, SqL K H b ys ∧ i = min x.cps.size ys.length⟩
theorem turn_zipSL {P : Program} {w : World} {K : PySem.W.Frag} {elts : List Expr} {kk : Nat} {tpos : Pos} {x : Str} {t1 : Tok} {b z TI TO i1 i2 : Addr} (S : ZipSep2 z TI TO i1 i2 [i1] [i2, b]) (hne : b ≠ i2) :
    Turn P w K (.Tuple elts kk tpos) (ItzSL K x b) (z :: TI :: TO :: ([i1] ++ [i2])) z (fun i h => IsZip h z TI TO .none ∧ IsTupOf2 h TI (.ref i1) (.ref i2) ∧ (∃ a1 a2, IsTupOf2 h TO a1 a2) ∧ h.IsStrIter i1 (strIterType x) x t1 i ∧ h.IsListIter i2 b i) where
  mem := by simp
  obj := fun i h st c hc => by
    obtain ⟨hz, hTI, ⟨a1, a2, hTO⟩, ⟨o1, e1, _, d1⟩, ⟨o2, e2, _, d2⟩⟩ := st
    have e' : c = z ∨ c = TI ∨ c = TO ∨ c = i1 ∨ c = i2 := by simpa using hc
    rcases e' with q | q | q | q | q
    · rw [q]; exact ⟨_, hz, fun v q => nomatch q⟩
    · rw [q]; exact ⟨_, hTI, fun v q => nomatch q⟩
    · rw [q]; exact ⟨_, hTO, fun v q => nomatch q⟩
    · rw [q]; exact ⟨o1, e1, fun v q => by rw [d1] at q; cases q⟩
    · rw [q]; exact ⟨o2, e2, fun v q => by rw [d2] at q; cases q⟩
  keep := fun i h h' st k => by
    obtain ⟨hz, hTI, ⟨a1, a2, hTO⟩, ⟨o1, e1, r1⟩, h2⟩ := st
    exact ⟨k z (by simp) _ hz, k TI (by simp) _ hTI, ⟨a1, a2, k TO (by simp) _ hTO⟩, ⟨o1, k i1 (by simp) _ e1, r1⟩, h2.at fun o q => k i2 (by simp) o q⟩
  item := by
    intro X hP hw hK hc i pins s σ H E I hf st hg
    subst hP hw hK
    have hh : X.A.in1.handled = none := I.ok.hd hc
    obtain ⟨ys, hq, hlt⟩ := hg
    obtain ⟨its, rv, p, _⟩ := I.list hq
    have ly := rv.length
    have iy : i < ys.length := by omega
    obtain ⟨u, hu, ru⟩ := rv.get (List.getElem?_eq_getElem iy)
    have G := GoesN.zip2 (elts := elts) (x1 := kk) (pos := tpos) S (Draws.text (prog := X.prog) (w := X.w) (A := X.A.in1) hh i1 x t1) (Draws.list (prog := X.prog) (w := X.w) (A := X.A.in1) hh i2 b hne its.toArray)
    obtain ⟨hz, hTI, hTO, h1, h2⟩ := st
    have live : ∀ b ∈ (z :: TI :: TO :: ([i1] ++ [i2])), b < s.heap.objs.size := fun b hb => by
      obtain ⟨a1, a2, hTO⟩ := hTO
      obtain ⟨o1, e1, _⟩ := h1
      obtain ⟨o2, e2, _⟩ := h2
      have e' : b = z ∨ b = TI ∨ b = TO ∨ b = i1 ∨ b = i2 := by simpa using hb
      rcases e' with q | q | q | q | q
      · rw [q]; exact Heap.lt_size hz
      · rw [q]; exact Heap.lt_size hTI
      · rw [q]; exact Heap.lt_size hTO
      · rw [q]; exact Heap.lt_size e1
      · rw [q]; exact Heap.lt_size e2
    refine G.goes i s (fun u s2 => ∃ v H', Inv X pins σ H' s2 ∧ RelV v u ∧ (ItzSL X.K x b).yld i H v H' ∧ _ ∧ ∀ b ∈ _, H' b = none) E (by simpa [← ly] using hlt) ⟨hz, hTI, hTO, h1, ⟨h2, p.isList⟩⟩ fun v h' tk hY st' hk htk => ?_
    obtain ⟨T, vx, vy, rfl, hT, ⟨c1, u1, hx, rfl⟩, hy, hIs⟩ := hY
    have hy : its.toArray[i]? = some vy := hy
    have evy : vy = u := by
      have e : its.toArray[i]? = some u := by simpa using hu
      rw [e] at hy
      exact (Option.some.inj hy).symm
    subst evy
    have new : ObjOk X.prog X.w (upd H T (.tup [.str ⟨#[c1]⟩, ys[i]])) h' T (.tup [.str ⟨#[c1]⟩, ys[i]]) :=
      ⟨by show 2 ≤ sizeLine; decide, [.str ⟨#[c1]⟩ u1, vy], .cons ⟨u1, rfl⟩ (.cons ru .nil), hIs⟩
    have I1 : Inv X pins σ (upd H T (.tup [.str ⟨#[c1]⟩, ys[i]])) { s with heap := h', toks := tk } :=
      I.turnedNew (t' := tk) (ch := [z, TO, i1, i2]) hk (fun b hb => hf b (by
        have e' : b = z ∨ b = TO ∨ b = i1 ∨ b = i2 := by simpa using hb
        rcases e' with q | q | q | q <;> rw [q] <;> simp)) hT new
    refine ⟨.ref T, _, I1, rfl, ⟨T, c1, ys[i], rfl, I.hok.fresh hT, rfl, hx, fun l hl => by rw [I.list_inj hl hq]; exact List.getElem?_eq_getElem iy⟩, ⟨st'.1, st'.2.1, st'.2.2.1, st'.2.2.2.1, st'.2.2.2.2.1⟩, fun b hb => ?_⟩
    rw [upd_ne (Nat.ne_of_lt (Nat.lt_of_lt_of_le (live b hb) hT))]
    exact (hf b hb).1
  done := by
    intro X hP hw hK hc i pins s σ H E I hf st hg
    subst hP hw hK
    have hh : X.A.in1.handled = none := I.ok.hd hc
    obtain ⟨ys, hq, hlt⟩ := hg
    obtain ⟨its, rv, p, _⟩ := I.list hq
    have ly := rv.length
    have G := GoesN.zip2 (elts := elts) (x1 := kk) (pos := tpos) S (Draws.text (prog := X.prog) (w := X.w) (A := X.A.in1) hh i1 x t1) (Draws.list (prog := X.prog) (w := X.w) (A := X.A.in1) hh i2 b hne its.toArray)
    obtain ⟨hz, hTI, hTO, h1, h2⟩ := st
    have ei : i = min x.cps.size its.toArray.size := by simpa [← ly] using hlt
    subst ei
    refine G.stops s (fun s1 => Inv X pins σ H s1) E ⟨hz, hTI, hTO, h1, ⟨h2, p.isList⟩⟩ fun h' tk hk htk => ?_
    exact I.turnedL (t' := tk) (ch := [z, TO, i1, i2]) hk fun b hb => hf b (by
      have e' : b = z ∨ b = TO ∨ b = i1 ∨ b = i2 := by simpa using hb
      rcases e' with q | q | q | q <;> rw [q] <;> simp)
  self := fun A i s Q E st h => wpAny_pyIter_zip st.1 h
def iZipSL (K : PySem.W.Frag) (ta : TA) : TI := fun σ H R => ta σ H fun vs H1 => ∃ (x : Str) (b : Addr) (ys : List V), vs = [.str x, .ref b] ∧ SqL K H1 b ys ∧ R (ItzSL K x b) H1
theorem pi_zipSL {X : Cx} {e e2 : Expr} {ta : TA} {p pos tpos : Pos} {elts : List Expr} {kk : Nat} (hg : Gl X "zip") (hm : X.mg "zip" = none) (ha : PA X [e, e2] ta)
    (hs : starEach [e, e2] X.env = (false, eval e X.env) :: starEach [e2] X.env := by rfl) (hpl : (backTo pos (starEach [e2] X.env)).any (·.1) = false := by rfl) :
    PI X (.Tuple elts kk tpos) (.Call (.Name "zip" p) [e, e2] [] pos) (iZipSL X.K ta) := by
  refine ⟨fun pins s σ H R I h => ?_⟩
  refine Call_ (ld_blt I hg hm PyProof.Rows.boot_zip (PyProof.Rows.callWith_type1 (thn (ha.run pos pins s σ H _ I h) fun us s1 ⟨vs, H1, I1, r1, q1⟩ => ?_) hs hpl))
  obtain ⟨x, b, ys, ex, hq, q⟩ := q1
  subst ex
  obtain ⟨u1, u2, rfl, ⟨t1, rfl⟩, r2⟩ := vals2 r1
  cases r2
  obtain ⟨its, rv, p1, _⟩ := I1.list hq
  have lb : b < s1.heap.objs.size := p1.lt
  refine zip_begins2 (begins_text x t1) (begins_list b its.toArray) trivial p1.isList fun h' hz hTI hTO h1 h2 hsz hk => wpAny_pyIter_zip hz ?_
  have I2 : Inv X pins σ H1 { s1 with heap := h' } := I1.kept (t' := s1.toks) hk
  refine ⟨s1.heap.objs.size + 4, _, _, _, H1, rfl, I2, turn_zipSL (t1 := t1) (zip_sep2 (N := s1.heap.objs.size) (fp1 := []) (fp2 := [b]) (fun b hb => by cases hb) (fun c hc => by rw [List.mem_singleton.mp hc]; exact lb)) (Nat.ne_of_lt (Nat.lt_succ_of_lt lb)), ⟨hz, hTI, ⟨_, _, hTO⟩, ⟨_, h1, rfl, rfl⟩, ⟨_, h2, rfl, rfl⟩⟩, fun c hcm => ?_, q⟩
  have e' : c = s1.heap.objs.size + 4 ∨ c = s1.heap.objs.size + 2 ∨ c = s1.heap.objs.size + 3 ∨ c = s1.heap.objs.size ∨ c = s1.heap.objs.size + 1 := by simpa using hcm
  have hle : s1.heap.objs.size ≤ c := by
    rcases e' with z | z | z | z | z
    · rw [z]; exact Nat.le_add_right _ _
    · rw [z]; exact Nat.le_add_right _ _
    · rw [z]; exact Nat.le_add_right _ _
    · rw [z]; exact Nat.le_refl _
    · rw [z]; exact Nat.le_add_right _ _
  exact I1.fpOk hle (I1.hok.fresh hle)
theorem walk_zipSL {K : PySem.W.Frag} {x : Str} {b : Addr} {ys : List V} : Walk (ItzSL K x b) (min x.cps.size ys.length) (fun H => SqL K H b ys) (fun i H v H' => ∃ (T : Addr) (a : Nat) (y : V), v = .ref T ∧ H T = none ∧ H' = upd H T (.tup [.str ⟨#[a]⟩, y]) ∧ x.cps[i]? = some a ∧ ys[i]? = some y) :=
  ⟨fun _ _ hi g => ⟨ys, g, hi⟩, fun _ g => ⟨ys, g, rfl⟩, fun _ _ _ _ _ g h => by
    obtain ⟨T, a, y, h1, h2, h3, h4, h5⟩ := h
    exact ⟨T, a, y, h1, h2, h3, h4, h5 ys g⟩⟩
end NvL

set_option Elab.async false
set_option linter.all false
set_option maxRecDepth 100000
set_option maxHeartbeats 8000000
/-! # zip of a text and a tuple -/
namespace NvLT
open PySem PySem.Spec PyProof.Rows L2
def ItzST (K : PySem.W.Frag) (x : Str) (b : Addr) : It := ⟨fun i H => ∃ ys : List V, SqT K H b ys ∧ i < min x.cps.size ys.length,
  fun i H v H' => ∃ (T : Addr) (a : Nat) (y : V), v = .ref T ∧ H T = none ∧ H' = upd H T (.tup [.str ⟨#[a]⟩, y]) ∧ x.cps[i]? = some a ∧ ∀ ys : List V, SqT K H b ys → ys[i]? = some y,
  fun i H => ∃ ys : List V, SqT K H b ys ∧ i = min x.cps.size ys.length⟩
theorem turn_zipST {P : Program} {w : World} {K : PySem.W.Frag} {elts : List Expr} {kk : Nat} {tpos : Pos} {x : Str} {t1 : Tok} {b z TI TO i1 i2 : Addr} (S : ZipSep2 z TI TO i1 i2 [i1] [i2, b]) (hne : b ≠ i2) :
    Turn P w K (.Tuple elts kk tpos) (ItzST K x b) (z :: TI :: TO :: ([i1] ++ [i2])) z (fun i h => IsZip h z TI TO .none ∧ IsTupOf2 h TI (.ref i1) (.ref i2) ∧ (∃ a1 a2, IsTupOf2 h TO a1 a2) ∧ h.IsStrIter i1 (strIterType x) x t1 i ∧ h.IsTupleIter i2 b i) where
  mem := by simp
  obj := fun i h st c hc => by
    obtain ⟨hz, hTI, ⟨a1, a2, hTO⟩, ⟨o1, e1, _, d1⟩, ⟨o2, e2, _, d2⟩⟩ := st
    have e' : c = z ∨ c = TI ∨ c = TO ∨ c = i1 ∨ c = i2 := by simpa using hc
    rcases e' with q | q | q | q | q
    · rw [q]; exact ⟨_, hz, fun v q => nomatch q⟩
    · rw [q]; exact ⟨_, hTI, fun v q => nomatch q⟩
    · rw [q]; exact ⟨_, hTO, fun v q => nomatch q⟩
    · rw [q]; exact ⟨o1, e1, fun v q => by rw [d1] at q; cases q⟩
    · rw [q]; exact ⟨o2, e2, fun v q => by rw [d2] at q; cases q⟩
  keep := fun i h h' st k => by
    obtain ⟨hz, hTI, ⟨a1, a2, hTO⟩, ⟨o1, e1, r1⟩, h2⟩ := st
    exact ⟨k z (by simp) _ hz, k TI (by simp) _ hTI, ⟨a1, a2, k TO (by simp) _ hTO⟩, ⟨o1, k i1 (by simp) _ e1, r1⟩, h2.at fun o q => k i2 (by simp) o q⟩
  item := by
    intro X hP hw hK hc i pins s σ H E I hf st hg
    subst hP hw hK
    have hh : X.A.in1.handled = none := I.ok.hd hc
    obtain ⟨ys, hq, hlt⟩ := hg
    obtain ⟨its, rv, p, _⟩ := I.tuple hq
    have ly := rv.length
    have iy : i < ys.length := by omega
    obtain ⟨u, hu, ru⟩ := rv.get (List.getElem?_eq_getElem iy)
    have G := GoesN.zip2 (elts := elts) (x1 := kk) (pos := tpos) S (Draws.text (prog := X.prog) (w := X.w) (A := X.A.in1) hh i1 x t1) (Draws.tuple (prog := X.prog) (w := X.w) (A := X.A.in1) hh i2 b hne its.toArray)
    obtain ⟨hz, hTI, hTO, h1, h2⟩ := st
    have live : ∀ b ∈ (z :: TI :: TO :: ([i1] ++ [i2])), b < s.heap.objs.size := fun b hb => by
      obtain ⟨a1, a2, hTO⟩ := hTO
      obtain ⟨o1, e1, _⟩ := h1
      obtain ⟨o2, e2, _⟩ := h2
      have e' : b = z ∨ b = TI ∨ b = TO ∨ b = i1 ∨ b = i2 := by simpa using hb
      rcases e' with q | q | q | q | q
      · rw [q]; exact Heap.lt_size hz
      · rw [q]; exact Heap.lt_size hTI
      · rw [q]; exact Heap.lt_size hTO
      · rw [q]; exact Heap.lt_size e1
      · rw [q]; exact Heap.lt_size e2
    refine G.goes i s (fun u s2 => ∃ v H', Inv X pins σ H' s2 ∧ RelV v u ∧ (ItzST X.K x b).yld i H v H' ∧ _ ∧ ∀ b ∈ _, H' b = none) E (by simpa [← ly] using hlt) ⟨hz, hTI, hTO, h1, ⟨h2, (show s.heap.IsTuple b its.toArray from p)⟩⟩ fun v h' tk hY st' hk htk => ?_
    obtain ⟨T, vx, vy, rfl, hT, ⟨c1, u1, hx, rfl⟩, hy, hIs⟩ := hY
    have hy : its.toArray[i]? = some vy := hy
    have evy : vy = u := by
      have e : its.toArray[i]? = some u := by simpa using hu
      rw [e] at hy
      exact (Option.some.inj hy).symm
    subst evy
    have new : ObjOk X.prog X.w (upd H T (.tup [.str ⟨#[c1]⟩, ys[i]])) h' T (.tup [.str ⟨#[c1]⟩, ys[i]]) :=
      ⟨by show 2 ≤ sizeLine; decide, [.str ⟨#[c1]⟩ u1, vy], .cons ⟨u1, rfl⟩ (.cons ru .nil), hIs⟩
    have I1 : Inv X pins σ (upd H T (.tup [.str ⟨#[c1]⟩, ys[i]])) { s with heap := h', toks := tk } :=
      I.turnedNew (t' := tk) (ch := [z, TO, i1, i2]) hk (fun b hb => hf b (by
        have e' : b = z ∨ b = TO ∨ b = i1 ∨ b = i2 := by simpa using hb
        rcases e' with q | q | q | q <;> rw [q] <;> simp)) hT new
    refine ⟨.ref T, _, I1, rfl, ⟨T, c1, ys[i], rfl, I.hok.fresh hT, rfl, hx, fun l hl => by rw [I.tuple_inj hl hq]; exact List.getElem?_eq_getElem iy⟩, ⟨st'.1, st'.2.1, st'.2.2.1, st'.2.2.2.1, st'.2.2.2.2.1⟩, fun b hb => ?_⟩
    rw [upd_ne (Nat.ne_of_lt (Nat.lt_of_lt_of_le (live b hb) hT))]
    exact (hf b hb).1
  done := by
    intro X hP hw hK hc i pins s σ H E I hf st hg
    subst hP hw hK
    have hh : X.A.in1.handled = none := I.ok.hd hc
    obtain ⟨ys, hq, hlt⟩ := hg
    obtain ⟨its, rv, p, _⟩ := I.tuple hq
    have ly := rv.length
    have G := GoesN.zip2 (elts := elts) (x1 := kk) (pos := tpos) S (Draws.text (prog := X.prog) (w := X.w) (A := X.A.in1) hh i1 x t1) (Draws.tuple (prog := X.prog) (w := X.w) (A := X.A.in1) hh i2 b hne its.toArray)
    obtain ⟨hz, hTI, hTO, h1, h2⟩ := st
    have ei : i = min x.cps.size its.toArray.size := by simpa [← ly] using hlt
    subst ei
    refine G.stops s (fun s1 => Inv X pins σ H s1) E ⟨hz, hTI, hTO, h1, ⟨h2, (show s.heap.IsTuple b its.toArray from p)⟩⟩ fun h' tk hk htk => ?_
    exact I.turnedL (t' := tk) (ch := [z, TO, i1, i2]) hk fun b hb => hf b (by
      have e' : b = z ∨ b = TO ∨ b = i1 ∨ b = i2 := by simpa using hb
      rcases e' with q | q | q | q <;> rw [q] <;> simp)
  self := fun A i s Q E st h => wpAny_pyIter_zip st.1 h
def iZipST (K : PySem.W.Frag) (ta : TA) : TI := fun σ H R => ta σ H fun vs H1 => ∃ (x : Str) (b : Addr) (ys : List V), vs = [.str x, .ref b] ∧ SqT K H1 b ys ∧ R (ItzST K x b) H1
theorem pi_zipST {X : Cx} {e e2 : Expr} {ta : TA} {p pos tpos : Pos} {elts : List Expr} {kk : Nat} (hg : Gl X "zip") (hm : X.mg "zip" = none) (ha : PA X [e, e2] ta)
    (hs : starEach [e, e2] X.env = (false, eval e X.env) :: starEach [e2] X.env := by rfl) (hpl : (backTo pos (starEach [e2] X.env)).any (·.1) = false := by rfl) :
    PI X (.Tuple elts kk tpos) (.Call (.Name "zip" p) [e, e2] [] pos) (iZipST X.K ta) := by
  refine ⟨fun pins s σ H R I h => ?_⟩
  refine Call_ (ld_blt I hg hm PyProof.Rows.boot_zip (PyProof.Rows.callWith_type1 (thn (ha.run pos pins s σ H _ I h) fun us s1 ⟨vs, H1, I1, r1, q1⟩ => ?_) hs hpl))
  obtain ⟨x, b, ys, ex, hq, q⟩ := q1
  subst ex
  obtain ⟨u1, u2, rfl, ⟨t1, rfl⟩, r2⟩ := vals2 r1
  cases r2
  obtain ⟨its, rv, p1, _⟩ := I1.tuple hq
  have lb : b < s1.heap.objs.size := by
    obtain ⟨o1, ho1, _⟩ := id p1
    exact Heap.lt_size ho1
  refine zip_begins2 (begins_text x t1) (begins_tuple b its.toArray) trivial (show s1.heap.IsTuple b its.toArray from p1) fun h' hz hTI hTO h1 h2 hsz hk => wpAny_pyIter_zip hz ?_
  have I2 : Inv X pins σ H1 { s1 with heap := h' } := I1.kept (t' := s1.toks) hk
  refine ⟨s1.heap.objs.size + 4, _, _, _, H1, rfl, I2, turn_zipST (t1 := t1) (zip_sep2 (N := s1.heap.objs.size) (fp1 := []) (fp2 := [b]) (fun b hb => by cases hb) (fun c hc => by rw [List.mem_singleton.mp hc]; exact lb)) (Nat.ne_of_lt (Nat.lt_succ_of_lt lb)), ⟨hz, hTI, ⟨_, _, hTO⟩, ⟨_, h1, rfl, rfl⟩, ⟨_, h2, rfl, rfl⟩⟩, fun c hcm => ?_, q⟩
  have e' : c = s1.heap.objs.size + 4 ∨ c = s1.heap.objs.size + 2 ∨ c = s1.heap.objs.size + 3 ∨ c = s1.heap.objs.size ∨ c = s1.heap.objs.size + 1 := by simpa using hcm
  have hle : s1.heap.objs.size ≤ c := by
    rcases e' with z | z | z | z | z
    · rw [z]; exact Nat.le_add_right _ _
    · rw [z]; exact Nat.le_add_right _ _
    · rw [z]; exact Nat.le_add_right _ _
    · rw [z]; exact Nat.le_refl _
    · rw [z]; exact Nat.le_add_right _ _
  exact I1.fpOk hle (I1.hok.fresh hle)
theorem walk_zipST {K : PySem.W.Frag} {x : Str} {b : Addr} {ys : List V} : Walk (ItzST K x b) (min x.cps.size ys.length) (fun H => SqT K H b ys) (fun i H v H' => ∃ (T : Addr) (a : Nat) (y : V), v = .ref T ∧ H T = none ∧ H' = upd H T (.tup [.str ⟨#[a]⟩, y]) ∧ x.cps[i]? = some a ∧ ys[i]? = some y) :=
  ⟨fun _ _ hi g => ⟨ys, g, hi⟩, fun _ g => ⟨ys, g, rfl⟩, fun _ _ _ _ _ g h => by
    obtain ⟨T, a, y, h1, h2, h3, h4, h5⟩ := h
    exact ⟨T, a, y, h1, h2, h3, h4, h5 ys g⟩⟩
end NvLT

set_option Elab.async false
set_option linter.all false
set_option maxRecDepth 100000
set_option maxHeartbeats 4000000
/-! # A text, many times over (no law's own) -/
namespace NvM
open PySem L2
/-- s * n -/
def times (s : Str) (n : Nat) : Str := ⟨(List.replicate n s.cps).foldl (· ++ ·) #[]⟩
theorem fold_toList (l : List (Array Nat)) : ∀ a : Array Nat, (l.foldl (· ++ ·) a).toList = a.toList ++ (l.map Array.toList).flatten := by
  induction l with
  | nil => intro a; simp
  | cons b l ih => intro a; rw [List.foldl_cons, ih]; simp
theorem times_toList (s : Str) (n : Nat) : (times s n).cps.toList = (List.replicate n s.cps.toList).flatten := by
  show ((List.replicate n s.cps).foldl (· ++ ·) #[]).toList = _
  rw [fold_toList, List.map_replicate]
  simp
theorem str_eq {a b : Str} (h : a.cps.toList = b.cps.toList) : a = b := by
  obtain ⟨a⟩ := a
  obtain ⟨b⟩ := b
  congr 1
  exact Array.ext' h
theorem times_length (s : Str) (n : Nat) : (times s n).length = n * s.length := by
  show (times s n).cps.size = n * s.cps.size
  rw [← Array.length_toList, times_toList]
  simp
def rRepStr : R2 := fun x y H Q => ∃ (i : Str) (n : Nat), x = .str i ∧ y = .int (n : Nat) ∧ i.length * n ≤ 1000000 ∧ n ≤ 1000000 ∧ i.length ≤ 1000000 ∧ Q (.str (times i n)) H
theorem op_repStr {X : Cx} : OpR X (binaryOp .Mult) rRepStr := by
  intro pins s σ H x y v u Q I rx ry h
  obtain ⟨i, n, rfl, rfl, hz, hn, hi, q⟩ := h
  obtain ⟨t, rfl⟩ := rx
  obtain ⟨t', rfl⟩ := ry
  have l : sizeLine = 16777216 := sizeLine_eq
  refine PySem.P.mul_str ?_ ?_ ?_ ?_
  · rw [decide_eq_false (by omega), decide_eq_false (by omega)]
    rfl
  · intro h1 h2 h3
    have h4 : (1000000 : Int) ≤ (2 ^ 63 - 1) / (n : Int) := Int.le_ediv_of_mul_le (by omega) (by omega)
    omega
  · intro h1 h2
    unfold Builtin.Str.tooLong
    rw [Int.toNat_natCast]
    exact decide_eq_false (by omega)
  · by_cases h1 : ((n : Nat) : Int) < 1
    · rw [if_pos h1]
      have n0 : n = 0 := by omega
      subst n0
      have e : times i 0 = Str.empty := by rfl
      rw [e] at q
      exact ⟨by decide, .str Str.empty, H, I.tok _, ⟨_, rfl⟩, q⟩
    · rw [if_neg h1]
      by_cases h2 : (((n : Nat) : Int) == 1 || i.length == 0) = true
      · rw [if_pos h2]
        have e : times i n = i := by
          refine str_eq ?_
          rw [times_toList]
          rcases Bool.or_eq_true_iff.mp h2 with h | h
          · have h := eq_of_beq h
            have n1 : n = 1 := by omega
            subst n1
            simp
          · have h := eq_of_beq h
            have h0 : i.cps.toList = [] := by
              have h : i.cps.size = 0 := h
              rw [← Array.length_toList] at h
              exact List.eq_nil_of_length_eq_zero h
            rw [h0]
            simp
        rw [e] at q
        exact ⟨.str i, H, I, ⟨_, rfl⟩, q⟩
      · rw [if_neg h2, Int.toNat_natCast]
        refine ⟨?_, .str (times i n), H, I.tok _, ⟨_, rfl⟩, q⟩
        show (times i n).length ≤ sizeLine
        rw [times_length, Nat.mul_comm]
        omega
end NvM

set_option Elab.async false
set_option linter.all false
set_option maxRecDepth 100000
set_option maxHeartbeats 2000000
/-! # A tuple, once -/
namespace NvN
open PySem PySem.Spec PyProof.Rows L2
theorem tuple_mul1 (l : Addr) (items : Array Value) (n : Nat) (dd : Option Addr) (sl : Array (Option Value)) (u : Tok) :
    Meets (Builtin.«tuple.__mul__» ⟨[.ref l, .int 1 u], []⟩) (fun _ R s => s.heap.get? l = some { cls := .type "tuple", dict := dd, data := .seq items n, slots := sl } ∧
      R (.ok (.ret (Value.ref l))) s) :=
  .of_wp fun prog w A R s h => by
    obtain ⟨hp, g, d, tk, os⟩ := s
    obtain ⟨hl, h⟩ := h
    have f1 := AutoSeq1.idx_int
    have c0 : (decide ((1 : Int) < -(2 ^ 63)) || decide ((1 : Int) ≥ 2 ^ 63)) = false := by decide
    have c1 : (items.isEmpty || (1 : Int) == 1) = true := by
      rw [Bool.or_eq_true]
      exact .inr rfl
    wp_walk using wpAny_loadPart' hl
    repeat (first
      | (refine wpAny_ite_false (decide_eq_false (by rw [c0]; exact Bool.false_ne_true)) ?_; wp_walk using wpAny_loadPart' hl)
      | (refine wpAny_ite_true (decide_eq_true (by rw [c1])) ?_; wp_walk using wpAny_loadPart' hl))
    exact ⟨_, rfl, h⟩
/-- once: the tuple itself -/
def rRepT1 (K : PySem.W.Frag) : R2 := fun x y H Q => ∃ l xs, x = .ref l ∧ y = .int 1 ∧ SqT K H l xs ∧ Q (.ref l) H
theorem op_repT1 {X : Cx} : OpR X (binaryOp .Mult) (rRepT1 X.K) := by
  intro pins s σ H x y v u Q I rx ry h
  obtain ⟨l, xs, rfl, rfl, hT, q⟩ := h
  cases rx
  obtain ⟨t, rfl⟩ := ry
  obtain ⟨its, r, ⟨⟨cls, dd, data, sl⟩, ho, hc, n, hd⟩, hs⟩ := I.tuple hT
  simp only at hc hd
  subst hc hd
  refine wpAny_binaryOp_repeat_ref (T := "tuple") (U := "int") (by decide) ⟨_, ho, rfl⟩ (fun s' => typeIs_int s' 1 t) noFill_tuple_mul F.fills_int_mul F.slot_int_rmul repeat_tuple F.slot_int_index.lookup
    (call_meets F.slot_int_rmul (typeIs_int s 1 t) F.entry_int_rmul (F.args_int_rmul_2 _ _) (int_rmul_tuple 1 t l its.toArray n dd sl)
      ⟨ho, rfl, ⟨_, ho, rfl⟩, call_meets F.slot_tuple_mul ⟨_, ho, rfl⟩ F.entry_tuple_mul (F.args_tuple_mul_2 _ _) (tuple_mul1 l its.toArray n dd sl t) ⟨ho, ?_⟩⟩)
  exact ⟨.ref l, H, I, rfl, q⟩
end NvN

set_option Elab.async false
set_option maxRecDepth 100000
set_option maxHeartbeats 4000000
/-! # The dice of the law -/
namespace M3
open PySem L2
def top (i : Nat) : Stmt := PySem.Challenge.pw_neverturns_k20_lags_first_words_and_lean.main.body.getD i (.Pass ⟨0, 0, 0, 0⟩)
abbrev sDice : Stmt := top 67
abbrev sRoll : Stmt := top 68
abbrev sOneOf : Stmt := top 69
/-- dice that stand at d: what is left of a great cell, the mixed number, how many were drawn -/
def DiceAt (H : Hp) (d : Addr) (l m c : Int) : Prop := H d = some (.lst [.int l, .int m, .int c]) ∧ 0 ≤ l ∧ 0 ≤ m ∧ 0 ≤ c
/-- what a def leaves: the dice turned, all else as it was -/
def But (H H' : Hp) (d : Addr) : Prop := ∀ b o, b ≠ d → H b = some o → H' b = some o
def spRoll : Sp := fun vs H Q _ => ∃ (d : Addr) (l m c n : Int), vs = [.ref d, .int n] ∧ DiceAt H d l m c ∧ 0 < n ∧ n < 1073741824 ∧
  ∀ (r l' c' : Int), 0 ≤ r → r < n → 0 ≤ l' → 0 ≤ c' → Q (.int r) (upd H d (.lst [.int l', .int m, .int c']))
/-- the dice at d are turned, nothing else -/
def Turned (H H' : Hp) (d : Addr) : Prop := ∃ l m c : Int, 0 ≤ l ∧ 0 ≤ m ∧ 0 ≤ c ∧ H' = upd H d (.lst [.int l, .int m, .int c])
def Dz (H : Hp) (d : Addr) : Prop := ∃ l m c : Int, DiceAt H d l m c
theorem Turned.dz {H H' : Hp} {d : Addr} (t : Turned H H' d) : Dz H' d := by
  obtain ⟨l, m, c, h1, h2, h3, rfl⟩ := t
  exact ⟨l, m, c, upd_same, h1, h2, h3⟩
theorem Turned.ne {H H' : Hp} {d b : Addr} (t : Turned H H' d) (h : b ≠ d) : H' b = H b := by
  obtain ⟨l, m, c, h1, h2, h3, rfl⟩ := t
  exact upd_ne h
theorem Turned.trans {H H1 H2 : Hp} {d : Addr} (t : Turned H H1 d) (u : Turned H1 H2 d) : Turned H H2 d := by
  obtain ⟨l, m, c, h1, h2, h3, rfl⟩ := t
  obtain ⟨l', m', c', g1, g2, g3, rfl⟩ := u
  exact ⟨l', m', c', g1, g2, g3, upd_upd⟩
theorem SqL.turned {K : PySem.W.Frag} {H : Hp} {d a : Addr} {o : HO} {xs : List V} (hn : a ≠ d) (h : SqL K H a xs) : SqL K (upd H d o) a xs := by
  rcases h with (h | ⟨u, h⟩) | h
  · exact .inl (.inl (by rw [upd_ne hn]; exact h))
  · exact .inl (.inr ⟨u, by rw [upd_ne hn]; exact h⟩)
  · exact .inr h
def spOneOf (K : PySem.W.Frag) : Sp := fun vs H Q _ => ∃ (d a : Addr) (xs : List V), vs = [.ref d, .ref a] ∧ Dz H d ∧ SqL K H a xs ∧ a ≠ d ∧ 0 < xs.length ∧ xs.length < 1000000 ∧
  ∀ (v : V) (H' : Hp), v ∈ xs → Turned H H' d → Q v H'
def spDice (K : PySem.W.Frag) : Sp := fun vs H Q _ => ∃ (a : Addr) (ns : List Int) (i : Int), vs = [.ref a, .int i] ∧ SqL K H a (ns.map V.int) ∧ 0 ≤ i ∧ ns.length ≤ 63 ∧
  ∀ (p : Addr) (l m : Int), H p = none → 0 ≤ l → 0 ≤ m → Q (.ref p) (upd H p (.lst [.int l, .int m, .int 0]))
theorem op_powX {X : Cx} : OpR X (binaryOp .Pow) (rI (fun i j => 0 ≤ j ∧ (Builtin.Int.intBits i : Int) * j ≤ 2 ^ 27) fun i j => .int (i ^ j.toNat)) := opI fun _ _ _ _ _ _ _ hc q => PyProof.Rows.pow_int hc.1 hc.2 q
structure TxI (mg : Str → Option Value) : Prop where
  int : mg "int" = none
  abs : mg "abs" = none
  len : mg "len" = none
section
variable {P : Program} {w : World} {K : PySem.W.Frag} {mg : Str → Option Value} {base : Heap}
theorem scRoll : FnScope ["dice", "total", "number", "drawn", "one", "two"] ["dice", "total"] (defScope sRoll) := ⟨rfl, rfl, rfl, by decide +kernel, rfl, by decide +kernel, by decide +kernel⟩
theorem ok_roll {f : Addr} {fd : FuncData} (F : Fun K "_law_roll" "_law_roll" sRoll f fd) (T : TxI mg) : FnOk P w K mg base CX0 1 f fd ["dice", "total"] spRoll := by
  refine F.ok scRoll (fun vs H Q E h => ?_) (fun cdv A outer s H vs Q E hr h => ?_)
  · obtain ⟨d, l, m, c, n, rfl, _⟩ := h
    rfl
  · obtain ⟨d, l, m, c, n, rfl, ⟨hd, hl, hm, hc⟩, hn, hn2, k⟩ := h
    refine ⟨_, pss_cons (ps_set (i := 2) scRoll.nd rfl (Or.inl rfl) (pe_callTy call_int1 (by rfl) T.int (by decide +kernel) (pa_cons (pv 1) pa_nil)))
      (pss_cons (ps_if (pt_cmpR op_gt (pe_ix ix_list (pv 0) pe_int (fun _ _ => rfl)) pe_int (nomark _))
        (pss_cons (ps_set (i := 3) scRoll.nd rfl (Or.inl rfl) (pe_op op_modN (pe_ix ix_list (pv 0) pe_int (fun _ _ => rfl)) (pv 2)))
        (pss_cons (ps_asg (pe_op op_fdivN (pe_ix ix_list (pv 0) pe_int (fun _ _ => rfl)) (pv 2)) (pg_sub (pv 0) pe_int set_list))
        (pss_one (ps_ret (pe_callTy call_int1 (by rfl) T.int (by decide +kernel) (pa_cons (pv 3) pa_nil)))))) pss_nil)
      (pss_cons (ps_asg (pe_op op_add (pe_ix ix_list (pv 0) pe_int (fun _ _ => rfl)) pe_int) (pg_sub (pv 0) pe_int set_list))
      (pss_cons (ps_set (i := 4) scRoll.nd rfl (Or.inl rfl) (pe_op op_mod (pe_op op_add (pe_ix ix_list (pv 0) pe_int (fun _ _ => rfl)) (pe_op op_mul pe_int (pe_ix ix_list (pv 0) pe_int (fun _ _ => rfl)))) pe_int))
      (pss_cons (ps_set (i := 5) scRoll.nd rfl (Or.inl rfl) (pe_op op_add (pe_op op_mul (pe_op op_mod (pe_op op_mul (pv 4) (pv 4)) pe_int) (pv 4)) (pe_op op_mul pe_int (pe_ix ix_list (pv 0) pe_int (fun _ _ => rfl)))))
      (pss_cons (ps_set (i := 5) scRoll.nd rfl (Or.inl rfl) (pe_op op_mod (pv 5) pe_int))
      (pss_one (ps_ret (pe_callTy call_int1 (by rfl) T.int (by decide +kernel) (pa_cons (pe_op op_modN (pe_op op_fdiv (pv 5) pe_int) (pv 2)) pa_nil))))))))), ?_⟩
    have h1 : atI [V.int l, V.int m, V.int c] 1 = some (.int m) := rfl
    have h2 : ∀ z : Int, atI [V.int l, V.int m, V.int z] 2 = some (.int z) := fun _ => rfl
    have h1' : ∀ z : Int, atI [V.int l, V.int m, V.int z] 1 = some (.int m) := fun _ => rfl
    refine ⟨_, rfl, .inl ⟨_, rfl, ?_⟩⟩
    refine ⟨_, rfl, d, _, 0, _, rfl, rfl, SqL.of hd, rfl, _, _, rfl, rfl, _, rfl, ?_⟩
    refine ite2 (fun hpos => ?_) (fun hpos => ?_)
    · have hpos : 0 < l := of_decide_eq_true hpos
      refine ⟨_, rfl, d, _, 0, _, rfl, rfl, SqL.of hd, rfl, _, rfl, _, _, rfl, rfl, (by omega), ?_⟩
      refine ⟨_, rfl, d, _, 0, _, rfl, rfl, SqL.of hd, rfl, _, rfl, _, _, rfl, rfl, ⟨by omega, by omega⟩, ?_⟩
      refine ⟨_, rfl, d, _, 0, 0, rfl, rfl, hd, rfl, ?_⟩
      refine ⟨_, rfl, .inl ⟨_, rfl, ?_⟩⟩
      refine k _ _ _ ?_ ?_ ?_ hc
      · exact Int.fmod_nonneg (by omega) (by omega)
      · exact Int.fmod_lt_of_pos _ hn
      · exact Int.fdiv_nonneg hl (by omega)
    · refine ⟨_, rfl, d, _, 2, _, rfl, rfl, SqL.of hd, rfl, _, _, rfl, rfl, ?_⟩
      refine ⟨_, rfl, d, _, 2, 2, rfl, rfl, hd, rfl, ?_⟩
      have hd2 : (upd H d (.lst [.int l, .int m, .int (c + 1)])) d = some (.lst [.int l, .int m, .int (c + 1)]) := upd_same
      -- one
      refine ⟨_, rfl, d, _, 1, _, rfl, rfl, SqL.of hd2, rfl, ?_⟩
      refine ⟨_, rfl, d, _, 2, _, rfl, rfl, SqL.of hd2, rfl, _, _, rfl, rfl, .inl ⟨by decide, by decide⟩, _, _, rfl, rfl, _, _, rfl, rfl, (by show (0 : Int) < 2305843009213693951; decide), ?_⟩
      have b1 : ∀ x : Int, 0 ≤ x % 2305843009213693951 ∧ x % 2305843009213693951 < 2305843009213693951 := fun x => by omega
      generalize hx : (m + 1000151 * (c + 1)) % 2305843009213693951 = x1
      have bx := b1 (m + 1000151 * (c + 1))
      rw [hx] at bx
      -- two
      refine ⟨_, rfl, _, rfl, _, _, rfl, rfl, .inl ⟨by omega, by omega⟩, _, _, rfl, rfl, (by show (0 : Int) < 2305843009213693921; decide), ?_⟩
      have b2 : ∀ x : Int, 0 ≤ x % 2305843009213693921 ∧ x % 2305843009213693921 < 2305843009213693921 := fun x => by omega
      have by1 := b2 (x1 * x1)
      generalize hy : (x1 * x1) % 2305843009213693921 = y1 at by1 ⊢
      refine ⟨_, rfl, _, _, rfl, rfl, .inl ⟨by omega, by omega⟩, _, rfl, d, _, 2, _, rfl, rfl, SqL.of hd2, rfl, _, _, rfl, rfl, .inl ⟨by decide, by decide⟩, _, _, rfl, rfl, ?_⟩
      refine ⟨_, rfl, _, _, rfl, rfl, (by show (0 : Int) < 2305843009213693907; decide), ?_⟩
      have b3 : ∀ x : Int, 0 ≤ x % 2305843009213693907 := fun x => by omega
      have bz := b3 (y1 * x1 + 9403 * (c + 1))
      generalize (y1 * x1 + 9403 * (c + 1)) % 2305843009213693907 = z1 at bz ⊢
      refine ⟨_, rfl, _, _, rfl, rfl, ⟨by decide, by decide⟩, _, rfl, _, _, rfl, rfl, (by omega), .inl ⟨_, rfl, ?_⟩⟩
      refine k _ _ _ ?_ ?_ hl (by omega)
      · exact Int.fmod_nonneg (by omega) (by omega)
      · exact Int.fmod_lt_of_pos _ hn
theorem scOneOf : FnScope ["dice", "items"] ["dice", "items"] (defScope sOneOf) := ⟨rfl, rfl, rfl, by decide +kernel, rfl, by decide +kernel, by decide +kernel⟩
theorem ok_oneof {f g : Addr} {fd gd : FuncData} (F : Fun K "_law_one_of" "_law_one_of" sOneOf f fd) (G : Fun K "_law_roll" "_law_roll" sRoll g gd) (bG : Binds K gd ["dice", "total"] []) (gG : mg "_law_roll" = some (.ref g)) (T : TxI mg) :
    FnOk P w K mg base CX0 2 f fd ["dice", "items"] (spOneOf K) := by
  have GR : FnOk P w K mg base CX0 1 g gd ["dice", "total"] spRoll := ok_roll G T
  refine F.ok scOneOf (fun vs H Q E h => ?_) (fun cdv A outer s H vs Q E hr h => ?_)
  · obtain ⟨d, a, xs, rfl, _⟩ := h
    rfl
  · obtain ⟨d, a, xs, rfl, ⟨l, m, c, D⟩, ha, hn, h0, hz, k⟩ := h
    refine ⟨_, pss_one (ps_ret (pe_ix ix_list (pv 1) (pe_call GR hr rfl gG G.kp bG .nil pass0 (pa_cons (pv 0) (pa_cons (pe_callB call_len_seq (by rfl) T.len PySem.boot_len (pa_cons (pv 1) pa_nil)) pa_nil))) (fun _ _ => rfl))), ?_⟩
    refine ⟨_, rfl, _, rfl, _, rfl, a, xs, rfl, .inl ha, d, l, m, c, xs.length, rfl, D, by omega, by omega, fun r l' c' h1 h2 h3 h4 => ?_⟩
    have hlt : r.toNat < xs.length := by omega
    have er : r = (r.toNat : Int) := by omega
    refine ⟨a, xs, r, xs[r.toNat], rfl, rfl, (SqL.turned hn ha), ?_, ?_⟩
    · have q := atI_nat (List.getElem?_eq_getElem hlt)
      rw [← er] at q
      exact q
    · exact k _ _ (List.getElem_mem hlt) ⟨l', m, c', h3, D.2.2.1, h4, rfl⟩
theorem scDice : FnScope ["script", "at", "cell", "great", "left", "mixed"] ["script", "at"] (defScope sDice) := ⟨rfl, rfl, rfl, by decide +kernel, rfl, by decide +kernel, by decide +kernel⟩
theorem ok_dice {f : Addr} {fd : FuncData} (F : Fun K "_law_dice" "_law_dice" sDice f fd) (T : TxI mg) : FnOk P w K mg base CX0 1 f fd ["script", "at"] (spDice K) := by
  refine F.ok scDice (fun vs H Q E h => ?_) (fun cdv A outer s H vs Q E hr h => ?_)
  · obtain ⟨a, ns, i, rfl, _⟩ := h
    rfl
  · obtain ⟨a, ns, i, rfl, ha, hi, hl, k⟩ := h
    refine ⟨_, pss_cons (ps_set (i := 2) scDice.nd rfl (Or.inl rfl) (pe_op op_add (pe_op op_mul pe_int (pv 1)) pe_int))
      (pss_cons (ps_if (pt_cmpR op_lt (pv 1) (pe_callB call_len_seq (by rfl) T.len PySem.boot_len (pa_cons (pv 0) pa_nil)) (nomark _)) (pss_one (ps_set (i := 2) scDice.nd rfl (Or.inl rfl) (pe_ix ix_list (pv 0) (pv 1) (fun _ _ => rfl)))) pss_nil)
      (pss_cons (ps_set (i := 3) scDice.nd rfl (Or.inl rfl) (pe_op op_mod (pe_callTy call_int1 (by rfl) T.int (by decide +kernel) (pa_cons (pe_callB call_abs (by rfl) T.abs (by decide +kernel) (pa_cons (pv 2) pa_nil)) pa_nil)) (pe_op op_powX (pe_op op_pow pe_int pe_int) pe_int)))
      (pss_cons (ps_set (i := 4) scDice.nd rfl (Or.inl rfl) (pe_op op_fdivW (pv 3) (pe_op op_pow pe_int pe_int)))
      (pss_cons (ps_set (i := 5) scDice.nd rfl (Or.inl rfl) (pe_op op_add (pe_op op_add (pe_op op_add (pe_op op_mul (pe_op op_mod (pv 3) pe_int) pe_int) (pe_op op_mul pe_int (pv 1)))
        (pe_op op_mul pe_int (pe_callTy call_int1 (by rfl) T.int (by decide +kernel) (pa_cons (pe_cmpR op_lt (pv 2) pe_int (nomark _)) pa_nil)))) pe_int))
      (pss_one (ps_ret (pe_lst (pa_cons (pv 4) (pa_cons (pe_op op_mod (pv 5) pe_int) (pa_cons pe_int pa_nil)))))))))), ?_⟩
    refine ⟨_, rfl, _, _, rfl, rfl, .inl ⟨by decide, by decide⟩, _, _, rfl, rfl, ?_⟩
    refine ⟨_, rfl, _, rfl, a, _, rfl, .inl ha, _, _, rfl, rfl, _, rfl, ?_⟩
    have pw0 : (0 : Int) < (10 ^ (60 : Int).toNat) ^ (10 : Int).toNat := Int.pow_pos (Int.pow_pos (by decide))
    have pb : (0 ≤ (10 : Int) ∧ (Builtin.Int.intBits (10 ^ (60 : Int).toNat) : Int) * 10 ≤ 2 ^ 27) := ⟨by decide, by decide +kernel⟩
    have p18 : (0 : Int) < 10 ^ (18 : Int).toNat := Int.pow_pos (by decide)
    have p18b : ((10 : Int) ^ (18 : Int).toNat).natAbs.log2 < 9000 := by decide +kernel
    have m1 : ∀ x : Int, -(2 ^ 64) < x % 2147483237 ∧ x % 2147483237 < 2 ^ 64 := fun x => by omega
    refine ite2 (fun hc => ?_) (fun hc => ?_)
    · have hc : i < ((ns.map V.int).length : Int) := of_decide_eq_true hc
      have hlt : i.toNat < ns.length := by rw [List.length_map] at hc; omega
      have er : i = (i.toNat : Int) := by omega
      have q : atI (ns.map V.int) (i.toNat : Int) = some (.int ns[i.toNat]) := atI_nat (by rw [List.getElem?_map, List.getElem?_eq_getElem hlt]; rfl)
      rw [← er] at q
      refine ⟨_, rfl, _, rfl, a, _, i, _, rfl, rfl, ha, q, ?_⟩
      generalize ns[i.toNat] = cell
      refine ⟨_, rfl, _, rfl, .inl ⟨_, rfl, _, _, rfl, rfl, ⟨by decide, by decide, by decide⟩, _, _, rfl, rfl, pb, _, _, rfl, rfl, pw0, ?_⟩⟩
      refine ⟨_, rfl, _, _, rfl, rfl, ⟨by decide, by decide, by decide⟩, _, _, rfl, rfl, ⟨p18, p18b⟩, ?_⟩
      refine ⟨_, rfl, _, _, rfl, rfl, (by show (0 : Int) < 2147483237; decide), _, _, rfl, rfl, .inl ⟨(m1 _).1, (m1 _).2⟩, _, rfl, _, _, rfl, rfl, .inl ⟨by decide, by decide⟩, _, _, rfl, rfl, ?_⟩
      refine ⟨_, rfl, _, _, rfl, rfl, .inr ⟨_, rfl, _, _, rfl, rfl, .inl ⟨by decide, by decide⟩, _, _, rfl, rfl, _, _, rfl, rfl, ?_⟩⟩
      refine ⟨_, rfl, _, rfl, _, _, rfl, rfl, (by show (0 : Int) < 2147483179; decide), (by show 3 ≤ sizeLine; decide), fun p hp => ?_⟩
      exact k p _ _ hp (Int.ediv_nonneg (Int.emod_nonneg _ (by omega)) (by omega)) (Int.emod_nonneg _ (by decide))
    · refine ⟨_, rfl, _, rfl, .inl ⟨_, rfl, _, _, rfl, rfl, ⟨by decide, by decide, by decide⟩, _, _, rfl, rfl, pb, _, _, rfl, rfl, pw0, ?_⟩⟩
      refine ⟨_, rfl, _, _, rfl, rfl, ⟨by decide, by decide, by decide⟩, _, _, rfl, rfl, ⟨p18, p18b⟩, ?_⟩
      refine ⟨_, rfl, _, _, rfl, rfl, (by show (0 : Int) < 2147483237; decide), _, _, rfl, rfl, .inl ⟨(m1 _).1, (m1 _).2⟩, _, rfl, _, _, rfl, rfl, .inl ⟨by decide, by decide⟩, _, _, rfl, rfl, ?_⟩
      refine ⟨_, rfl, _, _, rfl, rfl, .inr ⟨_, rfl, _, _, rfl, rfl, .inl ⟨by decide, by decide⟩, _, _, rfl, rfl, _, _, rfl, rfl, ?_⟩⟩
      refine ⟨_, rfl, _, rfl, _, _, rfl, rfl, (by show (0 : Int) < 2147483179; decide), (by show 3 ≤ sizeLine; decide), fun p hp => ?_⟩
      exact k p _ _ hp (Int.ediv_nonneg (Int.emod_nonneg _ (by omega)) (by omega)) (Int.emod_nonneg _ (by decide))
end
end M3

set_option Elab.async false
set_option linter.all false
set_option maxRecDepth 100000
set_option maxHeartbeats 8000000
/-! # Drawn orders, letters, words -/
namespace M3
open PySem L2
theorem keep_new {H : Hp} {p b : Addr} {o u : HO} (h : H b = some o) (hp : H p = none) : upd H p u b = some o := by
  rw [upd_ne (ne_of_none h hp)]
  exact h
/-- all but the dice stands as it stood -/
def Still (d : Addr) (H H' : Hp) : Prop := ∀ b o, b ≠ d → H b = some o → H' b = some o
theorem Still.new {d : Addr} {H H1 : Hp} {p : Addr} {u : HO} (s : Still d H H1) (hp : H1 p = none) : Still d H (upd H1 p u) := fun b o hb h => keep_new (s b o hb h) hp
theorem Still.turn {d : Addr} {H H1 H2 : Hp} (s : Still d H H1) (t : Turned H1 H2 d) : Still d H H2 := fun b o hb h => by
  rw [t.ne hb]
  exact s b o hb h
theorem Still.refl (d : Addr) (H : Hp) : Still d H H := fun _ _ _ h => h
theorem Still.trans {d : Addr} {H H1 H2 : Hp} (s : Still d H H1) (t : Still d H1 H2) : Still d H H2 := fun b o hb h => t b o hb (s b o hb h)
/-- what is made behind H changes nothing of H -/
theorem Still.at_new {d q : Addr} {H H1 : Hp} {u : HO} (s : Still d H H1) (hq : H q = none) : Still d H (upd H1 q u) := fun b o hb h => by
  rw [upd_ne (ne_of_none h hq)]
  exact s b o hb h
theorem Dz.new {H : Hp} {d p : Addr} {u : HO} (z : Dz H d) (hp : H p = none) : Dz (upd H p u) d := by
  obtain ⟨l, m, c, h, r⟩ := z
  exact ⟨l, m, c, keep_new h hp, r⟩
theorem Dz.ne {H : Hp} {d p : Addr} {u : HO} (z : Dz H d) (hp : p ≠ d) : Dz (upd H p u) d := by
  obtain ⟨l, m, c, h, r⟩ := z
  exact ⟨l, m, c, by rw [upd_ne hp.symm]; exact h, r⟩
structure TxM (mg : Str → Option Value) : Prop where
  list : mg "list" = none
  sorted : mg "sorted" = none
  range : mg "range" = none
  tuple : mg "tuple" = none
  len : mg "len" = none
/-- the facts of the dice's defs -/
structure DefsD (K : PySem.W.Frag) (mg : Str → Option Value) where
  (fR fO : Addr)
  (dR dO : FuncData)
  R : Fun K "_law_roll" "_law_roll" sRoll fR dR
  bR : Binds K dR ["dice", "total"] []
  mR : mg "_law_roll" = some (.ref fR)
  O : Fun K "_law_one_of" "_law_one_of" sOneOf fO dO
  bO : Binds K dO ["dice", "items"] []
  mO : mg "_law_one_of" = some (.ref fO)
abbrev sMixed : Stmt := top 70
theorem dp_strs {K : PySem.W.Frag} {H : Hp} : ∀ ss : List Str, DpAll K H (ss.map V.str) (ss.map PyData.str)
  | [] => .nil
  | _ :: ss => .cons (.str _) (dp_strs ss)
theorem strs_lay : ∀ ss : List Str, (∀ z ∈ ss, PyData.strOk z = true) → PyData.canLayAll0 (ss.map PyData.str) = true
  | [], _ => by rfl
  | x :: l, hk => by
    have h := strs_lay l fun z hz => hk z (List.mem_cons_of_mem _ hz)
    have h0 := hk x List.mem_cons_self
    simp only [List.map_cons, PyData.canLayAll0, PyData.canLay0, h, h0, Bool.and_self]
theorem strs_depth : ∀ ss : List Str, PyData.depthAll (ss.map PyData.str) = 0
  | [] => by rfl
  | _ :: l => by
    have h := strs_depth l
    simp only [List.map_cons, PyData.depthAll, PyData.depth, h, Nat.max_self]
theorem strs_shaped (ss : List Str) (hk : ∀ z ∈ ss, PyData.strOk z = true) : SeqAt.shaped (.list (ss.map PyData.str)) = true := by
  unfold SeqAt.shaped
  have h1 : (PyData.list (ss.map PyData.str)).canLay0 = true := by
    have h := strs_lay ss hk
    simp only [PyData.canLay0, h]
  have h2 : (PyData.list (ss.map PyData.str)).depth = 1 := by
    have h := strs_depth ss
    simp only [PyData.depth, h]
  rw [h1, h2]
  rfl
theorem map_erase {α β : Type} (g : α → β) : ∀ (l : List α) (i : Nat), (l.map g).eraseIdx i = (l.eraseIdx i).map g
  | [], _ => rfl
  | _ :: _, 0 => rfl
  | x :: l, i + 1 => by
    show g x :: (l.map g).eraseIdx i = g x :: (l.eraseIdx i).map g
    rw [map_erase g l i]
theorem erase_perm {α : Type} : ∀ (l : List α) (i : Nat) (h : i < l.length), (l[i] :: l.eraseIdx i).Perm l
  | _ :: _, 0, _ => List.Perm.refl _
  | x :: l, i + 1, h => by
    have h' : i < l.length := Nat.lt_of_succ_lt_succ h
    have p := erase_perm l i h'
    show (l[i] :: x :: l.eraseIdx i).Perm (x :: l)
    exact (List.Perm.swap x l[i] _).trans (p.cons x)
theorem seqIx {n k : Nat} (h : k < n) : seqIndex? (k : Int) n = some k := by
  unfold seqIndex?
  have a : ¬ (k : Int) < 0 := by omega
  have b : (0 : Int) ≤ k ∧ (k : Int) < n := by omega
  simp only [if_neg a]
  rw [decide_eq_true b.1, decide_eq_true b.2]
  rfl
theorem strs_eqv_nil (ss : List Str) : (PyData.list (ss.map PyData.str)).eqv (.list []) = ss.isEmpty := by
  cases ss with
  | nil => rfl
  | cons a l => simp [PyData.eqv, PyData.eqvAll]
def spMixed (K : PySem.W.Frag) : Sp := fun vs H Q _ => ∃ (d a : Addr) (ss : List Str), vs = [.ref d, .ref a] ∧ Dz H d ∧ SqL K H a (ss.map V.str) ∧ ss.length ≤ 100 ∧ (∀ z ∈ ss, PyData.strOk z = true) ∧
  ∀ (ys : List Str) (p : Addr) (H' : Hp), ys.Perm ss → H p = none → H' p = some (.lst (ys.map V.str)) → Dz H' d → Still d H H' → Q (.ref p) H'
section
variable {P : Program} {w : World} {K : PySem.W.Frag} {mg : Str → Option Value} {base : Heap}
theorem scMixed : FnScope ["dice", "items", "left", "found"] ["dice", "items"] (defScope sMixed) := ⟨rfl, rfl, rfl, by decide +kernel, rfl, by decide +kernel, by decide +kernel⟩
theorem ok_mixed {f : Addr} {fd : FuncData} (F : Fun K "_law_mixed" "_law_mixed" sMixed f fd) (D : DefsD K mg) (T : TxI mg) (M : TxM mg) : FnOk P w K mg base CX0 2 f fd ["dice", "items"] (spMixed K) := by
  have GR : FnOk P w K mg base CX0 1 D.fR D.dR ["dice", "total"] spRoll := ok_roll D.R T
  refine F.ok scMixed (fun vs H Q E h => ?_) (fun cdv A outer s H vs Q E hr h => ?_)
  · obtain ⟨d, a, ss, rfl, _⟩ := h
    rfl
  · obtain ⟨d, a, ss, rfl, Z, ha, hl, hok, k⟩ := h
    have hr1 : Room 1 _ := hr.mono (by decide)
    refine ⟨_, pss_cons (ps_par (i := 2) (j := 3) (by rfl) scMixed.nd rfl rfl (by decide) rfl rfl (pa_cons (pe_callTy call_list_of (by rfl) M.list (by decide +kernel) (pa_cons (pv 1) pa_nil)) (pa_cons (pe_lst pa_nil) pa_nil)) (by rfl))
      (pss_cons (ps_while PassesOwn.never (pt_cmpR (op_neD hr.units) (pv 2) (pe_lst pa_nil) (nomark _))
        (pss_one (ps_expr (pe_bm PySem.F.plainAttrs_list PySem.F.slot_list_append PySem.F.type_list_append mt_append (pv 3)
          (pa_cons (pe_bm PySem.F.plainAttrs_list PySem.F.slot_list_pop PySem.F.type_list_pop mt_popAt (pv 2) (pa_cons (pe_call GR hr1 rfl D.mR D.R.kp D.bR .nil pass0 (pa_cons (pv 0) (pa_cons (pe_callB call_len_seq (by rfl) T.len PySem.boot_len (pa_cons (pv 2) pa_nil)) pa_nil))) pa_nil)) pa_nil)))))
      (pss_one (ps_ret (pv 3)))), ?_⟩
    refine ⟨_, rfl, a, _, rfl, .inl ha, fun l nl => ⟨(by show 0 ≤ sizeLine; decide), fun f nf => ?_⟩⟩
    have ne_a : ∀ {H' : Hp} {b : Addr}, H' b = none → ∀ {o : HO}, H' d = some o → b ≠ d := fun n _ h z => by
      subst z
      rw [n] at h
      cases h
    obtain ⟨dl, dm, dc, hd, w1, w2, w3⟩ := id Z
    have ld : l ≠ d := ne_a nl hd
    have hd1 : (upd H l (.lst (ss.map V.str))) d = some (.lst [.int dl, .int dm, .int dc]) := keep_new hd nl
    have fd' : f ≠ d := ne_a nf hd1
    have lf : l ≠ f := fun z => by
      subst z
      rw [upd_same] at nf
      cases nf
    have nf0 : H f = none := by
      rw [upd_ne (Ne.symm lf)] at nf
      exact nf
    refine ⟨_, _, rfl, ?_⟩
    refine while_by (fun σ H' => σ = [some (.ref d), some (.ref a), some (.ref l), some (.ref f)] ∧ ∃ ls fs : List Str, H' l = some (.lst (ls.map V.str)) ∧ H' f = some (.lst (fs.map V.str)) ∧ (fs ++ ls).Perm ss ∧ Dz H' d ∧ Still d H H')
      (fun σ H' => match H' l with | some (.lst xs) => xs.length | _ => 0) ⟨rfl, ss, [], by rw [upd_ne lf]; exact upd_same, upd_same, List.Perm.refl _, (Z.new nl).new nf, ((Still.refl d H).new nl).new nf⟩ ?_ ?_
    · rintro σ H1 ⟨rfl, ls, fs, h1, h2, h3, h4, h5⟩
      refine ⟨_, rfl, (by show 0 ≤ sizeLine; decide), fun p np => ?_⟩
      refine ⟨_, _, .lst (SqL.of (keep_new h1 np)) (dp_strs ls), .lst (SqL.of upd_same) .nil, strs_shaped ls (fun z hz => hok z (h3.subset (List.mem_append_right _ hz))), by decide, ?_⟩
      rw [strs_eqv_nil]
      refine ⟨_, rfl, ?_⟩
      cases ls with
      | nil =>
        refine iteF ?_
        rw [List.append_nil] at h3
        exact ⟨_, rfl, k fs f _ h3 nf0 (keep_new h2 np) (h4.new np) (h5.new np)⟩
      | cons z ls =>
        refine iteT ?_
        have g1 : (upd H1 p (.lst [])) l = some (.lst ((z :: ls).map V.str)) := keep_new h1 np
        have g2 : (upd H1 p (.lst [])) f = some (.lst (fs.map V.str)) := keep_new h2 np
        have g4 : Dz (upd H1 p (.lst [])) d := h4.new np
        have g5 : Still d H (upd H1 p (.lst [])) := h5.new np
        generalize upd H1 p (.lst []) = H2 at g1 g2 g4 g5 ⊢
        obtain ⟨l0, m0, c0, D0⟩ := g4
        have hlen : (z :: ls).length ≤ 100 := by
          have := h3.length_eq
          rw [List.length_append] at this
          omega
        refine ⟨_, rfl, .inl ⟨rfl, _, SqL.of g2⟩, _, rfl, .inl ⟨rfl, _, SqL.of g1⟩, _, rfl, _, rfl, l, _, rfl, .inl (SqL.of g1), d, l0, m0, c0, _, rfl, D0, ?_, ?_, fun r l' c' r0 rn q0 q1 => ?_⟩
        · rw [List.length_map]
          show (0 : Int) < ((ls.length + 1 : Nat) : Int)
          omega
        · rw [List.length_map]
          omega
        · rw [List.length_map] at rn
          have rl : r.toNat < (z :: ls).length := by omega
          have er : r = (r.toNat : Int) := by omega
          have TT : Turned H2 (upd H2 d (.lst [.int l', .int m0, .int c'])) d := ⟨l', m0, c', q0, D0.2.2.1, q1, rfl⟩
          have k1 : (upd H2 d (.lst [.int l', .int m0, .int c'])) l = some (.lst ((z :: ls).map V.str)) := by
            rw [upd_ne ld]
            exact g1
          have k2 : (upd H2 d (.lst [.int l', .int m0, .int c'])) f = some (.lst (fs.map V.str)) := by
            rw [upd_ne fd']
            exact g2
          have k4 := TT.dz
          have k5 := g5.turn TT
          generalize upd H2 d (.lst [.int l', .int m0, .int c']) = H3 at k1 k2 k4 k5 ⊢
          refine ⟨l, _, r, r.toNat, .str ((z :: ls)[r.toNat]), rfl, rfl, k1, by omega, by omega, ?_, ?_, ?_⟩
          · rw [List.length_map, er]
            exact seqIx rl
          · rw [List.getElem?_map, List.getElem?_eq_getElem rl]
            rfl
          · refine ⟨f, _, _, rfl, rfl, by rw [upd_ne (Ne.symm lf)]; exact k2, ?_, ?_⟩
            · rw [List.length_map]
              have := h3.length_eq
              rw [List.length_append] at this
              exact Nat.lt_of_le_of_lt (show fs.length ≤ 100 by omega) (by decide)
            · refine ⟨⟨rfl, (z :: ls).eraseIdx r.toNat, fs ++ [(z :: ls)[r.toNat]], ?_, ?_, ?_, ?_, ?_⟩, ?_⟩
              · rw [upd_ne lf, upd_same, map_erase]
              · rw [upd_same, List.map_append]
                rfl
              · refine List.Perm.trans ?_ h3
                rw [List.append_assoc]
                refine List.Perm.append_left fs ?_
                exact (erase_perm (z :: ls) r.toNat rl)
              · exact (k4.ne ld).ne fd'
              · exact (k5.at_new nl).at_new nf0
              · show (match (upd _ f _) l with | some (.lst xs) => xs.length | _ => 0) < (match H1 l with | some (.lst xs) => xs.length | _ => 0)
                rw [h1, upd_ne lf, upd_same]
                show (((z :: ls).map V.str).eraseIdx r.toNat).length < ((z :: ls).map V.str).length
                rw [List.length_eraseIdx, List.length_map, if_pos rl]
                show ls.length + 1 - 1 < ls.length + 1
                omega
    · rintro σ H1 Q1 Q2 hq ⟨x, hx, hz, hh⟩
      refine ⟨x, hx, hz, fun p np => ?_⟩
      obtain ⟨d1, d2, q1, q2, q3, q4, k1, q5, q6⟩ := hh p np
      exact ⟨d1, d2, q1, q2, q3, q4, k1, q5, hq _ _ q6⟩
end
end M3

set_option Elab.async false
set_option linter.all false
set_option maxRecDepth 100000
set_option maxHeartbeats 8000000
/-! # Drawn sets of letters, drawn words -/
namespace M3
open PySem L2
/-- list(a text): its signs -/
theorem call_listS {X : Cx} (hc : X.calm = true) : CallR X (.type "list") (fun xs H Q => ∃ x : Str, xs = [.str x] ∧ x.length ≤ sizeLine ∧ ∀ l, H l = none → Q (.ref l) (upd H l (.lst ((PyProof.Rows.signs x).map V.str)))) := by
  intro pins s σ H xs us Q I r h
  obtain ⟨x, rfl, hz, q⟩ := h
  obtain ⟨u, rfl, rx⟩ := vals1 r
  obtain ⟨t, rfl⟩ := rx
  refine call_list_str (I.ok.hd hc) x t (hn := hz) fun h' tk acc' c' hk hS hacc => ?_
  refine ⟨.ref s.heap.objs.size, _, I.laid (t' := tk) hk (Nat.le_refl _) (show ObjOk X.prog X.w _ h' _ (.lst ((PyProof.Rows.signs x).map V.str)) from ⟨?_, acc'.toList, c', ?_, by simpa using hS⟩), rfl, q _ (I.hok.fresh (Nat.le_refl _))⟩
  · rw [List.length_map]
    unfold PyProof.Rows.signs
    rw [List.length_map]
    exact hz
  · have hl : acc'.toList.length = x.cps.toList.length := by
      have := hacc.1
      simpa using this
    refine vals_of_at ?_ fun j y v h1 h2 => ?_
    · unfold PyProof.Rows.signs
      rw [List.length_map, List.length_map, hl]
    · obtain ⟨c, u, e1, e2⟩ := hacc.2 j v (by simpa using h2)
      unfold PyProof.Rows.signs at h1
      rw [List.getElem?_map, List.getElem?_map] at h1
      have e3 : x.cps.toList[j]? = some c := by simpa using e1
      rw [e3] at h1
      cases h1
      exact ⟨u, e2⟩
abbrev sLetters : Stmt := top 71
theorem scLetters : FnScope ["dice", "total"] ["dice", "total"] (defScope sLetters) := ⟨rfl, rfl, rfl, by decide +kernel, rfl, by decide +kernel, by decide +kernel⟩
/-- a set of letters that is drawn: ascending signs of abckxz -/
def IsSet (w : Str) (n : Nat) : Prop := ∃ cs : List Nat, w = ⟨cs.toArray⟩ ∧ cs.length = n ∧ cs.Pairwise (· < ·) ∧ ∀ c ∈ cs, c ∈ [97, 98, 99, 107, 120, 122]
abbrev six : List Nat := [97, 98, 99, 107, 120, 122]
theorem signs_six : PyProof.Rows.signs "abckxz" = six.map fun c => (⟨#[c]⟩ : Str) := by decide +kernel
theorem six_lt : ∀ a ∈ six, ∀ b ∈ six, a ≠ b → PyProof.Rows.sortedS [(⟨#[a]⟩ : Str), ⟨#[b]⟩] = true → a < b := by decide +kernel
theorem six_join : ∀ a ∈ six, ∀ b ∈ six, Txt.join "" [(⟨#[a]⟩ : Str), ⟨#[b]⟩] = ⟨#[a, b]⟩ := by decide +kernel
theorem six_join1 : ∀ a ∈ six, Txt.join "" [(⟨#[a]⟩ : Str)] = ⟨#[a]⟩ := by decide +kernel
theorem six_ok : ∀ z ∈ PyProof.Rows.signs "abckxz", PyData.strOk z = true := by
  rw [signs_six]
  decide +kernel
theorem six_nodup : (PyProof.Rows.signs "abckxz").Nodup := by
  rw [signs_six]
  decide +kernel
theorem set_of {ys zs : List Str} {n : Nat} (h1 : 1 ≤ n) (h2 : n ≤ 2) (perm : ys.Perm (PyProof.Rows.signs "abckxz")) (pz : zs.Perm (ys.take n)) (so : PyProof.Rows.sortedS zs = true) : IsSet (Txt.join "" zs) n ∧ (zs.map (·.length)).sum ≤ 2 := by
  have hn : ys.Nodup := perm.nodup_iff.mpr six_nodup
  have hz : zs.Nodup := pz.nodup_iff.mpr (hn.sublist (List.take_sublist n ys))
  have ly : ys.length = 6 := by
    rw [perm.length_eq, signs_six]
    rfl
  have lz : zs.length = n := by
    rw [pz.length_eq, List.length_take, ly]
    omega
  have hm : ∀ z ∈ zs, ∃ a ∈ six, z = (⟨#[a]⟩ : Str) := fun z h => by
    have h' := perm.subset (List.mem_of_mem_take (pz.subset h))
    rw [signs_six] at h'
    obtain ⟨a, ha, e⟩ := List.mem_map.mp h'
    exact ⟨a, ha, e.symm⟩
  match zs, lz, hz, hm, so with
  | [], lz, _, _, _ =>
    have lz : 0 = n := lz
    omega
  | [z], lz, _, hm, _ =>
    obtain ⟨a, ha, e⟩ := hm z List.mem_cons_self
    subst e
    have lz : 1 = n := lz
    refine ⟨⟨[a], six_join1 a ha, lz, List.pairwise_singleton _ _, fun c hc => ?_⟩, by show 1 + 0 ≤ 2; decide⟩
    rw [List.mem_singleton.mp hc]
    exact ha
  | [x, y], lz, hz, hm, so =>
    obtain ⟨a, ha, e⟩ := hm x List.mem_cons_self
    obtain ⟨b, hb, e'⟩ := hm y (List.mem_cons_of_mem _ List.mem_cons_self)
    subst e e'
    have lz : 2 = n := lz
    have ne : a ≠ b := fun q => by
      subst q
      simp at hz
    have lt := six_lt a ha b hb ne so
    refine ⟨⟨[a, b], six_join a ha b hb, lz, ?_, fun c hc => ?_⟩, by show 1 + (1 + 0) ≤ 2; decide⟩
    · simp [lt]
    · rcases List.mem_cons.mp hc with q | q
      · rw [q]
        exact ha
      · rw [List.mem_singleton.mp q]
        exact hb
  | _ :: _ :: _ :: l, lz, _, _, _ =>
    have lz : l.length + 3 = n := lz
    omega
theorem cut_take {ss : List Str} {n : Nat} (h : n ≤ ss.length) : cutV (ss.map V.str) none (some (n : Int)) = (ss.take n).map V.str := by
  unfold cutV
  rw [HT.sIx_none, HT.sIx_nat, List.length_map, List.drop_zero, Nat.sub_zero, Nat.min_eq_left h, List.map_take]
def spLetters : Sp := fun vs H Q _ => ∃ (d : Addr) (n : Nat), vs = [.ref d, .int n] ∧ Dz H d ∧ 1 ≤ n ∧ n ≤ 2 ∧ ∀ (x : Str) (H' : Hp), IsSet x n → Dz H' d → Still d H H' → Q (.str x) H'
section
variable {P : Program} {w : World} {K : PySem.W.Frag} {mg : Str → Option Value} {base : Heap}
theorem ok_letters {f g : Addr} {fd gd : FuncData} (F : Fun K "_law_letters" "_law_letters" sLetters f fd) (FM : Fun K "_law_mixed" "_law_mixed" sMixed g gd) (bM : Binds K gd ["dice", "items"] []) (mM : mg "_law_mixed" = some (.ref g)) (D : DefsD K mg) (T : TxI mg) (M : TxM mg) :
    FnOk P w K mg base CX0 3 f fd ["dice", "total"] spLetters := by
  have GM : FnOk P w K mg base CX0 2 g gd ["dice", "items"] (spMixed K) := ok_mixed FM D T M
  refine F.ok scLetters (fun vs H Q E h => ?_) (fun cdv A outer s H vs Q E hr h => ?_)
  · obtain ⟨d, n, rfl, _⟩ := h
    rfl
  · obtain ⟨d, n, rfl, Z, h1, h2, k⟩ := h
    have hr2 : Room 2 _ := hr.mono (by decide)
    refine ⟨_, pss_one (ps_ret (pe_join pe_str (pe_callB cr_sortedS (by rfl) M.sorted (by decide +kernel) (pa_cons (pe_slice sl_list (pe_call GM hr2 rfl mM FM.kp bM .nil pass0 (pa_cons (pv 0) (pa_cons (pe_callTy (call_listS rfl) (by rfl) M.list (by decide +kernel) (pa_cons pe_str pa_nil)) pa_nil))) po_none (po_some (pv 1))) pa_nil)))), ?_⟩
    refine ⟨⟨_, rfl⟩, _, rfl, "abckxz", rfl, by decide, fun l nl => ?_⟩
    refine ⟨d, l, _, rfl, Z.new nl, SqL.of upd_same, by decide +kernel, six_ok, fun ys p H' perm np hp Z' st => ?_⟩
    refine ⟨_, rfl, _, rfl, p, _, rfl, SqL.of hp, fun p2 np2 => ?_⟩
    have ly : ys.length = 6 := by
      rw [perm.length_eq, signs_six]
      rfl
    rw [cut_take (by omega)]
    refine ⟨p2, ys.take n, rfl, SqL.of upd_same, ?_, fun zs p3 pz so np3 => ?_⟩
    · rw [List.length_take]
      omega
    · obtain ⟨s1, s2⟩ := set_of h1 h2 perm pz so
      refine ⟨"", p3, zs, rfl, rfl, .inl (SqL.of upd_same), ?_, ?_⟩
      · have e : ("" : Str).length = 0 := by decide +kernel
        rw [e]
        omega
      · exact k _ _ s1 ((Z'.new np2).new np3) (((((Still.refl d H).new nl).trans st).new np2).new np3)
end
end M3

set_option Elab.async false
set_option linter.all false
set_option maxRecDepth 100000
set_option maxHeartbeats 8000000
/-! # Drawn words -/
namespace M3
open PySem L2
abbrev sWord : Stmt := top 72
abbrev nWord : List Str := ["dice", "letters", "most", "turn"]
theorem scWord : FnScope nWord ["dice", "letters", "most"] (defScope sWord) := ⟨rfl, rfl, rfl, by decide +kernel, rfl, by decide +kernel, by decide +kernel⟩
theorem join_flat (zs : List Str) : Txt.join "" zs = ⟨(zs.flatMap fun z => z.cps.toList).toArray⟩ := by
  have e0 : ("" : Str).cps = #[] := by decide +kernel
  have go : ∀ (ps : List Str) (acc : Array Nat), ps.foldl (fun acc p => acc ++ ("" : Str).cps ++ p.cps) acc = acc ++ (ps.flatMap fun z => z.cps.toList).toArray := by
    intro ps
    induction ps with
    | nil =>
      intro acc
      simp
    | cons p ps ih =>
      intro acc
      rw [List.foldl_cons, ih, e0]
      apply Array.toList_inj.mp
      simp
  cases zs with
  | nil => decide +kernel
  | cons z zs =>
    show (⟨(zs.foldl (fun acc p => acc ++ ("" : Str).cps ++ p.cps) z.cps)⟩ : Str) = _
    rw [go]
    congr 1
    apply Array.toList_inj.mp
    simp
/-- a word of the letters x -/
def IsW (x : Str) (w : Str) : Prop := ∀ c ∈ w.cps.toList, c ∈ x.cps.toList
theorem join_word {x : Str} {zs : List Str} (h : ∀ z ∈ zs, ∃ c ∈ x.cps.toList, z = (⟨#[c]⟩ : Str)) : IsW x (Txt.join "" zs) ∧ (Txt.join "" zs).length = zs.length ∧ (zs.map (·.length)).sum = zs.length := by
  rw [join_flat]
  refine ⟨fun c hc => ?_, ?_, ?_⟩
  · have hc : c ∈ zs.flatMap fun z => z.cps.toList := by simpa using hc
    obtain ⟨z, hz, q⟩ := List.mem_flatMap.mp hc
    obtain ⟨a, ha, e⟩ := h z hz
    rw [e] at q
    have q : c ∈ [a] := q
    rw [List.mem_singleton.mp q]
    exact ha
  · show (zs.flatMap fun z => z.cps.toList).toArray.size = zs.length
    rw [List.size_toArray]
    induction zs with
    | nil => rfl
    | cons z zs ih =>
      obtain ⟨a, _, e⟩ := h z List.mem_cons_self
      rw [List.flatMap_cons, List.length_append, ih fun y hy => h y (List.mem_cons_of_mem _ hy), e, List.length_cons]
      show 1 + zs.length = zs.length + 1
      omega
  · induction zs with
    | nil => rfl
    | cons z zs ih =>
      obtain ⟨a, _, e⟩ := h z List.mem_cons_self
      rw [List.map_cons, List.sum_cons, ih fun y hy => h y (List.mem_cons_of_mem _ hy), e, List.length_cons]
      show 1 + zs.length = zs.length + 1
      omega
theorem tYes_if {σ : St} {H : Hp} {A B : Hp → Prop} (h : A H) : tYes σ H (fun b H3 => if b = true then A H3 else B H3) := by
  show (if true = true then A H else B H)
  exact h
def spWord : Sp := fun vs H Q _ => ∃ (d : Addr) (x : Str) (m : Nat), vs = [.ref d, .str x, .int m] ∧ Dz H d ∧ 0 < x.length ∧ x.length ≤ 100 ∧ m ≤ 100 ∧
  ∀ (y : Str) (H' : Hp), IsW x y → y.length ≤ m → Dz H' d → Still d H H' → Q (.str y) H'
theorem Still.free {d b : Addr} {H H1 : Hp} (s : Still d H H1) (z : Dz H1 d) (h : H1 b = none) : H b = none := by
  cases e : H b with
  | none => rfl
  | some o =>
    have nb : b ≠ d := fun q => by
      subst q
      obtain ⟨l, m, c, q, _⟩ := z
      rw [h] at q
      cases q
    rw [s b o nb e] at h
    cases h
theorem Dz.not {d b : Addr} {H : Hp} (z : Dz H d) (h : H b = none) : b ≠ d := fun q => by
  subst q
  obtain ⟨l, m, c, q, _⟩ := z
  rw [h] at q
  cases q
section
variable {P : Program} {w : World} {K : PySem.W.Frag} {mg : Str → Option Value} {base : Heap}
theorem ok_word {f : Addr} {fd : FuncData} (F : Fun K "_law_word" "_law_word" sWord f fd) (D : DefsD K mg) (T : TxI mg) (M : TxM mg) :
    FnOk P w K mg base CX0 3 f fd ["dice", "letters", "most"] spWord := by
  have GR : FnOk P w K mg base CX0 1 D.fR D.dR ["dice", "total"] spRoll := ok_roll D.R T
  have GO : FnOk P w K mg base CX0 2 D.fO D.dO ["dice", "items"] (spOneOf K) := ok_oneof D.O D.R D.bR D.mR T
  refine F.ok scWord (fun vs H Q E h => ?_) (fun cdv A outer s H vs Q E hr h => ?_)
  · obtain ⟨d, x, m, rfl, _⟩ := h
    rfl
  · obtain ⟨d, x, m, rfl, Z, x1, x2, hm, k⟩ := h
    have hr2 : Room 2 _ := hr.mono (by decide)
    have hr1 : Room 1 _ := hr.mono (by decide)
    refine ⟨_, pss_one (ps_ret (pe_join pe_str (pe_lc (own := [("turn", 3)]) (g := gName 3) (tt := tYes) rfl scWord.nd (pi_range1 rfl M.range (pa_cons (pe_call GR hr1 rfl D.mR D.R.kp D.bR .nil pass0 (pa_cons (pv 0) (pa_cons (pe_op op_add (pv 2) pe_int) pa_nil))) pa_nil)) (blkOk_by (N := nWord) (sc := defScope sWord) (by decide +kernel)) (fun _ _ _ _ _ => pg_name (i := 3) scWord.nd rfl (Or.inl rfl)) (fun _ _ _ _ _ => pts_nil)
      (fun _ _ _ _ _ => pe_call GO hr2 rfl D.mO D.O.kp D.bO .nil pass0 (pa_cons (pv 0) (pa_cons (pe_callTy (call_listS rfl) (by rfl) M.list (by decide +kernel) (pa_cons (pv 1) pa_nil)) pa_nil)))))), ?_⟩
    obtain ⟨l0, m0, c0, D0⟩ := id Z
    refine ⟨⟨_, rfl⟩, _, rfl, _, rfl, _, _, rfl, rfl, d, l0, m0, c0, _, rfl, D0, by omega, by omega, fun r l' c' r0 rn q0 q1 => ?_⟩
    have TT : Turned H (upd H d (.lst [.int l', .int m0, .int c'])) d := ⟨l', m0, c', q0, D0.2.2.1, q1, rfl⟩
    have Z1 := TT.dz
    have S1 := (Still.refl d H).turn TT
    generalize upd H d (.lst [.int l', .int m0, .int c']) = H1 at Z1 S1 ⊢
    refine ⟨r, rfl, by omega, by omega, fun C nC => ?_⟩
    have Cd : C ≠ d := Z1.not nC
    have HC : H C = none := S1.free Z1 nC
    refine lc_range (lo := 0) (n := r.toNat) (fun j H9 => ∃ zs : List Str, H9 C = some (.lst (zs.map V.str)) ∧ zs.length = j ∧ (∀ z ∈ zs, ∃ c ∈ x.cps.toList, z = (⟨#[c]⟩ : Str)) ∧ Dz H9 d ∧ Still d H H9)
      ⟨[], upd_same, rfl, (fun z hz => by cases hz), Z1.new nC, S1.new nC⟩ ?_ ?_
    · rintro j H9 hj ⟨zs, h1, h2, h3, h4, h5⟩
      refine ⟨rfl, tYes_if ?_⟩
      have hj : j < 101 := by omega
      refine ⟨_, rfl, _, rfl, x, rfl, Nat.le_trans x2 (by decide), fun l nl => ?_⟩
      have ls : ((PyProof.Rows.signs x).map V.str).length = x.length := by
        unfold PyProof.Rows.signs
        rw [List.length_map, List.length_map]
        rfl
      refine ⟨d, l, _, rfl, h4.new nl, SqL.of upd_same, h4.not nl, by rw [ls]; exact x1, by rw [ls]; omega, fun v H2 hv T2 => ?_⟩
      obtain ⟨z, hz, rfl⟩ := List.mem_map.mp hv
      have hz' : ∃ c ∈ x.cps.toList, z = (⟨#[c]⟩ : Str) := by
        unfold PyProof.Rows.signs at hz
        obtain ⟨c, hc, e⟩ := List.mem_map.mp hz
        exact ⟨c, hc, e.symm⟩
      have g1 : H2 C = some (.lst (zs.map V.str)) := by
        rw [T2.ne Cd]
        exact keep_new h1 nl
      refine ⟨_, g1, ?_, zs ++ [z], ?_, ?_, fun y hy => ?_, T2.dz.ne Cd, ((h5.new nl).turn T2).at_new HC⟩
      · rw [List.length_map, h2]
        exact Nat.lt_trans hj (by decide)
      · rw [upd_same, List.map_append]
        rfl
      · rw [List.length_append, h2]
        rfl
      · rcases List.mem_append.mp hy with q | q
        · exact h3 y q
        · rw [List.mem_singleton.mp q]
          exact hz'
    · rintro H9 ⟨zs, h1, h2, h3, h4, h5⟩
      obtain ⟨w1, w2, w3⟩ := join_word h3
      have e0 : ("" : Str).length = 0 := by decide +kernel
      refine ⟨"", C, zs, rfl, rfl, .inl (SqL.of h1), ?_, k _ _ w1 ?_ h4 h5⟩
      · rw [e0, w3, h2]
        omega
      · rw [w2, h2]
        omega
end
end M3

set_option Elab.async false
set_option linter.all false
set_option maxRecDepth 100000
set_option maxHeartbeats 8000000
/-! # Drawn ways to lead -/
namespace M3
open PySem L2
abbrev sAction : Stmt := top 73
abbrev nAction : List Str := ["dice", "size", "sort", "spot", "by", "found", "one", "other", "place"]
theorem scAction : FnScope nAction ["dice", "size", "sort"] (defScope sAction) := ⟨rfl, rfl, rfl, by decide +kernel, rfl, by decide +kernel, by decide +kernel⟩
def nts (xs : List Nat) : List V := xs.map fun (x : Nat) => V.int (x : Int)
theorem nts_length (xs : List Nat) : (nts xs).length = xs.length := List.length_map _
theorem nts_append (xs : List Nat) (x : Nat) : some (HO.lst (nts xs ++ [V.int x])) = some (HO.lst (nts (xs ++ [x]))) := by
  unfold nts
  rw [List.map_append]
  rfl
theorem nts_eq (xs : List Nat) : some (HO.lst (nts xs)) = some (HO.lst ((xs.map Int.ofNat).map V.int)) := by
  unfold nts
  rw [List.map_map]
  rfl
theorem nts_eq' (xs : List Nat) : nts xs = (xs.map Int.ofNat).map V.int := by
  unfold nts
  rw [List.map_map]
  rfl
theorem ixNat {n k : Nat} (h : k < n) : ixN n (k : Int) = some k := by
  unfold ixN
  rw [if_pos (by omega), if_pos (by omega)]
  rfl
theorem rgV_nats (n : Nat) : rgV 0 (n : Int) = nts (List.range n) := by
  unfold rgV nts
  have e : ((n : Int) - 0).toNat = n := by omega
  rw [e]
  exact List.map_congr_left fun i _ => by rw [Int.zero_add]
theorem nats_perm {ys : List Int} {xs : List Nat} (p : ys.Perm (xs.map Int.ofNat)) : ∃ zs : List Nat, ys = zs.map Int.ofNat ∧ zs.Perm xs := by
  refine ⟨ys.map Int.toNat, ?_, ?_⟩
  · have h : ∀ y ∈ ys, Int.ofNat y.toNat = y := fun y hy => by
      obtain ⟨x, _, e⟩ := List.mem_map.mp (p.subset hy)
      rw [← e]
      rfl
    rw [List.map_map]
    exact ((List.map_congr_left h).trans (List.map_id ys)).symm
  · have q := p.map Int.toNat
    rw [List.map_map] at q
    have e : xs.map (Int.toNat ∘ Int.ofNat) = xs := (List.map_congr_left (fun x _ => rfl)).trans (List.map_id xs)
    rw [e] at q
    exact q
/-- a number is drawn -/
def spDraw : Sp := fun vs H Q _ => ∃ (d : Addr) (n : Nat), vs = [.ref d, .int n] ∧ Dz H d ∧ 0 < n ∧ n < 1073741824 ∧ ∀ (x : Nat) (H' : Hp), x < n → Dz H' d → Still d H H' → Q (.int x) H'
def spAction : Sp := fun vs H Q _ => ∃ (d : Addr) (n : Nat) (i : Int), vs = [.ref d, .int n, .int i] ∧ Dz H d ∧ 0 < n ∧ n ≤ 10 ∧
  ∀ (xs : List Nat) (p : Addr) (H' : Hp), xs.length = n → (∀ x ∈ xs, x < n) → H p = none → H' p = some (.lst (nts xs)) → Dz H' d → Still d H H' → Q (.ref p) H'
section
variable {P : Program} {w : World} {K : PySem.W.Frag} {mg : Str → Option Value} {base : Heap}
theorem ok_draw {f : Addr} {fd : FuncData} (F : Fun K "_law_roll" "_law_roll" sRoll f fd) (T : TxI mg) : FnOk P w K mg base CX0 1 f fd ["dice", "total"] spDraw := by
  refine (ok_roll F T).imp fun vs H Q E h => ?_
  obtain ⟨d, n, rfl, ⟨l, m, c, D⟩, h1, h2, k⟩ := h
  refine ⟨d, l, m, c, n, rfl, D, by omega, by omega, fun r l' c' r0 rn q0 q1 => ?_⟩
  have TT : Turned H (upd H d (.lst [.int l', .int m, .int c'])) d := ⟨l', m, c', q0, D.2.2.1, q1, rfl⟩
  have er : r = (r.toNat : Int) := by omega
  rw [er]
  exact k r.toNat _ (by omega) TT.dz ((Still.refl d H).turn TT)
theorem ok_action {f : Addr} {fd : FuncData} (F : Fun K "_law_action" "_law_action" sAction f fd) (D : DefsD K mg) (T : TxI mg) (M : TxM mg) :
    FnOk P w K mg base CX0 2 f fd ["dice", "size", "sort"] spAction := by
  have GR : FnOk P w K mg base CX0 1 D.fR D.dR ["dice", "total"] spDraw := ok_draw D.R T
  refine F.ok scAction (fun vs H Q E h => ?_) (fun cdv A outer s H vs Q E hr h => ?_)
  · obtain ⟨d, n, i, rfl, _⟩ := h
    rfl
  · obtain ⟨d, n, i, rfl, Z, hn, h10, k⟩ := h
    have hr1 : Room 1 _ := hr.mono (by decide)
    refine ⟨_, (pss_cons (ps_if (pt_cmpR op_eq (pv 2) pe_int (nomark _)) (pss_one (ps_ret (pe_lc (own := [("place", 8)]) (g := gName 8) (tt := tYes) rfl scAction.nd (pi_range1 rfl M.range (pa_cons (pv 1) pa_nil)) (blkOk_by (N := nAction) (sc := defScope sAction) (by decide +kernel)) (fun _ _ _ _ _ => pg_name (i := 8) scAction.nd rfl (Or.inl rfl)) (fun _ _ _ _ _ => pts_nil) (fun _ _ _ _ _ => (pe_op op_add (pv 8) (pe_call GR hr1 rfl D.mR D.R.kp D.bR .nil pass0 (pa_cons (pv 0) (pa_cons (pe_op op_sub (pv 1) (pv 8)) pa_nil)))))))) pss_nil)
      (pss_cons (ps_if (pt_cmpR op_eq (pv 2) pe_int (nomark _)) (pss_cons (ps_set (i := 3) scAction.nd rfl (Or.inr rfl) (pe_call GR hr1 rfl D.mR D.R.kp D.bR .nil pass0 (pa_cons (pv 0) (pa_cons (pv 1) pa_nil))))
        (pss_one (ps_ret (pe_lc (own := [("place", 8)]) (g := gName 8) (tt := tYes) rfl scAction.nd (pi_range1 rfl M.range (pa_cons (pv 1) pa_nil)) (blkOk_by (N := nAction) (sc := defScope sAction) (by decide +kernel)) (fun _ _ _ _ _ => pg_name (i := 8) scAction.nd rfl (Or.inl rfl)) (fun _ _ _ _ _ => pts_nil) (fun _ _ _ _ _ => (pv 3)))))) pss_nil)
      (pss_cons (ps_if (pt_cmpR op_eq (pv 2) pe_int (nomark _)) (pss_cons (ps_set (i := 4) scAction.nd rfl (Or.inr rfl) (pe_call GR hr1 rfl D.mR D.R.kp D.bR .nil pass0 (pa_cons (pv 0) (pa_cons (pv 1) pa_nil))))
        (pss_one (ps_ret (pe_lc (own := [("place", 8)]) (g := gName 8) (tt := tYes) rfl scAction.nd (pi_range1 rfl M.range (pa_cons (pv 1) pa_nil)) (blkOk_by (N := nAction) (sc := defScope sAction) (by decide +kernel)) (fun _ _ _ _ _ => pg_name (i := 8) scAction.nd rfl (Or.inl rfl)) (fun _ _ _ _ _ => pts_nil) (fun _ _ _ _ _ => (pe_op op_modN (pe_callTy call_int1 (by rfl) T.int (by decide +kernel) (pa_cons (pe_op op_add (pv 8) (pv 4)) pa_nil)) (pv 1))))))) pss_nil)
      (pss_cons (ps_if (pt_cmpR op_eq (pv 2) pe_int (nomark _)) (pss_one (ps_ret (pe_listRg rfl rfl M.list (prg_1 rfl M.range (pv 1))))) pss_nil)
      (pss_cons (ps_if (pt_cmpR op_eq (pv 2) pe_int (nomark _)) (pss_one (ps_ret (pe_callB cr_sorted (by rfl) M.sorted (by decide +kernel) (pa_cons (pe_lc (own := [("place", 8)]) (g := gName 8) (tt := tYes) rfl scAction.nd (pi_range1 rfl M.range (pa_cons (pv 1) pa_nil)) (blkOk_by (N := nAction) (sc := defScope sAction) (by decide +kernel)) (fun _ _ _ _ _ => pg_name (i := 8) scAction.nd rfl (Or.inl rfl)) (fun _ _ _ _ _ => pts_nil) (fun _ _ _ _ _ => (pe_call GR hr1 rfl D.mR D.R.kp D.bR .nil pass0 (pa_cons (pv 0) (pa_cons (pv 1) pa_nil))))) pa_nil)))) pss_nil)
      (pss_cons (ps_set (i := 5) scAction.nd rfl (Or.inl rfl) (pe_ifExp (pt_cmpR op_eq (pv 2) pe_int (nomark _)) (pe_lc (own := [("place", 8)]) (g := gName 8) (tt := tYes) rfl scAction.nd (pi_range1 rfl M.range (pa_cons (pv 1) pa_nil)) (blkOk_by (N := nAction) (sc := defScope sAction) (by decide +kernel)) (fun _ _ _ _ _ => pg_name (i := 8) scAction.nd rfl (Or.inl rfl)) (fun _ _ _ _ _ => pts_nil) (fun _ _ _ _ _ => (pe_call GR hr1 rfl D.mR D.R.kp D.bR .nil pass0 (pa_cons (pv 0) (pa_cons (pv 1) pa_nil))))) (pe_listRg rfl rfl M.list (prg_1 rfl M.range (pv 1)))))
      (pss_cons (ps_if (pt_cmpR op_eq (pv 2) pe_int (nomark _)) (pss_cons (ps_par (i := 6) (j := 7) (by rfl) scAction.nd rfl rfl (by decide) rfl rfl (pa_cons (pe_call GR hr1 rfl D.mR D.R.kp D.bR .nil pass0 (pa_cons (pv 0) (pa_cons (pv 1) pa_nil))) (pa_cons (pe_call GR hr1 rfl D.mR D.R.kp D.bR .nil pass0 (pa_cons (pv 0) (pa_cons (pv 1) pa_nil))) pa_nil)) (by rfl))
        (pss_one (ps_asg (pe_tup (pa_cons (pv 7) (pa_cons (pv 6) pa_nil))) (pg_tup rfl (pgs_cons (pg_sub (pv 5) (pv 6) set_list) (pgs_cons (pg_sub (pv 5) (pv 7) set_list) pgs_nil)))))) pss_nil)
      (pss_one (ps_ret (pv 5)))))))))), ?_⟩
    have h10' : (n : Int) ≤ 10 := by omega
    have RGOK : RgOk 0 (n : Int) := RgOk.of_le (by decide) (by omega) (by decide) (by omega)
    have ZH := Z
    have SH := Still.refl d H
    refine ⟨_, rfl, rfl, _, rfl, ?_⟩
    refine ite2 (fun _ => ?_) (fun _ => ?_)
    · refine ⟨_, rfl, (n : Int), rfl, by omega, by omega, fun C nC => ?_⟩
      have Cd : C ≠ d := ZH.not nC
      have HC : H C = none := SH.free ZH nC
      refine lc_range (lo := 0) (n := (n : Int).toNat) (fun j H9 => ∃ xs : List Nat, H9 C = some (.lst (nts xs)) ∧ xs.length = j ∧ (∀ x ∈ xs, x < n) ∧ Dz H9 d ∧ Still d H H9) ⟨[], upd_same, rfl, (fun z hz => by cases hz), ZH.new nC, SH.new nC⟩ ?_ ?_
      · rintro j H9 hj ⟨xs, h1, h2, h3, h4, h5⟩
        refine ⟨rfl, tYes_if ?_⟩
        have hj : j < n := by omega
        have fin : ∀ (x : Nat) (H4 : Hp), x < n → Dz H4 d → Still d H9 H4 → ∃ acc, H4 C = some (.lst acc) ∧ acc.length < sizeLine ∧ ∃ ys : List Nat, upd H4 C (.lst (acc ++ [.int x])) C = some (.lst (nts ys)) ∧ ys.length = j + 1 ∧ (∀ y ∈ ys, y < n) ∧ Dz (upd H4 C (.lst (acc ++ [.int x]))) d ∧ Still d H (upd H4 C (.lst (acc ++ [.int x]))) := fun x H4 hx z4 s4 => by
          refine ⟨_, s4 _ _ Cd h1, ?_, xs ++ [x], ?_, ?_, fun y hy => ?_, z4.ne Cd, (h5.trans s4).at_new HC⟩
          · rw [nts_length, h2]
            exact Nat.lt_trans hj (Nat.lt_of_le_of_lt h10 (by decide))
          · rw [upd_same, nts_append]
          · rw [List.length_append, h2]
            rfl
          · rcases List.mem_append.mp hy with q | q
            · exact h3 y q
            · rw [List.mem_singleton.mp q]
              exact hx
        refine ⟨_, rfl, _, rfl, _, rfl, _, rfl, _, _, rfl, rfl, d, n - j, ?_, h4, by omega, by omega, fun x H4 xn z4 s4 => ?_⟩
        · have e : ((n - j : Nat) : Int) = (n : Int) - (0 + (j : Int)) := by omega
          show [V.ref d, V.int ((n : Int) - (0 + (j : Int)))] = _
          rw [← e]
        · refine ⟨_, _, rfl, rfl, ?_⟩
          have q := fin (j + x) H4 (by omega) z4 s4
          have e : ((j + x : Nat) : Int) = (0 + (j : Int)) + (x : Int) := by omega
          rw [e] at q
          exact q
      · rintro H9 ⟨xs, h1, h2, h3, h4, h5⟩
        have h2 : xs.length = n := by rw [h2]; omega
        exact k xs C H9 h2 h3 HC h1 h4 h5
    · refine ⟨_, rfl, rfl, _, rfl, ?_⟩
      refine ite2 (fun _ => ?_) (fun _ => ?_)
      · refine ⟨_, rfl, _, rfl, d, n, rfl, Z, hn, by omega, fun y H1 yn ZH SH => ?_⟩
        refine ⟨_, rfl, (n : Int), rfl, by omega, by omega, fun C nC => ?_⟩
        have Cd : C ≠ d := ZH.not nC
        have HC : H C = none := SH.free ZH nC
        refine lc_range (lo := 0) (n := (n : Int).toNat) (fun j H9 => ∃ xs : List Nat, H9 C = some (.lst (nts xs)) ∧ xs.length = j ∧ (∀ x ∈ xs, x < n) ∧ Dz H9 d ∧ Still d H H9) ⟨[], upd_same, rfl, (fun z hz => by cases hz), ZH.new nC, SH.new nC⟩ ?_ ?_
        · rintro j H9 hj ⟨xs, h1, h2, h3, h4, h5⟩
          refine ⟨rfl, tYes_if ?_⟩
          have hj : j < n := by omega
          have fin : ∀ (x : Nat) (H4 : Hp), x < n → Dz H4 d → Still d H9 H4 → ∃ acc, H4 C = some (.lst acc) ∧ acc.length < sizeLine ∧ ∃ ys : List Nat, upd H4 C (.lst (acc ++ [.int x])) C = some (.lst (nts ys)) ∧ ys.length = j + 1 ∧ (∀ y ∈ ys, y < n) ∧ Dz (upd H4 C (.lst (acc ++ [.int x]))) d ∧ Still d H (upd H4 C (.lst (acc ++ [.int x]))) := fun x H4 hx z4 s4 => by
            refine ⟨_, s4 _ _ Cd h1, ?_, xs ++ [x], ?_, ?_, fun y hy => ?_, z4.ne Cd, (h5.trans s4).at_new HC⟩
            · rw [nts_length, h2]
              exact Nat.lt_trans hj (Nat.lt_of_le_of_lt h10 (by decide))
            · rw [upd_same, nts_append]
            · rw [List.length_append, h2]
              rfl
            · rcases List.mem_append.mp hy with q | q
              · exact h3 y q
              · rw [List.mem_singleton.mp q]
                exact hx
          exact ⟨_, rfl, fin y _ yn h4 (Still.refl _ _)⟩
        · rintro H9 ⟨xs, h1, h2, h3, h4, h5⟩
          have h2 : xs.length = n := by rw [h2]; omega
          exact k xs C H9 h2 h3 HC h1 h4 h5
      · refine ⟨_, rfl, rfl, _, rfl, ?_⟩
        refine ite2 (fun _ => ?_) (fun _ => ?_)
        · refine ⟨_, rfl, _, rfl, d, n, rfl, Z, hn, by omega, fun y H1 yn ZH SH => ?_⟩
          refine ⟨_, rfl, (n : Int), rfl, by omega, by omega, fun C nC => ?_⟩
          have Cd : C ≠ d := ZH.not nC
          have HC : H C = none := SH.free ZH nC
          refine lc_range (lo := 0) (n := (n : Int).toNat) (fun j H9 => ∃ xs : List Nat, H9 C = some (.lst (nts xs)) ∧ xs.length = j ∧ (∀ x ∈ xs, x < n) ∧ Dz H9 d ∧ Still d H H9) ⟨[], upd_same, rfl, (fun z hz => by cases hz), ZH.new nC, SH.new nC⟩ ?_ ?_
          · rintro j H9 hj ⟨xs, h1, h2, h3, h4, h5⟩
            refine ⟨rfl, tYes_if ?_⟩
            have hj : j < n := by omega
            have fin : ∀ (x : Nat) (H4 : Hp), x < n → Dz H4 d → Still d H9 H4 → ∃ acc, H4 C = some (.lst acc) ∧ acc.length < sizeLine ∧ ∃ ys : List Nat, upd H4 C (.lst (acc ++ [.int x])) C = some (.lst (nts ys)) ∧ ys.length = j + 1 ∧ (∀ y ∈ ys, y < n) ∧ Dz (upd H4 C (.lst (acc ++ [.int x]))) d ∧ Still d H (upd H4 C (.lst (acc ++ [.int x]))) := fun x H4 hx z4 s4 => by
              refine ⟨_, s4 _ _ Cd h1, ?_, xs ++ [x], ?_, ?_, fun y hy => ?_, z4.ne Cd, (h5.trans s4).at_new HC⟩
              · rw [nts_length, h2]
                exact Nat.lt_trans hj (Nat.lt_of_le_of_lt h10 (by decide))
              · rw [upd_same, nts_append]
              · rw [List.length_append, h2]
                rfl
              · rcases List.mem_append.mp hy with q | q
                · exact h3 y q
                · rw [List.mem_singleton.mp q]
                  exact hx
            refine ⟨_, rfl, _, rfl, _, _, rfl, rfl, .inl ⟨_, rfl, _, rfl, _, _, rfl, rfl, by omega, ?_⟩⟩
            have e : (((j + y) % n : Nat) : Int) = (0 + (j : Int) + (y : Int)).fmod (n : Int) := by
              rw [Int.fmod_eq_emod_of_nonneg _ (by omega), Int.zero_add, Int.natCast_emod, Int.natCast_add]
            have q := fin _ H9 (Nat.mod_lt (j + y) hn) h4 (Still.refl _ _)
            rw [e] at q
            exact q
          · rintro H9 ⟨xs, h1, h2, h3, h4, h5⟩
            have h2 : xs.length = n := by rw [h2]; omega
            exact k xs C H9 h2 h3 HC h1 h4 h5
        · refine ⟨_, rfl, rfl, _, rfl, ?_⟩
          refine ite2 (fun _ => ?_) (fun _ => ?_)
          · refine ⟨_, rfl, (n : Int), rfl, RGOK, fun C nC => ?_⟩
            rw [rgV_nats]
            exact k (List.range n) C _ List.length_range (fun x hx => List.mem_range.mp hx) nC upd_same (Z.new nC) (SH.new nC)
          · refine ⟨_, rfl, rfl, _, rfl, ?_⟩
            refine ite2 (fun _ => ?_) (fun _ => ?_)
            · refine ⟨_, rfl, (n : Int), rfl, by omega, by omega, fun C nC => ?_⟩
              have Cd : C ≠ d := ZH.not nC
              have HC : H C = none := SH.free ZH nC
              refine lc_range (lo := 0) (n := (n : Int).toNat) (fun j H9 => ∃ xs : List Nat, H9 C = some (.lst (nts xs)) ∧ xs.length = j ∧ (∀ x ∈ xs, x < n) ∧ Dz H9 d ∧ Still d H H9) ⟨[], upd_same, rfl, (fun z hz => by cases hz), ZH.new nC, SH.new nC⟩ ?_ ?_
              · rintro j H9 hj ⟨xs, h1, h2, h3, h4, h5⟩
                refine ⟨rfl, tYes_if ?_⟩
                have hj : j < n := by omega
                have fin : ∀ (x : Nat) (H4 : Hp), x < n → Dz H4 d → Still d H9 H4 → ∃ acc, H4 C = some (.lst acc) ∧ acc.length < sizeLine ∧ ∃ ys : List Nat, upd H4 C (.lst (acc ++ [.int x])) C = some (.lst (nts ys)) ∧ ys.length = j + 1 ∧ (∀ y ∈ ys, y < n) ∧ Dz (upd H4 C (.lst (acc ++ [.int x]))) d ∧ Still d H (upd H4 C (.lst (acc ++ [.int x]))) := fun x H4 hx z4 s4 => by
                  refine ⟨_, s4 _ _ Cd h1, ?_, xs ++ [x], ?_, ?_, fun y hy => ?_, z4.ne Cd, (h5.trans s4).at_new HC⟩
                  · rw [nts_length, h2]
                    exact Nat.lt_trans hj (Nat.lt_of_le_of_lt h10 (by decide))
                  · rw [upd_same, nts_append]
                  · rw [List.length_append, h2]
                    rfl
                  · rcases List.mem_append.mp hy with q | q
                    · exact h3 y q
                    · rw [List.mem_singleton.mp q]
                      exact hx
                refine ⟨_, rfl, _, rfl, d, n, rfl, h4, hn, by omega, fun x H4 xn z4 s4 => ?_⟩
                exact fin x _ xn z4 s4
              · rintro H9 ⟨xs, h1, h2, h3, h4, h5⟩
                have h2 : xs.length = n := by rw [h2]; omega
                refine ⟨C, xs.map Int.ofNat, rfl, SqL.of (by rw [h1]; exact nts_eq xs), by rw [List.length_map]; omega, fun ys p perm _ np => ?_⟩
                obtain ⟨zs, e, pz⟩ := nats_perm perm
                subst e
                rw [← nts_eq']
                exact k zs p _ (by rw [pz.length_eq, h2]) (fun x hx => h3 x (pz.subset hx)) (h5.free h4 np) upd_same (h4.new np) (h5.new np)
            · refine ⟨_, rfl, rfl, _, rfl, ?_⟩
              refine ite2 (fun _ => ?_) (fun _ => ?_)
              · refine ⟨_, rfl, (n : Int), rfl, by omega, by omega, fun C nC => ?_⟩
                have Cd : C ≠ d := ZH.not nC
                have HC : H C = none := SH.free ZH nC
                refine lc_range (lo := 0) (n := (n : Int).toNat) (fun j H9 => ∃ xs : List Nat, H9 C = some (.lst (nts xs)) ∧ xs.length = j ∧ (∀ x ∈ xs, x < n) ∧ Dz H9 d ∧ Still d H H9) ⟨[], upd_same, rfl, (fun z hz => by cases hz), ZH.new nC, SH.new nC⟩ ?_ ?_
                · rintro j H9 hj ⟨xs, h1, h2, h3, h4, h5⟩
                  refine ⟨rfl, tYes_if ?_⟩
                  have hj : j < n := by omega
                  have fin : ∀ (x : Nat) (H4 : Hp), x < n → Dz H4 d → Still d H9 H4 → ∃ acc, H4 C = some (.lst acc) ∧ acc.length < sizeLine ∧ ∃ ys : List Nat, upd H4 C (.lst (acc ++ [.int x])) C = some (.lst (nts ys)) ∧ ys.length = j + 1 ∧ (∀ y ∈ ys, y < n) ∧ Dz (upd H4 C (.lst (acc ++ [.int x]))) d ∧ Still d H (upd H4 C (.lst (acc ++ [.int x]))) := fun x H4 hx z4 s4 => by
                    refine ⟨_, s4 _ _ Cd h1, ?_, xs ++ [x], ?_, ?_, fun y hy => ?_, z4.ne Cd, (h5.trans s4).at_new HC⟩
                    · rw [nts_length, h2]
                      exact Nat.lt_trans hj (Nat.lt_of_le_of_lt h10 (by decide))
                    · rw [upd_same, nts_append]
                    · rw [List.length_append, h2]
                      rfl
                    · rcases List.mem_append.mp hy with q | q
                      · exact h3 y q
                      · rw [List.mem_singleton.mp q]
                        exact hx
                  refine ⟨_, rfl, _, rfl, d, n, rfl, h4, hn, by omega, fun x H4 xn z4 s4 => ?_⟩
                  exact fin x _ xn z4 s4
                · rintro H9 ⟨xs, h1, h2, h3, h4, h5⟩
                  have h2 : xs.length = n := by rw [h2]; omega
                  refine ⟨_, rfl, rfl, _, rfl, ?_⟩
                  refine ite2 (fun h6 => ?_) (fun h6 => ?_)
                  · refine ⟨_, rfl, _, rfl, d, n, rfl, h4, hn, by omega, fun x H2 xn z2 s2 => ?_⟩
                    refine ⟨_, rfl, _, rfl, d, n, rfl, z2, hn, by omega, fun y H3 yn z3 s3 => ?_⟩
                    refine ⟨_, _, rfl, ?_⟩
                    have s93 := s2.trans s3
                    have h1 := s93 _ _ Cd h1
                    have h5 := h5.trans s93
                    refine ⟨_, rfl, _, rfl, (by show 2 ≤ sizeLine; decide), fun t nt => ⟨t, _, rfl, SqT.of upd_same, rfl, ?_⟩⟩
                    have lx : (nts xs).length = n := by rw [nts_length, h2]
                    refine ⟨_, _, rfl, _, rfl, _, rfl, C, nts xs, x, x, rfl, rfl, keep_new h1 nt, (by rw [lx]; exact ixNat xn), ?_⟩
                    refine ⟨_, _, rfl, _, rfl, _, rfl, C, _, y, y, rfl, rfl, upd_same, (by rw [List.length_set, lx]; exact ixNat yn), rfl, ?_⟩
                    have es : ((nts xs).set x (.int y)).set y (.int x) = nts ((xs.set x y).set y x) := by
                      unfold nts
                      rw [List.map_set, List.map_set]
                    rw [es]
                    refine ⟨_, rfl, k ((xs.set x y).set y x) C _ (by rw [List.length_set, List.length_set, h2]) (fun z hz => ?_) HC upd_same (((z3.new nt).ne Cd).ne Cd) (((h5.new nt).at_new HC).at_new HC)⟩
                    rcases List.mem_or_eq_of_mem_set hz with q | q
                    · rcases List.mem_or_eq_of_mem_set q with q | q
                      · exact h3 z q
                      · rw [q]
                        exact yn
                    · rw [q]
                      exact xn
                  · exact ⟨_, rfl, k xs C H9 h2 h3 HC h1 h4 h5⟩
              · refine ⟨_, rfl, (n : Int), rfl, RGOK, fun C nC => ?_⟩
                rw [rgV_nats]
                have h1 : (upd H C (.lst (nts (List.range n)))) C = some (.lst (nts (List.range n))) := upd_same
                have h2 : (List.range n).length = n := List.length_range
                have h3 : ∀ x ∈ List.range n, x < n := fun x hx => List.mem_range.mp hx
                have h4 := Z.new nC (u := .lst (nts (List.range n)))
                have h5 := SH.new nC (u := .lst (nts (List.range n)))
                have HC := nC
                have Cd : C ≠ d := Z.not nC
                generalize upd H C (.lst (nts (List.range n))) = H9 at h1 h4 h5 ⊢
                generalize List.range n = xs at h1 h2 h3 ⊢
                refine ⟨_, rfl, rfl, _, rfl, ?_⟩
                refine ite2 (fun h6 => ?_) (fun h6 => ?_)
                · refine ⟨_, rfl, _, rfl, d, n, rfl, h4, hn, by omega, fun x H2 xn z2 s2 => ?_⟩
                  refine ⟨_, rfl, _, rfl, d, n, rfl, z2, hn, by omega, fun y H3 yn z3 s3 => ?_⟩
                  refine ⟨_, _, rfl, ?_⟩
                  have s93 := s2.trans s3
                  have h1 := s93 _ _ Cd h1
                  have h5 := h5.trans s93
                  refine ⟨_, rfl, _, rfl, (by show 2 ≤ sizeLine; decide), fun t nt => ⟨t, _, rfl, SqT.of upd_same, rfl, ?_⟩⟩
                  have lx : (nts xs).length = n := by rw [nts_length, h2]
                  refine ⟨_, _, rfl, _, rfl, _, rfl, C, nts xs, x, x, rfl, rfl, keep_new h1 nt, (by rw [lx]; exact ixNat xn), ?_⟩
                  refine ⟨_, _, rfl, _, rfl, _, rfl, C, _, y, y, rfl, rfl, upd_same, (by rw [List.length_set, lx]; exact ixNat yn), rfl, ?_⟩
                  have es : ((nts xs).set x (.int y)).set y (.int x) = nts ((xs.set x y).set y x) := by
                    unfold nts
                    rw [List.map_set, List.map_set]
                  rw [es]
                  refine ⟨_, rfl, k ((xs.set x y).set y x) C _ (by rw [List.length_set, List.length_set, h2]) (fun z hz => ?_) HC upd_same (((z3.new nt).ne Cd).ne Cd) (((h5.new nt).at_new HC).at_new HC)⟩
                  rcases List.mem_or_eq_of_mem_set hz with q | q
                  · rcases List.mem_or_eq_of_mem_set q with q | q
                    · exact h3 z q
                    · rw [q]
                      exact yn
                  · rw [q]
                    exact xn
                · exact ⟨_, rfl, k xs C H9 h2 h3 HC h1 h4 h5⟩
end
end M3

set_option Elab.async false
set_option linter.all false
set_option maxRecDepth 100000
set_option maxHeartbeats 8000000
/-! # Drawn tables -/
namespace M3
open PySem L2
abbrev sTable : Stmt := top 74
abbrev nTable : List Str := ["dice", "letters", "size", "sorts", "rows", "letter", "row", "place"]
theorem scTable : FnScope nTable ["dice", "letters", "size", "sorts"] (defScope sTable) := ⟨rfl, rfl, rfl, by decide +kernel, rfl, by decide +kernel, by decide +kernel⟩
/-- lists of numbers, one for each; none of them stands at d or C -/
def RowsL (d C : Addr) (H : Hp) (vs : List V) (rs : List (List Nat)) : Prop := vs.length = rs.length ∧ ∀ (i : Nat) (r : List Nat), rs[i]? = some r → ∃ a : Addr, vs[i]? = some (V.ref a) ∧ a ≠ d ∧ a ≠ C ∧ H a = some (HO.lst (nts r))
/-- tuples of numbers, one for each -/
def RowsT (d C : Addr) (H : Hp) (vs : List V) (rs : List (List Nat)) : Prop := vs.length = rs.length ∧ ∀ (i : Nat) (r : List Nat), rs[i]? = some r → ∃ a : Addr, vs[i]? = some (V.ref a) ∧ a ≠ d ∧ a ≠ C ∧ H a = some (.tup (nts r))
theorem RowsL.to {d C : Addr} {H H' : Hp} {vs : List V} {rs : List (List Nat)} (R : RowsL d C H vs rs) (k : ∀ b o, b ≠ d → b ≠ C → H b = some o → H' b = some o) : RowsL d C H' vs rs :=
  ⟨R.1, fun i r h => by
    obtain ⟨a, h1, h2, h3, h4⟩ := R.2 i r h
    exact ⟨a, h1, h2, h3, k _ _ h2 h3 h4⟩⟩
theorem RowsT.to {d C : Addr} {H H' : Hp} {vs : List V} {rs : List (List Nat)} (R : RowsT d C H vs rs) (k : ∀ b o, b ≠ d → b ≠ C → H b = some o → H' b = some o) : RowsT d C H' vs rs :=
  ⟨R.1, fun i r h => by
    obtain ⟨a, h1, h2, h3, h4⟩ := R.2 i r h
    exact ⟨a, h1, h2, h3, k _ _ h2 h3 h4⟩⟩
theorem snoc_at {α : Type} {xs : List α} {x y : α} {i : Nat} (h : (xs ++ [x])[i]? = some y) : xs[i]? = some y ∨ (i = xs.length ∧ y = x) := by
  by_cases hi : i < xs.length
  · rw [List.getElem?_append_left hi] at h
    exact .inl h
  · rw [List.getElem?_append_right (by omega)] at h
    by_cases e : i - xs.length = 0
    · rw [e] at h
      exact .inr ⟨by omega, (Option.some.inj h).symm⟩
    · have : 1 ≤ i - xs.length := by omega
      rw [List.getElem?_eq_none (by simpa using this)] at h
      cases h
theorem RowsL.snoc {d C a : Addr} {H : Hp} {vs : List V} {rs : List (List Nat)} {r : List Nat} (R : RowsL d C H vs rs) (hd : a ≠ d) (hC : a ≠ C) (h : H a = some (.lst (nts r))) : RowsL d C H (vs ++ [.ref a]) (rs ++ [r]) := by
  refine ⟨by rw [List.length_append, List.length_append, R.1]; rfl, fun i r' hr => ?_⟩
  rcases snoc_at hr with q | ⟨e, q⟩
  · obtain ⟨b, h1, h2⟩ := R.2 i r' q
    exact ⟨b, by rw [List.getElem?_append_left (List.getElem?_eq_some_iff.mp h1).1]; exact h1, h2⟩
  · subst q
    refine ⟨a, ?_, hd, hC, h⟩
    rw [e, ← R.1, List.getElem?_append_right (Nat.le_refl _), Nat.sub_self]
    rfl
theorem RowsT.snoc {d C a : Addr} {H : Hp} {vs : List V} {rs : List (List Nat)} {r : List Nat} (R : RowsT d C H vs rs) (hd : a ≠ d) (hC : a ≠ C) (h : H a = some (.tup (nts r))) : RowsT d C H (vs ++ [.ref a]) (rs ++ [r]) := by
  refine ⟨by rw [List.length_append, List.length_append, R.1]; rfl, fun i r' hr => ?_⟩
  rcases snoc_at hr with q | ⟨e, q⟩
  · obtain ⟨b, h1, h2⟩ := R.2 i r' q
    exact ⟨b, by rw [List.getElem?_append_left (List.getElem?_eq_some_iff.mp h1).1]; exact h1, h2⟩
  · subst q
    refine ⟨a, ?_, hd, hC, h⟩
    rw [e, ← R.1, List.getElem?_append_right (Nat.le_refl _), Nat.sub_self]
    rfl
/-- a table of so many states, so many letters -/
def IsTab (t : List (List Nat)) (n m : Nat) : Prop := t.length = n ∧ ∀ r ∈ t, r.length = m ∧ ∀ z ∈ r, z < n
theorem sq_still {K : PySem.W.Frag} {d a : Addr} {H H' : Hp} {xs : List V} (s : Still d H H') (n : a ≠ d) (h : SqL K H a xs) : SqL K H' a xs := by
  rcases h with (h | ⟨o, h⟩) | h
  · exact .inl (.inl (s _ _ n h))
  · exact .inl (.inr ⟨o, s _ _ n h⟩)
  · exact .inr h
def rTupOf (K : PySem.W.Frag) : List V → Hp → VK → Prop := fun xs H Q => ∃ p ys, xs = [V.ref p] ∧ ((SqL K H p ys ∧ ∀ l, H l = none → Q (.ref l) (upd H l (.tup ys))) ∨ (SqT K H p ys ∧ Q (.ref p) H))
/-- tuple([row[place] for row in rows]) -/
def tPick (K : PySem.W.Frag) : TE := tCB (rTupOf K) (tCons (tLc (iList K (tVar 4)) (gName 6) tYes (tOp (rIxL K) (tVar 6) (tVar 7)) [6]) tNil)
def col (rs : List (List Nat)) (s : Nat) : List Nat := rs.map fun r => r.getD s 0
theorem nts_at {r : List Nat} {j : Nat} (h : j < r.length) : atI (nts r) (j : Int) = some (.int (r.getD j 0)) := by
  refine atI_nat ?_
  unfold nts
  rw [List.getElem?_map, List.getElem?_eq_getElem h]
  simp [List.getD, List.getElem?_eq_getElem h]
theorem take_snoc {α : Type} {l : List α} {i : Nat} {x : α} (h : l[i]? = some x) : l.take (i + 1) = l.take i ++ [x] := by
  rw [List.take_succ, h]
  rfl
def spTable (K : PySem.W.Frag) : Sp := fun vs H Q _ => ∃ (d a : Addr) (x : Str) (n : Nat) (ss : List Int), vs = [.ref d, .str x, .int n, .ref a] ∧ Dz H d ∧ 0 < n ∧ n ≤ 10 ∧ x.length ≤ 10 ∧ SqL K H a (ss.map V.int) ∧ a ≠ d ∧ 0 < ss.length ∧ ss.length < 1000 ∧
  ∀ (t : List (List Nat)) (us : List V) (p : Addr) (H' : Hp), IsTab t n x.length → H p = none → p ≠ d → H' p = some (.lst us) → RowsT d p H' us t → Dz H' d → Still d H H' → Q (.ref p) H'
section
variable {P : Program} {w : World} {K : PySem.W.Frag} {mg : Str → Option Value} {base : Heap}
theorem ok_one {f : Addr} {fd : FuncData} (D : DefsD K mg) (T : TxI mg) : FnOk P w K mg base CX0 2 D.fO D.dO ["dice", "items"] (spOneOf K) := ok_oneof D.O D.R D.bR D.mR T
theorem ok_table {f g : Addr} {fd gd : FuncData} (F : Fun K "_law_table" "_law_table" sTable f fd) (FA : Fun K "_law_action" "_law_action" sAction g gd) (bA : Binds K gd ["dice", "size", "sort"] []) (mA : mg "_law_action" = some (.ref g)) (D : DefsD K mg) (T : TxI mg) (M : TxM mg) :
    FnOk P w K mg base CX0 3 f fd ["dice", "letters", "size", "sorts"] (spTable K) := by
  have GO : FnOk P w K mg base CX0 2 D.fO D.dO ["dice", "items"] (spOneOf K) := ok_oneof D.O D.R D.bR D.mR T
  have GA : FnOk P w K mg base CX0 2 g gd ["dice", "size", "sort"] spAction := ok_action FA D T M
  refine F.ok scTable (fun vs H Q E h => ?_) (fun cdv A outer s H vs Q E hr h => ?_)
  · obtain ⟨d, a, x, n, ss, rfl, _⟩ := h
    rfl
  · obtain ⟨d, a, x, n, ss, rfl, Z, hn, h10, hx, ha, ad, s0, s1, k⟩ := h
    have hr2 : Room 2 _ := hr.mono (by decide)
    refine ⟨_, pss_cons (ps_set (i := 4) scTable.nd rfl (Or.inr rfl) (pe_lc (own := [("letter", 5)]) (g := gName 5) (tt := tYes) rfl scTable.nd (pi_str (pv 1)) (blkOk_by (N := nTable) (sc := defScope sTable) (by decide +kernel)) (fun _ _ _ _ _ => pg_name (i := 5) scTable.nd rfl (Or.inl rfl)) (fun _ _ _ _ _ => pts_nil)
        (fun _ _ _ _ _ => pe_call GA hr2 rfl mA FA.kp bA .nil pass0 (pa_cons (pv 0) (pa_cons (pv 2) (pa_cons (pe_call GO hr2 rfl D.mO D.O.kp D.bO .nil pass0 (pa_cons (pv 0) (pa_cons (pv 3) pa_nil))) pa_nil))))))
      (pss_one (ps_ret (pe_lc (own := [("place", 7)]) (g := gName 7) (tt := tYes) (te := tPick K) rfl scTable.nd (pi_range1 rfl M.range (pa_cons (pv 2) pa_nil)) (blkOk_by (N := nTable) (sc := defScope sTable) (by decide +kernel)) (fun _ _ _ _ _ => pg_name (i := 7) scTable.nd rfl (Or.inr rfl)) (fun _ _ _ _ _ => pts_nil)
        (fun _ _ _ _ _ => pe_callTy call_tuple_of (by rfl) M.tuple (by decide +kernel : bootBuiltins "tuple" = some (.type "tuple")) (pa_cons (pe_lc (own := [("row", 6)]) (wi := iList K (tVar 4)) (g := gName 6) (tt := tYes) (te := tOp (rIxL K) (tVar 6) (tVar 7)) rfl scTable.nd (pi_list (pv 4)) (by exact blkOk_by (N := nTable) (sc := ⟨.function, [(".0", .local), ("place", .cell), ("tuple", .globalImplicit), ("rows", .cell)], false, false, []⟩) (scope := ⟨.function, [(".0", .local), ("row", .local), ("place", .free)], false, false, []⟩) (own := [("row", 6)]) (by decide +kernel)) (fun _ _ _ _ _ => pg_name (i := 6) scTable.nd rfl (Or.inl rfl)) (fun _ _ _ _ _ => pts_nil)
          (fun _ _ _ _ _ => pe_ix ix_list (pv 6) (pv 7) (fun _ _ => rfl))) pa_nil))))), ?_⟩
    refine ⟨_, rfl, x, rfl, fun C nC => ?_⟩
    have Cd : C ≠ d := Z.not nC
    refine lc_it walk_str (fun j H9 => ∃ (vs : List V) (rs : List (List Nat)), H9 C = some (.lst vs) ∧ rs.length = j ∧ RowsL d C H9 vs rs ∧ (∀ r ∈ rs, r.length = n ∧ ∀ z ∈ r, z < n) ∧ Dz H9 d ∧ Still d H H9)
      ⟨[], [], upd_same, rfl, ⟨rfl, fun i r h => by cases h⟩, (fun z hz => by cases hz), Z.new nC, (Still.refl d H).new nC⟩ (fun _ _ _ _ => trivial) ?_ ?_
    · rintro i y H9 H9' hi ⟨vs, rs, h1, h2, h3, h4, h5, h6⟩ ⟨rfl, c, hc, rfl⟩
      refine ⟨rfl, tYes_if ?_⟩
      refine ⟨_, rfl, _, rfl, _, rfl, _, rfl, d, a, _, rfl, h5, sq_still h6 ad ha, ad, by rw [List.length_map]; exact s0, by rw [List.length_map]; omega, fun v H2 hv T2 => ?_⟩
      obtain ⟨q, _, rfl⟩ := List.mem_map.mp hv
      have S2 : Still d H9' H2 := (Still.refl d H9').turn T2
      refine ⟨d, n, q, rfl, T2.dz, hn, h10, fun xs p H3 hl hlt np hp z3 s3 => ?_⟩
      have S3 : Still d H9' H3 := S2.trans s3
      have pC : p ≠ C := fun e => by
        rw [e, S2 _ _ Cd h1] at np
        cases np
      have pd : p ≠ d := T2.dz.not np
      have hi10 : i < 10 := Nat.lt_of_lt_of_le hi hx
      have R3 : RowsL d C H3 (vs ++ [.ref p]) (rs ++ [xs]) := (h3.to fun b o h1 _ h => S3 b o h1 h).snoc pd pC hp
      refine ⟨vs, S3 _ _ Cd h1, ?_, vs ++ [.ref p], rs ++ [xs], upd_same, by rw [List.length_append, h2]; rfl, R3.to fun b o _ h2 h => by rw [upd_ne h2]; exact h, fun r hr => ?_, z3.ne Cd, (h6.trans S3).at_new nC⟩
      · rw [h3.1, h2]
        exact Nat.lt_trans hi10 (by decide)
      · rcases List.mem_append.mp hr with e | e
        · exact h4 r e
        · rw [List.mem_singleton.mp e]
          exact ⟨hl, hlt⟩
    · rintro H8 ⟨vs, rs, h1, h2, h3, h4, h5, h6⟩
      refine ⟨_, rfl, n, rfl, by omega, by omega, fun G nG => ?_⟩
      have Gd : G ≠ d := h5.not nG
      have HG : H G = none := h6.free h5 nG
      have hv10 : vs.length ≤ 10 := by
        rw [h3.1, h2]
        exact hx
      refine lc_range (lo := 0) (n := (n : Int).toNat) (fun j H9 => ∃ us : List V, H9 G = some (.lst us) ∧ RowsT d G H9 us ((List.range j).map (col rs)) ∧ ∀ b o, b ≠ G → H8 b = some o → H9 b = some o)
        ⟨[], upd_same, ⟨rfl, fun i r h => by cases h⟩, fun b o hb h => keep_new h nG⟩ ?_ ?_
      · rintro j H9 hj ⟨us, u1, u2, u3⟩
        have hj : j < n := by omega
        refine ⟨rfl, tYes_if ?_⟩
        have nG8 : ∀ {b : Addr} {o : HO}, H8 b = some o → b ≠ G := fun h z => by
          subst z
          rw [nG] at h
          cases h
        refine ⟨_, rfl, C, rfl, ⟨_, SqL.of (u3 _ _ (nG8 h1) h1)⟩, fun S nS => ?_⟩
        have S8 : ∀ {b : Addr} {o : HO}, H9 b = some o → b ≠ S := fun h z => by
          subst z
          rw [nS] at h
          cases h
        refine lc_list (K := K) (a := C) (xs := vs) (fun i H10 => H10 S = some (.lst (nts (col (rs.take i) j))) ∧ ∀ b o, b ≠ S → H9 b = some o → H10 b = some o)
          ⟨upd_same, fun b o hb h => keep_new h nS⟩ (fun i H10 _ ⟨_, z⟩ => SqL.of (z _ _ (S8 (u3 _ _ (nG8 h1) h1)) (u3 _ _ (nG8 h1) h1))) ?_ ?_
        · rintro i v H10 hv ⟨w1, w2⟩
          have hi : i < rs.length := by
            rw [← h3.1]
            exact (List.getElem?_eq_some_iff.mp hv).1
          obtain ⟨b, b1, b2, b3, b4⟩ := h3.2 i rs[i] (List.getElem?_eq_getElem hi)
          have ev : v = .ref b := Option.some.inj (hv.symm.trans b1)
          subst ev
          refine ⟨rfl, tYes_if ?_⟩
          have b5 := u3 _ _ (nG8 b4) b4
          have b6 := w2 _ _ (S8 b5) b5
          obtain ⟨ln, _⟩ := h4 rs[i] (List.getElem_mem hi)
          have ej : (0 : Int) + (j : Int) = (j : Int) := Int.zero_add _
          refine ⟨_, rfl, _, rfl, b, nts rs[i], 0 + (j : Int), .int ((rs[i].getD j 0 : Nat) : Int), rfl, rfl, SqL.of b6, by rw [ej]; exact nts_at (by omega), ?_⟩
          refine ⟨_, w1, ?_, ?_, fun b' o hb' h' => by rw [upd_ne hb']; exact w2 b' o hb' h'⟩
          · rw [nts_length]
            unfold col
            rw [List.length_map, List.length_take]
            exact Nat.lt_of_le_of_lt (Nat.le_trans (Nat.min_le_right _ _) (show rs.length ≤ 10 by rw [← h3.1]; exact hv10)) (by decide)
          · rw [upd_same, nts_append]
            unfold col
            rw [take_snoc (List.getElem?_eq_getElem hi), List.map_append]
            rfl
        · rintro H10 ⟨w1, w2⟩
          have et : rs.take vs.length = rs := by
            rw [h3.1]
            exact List.take_length
          rw [et] at w1
          refine ⟨S, _, rfl, .inl ⟨SqL.of w1, fun l nl => ?_⟩⟩
          have k10 : ∀ b o, H9 b = some o → H10 b = some o := fun b o h => w2 b o (S8 h) h
          have lG : l ≠ G := fun z => by
            rw [z, k10 _ _ u1] at nl
            cases nl
          obtain ⟨dl, dm, dc, dd, _⟩ := id h5
          have ld : l ≠ d := fun z => by
            rw [z, k10 _ _ (u3 _ _ Gd.symm dd)] at nl
            cases nl
          refine ⟨us, keep_new (k10 _ _ u1) nl, ?_, us ++ [.ref l], upd_same, ?_, fun b o hb h => ?_⟩
          · rw [u2.1, List.length_map, List.length_range]
            exact Nat.lt_of_lt_of_le (Nat.lt_of_lt_of_le hj h10) (by decide)
          · rw [List.range_succ, List.map_append]
            exact ((u2.to fun b o _ _ h => keep_new (k10 _ _ h) nl).snoc ld lG upd_same).to fun b o _ h2 h => by
              rw [upd_ne h2]
              exact h
          · rw [upd_ne hb]
            exact keep_new (k10 _ _ (u3 b o hb h)) nl
      · rintro H9 ⟨us, u1, u2, u3⟩
        have en : (n : Int).toNat = n := by omega
        rw [en] at u2
        obtain ⟨dl, dm, dc, dd, d1⟩ := id h5
        refine k ((List.range n).map (col rs)) us G H9 ⟨by rw [List.length_map, List.length_range], fun r hr => ?_⟩ HG Gd u1 u2 ⟨dl, dm, dc, u3 _ _ Gd.symm dd, d1⟩ fun b o hb h => u3 b o (fun z => by
          rw [z, HG] at h
          cases h) (h6 b o hb h)
        obtain ⟨s', hs', rfl⟩ := List.mem_map.mp hr
        have hs' : s' < n := List.mem_range.mp hs'
        refine ⟨by unfold col; rw [List.length_map, h2]; rfl, fun z hz => ?_⟩
        obtain ⟨r', hr', rfl⟩ := List.mem_map.mp hz
        obtain ⟨l1, l2⟩ := h4 r' hr'
        refine l2 _ ?_
        have : s' < r'.length := by omega
        simp [List.getD, List.getElem?_eq_getElem this]
end
end M3

set_option Elab.async false
set_option linter.all false
set_option maxRecDepth 100000
set_option maxHeartbeats 8000000
/-! # Drawn machines, plain: a dict of letters, table, ends -/
namespace M3
open PySem L2
theorem RowsT.both {d C : Addr} {H : Hp} {vs : List V} {rs : List (List Nat)} (R : RowsT d C H vs rs) : RowsT d d H vs rs := ⟨R.1, fun i r h => by
  obtain ⟨a, h1, h2, _, h4⟩ := R.2 i r h
  exact ⟨a, h1, h2, h2, h4⟩⟩
section
variable {P : Program} {w : World} {K : PySem.W.Frag} {mg : Str → Option Value} {base : Heap}
/-- the facts of the defs that draw machines -/
structure DefsM (K : PySem.W.Frag) (mg : Str → Option Value) where
  (fA fT : Addr)
  (dA dT : FuncData)
  A : Fun K "_law_action" "_law_action" sAction fA dA
  bA : Binds K dA ["dice", "size", "sort"] []
  mA : mg "_law_action" = some (.ref fA)
  T : Fun K "_law_table" "_law_table" sTable fT dT
  bT : Binds K dT ["dice", "letters", "size", "sorts"] []
  mT : mg "_law_table" = some (.ref fT)
end
end M3

set_option Elab.async false
set_option linter.all false
set_option maxRecDepth 100000
set_option maxHeartbeats 8000000
/-! # Numbers between, words -/
namespace M3
open PySem L2
abbrev sBetween : Stmt := top 13
abbrev sIsWord : Stmt := top 14
abbrev sHasOnly : Stmt := top 15
structure TxW (mg : Str → Option Value) : Prop where
  isi : mg "isinstance" = none
  bool : mg "bool" = none
  int : mg "int" = none
  str : mg "str" = none
  tuple : mg "tuple" = none
  all : mg "all" = none
  alpha : ∃ t, mg "ALPHABET" = some (.str "abcdefghijklmnopqrstuvwxyz" t)
theorem boot_bool' : bootBuiltins "bool" = some (.type "bool") := by decide +kernel
theorem boot_int' : bootBuiltins "int" = some (.type "int") := by decide +kernel
theorem boot_str' : bootBuiltins "str" = some (.type "str") := by decide +kernel
theorem boot_tuple' : bootBuiltins "tuple" = some (.type "tuple") := by decide +kernel
theorem scBetween : FnScope ["value", "low", "high"] ["value", "low", "high"] (defScope sBetween) := ⟨rfl, rfl, rfl, by decide +kernel, rfl, by decide +kernel, by decide +kernel⟩
theorem scIsWord : FnScope ["value"] ["value"] (defScope sIsWord) := ⟨rfl, rfl, rfl, by decide +kernel, rfl, by decide +kernel, by decide +kernel⟩
theorem scHasOnly : FnScope ["word", "letters", "letter"] ["word", "letters"] (defScope sHasOnly) := ⟨rfl, rfl, rfl, by decide +kernel, rfl, by decide +kernel, by decide +kernel⟩
/-- is it an integer between: what kind of value it is decides first -/
def spBetween (K : PySem.W.Frag) : Sp := fun vs H Q _ => ∃ (v : V) (lo hi : Int) (t : Value) (bb bi : Bool), vs = [v, .int lo, .int hi] ∧ TyX K H v t ∧ PySem.W.kitOne K t (.type "bool") = some bb ∧ PySem.W.kitOne K t (.type "int") = some bi ∧
  (bb = true → Q (.bl false) H) ∧ (bb = false → bi = false → Q (.bl false) H) ∧ (bb = false → bi = true → ∃ i : Int, v = .int i ∧ Q (.bl (decide (lo ≤ i) && decide (i ≤ hi))) H)
def only (x y : Str) : Bool := x.cps.toList.all fun c => decide (c ∈ y.cps.toList)
def spHasOnly : Sp := fun vs H Q _ => ∃ x y : Str, vs = [.str x, .str y] ∧ x.length ≤ 1000000 ∧ ∀ H' : Hp, Same H H' → Q (.bl (only x y)) H'
def spIsWord (K : PySem.W.Frag) : Sp := fun vs H Q _ => ∃ (v : V) (t : Value) (b : Bool), vs = [v] ∧ TyX K H v t ∧ PySem.W.kitOne K t (.type "str") = some b ∧
  (b = false → Q (.bl false) H) ∧ (b = true → ∃ x : Str, v = .str x ∧ x.length ≤ 1000000 ∧ ∀ H' : Hp, Same H H' → Q (.bl (only x "abcdefghijklmnopqrstuvwxyz")) H')
theorem Same.new {H H1 : Hp} {p : Addr} {u : HO} (s : Same H H1) (hp : H1 p = none) : Same H (upd H1 p u) := fun b o h => keep_new (s b o h) hp
section
variable {P : Program} {w : World} {K : PySem.W.Frag} {mg : Str → Option Value} {base : Heap}
theorem ok_between {f : Addr} {fd : FuncData} (F : Fun K "is_between" "is_between" sBetween f fd) (W : TxW mg) : FnOk P w K mg base CX0 1 f fd ["value", "low", "high"] (spBetween K) := by
  refine F.ok scBetween (fun vs H Q E h => ?_) (fun cdv A outer s H vs Q E hr h => ?_)
  · obtain ⟨v, lo, hi, t, bb, bi, rfl, _⟩ := h
    rfl
  · obtain ⟨v, lo, hi, t, bb, bi, rfl, ty, k1, k2, q1, q2, q3⟩ := h
    refine ⟨_, pss_cons (ps_if (PW.pt (pw_or (pt_val (pe_callB call_isi (by rfl) W.isi (by decide +kernel) (pa_cons (pv 0) (pa_cons (pe_bltn (v := .ty "bool") rfl W.bool boot_bool' rfl) pa_nil)))) (pw_or1 (pt_not (pt_val (pe_callB call_isi (by rfl) W.isi (by decide +kernel) (pa_cons (pv 0) (pa_cons (pe_bltn (v := .ty "int") rfl W.int boot_int' rfl) pa_nil)))))))) (pss_one (ps_ret pe_bl)) pss_nil)
      (pss_one (ps_ret (pe_chain op_le op_le (pv 1) (pv 0) (pv 2)))), ?_⟩
    refine ⟨_, rfl, v, .ty "bool", t, .type "bool", bb, rfl, .ty _, ty, k1, _, rfl, ?_⟩
    cases bb with
    | true => exact iteT (iteT (q1 rfl))
    | false =>
      refine iteF ?_
      refine ⟨_, rfl, v, .ty "int", t, .type "int", bi, rfl, .ty _, ty, k2, _, rfl, ?_⟩
      cases bi with
      | false => exact iteT (q2 rfl rfl)
      | true =>
        obtain ⟨i, rfl, q⟩ := q3 rfl rfl
        refine iteF ?_
        refine ⟨_, rfl, _, rfl, _, _, rfl, rfl, _, rfl, ?_⟩
        by_cases h1 : lo ≤ i
        · rw [decide_eq_true h1] at q ⊢
          exact iteT ⟨_, rfl, _, _, rfl, rfl, q⟩
        · rw [decide_eq_false h1] at q ⊢
          exact iteF q
theorem ok_hasonly {f : Addr} {fd : FuncData} (F : Fun K "has_only" "has_only" sHasOnly f fd) (W : TxW mg) : FnOk P w K mg base CX0 1 f fd ["word", "letters"] spHasOnly := by
  refine F.ok scHasOnly (fun vs H Q E h => ?_) (fun cdv A outer s H vs Q E hr h => ?_)
  · obtain ⟨x, y, rfl, _⟩ := h
    rfl
  · obtain ⟨x, y, rfl, hx, k⟩ := h
    refine ⟨_, pss_one (ps_ret (pe_callB (cr_all rfl) (by rfl) W.all (by decide +kernel) (pa_cons (pe_lc (own := [("letter", 2)]) (g := gName 2) (tt := tYes) rfl scHasOnly.nd (pi_str (pv 0)) (blkOk_by (N := ["word", "letters", "letter"]) (sc := defScope sHasOnly) (by decide +kernel)) (fun _ _ _ _ _ => pg_name (i := 2) scHasOnly.nd rfl (Or.inl rfl)) (fun _ _ _ _ _ => pts_nil)
      (fun _ _ _ _ _ => pe_cmpR op_in_sign (pv 2) (pv 1) rfl)) pa_nil))), ?_⟩
    refine ⟨_, rfl, x, rfl, fun C nC => ?_⟩
    refine lc_it walk_str (fun j H9 => H9 C = some (.lst (((x.cps.toList.take j).map fun c => decide (c ∈ y.cps.toList)).map V.bl)) ∧ ∀ b o, b ≠ C → H b = some o → H9 b = some o)
      ⟨upd_same, fun b o hb h => keep_new h nC⟩ (fun _ _ _ _ => trivial) ?_ ?_
    · rintro i v H9 H9' hi ⟨h1, h2⟩ ⟨rfl, c, hc, rfl⟩
      refine ⟨rfl, tYes_if ?_⟩
      have hc' : x.cps.toList[i]? = some c := by simpa using hc
      refine ⟨_, rfl, _, rfl, c, y, rfl, rfl, _, h1, ?_, ?_, fun b o hb h => by rw [upd_ne hb]; exact h2 b o hb h⟩
      · rw [List.length_map, List.length_map, List.length_take]
        have : x.cps.toList.length = x.length := by simp [Str.length]
        have l : sizeLine = 16777216 := sizeLine_eq
        omega
      · rw [upd_same, take_snoc hc', List.map_append, List.map_append]
        rfl
    · rintro H9 ⟨h1, h2⟩
      have et : x.cps.toList.take x.cps.size = x.cps.toList := List.take_of_length_le (by simp)
      rw [et] at h1
      refine ⟨C, _, rfl, SqL.of h1, ?_⟩
      have e : (x.cps.toList.map fun c => decide (c ∈ y.cps.toList)).all id = only x y := by
        unfold only
        rw [List.all_map]
        rfl
      rw [e]
      exact k _ fun b o h => h2 b o (fun z => by rw [z, nC] at h; cases h) h
theorem ok_isword {f g : Addr} {fd gd : FuncData} (F : Fun K "is_word" "is_word" sIsWord f fd) (G : Fun K "has_only" "has_only" sHasOnly g gd) (bG : Binds K gd ["word", "letters"] []) (mG : mg "has_only" = some (.ref g)) (W : TxW mg) : FnOk P w K mg base CX0 2 f fd ["value"] (spIsWord K) := by
  have GH : FnOk P w K mg base CX0 1 g gd ["word", "letters"] spHasOnly := ok_hasonly G W
  obtain ⟨ta, al⟩ := W.alpha
  refine F.ok scIsWord (fun vs H Q E h => ?_) (fun cdv A outer s H vs Q E hr h => ?_)
  · obtain ⟨v, t, b, rfl, _⟩ := h
    rfl
  · obtain ⟨v, t, b, rfl, ty, k1, q1, q2⟩ := h
    refine ⟨_, pss_cons (ps_if (pt_not (pt_val (pe_callB call_isi (by rfl) W.isi (by decide +kernel) (pa_cons (pv 0) (pa_cons (pe_bltn (v := .ty "str") rfl W.str boot_str' rfl) pa_nil))))) (pss_one (ps_ret pe_bl)) pss_nil)
      (pss_one (ps_ret (pe_call GH hr rfl mG G.kp bG .nil pass0 (pa_cons (pv 0) (pa_cons (pe_glob (v := .str "abcdefghijklmnopqrstuvwxyz") rfl al ⟨_, rfl⟩) pa_nil))))), ?_⟩
    refine ⟨_, rfl, v, .ty "str", t, .type "str", b, rfl, .ty _, ty, k1, _, rfl, ?_⟩
    cases b with
    | false => exact iteT (q1 rfl)
    | true =>
      obtain ⟨x, rfl, hx, q⟩ := q2 rfl
      refine iteF ?_
      exact ⟨_, rfl, x, _, rfl, hx, q⟩
end
end M3

set_option Elab.async false
set_option linter.all false
set_option maxRecDepth 100000
set_option maxHeartbeats 8000000
/-! # Sets of letters -/
namespace M3
open PySem L2
abbrev sIsLetters : Stmt := top 16
abbrev nIsLetters : List Str := ["value", "low", "high"]
theorem scIsLetters : FnScope nIsLetters ["value"] (defScope sIsLetters) := ⟨rfl, rfl, rfl, by decide +kernel, rfl, by decide +kernel, by decide +kernel⟩
structure TxZ (mg : Str → Option Value) : Prop where
  zip : mg "zip" = none
  len : mg "len" = none
  maxL : ∃ t, mg "MAX_LETTERS" = some (.int 2 t)
/-- each sign is ahead of the next one -/
def ups (x : Str) : List Bool := (x.cps.toList.zip (x.cps.toList.drop 1)).map fun p => decide ([p.1] < [p.2])
def isLet (x : Str) : Bool := only x "abcdefghijklmnopqrstuvwxyz" && (decide (1 ≤ x.length) && (decide (x.length ≤ 2) && (ups x).all id))
def spIsLetters (K : PySem.W.Frag) : Sp := fun vs H Q _ => ∃ (v : V) (t : Value) (b : Bool), vs = [v] ∧ TyX K H v t ∧ PySem.W.kitOne K t (.type "str") = some b ∧
  (b = false → Q (.bl false) H) ∧ (b = true → ∃ x : Str, v = .str x ∧ x.length ≤ 1000000 ∧ ∀ H' : Hp, Same H H' → Q (.bl (isLet x)) H')
theorem cut1 (x : Str) : cutS x (some 1) none = ⟨(x.cps.toList.drop 1).toArray⟩ := by
  unfold cutS
  have e : HT.sIx x.length 0 (some ((1 : Nat) : Int)) = min 1 x.length := HT.sIx_nat _ _ _
  have e' : HT.sIx x.length 0 (some 1) = min 1 x.length := e
  rw [e', HT.sIx_none]
  have l : x.cps.toList.length = x.length := by simp [Str.length]
  congr 2
  by_cases h : x.length = 0
  · have z : x.cps.toList = [] := List.eq_nil_of_length_eq_zero (by omega)
    rw [z]
    simp
  · have m : min 1 x.length = 1 := by omega
    rw [m]
    exact List.take_of_length_le (by rw [List.length_drop]; omega)
theorem zip_at {α : Type} {l : List α} {i : Nat} {a b : α} (h1 : l[i]? = some a) (h2 : (l.drop 1)[i]? = some b) : (l.zip (l.drop 1))[i]? = some (a, b) := by
  rw [List.getElem?_zip_eq_some]
  exact ⟨h1, h2⟩
section
variable {P : Program} {w : World} {K : PySem.W.Frag} {mg : Str → Option Value} {base : Heap}
/-- the facts of the defs of words -/
structure DefsW (K : PySem.W.Frag) (mg : Str → Option Value) where
  (fB fW fO : Addr)
  (dB dW dO : FuncData)
  B : Fun K "is_between" "is_between" sBetween fB dB
  bB : Binds K dB ["value", "low", "high"] []
  mB : mg "is_between" = some (.ref fB)
  W : Fun K "is_word" "is_word" sIsWord fW dW
  bW : Binds K dW ["value"] []
  mW : mg "is_word" = some (.ref fW)
  O : Fun K "has_only" "has_only" sHasOnly fO dO
  bO : Binds K dO ["word", "letters"] []
  mO : mg "has_only" = some (.ref fO)
theorem ok_isletters {f : Addr} {fd : FuncData} (F : Fun K "is_letters" "is_letters" sIsLetters f fd) (D : DefsW K mg) (W : TxW mg) (Zx : TxZ mg) : FnOk P w K mg base CX0 3 f fd ["value"] (spIsLetters K) := by
  have GW : FnOk P w K mg base CX0 2 D.fW D.dW ["value"] (spIsWord K) := ok_isword D.W D.O D.bO D.mO W
  obtain ⟨tm, ml⟩ := Zx.maxL
  refine F.ok scIsLetters (fun vs H Q E h => ?_) (fun cdv A outer s H vs Q E hr h => ?_)
  · obtain ⟨v, t, b, rfl, _⟩ := h
    rfl
  · obtain ⟨v, t, b, rfl, ty, k1, q1, q2⟩ := h
    have hr2 : Room 2 _ := hr.mono (by decide)
    refine ⟨_, pss_cons (ps_if (PW.pt (pw_or (pt_not (pt_val (pe_call GW hr2 rfl D.mW D.W.kp D.bW .nil pass0 (pa_cons (pv 0) pa_nil)))) (pw_or1 (pt_not (pt_chain op_le op_le pe_int (pe_callB call_len_str (by rfl) Zx.len PySem.boot_len (pa_cons (pv 0) pa_nil)) (pe_glob (v := .int 2) rfl ml ⟨_, rfl⟩)))))) (pss_one (ps_ret pe_bl)) pss_nil)
      (pss_one (ps_ret (pe_callB (cr_all rfl) (by rfl) W.all (by decide +kernel) (pa_cons (pe_lc (own := [("low", 1), ("high", 2)]) (g := gTup K 2 (gCons (gName 1) (gCons (gName 2) gNil))) (tt := tYes) rfl scIsLetters.nd (NvZ.pi_zipS rfl Zx.zip (pa_cons (pv 0) (pa_cons (pe_slice sl_str (pv 0) (po_some pe_int) po_none) pa_nil))) (blkOk_by (N := nIsLetters) (sc := defScope sIsLetters) (by decide +kernel))
        (fun _ _ _ _ _ => pg_tup rfl (pgs_cons (pg_name (i := 1) scIsLetters.nd rfl (Or.inl rfl)) (pgs_cons (pg_name (i := 2) scIsLetters.nd rfl (Or.inl rfl)) pgs_nil))) (fun _ _ _ _ _ => pts_nil) (fun _ _ _ _ _ => pe_cmpR op_lt_str (pv 1) (pv 2) (nomark _))) pa_nil)))), ?_⟩
    refine ⟨_, rfl, v, t, b, rfl, ty, k1, fun e => ⟨_, rfl, ?_⟩, fun e => ?_⟩
    · exact iteT (iteT (q1 e))
    · obtain ⟨x, rfl, hx, q⟩ := q2 e
      refine ⟨x, rfl, hx, fun H1 s1 => ?_⟩
      unfold isLet at q
      refine ⟨_, rfl, ?_⟩
      cases h1 : only x "abcdefghijklmnopqrstuvwxyz" with
      | false =>
        rw [h1] at q
        exact iteT (iteT (q H1 s1))
      | true =>
        rw [h1] at q
        refine iteF ?_
        have hz : x.length ≤ sizeLine := Nat.le_trans hx (by rw [sizeLine_eq]; decide)
        refine ⟨_, rfl, x, rfl, hz, _, _, rfl, rfl, _, rfl, ?_⟩
        have e1 : decide ((1 : Int) ≤ (x.length : Int)) = decide (1 ≤ x.length) := by
          by_cases h : 1 ≤ x.length
          · rw [decide_eq_true h, decide_eq_true (by omega)]
          · rw [decide_eq_false h, decide_eq_false (by omega)]
        have e2 : decide ((x.length : Int) ≤ 2) = decide (x.length ≤ 2) := by
          by_cases h : x.length ≤ 2
          · rw [decide_eq_true h, decide_eq_true (by omega)]
          · rw [decide_eq_false h, decide_eq_false (by omega)]
        rw [e1]
        cases h2 : decide (1 ≤ x.length) with
        | false =>
          rw [h2] at q
          exact iteF ⟨_, rfl, iteT (q H1 s1)⟩
        | true =>
          rw [h2] at q
          refine iteT ⟨_, _, rfl, rfl, _, rfl, ?_⟩
          rw [e2]
          cases h3 : decide (x.length ≤ 2) with
          | false =>
            rw [h3] at q
            exact iteT (q H1 s1)
          | true =>
            rw [h3] at q
            refine iteF ?_
            refine ⟨_, rfl, _, rfl, 1, rfl, x, rfl, hz, x, _, rfl, ?_⟩
            rw [cut1]
            intro C nC
            have lu : (ups x).length = min x.cps.size (⟨(x.cps.toList.drop 1).toArray⟩ : Str).cps.size := by
              unfold ups
              rw [List.length_map, List.length_zip]
              simp
            refine lc_it NvZ.walk_zipS (fun j H9 => H9 C = some (.lst (((ups x).take j).map V.bl)) ∧ ∀ b o, b ≠ C → H1 b = some o → H9 b = some o)
              ⟨upd_same, fun b o hb h => keep_new h nC⟩ (fun _ _ _ _ => trivial) ?_ ?_
            · rintro i v H9 H9' hi ⟨h1, h2⟩ ⟨T', a, b, rfl, nT, rfl, ha, hb⟩
              refine ⟨T', _, rfl, SqT.of upd_same, rfl, _, _, rfl, _, _, rfl, rfl, rfl, tYes_if ?_⟩
              have hu : (ups x)[i]? = some (decide ([a] < [b])) := by
                unfold ups
                rw [List.getElem?_map, zip_at (l := x.cps.toList) (by simpa using ha) (by simpa using hb)]
                rfl
              refine ⟨_, rfl, _, rfl, _, _, rfl, rfl, _, keep_new h1 nT, ?_, ?_, fun b' o hb' h => by rw [upd_ne hb']; exact keep_new (h2 b' o hb' h) nT⟩
              · rw [List.length_map, List.length_take]
                have : (ups x).length ≤ x.cps.size := by rw [lu]; exact Nat.min_le_left _ _
                have l : sizeLine = 16777216 := sizeLine_eq
                have : x.cps.size ≤ 1000000 := hx
                omega
              · rw [upd_same, take_snoc hu, List.map_append]
                rfl
            · rintro H9 ⟨h1, h2⟩
              rw [← lu, List.take_length] at h1
              refine ⟨C, _, rfl, SqL.of h1, q H9 fun b o h => h2 b o (fun z => ?_) (s1 _ _ h)⟩
              rw [z] at h
              have := s1 _ _ h
              rw [nC] at this
              cases this
end
end M3

set_option Elab.async false
set_option linter.all false
set_option maxRecDepth 100000
set_option maxHeartbeats 8000000
/-! # Lines, tables, choices -/
namespace M3
open PySem L2
abbrev sIsTable : Stmt := top 21
abbrev sIsLine : Stmt := top 22
abbrev sIsChoice : Stmt := top 23
abbrev nIsTable : List Str := ["value", "width", "most", "line"]
abbrev nIsLine : List Str := ["value", "width", "size", "goal"]
abbrev nIsChoice : List Str := ["value", "size", "state", "low", "high"]
theorem scIsTable : FnScope nIsTable ["value", "width", "most"] (defScope sIsTable) := ⟨rfl, rfl, rfl, by decide +kernel, rfl, by decide +kernel, by decide +kernel⟩
theorem scIsLine : FnScope nIsLine ["value", "width", "size"] (defScope sIsLine) := ⟨rfl, rfl, rfl, by decide +kernel, rfl, by decide +kernel, by decide +kernel⟩
theorem scIsChoice : FnScope nIsChoice ["value", "size"] (defScope sIsChoice) := ⟨rfl, rfl, rfl, by decide +kernel, rfl, by decide +kernel, by decide +kernel⟩
theorem ty_tup {K : PySem.W.Frag} {H : Hp} {a : Addr} {xs : List V} (h : SqT K H a xs) : TyX K H (.ref a) (.type "tuple") := by
  rcases h with (h | ⟨o, h⟩) | ⟨o, _, _, h, c, _⟩
  · exact .base (.tup h)
  · exact .fTuple h
  · exact .kTuple h c
theorem sqt_same {K : PySem.W.Frag} {a : Addr} {H H' : Hp} {xs : List V} (s : Same H H') (h : SqT K H a xs) : SqT K H' a xs := by
  rcases h with (h | ⟨o, h⟩) | h
  · exact .inl (.inl (s _ _ h))
  · exact .inl (.inr ⟨o, s _ _ h⟩)
  · exact .inr h
def inside (n i : Int) : Bool := decide (0 ≤ i) && decide (i ≤ n - 1)
/-- a tuple of integers is handed in -/
def spIsLine (K : PySem.W.Frag) : Sp := fun vs H Q _ => ∃ (a : Addr) (xs : List Int) (w n : Int), vs = [.ref a, .int w, .int n] ∧ SqT K H a (xs.map V.int) ∧ xs.length ≤ 1000000 ∧ ∀ H' : Hp, Same H H' → Q (.bl (decide ((xs.length : Int) = w) && xs.all (inside n))) H'
section
variable {P : Program} {w : World} {K : PySem.W.Frag} {mg : Str → Option Value} {base : Heap}
theorem kit_tup : PySem.W.kitOne K (.type "tuple") (.type "tuple") = some true := kit_ty (by decide +kernel)
theorem kit_int_bool : PySem.W.kitOne K (.type "int") (.type "bool") = some false := kit_ty (by decide +kernel)
theorem kit_int_int : PySem.W.kitOne K (.type "int") (.type "int") = some true := kit_ty (by decide +kernel)
theorem ok_isline {f : Addr} {fd : FuncData} (F : Fun K "is_line" "is_line" sIsLine f fd) (D : DefsW K mg) (W : TxW mg) (Zx : TxZ mg) : FnOk P w K mg base CX0 2 f fd ["value", "width", "size"] (spIsLine K) := by
  have GB : FnOk P w K mg base CX0 1 D.fB D.dB ["value", "low", "high"] (spBetween K) := ok_between D.B W
  refine F.ok scIsLine (fun vs H Q E h => ?_) (fun cdv A outer s H vs Q E hr h => ?_)
  · obtain ⟨a, xs, w', n, rfl, _⟩ := h
    rfl
  · obtain ⟨a, xs, w', n, rfl, ha, hx, k⟩ := h
    refine ⟨_, pss_cons (ps_if (PW.pt (pw_or (pt_not (pt_val (pe_callB call_isi (by rfl) W.isi (by decide +kernel) (pa_cons (pv 0) (pa_cons (pe_bltn (v := .ty "tuple") rfl W.tuple boot_tuple' rfl) pa_nil))))) (pw_or1 (pt_cmpR op_ne (pe_callB call_len_seq (by rfl) Zx.len PySem.boot_len (pa_cons (pv 0) pa_nil)) (pv 1) (nomark _))))) (pss_one (ps_ret pe_bl)) pss_nil)
      (pss_one (ps_ret (pe_callB (cr_all rfl) (by rfl) W.all (by decide +kernel) (pa_cons (pe_lc (own := [("goal", 3)]) (g := gName 3) (tt := tYes) rfl scIsLine.nd (pi_tup (pv 0)) (blkOk_by (N := nIsLine) (sc := defScope sIsLine) (by decide +kernel)) (fun _ _ _ _ _ => pg_name (i := 3) scIsLine.nd rfl (Or.inl rfl)) (fun _ _ _ _ _ => pts_nil)
        (fun _ _ _ _ _ => pe_call GB hr rfl D.mB D.B.kp D.bB .nil pass0 (pa_cons (pv 3) (pa_cons pe_int (pa_cons (pe_op op_sub (pv 2) pe_int) pa_nil))))) pa_nil)))), ?_⟩
    refine ⟨_, rfl, .ref a, .ty "tuple", _, .type "tuple", true, rfl, .ty _, ty_tup ha, kit_tup, _, rfl, ?_⟩
    refine iteF ?_
    refine ⟨_, rfl, a, _, rfl, .inr ha, _, rfl, rfl, _, rfl, ?_⟩
    have e1 : (!decide (V.int ((xs.map V.int).length : Int) = V.int w')) = !decide ((xs.length : Int) = w') := by
      rw [List.length_map]
      by_cases h : (xs.length : Int) = w'
      · rw [decide_eq_true h, decide_eq_true (by rw [h])]
      · rw [decide_eq_false h, decide_eq_false (fun z => h (by injection z))]
    rw [e1]
    cases h1 : decide ((xs.length : Int) = w') with
    | false =>
      rw [h1] at k
      exact iteT (k H (Same.refl H))
    | true =>
      rw [h1] at k
      refine iteF ?_
      refine ⟨_, rfl, a, rfl, ⟨_, ha⟩, fun C nC => ?_⟩
      refine lc_it (walk_tup (K := K) (a := a) (xs := xs.map V.int)) (fun j H9 => H9 C = some (.lst (((xs.take j).map (inside n)).map V.bl)) ∧ Same H H9 ∧ H C = none)
        ⟨upd_same, Same.new (Same.refl H) nC, nC⟩ (fun i H9 _ ⟨_, z, _⟩ => sqt_same z ha) ?_ ?_
      · rintro i v H9 H9' hi ⟨q1, q2, _⟩ ⟨rfl, hv⟩
        refine ⟨rfl, tYes_if ?_⟩
        rw [List.getElem?_map] at hv
        cases e : xs[i]? with
        | none =>
          rw [e] at hv
          cases hv
        | some y =>
          rw [e] at hv
          cases hv
          refine ⟨_, rfl, _, rfl, _, _, rfl, rfl, .int y, 0, n - 1, .type "int", false, true, rfl, .base (.int y), kit_int_bool, kit_int_int, (fun z => by cases z), (fun _ z => by cases z), fun _ _ => ⟨y, rfl, ?_⟩⟩
          refine ⟨_, q1, ?_, ?_, fun b o h => ?_, nC⟩
          · rw [List.length_map, List.length_map, List.length_take]
            have l : sizeLine = 16777216 := sizeLine_eq
            omega
          · rw [upd_same, take_snoc e, List.map_append, List.map_append]
            rfl
          · rw [upd_ne (fun z => by rw [z, nC] at h; cases h)]
            exact q2 b o h
      · rintro H9 ⟨q1, q2, _⟩
        have et : xs.take (xs.map V.int).length = xs := by
          rw [List.length_map]
          exact List.take_length
        rw [et] at q1
        refine ⟨C, _, rfl, SqL.of q1, ?_⟩
        rw [List.all_map]
        exact k H9 q2
end
end M3

set_option Elab.async false
set_option linter.all false
set_option maxRecDepth 100000
set_option maxHeartbeats 8000000
/-! # Tables judged -/
namespace M3
open PySem L2
/-- tuples of integers stand at these addresses -/
def Lines (K : PySem.W.Frag) (H : Hp) (us : List V) (t : List (List Int)) : Prop := us.length = t.length ∧ ∀ (i : Nat) (r : List Int), t[i]? = some r → ∃ b : Addr, us[i]? = some (V.ref b) ∧ SqT K H b (r.map V.int) ∧ r.length ≤ 1000
theorem Lines.same {K : PySem.W.Frag} {H H' : Hp} {us : List V} {t : List (List Int)} (h : Lines K H us t) (s : Same H H') : Lines K H' us t := ⟨h.1, fun i r e => by
  obtain ⟨b, h1, h2, h3⟩ := h.2 i r e
  exact ⟨b, h1, sqt_same s h2, h3⟩⟩
def tabOk (t : List (List Int)) (w m : Int) : Bool := decide (1 ≤ (t.length : Int)) && (decide ((t.length : Int) ≤ m) && t.all fun r => decide ((r.length : Int) = w) && r.all (inside t.length))
def spIsTable (K : PySem.W.Frag) : Sp := fun vs H Q _ => ∃ (a : Addr) (us : List V) (t : List (List Int)) (w m : Int), vs = [.ref a, .int w, .int m] ∧ SqT K H a us ∧ Lines K H us t ∧ t.length ≤ 1000000 ∧ ∀ H' : Hp, Same H H' → Q (.bl (tabOk t w m)) H'
section
variable {P : Program} {w : World} {K : PySem.W.Frag} {mg : Str → Option Value} {base : Heap}
theorem ok_istable {f g : Addr} {fd gd : FuncData} (F : Fun K "is_table" "is_table" sIsTable f fd) (G : Fun K "is_line" "is_line" sIsLine g gd) (bG : Binds K gd ["value", "width", "size"] []) (mG : mg "is_line" = some (.ref g)) (D : DefsW K mg) (W : TxW mg) (Zx : TxZ mg) :
    FnOk P w K mg base CX0 3 f fd ["value", "width", "most"] (spIsTable K) := by
  have GL : FnOk P w K mg base CX0 2 g gd ["value", "width", "size"] (spIsLine K) := ok_isline G D W Zx
  refine F.ok scIsTable (fun vs H Q E h => ?_) (fun cdv A outer s H vs Q E hr h => ?_)
  · obtain ⟨a, us, t, w', m, rfl, _⟩ := h
    rfl
  · obtain ⟨a, us, t, w', m, rfl, ha, hL, ht, k⟩ := h
    refine ⟨_, pss_cons (ps_if (PW.pt (pw_or (pt_not (pt_val (pe_callB call_isi (by rfl) W.isi (by decide +kernel) (pa_cons (pv 0) (pa_cons (pe_bltn (v := .ty "tuple") rfl W.tuple boot_tuple' rfl) pa_nil))))) (pw_or1 (pt_not (pt_chain op_le op_le pe_int (pe_callB call_len_seq (by rfl) Zx.len PySem.boot_len (pa_cons (pv 0) pa_nil)) (pv 2)))))) (pss_one (ps_ret pe_bl)) pss_nil)
      (pss_one (ps_ret (pe_callB (cr_all rfl) (by rfl) W.all (by decide +kernel) (pa_cons (pe_lc (own := [("line", 3)]) (g := gName 3) (tt := tYes) (te := tCall (spIsLine K) [] E0 (tCons (tVar 3) (tCons (tVar 1) (tCons (tCB (fun xs H Q => ∃ p ys, xs = [V.ref p] ∧ (SqL K H p ys ∨ SqT K H p ys) ∧ Q (V.int ys.length) H) (tCons (tVar 0) tNil)) tNil)))) rfl scIsTable.nd (pi_tup (pv 0)) (blkOk_by (N := nIsTable) (sc := defScope sIsTable) (by decide +kernel)) (fun _ _ _ _ _ => pg_name (i := 3) scIsTable.nd rfl (Or.inl rfl)) (fun _ _ _ _ _ => pts_nil)
        (fun _ _ _ _ _ => pe_call GL hr rfl mG G.kp bG .nil pass0 (pa_cons (pv 3) (pa_cons (pv 1) (pa_cons (pe_callB call_len_seq (by rfl) Zx.len PySem.boot_len (pa_cons (pv 0) pa_nil)) pa_nil))))) pa_nil)))), ?_⟩
    have lu : us.length = t.length := hL.1
    refine ⟨_, rfl, .ref a, .ty "tuple", _, .type "tuple", true, rfl, .ty _, ty_tup ha, kit_tup, _, rfl, ?_⟩
    refine iteF ?_
    refine ⟨_, rfl, a, _, rfl, .inr ha, _, _, rfl, rfl, _, rfl, ?_⟩
    rw [lu]
    unfold tabOk at k
    cases h1 : decide (1 ≤ (t.length : Int)) with
    | false =>
      rw [h1] at k
      exact iteF ⟨_, rfl, iteT (k H (Same.refl H))⟩
    | true =>
      rw [h1] at k
      refine iteT ⟨_, rfl, _, _, rfl, rfl, _, rfl, ?_⟩
      cases h2 : decide ((t.length : Int) ≤ m) with
      | false =>
        rw [h2] at k
        exact iteT (k H (Same.refl H))
      | true =>
        rw [h2] at k
        refine iteF ?_
        refine ⟨_, rfl, a, rfl, ⟨_, ha⟩, fun C nC => ?_⟩
        refine lc_it (walk_tup (K := K) (a := a) (xs := us)) (fun j H9 => H9 C = some (.lst (((t.take j).map fun r => decide ((r.length : Int) = w') && r.all (inside t.length)).map V.bl)) ∧ Same H H9)
          ⟨upd_same, Same.new (Same.refl H) nC⟩ (fun i H9 _ ⟨_, z⟩ => sqt_same z ha) ?_ ?_
        · rintro i v H9 H9' hi ⟨q1, q2⟩ ⟨rfl, hv⟩
          refine ⟨rfl, tYes_if ?_⟩
          have hi' : i < t.length := by rw [← lu]; exact hi
          obtain ⟨b, b1, b2, b3⟩ := hL.2 i t[i] (List.getElem?_eq_getElem hi')
          have ev : v = .ref b := Option.some.inj (hv.symm.trans b1)
          subst ev
          refine ⟨_, rfl, _, rfl, _, rfl, a, us, rfl, .inr (sqt_same q2 ha), b, t[i], w', (us.length : Int), rfl, sqt_same q2 b2, Nat.le_trans b3 (by decide), fun H3 s3 => ?_⟩
          rw [lu]
          refine ⟨_, s3 _ _ q1, ?_, ?_, fun b' o h => ?_⟩
          · rw [List.length_map, List.length_map, List.length_take]
            have l : sizeLine = 16777216 := sizeLine_eq
            omega
          · rw [upd_same, take_snoc (List.getElem?_eq_getElem hi'), List.map_append, List.map_append]
            rfl
          · rw [upd_ne (fun z => by rw [z, nC] at h; cases h)]
            exact s3 _ _ (q2 b' o h)
        · rintro H9 ⟨q1, q2⟩
          have et : t.take us.length = t := by
            rw [lu]
            exact List.take_length
          rw [et] at q1
          refine ⟨C, _, rfl, SqL.of q1, ?_⟩
          rw [List.all_map]
          exact k H9 q2
end
end M3

set_option Elab.async false
set_option linter.all false
set_option maxRecDepth 100000
set_option maxHeartbeats 8000000
/-! # Choices judged -/
namespace M3
open PySem L2
theorem walk_zT {K : PySem.W.Frag} {a b : Addr} {xs ys : List V} {n : Nat} (hn : n = min xs.length ys.length) :
    Walk (RZ.ItzT K a b) n (fun H => SqT K H a xs ∧ SqT K H b ys) (YPair (fun i => xs[i]?) (fun i => ys[i]?)) where
  goes := fun i H hi q => by
    have h1 : i < xs.length := by omega
    have h2 : i < ys.length := by omega
    refine ⟨xs, ys, _, _, q.1, q.2, List.getElem?_eq_getElem h1, List.getElem?_eq_getElem h2⟩
  stops := fun H q => by
    refine ⟨xs, ys, q.1, q.2, ?_⟩
    omega
  yields := fun i H v H' hi q y => by
    obtain ⟨T, c, e, h1, h2, h3, h4, h5⟩ := y
    exact ⟨T, c, e, h1, h2, h3, h4 xs q.1, h5 ys q.2⟩
def climbs (xs : List Int) : List Bool := (xs.zip (xs.drop 1)).map fun p => decide (p.1 < p.2)
def choiceOk (xs : List Int) (n : Int) : Bool := xs.all (inside n) && (climbs xs).all id
def spIsChoice (K : PySem.W.Frag) : Sp := fun vs H Q _ => ∃ (a : Addr) (xs : List Int) (n : Int), vs = [.ref a, .int n] ∧ SqT K H a (xs.map V.int) ∧ xs.length ≤ 1000000 ∧ ∀ H' : Hp, Same H H' → Q (.bl (choiceOk xs n)) H'
section
variable {P : Program} {w : World} {K : PySem.W.Frag} {mg : Str → Option Value} {base : Heap}
theorem ok_ischoice {f : Addr} {fd : FuncData} (F : Fun K "is_choice" "is_choice" sIsChoice f fd) (D : DefsW K mg) (W : TxW mg) (Zx : TxZ mg) : FnOk P w K mg base CX0 2 f fd ["value", "size"] (spIsChoice K) := by
  have GB : FnOk P w K mg base CX0 1 D.fB D.dB ["value", "low", "high"] (spBetween K) := ok_between D.B W
  refine F.ok scIsChoice (fun vs H Q E h => ?_) (fun cdv A outer s H vs Q E hr h => ?_)
  · obtain ⟨a, xs, n, rfl, _⟩ := h
    rfl
  · obtain ⟨a, xs, n, rfl, ha, hx, k⟩ := h
    refine ⟨_, pss_cons (ps_if (pt_not (pt_val (pe_callB call_isi (by rfl) W.isi (by decide +kernel) (pa_cons (pv 0) (pa_cons (pe_bltn (v := .ty "tuple") rfl W.tuple boot_tuple' rfl) pa_nil))))) (pss_one (ps_ret pe_bl)) pss_nil)
      (pss_cons (ps_if (pt_not (pt_val (pe_callB (cr_all rfl) (by rfl) W.all (by decide +kernel) (pa_cons (pe_lc (own := [("state", 2)]) (g := gName 2) (tt := tYes) rfl scIsChoice.nd (pi_tup (pv 0)) (blkOk_by (N := nIsChoice) (sc := defScope sIsChoice) (by decide +kernel)) (fun _ _ _ _ _ => pg_name (i := 2) scIsChoice.nd rfl (Or.inl rfl)) (fun _ _ _ _ _ => pts_nil)
        (fun _ _ _ _ _ => pe_call GB hr rfl D.mB D.B.kp D.bB .nil pass0 (pa_cons (pv 2) (pa_cons pe_int (pa_cons (pe_op op_sub (pv 1) pe_int) pa_nil))))) pa_nil)))) (pss_one (ps_ret pe_bl)) pss_nil)
      (pss_one (ps_ret (pe_callB (cr_all rfl) (by rfl) W.all (by decide +kernel) (pa_cons (pe_lc (own := [("low", 3), ("high", 4)]) (g := gTup K 2 (gCons (gName 3) (gCons (gName 4) gNil))) (tt := tYes) rfl scIsChoice.nd (RZ.pi_zipA rfl Zx.zip (pa_cons (pv 0) (pa_cons (pe_slice sl_tupA (pv 0) (po_some pe_int) po_none) pa_nil))) (blkOk_by (N := nIsChoice) (sc := defScope sIsChoice) (by decide +kernel))
        (fun _ _ _ _ _ => pg_tup rfl (pgs_cons (pg_name (i := 3) scIsChoice.nd rfl (Or.inl rfl)) (pgs_cons (pg_name (i := 4) scIsChoice.nd rfl (Or.inl rfl)) pgs_nil))) (fun _ _ _ _ _ => pts_nil) (fun _ _ _ _ _ => pe_cmpR op_lt (pv 3) (pv 4) (nomark _))) pa_nil))))), ?_⟩
    refine ⟨_, rfl, .ref a, .ty "tuple", _, .type "tuple", true, rfl, .ty _, ty_tup ha, kit_tup, _, rfl, ?_⟩
    refine iteF ?_
    refine ⟨_, rfl, a, rfl, ⟨_, ha⟩, fun C nC => ?_⟩
    refine lc_it (walk_tup (K := K) (a := a) (xs := xs.map V.int)) (fun j H9 => H9 C = some (.lst (((xs.take j).map (inside n)).map V.bl)) ∧ Same H H9)
      ⟨upd_same, Same.new (Same.refl H) nC⟩ (fun i H9 _ ⟨_, z⟩ => sqt_same z ha) ?_ ?_
    · rintro i v H9 H9' hi ⟨q1, q2⟩ ⟨rfl, hv⟩
      refine ⟨rfl, tYes_if ?_⟩
      rw [List.getElem?_map] at hv
      cases e : xs[i]? with
      | none =>
        rw [e] at hv
        cases hv
      | some y =>
        rw [e] at hv
        cases hv
        refine ⟨_, rfl, _, rfl, _, _, rfl, rfl, .int y, 0, n - 1, .type "int", false, true, rfl, .base (.int y), kit_int_bool, kit_int_int, (fun z => by cases z), (fun _ z => by cases z), fun _ _ => ⟨y, rfl, ?_⟩⟩
        refine ⟨_, q1, ?_, ?_, fun b o h => ?_⟩
        · rw [List.length_map, List.length_map, List.length_take]
          have l : sizeLine = 16777216 := sizeLine_eq
          omega
        · rw [upd_same, take_snoc e, List.map_append, List.map_append]
          rfl
        · rw [upd_ne (fun z => by rw [z, nC] at h; cases h)]
          exact q2 b o h
    · rintro H9 ⟨q1, q2⟩
      have et : xs.take (xs.map V.int).length = xs := by
        rw [List.length_map]
        exact List.take_length
      rw [et] at q1
      refine ⟨C, _, rfl, SqL.of q1, _, rfl, ?_⟩
      rw [List.all_map]
      unfold choiceOk at k
      have ea : xs.all (id ∘ inside n) = xs.all (inside n) := rfl
      rw [ea]
      cases h1 : xs.all (inside n) with
      | false =>
        rw [h1] at k
        exact iteT (k H9 q2)
      | true =>
        rw [h1] at k
        refine iteF ?_
        have ha9 := sqt_same q2 ha
        refine ⟨_, rfl, _, rfl, 1, rfl, a, _, rfl, ha9, ?_⟩
        have h1x : HT.sIx (xs.map V.int).length 0 (some 1) = min 1 xs.length := by
          have e : HT.sIx (xs.map V.int).length 0 (some ((1 : Nat) : Int)) = min 1 (xs.map V.int).length := HT.sIx_nat _ _ _
          rw [List.length_map] at e
          rw [List.length_map]
          exact e
        refine ⟨fun hw => ?_, fun hw p np => ?_⟩
        · have nil : xs = [] := by
            have := hw.1
            rw [h1x] at this
            exact List.eq_nil_of_length_eq_zero (by omega)
          have hd : (xs.drop 1).map V.int = xs.map V.int := by
            rw [nil]
            rfl
          refine ⟨a, a, xs.map V.int, (xs.drop 1).map V.int, rfl, .inr ⟨sqt_same q2 ha, (by rw [hd]; exact sqt_same q2 ha), fun G nG => ?_⟩⟩
          have sH : Same H H9 := q2
          have hz : SqT K H9 a ((xs.drop 1).map V.int) := (by rw [hd]; exact sqt_same q2 ha)
          generalize H9 = H10 at nG sH hz ⊢
          have lc : (climbs xs).length = min xs.length (xs.drop 1).length := by
            unfold climbs
            rw [List.length_map, List.length_zip]
          refine lc_it (walk_zT (K := K) (a := a) (b := a) (xs := xs.map V.int) (ys := (xs.drop 1).map V.int) (n := (climbs xs).length) (by rw [lc, List.length_map, List.length_map])) (fun j H9 => H9 G = some (.lst (((climbs xs).take j).map V.bl)) ∧ ∀ b o, b ≠ G → H10 b = some o → H9 b = some o)
            ⟨upd_same, fun b o hb h => keep_new h nG⟩ (fun i H9 _ ⟨_, z⟩ => ?_) ?_ ?_
          · have z' : ∀ c ys, SqT K H10 c ys → SqT K H9 c ys := fun c ys h => by
              rcases h with (h | ⟨o, h⟩) | h
              · exact .inl (.inl (z _ _ (fun e => by rw [e, nG] at h; cases h) h))
              · exact .inl (.inr ⟨o, z _ _ (fun e => by rw [e, nG] at h; cases h) h⟩)
              · exact .inr h
            exact ⟨z' _ _ (sqt_same sH ha), z' _ _ hz⟩
          · rintro i v H11 H12 hi ⟨p1, p2⟩ ⟨T', u1, u2, rfl, nT, rfl, hu1, hu2⟩
            refine ⟨T', _, rfl, SqT.of upd_same, rfl, _, _, rfl, _, _, rfl, rfl, rfl, tYes_if ?_⟩
            have hu1 : (xs.map V.int)[i]? = some u1 := hu1
            have hu2 : ((xs.drop 1).map V.int)[i]? = some u2 := hu2
            rw [List.getElem?_map] at hu1 hu2
            cases e1 : xs[i]? with
            | none =>
              rw [e1] at hu1
              cases hu1
            | some y1 =>
              cases e2 : (xs.drop 1)[i]? with
              | none =>
                rw [e2] at hu2
                cases hu2
              | some y2 =>
                rw [e1] at hu1
                rw [e2] at hu2
                cases hu1
                cases hu2
                have hu : (climbs xs)[i]? = some (decide (y1 < y2)) := by
                  unfold climbs
                  rw [List.getElem?_map, zip_at e1 e2]
                  rfl
                refine ⟨_, rfl, _, rfl, _, _, rfl, rfl, _, keep_new p1 nT, ?_, ?_, fun b' o hb' h => by rw [upd_ne hb']; exact keep_new (p2 b' o hb' h) nT⟩
                · rw [List.length_map, List.length_take]
                  have : (climbs xs).length ≤ xs.length := by rw [lc]; exact Nat.min_le_left _ _
                  have l : sizeLine = 16777216 := sizeLine_eq
                  omega
                · rw [upd_same, take_snoc hu, List.map_append]
                  rfl
          · rintro H11 ⟨p1, p2⟩
            rw [List.take_length] at p1
            exact ⟨G, _, rfl, SqL.of p1, k H11 fun b o h => p2 b o (fun z => by rw [z] at h; have := sH _ _ h; rw [nG] at this; cases this) (sH _ _ h)⟩
        · have hd : cutV (xs.map V.int) (some 1) none = (xs.drop 1).map V.int := by
            unfold cutV
            rw [h1x, HT.sIx_none, List.length_map, ← List.map_drop, ← List.map_take]
            by_cases h0 : xs.length = 0
            · rw [List.eq_nil_of_length_eq_zero h0]
              rfl
            · have m : min 1 xs.length = 1 := by omega
              rw [m, List.take_of_length_le (by rw [List.length_drop]; omega)]
          refine ⟨a, p, xs.map V.int, (xs.drop 1).map V.int, rfl, .inr ⟨sqt_same (Same.new q2 np) ha, (by rw [hd]; exact SqT.of upd_same), fun G nG => ?_⟩⟩
          have sH : Same H (upd H9 p (.tup (cutV (xs.map V.int) (some 1) none))) := (Same.new q2 np)
          have hz : SqT K (upd H9 p (.tup (cutV (xs.map V.int) (some 1) none))) p ((xs.drop 1).map V.int) := (by rw [hd]; exact SqT.of upd_same)
          generalize (upd H9 p (.tup (cutV (xs.map V.int) (some 1) none))) = H10 at nG sH hz ⊢
          have lc : (climbs xs).length = min xs.length (xs.drop 1).length := by
            unfold climbs
            rw [List.length_map, List.length_zip]
          refine lc_it (walk_zT (K := K) (a := a) (b := p) (xs := xs.map V.int) (ys := (xs.drop 1).map V.int) (n := (climbs xs).length) (by rw [lc, List.length_map, List.length_map])) (fun j H9 => H9 G = some (.lst (((climbs xs).take j).map V.bl)) ∧ ∀ b o, b ≠ G → H10 b = some o → H9 b = some o)
            ⟨upd_same, fun b o hb h => keep_new h nG⟩ (fun i H9 _ ⟨_, z⟩ => ?_) ?_ ?_
          · have z' : ∀ c ys, SqT K H10 c ys → SqT K H9 c ys := fun c ys h => by
              rcases h with (h | ⟨o, h⟩) | h
              · exact .inl (.inl (z _ _ (fun e => by rw [e, nG] at h; cases h) h))
              · exact .inl (.inr ⟨o, z _ _ (fun e => by rw [e, nG] at h; cases h) h⟩)
              · exact .inr h
            exact ⟨z' _ _ (sqt_same sH ha), z' _ _ hz⟩
          · rintro i v H11 H12 hi ⟨p1, p2⟩ ⟨T', u1, u2, rfl, nT, rfl, hu1, hu2⟩
            refine ⟨T', _, rfl, SqT.of upd_same, rfl, _, _, rfl, _, _, rfl, rfl, rfl, tYes_if ?_⟩
            have hu1 : (xs.map V.int)[i]? = some u1 := hu1
            have hu2 : ((xs.drop 1).map V.int)[i]? = some u2 := hu2
            rw [List.getElem?_map] at hu1 hu2
            cases e1 : xs[i]? with
            | none =>
              rw [e1] at hu1
              cases hu1
            | some y1 =>
              cases e2 : (xs.drop 1)[i]? with
              | none =>
                rw [e2] at hu2
                cases hu2
              | some y2 =>
                rw [e1] at hu1
                rw [e2] at hu2
                cases hu1
                cases hu2
                have hu : (climbs xs)[i]? = some (decide (y1 < y2)) := by
                  unfold climbs
                  rw [List.getElem?_map, zip_at e1 e2]
                  rfl
                refine ⟨_, rfl, _, rfl, _, _, rfl, rfl, _, keep_new p1 nT, ?_, ?_, fun b' o hb' h => by rw [upd_ne hb']; exact keep_new (p2 b' o hb' h) nT⟩
                · rw [List.length_map, List.length_take]
                  have : (climbs xs).length ≤ xs.length := by rw [lc]; exact Nat.min_le_left _ _
                  have l : sizeLine = 16777216 := sizeLine_eq
                  omega
                · rw [upd_same, take_snoc hu, List.map_append]
                  rfl
          · rintro H11 ⟨p1, p2⟩
            rw [List.take_length] at p1
            exact ⟨G, _, rfl, SqL.of p1, k H11 fun b o h => p2 b o (fun z => by rw [z] at h; have := sH _ _ h; rw [nG] at this; cases this) (sH _ _ h)⟩
end
end M3

set_option Elab.async false
set_option linter.all false
set_option maxRecDepth 100000
set_option maxHeartbeats 8000000
/-! # Leading words -/
namespace M3
open PySem L2
abbrev sLawLed : Stmt := top 75
abbrev sLed : Stmt := top 25
abbrev nLawLed : List Str := ["table", "letters", "word", "start", "place", "letter"]
abbrev nLed : List Str := ["table", "letters", "start", "word", "now", "letter"]
theorem scLawLed : FnScope nLawLed ["table", "letters", "word", "start"] (defScope sLawLed) := ⟨rfl, rfl, rfl, by decide +kernel, rfl, by decide +kernel, by decide +kernel⟩
theorem scLed : FnScope nLed ["table", "letters", "start", "word"] (defScope sLed) := ⟨rfl, rfl, rfl, by decide +kernel, rfl, by decide +kernel, by decide +kernel⟩
/-- tuples of numbers stand at these addresses -/
def Tups (K : PySem.W.Frag) (H : Hp) (us : List V) (t : List (List Nat)) : Prop := us.length = t.length ∧ ∀ (i : Nat) (r : List Nat), t[i]? = some r → ∃ b : Addr, us[i]? = some (V.ref b) ∧ SqT K H b (nts r)
def step (t : List (List Nat)) (x : Str) (q c : Nat) : Nat := (t.getD q []).getD (x.cps.toList.idxOf c) 0
/-- to which state a word leads -/
def goes (t : List (List Nat)) (x : Str) (q : Nat) (cs : List Nat) : Nat := cs.foldl (step t x) q
theorem step_lt {t : List (List Nat)} {x : Str} {n m : Nat} (h : IsTab t n m) (hm : x.cps.toList.length = m) {q c : Nat} (hq : q < n) (hc : c ∈ x.cps.toList) : step t x q c < n := by
  obtain ⟨h1, h2⟩ := h
  have hq' : q < t.length := by omega
  obtain ⟨l1, l2⟩ := h2 t[q] (List.getElem_mem hq')
  have hi : x.cps.toList.idxOf c < t[q].length := by
    rw [l1, ← hm]
    exact List.idxOf_lt_length_of_mem hc
  unfold step
  have e : t.getD q [] = t[q] := by simp [List.getD, List.getElem?_eq_getElem hq']
  rw [e]
  have e2 : t[q].getD (x.cps.toList.idxOf c) 0 = t[q][x.cps.toList.idxOf c] := by simp [List.getD, List.getElem?_eq_getElem hi]
  rw [e2]
  exact l2 _ (List.getElem_mem hi)
theorem goes_lt {t : List (List Nat)} {x : Str} {n m : Nat} (h : IsTab t n m) (hm : x.cps.toList.length = m) : ∀ (cs : List Nat) (q : Nat), q < n → (∀ c ∈ cs, c ∈ x.cps.toList) → goes t x q cs < n
  | [], _, hq, _ => hq
  | c :: cs, q, hq, hc => goes_lt h hm cs (step t x q c) (step_lt h hm hq (hc c List.mem_cons_self)) fun d hd => hc d (List.mem_cons_of_mem _ hd)
theorem occ1 : ∀ a ∈ six, Builtin.Str.occurrences ⟨#[a]⟩ ⟨#[a]⟩ 0 1 1 = [0] := by decide +kernel
theorem occ2 : ∀ a ∈ six, ∀ b ∈ six, a < b → Builtin.Str.occurrences ⟨#[a, b]⟩ ⟨#[a]⟩ 0 2 1 = [0] ∧ Builtin.Str.occurrences ⟨#[a, b]⟩ ⟨#[b]⟩ 0 2 1 = [1] := by decide +kernel
theorem set_occ {x : Str} {n c : Nat} (h : IsSet x n) (h2 : n ≤ 2) (hc : c ∈ x.cps.toList) : Builtin.Str.occurrences x ⟨#[c]⟩ 0 x.length 1 = [x.cps.toList.idxOf c] := by
  obtain ⟨cs, rfl, hl, hp, hm⟩ := h
  match cs, hl, hp, hm with
  | [], _, _, _ => cases hc
  | [a], _, _, hm =>
    have e : c = a := List.mem_singleton.mp hc
    subst e
    have ei : List.idxOf c [c] = 0 := by simp
    show Builtin.Str.occurrences ⟨#[c]⟩ ⟨#[c]⟩ 0 1 1 = [List.idxOf c [c]]
    rw [ei]
    exact occ1 c (hm c List.mem_cons_self)
  | [a, b], _, hp, hm =>
    have lt : a < b := by simpa using hp
    obtain ⟨o1, o2⟩ := occ2 a (hm a List.mem_cons_self) b (hm b (List.mem_cons_of_mem _ List.mem_cons_self)) lt
    rcases List.mem_cons.mp hc with e | e
    · subst e
      have ei : List.idxOf c [c, b] = 0 := by simp
      show Builtin.Str.occurrences ⟨#[c, b]⟩ ⟨#[c]⟩ 0 2 1 = [List.idxOf c [c, b]]
      rw [ei]
      exact o1
    · have e : c = b := List.mem_singleton.mp e
      subst e
      have ei : List.idxOf c [a, c] = 1 := by
        have nb : (a == c) = false := beq_eq_false_iff_ne.mpr (by omega)
        simp [List.idxOf_cons, nb]
      show Builtin.Str.occurrences ⟨#[a, c]⟩ ⟨#[c]⟩ 0 2 1 = [List.idxOf c [a, c]]
      rw [ei]
      exact o2
  | _ :: _ :: _ :: l, hl, _, _ =>
    have hl : l.length + 3 = n := hl
    omega
def spLawLed (K : PySem.W.Frag) : Sp := fun vs H Q _ => ∃ (a : Addr) (x y : Str) (q n m : Nat) (t : List (List Nat)) (us : List V), vs = [.ref a, .str x, .str y, .int q] ∧ SqL K H a us ∧ Tups K H us t ∧ IsTab t n m ∧ IsSet x m ∧ m ≤ 2 ∧ IsW x y ∧ q < n ∧
  Q (.int (goes t x q y.cps.toList : Nat)) H
def spLed (K : PySem.W.Frag) : Sp := fun vs H Q _ => ∃ (a : Addr) (x y : Str) (q n m : Nat) (t : List (List Nat)) (us : List V), vs = [.ref a, .str x, .int q, .str y] ∧ SqT K H a us ∧ Tups K H us t ∧ IsTab t n m ∧ IsSet x m ∧ m ≤ 2 ∧ IsW x y ∧ q < n ∧
  Q (.int (goes t x q y.cps.toList : Nat)) H
theorem goes_snoc {t : List (List Nat)} {x : Str} {q c : Nat} {cs : List Nat} : goes t x q (cs ++ [c]) = step t x (goes t x q cs) c := by
  unfold goes
  rw [List.foldl_append]
  rfl
section
variable {P : Program} {w : World} {K : PySem.W.Frag} {mg : Str → Option Value} {base : Heap}
theorem ok_lawled {f : Addr} {fd : FuncData} (F : Fun K "_law_led" "_law_led" sLawLed f fd) : FnOk P w K mg base CX0 1 f fd ["table", "letters", "word", "start"] (spLawLed K) := by
  refine F.ok scLawLed (fun vs H Q E h => ?_) (fun cdv A outer s H vs Q E hr h => ?_)
  · obtain ⟨a, x, y, q, n, m, t, us, rfl, _⟩ := h
    rfl
  · obtain ⟨a, x, y, q, n, m, t, us, rfl, ha, hT, tab, st, m2, hw, hq, k⟩ := h
    refine ⟨_, pss_cons (ps_set (i := 4) scLawLed.nd rfl (Or.inl rfl) (pv 3))
      (pss_cons (ps_for PassesOwn.never rfl (pi_str (pv 2)) (pg_name (i := 5) scLawLed.nd rfl (Or.inl rfl))
        (pss_one (ps_set (i := 4) scLawLed.nd rfl (Or.inl rfl) (pe_ix ix_tup (pe_ix ix_list (pv 0) (pv 4) (fun _ _ => rfl)) (pe_bm PySem.F.plainAttrs_str PySem.F.slot_str_index PySem.F.type_str_index mt_sindex (pv 1) (pa_cons (pv 5) pa_nil)) (fun _ _ => rfl)))))
      (pss_one (ps_ret (pv 4)))), ?_⟩
    have hm : x.cps.toList.length = m := by
      obtain ⟨cs, e, hl, _⟩ := st
      rw [e]
      simpa using hl
    refine ⟨_, rfl, _, rfl, y, rfl, for_it walk_str (fun i σ H' => H' = H ∧ ∃ l : Option V, σ = [some (.ref a), some (.str x), some (.str y), some (.int q), some (.int ((goes t x q (y.cps.toList.take i) : Nat) : Int)), l]) ⟨rfl, none, rfl⟩ (fun _ _ _ _ _ => trivial) ?_ ?_⟩
    · rintro i v σ H1 H2 hi ⟨rfl, l, rfl⟩ ⟨rfl, c, hc, rfl⟩
      have hc' : y.cps.toList[i]? = some c := by simpa using hc
      have cx : c ∈ x.cps.toList := hw c (List.mem_of_getElem? hc')
      have hq2 : goes t x q (y.cps.toList.take i) < n := goes_lt tab hm _ _ hq fun d hd => hw d (List.mem_of_mem_take hd)
      have eg : goes t x q (y.cps.toList.take (i + 1)) = step t x (goes t x q (y.cps.toList.take i)) c := by
        rw [take_snoc hc', goes_snoc]
      generalize goes t x q (y.cps.toList.take i) = p at hq2 eg ⊢
      have hp : p < t.length := by rw [tab.1]; exact hq2
      obtain ⟨b, b1, b2⟩ := hT.2 p t[p] (List.getElem?_eq_getElem hp)
      have hi2 : x.cps.toList.idxOf c < t[p].length := by
        rw [(tab.2 t[p] (List.getElem_mem hp)).1, ← hm]
        exact List.idxOf_lt_length_of_mem cx
      refine ⟨_, rfl, _, rfl, a, us, (p : Int), .ref b, rfl, rfl, ha, atI_nat b1, ?_⟩
      have es : step t x p c = t[p].getD (x.cps.toList.idxOf c) 0 := by
        unfold step
        have e : t.getD p [] = t[p] := by simp [List.getD, List.getElem?_eq_getElem hp]
        rw [e]
      rw [es] at eg
      refine ⟨_, rfl, rfl, _, rfl, x, ⟨#[c]⟩, x.cps.toList.idxOf c, [], rfl, rfl, set_occ st m2 cx, b, nts t[p], _, _, rfl, rfl, b2, nts_at hi2, ?_⟩
      rw [eg]
      exact ⟨rfl, some (.str ⟨#[c]⟩), rfl⟩
    · rintro σ H1 ⟨rfl, l, rfl⟩
      refine ⟨_, rfl, ?_⟩
      have et : y.cps.toList.take y.cps.size = y.cps.toList := List.take_of_length_le (by simp)
      rw [et]
      exact k
theorem ok_led {f : Addr} {fd : FuncData} (F : Fun K "led" "led" sLed f fd) : FnOk P w K mg base CX0 1 f fd ["table", "letters", "start", "word"] (spLed K) := by
  refine F.ok scLed (fun vs H Q E h => ?_) (fun cdv A outer s H vs Q E hr h => ?_)
  · obtain ⟨a, x, y, q, n, m, t, us, rfl, _⟩ := h
    rfl
  · obtain ⟨a, x, y, q, n, m, t, us, rfl, ha, hT, tab, st, m2, hw, hq, k⟩ := h
    refine ⟨_, pss_cons (ps_set (i := 4) scLed.nd rfl (Or.inl rfl) (pv 2))
      (pss_cons (ps_for PassesOwn.never rfl (pi_str (pv 3)) (pg_name (i := 5) scLed.nd rfl (Or.inl rfl))
        (pss_one (ps_set (i := 4) scLed.nd rfl (Or.inl rfl) (pe_ix ix_tup (pe_ix ix_tup (pv 0) (pv 4) (fun _ _ => rfl)) (pe_bm PySem.F.plainAttrs_str PySem.F.slot_str_index PySem.F.type_str_index mt_sindex (pv 1) (pa_cons (pv 5) pa_nil)) (fun _ _ => rfl)))))
      (pss_one (ps_ret (pv 4)))), ?_⟩
    have hm : x.cps.toList.length = m := by
      obtain ⟨cs, e, hl, _⟩ := st
      rw [e]
      simpa using hl
    refine ⟨_, rfl, _, rfl, y, rfl, for_it walk_str (fun i σ H' => H' = H ∧ ∃ l : Option V, σ = [some (.ref a), some (.str x), some (.int q), some (.str y), some (.int ((goes t x q (y.cps.toList.take i) : Nat) : Int)), l]) ⟨rfl, none, rfl⟩ (fun _ _ _ _ _ => trivial) ?_ ?_⟩
    · rintro i v σ H1 H2 hi ⟨rfl, l, rfl⟩ ⟨rfl, c, hc, rfl⟩
      have hc' : y.cps.toList[i]? = some c := by simpa using hc
      have cx : c ∈ x.cps.toList := hw c (List.mem_of_getElem? hc')
      have hq2 : goes t x q (y.cps.toList.take i) < n := goes_lt tab hm _ _ hq fun d hd => hw d (List.mem_of_mem_take hd)
      have eg : goes t x q (y.cps.toList.take (i + 1)) = step t x (goes t x q (y.cps.toList.take i)) c := by
        rw [take_snoc hc', goes_snoc]
      generalize goes t x q (y.cps.toList.take i) = p at hq2 eg ⊢
      have hp : p < t.length := by rw [tab.1]; exact hq2
      obtain ⟨b, b1, b2⟩ := hT.2 p t[p] (List.getElem?_eq_getElem hp)
      have hi2 : x.cps.toList.idxOf c < t[p].length := by
        rw [(tab.2 t[p] (List.getElem_mem hp)).1, ← hm]
        exact List.idxOf_lt_length_of_mem cx
      refine ⟨_, rfl, _, rfl, a, us, (p : Int), .ref b, rfl, rfl, ha, atI_nat b1, ?_⟩
      have es : step t x p c = t[p].getD (x.cps.toList.idxOf c) 0 := by
        unfold step
        have e : t.getD p [] = t[p] := by simp [List.getD, List.getElem?_eq_getElem hp]
        rw [e]
      rw [es] at eg
      refine ⟨_, rfl, rfl, _, rfl, x, ⟨#[c]⟩, x.cps.toList.idxOf c, [], rfl, rfl, set_occ st m2 cx, b, nts t[p], _, _, rfl, rfl, b2, nts_at hi2, ?_⟩
      rw [eg]
      exact ⟨rfl, some (.str ⟨#[c]⟩), rfl⟩
    · rintro σ H1 ⟨rfl, l, rfl⟩
      refine ⟨_, rfl, ?_⟩
      have et : y.cps.toList.take y.cps.size = y.cps.toList := List.take_of_length_le (by simp)
      rw [et]
      exact k
end
end M3

set_option Elab.async false
set_option linter.all false
set_option maxRecDepth 100000
set_option maxHeartbeats 8000000
/-! # Machines made -/
namespace M3
open PySem L2
abbrev sInit : Stmt := inClass (top 43) 0
abbrev nInit : List Str := ["self", "letters", "table", "ends"]
theorem scInit : FnScope nInit nInit (defScope sInit) := ⟨rfl, rfl, rfl, by decide +kernel, rfl, by decide +kernel, by decide +kernel⟩
/-- the attributes of a machine, in the order in which they are stored -/
def flds (x : Str) (a b : Addr) : List (Str × V) := putF "_ends" (.ref b) (putF "_table" (.ref a) (putF "_letters" (.str x) []))
/-- the class InvalidMachine, raised -/
structure TxE (K : PySem.W.Frag) (mg : Str → Option Value) (c : Addr) : Prop where
  x : PySem.W.excIn K c [.type "ValueError", .type "Exception", .type "BaseException", .type "object"] "ValueError.__new__" = true
  g : mg "InvalidMachine" = some (.ref c)
  k : PySem.W.keepIn K (.ref c) = true
  b : PySem.W.subIn K (.ref c) (.type "BaseException") = some true
  t : PySem.W.typeIn K (.ref c) = some (.type "type")
structure TxK (K : PySem.W.Frag) (mg : Str → Option Value) (C : Addr) : Prop where
  cl : Cls K C
  nL : NoAttr K C "_letters"
  nT : NoAttr K C "_table"
  nE : NoAttr K C "_ends"
  mS : ∃ t, mg "MAX_STATES" = some (.int 4 t)
theorem set_let1 : ∀ a ∈ six, isLet ⟨#[a]⟩ = true := by decide +kernel
theorem set_let2 : ∀ a ∈ six, ∀ b ∈ six, a < b → isLet ⟨#[a, b]⟩ = true := by decide +kernel
theorem set_let {x : Str} {n : Nat} (h : IsSet x n) (h1 : 1 ≤ n) (h2 : n ≤ 2) : isLet x = true := by
  obtain ⟨cs, rfl, hl, hp, hm⟩ := h
  match cs, hl, hp, hm with
  | [], hl, _, _ =>
    have hl : 0 = n := hl
    omega
  | [a], _, _, hm => exact set_let1 a (hm a List.mem_cons_self)
  | [a, b], _, hp, hm => exact set_let2 a (hm a List.mem_cons_self) b (hm b (List.mem_cons_of_mem _ List.mem_cons_self)) (by simpa using hp)
  | _ :: _ :: _ :: l, hl, _, _ =>
    have hl : l.length + 3 = n := hl
    omega
def asInt (t : List (List Nat)) : List (List Int) := t.map fun r => r.map Int.ofNat
theorem inside_nat {n i : Nat} (h : i < n) : inside n (Int.ofNat i) = true := by
  unfold inside
  have a : (0 : Int) ≤ Int.ofNat i := Int.natCast_nonneg i
  have b : Int.ofNat i ≤ (n : Int) - 1 := by
    show ((i : Nat) : Int) ≤ (n : Int) - 1
    omega
  rw [decide_eq_true a, decide_eq_true b]
  rfl
theorem tab_ok {t : List (List Nat)} {n m : Nat} (h : IsTab t n m) (h1 : 1 ≤ n) (h4 : n ≤ 4) : tabOk (asInt t) (m : Int) 4 = true := by
  obtain ⟨e, h⟩ := h
  have le : (asInt t).length = n := by
    unfold asInt
    rw [List.length_map, e]
  unfold tabOk
  rw [le, decide_eq_true (show (1 : Int) ≤ (n : Int) by omega), decide_eq_true (show (n : Int) ≤ 4 by omega)]
  have q : ((asInt t).all fun r => decide ((r.length : Int) = (m : Int)) && r.all (inside (n : Int))) = true := by
    rw [List.all_eq_true]
    intro r hr
    unfold asInt at hr
    obtain ⟨r0, hr0, rfl⟩ := List.mem_map.mp hr
    obtain ⟨l1, l2⟩ := h r0 hr0
    rw [List.length_map, l1, decide_eq_true rfl, Bool.true_and, List.all_eq_true]
    intro i hi
    obtain ⟨j, hj, rfl⟩ := List.mem_map.mp hi
    exact inside_nat (l2 j hj)
  rw [q]
  rfl
theorem climbs_up : ∀ es : List Nat, es.Pairwise (· < ·) → (climbs (es.map Int.ofNat)).all id = true
  | [], _ => rfl
  | [_], _ => rfl
  | a :: b :: l, h => by
    have h' := List.pairwise_cons.mp h
    have ih := climbs_up (b :: l) h'.2
    have lt : (a : Int) < (b : Int) := by
      have := h'.1 b List.mem_cons_self
      omega
    show (decide ((a : Int) < (b : Int)) && (climbs ((b :: l).map Int.ofNat)).all id) = true
    rw [decide_eq_true lt, ih]
    rfl
theorem choice_ok {es : List Nat} {n : Nat} (h : es.Pairwise (· < ·)) (hl : ∀ e ∈ es, e < n) : choiceOk (es.map Int.ofNat) (n : Int) = true := by
  unfold choiceOk
  rw [climbs_up es h, Bool.and_true, List.all_eq_true]
  intro i hi
  obtain ⟨j, hj, rfl⟩ := List.mem_map.mp hi
  exact inside_nat (hl j hj)
theorem tups_lines {K : PySem.W.Frag} {H : Hp} {us : List V} {t : List (List Nat)} {n m : Nat} (h : Tups K H us t) (tb : IsTab t n m) (hm : m ≤ 1000) : Lines K H us (asInt t) := by
  refine ⟨by unfold asInt; rw [List.length_map]; exact h.1, fun i r e => ?_⟩
  unfold asInt at e
  rw [List.getElem?_map] at e
  cases e0 : t[i]? with
  | none =>
    rw [e0] at e
    cases e
  | some r0 =>
    rw [e0] at e
    cases e
    obtain ⟨b, b1, b2⟩ := h.2 i r0 e0
    refine ⟨b, b1, by rw [← nts_eq']; exact b2, ?_⟩
    rw [List.length_map, (tb.2 r0 (List.mem_of_getElem? e0)).1]
    exact hm
end M3

set_option Elab.async false
set_option linter.all false
set_option maxRecDepth 100000
set_option maxHeartbeats 8000000
/-! # Machine.__init__ -/
namespace M3
open PySem L2
/-- the facts of the defs of tables -/
structure DefsT (K : PySem.W.Frag) (mg : Str → Option Value) where
  (fL fT fN fC : Addr)
  (dL dT dN dC : FuncData)
  L : Fun K "is_letters" "is_letters" sIsLetters fL dL
  bL : Binds K dL ["value"] []
  mL : mg "is_letters" = some (.ref fL)
  T : Fun K "is_table" "is_table" sIsTable fT dT
  bT : Binds K dT ["value", "width", "most"] []
  mT : mg "is_table" = some (.ref fT)
  N : Fun K "is_line" "is_line" sIsLine fN dN
  bN : Binds K dN ["value", "width", "size"] []
  mN : mg "is_line" = some (.ref fN)
  C : Fun K "is_choice" "is_choice" sIsChoice fC dC
  bC : Binds K dC ["value", "size"] []
  mC : mg "is_choice" = some (.ref fC)
def spInit (K : PySem.W.Frag) (C : Addr) : Sp := fun vs H Q _ => ∃ (p dx a b : Addr) (x : Str) (us : List V) (t : List (List Nat)) (es : List Nat) (n m : Nat), vs = [.ref p, .str x, .ref a, .ref b] ∧ H p = some (.ins C dx []) ∧
  IsSet x m ∧ 1 ≤ m ∧ m ≤ 2 ∧ SqT K H a us ∧ Tups K H us t ∧ IsTab t n m ∧ 1 ≤ n ∧ n ≤ 4 ∧ SqT K H b (nts es) ∧ es.Pairwise (· < ·) ∧ (∀ e ∈ es, e < n) ∧
  ∀ H' : Hp, H' p = some (.ins C dx (flds x a b)) → (∀ c o, c ≠ p → H c = some o → H' c = some o) → Q .non H'
section
variable {P : Program} {w : World} {K : PySem.W.Frag} {mg : Str → Option Value} {base : Heap}
theorem kit_str : PySem.W.kitOne K (.type "str") (.type "str") = some true := kit_ty (by decide +kernel)
theorem set_len {x : Str} {m : Nat} (h : IsSet x m) : x.length = m := by
  obtain ⟨cs, rfl, hl, _⟩ := h
  simpa [Str.length] using hl
theorem asc_len {es : List Nat} : ∀ {n : Nat}, es.Pairwise (· < ·) → (∀ e ∈ es, e < n) → es.length ≤ n := by
  induction es with
  | nil => intro n _ _; exact Nat.zero_le _
  | cons a l ih =>
    intro n hp hl
    have hp' := List.pairwise_cons.mp hp
    have ha := hl a List.mem_cons_self
    have hm : ∀ (k : Nat) (l : List Nat), l.Pairwise (· < ·) → (∀ e ∈ l, k < e) → (∀ e ∈ l, e < n) → k < n → l.length + k + 1 ≤ n := by
      intro k l
      induction l generalizing k with
      | nil => intro _ _ _ h; simp; omega
      | cons b l ih2 =>
        intro q1 q2 q3 q4
        have q1' := List.pairwise_cons.mp q1
        have := ih2 b q1'.2 q1'.1 (fun e he => q3 e (List.mem_cons_of_mem _ he)) (q3 b List.mem_cons_self)
        have kb := q2 b List.mem_cons_self
        simp
        omega
    have := hm a l hp'.2 hp'.1 (fun e he => hl e (List.mem_cons_of_mem _ he)) ha
    simp
    omega
theorem ok_init {f C c : Addr} {fd : FuncData} (F : C8.Fun K "__init__" "Machine.__init__" sInit f fd) (D : DefsT K mg) (DW : DefsW K mg) (W : TxW mg) (Zx : TxZ mg) (TE : TxE K mg c) (TK : TxK K mg C) : FnOk P w K mg base CX0 4 f fd nInit (spInit K C) := by
  have GL : FnOk P w K mg base CX0 3 D.fL D.dL ["value"] (spIsLetters K) := ok_isletters D.L DW W Zx
  have GT : FnOk P w K mg base CX0 3 D.fT D.dT ["value", "width", "most"] (spIsTable K) := ok_istable D.T D.N D.bN D.mN DW W Zx
  have GC : FnOk P w K mg base CX0 2 D.fC D.dC ["value", "size"] (spIsChoice K) := ok_ischoice D.C DW W Zx
  obtain ⟨ts, ms⟩ := TK.mS
  refine C8.fn0 F scInit (fun vs H Q E h => ?_) (fun cdv A outer s H vs Q E hr h => ?_)
  · obtain ⟨p, dx, a, b, x, us, t, es, n, m, rfl, _⟩ := h
    rfl
  · obtain ⟨p, dx, a, b, x, us, t, es, n, m, rfl, hp, hx, m1, m2, ha, hT, tb, n1, n4, hb, up, lt, k⟩ := h
    have hr2 : Room 2 _ := hr.mono (by decide)
    refine ⟨_, pss_cons (ps_if (pt_not (pt_val (pe_call GL hr rfl D.mL D.L.kp D.bL .nil pass0 (pa_cons (pv 1) pa_nil)))) (pss_one (ps_raise rfl takes0 (pmk_own PySem.F.excBase_ValueError TE.x TE.g TE.k (raises_own TE.b TE.t) rfl))) pss_nil)
      (pss_cons (ps_if (pt_not (pt_val (pe_call GT hr rfl D.mT D.T.kp D.bT .nil pass0 (pa_cons (pv 2) (pa_cons (pe_callB call_len_str (by rfl) Zx.len PySem.boot_len (pa_cons (pv 1) pa_nil)) (pa_cons (pe_glob (v := .int 4) rfl ms ⟨_, rfl⟩) pa_nil)))))) (pss_one (ps_raise rfl takes0 (pmk_own PySem.F.excBase_ValueError TE.x TE.g TE.k (raises_own TE.b TE.t) rfl))) pss_nil)
      (pss_cons (ps_if (pt_not (pt_val (pe_call GC hr2 rfl D.mC D.C.kp D.bC .nil pass0 (pa_cons (pv 3) (pa_cons (pe_callB call_len_seq (by rfl) Zx.len PySem.boot_len (pa_cons (pv 2) pa_nil)) pa_nil))))) (pss_one (ps_raise rfl takes0 (pmk_own PySem.F.excBase_ValueError TE.x TE.g TE.k (raises_own TE.b TE.t) rfl))) pss_nil)
      (pss_cons (ps_fld (pv 0) (pv 1) rfl) (pss_cons (ps_fld (pv 0) (pv 2) rfl) (pss_one (ps_fld (pv 0) (pv 3) rfl)))))), ?_⟩
    have lx := set_len hx
    refine ⟨_, rfl, .str x, .type "str", true, rfl, .base (.str x), kit_str, (fun z => by cases z), fun _ => ⟨x, rfl, by omega, fun H1 s1 => ⟨_, rfl, ?_⟩⟩⟩
    rw [set_let hx m1 m2]
    refine iteF ?_
    refine ⟨_, rfl, _, rfl, x, rfl, Nat.le_trans (show x.length ≤ 2 by omega) (by decide), a, us, asInt t, (x.length : Int), 4, rfl, sqt_same s1 ha, (tups_lines hT tb (by omega)).same s1, ?_, fun H2 s2 => ⟨_, rfl, ?_⟩⟩
    · unfold asInt
      rw [List.length_map, tb.1]
      omega
    rw [lx, tab_ok tb n1 n4]
    refine iteF ?_
    have s12 := s1.trans s2
    have lu : us.length = n := by rw [hT.1, tb.1]
    refine ⟨_, rfl, _, rfl, a, us, rfl, .inr (sqt_same s12 ha), b, es.map Int.ofNat, (us.length : Int), rfl, by rw [← nts_eq']; exact sqt_same s12 hb, ?_, fun H3 s3 => ⟨_, rfl, ?_⟩⟩
    · rw [List.length_map]
      have := asc_len up lt
      omega
    rw [lu, choice_ok up lt]
    refine iteF ?_
    have s13 := s12.trans s3
    have hp3 := s13 _ _ hp
    refine ⟨_, rfl, _, rfl, p, C, dx, [], rfl, hp3, TK.cl, TK.nL, (by show 0 < 1000; decide), ?_⟩
    refine ⟨_, rfl, _, rfl, p, C, dx, _, rfl, upd_same, TK.cl, TK.nT, (by show 1 < 1000; decide), ?_⟩
    refine ⟨_, rfl, _, rfl, p, C, dx, _, rfl, upd_same, TK.cl, TK.nE, (by show 2 < 1000; decide), ?_⟩
    refine k _ upd_same fun c' o hc h => ?_
    rw [upd_ne hc, upd_ne hc, upd_ne hc]
    exact s13 _ _ h
end
end M3

set_option Elab.async false
set_option linter.all false
set_option maxRecDepth 100000
set_option maxHeartbeats 8000000
/-! # A plain machine made one -/
namespace M3
open PySem L2
/-- a machine stands at p: letters x, table t, ends es -/
structure Mach (K : PySem.W.Frag) (C : Addr) (H : Hp) (p : Addr) (x : Str) (t : List (List Nat)) (es : List Nat) : Prop where
  ex : ∃ (dx a b : Addr) (us : List V), H p = some (.ins C dx (flds x a b)) ∧ SqT K H a us ∧ Tups K H us t ∧ SqT K H b (nts es)
/-- tuples that stand as such -/
theorem tups_of {K : PySem.W.Frag} {d C : Addr} {H : Hp} {us : List V} {t : List (List Nat)} (h : RowsT d C H us t) : Tups K H us t := ⟨h.1, fun i r e => by
  obtain ⟨b, b1, _, _, b4⟩ := h.2 i r e
  exact ⟨b, b1, SqT.of b4⟩⟩
theorem Tups.same {K : PySem.W.Frag} {H H' : Hp} {us : List V} {t : List (List Nat)} (h : Tups K H us t) (s : Same H H') : Tups K H' us t := ⟨h.1, fun i r e => by
  obtain ⟨b, b1, b2⟩ := h.2 i r e
  exact ⟨b, b1, sqt_same s b2⟩⟩
theorem Mach.same {K : PySem.W.Frag} {C p : Addr} {H H' : Hp} {x : Str} {t : List (List Nat)} {es : List Nat} (h : Mach K C H p x t es) (s : Same H H') : Mach K C H' p x t es := by
  obtain ⟨dx, a, b, us, h1, h2, h3, h4⟩ := h
  exact ⟨dx, a, b, us, s _ _ h1, sqt_same s h2, h3.same s, sqt_same s h4⟩
abbrev plainK (x : V) (a b : V) : List (Key × V) := [(.inr "letters", x), (.inr "table", a), (.inr "ends", b)]
theorem plain_l {x a b : V} : valV (plainK x a b) (.inr "letters") = some x := by rfl
theorem plain_t {x a b : V} : valV (plainK x a b) (.inr "table") = some a := by rfl
theorem plain_e {x a b : V} : valV (plainK x a b) (.inr "ends") = some b := by rfl
theorem get_l {H : Hp} {p : Addr} {x a b : V} (h : H p = some (.dK (plainK x a b))) : DGet H p (.str "letters") (some x) := by
  have g := DGet.k (k := .inr "letters") h
  rw [plain_l] at g
  exact g
theorem get_t {H : Hp} {p : Addr} {x a b : V} (h : H p = some (.dK (plainK x a b))) : DGet H p (.str "table") (some a) := by
  have g := DGet.k (k := .inr "table") h
  rw [plain_t] at g
  exact g
theorem get_e {H : Hp} {p : Addr} {x a b : V} (h : H p = some (.dK (plainK x a b))) : DGet H p (.str "ends") (some b) := by
  have g := DGet.k (k := .inr "ends") h
  rw [plain_e] at g
  exact g
section
variable {P : Program} {w : World} {K : PySem.W.Frag} {mg : Str → Option Value} {base : Heap}
end
end M3

set_option Elab.async false
set_option linter.all false
set_option maxRecDepth 100000
set_option maxHeartbeats 8000000
/-! # Numbers in lists -/
namespace M3
open PySem L2
theorem inV_nts (q : Nat) : ∀ es : List Nat, inV (.int q) (nts es) = decide (q ∈ es)
  | [] => by rfl
  | e :: es => by
    have ih := inV_nts q es
    show (((e : Int) == (q : Int)) || inV (.int q) (nts es)) = decide (q ∈ e :: es)
    rw [ih]
    by_cases h : q = e
    · subst h
      simp
    · have a : ((e : Int) == (q : Int)) = false := beq_eq_false_iff_ne.mpr (by omega)
      rw [a, Bool.false_or]
      by_cases hm : q ∈ es
      · rw [decide_eq_true hm, decide_eq_true (List.mem_cons_of_mem _ hm)]
      · rw [decide_eq_false hm, decide_eq_false (fun z => by
          rcases List.mem_cons.mp z with z | z
          · exact h z
          · exact hm z)]
theorem flat_nts : ∀ es : List Nat, (nts es).all flatV = true
  | [] => by rfl
  | _ :: es => by
    have ih := flat_nts es
    show (true && (nts es).all flatV) = true
    rw [ih]
    rfl
end M3

set_option Elab.async false
set_option linter.all false
set_option maxRecDepth 100000
set_option maxHeartbeats 8000000
/-! # Words repeated -/
namespace M3
open PySem L2
/-- the state behind k turns of the word -/
def iter (t : List (List Nat)) (x y : Str) (q0 : Nat) : Nat → Nat
  | 0 => q0
  | k + 1 => goes t x (iter t x y q0 k) y.cps.toList
theorem iter_lt {t : List (List Nat)} {x y : Str} {q0 : Nat} {m : Nat} (tb : IsTab t t.length m) (hm : x.cps.toList.length = m) (t1 : q0 < t.length) (hw : IsW x y) : ∀ k, iter t x y q0 k < t.length
  | 0 => t1
  | k + 1 => goes_lt tb hm _ _ (iter_lt tb hm t1 hw k) hw
theorem iter_shift {t : List (List Nat)} {x y : Str} {q0 : Nat} {i c : Nat} (h : iter t x y q0 (i + c) = iter t x y q0 i) : ∀ k, i ≤ k → iter t x y q0 (k + c) = iter t x y q0 k := by
  intro k hk
  obtain ⟨r, rfl⟩ := Nat.exists_eq_add_of_le hk
  induction r with
  | zero => exact h
  | succ r ih =>
    have e : i + (r + 1) + c = (i + r + c) + 1 := by omega
    rw [e]
    show goes t x (iter t x y q0 (i + r + c)) y.cps.toList = goes t x (iter t x y q0 (i + r)) y.cps.toList
    rw [ih (by omega)]
theorem iter_times {t : List (List Nat)} {x y : Str} {q0 : Nat} {i c : Nat} (h : ∀ k, i ≤ k → iter t x y q0 (k + c) = iter t x y q0 k) : ∀ r k, i ≤ k → iter t x y q0 (k + c * r) = iter t x y q0 k
  | 0, k, _ => rfl
  | r + 1, k, hk => by
    have e : k + c * (r + 1) = (k + c * r) + c := by rw [Nat.mul_succ]; omega
    rw [e, h _ (by omega)]
    exact iter_times h r k hk
theorem pigeon {f : Nat → Nat} (h : ∀ k, f k < 4) : ∃ i j, i < j ∧ j ≤ 4 ∧ f i = f j := by
  have h0 := h 0
  have h1 := h 1
  have h2 := h 2
  have h3 := h 3
  have h4 := h 4
  by_cases a1 : f 0 = f 1
  · exact ⟨0, 1, by omega, by omega, a1⟩
  by_cases a2 : f 0 = f 2
  · exact ⟨0, 2, by omega, by omega, a2⟩
  by_cases a3 : f 0 = f 3
  · exact ⟨0, 3, by omega, by omega, a3⟩
  by_cases a4 : f 0 = f 4
  · exact ⟨0, 4, by omega, by omega, a4⟩
  by_cases b2 : f 1 = f 2
  · exact ⟨1, 2, by omega, by omega, b2⟩
  by_cases b3 : f 1 = f 3
  · exact ⟨1, 3, by omega, by omega, b3⟩
  by_cases b4 : f 1 = f 4
  · exact ⟨1, 4, by omega, by omega, b4⟩
  by_cases c3 : f 2 = f 3
  · exact ⟨2, 3, by omega, by omega, c3⟩
  by_cases c4 : f 2 = f 4
  · exact ⟨2, 4, by omega, by omega, c4⟩
  by_cases d4 : f 3 = f 4
  · exact ⟨3, 4, by omega, by omega, d4⟩
  omega
/-- behind six turns the states come again after twelve -/
theorem iter_12 {t : List (List Nat)} {x y : Str} {q0 : Nat} (h : ∀ k, iter t x y q0 k < 4) : ∀ k, 6 ≤ k → iter t x y q0 (k + 12) = iter t x y q0 k := by
  obtain ⟨i, j, ij, j4, e⟩ := pigeon h
  have e' : iter t x y q0 (i + (j - i)) = iter t x y q0 i := by
    have z : i + (j - i) = j := by omega
    rw [z, e]
  have s := iter_times (iter_shift e')
  intro k hk
  have c : ∃ r, 12 = (j - i) * r := by
    have : j - i = 1 ∨ j - i = 2 ∨ j - i = 3 ∨ j - i = 4 := by omega
    rcases this with q | q | q | q
    · exact ⟨12, by omega⟩
    · exact ⟨6, by omega⟩
    · exact ⟨4, by omega⟩
    · exact ⟨3, by omega⟩
  obtain ⟨r, hr⟩ := c
  have q := s r k (by omega)
  rw [← hr] at q
  exact q
theorem iter_mod {t : List (List Nat)} {x y : Str} {q0 : Nat} (h : ∀ k, iter t x y q0 k < 4) (k : Nat) (hk : 6 ≤ k) : iter t x y q0 (6 + (k - 6) % 12) = iter t x y q0 k := by
  have q := iter_times (i := 6) (c := 12) (iter_12 h) ((k - 6) / 12) (6 + (k - 6) % 12) (by omega)
  have e : 6 + (k - 6) % 12 + 12 * ((k - 6) / 12) = k := by omega
  rw [e] at q
  exact q.symm
def iters (t : List (List Nat)) (x y : Str) (q0 n : Nat) : List Nat := (List.range n).map (iter t x y q0)
theorem iters_at {t : List (List Nat)} {x y : Str} {q0 : Nat} {n k : Nat} (h : k < n) : atI (nts (iters t x y q0 n)) (k : Int) = some (.int ((iter t x y q0 k : Nat) : Int)) := by
  refine atI_nat ?_
  unfold nts iters
  rw [List.map_map, List.getElem?_map, List.getElem?_range h]
  rfl
theorem iters_last {t : List (List Nat)} {x y : Str} {q0 : Nat} {n : Nat} : atI (nts (iters t x y q0 (n + 1))) (-1) = some (.int ((iter t x y q0 n : Nat) : Int)) := by
  have l : (nts (iters t x y q0 (n + 1))).length = n + 1 := by
    rw [nts_length]
    unfold iters
    rw [List.length_map, List.length_range]
  have q := iters_at (t := t) (x := x) (y := y) (q0 := q0) (n := n + 1) (k := n) (by omega)
  unfold atI at q ⊢
  rw [l] at q ⊢
  have e1 : ixN (n + 1) (-1) = some n := by
    unfold ixN
    rw [if_neg (by omega), if_pos (by omega)]
    congr 1
    omega
  have e2 : ixN (n + 1) (n : Int) = some n := ixNat (by omega)
  rw [e2] at q
  rw [e1]
  exact q
end M3

set_option Elab.async false
set_option linter.all false
set_option maxRecDepth 100000
set_option maxHeartbeats 8000000
/-! # led_often: the states of a repeated word, until one comes again -/
namespace M3
open PySem L2
abbrev sOften : Stmt := top 26
abbrev nOften : List Str := ["table", "letters", "start", "word", "times", "trail", "first_at", "goal", "back"]
theorem scOften : FnScope nOften ["table", "letters", "start", "word", "times"] (defScope sOften) := ⟨rfl, rfl, rfl, by decide +kernel, rfl, by decide +kernel, by decide +kernel⟩
/-- where each state of the trail stands -/
structure At (t : List (List Nat)) (x y : Str) (q0 j : Nat) (kvs : List (Key × V)) : Prop where
  yes : ∀ i, i < j → valV kvs (.inl ((iter t x y q0 i : Nat) : Int)) = some (.int (i : Nat))
  only : ∀ (q : Int) (v : V), valV kvs (.inl q) = some v → ∃ i : Nat, i < j ∧ q = ((iter t x y q0 i : Nat) : Int) ∧ v = .int (i : Nat)
  len : kvs.length ≤ j
theorem At.le {t : List (List Nat)} {x y : Str} {q0 : Nat} {j : Nat} {kvs : List (Key × V)} (h : At t x y q0 j kvs) (l : ∀ k, iter t x y q0 k < 4) : j ≤ 4 := by
  obtain ⟨a, b, ab, b4, e⟩ := pigeon l
  by_cases hj : j ≤ 4
  · exact hj
  · have h1 := h.yes a (by omega)
    have h2 := h.yes b (by omega)
    rw [e, h2] at h1
    have q : V.int (b : Nat) = V.int (a : Nat) := Option.some.inj h1
    have q' : ((b : Nat) : Int) = ((a : Nat) : Int) := by injection q
    omega
theorem At.one {t : List (List Nat)} {x y : Str} {q0 : Nat} : At t x y q0 1 [(.inl (q0 : Int), .int 0)] := by
  refine ⟨fun i hi => ?_, fun q v h => ?_, Nat.le_refl _⟩
  · have e : i = 0 := by omega
    subst e
    exact valV_pos rfl
  · by_cases e : q = (q0 : Int)
    · subst e
      rw [valV_pos rfl] at h
      exact ⟨0, by omega, rfl, (Option.some.inj h).symm⟩
    · rw [valV_neg (fun z => e (by injection z with z; exact z.symm)), valV_nil] at h
      cases h
theorem At.put {t : List (List Nat)} {x y : Str} {q0 : Nat} {j : Nat} {kvs : List (Key × V)} (h : At t x y q0 j kvs) (n : valV kvs (.inl ((iter t x y q0 j : Nat) : Int)) = none) : At t x y q0 (j + 1) (putK kvs (.inl ((iter t x y q0 j : Nat) : Int)) (.int (j : Nat))) := by
  refine ⟨fun i hi => ?_, fun q v e => ?_, ?_⟩
  · rw [valV_put]
    by_cases c : (Sum.inl ((iter t x y q0 i : Nat) : Int) : Key) = Sum.inl ((iter t x y q0 j : Nat) : Int)
    · rw [if_pos c]
      by_cases ij : i = j
      · rw [ij]
      · have q := h.yes i (by omega)
        rw [c, n] at q
        cases q
    · rw [if_neg c]
      refine h.yes i ?_
      by_cases ij : i = j
      · rw [ij] at c
        exact absurd rfl c
      · omega
  · rw [valV_put] at e
    by_cases c : (Sum.inl q : Key) = Sum.inl ((iter t x y q0 j : Nat) : Int)
    · rw [if_pos c] at e
      exact ⟨j, by omega, by injection c, (Option.some.inj e).symm⟩
    · rw [if_neg c] at e
      obtain ⟨i, h1, h2, h3⟩ := h.only q v e
      exact ⟨i, by omega, h2, h3⟩
  · rw [putK_new _ n, List.length_append]
    show kvs.length + 1 ≤ j + 1
    have := h.len
    omega
theorem iter_back {t : List (List Nat)} {x y : Str} {q0 : Nat} {i j : Nat} (ij : i < j) (h : iter t x y q0 j = iter t x y q0 i) (k : Nat) (hk : j ≤ k) : iter t x y q0 (i + (k - i) % (j - i)) = iter t x y q0 k := by
  have e' : iter t x y q0 (i + (j - i)) = iter t x y q0 i := by
    have z : i + (j - i) = j := by omega
    rw [z, h]
  have s := iter_times (iter_shift e') ((k - i) / (j - i)) (i + (k - i) % (j - i)) (by omega)
  have d := Nat.mod_add_div (k - i) (j - i)
  have e : i + (k - i) % (j - i) + (j - i) * ((k - i) / (j - i)) = k := by omega
  rw [e] at s
  exact s.symm
def spOften (K : PySem.W.Frag) : Sp := fun vs H Q _ => ∃ (a : Addr) (x y : Str) (m k q0 : Nat) (t : List (List Nat)) (us : List V), vs = [.ref a, .str x, .int (q0 : Nat), .str y, .int k] ∧ SqT K H a us ∧ Tups K H us t ∧ IsTab t t.length m ∧ IsSet x m ∧ m ≤ 2 ∧ IsW x y ∧ q0 < t.length ∧ t.length ≤ 4 ∧
  ∀ H' : Hp, Same H H' → Q (.int ((iter t x y q0 k : Nat) : Int)) H'
section
variable {P : Program} {w : World} {K : PySem.W.Frag} {mg : Str → Option Value} {base : Heap}
theorem ok_often {f g : Addr} {fd gd : FuncData} (F : Fun K "led_often" "led_often" sOften f fd) (G : Fun K "led" "led" sLed g gd) (bG : Binds K gd ["table", "letters", "start", "word"] []) (mG : mg "led" = some (.ref g)) (T : TxI mg) : FnOk P w K mg base CX0 2 f fd ["table", "letters", "start", "word", "times"] (spOften K) := by
  have GL : FnOk P w K mg base CX0 1 g gd ["table", "letters", "start", "word"] (spLed K) := ok_led G
  refine F.ok scOften (fun vs H Q E h => ?_) (fun cdv A outer s H vs Q E hr h => ?_)
  · obtain ⟨a, x, y, m, k, q0, t, us, rfl, _⟩ := h
    rfl
  · obtain ⟨a, x, y, m, n, q0, t, us, rfl, ha, hT, tb, hx, m2, hw, t1, t4, k⟩ := h
    have hu := hu_of hr
    have hm : x.cps.toList.length = m := by
      have := set_len hx
      simpa [Str.length] using this
    have il := iter_lt tb hm t1 hw
    have i4 : ∀ k, iter t x y q0 k < 4 := fun k => Nat.lt_of_lt_of_le (il k) t4
    refine ⟨_, pss_cons (ps_set (i := 5) scOften.nd rfl (Or.inl rfl) (pe_lst (pa_cons (pv 2) pa_nil)))
      (pss_cons (ps_set (i := 6) scOften.nd rfl (Or.inl rfl) (pe_disp (pps_cons (pv 2) pe_int pps_nil) (by rfl) (by rfl) (fun z => by cases z) (by decide)))
      (pss_cons (ps_while PassesOwn.never (pt_cmpR op_le (pe_callB call_len_seq (by rfl) T.len PySem.boot_len (pa_cons (pv 5) pa_nil)) (pv 4) (nomark _))
        (pss_cons (ps_set (i := 7) scOften.nd rfl (Or.inl rfl) (pe_call GL hr rfl mG G.kp bG .nil pass0 (pa_cons (pv 0) (pa_cons (pv 1) (pa_cons (pe_ix ix_list (pv 5) (pe_un un_neg pe_int) (fun _ _ => rfl)) (pa_cons (pv 3) pa_nil))))))
        (pss_cons (ps_if (pt_cmp (pc_din hu (pv 7) (pv 6))) (pss_cons (ps_set (i := 8) scOften.nd rfl (Or.inl rfl) (pe_dget hu (pv 6) (pv 7) (fun _ _ => rfl)))
          (pss_one (ps_ret (pe_ix ix_list (pv 5) (pe_op op_add (pv 8) (pe_op op_mod (pe_op op_sub (pv 4) (pv 8)) (pe_op op_sub (pe_callB call_len_seq (by rfl) T.len PySem.boot_len (pa_cons (pv 5) pa_nil)) (pv 8)))) (fun _ _ => rfl))))) pss_nil)
        (pss_cons (ps_dput hu (pv 6) (pv 7) (pe_callB call_len_seq (by rfl) T.len PySem.boot_len (pa_cons (pv 5) pa_nil)) rfl)
        (pss_one (ps_expr (pe_bm PySem.F.plainAttrs_list PySem.F.slot_list_append PySem.F.type_list_append mt_append (pv 5) (pa_cons (pv 7) pa_nil))))))))
      (pss_one (ps_ret (pe_ix ix_list (pv 5) (pv 4) (fun _ _ => rfl)))))), ?_⟩
    refine ⟨_, rfl, (by show 1 ≤ sizeLine; decide), fun l nl => ?_⟩
    intro f nf
    refine ⟨_, rfl, upd_same, [(.inl (q0 : Int), .int 0)], rfl, (by show 1 ≤ 15; decide), ?_⟩
    rw [upd_upd]
    have lf : l ≠ f := fun z => by
      rw [← z, upd_same] at nf
      cases nf
    have nf0 : H f = none := by
      rw [upd_ne (Ne.symm lf)] at nf
      exact nf
    have neL : ∀ {b : Addr} {o : HO}, H b = some o → b ≠ l := fun h z => by rw [z, nl] at h; cases h
    have neF : ∀ {b : Addr} {o : HO}, H b = some o → b ≠ f := fun h z => by rw [z, nf0] at h; cases h
    have lenI : ∀ j, (nts (iters t x y q0 j)).length = j := fun j => by
      rw [nts_length]
      unfold iters
      rw [List.length_map, List.length_range]
    refine while_by (fun σ H' => ∃ (j : Nat) (v1 v2 : Option V) (kvs : List (Key × V)), σ = [some (.ref a), some (.str x), some (.int (q0 : Nat)), some (.str y), some (.int n), some (.ref l), some (.ref f), v1, v2] ∧ H' l = some (.lst (nts (iters t x y q0 (j + 1)))) ∧ H' f = some (.dK kvs) ∧ At t x y q0 (j + 1) kvs ∧ j ≤ n ∧ Same H H')
      (fun σ H' => match H' l with | some (.lst xs) => n + 1 - xs.length | _ => 0)
      ⟨0, none, none, _, rfl, by rw [upd_ne lf]; exact upd_same, upd_same, At.one, Nat.zero_le _, Same.new (Same.new (Same.refl H) nl) (by rw [upd_ne (Ne.symm lf)]; exact nf0)⟩ ?_ ?_
    · rintro σ H1 ⟨j, v1, v2, kvs, rfl, h1, h2, A, jn, s1⟩
      refine ⟨_, rfl, l, _, rfl, .inl (SqL.of h1), _, rfl, _, _, rfl, rfl, _, rfl, ?_⟩
      rw [lenI]
      refine ite2 (fun hle => ?_) (fun hle => ?_)
      · have hle : j + 1 ≤ n := by
          have := of_decide_eq_true hle
          omega
        refine ⟨_, rfl, _, rfl, _, rfl, _, rfl, l, _, -1, _, rfl, rfl, SqL.of h1, iters_last, _, rfl, a, x, y, iter t x y q0 j, t.length, m, t, us, rfl, sqt_same s1 ha, hT.same s1, tb, hx, m2, hw, il j, ?_⟩
        refine ⟨_, rfl, _, rfl, f, _, rfl, DGet.k (k := Sum.inl ((iter t x y q0 (j + 1) : Nat) : Int)) h2, _, rfl, ?_⟩
        have j4 := A.le i4
        cases e : valV kvs (Sum.inl ((iter t x y q0 (j + 1) : Nat) : Int) : Key) with
        | some v =>
          refine iteT ?_
          obtain ⟨i, ij, eq, rfl⟩ := A.only _ _ e
          have eq' : iter t x y q0 (j + 1) = iter t x y q0 i := by omega
          have G : DGet H1 f (.int ((iter t x y q0 (j + 1) : Nat) : Int)) (some (.int (i : Nat))) := by
            have g := DGet.k (k := Sum.inl ((iter t x y q0 (j + 1) : Nat) : Int)) h2
            rw [e] at g
            exact g
          refine ⟨_, rfl, _, rfl, f, _, rfl, G, ?_⟩
          have e1 : (i : Int) + ((n : Int) - (i : Int)) % ((j + 1 : Nat) - (i : Int)) = ((i + (n - i) % (j + 1 - i) : Nat) : Int) := by
            have c1 : (n : Int) - (i : Int) = ((n - i : Nat) : Int) := by omega
            have c2 : ((j + 1 : Nat) : Int) - (i : Int) = ((j + 1 - i : Nat) : Int) := by omega
            rw [c1, c2, ← Int.natCast_emod, ← Int.natCast_add]
          refine ⟨_, rfl, _, rfl, _, rfl, _, rfl, _, _, rfl, rfl, _, rfl, l, _, rfl, .inl (SqL.of h1), _, rfl, _, _, rfl, rfl, ?_⟩
          have lt : i + (n - i) % (j + 1 - i) < j + 1 := by
            have := Nat.mod_lt (n - i) (show 0 < j + 1 - i by omega)
            omega
          refine ⟨_, _, rfl, rfl, ?_, _, _, rfl, rfl, l, _, ((i + (n - i) % (j + 1 - i) : Nat) : Int), _, rfl, congrArg V.int ?_, SqL.of h1, iters_at lt, ?_⟩
          · show (0 : Int) < ((nts (iters t x y q0 (j + 1))).length : Int) - (i : Int)
            rw [lenI]
            omega
          · rw [lenI]
            exact e1
          · rw [iter_back ij eq' n hle]
            exact k H1 s1
        | none =>
          refine iteF ?_
          have A' := A.put e
          refine ⟨_, rfl, l, _, rfl, .inl (SqL.of h1), _, rfl, _, rfl, f, _, rfl, DPut.k (k := Sum.inl ((iter t x y q0 (j + 1) : Nat) : Int)) h2 (Nat.lt_of_le_of_lt (Nat.le_trans A.len j4) (by decide)), ?_⟩
          rw [lenI]
          have g1 : (upd H1 f (.dK (putK kvs (Sum.inl ((iter t x y q0 (j + 1) : Nat) : Int)) (.int ((j + 1 : Nat) : Int))))) l = some (.lst (nts (iters t x y q0 (j + 1)))) := by
            rw [upd_ne lf]
            exact h1
          refine ⟨_, rfl, .inl ⟨rfl, _, SqL.of g1⟩, _, rfl, l, _, _, rfl, rfl, g1, ?_, ⟨j + 1, _, _, _, rfl, ?_, ?_, A', hle, fun b' o h => ?_⟩, ?_⟩
          · rw [lenI]
            exact Nat.lt_of_le_of_lt j4 (by decide)
          · rw [upd_same]
            unfold nts iters
            rw [List.range_succ (n := j + 1), List.map_append, List.map_append]
            rfl
          · rw [upd_ne (Ne.symm lf)]
            exact upd_same
          · rw [upd_ne (neL h), upd_ne (neF h)]
            exact s1 _ _ h
          · show (match (upd _ l _) l with | some (.lst xs) => n + 1 - xs.length | _ => 0) < (match H1 l with | some (.lst xs) => n + 1 - xs.length | _ => 0)
            rw [h1, upd_same]
            show n + 1 - (nts (iters t x y q0 (j + 1)) ++ [V.int ((iter t x y q0 (j + 1) : Nat) : Int)]).length < n + 1 - (nts (iters t x y q0 (j + 1))).length
            rw [List.length_append, lenI]
            show n + 1 - (j + 1 + 1) < n + 1 - (j + 1)
            omega
      · have hle : ¬ j + 1 ≤ n := fun z => hle (decide_eq_true (by omega))
        have e : n = j := by omega
        exact ⟨_, rfl, _, rfl, l, _, _, _, rfl, rfl, SqL.of h1, iters_at (by omega), k H1 s1⟩
    · rintro σ H1 Q1 Q2 hq ⟨v1, hv1, p, ys, hp, hs, v2, hv2, i1, i2, c1, c2, b, hb, hh⟩
      exact ⟨v1, hv1, p, ys, hp, hs, v2, hv2, i1, i2, c1, c2, b, hb, hq _ _ hh⟩
end
end M3

set_option Elab.async false
set_option linter.all false
set_option maxRecDepth 100000
set_option maxHeartbeats 8000000
/-! # The methods of a machine: in, len, after, the fields -/
namespace M3
open PySem L2
theorem only_in {x y : Str} (h : only y x = true) : IsW x y := fun c hc => by
  unfold only at h
  exact of_decide_eq_true (List.all_eq_true.mp h c hc)
section
variable {P : Program} {w : World} {K : PySem.W.Frag} {mg : Str → Option Value} {base : Heap} {C : Addr}
end
end M3

set_option Elab.async false
set_option linter.all false
set_option maxRecDepth 100000
set_option maxHeartbeats 8000000
/-! # check_word, Machine.after -/
namespace M3
open PySem L2
abbrev sCheck : Stmt := top 17
abbrev sOnlyC : Stmt := top 18
theorem scCheck : FnScope ["value"] ["value"] (defScope sCheck) := ⟨rfl, rfl, rfl, by decide +kernel, rfl, by decide +kernel, by decide +kernel⟩
theorem scOnlyC : FnScope ["word", "letters"] ["word", "letters"] (defScope sOnlyC) := ⟨rfl, rfl, rfl, by decide +kernel, rfl, by decide +kernel, by decide +kernel⟩
/-- an own error of the package over TurnError, raised: its facts -/
structure TxR (K : PySem.W.Frag) (mg : Str → Option Value) (nm : Str) (c : Addr) : Prop where
  x : PySem.W.excIn K c [.type "ValueError", .type "Exception", .type "BaseException", .type "object"] "ValueError.__new__" = true
  g : mg nm = some (.ref c)
  k : PySem.W.keepIn K (.ref c) = true
  b : PySem.W.subIn K (.ref c) (.type "BaseException") = some true
  t : PySem.W.typeIn K (.ref c) = some (.type "type")
/-- InvalidNumber, raised: it keeps what it takes -/
structure TxN (P : Program) (K : PySem.W.Frag) (mg : Str → Option Value) (c : Addr) : Prop where
  tx : ∃ (fI : Addr) (B i B0 newId : String) (qual : Str), PySem.NvE.InitTxt P K c fI B i B0 newId "value" qual
  g : mg "InvalidNumber" = some (.ref c)
  k : PySem.W.keepIn K (.ref c) = true
  b : PySem.W.subIn K (.ref c) (.type "BaseException") = some true
  t : PySem.W.typeIn K (.ref c) = some (.type "type")
theorem keepN {P : Program} {K : PySem.W.Frag} {mg : Str → Option Value} {c : Addr} (T : TxN P K mg c) {X : Cx} (h1 : X.prog = P) (h2 : X.K = K) (h3 : X.mg = mg) : KeepC X "InvalidNumber" c "value" := by
  subst h1 h2 h3
  exact ⟨T.tx, T.g, T.k, T.b, T.t⟩
def spCheck : Sp := fun vs H Q _ => ∃ y : Str, vs = [.str y] ∧ y.length ≤ 1000000 ∧ only y "abcdefghijklmnopqrstuvwxyz" = true ∧ ∀ H' : Hp, Same H H' → Q .non H'
def spOnlyC : Sp := fun vs H Q _ => ∃ y x : Str, vs = [.str y, .str x] ∧ y.length ≤ 1000000 ∧ only y x = true ∧ ∀ H' : Hp, Same H H' → Q .non H'
section
variable {P : Program} {w : World} {K : PySem.W.Frag} {mg : Str → Option Value} {base : Heap} {C : Addr}
theorem ok_check {f c : Addr} {fd : FuncData} (F : Fun K "check_word" "check_word" sCheck f fd) (DW : DefsW K mg) (W : TxW mg) (TE : TxR K mg "InvalidWord" c) : FnOk P w K mg base CX0 3 f fd ["value"] spCheck := by
  have GW : FnOk P w K mg base CX0 2 DW.fW DW.dW ["value"] (spIsWord K) := ok_isword DW.W DW.O DW.bO DW.mO W
  refine F.ok scCheck (fun vs H Q E h => ?_) (fun cdv A outer s H vs Q E hr h => ?_)
  · obtain ⟨y, rfl, _⟩ := h
    rfl
  · obtain ⟨y, rfl, hy, ho, k⟩ := h
    refine ⟨_, pss_one (ps_if (pt_not (pt_val (pe_call GW hr rfl DW.mW DW.W.kp DW.bW .nil pass0 (pa_cons (pv 0) pa_nil)))) (pss_one (ps_raise rfl takes0 (pmk_own PySem.F.excBase_ValueError TE.x TE.g TE.k (raises_own TE.b TE.t) rfl))) pss_nil), ?_⟩
    refine ⟨_, rfl, .str y, .type "str", true, rfl, .base (.str y), kit_str, (fun z => by cases z), fun _ => ⟨y, rfl, hy, fun H1 s1 => ⟨_, rfl, ?_⟩⟩⟩
    rw [ho]
    exact iteF (k H1 s1)
theorem ok_onlyc {f c : Addr} {fd : FuncData} (F : Fun K "check_only" "check_only" sOnlyC f fd) (DW : DefsW K mg) (W : TxW mg) (TO : TxR K mg "InvalidOperation" c) : FnOk P w K mg base CX0 2 f fd ["word", "letters"] spOnlyC := by
  have GO : FnOk P w K mg base CX0 1 DW.fO DW.dO ["word", "letters"] spHasOnly := ok_hasonly DW.O W
  refine F.ok scOnlyC (fun vs H Q E h => ?_) (fun cdv A outer s H vs Q E hr h => ?_)
  · obtain ⟨y, x, rfl, _⟩ := h
    rfl
  · obtain ⟨y, x, rfl, hy, ho, k⟩ := h
    refine ⟨_, pss_one (ps_if (pt_not (pt_val (pe_call GO hr rfl DW.mO DW.O.kp DW.bO .nil pass0 (pa_cons (pv 0) (pa_cons (pv 1) pa_nil))))) (pss_one (ps_raise rfl takes0 (pmk_own PySem.F.excBase_ValueError TO.x TO.g TO.k (raises_own TO.b TO.t) rfl))) pss_nil), ?_⟩
    refine ⟨_, rfl, _, rfl, y, x, rfl, hy, fun H1 s1 => ⟨_, rfl, ?_⟩⟩
    rw [ho]
    exact iteF (k H1 s1)
theorem only_of {x y : Str} (h : IsW x y) : only y x = true := by
  unfold only
  rw [List.all_eq_true]
  intro c hc
  exact decide_eq_true (h c hc)
end
end M3

set_option Elab.async false
set_option linter.all false
set_option maxRecDepth 100000
set_option maxHeartbeats 8000000
/-! # Machine.__eq__ as a def -/
namespace M3
open PySem L2
def dN (es : List Nat) : PyData := .tuple (es.map fun n => .int ((n : Nat) : Int))
def dT (t : List (List Nat)) : PyData := .tuple (t.map dN)
def dM (x : Str) (t : List (List Nat)) (es : List Nat) : PyData := .tuple [.str x, dT t, dN es]
theorem eqv_nats : ∀ a b : List Nat, PyData.eqvAll (a.map fun n => .int ((n : Nat) : Int)) (b.map fun n => .int ((n : Nat) : Int)) = decide (a = b)
  | [], [] => by simp [PyData.eqvAll]
  | [], _ :: _ => by simp [PyData.eqvAll]
  | _ :: _, [] => by simp [PyData.eqvAll]
  | x :: a, y :: b => by
    have ih := eqv_nats a b
    simp only [List.map_cons, PyData.eqvAll, PyData.eqv, ih]
    by_cases h : x = y
    · subst h
      by_cases h2 : a = b
      · subst h2
        simp
      · simp [h2]
    · have n : ¬ ((x : Int) = (y : Int)) := fun z => h (by omega)
      simp [h, n]
theorem eqv_dN (a b : List Nat) : (dN a).eqv (dN b) = decide (a = b) := by
  unfold dN
  rw [PyData.eqv]
  exact eqv_nats a b
theorem eqv_tabs : ∀ a b : List (List Nat), PyData.eqvAll (a.map dN) (b.map dN) = decide (a = b)
  | [], [] => by simp [PyData.eqvAll]
  | [], _ :: _ => by simp [PyData.eqvAll]
  | _ :: _, [] => by simp [PyData.eqvAll]
  | x :: a, y :: b => by
    have ih := eqv_tabs a b
    simp only [List.map_cons, PyData.eqvAll, eqv_dN, ih]
    by_cases h : x = y
    · subst h
      by_cases h2 : a = b
      · subst h2
        simp
      · simp [h2]
    · simp [h]
theorem eqv_dM (x y : Str) (t s : List (List Nat)) (a b : List Nat) : (dM x t a).eqv (dM y s b) = (decide (x = y) && (decide (t = s) && decide (a = b))) := by
  unfold dM
  rw [PyData.eqv]
  simp only [PyData.eqvAll, eqv_dN]
  have e : (dT t).eqv (dT s) = decide (t = s) := by
    unfold dT
    rw [PyData.eqv]
    exact eqv_tabs t s
  rw [e]
  simp only [PyData.eqv, Bool.and_true]
  congr 1
theorem dp_nats {K : PySem.W.Frag} {H : Hp} : ∀ es : List Nat, DpAll K H (nts es) (es.map fun n => .int ((n : Nat) : Int))
  | [] => .nil
  | _ :: es => .cons (.int _) (dp_nats es)
theorem dp_rows {K : PySem.W.Frag} {H : Hp} : ∀ (t : List (List Nat)) (us : List V), Tups K H us t → DpAll K H us (t.map dN)
  | [], us, h => by
    have e : us = [] := List.eq_nil_of_length_eq_zero h.1
    subst e
    exact .nil
  | r :: t, us, h => by
    obtain ⟨b, b1, b2⟩ := h.2 0 r rfl
    match us, h, b1 with
    | u :: us, h, b1 =>
      have e : u = .ref b := Option.some.inj b1
      subst e
      have l : us.length = t.length := by
        have := h.1
        simpa using this
      exact .cons (.tup b2 (dp_nats r)) (dp_rows t us ⟨l, fun i r' hr => h.2 (i + 1) r' hr⟩)
theorem lay_nats : ∀ es : List Nat, PyData.canLayAll0 (es.map fun n => .int ((n : Nat) : Int)) = true
  | [] => by rfl
  | _ :: es => by
    have ih := lay_nats es
    simp only [List.map_cons, PyData.canLayAll0, PyData.canLay0, ih, Bool.and_self]
theorem lay_dN (es : List Nat) : (dN es).canLay0 = true := by
  unfold dN
  simp only [PyData.canLay0, lay_nats]
theorem lay_rows : ∀ t : List (List Nat), PyData.canLayAll0 (t.map dN) = true
  | [] => by rfl
  | _ :: t => by
    have ih := lay_rows t
    simp only [List.map_cons, PyData.canLayAll0, lay_dN, ih, Bool.and_self]
theorem dep_nats : ∀ es : List Nat, PyData.depthAll (es.map fun n => .int ((n : Nat) : Int)) = 0
  | [] => by rfl
  | _ :: es => by
    have ih := dep_nats es
    simp only [List.map_cons, PyData.depthAll, PyData.depth, ih, Nat.max_self]
theorem dep_dN (es : List Nat) : (dN es).depth = 1 := by
  unfold dN
  simp only [PyData.depth, dep_nats]
theorem dep_rows : ∀ t : List (List Nat), PyData.depthAll (t.map dN) ≤ 1
  | [] => by simp [PyData.depthAll]
  | _ :: t => by
    have ih := dep_rows t
    simp only [List.map_cons, PyData.depthAll, dep_dN]
    omega
theorem set_ok {x : Str} {m : Nat} (h : IsSet x m) : PyData.strOk x = true := by
  obtain ⟨cs, rfl, _, _, hm⟩ := h
  show (cs.toArray.all fun c => decide (c < 1114112)) = true
  rw [List.all_toArray, List.all_eq_true]
  intro c hc
  have := hm c hc
  refine decide_eq_true ?_
  simp only [List.mem_cons, List.not_mem_nil, or_false] at this
  omega
theorem shaped_dM {x : Str} {t : List (List Nat)} {es : List Nat} {m : Nat} (h : IsSet x m) : SeqAt.shaped (dM x t es) = true := by
  unfold SeqAt.shaped
  have h1 : (dM x t es).canLay0 = true := by
    unfold dM dT
    simp only [PyData.canLay0, PyData.canLayAll0, lay_rows, lay_dN, set_ok h, Bool.and_self]
  have h2 : (dM x t es).depth ≤ 64 := by
    have r := dep_rows t
    unfold dM dT
    simp only [PyData.depth, PyData.depthAll, dep_dN]
    omega
  rw [h1, decide_eq_true h2]
  rfl
section
variable {P : Program} {w : World} {K : PySem.W.Frag} {mg : Str → Option Value} {base : Heap} {C : Addr}
end
end M3

set_option Elab.async false
set_option linter.all false
set_option maxRecDepth 100000
set_option maxHeartbeats 8000000
/-! # Which states are reached -/
namespace M3
open PySem L2
abbrev sReached : Stmt := top 27
abbrev nReached : List Str := ["table", "found", "seen", "at", "goal"]
theorem scReached : FnScope nReached ["table"] (defScope sReached) := ⟨rfl, rfl, rfl, by decide +kernel, rfl, by decide +kernel, by decide +kernel⟩
/-- numbers below n, none twice: at most n of them -/
theorem nodup_le {n : Nat} : ∀ {fs : List Nat}, fs.Nodup → (∀ z ∈ fs, z < n) → fs.length ≤ n := by
  induction n with
  | zero =>
    intro fs _ h
    match fs, h with
    | [], _ => exact Nat.le_refl _
    | z :: l, h => exact absurd (h z List.mem_cons_self) (Nat.not_lt_zero _)
  | succ n ih =>
    intro fs nd h
    have e := ih (fs := fs.filter fun z => !decide (z = n)) (nd.sublist List.filter_sublist) fun z hz => by
      have h1 := h z (List.mem_filter.mp hz).1
      have h2 : ¬ z = n := by simpa using (List.mem_filter.mp hz).2
      omega
    have l : fs.length ≤ (fs.filter fun z => !decide (z = n)).length + 1 := by
      clear e h ih
      induction fs with
      | nil => exact Nat.zero_le _
      | cons z l ih =>
        have nd' := List.nodup_cons.mp nd
        by_cases hz : z = n
        · have f : (l.filter fun z => !decide (z = n)) = l := by
            rw [List.filter_eq_self]
            intro w hw
            have : ¬ w = n := fun q => nd'.1 (by rw [hz, ← q]; exact hw)
            simp [this]
          simp [List.filter_cons, hz, f]
        · have := ih nd'.2
          simp [List.filter_cons, hz]
          omega
    omega
/-- the dict tells just what was found -/
def SeenIs (kvs : List (Key × V)) (fs : List Nat) : Prop := ∀ q : Nat, (valV kvs (.inl (q : Int))).isSome = decide (q ∈ fs)
theorem SeenIs.put {kvs : List (Key × V)} {fs : List Nat} {g : Nat} (h : SeenIs kvs fs) : SeenIs (putK kvs (.inl (g : Int)) (.bl true)) (fs ++ [g]) := fun q => by
  rw [valV_put]
  by_cases e : q = g
  · subst e
    rw [if_pos rfl]
    simp
  · rw [if_neg (fun z => e (by injection z with z; omega)), h q]
    by_cases m : q ∈ fs
    · simp [m]
    · simp [m, e]
def spReached (K : PySem.W.Frag) : Sp := fun vs H Q _ => ∃ (a : Addr) (us : List V) (t : List (List Nat)) (m : Nat), vs = [.ref a] ∧ SqT K H a us ∧ Tups K H us t ∧ IsTab t t.length m ∧ 1 ≤ t.length ∧ t.length ≤ 1000 ∧
  ∀ (l : Addr) (fs : List Nat) (H' : Hp), (∀ z ∈ fs, z < t.length) → fs.length ≤ t.length → H l = none → H' l = some (.lst (nts fs)) → Same H H' → Q (.ref l) H'
section
variable {P : Program} {w : World} {K : PySem.W.Frag} {mg : Str → Option Value} {base : Heap}
theorem ok_reached {f : Addr} {fd : FuncData} (F : Fun K "reached" "reached" sReached f fd) (T : TxI mg) : FnOk P w K mg base CX0 1 f fd ["table"] (spReached K) := by
  refine F.ok scReached (fun vs H Q E h => ?_) (fun cdv A outer s H vs Q E hr h => ?_)
  · obtain ⟨a, us, t, m, rfl, _⟩ := h
    rfl
  · obtain ⟨a, us, t, m, rfl, ha, hT, tb, t1, tk, k⟩ := h
    have hu := hu_of hr
    refine ⟨_, pss_cons (ps_set (i := 1) scReached.nd rfl (Or.inl rfl) (pe_lst (pa_cons pe_int pa_nil)))
      (pss_cons (ps_set (i := 2) scReached.nd rfl (Or.inl rfl) (pe_disp (pps_cons pe_int pe_bl pps_nil) (by rfl) (by rfl) (fun z => by cases z) (by decide)))
      (pss_cons (ps_set (i := 3) scReached.nd rfl (Or.inl rfl) pe_int)
      (pss_cons (ps_while PassesOwn.never (pt_cmpR op_lt (pv 3) (pe_callB call_len_seq (by rfl) T.len PySem.boot_len (pa_cons (pv 1) pa_nil)) (nomark _))
        (pss_cons (ps_for PassesOwn.never rfl (pi_tup (pe_ix ix_tup (pv 0) (pe_ix ix_list (pv 1) (pv 3) (fun _ _ => rfl)) (fun _ _ => rfl))) (pg_name (i := 4) scReached.nd rfl (Or.inl rfl))
          (pss_one (ps_if (pt_cmp (pc_dnotin hu (pv 4) (pv 2))) (pss_cons (ps_dput hu (pv 2) (pv 4) pe_bl rfl) (pss_one (ps_expr (pe_bm PySem.F.plainAttrs_list PySem.F.slot_list_append PySem.F.type_list_append mt_append (pv 1) (pa_cons (pv 4) pa_nil))))) pss_nil)))
        (pss_one (ps_aug (i := 3) scReached.nd rfl (.inl rfl) pe_int ip_add))))
      (pss_one (ps_ret (pv 1)))))), ?_⟩
    refine ⟨(by show 1 ≤ sizeLine; decide), fun l nl => ?_⟩
    intro f' nf
    refine ⟨upd_same, [(.inl 0, .bl true)], rfl, (by show 1 ≤ 15; decide), ?_⟩
    rw [upd_upd]
    have lf : l ≠ f' := fun z => by
      rw [← z, upd_same] at nf
      cases nf
    have nf0 : H f' = none := by
      rw [upd_ne (Ne.symm lf)] at nf
      exact nf
    have neL : ∀ {b : Addr} {o : HO}, H b = some o → b ≠ l := fun h z => by rw [z, nl] at h; cases h
    have neF : ∀ {b : Addr} {o : HO}, H b = some o → b ≠ f' := fun h z => by rw [z, nf0] at h; cases h
    have s0 : SeenIs [((.inl 0 : Key), V.bl true)] [0] := fun q => by
      by_cases e : q = 0
      · subst e
        have z : valV [((.inl 0 : Key), V.bl true)] (.inl ((0 : Nat) : Int)) = some (.bl true) := valV_pos rfl
        rw [z]
        rfl
      · rw [valV_neg (fun z => e (by injection z with z; omega)), valV_nil]
        simp [e]
    refine while_by (fun σ H' => ∃ (at' : Nat) (g : Option V) (fs : List Nat) (kvs : List (Key × V)), σ = [some (.ref a), some (.ref l), some (.ref f'), some (.int at'), g] ∧ H' l = some (.lst (nts fs)) ∧ H' f' = some (.dK kvs) ∧ SeenIs kvs fs ∧ kvs.length ≤ fs.length ∧ fs.Nodup ∧ (∀ z ∈ fs, z < t.length) ∧ at' ≤ fs.length ∧ Same H H')
      (fun σ H' => match σ with | [_, _, _, some (.int i), _] => t.length - i.toNat | _ => 0)
      ⟨0, none, [0], _, rfl, by rw [upd_ne lf]; exact upd_same, upd_same, s0, Nat.le_refl _, by simp, (fun z hz => by rw [List.mem_singleton.mp hz]; exact t1), Nat.zero_le _, Same.new (Same.new (Same.refl H) nl) (by rw [upd_ne (Ne.symm lf)]; exact nf0)⟩ ?_ ?_
    · rintro σ H1 ⟨at', g, fs, kvs, rfl, h1, h2, h3, h4, h5, h6, h7, s1⟩
      refine ⟨_, rfl, _, rfl, l, _, rfl, .inl (SqL.of h1), _, _, rfl, rfl, _, rfl, ?_⟩
      rw [nts_length]
      refine ite2 (fun hle => ?_) (fun hle => ?_)
      · have hlt : at' < fs.length := by
          have := of_decide_eq_true hle
          omega
        have q := h6 fs[at'] (List.getElem_mem hlt)
        obtain ⟨b, b1, b2⟩ := hT.2 fs[at'] t[fs[at']] (List.getElem?_eq_getElem q)
        obtain ⟨_, rz⟩ := tb.2 t[fs[at']] (List.getElem_mem q)
        generalize t[fs[at']] = r at b2 rz
        have ei : atI (nts fs) (at' : Int) = some (.int ((fs[at'] : Nat) : Int)) := by
          have e := nts_at hlt
          rw [e]
          simp [List.getD, List.getElem?_eq_getElem hlt]
        refine ⟨_, rfl, _, rfl, _, rfl, l, _, _, _, rfl, rfl, SqL.of h1, ei, a, us, _, .ref b, rfl, rfl, sqt_same s1 ha, atI_nat b1, ?_⟩
        refine ⟨b, rfl, ⟨_, sqt_same s1 b2⟩, for_it (walk_tup (K := K) (a := b) (xs := nts r)) (fun j σ H' => ∃ (g : Option V) (fs' : List Nat) (kvs' : List (Key × V)), σ = [some (.ref a), some (.ref l), some (.ref f'), some (.int at'), g] ∧ H' l = some (.lst (nts fs')) ∧ H' f' = some (.dK kvs') ∧ SeenIs kvs' fs' ∧ kvs'.length ≤ fs'.length ∧ fs'.Nodup ∧ (∀ z ∈ fs', z < t.length) ∧ at' < fs'.length ∧ Same H H')
          ⟨g, fs, kvs, rfl, h1, h2, h3, h4, h5, h6, hlt, s1⟩ (fun j σ H' _ ⟨_, _, _, _, _, _, _, _, _, _, _, z⟩ => sqt_same z b2) ?_ ?_⟩
        · rintro j v σ H2 H3 hj ⟨g', fs', kvs', rfl, p1, p2, p3, p4, p5, p6, p7, p8⟩ ⟨rfl, hv⟩
          unfold nts at hv
          rw [List.getElem?_map] at hv
          cases er : r[j]? with
          | none =>
            rw [er] at hv
            cases hv
          | some z =>
            rw [er] at hv
            cases hv
            have zn := rz z (List.mem_of_getElem? er)
            have fl := nodup_le p5 p6
            refine ⟨_, rfl, _, rfl, f', _, rfl, DGet.k (k := Sum.inl ((z : Nat) : Int)) p2, _, rfl, ?_⟩
            have sz := p3 z
            cases e : valV kvs' (Sum.inl ((z : Nat) : Int) : Key) with
            | none =>
              rw [e] at sz
              have nz : z ∉ fs' := fun q => by
                rw [decide_eq_true q] at sz
                cases sz
              refine iteT ?_
              refine ⟨_, rfl, _, rfl, f', _, rfl, DPut.k (k := Sum.inl ((z : Nat) : Int)) p2 (Nat.lt_of_le_of_lt (show kvs'.length ≤ 1000 by omega) (by decide)), ?_⟩
              have g1 : (upd H3 f' (.dK (putK kvs' (Sum.inl ((z : Nat) : Int)) (.bl true)))) l = some (.lst (nts fs')) := by
                rw [upd_ne lf]
                exact p1
              refine ⟨_, rfl, .inl ⟨rfl, _, SqL.of g1⟩, _, rfl, l, _, _, rfl, rfl, g1, ?_, some (.int ((z : Nat) : Int)), fs' ++ [z], _, rfl, ?_, ?_, p3.put, ?_, ?_, fun y hy => ?_, ?_, fun b' o h => ?_⟩
              · rw [nts_length]
                exact Nat.lt_of_le_of_lt (show fs'.length ≤ 1000 by omega) (by decide)
              · rw [upd_same, nts_append]
              · rw [upd_ne (Ne.symm lf)]
                exact upd_same
              · rw [putK_new _ e, List.length_append, List.length_append]
                show kvs'.length + 1 ≤ fs'.length + 1
                omega
              · rw [List.nodup_append]
                refine ⟨p5, by simp, fun y hy w hw q => nz ?_⟩
                rw [List.mem_singleton.mp hw] at q
                rw [← q]
                exact hy
              · rcases List.mem_append.mp hy with q | q
                · exact p6 y q
                · rw [List.mem_singleton.mp q]
                  exact zn
              · rw [List.length_append]
                omega
              · rw [upd_ne (neL h), upd_ne (neF h)]
                exact p8 _ _ h
            | some v =>
              refine iteF ?_
              exact ⟨some (.int ((z : Nat) : Int)), fs', kvs', rfl, p1, p2, p3, p4, p5, p6, p7, p8⟩
        · rintro σ H2 ⟨g', fs', kvs', rfl, p1, p2, p3, p4, p5, p6, p7, p8⟩
          have fl := nodup_le p5 p6
          refine ⟨_, rfl, _, _, rfl, rfl, ⟨at' + 1, g', fs', kvs', rfl, p1, p2, p3, p4, p5, p6, p7, p8⟩, ?_⟩
          show t.length - (at' + 1) < t.length - at'
          omega
      · exact ⟨_, rfl, k l fs H1 h6 (nodup_le h5 h6) nl h1 s1⟩
    · rintro σ H1 Q1 Q2 hq h
      obtain ⟨v1, hv1, v2, hv2, p, ys, hp, hs, i1, i2, c1, c2, b, hb, hh⟩ := h
      exact ⟨v1, hv1, v2, hv2, p, ys, hp, hs, i1, i2, c1, c2, b, hb, hq _ _ hh⟩
end
end M3

set_option Elab.async false
set_option linter.all false
set_option maxRecDepth 100000
set_option maxHeartbeats 8000000
/-! # Ends marked; is a machine empty, is it full -/
namespace M3
open PySem L2
abbrev sMarked : Stmt := top 24
theorem scMarked : FnScope ["states", "state"] ["states"] (defScope sMarked) := ⟨rfl, rfl, rfl, by decide +kernel, rfl, by decide +kernel, by decide +kernel⟩
def spMarked (K : PySem.W.Frag) : Sp := fun vs H Q _ => ∃ (b : Addr) (es : List Nat), vs = [.ref b] ∧ SqT K H b (nts es) ∧ es.length ≤ 1000 ∧
  ∀ (D : Addr) (kvs : List (Key × V)) (H' : Hp), H D = none → H' D = some (.dK kvs) → SeenIs kvs es → Same H H' → Q (.ref D) H'
section
variable {P : Program} {w : World} {K : PySem.W.Frag} {mg : Str → Option Value} {base : Heap} {C : Addr}
theorem putK_len {kvs : List (Key × V)} {k : Key} {v : V} : (putK kvs k v).length ≤ kvs.length + 1 := by
  unfold putK
  split
  · rw [List.length_map]
    omega
  · rw [List.length_append]
    exact Nat.le_refl _
theorem ok_marked {f : Addr} {fd : FuncData} (F : Fun K "marked" "marked" sMarked f fd) : FnOk P w K mg base CX0 1 f fd ["states"] (spMarked K) := by
  refine F.ok scMarked (fun vs H Q E h => ?_) (fun cdv A outer s H vs Q E hr h => ?_)
  · obtain ⟨b, es, rfl, _⟩ := h
    rfl
  · obtain ⟨b, es, rfl, hb, he, k⟩ := h
    refine ⟨_, pss_one (ps_ret (pe_dc (own := [("state", 1)]) (g := gName 1) (tt := tYes) rfl scMarked.nd (pi_tup (pv 0)) (blkOk_by (N := ["states", "state"]) (sc := defScope sMarked) (by decide +kernel)) (fun _ _ _ _ _ => pg_name (i := 1) scMarked.nd rfl (Or.inl rfl)) (fun _ _ _ _ _ => pts_nil) (fun _ _ _ _ _ => pv 1) (fun _ _ _ _ _ => pe_bl))), ?_⟩
    refine ⟨_, rfl, b, rfl, ⟨_, hb⟩, fun D nD => ?_⟩
    have sm : ∀ {H9 : Hp}, (∀ b' o, b' ≠ D → H b' = some o → H9 b' = some o) → Same H H9 := fun z b' o h => z b' o (fun q => by rw [q, nD] at h; cases h) h
    refine dc_tup (K := K) (a := b) (xs := nts es) (fun j H9 => ∃ kvs : List (Key × V), H9 D = some (.dK kvs) ∧ SeenIs kvs (es.take j) ∧ kvs.length ≤ j ∧ ∀ b' o, b' ≠ D → H b' = some o → H9 b' = some o) ?_ ?_ ?_ ?_
    · exact ⟨[], upd_same, fun q => by rfl, Nat.le_refl _, fun b' o hb' h => keep_new h nD⟩
    · rintro i H9 _ ⟨kvs, _, _, _, z⟩
      exact sqt_same (sm z) hb
    · rintro i v H9 hv ⟨kvs, p1, p2, p3, p4⟩
      have hi : i < es.length := by
        have := (List.getElem?_eq_some_iff.mp hv).1
        rw [nts_length] at this
        exact this
      unfold nts at hv
      rw [List.getElem?_map, List.getElem?_eq_getElem hi] at hv
      cases hv
      refine ⟨rfl, tYes_if ?_⟩
      refine ⟨_, rfl, kvs, .inl ((es[i] : Nat) : Int), rfl, p1, Nat.lt_of_le_of_lt (show kvs.length ≤ 1000 by omega) (by decide), _, upd_same, ?_, ?_, fun b' o hb' h => by rw [upd_ne hb']; exact p4 b' o hb' h⟩
      · rw [take_snoc (List.getElem?_eq_getElem hi)]
        exact p2.put
      · have := putK_len (kvs := kvs) (k := (.inl ((es[i] : Nat) : Int) : Key)) (v := V.bl true)
        omega
    · rintro H9 ⟨kvs, p1, p2, p3, p4⟩
      have et : es.take (nts es).length = es := by
        rw [nts_length]
        exact List.take_length
      rw [et] at p2
      exact k D kvs H9 nD p1 p2 (sm p4)
end
end M3

set_option Elab.async false
set_option linter.all false
set_option maxRecDepth 100000
set_option maxHeartbeats 8000000
/-! # Actions: one behind the other, of no letter, one letter further -/
namespace M3
open PySem L2
abbrev sComposed : Stmt := top 50
abbrev sUnmoved : Stmt := top 51
abbrev sLedOn : Stmt := top 52
abbrev nComposed : List Str := ["first", "second", "state"]
abbrev nLedOn : List Str := ["table", "states", "column", "state"]
theorem scComposed : FnScope nComposed ["first", "second"] (defScope sComposed) := ⟨rfl, rfl, rfl, by decide +kernel, rfl, by decide +kernel, by decide +kernel⟩
theorem scUnmoved : FnScope ["table"] ["table"] (defScope sUnmoved) := ⟨rfl, rfl, rfl, by decide +kernel, rfl, by decide +kernel, by decide +kernel⟩
theorem scLedOn : FnScope nLedOn ["table", "states", "column"] (defScope sLedOn) := ⟨rfl, rfl, rfl, by decide +kernel, rfl, by decide +kernel, by decide +kernel⟩
/-- one action behind another one -/
def comp (fs gs : List Nat) : List Nat := fs.map fun q => gs.getD q 0
/-- a letter further, by its column -/
def ledon (t : List (List Nat)) (fs : List Nat) (c : Nat) : List Nat := fs.map fun q => (t.getD q []).getD c 0
def spComposed (K : PySem.W.Frag) : Sp := fun vs H Q _ => ∃ (a b : Addr) (fs gs : List Nat), vs = [.ref a, .ref b] ∧ SqT K H a (nts fs) ∧ SqT K H b (nts gs) ∧ (∀ q ∈ fs, q < gs.length) ∧ fs.length ≤ 1000 ∧
  ∀ (p : Addr) (H' : Hp), H p = none → H' p = some (.tup (nts (comp fs gs))) → Same H H' → Q (.ref p) H'
def spUnmoved (K : PySem.W.Frag) : Sp := fun vs H Q _ => ∃ (a : Addr) (us : List V), vs = [.ref a] ∧ SqT K H a us ∧ us.length ≤ 1000 ∧
  ∀ (p : Addr) (H' : Hp), H p = none → H' p = some (.tup (nts (List.range us.length))) → Same H H' → Q (.ref p) H'
def spLedOn (K : PySem.W.Frag) : Sp := fun vs H Q _ => ∃ (a b : Addr) (us : List V) (t : List (List Nat)) (fs : List Nat) (c m : Nat), vs = [.ref a, .ref b, .int c] ∧ SqT K H a us ∧ Tups K H us t ∧ IsTab t t.length m ∧ SqT K H b (nts fs) ∧ (∀ q ∈ fs, q < t.length) ∧ fs.length ≤ 1000 ∧ c < m ∧
  ∀ (p : Addr) (H' : Hp), H p = none → H' p = some (.tup (nts (ledon t fs c))) → Same H H' → Q (.ref p) H'
section
variable {P : Program} {w : World} {K : PySem.W.Frag} {mg : Str → Option Value} {base : Heap}
theorem map_take_snoc {α β : Type} {f : α → β} {l : List α} {i : Nat} (h : i < l.length) : (l.take (i + 1)).map f = (l.take i).map f ++ [f l[i]] := by
  rw [take_snoc (List.getElem?_eq_getElem h), List.map_append]
  rfl
theorem nts_at' {r : List Nat} {j : Nat} (h : j < r.length) : atI (nts r) (j : Int) = some (.int (r.getD j 0)) := nts_at h
theorem ok_composed {f : Addr} {fd : FuncData} (F : Fun K "composed" "composed" sComposed f fd) (M : TxM mg) : FnOk P w K mg base CX0 1 f fd ["first", "second"] (spComposed K) := by
  refine F.ok scComposed (fun vs H Q E h => ?_) (fun cdv A outer s H vs Q E hr h => ?_)
  · obtain ⟨a, b, fs, gs, rfl, _⟩ := h
    rfl
  · obtain ⟨a, b, fs, gs, rfl, ha, hb, hq, hl, k⟩ := h
    refine ⟨_, pss_one (ps_ret (pe_callTy call_tuple_of (by rfl) M.tuple (by decide +kernel) (pa_cons (pe_lc (own := [("state", 2)]) (g := gName 2) (tt := tYes) (te := tOp (rIxT K) (tVar 1) (tVar 2)) rfl scComposed.nd (pi_tup (pv 0)) (blkOk_by (N := nComposed) (sc := defScope sComposed) (by decide +kernel)) (fun _ _ _ _ _ => pg_name (i := 2) scComposed.nd rfl (Or.inl rfl)) (fun _ _ _ _ _ => pts_nil)
      (fun _ _ _ _ _ => pe_ix ix_tup (pv 1) (pv 2) (fun _ _ => rfl))) pa_nil))), ?_⟩
    refine ⟨_, rfl, a, rfl, ⟨_, ha⟩, fun D nD => ?_⟩
    have sm : ∀ {H9 : Hp}, (∀ b' o, b' ≠ D → H b' = some o → H9 b' = some o) → Same H H9 := fun z b' o h => z b' o (fun q => by rw [q, nD] at h; cases h) h
    refine lc_tup (K := K) (a := a) (xs := nts fs) (fun j H9 => H9 D = some (.lst (nts (comp (fs.take j) gs))) ∧ ∀ b' o, b' ≠ D → H b' = some o → H9 b' = some o)
      ⟨upd_same, fun b' o hb' h => keep_new h nD⟩ (fun i H9 _ ⟨_, z⟩ => sqt_same (sm z) ha) ?_ ?_
    · rintro i v H9 hv ⟨q1, q2⟩
      have hi : i < fs.length := by
        have := (List.getElem?_eq_some_iff.mp hv).1
        rw [nts_length] at this
        exact this
      unfold nts at hv
      rw [List.getElem?_map, List.getElem?_eq_getElem hi] at hv
      cases hv
      refine ⟨rfl, tYes_if ?_⟩
      have hlt := hq fs[i] (List.getElem_mem hi)
      refine ⟨_, rfl, _, rfl, b, nts gs, _, _, rfl, rfl, sqt_same (sm q2) hb, nts_at hlt, _, q1, ?_, ?_, fun b' o hb' h => by rw [upd_ne hb']; exact q2 b' o hb' h⟩
      · unfold comp
        rw [nts_length, List.length_map, List.length_take]
        exact Nat.lt_of_le_of_lt (show _ ≤ 1000 by omega) (by decide)
      · rw [upd_same]
        unfold comp nts
        rw [map_take_snoc hi, List.map_append]
        rfl
    · rintro H9 ⟨q1, q2⟩
      have et : fs.take (nts fs).length = fs := by
        rw [nts_length]
        exact List.take_length
      rw [et] at q1
      refine ⟨D, _, rfl, .inl ⟨SqL.of q1, fun l hl9 => ?_⟩⟩
      have s9 := sm q2
      have hl0 : H l = none := by
        cases e : H l with
        | none => rfl
        | some o =>
          have := s9 _ _ e
          rw [hl9] at this
          cases this
      exact k l _ hl0 upd_same (Same.new s9 hl9)
theorem ok_unmoved {f : Addr} {fd : FuncData} (F : Fun K "unmoved" "unmoved" sUnmoved f fd) (M : TxM mg) : FnOk P w K mg base CX0 1 f fd ["table"] (spUnmoved K) := by
  refine F.ok scUnmoved (fun vs H Q E h => ?_) (fun cdv A outer s H vs Q E hr h => ?_)
  · obtain ⟨a, us, rfl, _⟩ := h
    rfl
  · obtain ⟨a, us, rfl, ha, hl, k⟩ := h
    refine ⟨_, pss_one (ps_ret (pe_tupRg rfl rfl M.tuple (prg_1 rfl M.range (pe_callB call_len_seq (by rfl) M.len PySem.boot_len (pa_cons (pv 0) pa_nil))))), ?_⟩
    refine ⟨_, rfl, a, us, rfl, .inr ha, _, rfl, .of_le (by decide) (by omega) (by decide) (by omega), fun p np => ?_⟩
    rw [rgV_nats]
    exact k p _ np upd_same (Same.new (Same.refl H) np)
theorem ok_ledon {f : Addr} {fd : FuncData} (F : Fun K "led_on" "led_on" sLedOn f fd) (M : TxM mg) : FnOk P w K mg base CX0 1 f fd ["table", "states", "column"] (spLedOn K) := by
  refine F.ok scLedOn (fun vs H Q E h => ?_) (fun cdv A outer s H vs Q E hr h => ?_)
  · obtain ⟨a, b, us, t, fs, c, m, rfl, _⟩ := h
    rfl
  · obtain ⟨a, b, us, t, fs, c, m, rfl, ha, hT, tb, hb, hq, hl, hc, k⟩ := h
    refine ⟨_, pss_one (ps_ret (pe_callTy call_tuple_of (by rfl) M.tuple (by decide +kernel) (pa_cons (pe_lc (own := [("state", 3)]) (g := gName 3) (tt := tYes) (te := tOp (rIxT K) (tOp (rIxT K) (tVar 0) (tVar 3)) (tVar 2)) rfl scLedOn.nd (pi_tup (pv 1)) (blkOk_by (N := nLedOn) (sc := defScope sLedOn) (by decide +kernel)) (fun _ _ _ _ _ => pg_name (i := 3) scLedOn.nd rfl (Or.inl rfl)) (fun _ _ _ _ _ => pts_nil)
      (fun _ _ _ _ _ => pe_ix ix_tup (pe_ix ix_tup (pv 0) (pv 3) (fun _ _ => rfl)) (pv 2) (fun _ _ => rfl))) pa_nil))), ?_⟩
    refine ⟨_, rfl, b, rfl, ⟨_, hb⟩, fun D nD => ?_⟩
    have sm : ∀ {H9 : Hp}, (∀ b' o, b' ≠ D → H b' = some o → H9 b' = some o) → Same H H9 := fun z b' o h => z b' o (fun q => by rw [q, nD] at h; cases h) h
    refine lc_tup (K := K) (a := b) (xs := nts fs) (fun j H9 => H9 D = some (.lst (nts (ledon t (fs.take j) c))) ∧ ∀ b' o, b' ≠ D → H b' = some o → H9 b' = some o)
      ⟨upd_same, fun b' o hb' h => keep_new h nD⟩ (fun i H9 _ ⟨_, z⟩ => sqt_same (sm z) hb) ?_ ?_
    · rintro i v H9 hv ⟨q1, q2⟩
      have hi : i < fs.length := by
        have := (List.getElem?_eq_some_iff.mp hv).1
        rw [nts_length] at this
        exact this
      unfold nts at hv
      rw [List.getElem?_map, List.getElem?_eq_getElem hi] at hv
      cases hv
      refine ⟨rfl, tYes_if ?_⟩
      have hp := hq fs[i] (List.getElem_mem hi)
      obtain ⟨b', b1, b2⟩ := hT.2 fs[i] t[fs[i]] (List.getElem?_eq_getElem hp)
      have s9 := sm q2
      have hc2 : c < t[fs[i]].length := by
        rw [(tb.2 _ (List.getElem_mem hp)).1]
        exact hc
      have ed : t.getD fs[i] [] = t[fs[i]] := by simp [List.getD, List.getElem?_eq_getElem hp]
      refine ⟨_, rfl, _, rfl, a, us, _, .ref b', rfl, rfl, sqt_same s9 ha, atI_nat b1, _, rfl, b', nts t[fs[i]], _, _, rfl, rfl, sqt_same s9 b2, nts_at hc2, _, q1, ?_, ?_, fun b'' o hb' h => by rw [upd_ne hb']; exact q2 b'' o hb' h⟩
      · unfold ledon
        rw [nts_length, List.length_map, List.length_take]
        exact Nat.lt_of_le_of_lt (show _ ≤ 1000 by omega) (by decide)
      · rw [upd_same]
        unfold ledon nts
        rw [map_take_snoc hi, List.map_append, ed]
        rfl
    · rintro H9 ⟨q1, q2⟩
      have et : fs.take (nts fs).length = fs := by
        rw [nts_length]
        exact List.take_length
      rw [et] at q1
      refine ⟨D, _, rfl, .inl ⟨SqL.of q1, fun l hl9 => ?_⟩⟩
      have s9 := sm q2
      have hl0 : H l = none := by
        cases e : H l with
        | none => rfl
        | some o =>
          have := s9 _ _ e
          rw [hl9] at this
          cases this
      exact k l _ hl0 upd_same (Same.new s9 hl9)
end
end M3

set_option Elab.async false
set_option linter.all false
set_option maxRecDepth 100000
set_option maxHeartbeats 8000000
/-! # The action of a word -/
namespace M3
open PySem L2
/-- where the letters lead each state -/
def act (t : List (List Nat)) (x : Str) (cs : List Nat) : List Nat := (List.range t.length).map fun q => goes t x q cs
theorem act_nil {t : List (List Nat)} {x : Str} : act t x [] = List.range t.length := by
  unfold act
  rw [show (fun q => goes t x q []) = id from rfl, List.map_id]
theorem act_snoc {t : List (List Nat)} {x : Str} {cs : List Nat} {c : Nat} : act t x (cs ++ [c]) = ledon t (act t x cs) (x.cps.toList.idxOf c) := by
  unfold act ledon
  rw [List.map_map]
  refine List.map_congr_left fun q _ => ?_
  rw [goes_snoc]
  rfl
theorem act_lt {t : List (List Nat)} {x : Str} {m : Nat} (tb : IsTab t t.length m) (hm : x.cps.toList.length = m) {cs : List Nat} (hw : ∀ c ∈ cs, c ∈ x.cps.toList) : ∀ z ∈ act t x cs, z < t.length := by
  intro z hz
  unfold act at hz
  obtain ⟨q, hq, rfl⟩ := List.mem_map.mp hz
  exact goes_lt tb hm _ _ (List.mem_range.mp hq) hw
theorem ledon_lt {t : List (List Nat)} {m c : Nat} (tb : IsTab t t.length m) (hc : c < m) {fs : List Nat} (hf : ∀ z ∈ fs, z < t.length) : ∀ z ∈ ledon t fs c, z < t.length := by
  intro z hz
  unfold ledon at hz
  obtain ⟨q, hq, rfl⟩ := List.mem_map.mp hz
  have hp := hf q hq
  have ed : t.getD q [] = t[q] := by simp [List.getD, List.getElem?_eq_getElem hp]
  obtain ⟨e1, e2⟩ := tb.2 t[q] (List.getElem_mem hp)
  rw [ed]
  have hc2 : c < t[q].length := by rw [e1]; exact hc
  have eg : t[q].getD c 0 = t[q][c] := by simp [List.getD, List.getElem?_eq_getElem hc2]
  rw [eg]
  exact e2 _ (List.getElem_mem hc2)
/-- a tuple of numbers as a key -/
def key (fs : List Nat) : List Key := fs.map fun q => (Sum.inl ((q : Nat) : Int) : Key)
theorem key_tup (fs : List Nat) : (key fs).map kV = nts fs := by
  unfold key nts
  rw [List.map_map]
  rfl
theorem key_inj {fs gs : List Nat} (h : key fs = key gs) : fs = gs := by
  induction fs generalizing gs with
  | nil =>
    cases gs with
    | nil => rfl
    | cons g gs => cases h
  | cons f fs ih =>
    cases gs with
    | nil => cases h
    | cons g gs =>
      have h : (Sum.inl ((f : Nat) : Int) : Key) :: key fs = Sum.inl ((g : Nat) : Int) :: key gs := h
      injection h with h1 h2
      injection h1 with h1
      have e : f = g := by omega
      rw [e, ih h2]
/-- actions that stand as tuples -/
def RowsA (H : Hp) (us : List V) (F : List (List Nat)) : Prop := us.length = F.length ∧ ∀ (i : Nat) (r : List Nat), F[i]? = some r → ∃ b : Addr, us[i]? = some (.ref b) ∧ H b = some (.tup (nts r))
theorem RowsA.to {H H' : Hp} {us : List V} {F : List (List Nat)} (h : RowsA H us F) (k : ∀ b ys, H b = some (.tup ys) → H' b = some (.tup ys)) : RowsA H' us F := ⟨h.1, fun i r e => by
  obtain ⟨b, b1, b2⟩ := h.2 i r e
  exact ⟨b, b1, k _ _ b2⟩⟩
theorem RowsA.snoc {H : Hp} {us : List V} {F : List (List Nat)} {b : Addr} {r : List Nat} (h : RowsA H us F) (hb : H b = some (.tup (nts r))) : RowsA H (us ++ [.ref b]) (F ++ [r]) := by
  refine ⟨by rw [List.length_append, List.length_append, h.1]; rfl, fun i r' e => ?_⟩
  rcases snoc_at e with e | ⟨rfl, rfl⟩
  · obtain ⟨b', b1, b2⟩ := h.2 i r' e
    refine ⟨b', ?_, b2⟩
    rw [List.getElem?_append_left (List.getElem?_eq_some_iff.mp b1).1]
    exact b1
  · refine ⟨b, ?_, hb⟩
    rw [← h.1, List.getElem?_append_right (Nat.le_refl _), Nat.sub_self]
    rfl
/-- the dict that numbers the found actions -/
structure NumsA (kvs : List (List Key × V)) (F : List (List Nat)) : Prop where
  only : ∀ (k : List Key) (v : V), valV kvs k = some v → ∃ i r, F[i]? = some r ∧ k = key r ∧ v = .int ((i : Nat) : Int)
  len : kvs.length ≤ F.length
theorem putT_len {kvs : List (List Key × V)} {k : List Key} {v : V} : (putK kvs k v).length ≤ kvs.length + 1 := by
  unfold putK
  split
  · rw [List.length_map]
    omega
  · rw [List.length_append]
    exact Nat.le_refl _
theorem NumsA.put {kvs : List (List Key × V)} {F : List (List Nat)} {r : List Nat} (h : NumsA kvs F) : NumsA (putK kvs (key r) (.int ((F.length : Nat) : Int))) (F ++ [r]) := by
  refine ⟨fun k v e => ?_, ?_⟩
  · rw [valV_put] at e
    by_cases c : k = key r
    · rw [if_pos c] at e
      refine ⟨F.length, r, ?_, c, (Option.some.inj e).symm⟩
      rw [List.getElem?_append_right (Nat.le_refl _), Nat.sub_self]
      rfl
    · rw [if_neg c] at e
      obtain ⟨i, r', h1, h2, h3⟩ := h.only k v e
      refine ⟨i, r', ?_, h2, h3⟩
      rw [List.getElem?_append_left (List.getElem?_eq_some_iff.mp h1).1]
      exact h1
  · have := putT_len (kvs := kvs) (k := key r) (v := V.int ((F.length : Nat) : Int))
    have := h.len
    rw [List.length_append]
    show _ ≤ F.length + 1
    omega
theorem at_app {α : Type} {F : List α} {i : Nat} {r : α} (h : F[i]? = some r) (s : α) : (F ++ [s])[i]? = some r := by
  rw [List.getElem?_append_left (List.getElem?_eq_some_iff.mp h).1]
  exact h
section
variable {P : Program} {w : World} {K : PySem.W.Frag} {mg : Str → Option Value} {base : Heap}
end
end M3

set_option Elab.async false
set_option linter.all false
set_option maxRecDepth 100000
set_option maxHeartbeats 8000000
/-! # The actions of all words, with words for them -/
namespace M3
open PySem L2
abbrev sActWords : Stmt := top 54
abbrev nAW : List Str := ["table", "letters", "most", "words", "found", "at", "column", "letter", "goal"]
theorem scAW : FnScope nAW ["table", "letters", "most"] (defScope sActWords) := ⟨rfl, rfl, rfl, by decide +kernel, rfl, by decide +kernel, by decide +kernel⟩
/-- the dict of the found actions and their words -/
structure WordsA (t : List (List Nat)) (x : Str) (kvs : List (List Key × V)) (F : List (List Nat)) : Prop where
  has : ∀ (i : Nat) (r : List Nat), F[i]? = some r → ∃ w : Str, valV kvs (key r) = some (.str w) ∧ IsW x w ∧ r = act t x w.cps.toList ∧ w.length ≤ i
  len : kvs.length ≤ F.length
theorem snoc_cps (w : Str) (c : Nat) : (w ++ (⟨#[c]⟩ : Str)).cps.toList = w.cps.toList ++ [c] := by
  show (w.cps ++ #[c]).toList = _
  simp
theorem WordsA.put {t : List (List Nat)} {x : Str} {kvs : List (List Key × V)} {F : List (List Nat)} {r s : List Nat} {w : Str} {c i : Nat} (h : WordsA t x kvs F) (n : valV kvs (key s) = none) (hw : IsW x w) (er : r = act t x w.cps.toList) (hc : c ∈ x.cps.toList) (es : s = ledon t r (x.cps.toList.idxOf c)) (l : w.length ≤ i) (hi : i < F.length) :
    WordsA t x (putK kvs (key s) (.str (w ++ ⟨#[c]⟩))) (F ++ [s]) := by
  have sn := snoc_cps w c
  refine ⟨fun j r' e => ?_, ?_⟩
  · rcases snoc_at e with e | ⟨rfl, rfl⟩
    · obtain ⟨w', h1, h2, h3, h4⟩ := h.has j r' e
      refine ⟨w', ?_, h2, h3, h4⟩
      rw [valV_put]
      by_cases q : key r' = key s
      · rw [q, n] at h1
        cases h1
      · rw [if_neg q]
        exact h1
    · refine ⟨w ++ ⟨#[c]⟩, by rw [valV_put, if_pos rfl], fun d hd => ?_, by rw [sn, act_snoc, es, er], ?_⟩
      · rw [sn] at hd
        rcases List.mem_append.mp hd with q | q
        · exact hw d q
        · rw [List.mem_singleton.mp q]
          exact hc
      · show (w.cps ++ #[c]).size ≤ F.length
        have : w.cps.size ≤ i := l
        simp
        omega
  · have := putT_len (kvs := kvs) (k := key s) (v := V.str (w ++ ⟨#[c]⟩))
    have := h.len
    rw [List.length_append]
    show _ ≤ F.length + 1
    omega
theorem set_ix {x : Str} {m j c : Nat} (h : IsSet x m) (h2 : m ≤ 2) (e : x.cps.toList[j]? = some c) : x.cps.toList.idxOf c = j := by
  obtain ⟨cs, rfl, hl, hp, _⟩ := h
  have e : cs[j]? = some c := e
  show cs.idxOf c = j
  match cs, hl, hp, j, e with
  | [a], _, _, 0, e =>
    cases e
    simp
  | [a, b], _, _, 0, e =>
    cases e
    simp
  | [a, b], _, hp, 1, e =>
    cases e
    have ab : a < c := by simpa using hp
    have n : (a == c) = false := beq_eq_false_iff_ne.mpr (by omega)
    simp [List.idxOf_cons, n]
  | _ :: _ :: _ :: l, hl, _, _, _ =>
    have hl : l.length + 3 = m := hl
    omega
def spActWords (K : PySem.W.Frag) : Sp := fun vs H Q _ => ∃ (a : Addr) (x : Str) (us : List V) (t : List (List Nat)) (m mo : Nat), vs = [.ref a, .str x, .int mo] ∧ SqT K H a us ∧ Tups K H us t ∧ IsTab t t.length m ∧ IsSet x m ∧ m ≤ 2 ∧ t.length ≤ 1000 ∧ mo ≤ 1000 ∧
  ∀ (D : Addr) (kW : List (List Key × V)) (Fs : List (List Nat)) (H' : Hp), H' D = some (.dT kW) → WordsA t x kW Fs → kW.length ≤ 2000 → Fs.Nodup → (∀ r ∈ Fs, (∀ z ∈ r, z < t.length) ∧ r.length = t.length) → Same H H' → Q (.ref D) H'
section
variable {P : Program} {w : World} {K : PySem.W.Frag} {mg : Str → Option Value} {base : Heap}
theorem ok_actwords {f g g2 : Addr} {fd gd gd2 : FuncData} (F : Fun K "action_words" "action_words" sActWords f fd) (G : Fun K "unmoved" "unmoved" sUnmoved g gd) (bG : Binds K gd ["table"] []) (mG : mg "unmoved" = some (.ref g)) (G2 : Fun K "led_on" "led_on" sLedOn g2 gd2) (b2 : Binds K gd2 ["table", "states", "column"] []) (m2 : mg "led_on" = some (.ref g2)) (M : TxM mg) (hE : mg "enumerate" = none) :
    FnOk P w K mg base CX0 2 f fd ["table", "letters", "most"] (spActWords K) := by
  have GU : FnOk P w K mg base CX0 1 g gd ["table"] (spUnmoved K) := ok_unmoved G M
  have GL : FnOk P w K mg base CX0 1 g2 gd2 ["table", "states", "column"] (spLedOn K) := ok_ledon G2 M
  refine F.ok scAW (fun vs H Q E h => ?_) (fun cdv A outer s H vs Q E hr h => ?_)
  · obtain ⟨a, x, us, t, m, mo, rfl, _⟩ := h
    rfl
  · obtain ⟨a, x, us, t, m, mo, rfl, ha, hT, tb, st, hm2, tl, hmo, k⟩ := h
    have hu := hu_of hr
    have hu0 : (A.deeper (PyProof.Rows.envOfC "action_words" (defScope sActWords) s.heap.objs.size f cdv)).units < cLine := Nat.lt_of_succ_lt hu
    refine ⟨_, pss_cons (ps_set (i := 3) scAW.nd rfl (Or.inl rfl) (NvQ.pe_disp1 hu0 (pe_call GU hr rfl mG G.kp bG .nil pass0 (pa_cons (pv 0) pa_nil)) pe_str))
      (pss_cons (ps_set (i := 4) scAW.nd rfl (Or.inl rfl) (pe_lst (pa_cons (pe_call GU hr rfl mG G.kp bG .nil pass0 (pa_cons (pv 0) pa_nil)) pa_nil)))
      (pss_cons (ps_set (i := 5) scAW.nd rfl (Or.inl rfl) pe_int)
      (pss_cons (ps_while PassesOwn.never (pt_chain op_lt op_le (pv 5) (pe_callB call_len_seq (by rfl) M.len PySem.boot_len (pa_cons (pv 4) pa_nil)) (pv 2))
        (pss_cons (ps_for PassesOwn.never rfl (NvY.pi_enumS rfl hE (pa_cons (pv 1) pa_nil)) (pg_tup rfl (pgs_cons (pg_name (i := 6) scAW.nd rfl (Or.inl rfl)) (pgs_cons (pg_name (i := 7) scAW.nd rfl (Or.inl rfl)) pgs_nil)))
          (pss_cons (ps_set (i := 8) scAW.nd rfl (Or.inl rfl) (pe_call GL hr rfl m2 G2.kp b2 .nil pass0 (pa_cons (pv 0) (pa_cons (pe_ix ix_list (pv 4) (pv 5) (fun _ _ => rfl)) (pa_cons (pv 6) pa_nil)))))
          (pss_one (ps_if (pt_cmp (pc_dnotin hu (pv 8) (pv 3)))
            (pss_cons (ps_dput hu (pv 3) (pv 8) (pe_op op_add_str (pe_dget hu (pv 3) (pe_ix ix_list (pv 4) (pv 5) (fun _ _ => rfl)) (fun _ _ => rfl)) (pv 7)) rfl)
            (pss_one (ps_expr (pe_bm PySem.F.plainAttrs_list PySem.F.slot_list_append PySem.F.type_list_append mt_append (pv 4) (pa_cons (pv 8) pa_nil))))) pss_nil))))
        (pss_one (ps_aug (i := 5) scAW.nd rfl (.inl rfl) pe_int ip_add))))
      (pss_one (ps_ret (pv 3)))))), ?_⟩
    have lu : us.length = t.length := hT.1
    have hm : x.cps.toList.length = m := by
      have := set_len st
      simpa [Str.length] using this
    have free : ∀ {H9 : Hp} {q : Addr}, Same H H9 → H9 q = none → H q = none := fun {H9 q} sx hq => by
      cases e : H q with
      | none => rfl
      | some o =>
        have := sx _ _ e
        rw [hq] at this
        cases this
    intro LW nLW
    have s0 : Same H (upd H LW (.dT [])) := Same.new (Same.refl H) nLW
    refine ⟨_, rfl, a, us, rfl, sqt_same s0 ha, by omega, fun p0 H1 np h1 s1 => ?_⟩
    rw [lu] at h1
    have hW1 : H1 LW = some (.dT []) := s1 _ _ upd_same
    have pW : p0 ≠ LW := ne_of h1 hW1 (fun z => by cases z)
    refine ⟨p0, key (List.range t.length), .str "", rfl, hW1, by rw [key_tup]; exact h1, ?_⟩
    have hW2 : (upd H1 LW (.dT [(key (List.range t.length), .str "")])) LW = some (.dT [(key (List.range t.length), .str "")]) := upd_same
    have sx : Same H (upd H1 LW (.dT [(key (List.range t.length), .str "")])) := fun b o h => by
      rw [upd_ne (ne_of_none h nLW)]
      exact (s0.trans s1) _ _ h
    generalize upd H1 LW (.dT [(key (List.range t.length), .str "")]) = H2 at hW2 sx ⊢
    clear h1 hW1 pW s1 np
    refine ⟨_, rfl, a, us, rfl, sqt_same sx ha, by omega, fun p1 H3 np h3 s3 => ⟨(by show 1 ≤ sizeLine; decide), fun LF nLF => ?_⟩⟩
    rw [lu] at h3
    have fLF : H LF = none := free (sx.trans s3) nLF
    have hF4 : (upd H3 LF (.lst [.ref p1])) LF = some (.lst [.ref p1]) := upd_same
    have hp4 : (upd H3 LF (.lst [.ref p1])) p1 = some (.tup (nts (List.range t.length))) := keep_new h3 nLF
    have hW4 : (upd H3 LF (.lst [.ref p1])) LW = some (.dT [(key (List.range t.length), .str "")]) := keep_new (s3 _ _ hW2) nLF
    have s4 : Same H (upd H3 LF (.lst [.ref p1])) := Same.new (sx.trans s3) nLF
    generalize upd H3 LF (.lst [.ref p1]) = H4 at hF4 hp4 hW4 s4 ⊢
    clear h3 s3 nLF np hW2 sx
    have FW : LF ≠ LW := ne_of hF4 hW4 (fun z => by cases z)
    refine while_by (fun σ H' => ∃ (us' : List V) (Fs : List (List Nat)) (kW : List (List Key × V)) (at' : Nat) (v1 v2 v3 : Option V), σ = [some (.ref a), some (.str x), some (.int (mo : Nat)), some (.ref LW), some (.ref LF), some (.int (at' : Nat)), v1, v2, v3] ∧
        H' LF = some (.lst us') ∧ H' LW = some (.dT kW) ∧ RowsA H' us' Fs ∧ WordsA t x kW Fs ∧ (∀ r ∈ Fs, (∀ z ∈ r, z < t.length) ∧ r.length = t.length) ∧ Fs.length ≤ mo + 2 ∧ Fs.Nodup ∧ Same H H')
      (fun σ H' => match σ with | [_, _, _, _, _, some (.int i), _, _, _] => mo + 1 - i.toNat | _ => 0)
      ⟨[.ref p1], [List.range t.length], _, 0, none, none, none, rfl, hF4, hW4, ?_, ?_, ?_, (by show 1 ≤ mo + 2; omega), (by simp), s4⟩ ?_ ?_
    · exact ⟨rfl, fun i r e => by
        match i, e with
        | 0, e => exact ⟨p1, rfl, by cases e; exact hp4⟩⟩
    · refine ⟨fun i r e => ?_, Nat.le_refl _⟩
      match i, e with
      | 0, e =>
        cases e
        have e0 : ("" : Str).cps.toList = [] := by decide +kernel
        refine ⟨"", valV_pos rfl, fun c hc => ?_, by rw [e0, act_nil], by decide +kernel⟩
        rw [e0] at hc
        cases hc
    · intro r hr'
      rw [List.mem_singleton.mp hr']
      exact ⟨fun z hz => List.mem_range.mp hz, List.length_range⟩
    · rintro σ H5 ⟨us', Fs, kW, at', v1, v2, v3, rfl, hF, hW, RA, WA, wf, lf, nd, sH⟩
      refine ⟨_, rfl, _, rfl, LF, us', rfl, .inl (SqL.of hF), _, _, rfl, rfl, _, rfl, ?_⟩
      rw [RA.1]
      have stop : kW.length ≤ 2000 := by have := WA.len; omega
      refine ite2 (fun h1 => ?_) (fun h1 => ?_)
      · refine ⟨_, rfl, _, _, rfl, rfl, _, rfl, ?_⟩
        have h1 : at' < Fs.length := by
          have := of_decide_eq_true h1
          omega
        refine ite2 (fun h2 => ?_) (fun h2 => ?_)
        · have h2 : Fs.length ≤ mo := by
            have := of_decide_eq_true h2
            omega
          refine ⟨_, rfl, x, rfl, for_it NvY.walk_enumS (fun j σ H' => ∃ (us' : List V) (Fs : List (List Nat)) (kW : List (List Key × V)) (v1 v2 v3 : Option V), σ = [some (.ref a), some (.str x), some (.int (mo : Nat)), some (.ref LW), some (.ref LF), some (.int (at' : Nat)), v1, v2, v3] ∧
              H' LF = some (.lst us') ∧ H' LW = some (.dT kW) ∧ RowsA H' us' Fs ∧ WordsA t x kW Fs ∧ (∀ r ∈ Fs, (∀ z ∈ r, z < t.length) ∧ r.length = t.length) ∧ Fs.length ≤ mo + j ∧ at' < Fs.length ∧ Fs.Nodup ∧ Same H H')
            ⟨us', Fs, kW, v1, v2, v3, rfl, hF, hW, RA, WA, wf, by omega, h1, nd, sH⟩ (fun _ _ _ _ _ => trivial) ?_ ?_⟩
          · rintro j v σ H6 H7 hj ⟨us', Fs, kW, v1, v2, v3, rfl, hF, hW, RA, WA, wf, lf, la, nd, sH⟩ ⟨T, c, rfl, nT, rfl, hc⟩
            have hc' : x.cps.toList[j]? = some c := by simpa using hc
            have cx : c ∈ x.cps.toList := List.mem_of_getElem? hc'
            have jm : j < m := by
              have : x.cps.toList.length = m := hm
              have e : x.cps.toList.length = x.cps.size := by simp
              omega
            have ej : x.cps.toList.idxOf c = j := set_ix st hm2 hc'
            obtain ⟨bq, b1, b2'⟩ := RA.2 at' _ (List.getElem?_eq_getElem la)
            obtain ⟨w1, w2⟩ := wf _ (List.getElem_mem la)
            obtain ⟨wd, d1, d2, d3, d4⟩ := WA.has at' _ (List.getElem?_eq_getElem la)
            generalize Fs[at'] = r at b2' w1 w2 d1 d3
            refine ⟨T, _, rfl, SqT.of upd_same, rfl, _, _, rfl, _, _, rfl, rfl, ?_⟩
            have hF := keep_new (u := .tup [.int (j : Nat), .str ⟨#[c]⟩]) hF nT
            have hW := keep_new (u := .tup [.int (j : Nat), .str ⟨#[c]⟩]) hW nT
            have b2' := keep_new (u := .tup [.int (j : Nat), .str ⟨#[c]⟩]) b2' nT
            have RA := RA.to (H' := upd H6 T (.tup [.int (j : Nat), .str ⟨#[c]⟩])) (fun b ys h => keep_new h nT)
            have sH : Same H (upd H6 T (.tup [.int (j : Nat), .str ⟨#[c]⟩])) := Same.new sH nT
            generalize upd H6 T (.tup [.int (j : Nat), .str ⟨#[c]⟩]) = H8 at hF hW b2' RA sH ⊢
            refine ⟨_, rfl, _, rfl, _, rfl, LF, us', _, _, rfl, rfl, SqL.of hF, atI_nat b1, _, rfl, a, bq, us, t, r, j, m, rfl, sqt_same sH ha, hT.same sH, tb, SqT.of b2', w1, by omega, jm, fun g H9 ng hg sg => ?_⟩
            have hF := sg _ _ hF
            have hW := sg _ _ hW
            have RA := RA.to (H' := H9) (fun b ys h => sg _ _ h)
            have sH := sH.trans sg
            have lw := ledon_lt tb jm w1
            have ll : (ledon t r j).length = t.length := by
              unfold ledon
              rw [List.length_map, w2]
            have hg' : H9 g = some (.tup ((key (ledon t r j)).map kV)) := by rw [key_tup]; exact hg
            refine ⟨_, rfl, _, rfl, LW, _, rfl, DGet.t (k := key (ledon t r j)) hW hg', _, rfl, ?_⟩
            have sz : (100000 : Nat) < sizeLine := by decide
            cases e : valV kW (key (ledon t r j)) with
            | some v =>
              refine iteF ?_
              exact ⟨us', Fs, kW, _, _, _, rfl, hF, hW, RA, WA, wf, by omega, la, nd, sH⟩
            | none =>
              refine iteT ?_
              obtain ⟨bq', e1, e2⟩ := RA.2 at' _ (List.getElem?_eq_getElem la)
              have bb : bq' = bq := by
                rw [b1] at e1
                exact (V.ref.inj (Option.some.inj e1)).symm
              subst bb
              have b3 := sg _ _ b2'
              have G : DGet H9 LW (.ref bq') (some (.str wd)) := by
                have q := DGet.t (k := key r) hW (by rw [key_tup]; exact b3)
                rw [d1] at q
                exact q
              have wl : wd.length + (⟨#[c]⟩ : Str).length ≤ sizeLine := by
                have : (⟨#[c]⟩ : Str).length = 1 := rfl
                omega
              refine ⟨_, rfl, _, rfl, _, rfl, LF, us', _, _, rfl, rfl, SqL.of hF, atI_nat b1, LW, _, rfl, G, _, rfl, wd, ⟨#[c]⟩, rfl, rfl, wl, _, rfl, _, rfl, LW, _, rfl, DPut.t hW hg' (by have := WA.len; omega), ?_⟩
              have gF : g ≠ LF := ne_of hg hF (fun z => by cases z)
              have gW : g ≠ LW := ne_of hg hW (fun z => by cases z)
              have FW : LF ≠ LW := ne_of hF hW (fun z => by cases z)
              have WA2 := WA.put (c := c) e d2 d3 cx (by rw [ej]) d4 la
              have hFa : (upd H9 LW (.dT (putK kW (key (ledon t r j)) (.str (wd ++ ⟨#[c]⟩))))) LF = some (.lst us') := by rw [upd_ne FW]; exact hF
              have lF : us'.length = Fs.length := RA.1
              refine ⟨_, rfl, .inl ⟨rfl, _, SqL.of hFa⟩, _, rfl, LF, us', .ref g, rfl, rfl, hFa, (by omega), ?_⟩
              refine ⟨us' ++ [.ref g], Fs ++ [ledon t r j], putK kW (key (ledon t r j)) (.str (wd ++ ⟨#[c]⟩)), _, _, _, rfl, upd_same, ?_, ?_, WA2, ?_, ?_, ?_, ?_, ?_⟩
              · rw [upd_ne (Ne.symm FW)]
                exact upd_same
              · refine (RA.to fun b ys h => ?_).snoc ?_
                · rw [upd_ne (ne_of h hF (fun z => by cases z)), upd_ne (ne_of h hW (fun z => by cases z))]
                  exact h
                · rw [upd_ne gF, upd_ne gW]
                  exact hg
              · intro r' hr2
                rcases List.mem_append.mp hr2 with q | q
                · exact wf r' q
                · rw [List.mem_singleton.mp q]
                  exact ⟨lw, ll⟩
              · rw [List.length_append]
                show Fs.length + 1 ≤ _
                omega
              · rw [List.length_append]
                omega
              · rw [List.nodup_append]
                refine ⟨nd, by simp, fun y hy z hz q => ?_⟩
                rw [List.mem_singleton.mp hz] at q
                obtain ⟨i', hi', ei'⟩ := List.getElem_of_mem hy
                obtain ⟨w', h1', _⟩ := WA.has i' y (by rw [List.getElem?_eq_getElem hi', ei'])
                rw [q, e] at h1'
                cases h1'
              · intro b o h
                rw [upd_ne (ne_of_none h fLF), upd_ne (ne_of_none h nLW)]
                exact sH _ _ h
          · rintro σ H6 ⟨us', Fs, kW, v1, v2, v3, rfl, hF, hW, RA, WA, wf, lf, la, nd, sH⟩
            have xs2 : x.cps.size ≤ 2 := by
              have e : x.cps.toList.length = x.cps.size := by simp
              omega
            refine ⟨_, rfl, _, _, rfl, rfl, ⟨us', Fs, kW, at' + 1, v1, v2, v3, rfl, hF, hW, RA, WA, wf, by omega, nd, sH⟩, ?_⟩
            show mo + 1 - (at' + 1) < mo + 1 - at'
            omega
        · exact ⟨_, rfl, k LW kW Fs H5 hW WA stop nd wf sH⟩
      · exact ⟨_, rfl, iteF ⟨_, rfl, k LW kW Fs H5 hW WA stop nd wf sH⟩⟩
    · rintro σ H1 Q1 Q2 hq h
      obtain ⟨v1, hv1, v2, hv2, p, ys, hp, hs, i1, i2, c1, c2, b, hb, hh⟩ := h
      refine ⟨v1, hv1, v2, hv2, p, ys, hp, hs, i1, i2, c1, c2, b, hb, ?_⟩
      cases b with
      | true =>
        obtain ⟨v3, hv3, j1, j2, d1, d2, b2, hb2, hh⟩ := hh
        exact ⟨v3, hv3, j1, j2, d1, d2, b2, hb2, hq _ _ hh⟩
      | false =>
        obtain ⟨b2, hb2, hh⟩ := hh
        exact ⟨b2, hb2, hq _ _ hh⟩
end
end M3

set_option Elab.async false
set_option linter.all false
set_option maxRecDepth 100000
set_option maxHeartbeats 8000000
/-! # The actions of all words: just what action_words gives, by a function on lists -/
namespace M3
open PySem L2
/-- one action further by one letter, if it is new -/
def addA (t : List (List Nat)) (r : List Nat) (w : Str) (j c : Nat) (F : List (List Nat × Str)) : List (List Nat × Str) :=
  if ledon t r j ∈ F.map Prod.fst then F else F ++ [(ledon t r j, w ++ ⟨#[c]⟩)]
/-- .. by the first letters, so many -/
def rowA (t : List (List Nat)) (x : Str) (r : List Nat) (w : Str) (F : List (List Nat × Str)) : Nat → List (List Nat × Str)
  | 0 => F
  | j + 1 => addA t r w j (x.cps.toList.getD j 0) (rowA t x r w F j)
/-- one found action after the other -/
def bfsL (t : List (List Nat)) (x : Str) (mo : Nat) : Nat → Nat → List (List Nat × Str) → List (List Nat × Str)
  | 0, _, F => F
  | n + 1, i, F => match F[i]? with
    | none => F
    | some z => if F.length ≤ mo then bfsL t x mo n (i + 1) (rowA t x z.1 z.2 F x.cps.size) else F
/-- the actions in the order of their words, with these -/
def bfs (t : List (List Nat)) (x : Str) (mo : Nat) : List (List Nat × Str) := bfsL t x mo (mo + 1) 0 [(List.range t.length, "")]
def ents (F : List (List Nat × Str)) : List (List Key × V) := F.map fun z => (key z.1, V.str z.2)
theorem ents_none {s : List Nat} : ∀ {F : List (List Nat × Str)}, s ∉ F.map Prod.fst → valV (ents F) (key s) = none
  | [], _ => valV_nil
  | z :: F, h => by
    have h1 : ¬ key z.1 = key s := fun e => h (by rw [← key_inj e]; exact List.mem_cons_self)
    show valV ((key z.1, V.str z.2) :: ents F) (key s) = none
    rw [valV_neg h1]
    exact ents_none fun h2 => h (List.mem_cons_of_mem _ h2)
theorem ents_some {s : List Nat} : ∀ {F : List (List Nat × Str)}, s ∈ F.map Prod.fst → ∃ w, valV (ents F) (key s) = some (.str w)
  | z :: F, h => by
    by_cases h1 : key z.1 = key s
    · exact ⟨z.2, valV_pos h1⟩
    · show ∃ w, valV ((key z.1, V.str z.2) :: ents F) (key s) = some (.str w)
      rw [valV_neg h1]
      rcases List.mem_cons.mp h with h2 | h2
      · rw [h2] at h1
        exact absurd rfl h1
      · exact ents_some h2
theorem ents_at {F : List (List Nat × Str)} (nd : (F.map Prod.fst).Nodup) : ∀ {i : Nat} {z : List Nat × Str}, F[i]? = some z → valV (ents F) (key z.1) = some (.str z.2) := by
  induction F with
  | nil =>
    intro i z h
    cases h
  | cons y F ih =>
    intro i z h
    have nd' : y.1 ∉ F.map Prod.fst ∧ (F.map Prod.fst).Nodup := List.nodup_cons.mp nd
    cases i with
    | zero =>
      cases h
      exact valV_pos rfl
    | succ i =>
      have h : F[i]? = some z := h
      have ne : ¬ key y.1 = key z.1 := fun e => nd'.1 (by
        rw [key_inj e]
        exact List.mem_map.mpr ⟨z, List.mem_of_getElem? h, rfl⟩)
      show valV ((key y.1, V.str y.2) :: ents F) (key z.1) = _
      rw [valV_neg ne]
      exact ih nd'.2 h
theorem put_new {s : List Nat} {w : Str} {F : List (List Nat × Str)} (h : s ∉ F.map Prod.fst) : putK (ents F) (key s) (.str w) = ents (F ++ [(s, w)]) := by
  rw [putK_new _ (ents_none h)]
  unfold ents
  rw [List.map_append]
  rfl
theorem addA_old {t : List (List Nat)} {r : List Nat} {w : Str} {j c : Nat} {F : List (List Nat × Str)} (h : ledon t r j ∈ F.map Prod.fst) : addA t r w j c F = F := if_pos h
theorem addA_new {t : List (List Nat)} {r : List Nat} {w : Str} {j c : Nat} {F : List (List Nat × Str)} (h : ledon t r j ∉ F.map Prod.fst) : addA t r w j c F = F ++ [(ledon t r j, w ++ ⟨#[c]⟩)] := if_neg h
theorem addA_at {t : List (List Nat)} {r : List Nat} {w : Str} {j c i : Nat} {z : List Nat × Str} {F : List (List Nat × Str)} (h : F[i]? = some z) : (addA t r w j c F)[i]? = some z := by
  unfold addA
  split
  · exact h
  · exact at_app h _
theorem rowA_at {t : List (List Nat)} {x : Str} {r : List Nat} {w : Str} {i : Nat} {z : List Nat × Str} {F : List (List Nat × Str)} (h : F[i]? = some z) : ∀ n, (rowA t x r w F n)[i]? = some z
  | 0 => h
  | n + 1 => addA_at (rowA_at h n)
theorem addA_nodup {t : List (List Nat)} {r : List Nat} {w : Str} {j c : Nat} {F : List (List Nat × Str)} (h : (F.map Prod.fst).Nodup) : ((addA t r w j c F).map Prod.fst).Nodup := by
  unfold addA
  split
  · exact h
  · rename_i n
    rw [List.map_append, List.nodup_append]
    refine ⟨h, by simp, fun y hy z hz q => ?_⟩
    have hz : z ∈ [ledon t r j] := hz
    rw [List.mem_singleton.mp hz] at q
    rw [q] at hy
    exact n hy
theorem rowA_nodup {t : List (List Nat)} {x : Str} {r : List Nat} {w : Str} {F : List (List Nat × Str)} (h : (F.map Prod.fst).Nodup) : ∀ n, ((rowA t x r w F n).map Prod.fst).Nodup
  | 0 => h
  | n + 1 => addA_nodup (rowA_nodup h n)
theorem addA_len {t : List (List Nat)} {r : List Nat} {w : Str} {j c : Nat} {F : List (List Nat × Str)} : (addA t r w j c F).length ≤ F.length + 1 := by
  unfold addA
  split
  · omega
  · rw [List.length_append]
    exact Nat.le_refl _
theorem rowA_len {t : List (List Nat)} {x : Str} {r : List Nat} {w : Str} {F : List (List Nat × Str)} : ∀ n, (rowA t x r w F n).length ≤ F.length + n
  | 0 => Nat.le_refl _
  | n + 1 => by
    have := rowA_len (t := t) (x := x) (r := r) (w := w) (F := F) n
    have h := addA_len (t := t) (r := r) (w := w) (j := n) (c := x.cps.toList.getD n 0) (F := rowA t x r w F n)
    show (addA t r w n (x.cps.toList.getD n 0) (rowA t x r w F n)).length ≤ _
    omega
/-- what is kept of each found action: lines of states, short words of the letters -/
def FoundA (t : List (List Nat)) (x : Str) (F : List (List Nat × Str)) : Prop := ∀ (i : Nat) (z : List Nat × Str), F[i]? = some z → (∀ q ∈ z.1, q < t.length) ∧ z.1.length = t.length ∧ IsW x z.2 ∧ z.1 = act t x z.2.cps.toList ∧ z.2.length ≤ i
theorem addA_found {t : List (List Nat)} {x : Str} {m : Nat} (tb : IsTab t t.length m) {F : List (List Nat × Str)} {i j c : Nat} {z : List Nat × Str} (h : FoundA t x F) (hz : F[i]? = some z) {G : List (List Nat × Str)} (hG : FoundA t x G) (hi : i < G.length) (hj : j < m) (hc : c ∈ x.cps.toList) (ej : x.cps.toList.idxOf c = j) : FoundA t x (addA t z.1 z.2 j c G) := by
  unfold addA
  split
  · exact hG
  · intro k y hy
    obtain ⟨z1, z2, z3, z4, z5⟩ := h i z hz
    rcases snoc_at hy with hy | ⟨rfl, rfl⟩
    · exact hG k y hy
    · have sn := snoc_cps z.2 c
      refine ⟨ledon_lt tb hj z1, ?_, fun d hd => ?_, ?_, ?_⟩
      · show (ledon t z.1 j).length = _
        unfold ledon
        rw [List.length_map, z2]
      · have hd : d ∈ (z.2 ++ (⟨#[c]⟩ : Str)).cps.toList := hd
        rw [sn] at hd
        rcases List.mem_append.mp hd with q | q
        · exact z3 d q
        · rw [List.mem_singleton.mp q]
          exact hc
      · show ledon t z.1 j = act t x (z.2 ++ (⟨#[c]⟩ : Str)).cps.toList
        rw [sn, act_snoc, ej, ← z4]
      · show (z.2.cps ++ #[c]).size ≤ G.length
        have : z.2.cps.size ≤ i := z5
        simp
        omega
def spActWordsE (K : PySem.W.Frag) : Sp := fun vs H Q _ => ∃ (a : Addr) (x : Str) (us : List V) (t : List (List Nat)) (m mo : Nat), vs = [.ref a, .str x, .int mo] ∧ SqT K H a us ∧ Tups K H us t ∧ IsTab t t.length m ∧ IsSet x m ∧ m ≤ 2 ∧ t.length ≤ 1000 ∧ mo ≤ 1000 ∧
  ∀ (D : Addr) (H' : Hp), H' D = some (.dT (ents (bfs t x mo))) → Same H H' → Q (.ref D) H'
theorem getD_some' {l : List Nat} {q v : Nat} (h : l[q]? = some v) : l.getD q 0 = v := by
  rw [List.getD_eq_getElem?_getD, h]
  rfl
theorem bfsL_stop {t : List (List Nat)} {x : Str} {mo i : Nat} {F : List (List Nat × Str)} (h : F.length ≤ i ∨ mo < F.length) : ∀ n, bfsL t x mo n i F = F
  | 0 => rfl
  | n + 1 => by
    show (match F[i]? with
      | none => F
      | some z => if F.length ≤ mo then bfsL t x mo n (i + 1) (rowA t x z.1 z.2 F x.cps.size) else F) = F
    rcases h with h | h
    · rw [List.getElem?_eq_none h]
    · split
      · rfl
      · exact if_neg (by omega)
section
variable {P : Program} {w : World} {K : PySem.W.Frag} {mg : Str → Option Value} {base : Heap}
theorem ok_actwordsE {f g g2 : Addr} {fd gd gd2 : FuncData} (F : Fun K "action_words" "action_words" sActWords f fd) (G : Fun K "unmoved" "unmoved" sUnmoved g gd) (bG : Binds K gd ["table"] []) (mG : mg "unmoved" = some (.ref g)) (G2 : Fun K "led_on" "led_on" sLedOn g2 gd2) (b2 : Binds K gd2 ["table", "states", "column"] []) (m2 : mg "led_on" = some (.ref g2)) (M : TxM mg) (hE : mg "enumerate" = none) :
    FnOk P w K mg base CX0 2 f fd ["table", "letters", "most"] (spActWordsE K) := by
  have GU : FnOk P w K mg base CX0 1 g gd ["table"] (spUnmoved K) := ok_unmoved G M
  have GL : FnOk P w K mg base CX0 1 g2 gd2 ["table", "states", "column"] (spLedOn K) := ok_ledon G2 M
  refine F.ok scAW (fun vs H Q E h => ?_) (fun cdv A outer s H vs Q E hr h => ?_)
  · obtain ⟨a, x, us, t, m, mo, rfl, _⟩ := h
    rfl
  · obtain ⟨a, x, us, t, m, mo, rfl, ha, hT, tb, st, hm2, tl, hmo, k⟩ := h
    have hu := hu_of hr
    have hu0 : (A.deeper (PyProof.Rows.envOfC "action_words" (defScope sActWords) s.heap.objs.size f cdv)).units < cLine := Nat.lt_of_succ_lt hu
    refine ⟨_, pss_cons (ps_set (i := 3) scAW.nd rfl (Or.inl rfl) (NvQ.pe_disp1 hu0 (pe_call GU hr rfl mG G.kp bG .nil pass0 (pa_cons (pv 0) pa_nil)) pe_str))
      (pss_cons (ps_set (i := 4) scAW.nd rfl (Or.inl rfl) (pe_lst (pa_cons (pe_call GU hr rfl mG G.kp bG .nil pass0 (pa_cons (pv 0) pa_nil)) pa_nil)))
      (pss_cons (ps_set (i := 5) scAW.nd rfl (Or.inl rfl) pe_int)
      (pss_cons (ps_while PassesOwn.never (pt_chain op_lt op_le (pv 5) (pe_callB call_len_seq (by rfl) M.len PySem.boot_len (pa_cons (pv 4) pa_nil)) (pv 2))
        (pss_cons (ps_for PassesOwn.never rfl (NvY.pi_enumS rfl hE (pa_cons (pv 1) pa_nil)) (pg_tup rfl (pgs_cons (pg_name (i := 6) scAW.nd rfl (Or.inl rfl)) (pgs_cons (pg_name (i := 7) scAW.nd rfl (Or.inl rfl)) pgs_nil)))
          (pss_cons (ps_set (i := 8) scAW.nd rfl (Or.inl rfl) (pe_call GL hr rfl m2 G2.kp b2 .nil pass0 (pa_cons (pv 0) (pa_cons (pe_ix ix_list (pv 4) (pv 5) (fun _ _ => rfl)) (pa_cons (pv 6) pa_nil)))))
          (pss_one (ps_if (pt_cmp (pc_dnotin hu (pv 8) (pv 3)))
            (pss_cons (ps_dput hu (pv 3) (pv 8) (pe_op op_add_str (pe_dget hu (pv 3) (pe_ix ix_list (pv 4) (pv 5) (fun _ _ => rfl)) (fun _ _ => rfl)) (pv 7)) rfl)
            (pss_one (ps_expr (pe_bm PySem.F.plainAttrs_list PySem.F.slot_list_append PySem.F.type_list_append mt_append (pv 4) (pa_cons (pv 8) pa_nil))))) pss_nil))))
        (pss_one (ps_aug (i := 5) scAW.nd rfl (.inl rfl) pe_int ip_add))))
      (pss_one (ps_ret (pv 3)))))), ?_⟩
    have lu : us.length = t.length := hT.1
    have hm : x.cps.toList.length = m := by
      have := set_len st
      simpa [Str.length] using this
    have free : ∀ {H9 : Hp} {q : Addr}, Same H H9 → H9 q = none → H q = none := fun {H9 q} sx hq => by
      cases e : H q with
      | none => rfl
      | some o =>
        have := sx _ _ e
        rw [hq] at this
        cases this
    intro LW nLW
    have s0 : Same H (upd H LW (.dT [])) := Same.new (Same.refl H) nLW
    refine ⟨_, rfl, a, us, rfl, sqt_same s0 ha, by omega, fun p0 H1 np h1 s1 => ?_⟩
    rw [lu] at h1
    have hW1 : H1 LW = some (.dT []) := s1 _ _ upd_same
    have pW : p0 ≠ LW := ne_of h1 hW1 (fun z => by cases z)
    refine ⟨p0, key (List.range t.length), .str "", rfl, hW1, by rw [key_tup]; exact h1, ?_⟩
    have hW2 : (upd H1 LW (.dT [(key (List.range t.length), .str "")])) LW = some (.dT [(key (List.range t.length), .str "")]) := upd_same
    have sx : Same H (upd H1 LW (.dT [(key (List.range t.length), .str "")])) := fun b o h => by
      rw [upd_ne (ne_of_none h nLW)]
      exact (s0.trans s1) _ _ h
    generalize upd H1 LW (.dT [(key (List.range t.length), .str "")]) = H2 at hW2 sx ⊢
    clear h1 hW1 pW s1 np
    refine ⟨_, rfl, a, us, rfl, sqt_same sx ha, by omega, fun p1 H3 np h3 s3 => ⟨(by show 1 ≤ sizeLine; decide), fun LF nLF => ?_⟩⟩
    rw [lu] at h3
    have fLF : H LF = none := free (sx.trans s3) nLF
    have hF4 : (upd H3 LF (.lst [.ref p1])) LF = some (.lst [.ref p1]) := upd_same
    have hp4 : (upd H3 LF (.lst [.ref p1])) p1 = some (.tup (nts (List.range t.length))) := keep_new h3 nLF
    have hW4 : (upd H3 LF (.lst [.ref p1])) LW = some (.dT [(key (List.range t.length), .str "")]) := keep_new (s3 _ _ hW2) nLF
    have s4 : Same H (upd H3 LF (.lst [.ref p1])) := Same.new (sx.trans s3) nLF
    generalize upd H3 LF (.lst [.ref p1]) = H4 at hF4 hp4 hW4 s4 ⊢
    clear h3 s3 nLF np hW2 sx
    have FW : LF ≠ LW := ne_of hF4 hW4 (fun z => by cases z)
    refine while_by (fun σ H' => ∃ (us' : List V) (F : List (List Nat × Str)) (at' : Nat) (v1 v2 v3 : Option V), σ = [some (.ref a), some (.str x), some (.int (mo : Nat)), some (.ref LW), some (.ref LF), some (.int (at' : Nat)), v1, v2, v3] ∧
        H' LF = some (.lst us') ∧ H' LW = some (.dT (ents F)) ∧ RowsA H' us' (F.map Prod.fst) ∧ FoundA t x F ∧ (F.map Prod.fst).Nodup ∧ F.length ≤ mo + 2 ∧ bfsL t x mo (mo + 1 - at') at' F = bfs t x mo ∧ Same H H')
      (fun σ H' => match σ with | [_, _, _, _, _, some (.int i), _, _, _] => mo + 1 - i.toNat | _ => 0)
      ⟨[.ref p1], [(List.range t.length, "")], 0, none, none, none, rfl, hF4, hW4, ?_, ?_, by simp, (by show 1 ≤ mo + 2; omega), rfl, s4⟩ ?_ ?_
    · exact ⟨rfl, fun i r e => by
        match i, e with
        | 0, e => exact ⟨p1, rfl, by cases e; exact hp4⟩⟩
    · intro i z e
      match i, e with
      | 0, e =>
        cases e
        have e0 : ("" : Str).cps.toList = [] := by decide +kernel
        refine ⟨fun q hq => List.mem_range.mp hq, List.length_range, fun c hc => ?_, by rw [e0, act_nil], (show ("" : Str).length ≤ 0 by decide +kernel)⟩
        rw [e0] at hc
        cases hc
    · rintro σ H5 ⟨us', F, at', v1, v2, v3, rfl, hF, hW, RA, FA, nd, lf, bf, sH⟩
      refine ⟨_, rfl, _, rfl, LF, us', rfl, .inl (SqL.of hF), _, _, rfl, rfl, _, rfl, ?_⟩
      have lus : us'.length = F.length := by rw [RA.1, List.length_map]
      rw [lus]
      refine ite2 (fun h1 => ?_) (fun h1 => ?_)
      · refine ⟨_, rfl, _, _, rfl, rfl, _, rfl, ?_⟩
        have h1 : at' < F.length := by
          have := of_decide_eq_true h1
          omega
        refine ite2 (fun h2 => ?_) (fun h2 => ?_)
        · have h2 : F.length ≤ mo := by
            have := of_decide_eq_true h2
            omega
          have hz : F[at']? = some F[at'] := List.getElem?_eq_getElem h1
          generalize F[at'] = z at hz
          have bf2 : bfsL t x mo (mo + 1 - (at' + 1)) (at' + 1) (rowA t x z.1 z.2 F x.cps.size) = bfs t x mo := by
            rw [← bf, show mo + 1 - at' = (mo + 1 - (at' + 1)) + 1 by omega]
            show _ = (match F[at']? with
              | none => F
              | some z => if F.length ≤ mo then bfsL t x mo (mo + 1 - (at' + 1)) (at' + 1) (rowA t x z.1 z.2 F x.cps.size) else F)
            rw [hz]
            exact (if_pos h2).symm
          refine ⟨_, rfl, x, rfl, for_it NvY.walk_enumS (fun j σ H' => ∃ (us' : List V) (v1 v2 v3 : Option V), σ = [some (.ref a), some (.str x), some (.int (mo : Nat)), some (.ref LW), some (.ref LF), some (.int (at' : Nat)), v1, v2, v3] ∧
              H' LF = some (.lst us') ∧ H' LW = some (.dT (ents (rowA t x z.1 z.2 F j))) ∧ RowsA H' us' ((rowA t x z.1 z.2 F j).map Prod.fst) ∧ FoundA t x (rowA t x z.1 z.2 F j) ∧ Same H H')
            ⟨us', v1, v2, v3, rfl, hF, hW, RA, FA, sH⟩ (fun _ _ _ _ _ => trivial) ?_ ?_⟩
          · rintro j v σ H6 H7 hj ⟨us', v1, v2, v3, rfl, hF, hW, RA, FA2, sH⟩ ⟨T, c, rfl, nT, rfl, hc⟩
            have hc' : x.cps.toList[j]? = some c := by simpa using hc
            have cx : c ∈ x.cps.toList := List.mem_of_getElem? hc'
            have ec : x.cps.toList.getD j 0 = c := getD_some' hc'
            have jm : j < m := by
              have : x.cps.toList.length = m := hm
              have e : x.cps.toList.length = x.cps.size := by simp
              omega
            have ej : x.cps.toList.idxOf c = j := set_ix st hm2 hc'
            have gz : (rowA t x z.1 z.2 F j)[at']? = some z := rowA_at hz j
            have ndj := rowA_nodup (x := x) (r := z.1) (w := z.2) (t := t) nd j
            have lj := rowA_len (x := x) (r := z.1) (w := z.2) (t := t) (F := F) j
            have rw1 : rowA t x z.1 z.2 F (j + 1) = addA t z.1 z.2 j c (rowA t x z.1 z.2 F j) := by
              show addA t z.1 z.2 j (x.cps.toList.getD j 0) _ = _
              rw [ec]
            rw [rw1]
            have FA3 := addA_found tb FA hz FA2 (List.getElem?_eq_some_iff.mp gz).1 jm cx ej
            generalize rowA t x z.1 z.2 F j = G at hW RA FA2 gz ndj lj FA3 ⊢
            have gm : (G.map Prod.fst)[at']? = some z.1 := by
              rw [List.getElem?_map, gz]
              rfl
            obtain ⟨bq, b1, b2'⟩ := RA.2 at' _ gm
            obtain ⟨w1, w2, d2, d3, d4⟩ := FA2 at' z gz
            have d1 := ents_at ndj gz
            refine ⟨T, _, rfl, SqT.of upd_same, rfl, _, _, rfl, _, _, rfl, rfl, ?_⟩
            have hF := keep_new (u := .tup [.int (j : Nat), .str ⟨#[c]⟩]) hF nT
            have hW := keep_new (u := .tup [.int (j : Nat), .str ⟨#[c]⟩]) hW nT
            have b2' := keep_new (u := .tup [.int (j : Nat), .str ⟨#[c]⟩]) b2' nT
            have RA := RA.to (H' := upd H6 T (.tup [.int (j : Nat), .str ⟨#[c]⟩])) (fun b ys h => keep_new h nT)
            have sH : Same H (upd H6 T (.tup [.int (j : Nat), .str ⟨#[c]⟩])) := Same.new sH nT
            generalize upd H6 T (.tup [.int (j : Nat), .str ⟨#[c]⟩]) = H8 at hF hW b2' RA sH ⊢
            refine ⟨_, rfl, _, rfl, _, rfl, LF, us', _, _, rfl, rfl, SqL.of hF, atI_nat b1, _, rfl, a, bq, us, t, z.1, j, m, rfl, sqt_same sH ha, hT.same sH, tb, SqT.of b2', w1, by omega, jm, fun g H9 ng hg sg => ?_⟩
            have hF := sg _ _ hF
            have hW := sg _ _ hW
            have RA := RA.to (H' := H9) (fun b ys h => sg _ _ h)
            have sH := sH.trans sg
            have hg' : H9 g = some (.tup ((key (ledon t z.1 j)).map kV)) := by rw [key_tup]; exact hg
            refine ⟨_, rfl, _, rfl, LW, _, rfl, DGet.t (k := key (ledon t z.1 j)) hW hg', _, rfl, ?_⟩
            have sz : (100000 : Nat) < sizeLine := by decide
            by_cases mem : ledon t z.1 j ∈ G.map Prod.fst
            · obtain ⟨wv, ev⟩ := ents_some mem
              rw [ev]
              refine iteF ?_
              rw [addA_old mem] at FA3 ⊢
              exact ⟨us', _, _, _, rfl, hF, hW, RA, FA2, sH⟩
            · rw [ents_none mem]
              refine iteT ?_
              rw [addA_new mem] at FA3 ⊢
              obtain ⟨bq', e1, e2⟩ := RA.2 at' _ gm
              have bb : bq' = bq := by
                rw [b1] at e1
                exact (V.ref.inj (Option.some.inj e1)).symm
              subst bb
              have b3 := sg _ _ b2'
              have GD : DGet H9 LW (.ref bq') (some (.str z.2)) := by
                have q := DGet.t (k := key z.1) hW (by rw [key_tup]; exact b3)
                rw [d1] at q
                exact q
              have wl : z.2.length + (⟨#[c]⟩ : Str).length ≤ sizeLine := by
                have : (⟨#[c]⟩ : Str).length = 1 := rfl
                have : at' < G.length := (List.getElem?_eq_some_iff.mp gz).1
                omega
              have le : (ents G).length = G.length := List.length_map _
              refine ⟨_, rfl, _, rfl, _, rfl, LF, us', _, _, rfl, rfl, SqL.of hF, atI_nat b1, LW, _, rfl, GD, _, rfl, z.2, ⟨#[c]⟩, rfl, rfl, wl, _, rfl, _, rfl, LW, _, rfl, DPut.t hW hg' (by omega), ?_⟩
              rw [put_new mem]
              have gF : g ≠ LF := ne_of hg hF (fun z => by cases z)
              have gW : g ≠ LW := ne_of hg hW (fun z => by cases z)
              have FW : LF ≠ LW := ne_of hF hW (fun z => by cases z)
              have hFa : (upd H9 LW (.dT (ents (G ++ [(ledon t z.1 j, z.2 ++ ⟨#[c]⟩)])))) LF = some (.lst us') := by rw [upd_ne FW]; exact hF
              have lF : us'.length = G.length := by rw [RA.1, List.length_map]
              refine ⟨_, rfl, .inl ⟨rfl, _, SqL.of hFa⟩, _, rfl, LF, us', .ref g, rfl, rfl, hFa, (by omega), ?_⟩
              refine ⟨us' ++ [.ref g], _, _, _, rfl, upd_same, ?_, ?_, FA3, ?_⟩
              · rw [upd_ne (Ne.symm FW)]
                exact upd_same
              · rw [List.map_append]
                refine (RA.to fun b ys h => ?_).snoc ?_
                · rw [upd_ne (ne_of h hF (fun z => by cases z)), upd_ne (ne_of h hW (fun z => by cases z))]
                  exact h
                · rw [upd_ne gF, upd_ne gW]
                  exact hg
              · intro b o h
                rw [upd_ne (ne_of_none h fLF), upd_ne (ne_of_none h nLW)]
                exact sH _ _ h
          · rintro σ H6 ⟨us', v1, v2, v3, rfl, hF, hW, RA, FA2, sH⟩
            have xs2 : x.cps.size ≤ 2 := by
              have e : x.cps.toList.length = x.cps.size := by simp
              omega
            have lj := rowA_len (x := x) (r := z.1) (w := z.2) (t := t) (F := F) x.cps.size
            refine ⟨_, rfl, _, _, rfl, rfl, ⟨us', _, at' + 1, v1, v2, v3, rfl, hF, hW, RA, FA2, rowA_nodup nd _, by omega, bf2, sH⟩, ?_⟩
            show mo + 1 - (at' + 1) < mo + 1 - at'
            omega
        · have h2 : mo < F.length := by
            by_cases q : mo < F.length
            · exact q
            · exact absurd (decide_eq_true (show ((F.length : Nat) : Int) ≤ ((mo : Nat) : Int) by omega)) h2
          rw [bfsL_stop (.inr h2)] at bf
          rw [bf] at hW
          exact ⟨_, rfl, k LW H5 hW sH⟩
      · have h1 : F.length ≤ at' := by
          by_cases q : F.length ≤ at'
          · exact q
          · exact absurd (decide_eq_true (show ((at' : Nat) : Int) < ((F.length : Nat) : Int) by omega)) h1
        rw [bfsL_stop (.inl h1)] at bf
        rw [bf] at hW
        exact ⟨_, rfl, iteF ⟨_, rfl, k LW H5 hW sH⟩⟩
    · rintro σ H1 Q1 Q2 hq h
      obtain ⟨v1, hv1, v2, hv2, p, ys, hp, hs, i1, i2, c1, c2, b, hb, hh⟩ := h
      refine ⟨v1, hv1, v2, hv2, p, ys, hp, hs, i1, i2, c1, c2, b, hb, ?_⟩
      cases b with
      | true =>
        obtain ⟨v3, hv3, j1, j2, d1, d2, b2, hb2, hh⟩ := hh
        exact ⟨v3, hv3, j1, j2, d1, d2, b2, hb2, hq _ _ hh⟩
      | false =>
        obtain ⟨b2, hb2, hh⟩ := hh
        exact ⟨b2, hb2, hq _ _ hh⟩
end
end M3

set_option Elab.async false
set_option linter.all false
set_option maxRecDepth 100000
set_option maxHeartbeats 8000000
/-! # All actions are found -/
namespace M3
open PySem L2
theorem addA_mem {t : List (List Nat)} {r : List Nat} {w : Str} {j c : Nat} {F : List (List Nat × Str)} {s : List Nat} (h : s ∈ F.map Prod.fst) : s ∈ (addA t r w j c F).map Prod.fst := by
  unfold addA
  split
  · exact h
  · rw [List.map_append]
    exact List.mem_append_left _ h
theorem addA_has {t : List (List Nat)} {r : List Nat} {w : Str} {j c : Nat} {F : List (List Nat × Str)} : ledon t r j ∈ (addA t r w j c F).map Prod.fst := by
  by_cases h : ledon t r j ∈ F.map Prod.fst
  · exact addA_mem h
  · rw [addA_new h, List.map_append]
    exact List.mem_append_right _ List.mem_cons_self
theorem rowA_mem {t : List (List Nat)} {x : Str} {r : List Nat} {w : Str} {F : List (List Nat × Str)} {s : List Nat} (h : s ∈ F.map Prod.fst) : ∀ n, s ∈ (rowA t x r w F n).map Prod.fst
  | 0 => h
  | n + 1 => addA_mem (rowA_mem h n)
theorem rowA_has {t : List (List Nat)} {x : Str} {r : List Nat} {w : Str} {F : List (List Nat × Str)} {j : Nat} : ∀ n, j < n → ledon t r j ∈ (rowA t x r w F n).map Prod.fst
  | 0, h => absurd h (Nat.not_lt_zero _)
  | n + 1, h => by
    by_cases c : j = n
    · subst c
      exact addA_has
    · exact addA_mem (rowA_has n (by omega))
/-- what stands is a beginning of what stands later -/
theorem addA_pre {t : List (List Nat)} {r : List Nat} {w : Str} {j c : Nat} {F : List (List Nat × Str)} {i : Nat} {z : List Nat × Str} (h : (addA t r w j c F)[i]? = some z) (hi : i < F.length) : F[i]? = some z := by
  have := addA_at (t := t) (r := r) (w := w) (j := j) (c := c) (List.getElem?_eq_getElem hi)
  rw [this] at h
  rw [List.getElem?_eq_getElem hi]
  exact h
/-- the first actions have all their followers -/
def ClosedA (t : List (List Nat)) (x : Str) (n : Nat) (F : List (List Nat × Str)) : Prop := ∀ (i : Nat) (z : List Nat × Str), i < n → F[i]? = some z → ∀ j, j < x.cps.size → ledon t z.1 j ∈ F.map Prod.fst
theorem bfsL_closed {t : List (List Nat)} {x : Str} {mo : Nat} : ∀ (n i : Nat) (F : List (List Nat × Str)), mo + 1 ≤ n + i → ClosedA t x i F → (bfsL t x mo n i F).length ≤ mo → ClosedA t x (bfsL t x mo n i F).length (bfsL t x mo n i F)
  | 0, i, F, h, c, l => fun k z hk hz => c k z (by have l : F.length ≤ mo := l; have hk : k < F.length := hk; omega) hz
  | n + 1, i, F, h, c, l => by
    by_cases h1 : F.length ≤ i
    · rw [bfsL_stop (.inl h1)]
      exact fun k z hk hz => c k z (by omega) hz
    · by_cases h2 : mo < F.length
      · rw [bfsL_stop (.inr h2)] at l
        omega
      · have hz : F[i]? = some F[i] := List.getElem?_eq_getElem (by omega)
        generalize F[i] = z at hz
        have e : bfsL t x mo (n + 1) i F = bfsL t x mo n (i + 1) (rowA t x z.1 z.2 F x.cps.size) := by
          show (match F[i]? with
            | none => F
            | some z => if F.length ≤ mo then bfsL t x mo n (i + 1) (rowA t x z.1 z.2 F x.cps.size) else F) = _
          rw [hz]
          exact if_pos (by omega)
        rw [e] at l ⊢
        refine bfsL_closed n (i + 1) _ (by omega) (fun k y hk hy j hj => ?_) l
        by_cases ki : k = i
        · rw [ki, rowA_at hz] at hy
          cases hy
          exact rowA_has _ hj
        · have kF : F[k]? = some F[k] := List.getElem?_eq_getElem (by omega)
          rw [rowA_at kF] at hy
          cases hy
          exact rowA_mem (c k _ (by omega) kF j hj) _
theorem bfsL_at {t : List (List Nat)} {x : Str} {mo : Nat} : ∀ (n i : Nat) (F : List (List Nat × Str)) {k : Nat} {z : List Nat × Str}, F[k]? = some z → (bfsL t x mo n i F)[k]? = some z
  | 0, i, F, k, z, h => h
  | n + 1, i, F, k, z, h => by
    show (match F[i]? with
      | none => F
      | some z => if F.length ≤ mo then bfsL t x mo n (i + 1) (rowA t x z.1 z.2 F x.cps.size) else F)[k]? = some z
    split
    · exact h
    · split
      · exact bfsL_at n (i + 1) _ (rowA_at h _)
      · exact h
theorem bfs_closed {t : List (List Nat)} {x : Str} {mo : Nat} (l : (bfs t x mo).length ≤ mo) : ClosedA t x (bfs t x mo).length (bfs t x mo) :=
  bfsL_closed _ _ _ (by omega) (fun i z h => absurd h (Nat.not_lt_zero _)) l
/-- every word has an action that was found, if they are not too many -/
theorem bfs_all {t : List (List Nat)} {x : Str} {mo m : Nat} (st : IsSet x m) (hm2 : m ≤ 2) (l : (bfs t x mo).length ≤ mo) : ∀ (n : Nat) (w : List Nat), w.length = n → (∀ c ∈ w, c ∈ x.cps.toList) → act t x w ∈ (bfs t x mo).map Prod.fst
  | 0, w, hn, _ => by
    rw [List.eq_nil_of_length_eq_zero hn, act_nil]
    have h : (bfs t x mo)[0]? = some (List.range t.length, ("" : Str)) := bfsL_at _ _ _ rfl
    exact List.mem_map.mpr ⟨_, List.mem_of_getElem? h, rfl⟩
  | n + 1, w, hn, hw => by
    have ne : w ≠ [] := fun e => by rw [e] at hn; cases hn
    have ew := List.dropLast_concat_getLast ne
    have ih := bfs_all st hm2 l n w.dropLast (by rw [List.length_dropLast]; omega) (fun c hc => hw c ((List.dropLast_sublist w).subset hc))
    rw [← ew, act_snoc]
    obtain ⟨z, hz, ez⟩ := List.mem_map.mp ih
    obtain ⟨i, hi, ei⟩ := List.getElem_of_mem hz
    have cx := hw _ (List.getLast_mem ne)
    have hj : x.cps.toList.idxOf (w.getLast ne) < x.cps.size := by
      have := List.idxOf_lt_length_of_mem cx
      simpa using this
    rw [← ez]
    exact bfs_closed l i z hi (by rw [List.getElem?_eq_getElem hi, ei]) _ hj
end M3

set_option Elab.async false
set_option linter.all false
set_option maxRecDepth 100000
set_option maxHeartbeats 8000000
/-! # The word of an action is the first one -/
namespace M3
open PySem L2
/-- the order of words: shorter ones first, then by letters -/
def lessW (a b : List Nat) : Prop := a.length < b.length ∨ (a.length = b.length ∧ a < b)
theorem lessW_trans {a b c : List Nat} (h : lessW a b) (k : lessW b c) : lessW a c := by
  rcases h with h | ⟨h1, h2⟩ <;> rcases k with k | ⟨k1, k2⟩
  · exact .inl (by omega)
  · exact .inl (by omega)
  · exact .inl (by omega)
  · exact .inr ⟨by omega, List.lt_trans h2 k2⟩
theorem lt_snoc : ∀ {a b : List Nat} (c d : Nat), a.length = b.length → a < b → a ++ [c] < b ++ [d]
  | [], [], c, d, _, h => absurd h (by simp)
  | x :: a, y :: b, c, d, hl, h => by
    have hl : a.length = b.length := by simpa using hl
    rw [List.cons_lt_cons_iff] at h
    show x :: (a ++ [c]) < y :: (b ++ [d])
    rw [List.cons_lt_cons_iff]
    rcases h with h | ⟨h1, h2⟩
    · exact .inl h
    · exact .inr ⟨h1, lt_snoc c d hl h2⟩
theorem lt_same : ∀ {a : List Nat} {c d : Nat}, c < d → a ++ [c] < a ++ [d]
  | [], c, d, h => by
    show [c] < [d]
    rw [List.cons_lt_cons_iff]
    exact .inl h
  | x :: a, c, d, h => by
    show x :: (a ++ [c]) < x :: (a ++ [d])
    rw [List.cons_lt_cons_iff]
    exact .inr ⟨rfl, lt_same h⟩
theorem lessW_snoc {a b : List Nat} {c d : Nat} (h : lessW a b) : lessW (a ++ [c]) (b ++ [d]) := by
  rcases h with h | ⟨h1, h2⟩
  · refine .inl ?_
    rw [List.length_append, List.length_append]
    show a.length + 1 < b.length + 1
    omega
  · refine .inr ⟨by rw [List.length_append, List.length_append, h1]; rfl, lt_snoc c d h1 h2⟩
theorem lessW_same {a : List Nat} {c d : Nat} (h : c < d) : lessW (a ++ [c]) (a ++ [d]) := .inr ⟨by simp, lt_same h⟩
theorem lessW_one {a : List Nat} {c : Nat} : lessW a (a ++ [c]) := .inl (by simp)
theorem lessW_irrefl {a : List Nat} (h : lessW a a) : False := by
  rcases h with h | ⟨_, h⟩
  · omega
  · exact List.lt_irrefl a h
theorem lessW_le {a b c d : List Nat} (h : a = b ∨ lessW a b) (k : b = c ∨ lessW b c) : a = c ∨ lessW a c := by
  rcases h with rfl | h <;> rcases k with rfl | k
  · exact .inl rfl
  · exact .inr k
  · exact .inr h
  · exact .inr (lessW_trans h k)
/-- the word of a found action -/
def codes (z : List Nat × Str) : List Nat := z.2.cps.toList
def OrdA (F : List (List Nat × Str)) : Prop := ∀ (a b : Nat) (y z : List Nat × Str), a < b → F[a]? = some y → F[b]? = some z → lessW (codes y) (codes z)
def Asc (x : Str) : Prop := ∀ (i j c d : Nat), i < j → x.cps.toList[i]? = some c → x.cps.toList[j]? = some d → c < d
theorem asc_of {x : Str} {m : Nat} (h : IsSet x m) : Asc x := by
  obtain ⟨cs, rfl, _, hp, _⟩ := h
  intro i j c d ij hi hj
  have hi : cs[i]? = some c := hi
  have hj : cs[j]? = some d := hj
  obtain ⟨i1, i2⟩ := List.getElem?_eq_some_iff.mp hi
  obtain ⟨j1, j2⟩ := List.getElem?_eq_some_iff.mp hj
  rw [← i2, ← j2]
  exact List.pairwise_iff_getElem.mp hp i j i1 j1 ij
/-- the followers of the first i actions are found by words that are not behind theirs -/
structure StageA (t : List (List Nat)) (x : Str) (i : Nat) (F : List (List Nat × Str)) : Prop where
  ord : OrdA F
  bnd : ∀ u, F[i]? = some u → ∀ z ∈ F, ∀ c ∈ x.cps.toList, lessW (codes z) (codes u ++ [c])
  best : ∀ (k : Nat) (u : List Nat × Str), k < i → F[k]? = some u → ∀ (j c : Nat), x.cps.toList[j]? = some c → ∃ y ∈ F, y.1 = ledon t u.1 j ∧ (codes y = codes u ++ [c] ∨ lessW (codes y) (codes u ++ [c]))
structure RowP (t : List (List Nat)) (x : Str) (u : List Nat × Str) (F : List (List Nat × Str)) (n : Nat) (G : List (List Nat × Str)) : Prop where
  ord : OrdA G
  old : ∀ z ∈ G, z ∈ F ∨ ∃ j c, j < n ∧ x.cps.toList[j]? = some c ∧ codes z = codes u ++ [c]
  best : ∀ (j c : Nat), j < n → x.cps.toList[j]? = some c → ∃ y ∈ G, y.1 = ledon t u.1 j ∧ (codes y = codes u ++ [c] ∨ lessW (codes y) (codes u ++ [c]))
theorem row_p {t : List (List Nat)} {x : Str} (asc : Asc x) {i : Nat} {F : List (List Nat × Str)} {u : List Nat × Str} (S : StageA t x i F) (hu : F[i]? = some u) : ∀ n, n ≤ x.cps.size → RowP t x u F n (rowA t x u.1 u.2 F n)
  | 0, _ => ⟨S.ord, fun z hz => .inl hz, fun j c h => absurd h (Nat.not_lt_zero _)⟩
  | n + 1, hn => by
    have R := row_p asc S hu n (by omega)
    have hx : n < x.cps.toList.length := by
      rw [Array.length_toList]
      omega
    have hc : x.cps.toList[n]? = some x.cps.toList[n] := List.getElem?_eq_getElem hx
    have hcm : x.cps.toList[n] ∈ x.cps.toList := List.getElem_mem hx
    generalize hcc : x.cps.toList[n] = c at hc hcm
    have ec : x.cps.toList.getD n 0 = c := getD_some' hc
    have lt : ∀ z ∈ rowA t x u.1 u.2 F n, lessW (codes z) (codes u ++ [c]) := fun z hz => by
      rcases R.old z hz with h | ⟨j, d, hj, hd, e⟩
      · exact S.bnd u hu z h c hcm
      · rw [e]
        exact lessW_same (asc j n d c hj hd hc)
    show RowP t x u F (n + 1) (addA t u.1 u.2 n (x.cps.toList.getD n 0) (rowA t x u.1 u.2 F n))
    rw [ec]
    by_cases mem : ledon t u.1 n ∈ (rowA t x u.1 u.2 F n).map Prod.fst
    · rw [addA_old mem]
      refine ⟨R.ord, fun z hz => ?_, fun j d hj hd => ?_⟩
      · rcases R.old z hz with h | ⟨j, d, hj, hd, e⟩
        · exact .inl h
        · exact .inr ⟨j, d, by omega, hd, e⟩
      · by_cases q : j = n
        · subst q
          rw [hc] at hd
          cases hd
          obtain ⟨y, hy, ey⟩ := List.mem_map.mp mem
          exact ⟨y, hy, ey, .inr (lt y hy)⟩
        · exact R.best j d (by omega) hd
    · rw [addA_new mem]
      have sn : codes (ledon t u.1 n, u.2 ++ ⟨#[c]⟩) = codes u ++ [c] := snoc_cps u.2 c
      refine ⟨fun a b y z ab ha hb => ?_, fun z hz => ?_, fun j d hj hd => ?_⟩
      · rcases snoc_at hb with hb | ⟨rfl, rfl⟩
        · rcases snoc_at ha with ha | ⟨rfl, rfl⟩
          · exact R.ord a b y z ab ha hb
          · have := (List.getElem?_eq_some_iff.mp hb).1
            omega
        · rcases snoc_at ha with ha | ⟨rfl, rfl⟩
          · rw [sn]
            exact lt y (List.mem_of_getElem? ha)
          · omega
      · rcases List.mem_append.mp hz with h | h
        · rcases R.old z h with h | ⟨j, d, hj, hd, e⟩
          · exact .inl h
          · exact .inr ⟨j, d, by omega, hd, e⟩
        · rw [List.mem_singleton.mp h]
          exact .inr ⟨n, c, by omega, hc, sn⟩
      · by_cases q : j = n
        · subst q
          rw [hc] at hd
          cases hd
          exact ⟨_, List.mem_append_right _ List.mem_cons_self, rfl, .inl sn⟩
        · obtain ⟨y, hy, e1, e2⟩ := R.best j d (by omega) hd
          exact ⟨y, List.mem_append_left _ hy, e1, e2⟩
theorem row_stage {t : List (List Nat)} {x : Str} (asc : Asc x) {i : Nat} {F : List (List Nat × Str)} {u : List Nat × Str} (S : StageA t x i F) (hu : F[i]? = some u) : StageA t x (i + 1) (rowA t x u.1 u.2 F x.cps.size) := by
  have R := row_p asc S hu x.cps.size (Nat.le_refl _)
  have iF : i < F.length := (List.getElem?_eq_some_iff.mp hu).1
  have up : ∀ z ∈ F, z ∈ rowA t x u.1 u.2 F x.cps.size := fun z hz => by
    obtain ⟨k, hk, ek⟩ := List.getElem_of_mem hz
    exact List.mem_of_getElem? (rowA_at (by rw [List.getElem?_eq_getElem hk, ek]) _)
  refine ⟨R.ord, fun v hv z hz c hc => ?_, fun k v hk hv j c hj => ?_⟩
  · have uv : lessW (codes u) (codes v) := R.ord i (i + 1) u v (by omega) (rowA_at hu _) hv
    rcases R.old z hz with h | ⟨j, d, _, hd, e⟩
    · exact lessW_trans (S.bnd u hu z h c hc) (lessW_snoc uv)
    · rw [e]
      exact lessW_snoc uv
  · by_cases q : k = i
    · subst q
      rw [rowA_at hu] at hv
      cases hv
      refine R.best j c ?_ hj
      have := (List.getElem?_eq_some_iff.mp hj).1
      rw [Array.length_toList] at this
      exact this
    · have kF : F[k]? = some F[k] := List.getElem?_eq_getElem (by omega)
      rw [rowA_at kF] at hv
      cases hv
      obtain ⟨y, hy, e1, e2⟩ := S.best k _ (by omega) kF j c hj
      exact ⟨y, up y hy, e1, e2⟩
theorem stage_more {t : List (List Nat)} {x : Str} {i k : Nat} {F : List (List Nat × Str)} (S : StageA t x i F) (h : F.length ≤ i) (hk : F.length ≤ k) : StageA t x k F :=
  ⟨S.ord, fun u hu => (by rw [List.getElem?_eq_none hk] at hu; cases hu), fun a u ha hu => S.best a u (by have := (List.getElem?_eq_some_iff.mp hu).1; omega) hu⟩
theorem bfsL_stage {t : List (List Nat)} {x : Str} (asc : Asc x) {mo : Nat} : ∀ (n i : Nat) (F : List (List Nat × Str)), mo + 1 ≤ n + i → StageA t x i F → (bfsL t x mo n i F).length ≤ mo → StageA t x (bfsL t x mo n i F).length (bfsL t x mo n i F)
  | 0, i, F, h, S, l => stage_more S (by have l : F.length ≤ mo := l; omega) (Nat.le_refl _)
  | n + 1, i, F, h, S, l => by
    by_cases h1 : F.length ≤ i
    · rw [bfsL_stop (.inl h1)]
      exact stage_more S h1 (Nat.le_refl _)
    · by_cases h2 : mo < F.length
      · rw [bfsL_stop (.inr h2)] at l
        omega
      · have hz : F[i]? = some F[i] := List.getElem?_eq_getElem (by omega)
        generalize F[i] = z at hz
        have e : bfsL t x mo (n + 1) i F = bfsL t x mo n (i + 1) (rowA t x z.1 z.2 F x.cps.size) := by
          show (match F[i]? with
            | none => F
            | some z => if F.length ≤ mo then bfsL t x mo n (i + 1) (rowA t x z.1 z.2 F x.cps.size) else F) = _
          rw [hz]
          exact if_pos (by omega)
        rw [e] at l ⊢
        exact bfsL_stage asc n (i + 1) _ (by omega) (row_stage asc S hz) l
theorem bfs_stage {t : List (List Nat)} {x : Str} (asc : Asc x) {mo : Nat} (l : (bfs t x mo).length ≤ mo) : StageA t x (bfs t x mo).length (bfs t x mo) := by
  refine bfsL_stage asc _ _ _ (by omega) ⟨fun a b y z ab ha hb => ?_, fun u hu z hz c hc => ?_, fun k u hk => absurd hk (Nat.not_lt_zero _)⟩ l
  · have h1 := (List.getElem?_eq_some_iff.mp hb).1
    have h1 : b < 1 := h1
    omega
  · cases hu
    rw [List.mem_singleton.mp hz]
    exact lessW_one
/-- the word that is told with an action is the first one of all that have it -/
theorem bfs_first {t : List (List Nat)} {x : Str} {mo m : Nat} (st : IsSet x m) (l : (bfs t x mo).length ≤ mo) : ∀ (n : Nat) (w : List Nat), w.length = n → (∀ c ∈ w, c ∈ x.cps.toList) → ∃ y ∈ bfs t x mo, y.1 = act t x w ∧ (codes y = w ∨ lessW (codes y) w)
  | 0, w, hn, _ => by
    have h : (bfs t x mo)[0]? = some (List.range t.length, ("" : Str)) := bfsL_at _ _ _ rfl
    have e0 : ("" : Str).cps.toList = [] := by decide +kernel
    rw [List.eq_nil_of_length_eq_zero hn, act_nil]
    exact ⟨_, List.mem_of_getElem? h, rfl, .inl e0⟩
  | n + 1, w, hn, hw => by
    have ne : w ≠ [] := fun e => by rw [e] at hn; cases hn
    have ew := List.dropLast_concat_getLast ne
    obtain ⟨y, hy, e1, e2⟩ := bfs_first st l n w.dropLast (by rw [List.length_dropLast]; omega) (fun c hc => hw c ((List.dropLast_sublist w).subset hc))
    obtain ⟨i, hi, ei⟩ := List.getElem_of_mem hy
    have cx := hw _ (List.getLast_mem ne)
    have hj : x.cps.toList[x.cps.toList.idxOf (w.getLast ne)]? = some (w.getLast ne) := by
      rw [List.getElem?_eq_getElem (List.idxOf_lt_length_of_mem cx), List.getElem_idxOf]
    obtain ⟨z, hz, f1, f2⟩ := (bfs_stage (asc_of st) l).best i y hi (by rw [List.getElem?_eq_getElem hi, ei]) _ _ hj
    refine ⟨z, hz, ?_, ?_⟩
    · rw [← ew, act_snoc, f1, e1]
    · rw [← ew]
      refine lessW_le (d := []) f2 ?_
      rcases e2 with e2 | e2
      · exact .inl (by rw [e2])
      · exact .inr (lessW_snoc e2)
end M3

set_option Elab.async false
set_option linter.all false
set_option maxRecDepth 100000
set_option maxHeartbeats 8000000
/-! # An action repeated, until it comes again -/
namespace M3
open PySem L2
abbrev sRepeats : Stmt := top 55
abbrev nRepeats : List Str := ["action", "trail", "first_at", "goal"]
theorem scRepeats : FnScope nRepeats ["action"] (defScope sRepeats) := ⟨rfl, rfl, rfl, by decide +kernel, rfl, by decide +kernel, by decide +kernel⟩
/-- the powers of an action -/
def pw (g : List Nat) : Nat → List Nat
  | 0 => List.range g.length
  | k + 1 => comp (pw g k) g
theorem comp_length (fs gs : List Nat) : (comp fs gs).length = fs.length := by
  unfold comp
  rw [List.length_map]
theorem pw_length (g : List Nat) : ∀ k, (pw g k).length = g.length
  | 0 => List.length_range
  | k + 1 => by
    show (comp (pw g k) g).length = _
    rw [comp_length, pw_length g k]
theorem getD_lt {g : List Nat} {n : Nat} (h : ∀ q ∈ g, q < n) {q : Nat} (hq : q < g.length) : g.getD q 0 < n := by
  have e : g.getD q 0 = g[q] := by simp [List.getD, List.getElem?_eq_getElem hq]
  rw [e]
  exact h _ (List.getElem_mem hq)
theorem pw_lt {g : List Nat} (h : ∀ q ∈ g, q < g.length) : ∀ k, ∀ q ∈ pw g k, q < g.length
  | 0, q, hq => List.mem_range.mp hq
  | k + 1, q, hq => by
    have hq : q ∈ (pw g k).map fun q => g.getD q 0 := hq
    obtain ⟨z, hz, rfl⟩ := List.mem_map.mp hq
    exact getD_lt h (pw_lt h k z hz)
/-- the first powers, all of them different -/
def Apart (g : List Nat) (n : Nat) : Prop := ∀ i j, i < n → j < n → pw g i = pw g j → i = j
/-- the dict of the powers' places -/
structure Firsts (g : List Nat) (kvs : List (List Key × V)) (n : Nat) : Prop where
  only : ∀ (k : List Key) (v : V), valV kvs k = some v → ∃ i, i < n ∧ k = key (pw g i) ∧ v = .int ((i : Nat) : Int)
  has : ∀ i, i < n → (valV kvs (key (pw g i))).isSome = true
  len : kvs.length ≤ n
theorem Firsts.put {g : List Nat} {kvs : List (List Key × V)} {n : Nat} (h : Firsts g kvs n) : Firsts g (putK kvs (key (pw g n)) (.int ((n : Nat) : Int))) (n + 1) := by
  refine ⟨fun k v e => ?_, fun i hi => ?_, ?_⟩
  · rw [valV_put] at e
    by_cases c : k = key (pw g n)
    · rw [if_pos c] at e
      exact ⟨n, by omega, c, (Option.some.inj e).symm⟩
    · rw [if_neg c] at e
      obtain ⟨i, h1, h2, h3⟩ := h.only k v e
      exact ⟨i, by omega, h2, h3⟩
  · rw [valV_put]
    by_cases c : key (pw g i) = key (pw g n)
    · rw [if_pos c]
      rfl
    · rw [if_neg c]
      refine h.has i ?_
      by_cases q : i = n
      · rw [q] at c
        exact absurd rfl c
      · omega
  · have := putT_len (kvs := kvs) (k := key (pw g n)) (v := V.int ((n : Nat) : Int))
    have := h.len
    omega
def pws (g : List Nat) (n : Nat) : List (List Nat) := (List.range n).map (pw g)
theorem pws_at {g : List Nat} {n i : Nat} (h : i < n) : (pws g n)[i]? = some (pw g i) := by
  unfold pws
  rw [List.getElem?_map, List.getElem?_range h]
  rfl
theorem pws_length {g : List Nat} {n : Nat} : (pws g n).length = n := by
  unfold pws
  rw [List.length_map, List.length_range]
theorem pws_succ {g : List Nat} {n : Nat} : pws g (n + 1) = pws g n ++ [pw g n] := by
  unfold pws
  rw [List.range_succ, List.map_append]
  rfl
theorem at_last {xs : List V} {n : Nat} {v : V} (hl : xs.length = n + 1) (h : xs[n]? = some v) : atI xs (-1) = some v := by
  unfold atI
  have e : ixN xs.length (-1) = some n := by
    unfold ixN
    rw [if_neg (by omega), if_pos (by omega)]
    congr 1
    omega
  rw [e]
  exact h
def spRepeats (K : PySem.W.Frag) : Sp := fun vs H Q _ => ∃ (a : Addr) (g : List Nat) (i0 j0 : Nat), vs = [.ref a] ∧ SqT K H a (nts g) ∧ (∀ q ∈ g, q < g.length) ∧ g.length ≤ 1000 ∧ i0 < j0 ∧ j0 ≤ 100000 ∧ pw g i0 = pw g j0 ∧
  ∀ (p L : Addr) (us : List V) (n b : Nat) (H' : Hp), H' p = some (.tup [.ref L, .int (b : Nat)]) → H' L = some (.lst us) → us.length = n → b < n → n ≤ 100000 → Apart g n → pw g n = pw g b → Same H H' → Q (.ref p) H'
section
variable {P : Program} {w : World} {K : PySem.W.Frag} {mg : Str → Option Value} {base : Heap}
theorem ok_repeats {f g1 : Addr} {fd gd : FuncData} (F : Fun K "repeats" "repeats" sRepeats f fd) (G : Fun K "composed" "composed" sComposed g1 gd) (bG : Binds K gd ["first", "second"] []) (mG : mg "composed" = some (.ref g1)) (M : TxM mg) :
    FnOk P w K mg base CX0 2 f fd ["action"] (spRepeats K) := by
  have GC : FnOk P w K mg base CX0 1 g1 gd ["first", "second"] (spComposed K) := ok_composed G M
  refine F.ok scRepeats (fun vs H Q E h => ?_) (fun cdv A outer s H vs Q E hr h => ?_)
  · obtain ⟨a, g, i0, j0, rfl, _⟩ := h
    rfl
  · obtain ⟨a, g, i0, j0, rfl, ha, hq, hl, ij, hj, eij, k⟩ := h
    have hu := hu_of hr
    have hu0 : (A.deeper (PyProof.Rows.envOfC "repeats" (defScope sRepeats) s.heap.objs.size f cdv)).units < cLine := Nat.lt_of_succ_lt hu
    refine ⟨_, pss_cons (ps_set (i := 1) scRepeats.nd rfl (Or.inl rfl) (pe_lst (pa_cons (pe_tupRg rfl rfl M.tuple (prg_1 rfl M.range (pe_callB call_len_seq (by rfl) M.len PySem.boot_len (pa_cons (pv 0) pa_nil)))) pa_nil)))
      (pss_cons (ps_set (i := 2) scRepeats.nd rfl (Or.inl rfl) (NvQ.pe_disp1 hu0 (pe_ix ix_list (pv 1) pe_int (fun _ _ => rfl)) pe_int))
      (pss_one (ps_while PassesOwn.never (pt_val pe_bl)
        (pss_cons (ps_set (i := 3) scRepeats.nd rfl (Or.inl rfl) (pe_call GC hr rfl mG G.kp bG .nil pass0 (pa_cons (pe_ix ix_list (pv 1) (pe_un un_neg pe_int) (fun _ _ => rfl)) (pa_cons (pv 0) pa_nil))))
        (pss_cons (ps_if (pt_cmp (pc_din hu (pv 3) (pv 2))) (pss_one (ps_ret (pe_tup (pa_cons (pv 1) (pa_cons (pe_dget hu (pv 2) (pv 3) (fun _ _ => rfl)) pa_nil))))) pss_nil)
        (pss_cons (ps_dput hu (pv 2) (pv 3) (pe_callB call_len_seq (by rfl) M.len PySem.boot_len (pa_cons (pv 1) pa_nil)) rfl)
        (pss_one (ps_expr (pe_bm PySem.F.plainAttrs_list PySem.F.slot_list_append PySem.F.type_list_append mt_append (pv 1) (pa_cons (pv 3) pa_nil)))))))))), ?_⟩
    have free : ∀ {H9 : Hp} {q : Addr}, Same H H9 → H9 q = none → H q = none := fun {H9 q} sx hq => by
      cases e : H q with
      | none => rfl
      | some o =>
        have := sx _ _ e
        rw [hq] at this
        cases this
    refine ⟨_, rfl, a, _, rfl, .inr ha, _, rfl, ?_⟩
    rw [nts_length]
    refine ⟨.of_le (by decide) (by omega) (by decide) (by omega), fun p0 np => ?_⟩
    rw [rgV_nats]
    refine ⟨(by show 1 ≤ sizeLine; decide), fun LT nLT => ?_⟩
    have s1 : Same H (upd H p0 (.tup (nts (List.range g.length)))) := Same.new (Same.refl H) np
    have fLT : H LT = none := free s1 nLT
    have hT2 : (upd (upd H p0 (.tup (nts (List.range g.length)))) LT (.lst [.ref p0])) LT = some (.lst [.ref p0]) := upd_same
    have hp2 : (upd (upd H p0 (.tup (nts (List.range g.length)))) LT (.lst [.ref p0])) p0 = some (.tup (nts (List.range g.length))) := keep_new upd_same nLT
    have s2 : Same H (upd (upd H p0 (.tup (nts (List.range g.length)))) LT (.lst [.ref p0])) := Same.new s1 nLT
    generalize upd (upd H p0 (.tup (nts (List.range g.length)))) LT (.lst [.ref p0]) = H2 at hT2 hp2 s2 ⊢
    intro LF nLF
    have fLF : H LF = none := free s2 nLF
    refine ⟨_, rfl, LT, [.ref p0], 0, .ref p0, rfl, rfl, SqL.of (keep_new hT2 nLF), rfl, p0, key (List.range g.length), .int 0, rfl, upd_same, by rw [key_tup]; exact keep_new hp2 nLF, ?_⟩
    rw [upd_upd]
    have hF3 : (upd H2 LF (.dT [(key (List.range g.length), .int 0)])) LF = some (.dT [(key (List.range g.length), .int 0)]) := upd_same
    have hT3 := keep_new (u := .dT [(key (List.range g.length), .int 0)]) hT2 nLF
    have hp3 := keep_new (u := .dT [(key (List.range g.length), .int 0)]) hp2 nLF
    have s3 : Same H (upd H2 LF (.dT [(key (List.range g.length), .int 0)])) := Same.new s2 nLF
    generalize upd H2 LF (.dT [(key (List.range g.length), .int 0)]) = H3 at hF3 hT3 hp3 s3 ⊢
    clear hT2 hp2 s2 s1 nLF nLT np
    have small : ∀ n, Apart g n → n ≤ j0 := fun n ap => by
      by_cases c : n ≤ j0
      · exact c
      · have := ap i0 j0 (by omega) (by omega) eij
        omega
    refine while_by (fun σ H' => ∃ (n : Nat) (us : List V) (kvs : List (List Key × V)) (v : Option V), σ = [some (.ref a), some (.ref LT), some (.ref LF), v] ∧ H' LT = some (.lst us) ∧ H' LF = some (.dT kvs) ∧ RowsA H' us (pws g (n + 1)) ∧ Firsts g kvs (n + 1) ∧ Apart g (n + 1) ∧ Same H H')
      (fun σ H' => match H' LT with | some (.lst us) => j0 + 1 - us.length | _ => 0)
      ⟨0, [.ref p0], _, none, rfl, hT3, hF3, ?_, ?_, ?_, s3⟩ ?_ ?_
    · exact ⟨rfl, fun i r e => by
        match i, e with
        | 0, e => exact ⟨p0, rfl, by cases e; exact hp3⟩⟩
    · refine ⟨fun k v e => ?_, fun i hi => ?_, Nat.le_refl _⟩
      · by_cases c : key (List.range g.length) = k
        · rw [valV_pos c] at e
          exact ⟨0, by omega, c.symm, (Option.some.inj e).symm⟩
        · rw [valV_neg c, valV_nil] at e
          cases e
      · have e : i = 0 := by omega
        subst e
        have z : valV [(key (List.range g.length), V.int 0)] (key (pw g 0)) = some (.int 0) := valV_pos rfl
        rw [z]
        rfl
    · intro i j hi hj _
      omega
    · rintro σ H5 ⟨n, us, kvs, v, rfl, hT, hF, RA, FA, AP, sH⟩
      refine ⟨_, rfl, iteT ?_⟩
      have hT5 := hT
      have nj := small _ AP
      have lus : us.length = n + 1 := by rw [RA.1, pws_length]
      obtain ⟨bq, b1, b2⟩ := RA.2 n _ (pws_at (Nat.lt_succ_self n))
      refine ⟨_, rfl, _, rfl, LT, us, _, _, rfl, rfl, SqL.of hT, at_last lus b1, _, rfl, bq, a, pw g n, g, rfl, SqT.of b2, sqt_same sH ha, pw_lt hq n, by rw [pw_length]; exact hl, fun q H6 nq hq6 s6 => ?_⟩
      have hq6 : H6 q = some (.tup (nts (pw g (n + 1)))) := hq6
      have hT := s6 _ _ hT
      have hF := s6 _ _ hF
      have RA := RA.to (H' := H6) (fun b ys h => s6 _ _ h)
      have sH := sH.trans s6
      have hk : H6 q = some (.tup ((key (pw g (n + 1))).map kV)) := by rw [key_tup]; exact hq6
      refine ⟨_, rfl, _, rfl, LF, _, rfl, DGet.t (k := key (pw g (n + 1))) hF hk, _, rfl, ?_⟩
      have sz : (1000000 : Nat) < sizeLine := by decide
      cases e : valV kvs (key (pw g (n + 1))) with
      | some v =>
        refine iteT ?_
        obtain ⟨b, hb, eb, rfl⟩ := FA.only _ _ e
        have eb := key_inj eb
        have G : DGet H6 LF (.ref q) (some (.int (b : Nat))) := by
          have z := DGet.t (k := key (pw g (n + 1))) hF hk
          rw [e] at z
          exact z
        refine ⟨_, rfl, _, rfl, _, rfl, LF, _, rfl, G, (by show 2 ≤ sizeLine; decide), fun p np => ?_⟩
        exact k p LT us (n + 1) b _ upd_same (keep_new hT np) lus hb (by omega) AP eb (Same.new sH np)
      | none =>
        refine iteF ?_
        have new : ∀ i, i < n + 1 → pw g i ≠ pw g (n + 1) := fun i hi z => by
          have := FA.has i hi
          rw [z, e] at this
          cases this
        have AP2 : Apart g (n + 1 + 1) := fun i j hi hj z => by
          by_cases c1 : i = n + 1
          · by_cases c2 : j = n + 1
            · omega
            · rw [c1] at z
              exact absurd z.symm (new j (by omega))
          · by_cases c2 : j = n + 1
            · rw [c2] at z
              exact absurd z (new i (by omega))
            · exact AP i j (by omega) (by omega) z
        have nj2 := small _ AP2
        refine ⟨_, rfl, LT, us, rfl, .inl (SqL.of hT), _, rfl, _, rfl, LF, _, rfl, DPut.t hF hk (by have := FA.len; omega), ?_⟩
        rw [lus]
        have TF : LT ≠ LF := ne_of hT hF (fun z => by cases z)
        have qT : q ≠ LT := ne_of hq6 hT (fun z => by cases z)
        have qF : q ≠ LF := ne_of hq6 hF (fun z => by cases z)
        have hTa : (upd H6 LF (.dT (putK kvs (key (pw g (n + 1))) (.int ((n + 1 : Nat) : Int))))) LT = some (.lst us) := by rw [upd_ne TF]; exact hT
        refine ⟨_, rfl, .inl ⟨rfl, _, SqL.of hTa⟩, _, rfl, LT, us, .ref q, rfl, rfl, hTa, (by omega), ?_⟩
        refine ⟨⟨n + 1, us ++ [.ref q], _, _, rfl, upd_same, ?_, ?_, FA.put, AP2, ?_⟩, ?_⟩
        · rw [upd_ne (Ne.symm TF)]
          exact upd_same
        · rw [pws_succ]
          refine (RA.to fun b ys h => ?_).snoc ?_
          · rw [upd_ne (ne_of h hT (fun z => by cases z)), upd_ne (ne_of h hF (fun z => by cases z))]
            exact h
          · rw [upd_ne qT, upd_ne qF]
            exact hq6
        · intro b o h
          rw [upd_ne (ne_of_none h fLT), upd_ne (ne_of_none h fLF)]
          exact sH _ _ h
        · rw [upd_same, hT5]
          show j0 + 1 - (us ++ [V.ref q]).length < j0 + 1 - us.length
          rw [List.length_append]
          show j0 + 1 - (us.length + 1) < j0 + 1 - us.length
          omega
    · rintro σ H1 Q1 Q2 hq h
      obtain ⟨b, hb, hh⟩ := h
      exact ⟨b, hb, hq _ _ hh⟩
end
end M3

set_option Elab.async false
set_option linter.all false
set_option maxRecDepth 100000
set_option maxHeartbeats 2000000
/-! # A lambda with parameters and captured names, handed to a def that calls it -/
namespace NvK
open PySem PySem.Spec PyProof.Rows L2 LamX NdefX
/-- a lambda's words, the cells that it captured, its code object -/
structure LF where
  qual : Str
  params : Arguments
  body : Expr
  scope : Scope
  cl : List (Str × Addr)
  c : Addr
/-- .. as a def without a body: for its frame -/
abbrev LF.nf (F : LF) : NF := ⟨"<lambda>", F.qual, F.params, [], F.scope, F.cl, F.c⟩
/-- the object at f is the lambda F -/
def LamO (f : Addr) (F : LF) : HO := .ext fun h => ∃ (pm ctv : Value), h.get? f = some (PySem.W.kla_obj "<lambda>" F.qual F.params F.body F.scope F.cl pm F.c ctv)
theorem lamO_ne {f : Addr} {F : LF} (ps : Array Value) : LamO f F ≠ .tbl ps := fun z => by
  unfold LamO at z
  cases z
theorem lamO_at {P : Program} {w : World} {H : Hp} {h : Heap} {f : Addr} {F : LF} (hok : HOk P w H h) (e : H f = some (LamO f F)) : ∃ (pm ctv : Value), h.get? f = some (PySem.W.kla_obj "<lambda>" F.qual F.params F.body F.scope F.cl pm F.c ctv) := by
  obtain ⟨z, _, _⟩ := hok f _ e
  exact z
section
variable {X : Cx} {pins : List (Addr × Obj)} {σ : L2.St} {H : Hp} {s : Shared}
/-- a lambda's object just made is known from now on -/
theorem inv_lam {F : LF} {o : Obj} {t' : Nat} {pm ctv : Value} (I : Inv X pins σ H s) (ho : o = PySem.W.kla_obj "<lambda>" F.qual F.params F.body F.scope F.cl pm F.c ctv) :
    Inv X pins σ (upd H s.heap.objs.size (LamO s.heap.objs.size F)) { s with heap := s.heap.push o, toks := t' } := by
  subst ho
  refine I.laid (a := s.heap.objs.size) (fun b u e => Heap.get?_push_of_some _ e) (Nat.le_refl _) ?_
  have e : (s.heap.push (PySem.W.kla_obj "<lambda>" F.qual F.params F.body F.scope F.cl pm F.c ctv)).get? s.heap.objs.size = some (PySem.W.kla_obj "<lambda>" F.qual F.params F.body F.scope F.cl pm F.c ctv) := Heap.get?_push_size _ rfl
  exact ⟨⟨pm, ctv, e⟩, ⟨_, e⟩, fun h1 h2 ⟨p, t, z⟩ st => ⟨p, t, st _ z⟩⟩
/-- the lambda is made: its code object is new, or found in the table -/
theorem lamn_make {T : List NTab} {nm : Nat → Nat → Str} {c P : Addr} {params : Arguments} {body : Expr} {scope : Scope} {pos : Pos} {E : Value → Shared → Prop} {Q : Value → Shared → Prop} (I : Inv X pins σ H s) (TB : TabB X.base X.mg c P) (hcode : X.env.code = .ref c)
    (hm : (P, nm) ∈ T) (hn : nm pos.line pos.col = X.env.qual ++ "<lambda>") (hu : ∀ p ∈ T, p.1 = P → p.2 = nm) (hT : TabsN T H) (hdef : defaultsOf params X.env = ([], [])) (hfree : ∀ y ∈ scope.names, y.2 = .free → ∃ c, X.env.cells.lookup y.1 = some c)
    (h : ∀ (f c' : Addr) (H1 : Hp) (s' : Shared), Inv X pins σ H1 s' → ExtN H H1 → (∀ b, H1 b = Option.none → H b = Option.none) → TabsN T H1 → H f = none → H1 f = some (LamO f ⟨X.env.qual ++ "<lambda>", params, body, scope, cloFrom X.env.cells scope.names [], c'⟩) → H1 c' = some (CodeO c' (X.env.qual ++ "<lambda>")) → Q (.ref f) s') :
    wpAny (model X.prog X.w) X.A (eval (.Lambda params body scope pos) X.env) Q E s := by
  obtain ⟨ps, hP, ht, ha⟩ := (show TabN H P nm from hT _ hm)
  refine PySem.W.kla_eval hdef ?_
  have bP : s.heap.BuiltinsAt X.mg P := TB.bm.keeps I.bk
  have hP' : s.heap.get? P = some { cls := .none, data := .fields ps } := I.hok P _ hP
  cases hc : codeAmong pos ps.toList with
  | none =>
    refine PySem.W.kla_makeFunction (mg := X.mg) (c := c) (P := P) (ps := ps) (closure_ok hfree) I.ok.glob (I.mod.glob.keeps I.bk) hcode (TB.code.keeps I.bk) hP' ht hc TB.gP bP fun c' ctv h' tk hx hge hlt hrec htb => ?_
    obtain ⟨c2, oc, vs, t, e2, hoc, hd, hv⟩ := hrec
    cases e2
    have nC : H c' = none := I.hok.fresh hge
    have I1 := inv_table (t' := tk) (more := #[rawInt pos.line, rawInt pos.col, .ref c']) (h' := h') I hP (fun b o hb e => hx b o hb e) htb hge ⟨oc, vs, t, hoc, hd, hv⟩
    have hE : ExtN H (upd (upd H P (.tbl (ps ++ #[rawInt pos.line, rawInt pos.col, .ref c']))) c' (CodeO c' (X.env.qual ++ "<lambda>"))) := fun b o e n => by
      rw [upd_ne (ne_of_none e nC), upd_ne (fun z => n ps (Option.some.inj (e.symm.trans (by rw [z]; exact hP))))]
      exact e
    have eL : (ps ++ #[rawInt pos.line, rawInt pos.col, .ref c']).toList = ps.toList ++ [rawInt pos.line, rawInt pos.col, .ref c'] := by simp
    have T1 : TabsN T (upd (upd H P (.tbl (ps ++ #[rawInt pos.line, rawInt pos.col, .ref c']))) c' (CodeO c' (X.env.qual ++ "<lambda>"))) := fun p hp => by
      by_cases hb : p.1 = P
      · rw [hu p hp hb, hb]
        refine ⟨_, by rw [upd_ne (ne_of_none hP nC), upd_same], by rw [eL]; exact PySem.TriplesOk_snoc _ _ _ _ ht, fun p' cv hcv => ?_⟩
        rw [eL] at hcv
        rcases among_app2 _ ht hcv with z | ⟨z, z1, z2⟩
        · obtain ⟨c0, e1, e2⟩ := ha p' cv z
          exact ⟨c0, e1, hE _ _ e2 codeO_ne⟩
        · refine ⟨c', z, ?_⟩
          rw [← z1, ← z2, hn]
          exact upd_same
      · obtain ⟨ps', a1, a2, a3⟩ := hT p hp
        refine ⟨ps', by rw [upd_ne (ne_of_none a1 nC), upd_ne hb]; exact a1, a2, fun p' cv hcv => ?_⟩
        obtain ⟨c0, e1, e2⟩ := a3 p' cv hcv
        exact ⟨c0, e1, hE _ _ e2 codeO_ne⟩
    have nF := I1.hok.fresh (Nat.le_refl _)
    have I2 := inv_lam (F := ⟨X.env.qual ++ "<lambda>", params, body, scope, cloFrom X.env.cells scope.names [], c'⟩) (t' := tk) (pm := (X.mg "__name__").getD .none) (ctv := ctv) I1 rfl
    refine h h'.objs.size c' _ _ I2 (fun b o e n => ?_) (fun b e => upd_none (upd_none (upd_none e))) (T1.ext fun b o e => ?_) (I.hok.fresh (Nat.le_trans hge (Nat.le_of_lt hlt))) upd_same ?_
    · have e1 := hE b o e n
      exact (upd_ne (ne_of_none e1 nF)).trans e1
    · exact (upd_ne (ne_of_none e nF)).trans e
    · exact (upd_ne (Nat.ne_of_lt hlt)).trans upd_same
  | some cv =>
    obtain ⟨c', e, hco⟩ := ha pos cv hc
    subst e
    rw [hn] at hco
    refine PySem.W.kla_makeFunctionHit (mg := X.mg) (c := c) (P := P) (ps := ps) (closure_ok hfree) I.ok.glob (I.mod.glob.keeps I.bk) hcode (TB.code.keeps I.bk) hP' ht hc bP fun ctv h' tk hx hsz => ?_
    have I1 : Inv X pins σ H { s with heap := h', toks := tk } := I.kept hx
    have nF : H h'.objs.size = none := I1.hok.fresh (Nat.le_refl _)
    have I2 := inv_lam (F := ⟨X.env.qual ++ "<lambda>", params, body, scope, cloFrom X.env.cells scope.names [], c'⟩) (t' := tk) (pm := (X.mg "__name__").getD .none) (ctv := ctv) I1 rfl
    refine h h'.objs.size c' _ _ I2 (fun b o e n => ?_) (fun b e => upd_none e) (hT.ext fun b o e => ?_) nF upd_same ?_
    · exact (upd_ne (ne_of_none e nF)).trans e
    · exact (upd_ne (ne_of_none e nF)).trans e
    · exact (upd_ne (ne_of_none hco nF)).trans hco
end
/-- the reading of a lambda: a new function value; T: the tables of code objects -/
def tLamN (T : List NTab) (mk : Addr → LF) : TE := fun _ H Q => TabsN T H ∧ ∀ (f c' : Addr) (H1 : Hp), ExtN H H1 → (∀ b, H1 b = Option.none → H b = Option.none) → TabsN T H1 → H f = none → H1 f = some (LamO f (mk c')) → H1 c' = some (CodeO c' (mk c').qual) → Q (.ref f) H1
section
variable {X : Cx}
theorem pe_lamN {T : List NTab} {nm : Nat → Nat → Str} {c P : Addr} {params : Arguments} {body : Expr} {scope : Scope} {pos : Pos} (TB : TabB X.base X.mg c P) (hcode : X.env.code = .ref c) (hm : (P, nm) ∈ T) (hn : nm pos.line pos.col = X.env.qual ++ "<lambda>") (hu : ∀ p ∈ T, p.1 = P → p.2 = nm)
    (hfree : ∀ y ∈ scope.names, y.2 = .free → X.env.scope.names.lookup y.1 = some .cell ∨ X.env.scope.names.lookup y.1 = some .free) (hdef : defaultsOf params X.env = ([], [])) :
    PE X (.Lambda params body scope pos) (tLamN T fun c' => ⟨X.env.qual ++ "<lambda>", params, body, scope, cloFrom X.env.cells scope.names [], c'⟩) := by
  refine ⟨fun pins s σ H Q I h => ?_⟩
  obtain ⟨hT, h⟩ := h
  have hfr : ∀ y ∈ scope.names, y.2 = .free → ∃ c, X.env.cells.lookup y.1 = some c := fun y hy e => (hfree y hy e).elim (fun z => I.ok.has _ (.inl z)) fun z => I.ok.has _ (.inr z)
  refine lamn_make I TB hcode hm hn hu hT hdef hfr fun f c' H1 s' I1 eN nn T1 f0 f1 c1 => ?_
  exact ⟨.ref f, H1, I1, rfl, h f c' H1 eN nn T1 f0 f1 c1⟩
end
/-! ### what a function value promises from a state on -/
/-- from the state (s, H) on, in which the frames outer run: the lambda F at f keeps sp -/
structure Given (P : Program) (w : World) (K : PySem.W.Frag) (mg : Str → Option Value) (base : Heap) (CX : CXT) (k : Nat) (outer : List Env) (s : Shared) (H : Hp) (f : Addr) (F : LF) (sp : Sp) : Prop where
  run : ∀ (A : Around) (outer' : List Env) (s' : Shared) (H' : Hp) (us : List Value) (vs : List V) (Q : VK) (E : XK), Room k A → Env0 P w K mg base A outer' s' H' → Un (frs outer) [] H H' s.heap s'.heap → H' f = some (LamO f F) → H' F.c = some (CodeO F.c F.qual) →
    Vals vs us → sp vs H' Q E → codeAny (model P w) A (.call (.ref f) ⟨us, []⟩) (CR CX outer' P w H' s' Q E) s'
theorem Given.imp {P : Program} {w : World} {K : PySem.W.Frag} {mg : Str → Option Value} {base : Heap} {CX : CXT} {k : Nat} {outer : List Env} {s : Shared} {H : Hp} {f : Addr} {F : LF} {sp sp' : Sp} (G : Given P w K mg base CX k outer s H f F sp) (h : ∀ vs H Q E, sp' vs H Q E → sp vs H Q E) :
    Given P w K mg base CX k outer s H f F sp' := ⟨fun A o s' H' us vs Q E hr e0 un h1 h2 r q => G.run A o s' H' us vs Q E hr e0 un h1 h2 r (h _ _ _ _ q)⟩
theorem cellsAt_un {cl : List (Str × Addr)} {fr : List Str} {ws : List (Option V)} {h h' : Heap} {H H' : Hp} {fs : List Addr} (C : CellsAt cl fr ws h H) (un : Un fs [] H H' h h') (nf : ∀ y c, cl.lookup y = some c → c ∉ fs) : CellsAt cl fr ws h' H' := by
  have kp : ∀ y c, cl.lookup y = some c → ∀ v, h.IsCell c v → h'.IsCell c v := fun y c e v ⟨o, ho, hd⟩ => ⟨o, un.keep c o ho (C.all y c e).1 (nf y c e) (by simp), hd⟩
  refine ⟨C.len, fun y c e => ?_, C.inj, fun i y e => ?_⟩
  · obtain ⟨n, v, z⟩ := C.all y c e
    refine ⟨?_, v, kp y c e v z⟩
    obtain ⟨o, ho, _⟩ := z
    exact un.free c o ho n (by simp)
  · obtain ⟨c, hc, hv⟩ := C.has i y e
    refine ⟨c, hc, fun v ev => ?_⟩
    obtain ⟨u, r, z⟩ := hv v ev
    exact ⟨u, r, kp y c hc _ z⟩
section
variable {X : Cx} {pins : List (Addr × Obj)} {σ : L2.St} {H : Hp} {s : Shared}
/-- a cell of the running def is no frame -/
theorem cell_nofr (I : Inv X pins σ H s) {y : Str} {c : Addr} (e : X.env.cells.lookup y = some c) (hf : X.fn y = true) : c ∉ frs X.stack := fun z => by
  rcases List.mem_cons.mp (I.stkSub c z) with q | q
  · exact I.cne y c e q
  · obtain ⟨_, o, ho, _⟩ := I.ok.funs.mem q
    exact absurd (Nat.lt_of_lt_of_le (Heap.lt_size ho) (I.ok.cab y c hf e)) (Nat.lt_irrefl _)
/-- THE RULE: a lambda made here, by its body -/
theorem given_lam {CX : CXT} {N ps fr : List Str} {js : List Nat} {F : LF} {f : Addr} {k : Nat} {sp : Sp} (I : Inv X pins σ H s) (cp : Caps X F.cl fr js) (hfn : ∀ y, X.fn y = true) (S : NScope N ps fr F.scope)
    (hb : ∀ (pm ctv : Value) (us : List Value), us.length = ps.length → bindArgs (PySem.W.kla_fn "<lambda>" F.qual F.params F.body F.scope F.cl pm (.ref F.c) ctv) ⟨us, []⟩ = pure (ps.zip us)) (len : ∀ vs H Q E, sp vs H Q E → vs.length = ps.length)
    (hbody : ∀ (A : Around) (outer' : List Env) (s' : Shared) (H' : Hp) (vs : List V) (Q : VK) (E : XK), Room k (A.deeper (envF F.nf f s'.heap.objs.size)) → sp vs H' Q E →
      ∃ t, PE (ncx CX X.prog X.w X.K X.mg X.base N F.nf f A outer' s' H' E) F.body t ∧ t (startF N vs (js.map (slotAt σ))) H' Q) :
    Given X.prog X.w X.K X.mg X.base CX (k + 1) X.stack s H f F sp := by
  refine ⟨fun A outer' s' H' us vs Q E hr e0 un hf hc r hsp => ?_⟩
  have hl := len _ _ _ _ hsp
  have lim : s'.heap.NoLimit := e0.mod.nolimit.keeps fun b o e => (e0.bs b o e).1
  have C : CellsAt F.cl fr (js.map (slotAt σ)) s'.heap H' := cellsAt_un (cells_of I cp) un fun y c e => cell_nofr I (cp.sub y c e) (hfn y)
  obtain ⟨pm, ctv, ho⟩ := lamO_at e0.hok hf
  refine PySem.W.kla_callFunE hr.depth ho rfl S.co S.gen rfl (codeO_at e0.hok hc) ?_
  rw [hb pm ctv us (by rw [← r.length]; exact hl)]
  refine wpAny_pure (wpAny_newFunctionEnv S.nocell (fun ⟨n, _⟩ hy => S.par n (List.of_mem_zip hy).1) (fun h₁ hns hsb => ⟨lim.fresh _ hsb, ?_⟩) S.kind)
  show codeAny _ _ (.expr F.body (envF F.nf f s'.heap.objs.size)) _ _
  have kp : ∀ b o, s'.heap.get? b = some o → h₁.get? b = some o := fun b o e => hsb.extBut b o (Nat.ne_of_lt (Heap.lt_size e)) (Heap.get?_push_of_some _ e)
  obtain ⟨t, ht, hq⟩ := hbody A outer' s' H' vs Q E (hr.deeper _) hsp
  have J : Inv (ncx CX X.prog X.w X.K X.mg X.base N F.nf f A outer' s' H' E) [] (startF N vs (js.map (slotAt σ))) H' { s' with heap := h₁, toks := s'.toks + (ps.zip us).length } := inv_startN (F := F.nf) S hr.hd e0 hl r C hns kp
  refine PySem.W.kla_codeExpr (wpAny_mono (ht.run [] _ _ H' Q J hq) (fun v s2 hv => ?_) fun e s2 hv => hv)
  obtain ⟨w', H2, J2, rv, q⟩ := hv
  exact ⟨w', H2, J2.os, J2.bare, J2.base, J2.hok, rv, q⟩
end
/-! ### calls of what was handed -/
/-- f(..), f a name that holds the lambda F -/
def tGiv (i : Nat) (f : Addr) (F : LF) (sp : Sp) (E : XK) (t : TA) : TE := fun σ H Q => σ[i]? = some (some (.ref f)) ∧ H f = some (LamO f F) ∧ t σ H fun vs H1 => H1 f = some (LamO f F) ∧ H1 F.c = some (CodeO F.c F.qual) ∧ sp vs H1 Q E
section
variable {X : Cx} {CX : CXT} {i j k : Nat} {x : Str} {f : Addr} {F : LF} {sp : Sp} {E : XK} {t : TA} {e : Expr} {es : List Expr} {p pos : Pos}
theorem lamAt_of {pins : List (Addr × Obj)} {σ : L2.St} {H : Hp} {s : Shared} (I : Inv X pins σ H s) (e : H f = some (LamO f F)) : PySem.W.FnAt f s.heap := by
  obtain ⟨pm, ctv, ho⟩ := lamO_at I.hok e
  exact ⟨_, _, _, _, ho⟩
theorem pe_given (G : Given X.prog X.w X.K X.mg X.base CX k X.outer X.s_0 X.H_0 f F sp) (hr : Room j X.A) (hk : k ≤ j) (hx : Passes CX X E) (hex : X.ex = []) (hN : X.N[i]? = some x) (hv : Vis X.env.scope x) (ha : PA X (e :: es) t)
    (hd : (x == ("__debug__" : Str)) = false := by decide) (hcd : (x == ("__classdict__" : Str)) = false := by decide)
    (he : starEach (e :: es) X.env = (false, eval e X.env) :: starEach es X.env := by rfl) (hpl : (backTo pos (starEach es X.env)).any (·.1) = false := by rfl) :
    PE X (.Call (.Name x p) (e :: es) [] pos) (tGiv i f F sp E t) := by
  refine ⟨fun pins s σ H Q I h => ?_⟩
  obtain ⟨hs, hf, ht⟩ := h
  refine wpAny_Call_Name_kw (thn ((pe_var (pos := p) hN hv hd hcd).run pins s σ H (fun v H1 => v = .ref f ∧ H1 = H) I ⟨.ref f, hs, rfl, rfl⟩) fun u s1 ⟨v, H1, I1, r1, q1⟩ => ?_)
  obtain ⟨ev, eH⟩ := q1
  subst ev
  rw [eH] at I1
  obtain rfl : u = Value.ref f := r1
  refine PySem.W.callWith_F (first := []) (lamAt_of I1 hf) (thn (ha.run pos pins s1 σ H _ I1 ht) fun us s2 ⟨vs, H2, I2, r, h1, h2, q⟩ => ⟨lamAt_of I2 h1, ?_⟩) he hpl
  show wpAny _ _ (call (.ref f) us) _ _ _
  have un : Un (frs X.outer) [] X.H_0 H2 X.s_0.heap s2.heap := by
    have z := I2.base
    rw [hex] at z
    exact z
  refine wpAny_call (codeAny_mono (G.run X.A X.stack s2 H2 us vs Q E (hr.mono hk) I2.env0 un h1 h2 r q) fun r s' hq => ?_)
  cases r with
  | error e => exact hx pins σ H2 s2 e s' I2 hq
  | ok fl =>
    cases fl with
    | ret u => exact I2.after hq
    | next => exact False.elim hq
    | brk => exact False.elim hq
    | cont => exact False.elim hq
/-- x(..) of a top's def that gets a function value; what the callee asks is told of the very state -/
theorem pe_callV {g : Addr} {TV : L2.St → List V → Hp → VK → Prop} (hg : Gl X x) (hm : X.mg x = some (.ref g)) (hk : PySem.W.keepIn X.K (.ref g) = true) (hx : Passes CX X E) (ha : PA X (e :: es) t)
    (R : ∀ (pins : List (Addr × Obj)) (s : Shared) (σ : L2.St) (H : Hp) (Q : VK) (us : List Value) (vs : List V), Inv X pins σ H s → Vals vs us → TV σ vs H Q → codeAny (model X.prog X.w) X.A (.call (.ref g) ⟨us, []⟩) (CR CX X.stack X.prog X.w H s Q E) s)
    (hdb : (x == ("__debug__" : Str)) = false := by decide) (he : starEach (e :: es) X.env = (false, eval e X.env) :: starEach es X.env := by rfl) (hpl : (backTo pos (starEach es X.env)).any (·.1) = false := by rfl) :
    PE X (.Call (.Name x p) (e :: es) [] pos) (fun σ H Q => t σ H fun vs H1 => TV σ vs H1 Q) := by
  refine ⟨fun pins s σ H Q I h => ?_⟩
  refine wpAny_Call_Name_kw (ld_glob I hg hm ?_ hdb)
  refine PySem.W.callWith_K (h₀ := X.base) I.ok.mod.kin hk (thn (ha.run pos pins s σ H _ I h) fun us s1 ⟨vs, H1, I1, r, q⟩ => ⟨I1.kIn, ?_⟩) he hpl
  refine wpAny_call (codeAny_mono (R pins s1 σ H1 Q us vs I1 r q) fun r s' hq => ?_)
  cases r with
  | error e => exact hx pins σ H1 s1 e s' I1 hq
  | ok fl =>
    cases fl with
    | ret u => exact I1.after hq
    | next => exact False.elim hq
    | brk => exact False.elim hq
    | cont => exact False.elim hq
end
end NvK

set_option Elab.async false
set_option linter.all false
set_option maxRecDepth 100000
set_option maxHeartbeats 8000000
/-! # walked: a word's letters, each by a step that is handed over; the things walked are tuples of numbers and texts -/
namespace M3
open PySem L2
abbrev sWalked : Stmt := top 28
abbrev nWalked : List Str := ["start", "step", "word", "found", "numbers", "known", "now", "letter", "goal"]
theorem scWalked : FnScope nWalked ["start", "step", "word"] (defScope sWalked) := ⟨rfl, rfl, rfl, by decide +kernel, rfl, by decide +kernel, by decide +kernel⟩
/-- things that stand as tuples -/
def RowsK (H : Hp) (us : List V) (F : List (List Key)) : Prop := us.length = F.length ∧ ∀ (i : Nat) (r : List Key), F[i]? = some r → ∃ b : Addr, us[i]? = some (.ref b) ∧ H b = some (.tup (r.map kV))
theorem RowsK.to {H H' : Hp} {us : List V} {F : List (List Key)} (h : RowsK H us F) (k : ∀ b ys, H b = some (.tup ys) → H' b = some (.tup ys)) : RowsK H' us F := ⟨h.1, fun i r e => by
  obtain ⟨b, b1, b2⟩ := h.2 i r e
  exact ⟨b, b1, k _ _ b2⟩⟩
theorem RowsK.snoc {H : Hp} {us : List V} {F : List (List Key)} {b : Addr} {r : List Key} (h : RowsK H us F) (hb : H b = some (.tup (r.map kV))) : RowsK H (us ++ [.ref b]) (F ++ [r]) := by
  refine ⟨by rw [List.length_append, List.length_append, h.1]; rfl, fun i r' e => ?_⟩
  rcases snoc_at e with e | ⟨rfl, rfl⟩
  · obtain ⟨b', b1, b2⟩ := h.2 i r' e
    refine ⟨b', ?_, b2⟩
    rw [List.getElem?_append_left (List.getElem?_eq_some_iff.mp b1).1]
    exact b1
  · refine ⟨b, ?_, hb⟩
    rw [← h.1, List.getElem?_append_right (Nat.le_refl _), Nat.sub_self]
    rfl
/-- the dict that numbers the found things -/
structure NumsK (kvs : List (List Key × V)) (F : List (List Key)) : Prop where
  only : ∀ (k : List Key) (v : V), valV kvs k = some v → ∃ i, F[i]? = some k ∧ v = .int ((i : Nat) : Int)
  len : kvs.length ≤ F.length
theorem NumsK.put {kvs : List (List Key × V)} {F : List (List Key)} {r : List Key} (h : NumsK kvs F) : NumsK (putK kvs r (.int ((F.length : Nat) : Int))) (F ++ [r]) := by
  refine ⟨fun k v e => ?_, ?_⟩
  · rw [valV_put] at e
    by_cases c : k = r
    · rw [if_pos c] at e
      refine ⟨F.length, ?_, (Option.some.inj e).symm⟩
      rw [List.getElem?_append_right (Nat.le_refl _), Nat.sub_self, c]
      rfl
    · rw [if_neg c] at e
      obtain ⟨i, h1, h3⟩ := h.only k v e
      refine ⟨i, ?_, h3⟩
      rw [List.getElem?_append_left (List.getElem?_eq_some_iff.mp h1).1]
      exact h1
  · have := putT_len (kvs := kvs) (k := r) (v := V.int ((F.length : Nat) : Int))
    have := h.len
    rw [List.length_append]
    show _ ≤ F.length + 1
    omega
/-- the dict of known steps -/
structure StepsK (g : List Key → Nat → List Key) (kvs : List (List Key × V)) (F : List (List Key)) (n : Nat) : Prop where
  only : ∀ (i c : Nat) (v : V), valV kvs [.inl ((i : Nat) : Int), .inr ⟨#[c]⟩] = some v → ∃ (j : Nat) (r s : List Key), v = .int ((j : Nat) : Int) ∧ F[i]? = some r ∧ F[j]? = some s ∧ s = g r c
  len : kvs.length ≤ n
theorem StepsK.app {g : List Key → Nat → List Key} {kvs : List (List Key × V)} {F : List (List Key)} {n : Nat} (h : StepsK g kvs F n) (s : List Key) : StepsK g kvs (F ++ [s]) n := ⟨fun i c v e => by
  obtain ⟨j, r, s', h1, h2, h3, h4⟩ := h.only i c v e
  exact ⟨j, r, s', h1, at_app h2 s, at_app h3 s, h4⟩, h.len⟩
theorem StepsK.put {g : List Key → Nat → List Key} {kvs : List (List Key × V)} {F : List (List Key)} {n i c j : Nat} {r s : List Key} (h : StepsK g kvs F n) (h2 : F[i]? = some r) (h3 : F[j]? = some s) (h4 : s = g r c) :
    StepsK g (putK kvs [.inl ((i : Nat) : Int), .inr ⟨#[c]⟩] (.int ((j : Nat) : Int))) F (n + 1) := by
  refine ⟨fun i' c' v e => ?_, ?_⟩
  · rw [valV_put] at e
    by_cases q : ([.inl ((i' : Nat) : Int), .inr ⟨#[c']⟩] : List Key) = [.inl ((i : Nat) : Int), .inr ⟨#[c]⟩]
    · rw [if_pos q] at e
      injection q with q1 q2
      injection q1 with q1
      injection q2 with q2
      injection q2 with q2
      injection q2 with q2
      have ei : i' = i := by omega
      have ec : c' = c := by
        have q3 : (#[c'] : Array Nat).toList = (#[c] : Array Nat).toList := by rw [q2]
        injection q3
      subst ei ec
      exact ⟨j, r, s, (Option.some.inj e).symm, h2, h3, h4⟩
    · rw [if_neg q] at e
      exact h.only i' c' v e
  · have := putT_len (kvs := kvs) (k := [.inl ((i : Nat) : Int), .inr ⟨#[c]⟩]) (v := V.int ((j : Nat) : Int))
    have := h.len
    omega
/-- what walked asks: the start, the step F at f with its promise gsp, the word -/
def spWalked (f : Addr) (F : NvK.LF) (gsp : Sp) : Sp := fun vs H Q _ => ∃ (b0 : Addr) (y : Str) (k0 : List Key) (g : List Key → Nat → List Key) (Ok : List Key → Prop), vs = [.ref b0, .ref f, .str y] ∧ H b0 = some (.tup (k0.map kV)) ∧ H f = some (NvK.LamO f F) ∧ H F.c = some (LamX.CodeO F.c F.qual) ∧
  Ok k0 ∧ (∀ c ∈ y.cps.toList, ∀ k, Ok k → Ok (g k c)) ∧
  (∀ (H' : Hp) (b : Addr) (k : List Key) (c : Nat) (Q' : VK) (E' : XK), Same H H' → H' b = some (.tup (k.map kV)) → Ok k → c ∈ y.cps.toList → (∀ (b' : Addr) (H8 : Hp), H8 b' = some (.tup ((g k c).map kV)) → Same H' H8 → Q' (.ref b') H8) → gsp [.ref b, .str ⟨#[c]⟩] H' Q' E') ∧
  y.length ≤ 1000000 ∧ ∀ (b' : Addr) (H' : Hp), H' b' = some (.tup ((y.cps.toList.foldl g k0).map kV)) → Same H H' → Q (.ref b') H'
theorem fold_snoc {α β : Type} {g : β → α → β} {k0 : β} {l : List α} {i : Nat} {c : α} (h : l[i]? = some c) : (l.take (i + 1)).foldl g k0 = g ((l.take i).foldl g k0) c := by
  rw [take_snoc h, List.foldl_append]
  rfl
theorem fold_ok {g : List Key → Nat → List Key} {Ok : List Key → Prop} : ∀ (l : List Nat) (k0 : List Key), Ok k0 → (∀ c ∈ l, ∀ k, Ok k → Ok (g k c)) → Ok (l.foldl g k0)
  | [], _, h, _ => h
  | c :: l, k0, h, st => fold_ok l (g k0 c) (st c List.mem_cons_self k0 h) fun c' hc => st c' (List.mem_cons_of_mem _ hc)
section
variable {P : Program} {w : World} {K : PySem.W.Frag} {mg : Str → Option Value} {base : Heap}
theorem run_walked {g9 : Addr} {gd : FuncData} (F9 : Fun K "walked" "walked" sWalked g9 gd) (bW : Binds K gd ["start", "step", "word"] []) (M : TxM mg) {k : Nat} {A : Around} {outer : List Env} {s : Shared} {H : Hp} {us : List Value} {vs : List V} {Q : VK} {f : Addr} {F : NvK.LF} {gsp : Sp}
    (hr : Room (k + 2) A) (e0 : Env0 P w K mg base A outer s H) (r : Vals vs us) (G : NvK.Given P w K mg base CX0 (k + 1) outer s H f F gsp) (h : spWalked f F gsp vs H Q E0) :
    codeAny (model P w) A (.call (.ref g9) ⟨us, []⟩) (CR CX0 outer P w H s Q E0) s := by
  obtain ⟨b0, y, k0, g, Ok, rfl, hb0, hf0, hc0, ok0, okS, hS, hy, kq⟩ := h
  obtain ⟨oc, od, kV', doc, pm, an, cdv, ct, osl, rfl, lk, hcd⟩ := F9.ex
  have hlu : us.length = 3 := r.length.symm
  refine LamX.run_ofS (N := nWalked) (ps := ["start", "step", "word"]) (us := us) (vs := [.ref b0, .ref f, .str y]) lk hcd scWalked hr e0 ?_ r rfl fun hr' => ?_
  · have q := bW s us (e0.mod.kin.keeps fun b o e => (e0.bs b o e).1) (by rw [List.append_nil]; exact hlu)
    rw [List.append_nil] at q
    exact q
  · have hu := hu_of hr'
    have hu0 : (A.deeper (PyProof.Rows.envOfC "walked" (defScope sWalked) s.heap.objs.size g9 cdv)).units < cLine := Nat.lt_of_succ_lt hu
    suffices z : ∃ t, PSs (cxOf CX0 P w K mg base nWalked "walked" (defScope sWalked) g9 cdv A outer s H E0).nox (defBody sWalked) t ∧ t { nx := fun _ H' => Q .non H', rt := Q } (start nWalked [.ref b0, .ref f, .str y]) H by
      obtain ⟨t, ht, q⟩ := z
      exact ⟨t, ht.nox, q⟩
    refine ⟨_, pss_cons (ps_set (i := 3) scWalked.nd rfl (Or.inl rfl) (pe_lst (pa_cons (pv 0) pa_nil)))
      (pss_cons (ps_set (i := 4) scWalked.nd rfl (Or.inl rfl) (NvQ.pe_disp1 hu0 (pv 0) pe_int))
      (pss_cons (ps_set (i := 5) scWalked.nd rfl (Or.inl rfl) pe_dnewT)
      (pss_cons (ps_set (i := 6) scWalked.nd rfl (Or.inl rfl) pe_int)
      (pss_cons (ps_for PassesOwn.never rfl (pi_str (pv 2)) (pg_name (i := 7) scWalked.nd rfl (Or.inl rfl))
        (pss_cons (ps_if (pt_cmp (pc_dnotin hu (pe_tup (pa_cons (pv 6) (pa_cons (pv 7) pa_nil))) (pv 5)))
          (pss_cons (ps_set (i := 8) scWalked.nd rfl (Or.inl rfl) (NvK.pe_given (i := 1) G hr' (Nat.le_refl _) pass0 rfl rfl (Or.inl rfl) (pa_cons (pe_ix ix_list (pv 3) (pv 6) (fun _ _ => rfl)) (pa_cons (pv 7) pa_nil))))
          (pss_cons (ps_if (pt_cmp (pc_dnotin hu (pv 8) (pv 4)))
            (pss_cons (ps_dput hu (pv 4) (pv 8) (pe_callB call_len_seq (by rfl) M.len PySem.boot_len (pa_cons (pv 3) pa_nil)) rfl)
            (pss_one (ps_expr (pe_bm PySem.F.plainAttrs_list PySem.F.slot_list_append PySem.F.type_list_append mt_append (pv 3) (pa_cons (pv 8) pa_nil))))) pss_nil)
          (pss_one (ps_dput hu (pv 5) (pe_tup (pa_cons (pv 6) (pa_cons (pv 7) pa_nil))) (pe_dget hu (pv 4) (pv 8) (fun _ _ => rfl)) rfl)))) pss_nil)
        (pss_one (ps_set (i := 6) scWalked.nd rfl (Or.inl rfl) (pe_dget hu (pv 5) (pe_tup (pa_cons (pv 6) (pa_cons (pv 7) pa_nil))) (fun _ _ => rfl))))))
      (pss_one (ps_ret (pe_ix ix_list (pv 3) (pv 6) (fun _ _ => rfl)))))))), ?_⟩
    refine ⟨_, rfl, (by show 1 ≤ sizeLine; decide), fun LF nLF => ?_⟩
    have fLF : H LF = none := nLF
    have hF1 : (upd H LF (.lst [.ref b0])) LF = some (.lst [.ref b0]) := upd_same
    have hp1 : (upd H LF (.lst [.ref b0])) b0 = some (.tup (k0.map kV)) := keep_new hb0 nLF
    have s2 : Same H (upd H LF (.lst [.ref b0])) := Same.new (Same.refl H) nLF
    have free : ∀ {H9 : Hp} {q : Addr}, Same H H9 → H9 q = none → H q = none := fun {H9 q} sx hq => by
      cases e : H q with
      | none => rfl
      | some o =>
        have := sx _ _ e
        rw [hq] at this
        cases this
    generalize upd H LF (.lst [.ref b0]) = H2 at hF1 hp1 s2 ⊢
    intro LN nLN
    have fLN : H LN = none := free s2 nLN
    refine ⟨_, rfl, b0, k0, .int 0, rfl, upd_same, keep_new hp1 nLN, ?_⟩
    rw [upd_upd]
    have hN3 : (upd H2 LN (.dT [(k0, .int 0)])) LN = some (.dT [(k0, .int 0)]) := upd_same
    have hF3 := keep_new (u := .dT [(k0, .int 0)]) hF1 nLN
    have hp3 := keep_new (u := .dT [(k0, .int 0)]) hp1 nLN
    have s3 : Same H (upd H2 LN (.dT [(k0, .int 0)])) := Same.new s2 nLN
    generalize upd H2 LN (.dT [(k0, .int 0)]) = H3 at hN3 hF3 hp3 s3 ⊢
    intro LS nLS
    have fLS : H LS = none := free s3 nLS
    have NS : LN ≠ LS := ne_of_none hN3 nLS
    have hN4 := keep_new (u := .dT []) hN3 nLS
    have hF4 := keep_new (u := .dT []) hF3 nLS
    have hp4 := keep_new (u := .dT []) hp3 nLS
    have hS4 : (upd H3 LS (.dT [])) LS = some (.dT []) := upd_same
    have s4 : Same H (upd H3 LS (.dT [])) := Same.new s3 nLS
    generalize upd H3 LS (.dT []) = H4 at hN4 hF4 hp4 hS4 s4 ⊢
    clear nLF nLN nLS s2 s3 hF1 hp1 hN3 hF3 hp3
    refine ⟨_, rfl, y, rfl, for_it walk_str (fun i σ H' => ∃ (us' : List V) (Fs : List (List Key)) (kN kS : List (List Key × V)) (now : Nat) (l gl : Option V), σ = [some (.ref b0), some (.ref f), some (.str y), some (.ref LF), some (.ref LN), some (.ref LS), some (.int (now : Nat)), l, gl] ∧
        H' LF = some (.lst us') ∧ H' LN = some (.dT kN) ∧ H' LS = some (.dT kS) ∧ RowsK H' us' Fs ∧ NumsK kN Fs ∧ StepsK g kS Fs i ∧ Fs[now]? = some ((y.cps.toList.take i).foldl g k0) ∧ (∀ r ∈ Fs, Ok r) ∧ Fs.length ≤ i + 1 ∧ Same H H')
      ⟨[.ref b0], [k0], _, _, 0, none, none, rfl, hF4, hN4, hS4, ?_, ?_, ?_, ?_, ?_, Nat.le_refl _, s4⟩ (fun _ _ _ _ _ => trivial) ?_ ?_⟩
    · exact ⟨rfl, fun i r e => by
        match i, e with
        | 0, e => exact ⟨b0, rfl, by cases e; exact hp4⟩⟩
    · refine ⟨fun k v e => ?_, Nat.le_refl _⟩
      by_cases c : k0 = k
      · rw [valV_pos c] at e
        exact ⟨0, by rw [← c]; rfl, (Option.some.inj e).symm⟩
      · rw [valV_neg c, valV_nil] at e
        cases e
    · exact ⟨fun i c v e => (by rw [valV_nil] at e; cases e), Nat.le_refl _⟩
    · rw [List.take_zero]
      rfl
    · intro r hr'
      rw [List.mem_singleton.mp hr']
      exact ok0
    · rintro i v σ H5 H6 hi ⟨us', Fs, kN, kS, now, l, gl, rfl, hF, hN, hS', RA, NA, SA, hnow, wf, lf, sH⟩ ⟨rfl, c, hc, rfl⟩
      have hi6 : i < 1000000 := by
        have : y.length = y.cps.size := rfl
        omega
      have hc' : y.cps.toList[i]? = some c := by simpa using hc
      have cy : c ∈ y.cps.toList := List.mem_of_getElem? hc'
      have ea : (y.cps.toList.take (i + 1)).foldl g k0 = g ((y.cps.toList.take i).foldl g k0) c := fold_snoc hc'
      have ln : now < Fs.length := (List.getElem?_eq_some_iff.mp hnow).1
      obtain ⟨bq, b1, b2'⟩ := RA.2 now _ hnow
      have okn := wf _ (List.mem_of_getElem? hnow)
      refine ⟨_, rfl, _, rfl, (by show 2 ≤ sizeLine; decide), fun T nT => ?_⟩
      have TF : ∀ {b o}, H6 b = some o → (upd H6 T (.tup [.int (now : Nat), .str ⟨#[c]⟩])) b = some o := fun h => keep_new h nT
      have hT1 : (upd H6 T (.tup [.int (now : Nat), .str ⟨#[c]⟩])) T = some (.tup (([.inl ((now : Nat) : Int), .inr ⟨#[c]⟩] : List Key).map kV)) := upd_same
      have sT : Same H (upd H6 T (.tup [.int (now : Nat), .str ⟨#[c]⟩])) := Same.new sH nT
      have RT := RA.to (H' := upd H6 T (.tup [.int (now : Nat), .str ⟨#[c]⟩])) (fun b ys h => TF h)
      have hF := TF hF
      have hN := TF hN
      have hS' := TF hS'
      have b2' := TF b2'
      generalize upd H6 T (.tup [.int (now : Nat), .str ⟨#[c]⟩]) = H7 at hT1 sT RT hF hN hS' b2' ⊢
      clear TF RA nT sH
      refine ⟨_, rfl, LS, _, rfl, DGet.t (k := [.inl ((now : Nat) : Int), .inr ⟨#[c]⟩]) hS' hT1, _, rfl, ?_⟩
      cases e : valV kS [.inl ((now : Nat) : Int), .inr ⟨#[c]⟩] with
      | some v =>
        refine iteF ?_
        obtain ⟨j, r, s', rfl, j1, j2, j3⟩ := SA.only _ _ _ e
        refine ⟨_, rfl, _, rfl, _, rfl, (by show 2 ≤ sizeLine; decide), fun T2 n2 => ?_⟩
        have G : DGet (upd H7 T2 (.tup [.int (now : Nat), .str ⟨#[c]⟩])) LS (.ref T2) (some (.int (j : Nat))) := by
          have g := DGet.t (k := [.inl ((now : Nat) : Int), .inr ⟨#[c]⟩]) (keep_new (u := .tup [.int (now : Nat), .str ⟨#[c]⟩]) hS' n2) upd_same
          rw [e] at g
          exact g
        refine ⟨LS, _, rfl, G, us', Fs, kN, kS, j, _, gl, rfl, keep_new hF n2, keep_new hN n2, keep_new hS' n2, RT.to (fun b ys h => keep_new h n2), NA, ⟨SA.only, by have := SA.len; omega⟩, ?_, wf, by omega, Same.new sT n2⟩
        rw [j2, ea, j3]
        have z : r = (y.cps.toList.take i).foldl g k0 := Option.some.inj (j1.symm.trans hnow)
        rw [z]
      | none =>
        refine iteT ?_
        refine ⟨rfl, sT _ _ hf0, _, rfl, _, rfl, LF, us', _, _, rfl, rfl, SqL.of hF, atI_nat b1, _, rfl, sT _ _ hf0, sT _ _ hc0, hS _ bq _ c _ _ sT b2' okn cy fun gg H8 hg sg => ?_⟩
        have hF := sg _ _ hF
        have hN := sg _ _ hN
        have hS' := sg _ _ hS'
        have RT := RT.to (H' := H8) (fun b ys h => sg _ _ h)
        have sT := sT.trans sg
        have hT1 := sg _ _ hT1
        have okg := okS c cy _ okn
        rw [← ea] at hg okg
        refine ⟨_, rfl, _, rfl, LN, _, rfl, DGet.t (k := (y.cps.toList.take (i + 1)).foldl g k0) hN hg, _, rfl, ?_⟩
        have sz : (1000001 : Nat) < sizeLine := by decide
        generalize hk1 : (y.cps.toList.take (i + 1)).foldl g k0 = k1 at hg okg ea ⊢
        cases e2 : valV kN k1 with
        | some v =>
          refine iteF ?_
          obtain ⟨j, j1, rfl⟩ := NA.only _ _ e2
          have G2 : DGet H8 LN (.ref gg) (some (.int (j : Nat))) := by
            have q := DGet.t (k := k1) hN hg
            rw [e2] at q
            exact q
          refine ⟨_, rfl, _, rfl, LN, _, rfl, G2, _, rfl, _, rfl, _, rfl, (by show 2 ≤ sizeLine; decide), fun T2 n2 => ?_⟩
          have hS9 := keep_new (u := .tup [.int (now : Nat), .str ⟨#[c]⟩]) hS' n2
          have hN9 := keep_new (u := .tup [.int (now : Nat), .str ⟨#[c]⟩]) hN n2
          have hF9 := keep_new (u := .tup [.int (now : Nat), .str ⟨#[c]⟩]) hF n2
          have hT9 : (upd H8 T2 (.tup [.int (now : Nat), .str ⟨#[c]⟩])) T2 = some (.tup (([.inl ((now : Nat) : Int), .inr ⟨#[c]⟩] : List Key).map kV)) := upd_same
          have R9 := RT.to (H' := upd H8 T2 (.tup [.int (now : Nat), .str ⟨#[c]⟩])) (fun b ys h => keep_new h n2)
          have s9 : Same H (upd H8 T2 (.tup [.int (now : Nat), .str ⟨#[c]⟩])) := Same.new sT n2
          generalize upd H8 T2 (.tup [.int (now : Nat), .str ⟨#[c]⟩]) = H9 at hS9 hN9 hF9 hT9 R9 s9 ⊢
          refine ⟨LS, _, rfl, DPut.t hS9 hT9 (by have := SA.len; omega), ?_⟩
          have SA' := SA.put (c := c) hnow j1 ea
          have TS : LS ≠ LF := Ne.symm (ne_of hF9 hS9 (fun z => by cases z))
          generalize hX : upd H9 LS (.dT (putK kS [.inl ((now : Nat) : Int), .inr ⟨#[c]⟩] (.int ((j : Nat) : Int)))) = HC
          have hSc : HC LS = some (.dT (putK kS [.inl ((now : Nat) : Int), .inr ⟨#[c]⟩] (.int ((j : Nat) : Int)))) := by rw [← hX]; exact upd_same
          have hFc : HC LF = some (.lst us') := by rw [← hX, upd_ne (Ne.symm TS)]; exact hF9
          have hNc : HC LN = some (.dT kN) := by rw [← hX, upd_ne NS]; exact hN9
          have Rc : RowsK HC us' Fs := R9.to (fun b ys h => by rw [← hX, upd_ne (ne_of h hS9 (fun z => by cases z))]; exact h)
          have sc : Same H HC := fun b o h => by rw [← hX, upd_ne (ne_of_none h fLS)]; exact s9 _ _ h
          clear hX
          refine ⟨_, rfl, _, rfl, _, rfl, (by show 2 ≤ sizeLine; decide), fun T3 n3 => ?_⟩
          have G3 : DGet (upd HC T3 (.tup [.int (now : Nat), .str ⟨#[c]⟩])) LS (.ref T3) (some (.int ((j : Nat) : Int))) := by
            have q := DGet.t (k := [.inl ((now : Nat) : Int), .inr ⟨#[c]⟩]) (keep_new (u := .tup [.int (now : Nat), .str ⟨#[c]⟩]) hSc n3) upd_same
            rw [valV_put, if_pos rfl] at q
            exact q
          exact ⟨LS, _, rfl, G3, us', Fs, kN, _, _, _, _, rfl, keep_new hFc n3, keep_new hNc n3, keep_new hSc n3, Rc.to (fun b ys h => keep_new h n3), NA, SA', hk1 ▸ j1, wf, (by omega), Same.new sc n3⟩
        | none =>
          refine iteT ?_
          have lF : us'.length = Fs.length := RT.1
          refine ⟨_, rfl, LF, us', rfl, .inl (SqL.of hF), _, rfl, _, rfl, LN, _, rfl, DPut.t hN hg (by have := NA.len; omega), ?_⟩
          rw [lF]
          have NA2 := NA.put (r := k1)
          have FN : LF ≠ LN := ne_of hF hN (fun z => by cases z)
          have FS : LF ≠ LS := ne_of hF hS' (fun z => by cases z)
          have gF : gg ≠ LF := ne_of hg hF (fun z => by cases z)
          have gN : gg ≠ LN := ne_of hg hN (fun z => by cases z)
          have hFa : (upd H8 LN (.dT (putK kN k1 (.int ((Fs.length : Nat) : Int))))) LF = some (.lst us') := by rw [upd_ne FN]; exact hF
          refine ⟨_, rfl, .inl ⟨rfl, _, SqL.of hFa⟩, _, rfl, LF, us', .ref gg, rfl, rfl, hFa, (by omega), ?_⟩
          generalize hB : upd (upd H8 LN (.dT (putK kN k1 (.int ((Fs.length : Nat) : Int))))) LF (.lst (us' ++ [.ref gg])) = HB
          have hF2 : HB LF = some (.lst (us' ++ [.ref gg])) := by rw [← hB]; exact upd_same
          have hN2 : HB LN = some (.dT (putK kN k1 (.int ((Fs.length : Nat) : Int)))) := by rw [← hB, upd_ne (Ne.symm FN), upd_same]
          have hS2 : HB LS = some (.dT kS) := by rw [← hB, upd_ne (Ne.symm FS), upd_ne (Ne.symm NS)]; exact hS'
          have hg2 : HB gg = some (.tup (k1.map kV)) := by rw [← hB, upd_ne gF, upd_ne gN]; exact hg
          have tp : ∀ b ys, H8 b = some (.tup ys) → HB b = some (.tup ys) := fun b ys h => by
            rw [← hB, upd_ne (ne_of h hF (fun z => by cases z)), upd_ne (ne_of h hN (fun z => by cases z))]
            exact h
          have R2 := (RT.to tp).snoc hg2
          have s2 : Same H HB := fun b o h => by
            rw [← hB, upd_ne (ne_of_none h fLF), upd_ne (ne_of_none h fLN)]
            exact sT _ _ h
          clear hB
          have G2 : DGet HB LN (.ref gg) (some (.int ((Fs.length : Nat) : Int))) := by
            have q := DGet.t (k := k1) hN2 hg2
            rw [valV_put, if_pos rfl] at q
            exact q
          have j1 : (Fs ++ [k1])[Fs.length]? = some k1 := by
            rw [List.getElem?_append_right (Nat.le_refl _), Nat.sub_self]
            rfl
          have wf2 : ∀ r ∈ Fs ++ [k1], Ok r := fun r hr2 => by
            rcases List.mem_append.mp hr2 with q | q
            · exact wf r q
            · rw [List.mem_singleton.mp q]
              exact okg
          refine ⟨_, rfl, _, rfl, LN, _, rfl, G2, _, rfl, _, rfl, _, rfl, (by show 2 ≤ sizeLine; decide), fun T2 n2 => ?_⟩
          have hS9 := keep_new (u := .tup [.int (now : Nat), .str ⟨#[c]⟩]) hS2 n2
          have hN9 := keep_new (u := .tup [.int (now : Nat), .str ⟨#[c]⟩]) hN2 n2
          have hF9 := keep_new (u := .tup [.int (now : Nat), .str ⟨#[c]⟩]) hF2 n2
          have hT9 : (upd HB T2 (.tup [.int (now : Nat), .str ⟨#[c]⟩])) T2 = some (.tup (([.inl ((now : Nat) : Int), .inr ⟨#[c]⟩] : List Key).map kV)) := upd_same
          have R9 := R2.to (H' := upd HB T2 (.tup [.int (now : Nat), .str ⟨#[c]⟩])) (fun b ys h => keep_new h n2)
          have s9 : Same H (upd HB T2 (.tup [.int (now : Nat), .str ⟨#[c]⟩])) := Same.new s2 n2
          generalize upd HB T2 (.tup [.int (now : Nat), .str ⟨#[c]⟩]) = H9 at hS9 hN9 hF9 hT9 R9 s9 ⊢
          refine ⟨LS, _, rfl, DPut.t hS9 hT9 (by have := SA.len; omega), ?_⟩
          have SA' := (SA.app k1).put (c := c) (at_app hnow _) j1 ea
          have TS : LS ≠ LF := Ne.symm (ne_of hF9 hS9 (fun z => by cases z))
          generalize hX : upd H9 LS (.dT (putK kS [.inl ((now : Nat) : Int), .inr ⟨#[c]⟩] (.int ((Fs.length : Nat) : Int)))) = HC
          have hSc : HC LS = some (.dT (putK kS [.inl ((now : Nat) : Int), .inr ⟨#[c]⟩] (.int ((Fs.length : Nat) : Int)))) := by rw [← hX]; exact upd_same
          have hFc : HC LF = some (.lst (us' ++ [.ref gg])) := by rw [← hX, upd_ne (Ne.symm TS)]; exact hF9
          have hNc : HC LN = some (.dT (putK kN k1 (.int ((Fs.length : Nat) : Int)))) := by rw [← hX, upd_ne NS]; exact hN9
          have Rc : RowsK HC (us' ++ [.ref gg]) (Fs ++ [k1]) := R9.to (fun b ys h => by rw [← hX, upd_ne (ne_of h hS9 (fun z => by cases z))]; exact h)
          have sc : Same H HC := fun b o h => by rw [← hX, upd_ne (ne_of_none h fLS)]; exact s9 _ _ h
          clear hX
          refine ⟨_, rfl, _, rfl, _, rfl, (by show 2 ≤ sizeLine; decide), fun T3 n3 => ?_⟩
          have G3 : DGet (upd HC T3 (.tup [.int (now : Nat), .str ⟨#[c]⟩])) LS (.ref T3) (some (.int ((Fs.length : Nat) : Int))) := by
            have q := DGet.t (k := [.inl ((now : Nat) : Int), .inr ⟨#[c]⟩]) (keep_new (u := .tup [.int (now : Nat), .str ⟨#[c]⟩]) hSc n3) upd_same
            rw [valV_put, if_pos rfl] at q
            exact q
          exact ⟨LS, _, rfl, G3, (us' ++ [.ref gg]), (Fs ++ [k1]), _, _, _, _, _, rfl, keep_new hFc n3, keep_new hNc n3, keep_new hSc n3, Rc.to (fun b ys h => keep_new h n3), NA2, SA', hk1 ▸ j1, wf2, (by rw [List.length_append]; show Fs.length + 1 ≤ _; omega), Same.new sc n3⟩
    · rintro σ H5 ⟨us', Fs, kN, kS, now, l, gl, rfl, hF, hN, hS', RA, NA, SA, hnow, wf, lf, sH⟩
      obtain ⟨bq, b1, b2'⟩ := RA.2 now _ hnow
      have et : y.cps.toList.take y.cps.size = y.cps.toList := List.take_of_length_le (by simp)
      rw [et] at b2'
      exact ⟨_, rfl, _, rfl, LF, us', _, _, rfl, rfl, SqL.of hF, atI_nat b1, kq bq H5 b2' sH⟩
end
end M3

set_option Elab.async false
set_option linter.all false
set_option maxRecDepth 100000
set_option maxHeartbeats 8000000
/-! # The action of a word, walked with a lambda -/
namespace M3
open PySem L2 LamX NdefX NvK
/-- all that was tracked is as it was, but the tables of code objects, which tell what they must -/
structure Ext (T : List NTab) (H H' : Hp) : Prop where
  ext : ExtN H H'
  non : ∀ b, H' b = Option.none → H b = Option.none
  tab : TabsN T H'
theorem exn_at {H H' : Hp} (e : ExtN H H') {b : Addr} {o : HO} (h : H b = some o) (n : ∀ ps, o ≠ .tbl ps := by intro ps z; cases z) : H' b = some o := e b o h n
theorem Ext.at_ {T : List NTab} {H H' : Hp} (e : Ext T H H') {b : Addr} {o : HO} (h : H b = some o) (n : ∀ ps, o ≠ .tbl ps := by intro ps z; cases z) : H' b = some o := e.ext b o h n
theorem same_non {H H' : Hp} (s : Same H H') : ∀ b, H' b = Option.none → H b = Option.none := fun b hq => by
  cases e : H b with
  | none => rfl
  | some o =>
    have := s _ _ e
    rw [hq] at this
    cases this
theorem Ext.of {T : List NTab} {H H' : Hp} (t : TabsN T H) (s : Same H H') : Ext T H H' := ⟨ExtN.of s, same_non s, t.ext s⟩
theorem Ext.refl {T : List NTab} {H : Hp} (t : TabsN T H) : Ext T H H := Ext.of t (Same.refl H)
theorem Ext.trans {T : List NTab} {H H1 H2 : Hp} (a : Ext T H H1) (b : Ext T H1 H2) : Ext T H H2 := ⟨a.ext.trans b.ext, fun c h => a.non c (b.non c h), b.tab⟩
theorem Ext.same {T : List NTab} {H H1 H2 : Hp} (a : Ext T H H1) (s : Same H1 H2) : Ext T H H2 := a.trans (Ext.of a.tab s)
theorem Ext.new {T : List NTab} {H H1 : Hp} {b : Addr} {o : HO} (a : Ext T H H1) (n : H1 b = none) : Ext T H (upd H1 b o) := a.same (Same.new (Same.refl H1) n)
theorem sqt_ext {K : PySem.W.Frag} {H H' : Hp} {a : Addr} {us : List V} (e : ExtN H H') (h : SqT K H a us) : SqT K H' a us := by
  rcases h with (h | ⟨o, h⟩) | h
  · exact .inl (.inl (exn_at e h))
  · exact .inl (.inr ⟨o, exn_at e h⟩)
  · exact .inr h
theorem Tups.ext {K : PySem.W.Frag} {H H' : Hp} {us : List V} {t : List (List Nat)} (h : Tups K H us t) (s : ExtN H H') : Tups K H' us t := ⟨h.1, fun i r e => by
  obtain ⟨b, b1, b2⟩ := h.2 i r e
  exact ⟨b, b1, sqt_ext s b2⟩⟩
/-- a key read back as numbers -/
def unkey (k : List Key) : List Nat := k.map fun q => match q with
  | .inl i => i.toNat
  | .inr _ => 0
theorem unkey_key (fs : List Nat) : unkey (key fs) = fs := by
  induction fs with
  | nil => rfl
  | cons f fs ih =>
    show (((f : Nat) : Int).toNat :: unkey (key fs)) = f :: fs
    rw [ih, Int.toNat_natCast]
theorem fold_key {t : List (List Nat)} {x : Str} : ∀ (cs ds : List Nat), cs.foldl (fun k c => key (ledon t (unkey k) (x.cps.toList.idxOf c))) (key (act t x ds)) = key (act t x (ds ++ cs))
  | [], ds => by rw [List.append_nil]; rfl
  | c :: cs, ds => by
    rw [List.foldl_cons, unkey_key, ← act_snoc, fold_key cs (ds ++ [c]), List.append_assoc]
    rfl
abbrev sActed : Stmt := top 53
abbrev nActed : List Str := ["table", "letters", "word"]
theorem scActed : FnScope nActed ["table", "letters", "word"] (defScope sActed) := ⟨rfl, rfl, rfl, by decide +kernel, rfl, by decide +kernel, by decide +kernel⟩
/-- the lambda in a return's call, the second argument -/
def lamOf (s : Stmt) : Expr := match s with
  | .FunctionDef _ _ [.Return (some (.Call _ [_, l, _] _ _)) _] _ _ _ _ _ _ _ => l
  | _ => .Constant .none 0 ⟨0, 0, 0, 0⟩
def lamArgs (e : Expr) : Arguments := match e with
  | .Lambda a _ _ _ => a
  | _ => { posonlyargs := [], args := [], vararg := none, kwonlyargs := [], kw_defaults := [], kwarg := none, defaults := [] }
def lamBody (e : Expr) : Expr := match e with
  | .Lambda _ b _ _ => b
  | e => e
def lamScope (e : Expr) : Scope := match e with
  | .Lambda _ _ sc _ => sc
  | _ => { kind := .function, names := [], isGenerator := false, isCoroutine := false }
/-- a lambda's words in the def x -/
def lfOf (x : Str) (e : Expr) (cells : List (Str × Addr)) (c : Addr) : LF := ⟨x ++ ".<locals>." ++ "<lambda>", lamArgs e, lamBody e, lamScope e, cloFrom cells (lamScope e).names [], c⟩
abbrev lActed : Expr := lamOf sActed
abbrev nLam : List Str := ["action", "letter", "table", "letters"]
theorem scLamA : NScope nLam ["action", "letter"] ["table", "letters"] (lamScope lActed) := nscope_by (by decide +kernel)
def nmActed : Nat → Nat → Str := fun _ _ => "acted.<locals>.<lambda>"
/-- what the lambda keeps, the table at a and the letters x captured -/
def spLamA (K : PySem.W.Frag) (a : Addr) (x : Str) : Sp := fun vs H Q E => ∃ (b : Addr) (c : Nat), vs = [.ref b, .str ⟨#[c]⟩] ∧ spLedOn K [.ref a, .ref b, .int (x.cps.toList.idxOf c : Nat)] H Q E ∧ (∃ m, IsSet x m ∧ m ≤ 2) ∧ c ∈ x.cps.toList
def spActed (K : PySem.W.Frag) (T : List NTab) : Sp := fun vs H Q _ => ∃ (a : Addr) (x y : Str) (us : List V) (t : List (List Nat)) (m : Nat), vs = [.ref a, .str x, .str y] ∧ SqT K H a us ∧ Tups K H us t ∧ IsTab t t.length m ∧ IsSet x m ∧ m ≤ 2 ∧ IsW x y ∧ t.length ≤ 1000 ∧ y.length ≤ 1000000 ∧ TabsN T H ∧
  ∀ (b : Addr) (H' : Hp), H' b = some (.tup (nts (act t x y.cps.toList))) → Ext T H H' → Q (.ref b) H'
section
variable {P : Program} {w : World} {K : PySem.W.Frag} {mg : Str → Option Value} {base : Heap}
theorem ok_acted {f g g2 g9 c Pt : Addr} {fd gd gd2 gd9 : FuncData} {T : List NTab} (F : Fun K "acted" "acted" sActed f fd) (hcode : fd.code = .ref c) (TB : TabB base mg c Pt) (hT : (Pt, nmActed) ∈ T) (hu : ∀ p ∈ T, p.1 = Pt → p.2 = nmActed)
    (G : Fun K "unmoved" "unmoved" sUnmoved g gd) (bG : Binds K gd ["table"] []) (mG : mg "unmoved" = some (.ref g)) (G2 : Fun K "led_on" "led_on" sLedOn g2 gd2) (b2 : Binds K gd2 ["table", "states", "column"] []) (m2 : mg "led_on" = some (.ref g2))
    (G9 : Fun K "walked" "walked" sWalked g9 gd9) (b9 : Binds K gd9 ["start", "step", "word"] []) (m9 : mg "walked" = some (.ref g9)) (M : TxM mg) :
    FnOk P w K mg base CX0 4 f fd ["table", "letters", "word"] (spActed K T) := by
  have GU : FnOk P w K mg base CX0 1 g gd ["table"] (spUnmoved K) := ok_unmoved G M
  have GL : FnOk P w K mg base CX0 1 g2 gd2 ["table", "states", "column"] (spLedOn K) := ok_ledon G2 M
  obtain ⟨oc, od, kV', doc, pm, an, cdv, ct, osl, rfl, lk, hcd⟩ := F.ex
  have hcv : cdv = .ref c := hcode
  subst hcv
  refine fn_of lk hcd scActed (fun vs H Q E h => ?_) (fun A outer s H vs Q E hr h => ?_)
  · obtain ⟨a, x, y, us, t, m, rfl, _⟩ := h
    rfl
  · obtain ⟨a, x, y, us, t, m, rfl, ha, hTu, tb, st, hm2, hw, tl, hy, tabs, k⟩ := h
    suffices z : ∃ t, PSs (cxOf CX0 P w K mg base nActed "acted" (defScope sActed) f (.ref c) A outer s H E).nox (defBody sActed) t ∧ t { nx := fun _ H' => Q .non H', rt := Q } (start nActed [.ref a, .str x, .str y]) H by
      obtain ⟨t, ht, q⟩ := z
      exact ⟨t, ht.nox, q⟩
    refine ⟨_, pss_one (ps_ret (pe_callV (g := g9) (E := E0) (CX := CX0) (TV := fun σ vs H1 Q => ∃ (b0 f1 c1 : Addr), σ = [some (.ref a), some (.str x), some (.str y)] ∧ vs = [.ref b0, .ref f1, .str y] ∧ spWalked f1 (lfOf "acted" lActed (cxOf CX0 P w K mg base nActed "acted" (defScope sActed) f (.ref c) A outer s H E).env.cells c1) (spLamA K a x) vs H1 Q E0)
      rfl m9 G9.kp pass0 (pa_cons (pe_call GU (hr.mono (by decide)) rfl mG G.kp bG .nil pass0 (pa_cons (pv 0) pa_nil)) (pa_cons (pe_lamN (T := T) (nm := nmActed) TB rfl hT rfl hu (ndef_free (sc := defScope sActed) (nsc := lamScope lActed) (fr := ["table", "letters"]) (by decide +kernel)) rfl) (pa_cons (pv 2) pa_nil))) ?_)), ?_⟩
    · intro pins s1 σ H1 Q1 us1 vs1 I r q
      obtain ⟨b0, f1, c1, rfl, rfl, q⟩ := q
      refine run_walked G9 b9 M (k := 1) (hr.mono (by decide)) I.env0 r ?_ q
      refine given_lam (N := nLam) (ps := ["action", "letter"]) (fr := ["table", "letters"]) (js := [0, 1]) I ?_ (fun _ => rfl) scLamA ?_ ?_ ?_
      · refine Caps.made I.ok ?_ ?_ rfl
        · exact ndef_free (sc := defScope sActed) (nsc := lamScope lActed) (fr := ["table", "letters"]) (by decide +kernel)
        · exact ndef_fr (sc := defScope sActed) (nsc := lamScope lActed) (fr := ["table", "letters"]) (by decide +kernel)
      · intro pm ctv us hl
        match us, hl with
        | [_, _], _ => rfl
      · rintro vs H Q E ⟨b, c, rfl, _⟩
        rfl
      · rintro A' outer' s' H' vs Q' E' hr' ⟨b, c, rfl, hq, ⟨m', st', hm'⟩, hc⟩
        refine ⟨_, pe_call GL hr' rfl m2 G2.kp b2 .nil pass0 (pa_cons (pv 2) (pa_cons (pv 0) (pa_cons (pe_bm PySem.F.plainAttrs_str PySem.F.slot_str_index PySem.F.type_str_index mt_sindex (pv 3) (pa_cons (pv 1) pa_nil)) pa_nil))), ?_⟩
        exact ⟨_, rfl, _, rfl, _, rfl, rfl, _, rfl, x, ⟨#[c]⟩, x.cps.toList.idxOf c, [], rfl, rfl, set_occ st' hm' hc, hq⟩
    · have hm : x.cps.toList.length = m := by
        have := set_len st
        simpa [Str.length] using this
      have lu : us.length = t.length := hTu.1
      refine ⟨_, rfl, a, us, rfl, ha, by omega, fun p0 H1 np h1 s1 => ⟨tabs.ext s1, fun f1 c1 H2 eN nn T2 f0 hf hc => ⟨_, rfl, p0, f1, c1, rfl, rfl, ?_⟩⟩⟩
      rw [lu] at h1
      have e2 : Ext T H H2 := (Ext.of tabs s1).trans ⟨eN, nn, T2⟩
      refine ⟨p0, y, key (List.range t.length), fun k c => key (ledon t (unkey k) (x.cps.toList.idxOf c)), fun k => ∃ fs, k = key fs ∧ (∀ z ∈ fs, z < t.length) ∧ fs.length = t.length, rfl, ?_, hf, hc, ⟨_, rfl, fun z hz => List.mem_range.mp hz, List.length_range⟩, ?_, ?_, hy, fun b' H' hb' s' => k b' H' ?_ (e2.same s')⟩
      · rw [key_tup]
        exact exn_at eN h1
      · rintro c hc' k ⟨fs, rfl, w1, w2⟩
        have ix : x.cps.toList.idxOf c < m := by
          rw [← hm]
          exact List.idxOf_lt_length_of_mem (hw c hc')
        show ∃ fs', key (ledon t (unkey (key fs)) (x.cps.toList.idxOf c)) = key fs' ∧ (∀ z ∈ fs', z < t.length) ∧ fs'.length = t.length
        rw [unkey_key]
        refine ⟨_, rfl, ledon_lt tb ix w1, ?_⟩
        unfold ledon
        rw [List.length_map, w2]
      · rintro H' b k c Q' E' s' hb ⟨fs, rfl, w1, w2⟩ hc' fin
        have ix : x.cps.toList.idxOf c < m := by
          rw [← hm]
          exact List.idxOf_lt_length_of_mem (hw c hc')
        have fin : ∀ (b' : Addr) (H8 : Hp), H8 b' = some (.tup ((key (ledon t fs (x.cps.toList.idxOf c))).map kV)) → Same H' H8 → Q' (.ref b') H8 := fun b' H8 h => fin b' H8 (by rw [show (fun (k : List Key) (c : Nat) => key (ledon t (unkey k) (x.cps.toList.idxOf c))) (key fs) c = key (ledon t (unkey (key fs)) (x.cps.toList.idxOf c)) from rfl, unkey_key]; exact h)
        rw [key_tup] at hb
        refine ⟨b, c, rfl, ⟨a, b, us, t, fs, x.cps.toList.idxOf c, m, rfl, sqt_same s' (sqt_ext e2.ext ha), (hTu.ext e2.ext).same s', tb, SqT.of hb, w1, (by omega), ix, fun p H8 _ h8 s8 => fin p H8 (by rw [key_tup]; exact h8) s8⟩, ⟨m, st, hm2⟩, hw c hc'⟩
      · have q := fold_key (t := t) (x := x) y.cps.toList []
        rw [act_nil, List.nil_append] at q
        rw [q, key_tup] at hb'
        exact hb'
end
end M3

set_option Elab.async false
set_option linter.all false
set_option maxRecDepth 100000
set_option maxHeartbeats 8000000
/-! # All but the dice and the tables of code objects -/
namespace M3
open PySem L2 NdefX
structure Stl (T : List NTab) (d : Addr) (H H' : Hp) : Prop where
  st : ∀ b o, b ≠ d → H b = some o → (∀ ps, o ≠ .tbl ps) → H' b = some o
  non : ∀ b, H' b = Option.none → H b = Option.none
  tab : TabsN T H'
theorem tabs_still {T : List NTab} {d : Addr} {H H' : Hp} (t : TabsN T H) (z : Dz H d) (s : Still d H H') : TabsN T H' := fun p hp => by
  obtain ⟨l, m, c, e, _⟩ := z
  obtain ⟨ps, h1, h2, h3⟩ := t p hp
  refine ⟨ps, s _ _ (fun q => by rw [q, e] at h1; cases h1) h1, h2, fun pos cv hc => ?_⟩
  obtain ⟨c', e1, e2⟩ := h3 pos cv hc
  exact ⟨c', e1, s _ _ (fun q => by rw [q, e] at e2; unfold LamX.CodeO at e2; cases e2) e2⟩
theorem still_non {d : Addr} {H H' : Hp} (z' : Dz H' d) (s : Still d H H') : ∀ b, H' b = Option.none → H b = Option.none := fun b hb => by
  cases e : H b with
  | none => rfl
  | some o =>
    have q := s b o (z'.not hb) e
    rw [hb] at q
    cases q
theorem Stl.of {T : List NTab} {d : Addr} {H H' : Hp} (t : TabsN T H) (z : Dz H d) (z' : Dz H' d) (s : Still d H H') : Stl T d H H' := ⟨fun b o hb h _ => s b o hb h, still_non z' s, tabs_still t z s⟩
theorem Stl.ofE {T : List NTab} {d : Addr} {H H' : Hp} (e : Ext T H H') : Stl T d H H' := ⟨fun b o _ h n => e.ext b o h n, e.non, e.tab⟩
theorem Stl.trans {T : List NTab} {d : Addr} {H H1 H2 : Hp} (a : Stl T d H H1) (b : Stl T d H1 H2) : Stl T d H H2 := ⟨fun c o hc h n => b.st c o hc (a.st c o hc h n) n, fun c h => a.non c (b.non c h), b.tab⟩
theorem Stl.refl {T : List NTab} {H : Hp} (d : Addr) (t : TabsN T H) : Stl T d H H := Stl.ofE (Ext.refl t)
theorem Stl.still {T : List NTab} {d : Addr} {H H1 H2 : Hp} (a : Stl T d H H1) (z : Dz H1 d) (z' : Dz H2 d) (s : Still d H1 H2) : Stl T d H H2 := a.trans (Stl.of a.tab z z' s)
theorem Stl.same {T : List NTab} {d : Addr} {H H1 H2 : Hp} (a : Stl T d H H1) (s : Same H1 H2) : Stl T d H H2 := a.trans (Stl.ofE (Ext.of a.tab s))
theorem Stl.toE {T : List NTab} {d : Addr} {H H1 H2 : Hp} (a : Ext T H H1) (b : Stl T d H1 H2) (n : H d = none) : Ext T H H2 := ⟨fun c o h q => b.st c o (fun z => by rw [z, n] at h; cases h) (a.ext c o h q) q, fun c h => a.non c (b.non c h), b.tab⟩
theorem dz_ext {d : Addr} {H H' : Hp} (e : LamX.ExtN H H') (z : Dz H d) : Dz H' d := by
  obtain ⟨l, m, c, h, r⟩ := z
  exact ⟨l, m, c, exn_at e h, r⟩
theorem sqt_stl {K : PySem.W.Frag} {T : List NTab} {d a : Addr} {H H' : Hp} {xs : List V} (s : Stl T d H H') (z : Dz H d) (h : SqT K H a xs) : SqT K H' a xs := by
  obtain ⟨l, m, c, e, _⟩ := z
  rcases h with (h | ⟨u, h⟩) | h
  · exact .inl (.inl (s.st _ _ (fun q => by rw [q, e] at h; cases h) h (fun ps q => by cases q)))
  · exact .inl (.inr ⟨u, s.st _ _ (fun q => by rw [q, e] at h; cases h) h (fun ps q => by cases q)⟩)
  · exact .inr h
theorem tabs_upd {T : List NTab} {H : Hp} {D : Addr} {vs us : List V} (t : TabsN T H) (h : H D = some (.lst vs)) : TabsN T (upd H D (.lst us)) := fun p hp => by
  obtain ⟨ps, h1, h2, h3⟩ := t p hp
  refine ⟨ps, by rw [upd_ne (ne_of h1 h (fun z => by cases z))]; exact h1, h2, fun pos cv hc => ?_⟩
  obtain ⟨c', e1, e2⟩ := h3 pos cv hc
  exact ⟨c', e1, by rw [upd_ne (ne_of e2 h (fun z => by unfold LamX.CodeO at z; cases z))]; exact e2⟩
/-- a list at D is written anew -/
theorem Stl.put {T : List NTab} {D : Addr} {H H1 : Hp} {vs us : List V} (a : Stl T D H H1) (h : H1 D = some (.lst vs)) : Stl T D H (upd H1 D (.lst us)) := ⟨fun b o hb e n => by rw [upd_ne hb]; exact a.st b o hb e n, fun b e => a.non b (upd_none e), tabs_upd a.tab h⟩
theorem Stl.one {T : List NTab} {D : Addr} {H H1 : Hp} (a : Stl T D H H1) (n : H D = none) (t : TabsN T H) : Ext T H H1 := Stl.toE (Ext.refl t) a n
theorem sql_ext {K : PySem.W.Frag} {H H' : Hp} {a : Addr} {us : List V} (e : LamX.ExtN H H') (h : SqL K H a us) : SqL K H' a us := by
  rcases h with (h | ⟨o, h⟩) | h
  · exact .inl (.inl (exn_at e h))
  · exact .inl (.inr ⟨o, exn_at e h⟩)
  · exact .inr h
end M3

set_option Elab.async false
set_option linter.all false
set_option maxRecDepth 100000
set_option maxHeartbeats 8000000
/-! # What later defs ask of the others -/
namespace M3
open PySem L2
/-- a def of the top that keeps a promise -/
structure FnC (P : Program) (w : World) (K : PySem.W.Frag) (mg : Str → Option Value) (base : Heap) (k : Nat) (x : Str) (ps : List Str) (sp : Sp) where
  f : Addr
  fd : FuncData
  G : FnOk P w K mg base CX0 k f fd ps sp
  b : Binds K fd ps []
  m : mg x = some (.ref f)
  kp : PySem.W.keepIn K (.ref f) = true
/-- .. that may raise -/
structure FnX (P : Program) (w : World) (K : PySem.W.Frag) (mg : Str → Option Value) (base : Heap) (k : Nat) (x : Str) (ps : List Str) (sp : Sp) where
  f : Addr
  fd : FuncData
  G : FnOk P w K mg base (L2.CX P w) k f fd ps sp
  b : Binds K fd ps []
  m : mg x = some (.ref f)
  kp : PySem.W.keepIn K (.ref f) = true
/-- a method of the class at C that keeps a promise; ds: its defaults -/
structure MtC (P : Program) (w : World) (K : PySem.W.Frag) (mg : Str → Option Value) (base : Heap) (C : Addr) (k : Nat) (x : Str) (ps : List Str) (dvs : List V) (sp : Sp) where
  f : Addr
  fd : FuncData
  ds : List Value
  G : FnOk P w K mg base CX0 k f fd ps sp
  v : Vals dvs ds
  b : Binds K fd ps ds
  m : Meth K C x f
/-- a property of the class at C whose getter keeps a promise -/
structure PrC (P : Program) (w : World) (K : PySem.W.Frag) (mg : Str → Option Value) (base : Heap) (C : Addr) (k : Nat) (x : Str) (sp : Sp) where
  (pa g : Addr)
  fd : FuncData
  hp : PropOf K C x pa g
  G : FnOk P w K mg base CX0 k g fd ["self"] sp
  b : Binds K fd ["self"] []
/-- the class of machines, seen from outside -/
structure TxO (K : PySem.W.Frag) (C : Addr) : Prop where
  ks : PySem.W.kitOne K (.ref C) (.type "str") = some false
  ha : PySem.W.findIn K (.ref C) "__class__" = some (some (.builtin "object.__class__"))
  hn : PySem.W.specialIn K (.builtin "object.__class__") "__get__" = some (some (.builtin "getset_descriptor.__get__"))
  tk : PySem.W.takesIn K (.builtin "object.__class__") = some true
  hm : PySem.W.mroIn K C (.type "object") = some true
  kc : PySem.W.kitOne K (.ref C) (.ref C) = some true
/-- an own error that keeps what it takes -/
structure TxA (P : Program) (K : PySem.W.Frag) (mg : Str → Option Value) (nm : Str) (fld : String) (c : Addr) : Prop where
  tx : ∃ (fI : Addr) (B i B0 newId : String) (qual : Str), PySem.NvE.InitTxt P K c fI B i B0 newId fld qual
  g : mg nm = some (.ref c)
  k : PySem.W.keepIn K (.ref c) = true
  b : PySem.W.subIn K (.ref c) (.type "BaseException") = some true
  t : PySem.W.typeIn K (.ref c) = some (.type "type")
  x : PySem.W.exmOne K (.ref c) (.ref c) = some true
theorem TxA.keeps {P : Program} {K : PySem.W.Frag} {mg : Str → Option Value} {nm : Str} {fld : String} {c : Addr} (T : TxA P K mg nm fld c) {X : Cx} (h1 : X.prog = P) (h2 : X.K = K) (h3 : X.mg = mg) : KeepC X nm c fld := by
  subst h1 h2 h3
  exact ⟨T.tx, T.g, T.k, T.b, T.t⟩
theorem let1 : ∀ a ∈ six, only ⟨#[a]⟩ "abcdefghijklmnopqrstuvwxyz" = true := by decide +kernel
theorem only_all {x : Str} {n : Nat} (h : IsSet x n) {y : Str} (hw : IsW x y) : only y "abcdefghijklmnopqrstuvwxyz" = true := by
  obtain ⟨cs, rfl, hl, hp, hm⟩ := h
  unfold only
  rw [List.all_eq_true]
  intro c hc
  have h1 := hm c (by simpa using hw c hc)
  have h2 := let1 c h1
  unfold only at h2
  rw [List.all_eq_true] at h2
  exact h2 c (by simp)
theorem ne_not {v u : V} (h : v = u) : (!decide (v = u)) = false := by
  rw [decide_eq_true h]
  rfl
theorem same_still {d : Addr} {H H' : Hp} (s : Same H H') : Still d H H' := fun b o _ h => s b o h
theorem same_dz {d : Addr} {H H' : Hp} (s : Same H H') (z : Dz H d) : Dz H' d := by
  obtain ⟨l, m, c, e, h⟩ := z
  exact ⟨l, m, c, s _ _ e, h⟩
theorem sqt_still {K : PySem.W.Frag} {d a : Addr} {H H' : Hp} {xs : List V} (s : Still d H H') (z : Dz H d) (h : SqT K H a xs) : SqT K H' a xs := by
  obtain ⟨l, m, c, e, _⟩ := z
  rcases h with (h | ⟨u, h⟩) | h
  · exact .inl (.inl (s _ _ (fun q => by rw [q, e] at h; cases h) h))
  · exact .inl (.inr ⟨u, s _ _ (fun q => by rw [q, e] at h; cases h) h⟩)
  · exact .inr h
theorem free_of {H H' : Hp} {q : Addr} (s : Same H H') (h : H' q = none) : H q = none := by
  cases e : H q with
  | none => rfl
  | some o =>
    have := s _ _ e
    rw [h] at this
    cases this
end M3

set_option Elab.async false
set_option linter.all false
set_option maxRecDepth 100000
set_option maxHeartbeats 8000000
/-! # enumerate of a tuple -/
namespace PySem
open Sem (wp)
open AutoSeq1 (wpAny_loadPart')
theorem nvt_meets (l : Addr) (items : Array Value) (n : Nat) (dct : Option Addr) (sl : Array (Option Value)) :
    Meets (Builtin.«enumerate.__new__» ⟨[.type "enumerate", .ref l], []⟩) (fun _ R s => s.heap.get? l = some { cls := .type "tuple", dict := dct, data := .seq items n, slots := sl } ∧
      R (.ok (.ret (.ref (s.heap.push { cls := .type "tuple_iterator", data := .fields #[.ref l, .int 0 0] }).objs.size)))
        { s with heap := (s.heap.push { cls := .type "tuple_iterator", data := .fields #[.ref l, .int 0 0] }).push { cls := .type "enumerate", data := .fields #[.none, .bool false, .ref s.heap.objs.size, rawInt 0, .none, .none] } }) :=
  .of_wp fun prog w A R s h => by
    obtain ⟨hp, g, d, tk, os⟩ := s; obtain ⟨hl, h⟩ := h
    have hsub := sub_enumerate
    have hL : Heap.IsTuple (Shared.heap ⟨hp, g, d, tk, os⟩) l items := ⟨_, hl, rfl, n, rfl⟩
    wp_walk using wpAny_loadPart' hl
    refine wpAny_stack_any fun st => wpAny_pure ?_
    split
    · rename_i c _ _ _ _ _
      cases (c == Value.type "enumerate")
      · wp_walk using wpAny_loadPart' hl, wpAny_pyIter_tuple hL
        exact ⟨_, rfl, h⟩
      · wp_walk using wpAny_loadPart' hl, wpAny_pyIter_tuple hL
        exact ⟨_, rfl, h⟩
    · wp_walk using wpAny_loadPart' hl, wpAny_pyIter_tuple hL
      exact ⟨_, rfl, h⟩
section
variable {prog : Program} {w : World} {A : Around} {E : Value → Shared → Prop} {s : Shared}
theorem nvt_call {l : Addr} {items : Array Value} {Q : Value → Shared → Prop} (hL : s.heap.IsTuple l items)
    (h : ∀ h', IsEnum h' (s.heap.objs.size + 1) s.heap.objs.size 0 .none → h'.IsTupleIter s.heap.objs.size l 0 → h'.objs.size = s.heap.objs.size + 2 →
      (∀ b o, s.heap.get? b = some o → h'.get? b = some o) → Q (.ref (s.heap.objs.size + 1)) { s with heap := h' }) :
    wpAny (model prog w) A (call (.type "enumerate") [.ref l]) Q E s := by
  obtain ⟨⟨c, dct, dt, sl⟩, hl, hc, n, hd⟩ := hL
  replace hc : c = .type "tuple" := hc
  replace hd : dt = .seq items n := hd
  subst hc hd
  refine callType_new F.called_enumerate (by decide) (F.typeCall_enumerate_1 _) (F.newCall_enumerate_1 _) (fun obj => F.args_object_init_2 obj _) F.entry_enumerate_new
    (nvt_meets l items n dct sl) ⟨hl, ?_⟩
  have hz : (s.heap.push { cls := .type "tuple_iterator", data := .fields #[.ref l, .int 0 0] }).objs.size = s.heap.objs.size + 1 := Heap.size_push ..
  show _ ∧ _
  rw [hz]
  have he : IsEnum ((s.heap.push { cls := .type "tuple_iterator", data := .fields #[.ref l, .int 0 0] }).push
      { cls := .type "enumerate", data := .fields #[.none, .bool false, .ref s.heap.objs.size, rawInt 0, .none, .none] }) (s.heap.objs.size + 1) s.heap.objs.size 0 .none := by
    have := Heap.get?_push_size (s.heap.push { cls := .type "tuple_iterator", data := .fields #[.ref l, .int 0 0] })
      (o := { cls := .type "enumerate", data := .fields #[.none, .bool false, .ref s.heap.objs.size, rawInt 0, .none, .none] }) rfl
    rw [hz] at this; exact this
  refine ⟨⟨_, he, rfl⟩, h _ he ⟨_, Heap.get?_push_of_some _ (Heap.get?_push_size _ rfl), rfl, rfl⟩ (by rw [Heap.size_push, hz]) fun b o x => Heap.get?_push_of_some _ (Heap.get?_push_of_some _ x)⟩
end
end PySem
namespace NvT
open PySem PySem.Spec PyProof.Rows L2
def IteT (K : PySem.W.Frag) (a : Addr) : It :=
  ⟨fun i H => ∃ (xs : List V) (x : V), SqT K H a xs ∧ xs[i]? = some x, fun i H v H' => ∃ T x, v = .ref T ∧ H T = none ∧ H' = upd H T (.tup [.int (i : Nat), x]) ∧ ∀ xs, SqT K H a xs → xs[i]? = some x, fun i H => ∃ xs : List V, SqT K H a xs ∧ xs.length = i⟩
theorem turn_enumT {P : Program} {w : World} {K : PySem.W.Frag} {elts : List Expr} {kk : Nat} {tpos : Pos} {a e it : Addr} (hne : e ≠ it) (hai : a ≠ it) (hae : a ≠ e) :
    Turn P w K (.Tuple elts kk tpos) (IteT K a) [e, it] e (fun i h => (∃ old, IsEnum h e it ((0 : Int) + (i : Int)) old) ∧ h.IsTupleIter it a i) where
  mem := by simp
  obj := fun i h st b hb => by
    obtain ⟨⟨old, he⟩, ⟨o, ho, hc, hd⟩⟩ := st
    have e' : b = e ∨ b = it := by simpa using hb
    rcases e' with z | z
    · rw [z]; exact ⟨_, he, fun v q => nomatch q⟩
    · rw [z]; exact ⟨o, ho, fun v q => by rw [hd] at q; cases q⟩
  keep := fun i h h' st k => let ⟨⟨old, he⟩, hi⟩ := st; ⟨⟨old, k e (by simp) _ he⟩, hi.at fun o q => k it (by simp) o q⟩
  item := by
    intro X hP hw hK hc i pins s σ H E I hf st hg
    subst hP hw hK
    have hh : X.A.in1.handled = none := I.ok.hd hc
    obtain ⟨xs, x, hq, hx⟩ := hg
    obtain ⟨its, rv, p, hz⟩ := I.tuple hq
    obtain ⟨u, hu, ru⟩ := rv.get hx
    have li : i < its.toArray.size := by
      have := (List.getElem?_eq_some_iff.mp hu).1
      simpa using this
    have G := GoesN.enumFrom (elts := elts) (x1 := kk) (pos := tpos) 0 (Draws.tuple (prog := X.prog) (w := X.w) (A := X.A.in1) hh it a hai its.toArray) e hne (by simp [hne, Ne.symm hae]) (by simp)
    have live : ∀ b ∈ [e, it], b < s.heap.objs.size := fun b hb => by
      obtain ⟨⟨old, he⟩, ⟨o1, e1, _⟩⟩ := id st
      have e' : b = e ∨ b = it := by simpa using hb
      rcases e' with q | q
      · rw [q]; exact Heap.lt_size he
      · rw [q]; exact Heap.lt_size e1
    refine G.goes i s (fun u s2 => ∃ v H', Inv X pins σ H' s2 ∧ RelV v u ∧ (IteT X.K a).yld i H v H' ∧ _ ∧ ∀ b ∈ _, H' b = none) E li ⟨st.1, st.2, p⟩ fun v h' tk hY st' hk htk => ?_
    obtain ⟨T, t, vx, rfl, hT, hx2, hIs⟩ := hY
    have hx2 : its.toArray[i]? = some vx := hx2
    have evx : vx = u := by
      have e : its.toArray[i]? = some u := by simpa using hu
      rw [e] at hx2
      exact (Option.some.inj hx2).symm
    subst evx
    have hIs2 : IsTup h' T #[.int ((i : Nat) : Int) t, vx] := by
      have z : (0 : Int) + (i : Int) = (i : Int) := Int.zero_add _
      rw [z] at hIs
      exact hIs
    have new : ObjOk X.prog X.w (upd H T (.tup [.int (i : Nat), x])) h' T (.tup [.int (i : Nat), x]) :=
      ⟨by show 2 ≤ sizeLine; decide, [.int (i : Nat) t, vx], .cons ⟨t, rfl⟩ (.cons ru .nil), hIs2⟩
    have I1 : Inv X pins σ (upd H T (.tup [.int (i : Nat), x])) { s with heap := h', toks := tk } :=
      I.turnedNew (t' := tk) (ch := [e, it]) hk (fun b hb => hf b (by
        have e' : b = e ∨ b = it := by simpa using hb
        rcases e' with q | q <;> rw [q] <;> simp)) hT new
    refine ⟨.ref T, _, I1, rfl, ⟨T, x, rfl, I.hok.fresh hT, rfl, fun ys hy => by rw [I.tuple_inj hy hq]; exact hx⟩, ⟨st'.1, st'.2.1⟩, fun b hb => ?_⟩
    rw [upd_ne (Nat.ne_of_lt (Nat.lt_of_lt_of_le (live b hb) hT))]
    exact (hf b hb).1
  done := by
    intro X hP hw hK hc i pins s σ H E I hf st hg
    subst hP hw hK
    have hh : X.A.in1.handled = none := I.ok.hd hc
    obtain ⟨xs, hq, hx⟩ := hg
    obtain ⟨its, rv, p, hz⟩ := I.tuple hq
    have hl := rv.length
    have G := GoesN.enumFrom (elts := elts) (x1 := kk) (pos := tpos) 0 (Draws.tuple (prog := X.prog) (w := X.w) (A := X.A.in1) hh it a hai its.toArray) e hne (by simp [hne, Ne.symm hae]) (by simp)
    have ei : i = its.toArray.size := by simp; omega
    subst ei
    refine G.stops s (fun s1 => Inv X pins σ H s1) E ⟨st.1, st.2, p⟩ fun h' tk hk htk => ?_
    exact I.turnedL (t' := tk) (ch := [e, it]) hk fun b hb => hf b (by
      have e' : b = e ∨ b = it := by simpa using hb
      rcases e' with q | q <;> rw [q] <;> simp)
  self := fun A i s Q E st h => let ⟨⟨_, he⟩, _⟩ := st; wpAny_pyIter_enum he h
def iEnumT (K : PySem.W.Frag) (ta : TA) : TI := fun σ H R => ta σ H fun vs H1 => ∃ a xs, vs = [.ref a] ∧ SqT K H1 a xs ∧ R (IteT K a) H1
theorem pi_enumT {X : Cx} {e : Expr} {ta : TA} {p pos tpos : Pos} {elts : List Expr} {kk : Nat} (hg : Gl X "enumerate") (hm : X.mg "enumerate" = none) (ha : PA X [e] ta) (hs : starEach [e] X.env = [(false, eval e X.env)] := by rfl) :
    PI X (.Tuple elts kk tpos) (.Call (.Name "enumerate" p) [e] [] pos) (iEnumT X.K ta) := by
  refine ⟨fun pins s σ H R I h => ?_⟩
  refine Call_ (ld_blt I hg hm boot_enumerate (PyProof.Rows.callWith_type1 (thn (ha.run pos pins s σ H _ I h) fun us s1 ⟨vs, H1, I1, r1, q1⟩ => ?_) hs rfl))
  obtain ⟨a, xs, ex, hq, q⟩ := q1
  subst ex
  cases r1 with
  | cons r rr =>
    cases rr
    cases r
    obtain ⟨its, rv, p', hz⟩ := I1.tuple hq
    have hal : a < s1.heap.objs.size := by
      obtain ⟨o, ho, _⟩ := p'
      exact Heap.lt_size ho
    refine nvt_call (items := its.toArray) p' fun h' he hit hsz hk => wpAny_pyIter_enum he ?_
    have I2 : Inv X pins σ H1 { s1 with heap := h' } := I1.kept (t' := s1.toks) hk
    refine ⟨s1.heap.objs.size + 1, [s1.heap.objs.size + 1, s1.heap.objs.size], _, _, H1, rfl, I2, turn_enumT (a := a) (e := s1.heap.objs.size + 1) (it := s1.heap.objs.size) (Nat.succ_ne_self _) (Nat.ne_of_lt hal) (Nat.ne_of_lt (Nat.lt_succ_of_lt hal)), ⟨⟨.none, he⟩, hit⟩, fun b hb => ?_, q⟩
    have e' : b = s1.heap.objs.size + 1 ∨ b = s1.heap.objs.size := by simpa using hb
    have hle : s1.heap.objs.size ≤ b := by
      rcases e' with z | z
      · rw [z]; exact Nat.le_add_right _ _
      · rw [z]; exact Nat.le_refl _
    exact I1.fpOk hle (I1.hok.fresh hle)
theorem walk_enumT {K : PySem.W.Frag} {a : Addr} {xs : List V} : Walk (IteT K a) xs.length (fun H => SqT K H a xs) (YPair (fun i => some (.int (i : Nat))) (fun i => xs[i]?)) where
  goes := fun i H hi q => ⟨xs, _, q, List.getElem?_eq_getElem hi⟩
  stops := fun H q => ⟨xs, q, rfl⟩
  yields := fun i H v H' hi q y => by
    obtain ⟨T, x, e, h1, h2, h3⟩ := y
    exact ⟨T, .int (i : Nat), x, e, h1, h2, rfl, h3 xs q⟩
end NvT

set_option Elab.async false
set_option linter.all false
set_option maxRecDepth 100000
set_option maxHeartbeats 8000000
/-! # for k, v in d.items(), the keys tuples -/
namespace NvU
open PySem PySem.Spec PyProof.Rows L2
/-- the pairs, each a new tuple of the key's own tuple and the value -/
def ItiT (d : Addr) (o : Obj) (kvs : List (List Key × V)) : It :=
  ⟨fun i H => H d = some (.frz o (.dT kvs)) ∧ i < kvs.length, fun i H x H' => ∃ (T q : Addr) (k : List Key) (v : V), kvs[i]? = some (k, v) ∧ x = .ref T ∧ H q = some (.tup (k.map kV)) ∧ H T = none ∧ H' = upd H T (.tup [.ref q, v]), fun i H => H d = some (.frz o (.dT kvs)) ∧ kvs.length ≤ i⟩
theorem frzT2 {X : Cx} {pins : List (Addr × Obj)} {σ : L2.St} {H : Hp} {s : Shared} {d : Addr} {o : Obj} {kvs : List (List Key × V)} (I : Inv X pins σ H s) (h : H d = some (.frz o (.dT kvs))) :
    (d == sysModules) = false ∧ s.heap.get? d = some o ∧ o.ExactDict ∧ ∃ (es : Array DictEntry) (ep : Nat), o.data = .dict es ep ∧ es.size = kvs.length ∧
      ∀ (i : Nat) (k : List Key) (v : V), kvs[i]? = some (k, v) → ∃ (en : DictEntry) (q : Addr), es[i]? = some en ∧ en.key = .ref q ∧ H q = some (.tup (k.map kV)) ∧ RelV v en.val := by
  obtain ⟨hd, z, hs, xs, pr, o', es, ep, ho, hx, hdt, he, _⟩ := I.hok d _ h
  rw [hd] at ho
  cases ho
  refine ⟨hs, hd, hx, es, ep, hdt, ?_, fun i k v e => ?_⟩
  · have l1 : es.size = xs.length := size_of_entries he
    have l2 : kvs.length = xs.length := Paired.length pr
    omega
  · obtain ⟨b, hb, e1, e2, e3⟩ := paired_get pr e
    have q := entry_at he i
    rw [hb] at q
    exact ⟨_, b.2.1, q, rfl, e2, e3⟩
section
variable {P : Program} {w : World} {K : PySem.W.Frag} {d : Addr} {o : Obj} {es : Array DictEntry} {ep : Nat}
theorem turn_itemsT {kvs : List (List Key × V)} {elts : List Expr} {kk : Nat} {tpos : Pos} (it : Addr) (hod : o.data = .dict es ep) :
    Turn P w K (.Tuple elts kk tpos) (ItiT d o kvs) [it] it (fun i h => ∃ ok ov, IsItemIter h it d i kvs.length ep ok ov) where
  mem := by simp
  obj := fun i h st b hb => by
    have e : b = it := by simpa using hb
    subst e
    obtain ⟨ok, ov, e⟩ := st
    exact ⟨_, e, fun v z => nomatch z⟩
  keep := fun i h h' st k => let ⟨ok, ov, e⟩ := st; ⟨ok, ov, k it (by simp) _ e⟩
  item := by
    intro X hP hw hK hc i pins s σ H E I hf st hg
    subst hP hw hK
    obtain ⟨hd, hi⟩ := hg
    obtain ⟨hs, hgd, hx, es', ep', hdt, hsz, ent⟩ := frzT2 I hd
    obtain ⟨rfl, rfl⟩ := dict_ep hod hdt
    obtain ⟨⟨k, v⟩, hkv⟩ : ∃ p, kvs[i]? = some p := ⟨kvs[i], List.getElem?_eq_getElem hi⟩
    obtain ⟨en, q, hen, hkey, hq, rv⟩ := ent i k v hkv
    obtain ⟨ok, ov, he⟩ := st
    rw [← hsz] at he hi
    have een : es'[i] = en := by
      rw [Array.getElem?_eq_getElem hi] at hen
      exact Option.some.inj hen
    have hlt : it < s.heap.objs.size := Heap.lt_size he
    refine DT.nextI he ⟨o, hgd, hx, hdt⟩ hi fun h' ho hT hz hk => ?_
    rw [een, hkey] at ho hT
    refine ⟨_, rfl, wpAny_letOwnedTupleGo_items (s := { s with heap := h' }) ho fun h'' he' sb => ?_⟩
    have hT2 : h''.get? s.heap.objs.size = some { cls := .type "tuple", data := .seq #[.ref q, en.val] } := (sb.2 _ (Nat.ne_of_gt hlt)).trans hT
    have new : ObjOk X.prog X.w (upd H s.heap.objs.size (.tup [.ref q, v])) h'' s.heap.objs.size (.tup [.ref q, v]) :=
      ⟨by show 2 ≤ sizeLine; decide, [.ref q, en.val], .cons rfl (.cons rv .nil), ⟨_, hT2, rfl, _, rfl⟩⟩
    have I1 : Inv X pins σ (upd H s.heap.objs.size (.tup [.ref q, v])) { s with heap := h'' } :=
      I.turnedNew (t' := s.toks) (ch := [it]) (fun b ob hb e => (sb.2 b (by simpa using hb)).trans (hk b ob (by simpa using hb) e)) hf (Nat.le_refl _) new
    refine ⟨.ref s.heap.objs.size, _, I1, rfl, ⟨_, q, k, v, hkv, rfl, hq, I.hok.fresh (Nat.le_refl _), rfl⟩, ⟨.ref q, en.val, (by rw [← hsz]; exact he')⟩, fun b hb => ?_⟩
    have e : b = it := by simpa using hb
    rw [e, upd_ne (Nat.ne_of_lt hlt)]
    exact (hf it (by simp)).1
  done := by
    intro X hP hw hK hc i pins s σ H E I hf st hg
    subst hP hw hK
    obtain ⟨hd, hi⟩ := hg
    obtain ⟨f0, f1, f2, f3, f4, f5⟩ := hf it (by simp)
    obtain ⟨hs, hgd, hx, es', ep', hdt, hsz, ent⟩ := frzT2 I hd
    obtain ⟨rfl, rfl⟩ := dict_ep hod hdt
    obtain ⟨ok, ov, he⟩ := st
    rw [← hsz] at he
    exact DT.endI (I.ok.hd hc) he ⟨o, hgd, hx, hdt⟩ (by omega) fun h' eb => ⟨rfl, I.turned (t' := s.toks) (fun b o hb e => eb b o hb e) f0 f1 f3 f4 f5⟩
  self := fun A i s Q E st h => let ⟨_, _, e⟩ := st; PySem.W.kcp_self e h
end
def iItemsT (td : TE) : TI := fun σ H R => td σ H fun x H1 => ∃ d o kvs, x = .ref d ∧ H1 d = some (.frz o (.dT kvs)) ∧ R (ItiT d o kvs) H1
theorem pi_itemsT {X : Cx} {e : Expr} {td : TE} {apos cpos : Pos} {elts : List Expr} {kk : Nat} {tpos : Pos} (he : PE X e td) (hbase : attributeBase e "items" X.env (eval e X.env) = eval e X.env := by rfl) (hline : (apos.endLine == cpos.line) = true := by rfl) :
    PI X (.Tuple elts kk tpos) (.Call (.Attribute e "items" apos) [] [] cpos) (iItemsT td) := by
  refine ⟨fun pins s σ H R I h => ?_⟩
  refine wpAny_Call_method (T := "dict") (id := "dict.items") hbase rfl hline F.plainAttrs_dict F.slot_dict_items F.type_dict_items (thn (he.run pins s σ H _ I h) fun u s1 ⟨x, H1, I1, rx, d, o, kvs, ex, hd, q⟩ => ?_)
  subst ex
  obtain rfl : u = Value.ref d := rx
  obtain ⟨hs, hgd, hx, es, ep, hdt, hsz, ent⟩ := frzT2 I1 hd
  have raw : DT.Raw s1.heap d es ep := ⟨o, hgd, hx, hdt⟩
  refine ⟨raw.typeIs, fun a e => (by cases e; exact ⟨o, hgd, hx.2.1⟩), ?_⟩
  have I2 : Inv X pins σ H1 { s1 with heap := s1.heap.push { cls := .type "dict_items", data := .fields #[.ref d] } } := I1.kept (t' := s1.toks) fun b ob q => Heap.get?_push_of_some _ q
  have fin : wpAny (model X.prog X.w) X.A (pyIter (.ref s1.heap.objs.size)) (PIE X pins σ (.Tuple elts kk tpos) R) X.xe { s1 with heap := s1.heap.push { cls := .type "dict_items", data := .fields #[.ref d] } } := by
    refine DT.iterI (d := d) (es := es) (ep := ep) ⟨_, Heap.get?_push_size _ rfl, rfl, rfl⟩ (raw.push _) (pi_one (tk := s1.toks) I2 _ (turn_itemsT _ hdt) ⟨.none, .none, ?_⟩ q)
    rw [← hsz]
    exact Heap.get?_push_size _ rfl
  show wpAny _ _ (callWith cpos (.builtin "dict.items") [.ref d] [] []) _ X.xe s1
  exact method_meetsIn F.slot_dict_items F.entry_dict_items rfl (PySem.evalArgs_none ⟨rfl, raw.typeIs, F.args_dict_items_1 _, _, DT.meetsItems (es := es) (ep := ep) hs, ⟨raw, fin⟩⟩)
theorem walk_itemsT {d : Addr} {o : Obj} {kvs : List (List Key × V)} : Walk (ItiT d o kvs) kvs.length (fun H => H d = some (.frz o (.dT kvs))) (fun i H x H' => ∃ (T q : Addr) (k : List Key) (v : V), kvs[i]? = some (k, v) ∧ x = .ref T ∧ H q = some (.tup (k.map kV)) ∧ H T = none ∧ H' = upd H T (.tup [.ref q, v])) :=
  ⟨fun _ _ hi q => ⟨q, hi⟩, fun _ q => ⟨q, Nat.le_refl _⟩, fun _ _ _ _ _ _ y => y⟩
end NvU

set_option Elab.async false
set_option linter.all false
set_option maxRecDepth 100000
set_option maxHeartbeats 8000000
/-! # Turns of actions: comes_back, turned_state, turn_among -/
namespace M3
open PySem L2
abbrev sComes : Stmt := top 57
abbrev sTurned : Stmt := top 56
abbrev sAmong : Stmt := top 58
abbrev nComes : List Str := ["action", "state", "now", "_"]
abbrev nTurned : List Str := ["action", "state", "goal"]
abbrev nAmong : List Str := ["words", "action", "word", "state"]
theorem scComes : FnScope nComes ["action", "state"] (defScope sComes) := ⟨rfl, rfl, rfl, by decide +kernel, rfl, by decide +kernel, by decide +kernel⟩
theorem scTurned : FnScope nTurned ["action"] (defScope sTurned) := ⟨rfl, rfl, rfl, by decide +kernel, rfl, by decide +kernel, by decide +kernel⟩
theorem scAmong : FnScope nAmong ["words"] (defScope sAmong) := ⟨rfl, rfl, rfl, by decide +kernel, rfl, by decide +kernel, by decide +kernel⟩
/-- where an action, so often, leads a state -/
def its (g : List Nat) (q : Nat) : Nat → Nat
  | 0 => q
  | k + 1 => g.getD (its g q k) 0
theorem its_lt {g : List Nat} {q : Nat} (w : ∀ z ∈ g, z < g.length) (hq : q < g.length) : ∀ k, its g q k < g.length
  | 0 => hq
  | k + 1 => by
    have h := its_lt w hq k
    show g.getD (its g q k) 0 < g.length
    have e : g.getD (its g q k) 0 = g[its g q k] := by simp [List.getD, List.getElem?_eq_getElem h]
    rw [e]
    exact w _ (List.getElem_mem h)
def comesB (g : List Nat) (q : Nat) : Bool := (List.range g.length).any fun k => decide (its g q (k + 1) = q)
def turnedB (g : List Nat) (q : Nat) : Bool := decide (g.getD q 0 ≠ q) && comesB g q
def turned (g : List Nat) : Option Nat := (List.range g.length).find? (turnedB g)
def among (F : List (List Nat × Str)) : Option (Str × Nat) := F.findSome? fun z => (turned z.1).map fun q => (z.2, q)
def optV : Option Nat → V
  | none => .non
  | some q => .int (q : Nat)
def spComes (K : PySem.W.Frag) : Sp := fun vs H Q _ => ∃ (a : Addr) (g : List Nat) (q : Nat), vs = [.ref a, .int (q : Nat)] ∧ SqT K H a (nts g) ∧ (∀ z ∈ g, z < g.length) ∧ q < g.length ∧ Q (.bl (comesB g q)) H
def spTurned (K : PySem.W.Frag) : Sp := fun vs H Q _ => ∃ (a : Addr) (g : List Nat), vs = [.ref a] ∧ SqT K H a (nts g) ∧ (∀ z ∈ g, z < g.length) ∧ ∀ H' : Hp, Same H H' → Q (optV (turned g)) H'
def spAmong : Sp := fun vs H Q _ => ∃ (D : Addr) (F : List (List Nat × Str)), vs = [.ref D] ∧ H D = some (.dT (ents F)) ∧ (∀ z ∈ F, ∀ q ∈ z.1, q < z.1.length) ∧
  (among F = none → ∀ H' : Hp, Same H H' → Q .non H') ∧ ∀ (y : Str) (q : Nat), among F = some (y, q) → ∀ (p : Addr) (H' : Hp), H' p = some (.tup [.str y, .int (q : Nat)]) → Same H H' → Q (.ref p) H'
section
variable {P : Program} {w : World} {K : PySem.W.Frag} {mg : Str → Option Value} {base : Heap}
theorem ok_comes {f : Addr} {fd : FuncData} (F : Fun K "comes_back" "comes_back" sComes f fd) : FnOk P w K mg base CX0 1 f fd ["action", "state"] (spComes K) := by
  refine F.ok scComes (fun vs H Q E h => ?_) (fun cdv A outer s H vs Q E hr h => ?_)
  · obtain ⟨a, g, q, rfl, _⟩ := h
    rfl
  · obtain ⟨a, g, q, rfl, ha, wf, hq, k⟩ := h
    refine ⟨_, pss_cons (ps_set (i := 2) scComes.nd rfl (Or.inl rfl) (pv 1))
      (pss_cons (ps_for PassesOwn.never rfl (pi_tup (pv 0)) (pg_name (i := 3) scComes.nd rfl (Or.inl rfl))
        (pss_cons (ps_set (i := 2) scComes.nd rfl (Or.inl rfl) (pe_ix ix_tup (pv 0) (pv 2) (fun _ _ => rfl)))
        (pss_one (ps_if (pt_cmpR op_eq (pv 2) (pv 1) (nomark _)) (pss_one (ps_ret pe_bl)) pss_nil))))
      (pss_one (ps_ret pe_bl))), ?_⟩
    refine ⟨_, rfl, _, rfl, a, rfl, ⟨_, ha⟩, ?_⟩
    have ln : (nts g).length = g.length := nts_length g
    refine for_it (walk_tup (K := K) (a := a) (xs := nts g)) (fun i σ H' => ∃ v, σ = [some (.ref a), some (.int (q : Nat)), some (.int (its g q i : Nat)), v] ∧ H' = H ∧ ∀ j, j < i → its g q (j + 1) ≠ q) ⟨_, rfl, rfl, fun j hj => absurd hj (Nat.not_lt_zero _)⟩ (fun i σ H' _ h => ?_) ?_ ?_
    · obtain ⟨v, _, rfl, _⟩ := h
      exact ha
    · rintro i x σ H1 H2 hi ⟨v, rfl, rfl, no⟩ y
      obtain ⟨rfl, _⟩ := y
      rw [ln] at hi
      have il := its_lt wf hq i
      refine ⟨_, rfl, _, rfl, a, _, _, _, rfl, rfl, ha, nts_at' il, ?_⟩
      refine ⟨_, rfl, _, rfl, rfl, _, rfl, ?_⟩
      by_cases c : its g q (i + 1) = q
      · have c' : (V.int ((g.getD (its g q i) 0 : Nat) : Int)) = V.int ((q : Nat) : Int) := congrArg V.int (congrArg Int.ofNat c)
        rw [decide_eq_true c']
        refine iteT ?_
        have e : comesB g q = true := by
          unfold comesB
          rw [List.any_eq_true]
          exact ⟨i, List.mem_range.mpr hi, decide_eq_true c⟩
        rw [e] at k
        exact k
      · have c' : ¬ (V.int ((g.getD (its g q i) 0 : Nat) : Int)) = V.int ((q : Nat) : Int) := fun z => c (by
          injection z with z
          exact Int.ofNat.inj z)
        rw [decide_eq_false c']
        refine iteF ?_
        refine ⟨_, rfl, rfl, fun j hj => ?_⟩
        by_cases e : j = i
        · rw [e]
          exact c
        · exact no j (by omega)
    · rintro σ H1 ⟨v, rfl, rfl, no⟩
      have e : comesB g q = false := by
        unfold comesB
        rw [List.any_eq_false]
        intro j hj
        rw [decide_eq_true_eq]
        exact no j (by rw [ln]; exact List.mem_range.mp hj)
      rw [e] at k
      exact k
theorem find_none {p : Nat → Bool} {n : Nat} (h : ∀ j, j < n → p j = false) : (List.range n).find? p = none := by
  rw [List.find?_eq_none]
  intro j hj z
  rw [h j (List.mem_range.mp hj)] at z
  cases z
theorem find_at {p : Nat → Bool} {n i : Nat} (h : ∀ j, j < i → p j = false) (hi : i < n) (t : p i = true) : (List.range n).find? p = some i := by
  induction n with
  | zero => exact absurd hi (Nat.not_lt_zero _)
  | succ n ih =>
    rw [List.range_succ, List.find?_append]
    by_cases c : i < n
    · rw [ih c]
      rfl
    · have e : i = n := by omega
      subst e
      rw [find_none h]
      simp [List.find?, t]
theorem ok_turned {f g1 : Addr} {fd gd : FuncData} (F : Fun K "turned_state" "turned_state" sTurned f fd) (G : Fun K "comes_back" "comes_back" sComes g1 gd) (bG : Binds K gd ["action", "state"] []) (mG : mg "comes_back" = some (.ref g1)) (hE : mg "enumerate" = none) :
    FnOk P w K mg base CX0 2 f fd ["action"] (spTurned K) := by
  have GC : FnOk P w K mg base CX0 1 g1 gd ["action", "state"] (spComes K) := ok_comes G
  refine F.ok scTurned (fun vs H Q E h => ?_) (fun cdv A outer s H vs Q E hr h => ?_)
  · obtain ⟨a, g, rfl, _⟩ := h
    rfl
  · obtain ⟨a, g, rfl, ha, wf, k⟩ := h
    refine ⟨_, pss_cons (ps_for PassesOwn.never rfl (NvT.pi_enumT rfl hE (pa_cons (pv 0) pa_nil)) (pg_tup rfl (pgs_cons (pg_name (i := 1) scTurned.nd rfl (Or.inl rfl)) (pgs_cons (pg_name (i := 2) scTurned.nd rfl (Or.inl rfl)) pgs_nil)))
        (pss_one (ps_if (PW.pt (pw_and (pt_cmpR op_ne (pv 2) (pv 1) (nomark _)) (pw_and1 (pt_val (pe_call GC hr rfl mG G.kp bG .nil pass0 (pa_cons (pv 0) (pa_cons (pv 1) pa_nil))))))) (pss_one (ps_ret (pv 1))) pss_nil)))
      (pss_one (ps_ret pe_non)), ?_⟩
    have ln : (nts g).length = g.length := nts_length g
    refine ⟨_, rfl, a, nts g, rfl, ha, for_it (NvT.walk_enumT (K := K) (a := a) (xs := nts g)) (fun i σ H' => ∃ v1 v2, σ = [some (.ref a), v1, v2] ∧ Same H H' ∧ ∀ j, j < i → turnedB g j = false) ⟨_, _, rfl, Same.refl H, fun j hj => absurd hj (Nat.not_lt_zero _)⟩ (fun i σ H' _ h => ?_) ?_ ?_⟩
    · obtain ⟨v1, v2, _, s1, _⟩ := h
      exact sqt_same s1 ha
    · rintro i x σ H1 H2 hi ⟨v1, v2, rfl, s1, no⟩ ⟨T, x1, x2, rfl, nT, rfl, e1, e2⟩
      rw [ln] at hi
      cases e1
      have e2 : (nts g)[i]? = some x2 := e2
      have ei : (nts g)[i]? = some (.int ((g.getD i 0 : Nat) : Int)) := by
        unfold nts
        rw [List.getElem?_map, List.getElem?_eq_getElem hi]
        simp [List.getD, List.getElem?_eq_getElem hi]
      rw [ei] at e2
      cases e2
      have s2 := Same.new (u := .tup [.int (i : Nat), .int ((g.getD i 0 : Nat) : Int)]) s1 nT
      refine ⟨T, _, rfl, SqT.of upd_same, rfl, _, _, rfl, _, _, rfl, rfl, ?_⟩
      generalize upd H1 T (.tup [.int (i : Nat), .int ((g.getD i 0 : Nat) : Int)]) = H3 at s2 ⊢
      refine ⟨_, rfl, _, rfl, rfl, _, rfl, ?_⟩
      by_cases c : g.getD i 0 = i
      · have c' : (V.int ((g.getD i 0 : Nat) : Int)) = V.int ((i : Nat) : Int) := congrArg V.int (congrArg Int.ofNat c)
        rw [decide_eq_true c']
        refine iteF (iteF ?_)
        refine ⟨_, _, rfl, s2, fun j hj => ?_⟩
        by_cases e : j = i
        · rw [e]
          unfold turnedB
          rw [decide_eq_false (fun z => z c)]
          rfl
        · exact no j (by omega)
      · have c' : ¬ (V.int ((g.getD i 0 : Nat) : Int)) = V.int ((i : Nat) : Int) := fun z => c (by
          injection z with z
          exact Int.ofNat.inj z)
        rw [decide_eq_false c']
        refine iteT ?_
        refine ⟨_, rfl, _, rfl, a, g, i, rfl, sqt_same s2 ha, wf, hi, _, rfl, ?_⟩
        have et : turnedB g i = comesB g i := by
          unfold turnedB
          rw [decide_eq_true c, Bool.true_and]
        cases b : comesB g i with
        | true =>
          refine iteT ?_
          have q : turned g = some i := find_at no hi (et.trans b)
          rw [q] at k
          exact ⟨_, rfl, k H3 s2⟩
        | false =>
          refine iteF ?_
          refine ⟨_, _, rfl, s2, fun j hj => ?_⟩
          by_cases e : j = i
          · rw [e, et, b]
          · exact no j (by omega)
    · rintro σ H1 ⟨v1, v2, rfl, s1, no⟩
      rw [ln] at no
      have q : turned g = none := find_none no
      rw [q] at k
      exact k H1 s1
theorem keep_frz {H H' : Hp} {d : Addr} {o u : HO} (h : H d = some u) (s : Same (upd H d o) H') : Same H (upd H' d u) := fun b v e => by
  by_cases c : b = d
  · rw [c, upd_same]
    rw [c, h] at e
    exact e
  · rw [upd_ne c]
    exact s _ _ (by rw [upd_ne c]; exact e)
theorem ok_among {f g1 : Addr} {fd gd : FuncData} (F : Fun K "turn_among" "turn_among" sAmong f fd) (GT : FnOk P w K mg base CX0 2 g1 gd ["action"] (spTurned K)) (kp : PySem.W.keepIn K (.ref g1) = true) (bG : Binds K gd ["action"] []) (mG : mg "turned_state" = some (.ref g1)) :
    FnOk P w K mg base CX0 3 f fd ["words"] spAmong := by
  refine F.ok scAmong (fun vs H Q E h => ?_) (fun cdv A outer s H vs Q E hr h => ?_)
  · obtain ⟨D, F, rfl, _⟩ := h
    rfl
  · obtain ⟨D, F, rfl, hD, wf, kN, kS⟩ := h
    refine ⟨_, pss_cons (ps_lock (ps_for PassesOwn.never rfl (NvU.pi_itemsT (pv 0)) (pg_tup rfl (pgs_cons (pg_name (i := 1) scAmong.nd rfl (Or.inl rfl)) (pgs_cons (pg_name (i := 2) scAmong.nd rfl (Or.inl rfl)) pgs_nil)))
        (pss_cons (ps_set (i := 3) scAmong.nd rfl (Or.inl rfl) (pe_call GT hr rfl mG kp bG .nil pass0 (pa_cons (pv 1) pa_nil)))
        (pss_one (ps_if (pt_cmpR op_notN (pv 3) pe_non (nomark _)) (pss_one (ps_ret (pe_tup (pa_cons (pv 2) (pa_cons (pv 3) pa_nil))))) pss_nil)))))
      (pss_one (ps_ret pe_non)), ?_⟩
    refine ⟨D, _, hD, trivial, fun od => ?_⟩
    have lE : (ents F).length = F.length := List.length_map _
    refine ⟨_, rfl, D, od, ents F, rfl, upd_same, for_it (NvU.walk_itemsT (d := D) (o := od) (kvs := ents F)) (fun i σ H' => ∃ v1 v2 v3, σ = [some (.ref D), v1, v2, v3] ∧ Same (upd H D (.frz od (.dT (ents F)))) H' ∧ (F.take i).findSome? (fun z => (turned z.1).map fun q => (z.2, q)) = none) ⟨_, _, _, rfl, Same.refl _, by rw [List.take_zero]; rfl⟩ (fun i σ H' _ h => ?_) ?_ ?_⟩
    · obtain ⟨v1, v2, v3, _, s1, _⟩ := h
      exact s1 _ _ upd_same
    · rintro i x σ H1 H2 hi ⟨v1, v2, v3, rfl, s1, no⟩ ⟨T, q, kk, v, hk, rfl, hq, nT, rfl⟩
      rw [lE] at hi
      have hz : F[i]? = some F[i] := List.getElem?_eq_getElem hi
      generalize F[i] = z at hz
      have ek : (kk, v) = (key z.1, V.str z.2) := by
        unfold ents at hk
        rw [List.getElem?_map, hz] at hk
        exact (Option.some.inj hk).symm
      cases ek
      rw [key_tup] at hq
      have s2 := Same.new (u := .tup [.ref q, .str z.2]) s1 nT
      have hq2 := keep_new (u := .tup [.ref q, .str z.2]) hq nT
      refine ⟨T, _, rfl, SqT.of upd_same, rfl, _, _, rfl, _, _, rfl, rfl, ?_⟩
      generalize upd H1 T (.tup [.ref q, .str z.2]) = H3 at s2 hq2 ⊢
      refine ⟨_, rfl, q, z.1, rfl, SqT.of hq2, wf z (List.mem_of_getElem? hz), fun H4 s4 => ?_⟩
      have s5 := s2.trans s4
      have et : (F.take (i + 1)).findSome? (fun z => (turned z.1).map fun q => (z.2, q)) = (turned z.1).map fun q => (z.2, q) := by
        rw [take_snoc hz, List.findSome?_append, no]
        simp
      refine ⟨_, rfl, rfl, _, rfl, ?_⟩
      cases ht : turned z.1 with
      | none =>
        refine iteF ?_
        rw [ht] at et
        exact ⟨_, _, _, rfl, s5, et⟩
      | some r =>
        refine iteT ?_
        have hA : among F = some (z.2, r) := by
          unfold among
          rw [← List.take_append_drop (i + 1) F, List.findSome?_append, et, ht]
          rfl
        refine ⟨_, rfl, _, rfl, (by show 2 ≤ sizeLine; decide), fun p np => ?_⟩
        have s6 := Same.new (u := .tup [.str z.2, .int (r : Nat)]) s5 np
        refine ⟨s6 _ _ upd_same, kS z.2 r hA p _ ?_ (keep_frz hD s6)⟩
        rw [upd_ne (ne_of (o := .tup [.str z.2, .int (r : Nat)]) upd_same (s6 _ _ upd_same) (fun z => by cases z))]
        exact upd_same
    · rintro σ H1 ⟨v1, v2, v3, rfl, s1, no⟩
      rw [lE, List.take_of_length_le (Nat.le_refl _)] at no
      exact ⟨s1 _ _ upd_same, kN no _ (keep_frz hD s1)⟩
end
end M3

set_option Elab.async false
set_option linter.all false
set_option maxRecDepth 100000
set_option maxHeartbeats 8000000
/-! # C(e, ..) whose __init__ may raise, within a try -/
namespace NvX
open PySem PySem.Spec PyProof.Rows L2
def tMakeS (C : Addr) (sp : Sp) (E : L2.St → XK) (t : TA) : TE := fun σ H Q => t σ H fun vs H1 => ∀ x dx, H1 x = none → H1 dx = none → dx ≠ x →
  sp (.ref x :: vs) (upd (upd H1 dx (.own x)) x (.ins C dx [])) (fun v H2 => v = .non ∧ Q (.ref x) H2) (E σ)
section
variable {X : Cx} {CX : CXT} {k : Nat} {f C : Addr} {fd : FuncData} {ps : List Str} {sp : Sp} {E : L2.St → XK} {x : Str} {p pos : Pos} {e : Expr} {es : List Expr} {t : TA}
theorem run_makeS {pins : List (Addr × Obj)} {σ : L2.St} {H : Hp} {s : Shared} {Q : VK} {us : List Value} {vs : List V} (M : Mk X.K C f) (F : FnOk X.prog X.w X.K X.mg X.base CX k f fd ps sp) (hr : Room (k + 1) X.A) (hb : Binds X.K fd ps [])
    (hx : PassesAt CX X σ (E σ)) (I : Inv X pins σ H s) (r : Vals vs us)
    (h : ∀ x dx, H x = none → H dx = none → dx ≠ x → sp (.ref x :: vs) (upd (upd H dx (.own x)) x (.ins C dx [])) (fun v H2 => v = .non ∧ Q (.ref x) H2) (E σ)) :
    wpAny (model X.prog X.w) X.A (call (.ref C) us) (EP X pins σ Q) X.xe s := by
  have hq := h (s.heap.objs.size + 1) s.heap.objs.size (I.hok.fresh (Nat.le_succ _)) (I.hok.fresh (Nat.le_refl _)) (Nat.ne_of_lt (Nat.lt_succ_self _))
  have I2 := Inv.made (C := C) I
  have r2 : Vals (V.ref (s.heap.objs.size + 1) :: vs) (Value.ref (s.heap.objs.size + 1) :: us) := .cons rfl r
  have hl : (Value.ref (s.heap.objs.size + 1) :: us ++ []).length = ps.length := by
    have e := r2.length
    rw [F.len _ _ _ _ hq] at e
    rw [List.append_nil]
    exact e.symm
  have hb2 := hb _ (Value.ref (s.heap.objs.size + 1) :: us) I2.kIn hl
  rw [List.append_nil] at hb2
  refine wpAny_call (make_map (f := f) I.kIn M.makes M.init (beq_iff_eq.mp M.fn) (codeAny_mono (F.run _ X.stack _ _ ⟨Value.ref (s.heap.objs.size + 1) :: us, []⟩ (Value.ref (s.heap.objs.size + 1) :: us) _ _ (E σ) (hr.make C us [])
    (I2.env0.make C us []) hb2 r2 hq) fun r s' hq' => ?_))
  cases r with
  | error e => exact hx pins _ _ e s' I2 hq'
  | ok fl =>
    cases fl with
    | ret u =>
      obtain ⟨v, H', I3, rv, ev, q3⟩ := I2.after hq'
      subst ev
      exact ⟨rv, ⟨V.ref (s.heap.objs.size + 1), H', I3, rfl, q3⟩⟩
    | next => exact False.elim hq'
    | brk => exact False.elim hq'
    | cont => exact False.elim hq'
theorem pe_makeS (M : Mk X.K C f) (F : FnOk X.prog X.w X.K X.mg X.base CX k f fd ps sp) (hr : Room (k + 1) X.A) (hg : Gl X x) (hm : X.mg x = some (.ref C)) (hb : Binds X.K fd ps []) (hx : ∀ σ, PassesAt CX X σ (E σ))
    (ha : PA X (e :: es) t) (hdb : (x == ("__debug__" : Str)) = false := by decide) (he : starEach (e :: es) X.env = (false, eval e X.env) :: starEach es X.env := by rfl) (hpl : (backTo pos (starEach es X.env)).any (·.1) = false := by rfl) :
    PE X (.Call (.Name x p) (e :: es) [] pos) (tMakeS C sp E t) := by
  refine ⟨fun pins s σ H Q I h => ?_⟩
  refine wpAny_Call_Name_kw (ld_glob I hg hm ?_ hdb)
  refine PySem.W.callWith_K (h₀ := X.base) I.ok.mod.kin M.kp (thn (ha.run pos pins s σ H _ I h) fun us s1 ⟨vs, H1, I1, r, q⟩ => ⟨I1.kIn, ?_⟩) he hpl
  exact run_makeS M F hr hb (hx σ) I1 r q
end
end NvX

set_option Elab.async false
set_option linter.all false
set_option maxRecDepth 100000
set_option maxHeartbeats 8000000
/-! # Boxes: __init__, __len__, check_place, place -/
namespace M3
open PySem L2
abbrev sBoxInit : Stmt := inClass (top 62) 0
abbrev sBoxLen : Stmt := inClass (top 62) 13
abbrev sPlace : Stmt := inClass (top 62) 6
abbrev sCheckP : Stmt := top 65
theorem scBoxInit : FnScope ["self", "letters", "table", "turn"] ["self", "letters", "table"] (defScope sBoxInit) := ⟨rfl, rfl, rfl, by decide +kernel, rfl, by decide +kernel, by decide +kernel⟩
theorem scBoxLen : FnScope ["self"] ["self"] (defScope sBoxLen) := ⟨rfl, rfl, rfl, by decide +kernel, rfl, by decide +kernel, by decide +kernel⟩
theorem scPlace : FnScope ["self", "word", "start", "times"] ["self", "word", "start", "times"] (defScope sPlace) := ⟨rfl, rfl, rfl, by decide +kernel, rfl, by decide +kernel, by decide +kernel⟩
theorem scCheckP : FnScope ["box", "value"] ["box", "value"] (defScope sCheckP) := ⟨rfl, rfl, rfl, by decide +kernel, rfl, by decide +kernel, by decide +kernel⟩
/-- the attributes of a box, in the order in which they are stored -/
def flB (x : Str) (a : Addr) : List (Str × V) := putF "_table" (.ref a) (putF "_letters" (.str x) [])
theorem kb3 : ¬ (("_letters" : Str) = "_table") := by decide +kernel
theorem flb_l {x : Str} {a : Addr} : (flB x a).lookup ("_letters" : Str) = some (.str x) := by
  unfold flB
  rw [lookup_putF, if_neg kb3, lookup_putF, if_pos rfl]
theorem flb_t {x : Str} {a : Addr} : (flB x a).lookup ("_table" : Str) = some (.ref a) := by
  unfold flB
  rw [lookup_putF, if_pos rfl]
theorem kbp1 : ¬ (("place" : Str) = "_table") := by decide +kernel
theorem kbp2 : ¬ (("place" : Str) = "_letters") := by decide +kernel
theorem flb_place {x : Str} {a : Addr} : (flB x a).lookup ("place" : Str) = none := by
  unfold flB
  rw [lookup_putF, if_neg kbp1, lookup_putF, if_neg kbp2]
  rfl
structure TxB (K : PySem.W.Frag) (mg : Str → Option Value) (C : Addr) : Prop where
  cl : Cls K C
  nL : NoAttr K C "_letters"
  nT : NoAttr K C "_table"
  mP : ∃ t, mg "MAX_PLACES" = some (.int 4 t)
  mA : ∃ t, mg "ALL_ACTIONS" = some (.int 256 t)
  mT : ∃ t, mg "MAX_TIMES" = some (.int 100000000000 t)
/-- what is right of a box's letters and table -/
structure RightB (x : Str) (t : List (List Nat)) (m : Nat) : Prop where
  st : IsSet x m
  m1 : 1 ≤ m
  m2 : m ≤ 2
  tb : IsTab t t.length m
  t1 : 1 ≤ t.length
  t4 : t.length ≤ 4
structure BoxAt (K : PySem.W.Frag) (C : Addr) (H : Hp) (p : Addr) (x : Str) (t : List (List Nat)) : Prop where
  ex : ∃ (dx a : Addr) (us : List V), H p = some (.ins C dx (flB x a)) ∧ SqT K H a us ∧ Tups K H us t
theorem BoxAt.same {K : PySem.W.Frag} {C p : Addr} {H H' : Hp} {x : Str} {t : List (List Nat)} (h : BoxAt K C H p x t) (s : Same H H') : BoxAt K C H' p x t := by
  obtain ⟨dx, a, us, h1, h2, h3⟩ := h
  exact ⟨dx, a, us, s _ _ h1, sqt_same s h2, h3.same s⟩
/-- an action is a way to lead -/
theorem rowA_found {t : List (List Nat)} {x : Str} {m : Nat} (tb : IsTab t t.length m) (st : IsSet x m) (hm2 : m ≤ 2) {F : List (List Nat × Str)} (h : FoundA t x F) {i : Nat} {z : List Nat × Str} (hz : F[i]? = some z) : ∀ n, n ≤ x.cps.size → FoundA t x (rowA t x z.1 z.2 F n)
  | 0, _ => h
  | n + 1, hn => by
    have ih := rowA_found tb st hm2 h hz n (by omega)
    have hx : n < x.cps.toList.length := by
      rw [Array.length_toList]
      omega
    have hc : x.cps.toList[n]? = some x.cps.toList[n] := List.getElem?_eq_getElem hx
    have hcm : x.cps.toList[n] ∈ x.cps.toList := List.getElem_mem hx
    generalize x.cps.toList[n] = c at hc hcm
    have ec : x.cps.toList.getD n 0 = c := getD_some' hc
    have lm : x.cps.toList.length = m := by
      have := set_len st
      simpa [Str.length] using this
    show FoundA t x (addA t z.1 z.2 n (x.cps.toList.getD n 0) (rowA t x z.1 z.2 F n))
    rw [ec]
    exact addA_found tb h hz ih (List.getElem?_eq_some_iff.mp (rowA_at hz n)).1 (by omega) hcm (set_ix st hm2 hc)
theorem bfsL_found {t : List (List Nat)} {x : Str} {m mo : Nat} (tb : IsTab t t.length m) (st : IsSet x m) (hm2 : m ≤ 2) : ∀ (n i : Nat) (F : List (List Nat × Str)), FoundA t x F → FoundA t x (bfsL t x mo n i F)
  | 0, _, _, h => h
  | n + 1, i, F, h => by
    show FoundA t x (match F[i]? with
      | none => F
      | some z => if F.length ≤ mo then bfsL t x mo n (i + 1) (rowA t x z.1 z.2 F x.cps.size) else F)
    cases hz : F[i]? with
    | none => exact h
    | some z =>
      show FoundA t x (if F.length ≤ mo then bfsL t x mo n (i + 1) (rowA t x z.1 z.2 F x.cps.size) else F)
      split
      · exact bfsL_found tb st hm2 n (i + 1) _ (rowA_found tb st hm2 h hz _ (Nat.le_refl _))
      · exact h
theorem bfs_found {t : List (List Nat)} {x : Str} {m mo : Nat} (tb : IsTab t t.length m) (st : IsSet x m) (hm2 : m ≤ 2) : FoundA t x (bfs t x mo) := by
  refine bfsL_found tb st hm2 _ _ _ fun i z e => ?_
  match i, e with
  | 0, e =>
    cases e
    have e0 : ("" : Str).cps.toList = [] := by decide +kernel
    refine ⟨fun q hq => List.mem_range.mp hq, List.length_range, fun c hc => ?_, by rw [e0, act_nil], (show ("" : Str).length ≤ 0 by decide +kernel)⟩
    rw [e0] at hc
    cases hc
theorem found_wf {t : List (List Nat)} {x : Str} {F : List (List Nat × Str)} (h : FoundA t x F) : ∀ z ∈ F, ∀ q ∈ z.1, q < z.1.length := fun z hz q hq => by
  obtain ⟨i, hi, ei⟩ := List.getElem_of_mem hz
  obtain ⟨h1, h2, _⟩ := h i z (by rw [List.getElem?_eq_getElem hi, ei])
  rw [h2]
  exact h1 q hq
def spBoxInit (K : PySem.W.Frag) (C cG : Addr) : Sp := fun vs H Q E => ∃ (p dx a : Addr) (x : Str) (us : List V) (t : List (List Nat)) (m : Nat), vs = [.ref p, .str x, .ref a] ∧ H p = some (.ins C dx []) ∧
  RightB x t m ∧ SqT K H a us ∧ Tups K H us t ∧
  (among (bfs t x 256) = none → ∀ H' : Hp, H' p = some (.ins C dx (flB x a)) → (∀ c o, c ≠ p → H c = some o → H' c = some o) → Q .non H') ∧
  (∀ (y : Str) (q : Nat), among (bfs t x 256) = some (y, q) → ∀ (d T : Addr) (H' : Hp), H' d = some (.xd [("turn", .ref T)]) → H' T = some (.tup [.str y, .int (q : Nat)]) → Same H H' → E (.ref cG) (some d) H')
def spBoxLen (K : PySem.W.Frag) (C : Addr) : Sp := fun vs H Q _ => ∃ (p : Addr) (x : Str) (t : List (List Nat)), vs = [.ref p] ∧ BoxAt K C H p x t ∧ Q (.int (t.length : Nat)) H
def spCheckP (K : PySem.W.Frag) (C : Addr) : Sp := fun vs H Q _ => ∃ (p : Addr) (x : Str) (t : List (List Nat)) (q : Nat), vs = [.ref p, .int (q : Nat)] ∧ BoxAt K C H p x t ∧ q < t.length ∧ t.length ≤ 1000 ∧ ∀ H' : Hp, Same H H' → Q .non H'
def spPlace (K : PySem.W.Frag) (C : Addr) : Sp := fun vs H Q _ => ∃ (p : Addr) (x y : Str) (t : List (List Nat)) (m q k : Nat), vs = [.ref p, .str y, .int (q : Nat), .int (k : Nat)] ∧ BoxAt K C H p x t ∧ RightB x t m ∧ IsW x y ∧ y.length ≤ 1000000 ∧ q < t.length ∧ k ≤ 100000000000 ∧
  ∀ H' : Hp, Same H H' → Q (.int ((iter t x y q k : Nat) : Int)) H'
section
variable {P : Program} {w : World} {K : PySem.W.Frag} {mg : Str → Option Value} {base : Heap} {C cG : Addr}
theorem ok_boxlen {f : Addr} {fd : FuncData} (F : Fun K "__len__" "Box.__len__" sBoxLen f fd) (Zx : TxZ mg) (TB : TxB K mg C) : FnOk P w K mg base CX0 1 f fd ["self"] (spBoxLen K C) := by
  refine F.ok scBoxLen (fun vs H Q E h => ?_) (fun cdv A outer s H vs Q E hr h => ?_)
  · obtain ⟨p, x, t, rfl, _⟩ := h
    rfl
  · obtain ⟨p, x, t, rfl, ⟨dx, a, us, h1, h2, h3⟩, k⟩ := h
    refine ⟨_, pss_one (ps_ret (pe_callB call_len_seq (by rfl) Zx.len PySem.boot_len (pa_cons (pe_fld (pv 0) rfl) pa_nil))), ?_⟩
    refine ⟨_, rfl, p, C, dx, _, _, rfl, h1, TB.cl, TB.nT, flb_t, a, us, rfl, .inr h2, ?_⟩
    rw [h3.1]
    exact k
theorem ok_boxinit {f cB : Addr} {fd : FuncData} (F : Fun K "__init__" "Box.__init__" sBoxInit f fd) (cL : FnC P w K mg base 3 "is_letters" ["value"] (spIsLetters K)) (cT : FnC P w K mg base 3 "is_table" ["value", "width", "most"] (spIsTable K))
    (cW : FnC P w K mg base 2 "action_words" ["table", "letters", "most"] (spActWordsE K)) (cA : FnC P w K mg base 3 "turn_among" ["words"] spAmong) (Zx : TxZ mg) (TB : TxB K mg C) (TE : TxR K mg "InvalidBox" cB) (TG : TxA P K mg "GoesRound" "turn" cG) :
    FnOk P w K mg base (L2.CX P w) 4 f fd ["self", "letters", "table"] (spBoxInit K C cG) := by
  obtain ⟨tp, mp⟩ := TB.mP
  obtain ⟨ta, ma⟩ := TB.mA
  refine F.okX scBoxInit (fun vs H Q E h => ?_) (fun cdv A outer s H vs Q E hr h => ?_)
  · obtain ⟨p, dx, a, x, us, t, m, rfl, _⟩ := h
    rfl
  · obtain ⟨p, dx, a, x, us, t, m, rfl, hp, R, ha, hT, kN, kS⟩ := h
    have hr2 : Room 2 _ := hr.mono (by decide)
    have tk := takes_of (X := cxOf (L2.CX P w) P w K mg base ["self", "letters", "table", "turn"] "Box.__init__" (defScope sBoxInit) f cdv A outer s H E) (E := E) rfl rfl rfl rfl
    refine ⟨_, pss_cons (ps_if (pt_not (pt_val (pe_call cL.G hr rfl cL.m cL.kp cL.b .nil pass0 (pa_cons (pv 1) pa_nil)))) (pss_one (ps_raise rfl tk (pmk_own PySem.F.excBase_ValueError TE.x TE.g TE.k (raises_own TE.b TE.t) rfl))) pss_nil)
      (pss_cons (ps_if (pt_not (pt_val (pe_call cT.G hr rfl cT.m cT.kp cT.b .nil pass0 (pa_cons (pv 2) (pa_cons (pe_callB call_len_str (by rfl) Zx.len PySem.boot_len (pa_cons (pv 1) pa_nil)) (pa_cons (pe_glob (v := .int 4) rfl mp ⟨_, rfl⟩) pa_nil)))))) (pss_one (ps_raise rfl tk (pmk_own PySem.F.excBase_ValueError TE.x TE.g TE.k (raises_own TE.b TE.t) rfl))) pss_nil)
      (pss_cons (ps_set (i := 3) scBoxInit.nd rfl (Or.inl rfl) (pe_call cA.G hr rfl cA.m cA.kp cA.b .nil pass0 (pa_cons (pe_call cW.G hr2 rfl cW.m cW.kp cW.b .nil pass0 (pa_cons (pv 2) (pa_cons (pv 1) (pa_cons (pe_glob (v := .int 256) rfl ma ⟨_, rfl⟩) pa_nil)))) pa_nil)))
      (pss_cons (ps_if (pt_cmpR op_notN (pv 3) pe_non (nomark _)) (pss_one (ps_raise rfl tk (pmk_keep (TG.keeps rfl rfl rfl) hr (pa_cons (pv 3) pa_nil)))) pss_nil)
      (pss_cons (ps_fld (pv 0) (pv 1) rfl) (pss_one (ps_fld (pv 0) (pv 2) rfl)))))), ?_⟩
    have lx := set_len R.st
    have m2 := R.m2
    refine ⟨_, rfl, .str x, .type "str", true, rfl, .base (.str x), kit_str, (fun z => by cases z), fun _ => ⟨x, rfl, by omega, fun H1 s1 => ⟨_, rfl, ?_⟩⟩⟩
    rw [set_let R.st R.m1 R.m2]
    refine iteF ?_
    refine ⟨_, rfl, _, rfl, x, rfl, Nat.le_trans (show x.length ≤ 2 by omega) (by decide), a, us, asInt t, (x.length : Int), 4, rfl, sqt_same s1 ha, (tups_lines hT R.tb (by omega)).same s1, ?_, fun H2 s2 => ⟨_, rfl, ?_⟩⟩
    · unfold asInt
      rw [List.length_map]
      have := R.t4
      omega
    rw [lx, tab_ok R.tb R.t1 R.t4]
    refine iteF ?_
    have s12 := s1.trans s2
    have FA := bfs_found (mo := 256) R.tb R.st R.m2
    refine ⟨_, rfl, _, rfl, a, x, us, t, m, 256, rfl, sqt_same s12 ha, hT.same s12, R.tb, R.st, R.m2, (by have := R.t4; omega), by decide, fun D H3 hD s3 => ?_⟩
    have s13 := s12.trans s3
    refine ⟨D, bfs t x 256, rfl, hD, found_wf FA, fun e H4 s4 => ?_, fun y q e T H4 hT4 s4 => ?_⟩
    · refine ⟨_, rfl, rfl, _, rfl, iteF ?_⟩
      have s14 := s13.trans s4
      have hp4 := s14 _ _ hp
      refine ⟨_, rfl, _, rfl, p, C, dx, [], rfl, hp4, TB.cl, TB.nL, (by show 0 < 1000; decide), ?_⟩
      refine ⟨_, rfl, _, rfl, p, C, dx, _, rfl, upd_same, TB.cl, TB.nT, (by show 1 < 1000; decide), ?_⟩
      refine kN e _ upd_same fun c' o hc h => ?_
      rw [upd_ne hc, upd_ne hc]
      exact s14 _ _ h
    · refine ⟨_, rfl, rfl, _, rfl, iteT ?_⟩
      have s14 := s13.trans s4
      refine ⟨_, rfl, _, rfl, fun d hd => ?_⟩
      exact kS y q e d T _ upd_same (keep_new hT4 hd) (Same.new s14 hd)
theorem ok_checkp {f cN fL : Addr} {fd dL : FuncData} (F : Fun K "check_place" "check_place" sCheckP f fd) (cB : FnC P w K mg base 1 "is_between" ["value", "low", "high"] (spBetween K)) (GL : FnOk P w K mg base CX0 1 fL dL ["self"] (spBoxLen K C)) (bL : Binds K dL ["self"] []) (mL : Meth K C "__len__" fL) (M : TxM mg) (TN : TxN P K mg cN) :
    FnOk P w K mg base CX0 3 f fd ["box", "value"] (spCheckP K C) := by
  refine F.ok scCheckP (fun vs H Q E h => ?_) (fun cdv A outer s H vs Q E hr h => ?_)
  · obtain ⟨p, x, t, q, rfl, _⟩ := h
    rfl
  · obtain ⟨p, x, t, q, rfl, B, hq, tl, k⟩ := h
    have hr1 : Room 1 _ := hr.mono (by decide)
    refine ⟨_, pss_one (ps_if (pt_not (pt_val (pe_call cB.G hr1 rfl cB.m cB.kp cB.b .nil pass0 (pa_cons (pv 1) (pa_cons pe_int (pa_cons (pe_op op_sub (pe_callB (NvO.call_lenO GL hr bL pass0 mL.at_ mL.fn) (by rfl) M.len PySem.boot_len (pa_cons (pv 0) pa_nil)) pe_int) pa_nil)))))) (pss_one (ps_raise rfl takes0 (pmk_keep (keepN TN rfl rfl rfl) hr (pa_cons (pv 1) pa_nil)))) pss_nil), ?_⟩
    obtain ⟨dx, a, us, i1, i2, i3⟩ := id B
    refine ⟨_, rfl, _, rfl, p, dx, _, rfl, i1, p, x, t, rfl, B, ((t.length : Nat) : Int), rfl, by omega, by omega, _, _, rfl, rfl, ?_⟩
    refine ⟨.int (q : Nat), 0, ((t.length : Nat) : Int) - 1, .type "int", false, true, rfl, .base (.int _), kit_int_bool, kit_int_int, (fun z => by cases z), (fun _ z => by cases z), fun _ _ => ⟨(q : Nat), rfl, _, rfl, ?_⟩⟩
    have e : (decide ((0 : Int) ≤ ((q : Nat) : Int)) && decide (((q : Nat) : Int) ≤ ((t.length : Nat) : Int) - 1)) = true := by
      rw [decide_eq_true (show (0 : Int) ≤ ((q : Nat) : Int) by omega), decide_eq_true (show ((q : Nat) : Int) ≤ ((t.length : Nat) : Int) - 1 by omega)]
      rfl
    rw [e]
    exact iteF (k H (Same.refl H))
theorem ok_place {f cN : Addr} {fd : FuncData} (F : C8.Fun K "place" "Box.place" sPlace f fd) (cC : FnC P w K mg base 3 "check_word" ["value"] spCheck) (cP : FnC P w K mg base 3 "check_place" ["box", "value"] (spCheckP K C)) (cB : FnC P w K mg base 1 "is_between" ["value", "low", "high"] (spBetween K))
    (cO : FnC P w K mg base 2 "check_only" ["word", "letters"] spOnlyC) (cL : FnC P w K mg base 2 "led_often" ["table", "letters", "start", "word", "times"] (spOften K)) (TB : TxB K mg C) (TN : TxN P K mg cN) : FnOk P w K mg base CX0 4 f fd ["self", "word", "start", "times"] (spPlace K C) := by
  obtain ⟨tm, hm⟩ := TB.mT
  refine C8.fn0 F scPlace (fun vs H Q E h => ?_) (fun cdv A outer s H vs Q E hr h => ?_)
  · obtain ⟨p, x, y, t, m, q, k, rfl, _⟩ := h
    rfl
  · obtain ⟨p, x, y, t, m, q, n, rfl, B, R, hw, hy, hq, hn, k⟩ := h
    have hr2 : Room 2 _ := hr.mono (by decide)
    have hr1 : Room 1 _ := hr.mono (by decide)
    refine ⟨_, pss_cons (ps_expr (pe_call cC.G hr rfl cC.m cC.kp cC.b .nil pass0 (pa_cons (pv 1) pa_nil)))
      (pss_cons (ps_expr (pe_call cP.G hr rfl cP.m cP.kp cP.b .nil pass0 (pa_cons (pv 0) (pa_cons (pv 2) pa_nil))))
      (pss_cons (ps_if (pt_not (pt_val (pe_call cB.G hr1 rfl cB.m cB.kp cB.b .nil pass0 (pa_cons (pv 3) (pa_cons pe_int (pa_cons (pe_glob (v := .int 100000000000) rfl hm ⟨_, rfl⟩) pa_nil)))))) (pss_one (ps_raise rfl takes0 (pmk_keep (keepN TN rfl rfl rfl) hr (pa_cons (pv 3) pa_nil)))) pss_nil)
      (pss_cons (ps_expr (pe_call cO.G hr2 rfl cO.m cO.kp cO.b .nil pass0 (pa_cons (pv 1) (pa_cons (pe_fld (pv 0) rfl) pa_nil))))
      (pss_one (ps_ret (pe_call cL.G hr2 rfl cL.m cL.kp cL.b .nil pass0 (pa_cons (pe_fld (pv 0) rfl) (pa_cons (pe_fld (pv 0) rfl) (pa_cons (pv 2) (pa_cons (pv 1) (pa_cons (pv 3) pa_nil))))))))))), ?_⟩
    refine ⟨_, rfl, y, rfl, hy, only_all R.st hw, fun H1 s1 => ?_⟩
    refine ⟨_, rfl, _, rfl, p, x, t, q, rfl, B.same s1, hq, (by have := R.t4; omega), fun H2 s2 => ?_⟩
    have s12 := s1.trans s2
    refine ⟨_, rfl, .int (n : Nat), 0, 100000000000, .type "int", false, true, rfl, .base (.int _), kit_int_bool, kit_int_int, (fun z => by cases z), (fun _ z => by cases z), fun _ _ => ⟨(n : Nat), rfl, _, rfl, ?_⟩⟩
    have e : (decide ((0 : Int) ≤ ((n : Nat) : Int)) && decide (((n : Nat) : Int) ≤ 100000000000)) = true := by
      rw [decide_eq_true (show (0 : Int) ≤ ((n : Nat) : Int) by omega), decide_eq_true (show ((n : Nat) : Int) ≤ 100000000000 by omega)]
      rfl
    rw [e]
    refine iteF ?_
    obtain ⟨dx, a, us, i1, i2, i3⟩ := B.same s12
    refine ⟨_, rfl, _, rfl, p, C, dx, _, _, rfl, i1, TB.cl, TB.nL, flb_l, y, x, rfl, hy, only_of hw, fun H3 s3 => ?_⟩
    refine ⟨_, rfl, p, C, dx, _, _, rfl, s3 _ _ i1, TB.cl, TB.nT, flb_t, _, rfl, p, C, dx, _, _, rfl, s3 _ _ i1, TB.cl, TB.nL, flb_l, _, rfl, _, rfl, _, rfl, a, x, y, m, n, q, t, us, rfl, sqt_same s3 i2, i3.same s3, R.tb, R.st, R.m2, hw, hq, R.t4, fun H4 s4 => ?_⟩
    exact k H4 ((s12.trans s3).trans s4)
end
end M3

set_option Elab.async false
set_option linter.all false
set_option maxRecDepth 100000
set_option maxHeartbeats 8000000
/-! # _law_actions -/
namespace M3
open PySem L2
abbrev sLawActs : Stmt := top 77
abbrev nLA : List Str := ["table", "letters", "most", "steps", "first", "found", "order", "at", "letter", "step", "later", "row", "place"]
theorem scLA : FnScope nLA ["table", "letters", "most"] (defScope sLawActs) := ⟨rfl, rfl, rfl, by decide +kernel, rfl, by decide +kernel, by decide +kernel⟩
def spLawActs (K : PySem.W.Frag) : Sp := fun vs H Q _ => ∃ (a : Addr) (x : Str) (us : List V) (t : List (List Nat)) (m mo : Nat), vs = [.ref a, .str x, .int (mo : Nat)] ∧ SqL K H a us ∧ Tups K H us t ∧ IsTab t t.length m ∧ IsSet x m ∧ m ≤ 2 ∧ t.length ≤ 10 ∧ mo ≤ 1000 ∧
  ((bfs t x mo).length ≤ mo → ∀ (D : Addr) (H' : Hp), H' D = some (.dT (ents (bfs t x mo))) → H D = none → Same H H' → Q (.ref D) H') ∧ (mo < (bfs t x mo).length → ∀ H' : Hp, Same H H' → Q .non H')
theorem col_getD {t : List (List Nat)} {j p : Nat} (h : p < t.length) : (col t j).getD p 0 = (t.getD p []).getD j 0 := by
  unfold col
  simp [List.getD, List.getElem?_eq_getElem h]
def tInner (K : PySem.W.Frag) : TE := tLc (iList K (tVar 0)) (gName 11) tYes (tOp (rIxT K) (tVar 11) (tVar 7)) [11]
section
variable {P : Program} {w : World} {K : PySem.W.Frag} {mg : Str → Option Value} {base : Heap}
theorem ok_lawacts {f : Addr} {fd : FuncData} (F : Fun K "_law_actions" "_law_actions" sLawActs f fd) (M : TxM mg) (hZ : mg "zip" = none) : FnOk P w K mg base CX0 1 f fd ["table", "letters", "most"] (spLawActs K) := by
  refine F.ok scLA (fun vs H Q E h => ?_) (fun cdv A outer s H vs Q E hr h => ?_)
  · obtain ⟨a, x, us, t, m, mo, rfl, _⟩ := h
    rfl
  · obtain ⟨a, x, us, t, m, mo, rfl, ha, hT, tb, st, hm2, tl, hmo, k1, k2⟩ := h
    have hu := hu_of hr
    have hu0 : (A.deeper (PyProof.Rows.envOfC "_law_actions" (defScope sLawActs) s.heap.objs.size f cdv)).units < cLine := Nat.lt_of_succ_lt hu
    refine ⟨_, pss_cons (ps_setLc (i := 3) (own := [("at", 7)]) (g := gName 7) (tt := tYes) (te := tInner K) rfl scLA.nd rfl rfl (by rfl) (pi_range1 rfl M.range (pa_cons (pe_callB call_len_str (by rfl) M.len PySem.boot_len (pa_cons (pv 1) pa_nil)) pa_nil)) (blkOk_by (N := nLA) (sc := defScope sLawActs) (by decide +kernel)) (fun _ _ _ _ _ => pg_name (i := 7) scLA.nd rfl (Or.inr rfl)) (fun _ _ _ _ _ => pts_nil)
        (fun _ _ _ _ _ => pe_lc (own := [("row", 11)]) (wi := iList K (tVar 0)) (g := gName 11) (tt := tYes) (te := tOp (rIxT K) (tVar 11) (tVar 7)) rfl scLA.nd (pi_list (pv 0)) (by exact blkOk_by (N := nLA) (sc := ⟨.function, [(".0", .local), ("at", .cell), ("table", .cell)], false, false, []⟩) (scope := ⟨.function, [(".0", .local), ("row", .local), ("at", .free)], false, false, []⟩) (own := [("row", 11)]) (by decide +kernel)) (fun _ _ _ _ _ => pg_name (i := 11) scLA.nd rfl (Or.inl rfl)) (fun _ _ _ _ _ => pts_nil)
          (fun _ _ _ _ _ => pe_ix ix_tup (pv 11) (pv 7) (fun _ _ => rfl))))
      (pss_cons (ps_set (i := 4) scLA.nd rfl (Or.inl rfl) (pe_tupRg rfl rfl M.tuple (prg_1 rfl M.range (pe_callB call_len_seq (by rfl) M.len PySem.boot_len (pa_cons (pv 0) pa_nil)))))
      (pss_cons (ps_par3 (i := 5) (j := 6) (l := 7) rfl scLA.nd rfl rfl rfl (by decide) (by decide) (by decide) rfl rfl rfl (pa_cons (NvQ.pe_disp1 hu0 (pv 4) pe_str) (pa_cons (pe_lst (pa_cons (pv 4) pa_nil)) (pa_cons pe_int pa_nil))) rfl)
      (pss_cons (ps_while PassesOwn.never (PW.pt (pw_and (pt_cmpR op_lt (pv 7) (pe_callB call_len_seq (by rfl) M.len PySem.boot_len (pa_cons (pv 6) pa_nil)) (nomark _)) (pw_and1 (pt_cmpR op_le (pe_callB call_len_seq (by rfl) M.len PySem.boot_len (pa_cons (pv 6) pa_nil)) (pv 2) (nomark _)))))
        (pss_cons (ps_for PassesOwn.never rfl (NvL.pi_zipSL rfl hZ (pa_cons (pv 1) (pa_cons (pv 3) pa_nil))) (pg_tup rfl (pgs_cons (pg_name (i := 8) scLA.nd rfl (Or.inl rfl)) (pgs_cons (pg_name (i := 9) scLA.nd rfl (Or.inr rfl)) pgs_nil)))
          (pss_cons (ps_set (i := 10) scLA.nd rfl (Or.inl rfl) (pe_callTy call_tuple_of (by rfl) M.tuple (by decide +kernel) (pa_cons (pe_lc (own := [("place", 12)]) (g := gName 12) (tt := tYes) (te := tOp (rIxL K) (tVar 9) (tVar 12)) rfl scLA.nd (pi_tup (pe_ix ix_list (pv 6) (pv 7) (fun _ _ => rfl))) (blkOk_by (N := nLA) (sc := defScope sLawActs) (by decide +kernel)) (fun _ _ _ _ _ => pg_name (i := 12) scLA.nd rfl (Or.inl rfl)) (fun _ _ _ _ _ => pts_nil)
              (fun _ _ _ _ _ => pe_ix ix_list (pv 9) (pv 12) (fun _ _ => rfl))) pa_nil)))
          (pss_one (ps_if (pt_cmp (pc_dnotin hu (pv 10) (pv 5)))
            (pss_cons (ps_dput hu (pv 5) (pv 10) (pe_op op_add_str (pe_dget hu (pv 5) (pe_ix ix_list (pv 6) (pv 7) (fun _ _ => rfl)) (fun _ _ => rfl)) (pv 8)) rfl)
            (pss_one (ps_expr (pe_bm PySem.F.plainAttrs_list PySem.F.slot_list_append PySem.F.type_list_append mt_append (pv 6) (pa_cons (pv 10) pa_nil))))) pss_nil))))
        (pss_one (ps_set (i := 7) scLA.nd rfl (Or.inl rfl) (pe_op op_add (pv 7) pe_int)))))
      (pss_one (ps_ret (pe_ifExp (pt_cmpR op_le (pe_callB call_len_dT (by rfl) M.len PySem.boot_len (pa_cons (pv 5) pa_nil)) (pv 2) (nomark _)) (pv 5) pe_non)))))), ?_⟩
    have lu : us.length = t.length := hT.1
    have hm : x.cps.toList.length = m := by
      have := set_len st
      simpa [Str.length] using this
    have lx := set_len st
    have free : ∀ {H9 : Hp} {q : Addr}, Same H H9 → H9 q = none → H q = none := fun {H9 q} sx hq => free_of sx hq
    refine ⟨_, rfl, x, rfl, Nat.le_trans (show x.length ≤ 2 by omega) (by decide), ?_⟩
    rw [lx]
    refine ⟨_, rfl, by omega, by omega, fun G nG => ?_⟩
    have sm : ∀ {H9 : Hp}, (∀ b' o, b' ≠ G → H b' = some o → H9 b' = some o) → Same H H9 := fun z b' o h => z b' o (fun q => by rw [q, nG] at h; cases h) h
    refine lc_range (lo := 0) (n := ((m : Nat) : Int).toNat) (fun j H9 => ∃ us9 : List V, H9 G = some (.lst us9) ∧ RowsL G G H9 us9 ((List.range j).map (col t)) ∧ ∀ b o, b ≠ G → H b = some o → H9 b = some o)
      ⟨[], upd_same, ⟨rfl, fun i r h => by cases h⟩, fun b o hb h => keep_new h nG⟩ ?_ ?_
    · rintro j H9 hj ⟨us9, u1, u2, u3⟩
      have hj : j < m := by omega
      have s9 := sm u3
      refine ⟨rfl, tYes_if ?_⟩
      refine ⟨_, rfl, a, rfl, ⟨_, s9.seq ha⟩, fun S nS => ?_⟩
      have sm2 : ∀ {H10 : Hp}, (∀ b' o, b' ≠ S → H9 b' = some o → H10 b' = some o) → Same H9 H10 := fun z b' o h => z b' o (fun q => by rw [q, nS] at h; cases h) h
      refine lc_list (K := K) (a := a) (xs := us) (fun i H10 => H10 S = some (.lst (nts (col (t.take i) j))) ∧ ∀ b o, b ≠ S → H9 b = some o → H10 b = some o)
        ⟨upd_same, fun b o hb h => keep_new h nS⟩ (fun i H10 _ ⟨_, z⟩ => (sm2 z).seq (s9.seq ha)) ?_ ?_
      · rintro i v H10 hv ⟨w1, w2⟩
        have hi : i < t.length := by
          rw [← lu]
          exact (List.getElem?_eq_some_iff.mp hv).1
        obtain ⟨b, b1, b2⟩ := hT.2 i t[i] (List.getElem?_eq_getElem hi)
        have ev : v = .ref b := Option.some.inj (hv.symm.trans b1)
        subst ev
        refine ⟨rfl, tYes_if ?_⟩
        obtain ⟨ln, _⟩ := tb.2 t[i] (List.getElem_mem hi)
        have ej : (0 : Int) + (j : Int) = (j : Int) := Int.zero_add _
        refine ⟨_, rfl, _, rfl, b, nts t[i], 0 + (j : Int), .int ((t[i].getD j 0 : Nat) : Int), rfl, rfl, sqt_same (sm2 w2) (sqt_same s9 b2), by rw [ej]; exact nts_at (by omega), ?_⟩
        refine ⟨_, w1, ?_, ?_, fun b' o hb' h' => by rw [upd_ne hb']; exact w2 b' o hb' h'⟩
        · rw [nts_length]
          unfold col
          rw [List.length_map, List.length_take]
          exact Nat.lt_of_le_of_lt (Nat.le_trans (Nat.min_le_right _ _) tl) (by decide)
        · rw [upd_same, nts_append]
          unfold col
          rw [take_snoc (List.getElem?_eq_getElem hi), List.map_append]
          rfl
      · rintro H10 ⟨w1, w2⟩
        have et : t.take us.length = t := by
          rw [lu]
          exact List.take_length
        rw [et] at w1
        have SG : S ≠ G := fun z => by
          rw [z, u1] at nS
          cases nS
        refine ⟨us9, w2 _ _ (Ne.symm SG) u1, ?_, us9 ++ [.ref S], upd_same, ?_, fun b o hb h => ?_⟩
        · rw [u2.1, List.length_map, List.length_range]
          exact Nat.lt_of_lt_of_le hj (Nat.le_trans hm2 (by decide))
        · rw [List.range_succ, List.map_append]
          refine ((u2.to fun b o _ _ h => (sm2 w2) b o h).snoc SG SG w1).to fun b o _ h2 h => ?_
          rw [upd_ne h2]
          exact h
        · rw [upd_ne hb]
          exact (sm2 w2) b o (u3 b o hb h)
    · rintro H1 ⟨us9, u1, u2, u3⟩
      have em : ((m : Nat) : Int).toNat = m := by omega
      rw [em] at u2
      have s1 := sm u3
      refine ⟨_, rfl, a, us, rfl, .inl (s1.seq ha), _, rfl, .of_le (by decide) (by omega) (by decide) (by omega), fun p0 np => ?_⟩
      rw [lu, rgV_nats]
      have hp2 : (upd H1 p0 (.tup (nts (List.range t.length)))) p0 = some (.tup (nts (List.range t.length))) := upd_same
      have s2 : Same H1 (upd H1 p0 (.tup (nts (List.range t.length)))) := Same.new (Same.refl H1) np
      generalize upd H1 p0 (.tup (nts (List.range t.length))) = H2 at hp2 s2 ⊢
      have g2 := s2 _ _ u1
      have r2 := u2.to (H' := H2) fun b o _ _ h => s2 b o h
      have t2 := s1.trans s2
      clear s2 u1 u2 u3 s1 np
      intro LW nLW
      have nLW0 : H LW = none := free t2 nLW
      have pW : p0 ≠ LW := ne_of_none hp2 nLW
      refine ⟨_, rfl, p0, key (List.range t.length), .str "", rfl, upd_same, (by rw [key_tup, upd_ne pW]; exact hp2), ?_⟩
      rw [upd_upd]
      have hW3 : (upd H2 LW (.dT [(key (List.range t.length), .str "")])) LW = some (.dT [(key (List.range t.length), .str "")]) := upd_same
      have s3 : Same H2 (upd H2 LW (.dT [(key (List.range t.length), .str "")])) := Same.new (Same.refl H2) nLW
      generalize upd H2 LW (.dT [(key (List.range t.length), .str "")]) = H3 at hW3 s3 ⊢
      refine ⟨_, rfl, (by show 1 ≤ sizeLine; decide), fun LF nLF => ⟨_, _, _, rfl, ?_⟩⟩
      have nLF0 : H LF = none := free (t2.trans s3) nLF
      have hF4 : (upd H3 LF (.lst [.ref p0])) LF = some (.lst [.ref p0]) := upd_same
      have s4 : Same H3 (upd H3 LF (.lst [.ref p0])) := Same.new (Same.refl H3) nLF
      generalize upd H3 LF (.lst [.ref p0]) = H4 at hF4 s4 ⊢
      have hW4 := s4 _ _ hW3
      have hp4 := s4 _ _ (s3 _ _ hp2)
      have g4 := s4 _ _ (s3 _ _ g2)
      have r4 : RowsL LF LW H4 us9 ((List.range m).map (col t)) := ⟨r2.1, fun i r h => by
        obtain ⟨b, b1, b2, b3, b4⟩ := r2.2 i r h
        exact ⟨b, b1, ne_of_none (s3 _ _ b4) nLF, ne_of_none b4 nLW, s4 _ _ (s3 _ _ b4)⟩⟩
      have t4 := (t2.trans s3).trans s4
      have GF : G ≠ LF := ne_of_none (s3 _ _ g2) nLF
      have GW : G ≠ LW := ne_of_none g2 nLW
      have FW : LF ≠ LW := ne_of hF4 hW4 (fun z => by cases z)
      clear s4 s3 nLF nLW pW hW3 hp2 g2 r2 t2
      refine while_by (fun σ H' => ∃ (us' : List V) (F : List (List Nat × Str)) (at' : Nat) (v1 v2 v3 : Option V), σ = [some (.ref a), some (.str x), some (.int (mo : Nat)), some (.ref G), some (.ref p0), some (.ref LW), some (.ref LF), some (.int (at' : Nat)), v1, v2, v3, none, none] ∧
          H' LF = some (.lst us') ∧ H' LW = some (.dT (ents F)) ∧ RowsA H' us' (F.map Prod.fst) ∧ FoundA t x F ∧ (F.map Prod.fst).Nodup ∧ F.length ≤ mo + 2 ∧ bfsL t x mo (mo + 1 - at') at' F = bfs t x mo ∧ ∀ b o, b ≠ LF → b ≠ LW → H4 b = some o → H' b = some o)
        (fun σ H' => match σ with | [_, _, _, _, _, _, _, some (.int i), _, _, _, _, _] => mo + 1 - i.toNat | _ => 0)
        ⟨[.ref p0], [(List.range t.length, "")], 0, none, none, none, rfl, hF4, hW4, ?_, ?_, by simp, (by show 1 ≤ mo + 2; omega), rfl, fun b o _ _ h => h⟩ ?_ ?_
      · exact ⟨rfl, fun i r e => by
          match i, e with
          | 0, e => exact ⟨p0, rfl, by cases e; exact hp4⟩⟩
      · intro i z e
        match i, e with
        | 0, e =>
          cases e
          have e0 : ("" : Str).cps.toList = [] := by decide +kernel
          refine ⟨fun q hq => List.mem_range.mp hq, List.length_range, fun c hc => ?_, by rw [e0, act_nil], (show ("" : Str).length ≤ 0 by decide +kernel)⟩
          rw [e0] at hc
          cases hc
      · rintro σ H5 ⟨us', F, at', v1, v2, v3, rfl, hF, hW, RA, FA, nd, lf, bf, kp⟩
        have kS : Same H H5 := fun b o h => kp b o (ne_of_none h nLF0) (ne_of_none h nLW0) (t4 _ _ h)
        have lus : us'.length = F.length := by rw [RA.1, List.length_map]
        -- the end
        have le : (ents (bfs t x mo)).length = (bfs t x mo).length := List.length_map _
        refine ⟨_, rfl, _, rfl, LF, us', rfl, .inl (SqL.of hF), _, _, rfl, rfl, _, rfl, ?_⟩
        rw [lus]
        refine ite2 (fun h1 => ?_) (fun h1 => ?_)
        · refine ⟨_, rfl, LF, us', rfl, .inl (SqL.of hF), _, rfl, _, _, rfl, rfl, _, rfl, ?_⟩
          rw [lus]
          have h1 : at' < F.length := by
            have := of_decide_eq_true h1
            omega
          refine ite2 (fun h2 => ?_) (fun h2 => ?_)
          · have h2 : F.length ≤ mo := by
              have := of_decide_eq_true h2
              omega
            have hz : F[at']? = some F[at'] := List.getElem?_eq_getElem h1
            generalize F[at'] = z at hz
            have bf2 : bfsL t x mo (mo + 1 - (at' + 1)) (at' + 1) (rowA t x z.1 z.2 F x.cps.size) = bfs t x mo := by
              rw [← bf, show mo + 1 - at' = (mo + 1 - (at' + 1)) + 1 by omega]
              show _ = (match F[at']? with
                | none => F
                | some z => if F.length ≤ mo then bfsL t x mo (mo + 1 - (at' + 1)) (at' + 1) (rowA t x z.1 z.2 F x.cps.size) else F)
              rw [hz]
              exact (if_pos h2).symm
            have l9 : us9.length = m := by rw [r4.1, List.length_map, List.length_range]
            have xsz : x.cps.size = m := by
              have e : x.cps.toList.length = x.cps.size := by simp
              omega
            have hmin : min x.cps.size us9.length = x.cps.size := by omega
            refine ⟨_, rfl, _, rfl, x, G, us9, rfl, SqL.of (kp _ _ GF GW g4), for_it (NvL.walk_zipSL (K := K) (x := x) (b := G) (ys := us9)) (fun j σ H' => ∃ (us' : List V) (v1 v2 v3 : Option V), σ = [some (.ref a), some (.str x), some (.int (mo : Nat)), some (.ref G), some (.ref p0), some (.ref LW), some (.ref LF), some (.int (at' : Nat)), v1, v2, v3, none, none] ∧
                H' LF = some (.lst us') ∧ H' LW = some (.dT (ents (rowA t x z.1 z.2 F j))) ∧ RowsA H' us' ((rowA t x z.1 z.2 F j).map Prod.fst) ∧ FoundA t x (rowA t x z.1 z.2 F j) ∧ ∀ b o, b ≠ LF → b ≠ LW → H4 b = some o → H' b = some o)
              ⟨us', v1, v2, v3, rfl, hF, hW, RA, FA, kp⟩ (fun i σ H' _ h => ?_) ?_ ?_⟩
            · obtain ⟨_, _, _, _, _, _, _, _, _, kp⟩ := h
              exact SqL.of (kp _ _ GF GW g4)
            · rintro j v σ H6 H7 hj ⟨us', v1, v2, v3, rfl, hF, hW, RA, FA2, kp⟩ ⟨T, c, y, rfl, nT, rfl, hc, hy⟩
              rw [hmin] at hj
              have hc' : x.cps.toList[j]? = some c := by simpa using hc
              have cx : c ∈ x.cps.toList := List.mem_of_getElem? hc'
              have ec : x.cps.toList.getD j 0 = c := getD_some' hc'
              have jm : j < m := by omega
              have ej : x.cps.toList.idxOf c = j := set_ix st hm2 hc'
              obtain ⟨bs, y1, bF, bW, y4⟩ := r4.2 j (col t j) (by rw [List.getElem?_map, List.getElem?_range jm]; rfl)
              rw [y1] at hy
              cases hy
              have gz : (rowA t x z.1 z.2 F j)[at']? = some z := rowA_at hz j
              have ndj := rowA_nodup (x := x) (r := z.1) (w := z.2) (t := t) nd j
              have lj := rowA_len (x := x) (r := z.1) (w := z.2) (t := t) (F := F) j
              have rw1 : rowA t x z.1 z.2 F (j + 1) = addA t z.1 z.2 j c (rowA t x z.1 z.2 F j) := by
                show addA t z.1 z.2 j (x.cps.toList.getD j 0) _ = _
                rw [ec]
              rw [rw1]
              have FA3 := addA_found tb FA hz FA2 (List.getElem?_eq_some_iff.mp gz).1 jm cx ej
              generalize rowA t x z.1 z.2 F j = GG at hW RA FA2 gz ndj lj FA3 ⊢
              have gm : (GG.map Prod.fst)[at']? = some z.1 := by
                rw [List.getElem?_map, gz]
                rfl
              obtain ⟨bq, b1, b2'⟩ := RA.2 at' _ gm
              obtain ⟨w1, w2, d2, d3, d4⟩ := FA2 at' z gz
              have d1 := ents_at ndj gz
              refine ⟨T, _, rfl, SqT.of upd_same, rfl, _, _, rfl, _, _, rfl, rfl, ?_⟩
              have sT : Same H6 (upd H6 T (.tup [.str ⟨#[c]⟩, .ref bs])) := Same.new (Same.refl H6) nT
              generalize upd H6 T (.tup [.str ⟨#[c]⟩, .ref bs]) = H8 at sT ⊢
              have hF := sT _ _ hF
              have hW := sT _ _ hW
              have b2' := sT _ _ b2'
              have RA := RA.to (H' := H8) (fun b ys h => sT _ _ h)
              have kp : ∀ b o, b ≠ LF → b ≠ LW → H4 b = some o → H8 b = some o := fun b o h1 h2 h => sT _ _ (kp b o h1 h2 h)
              have y8 := kp _ _ bF bW y4
              refine ⟨_, rfl, _, rfl, LF, us', _, _, rfl, rfl, SqL.of hF, atI_nat b1, bq, rfl, ⟨_, SqT.of b2'⟩, fun C nC => ?_⟩
              have smC : ∀ {H9 : Hp}, (∀ b' o, b' ≠ C → H8 b' = some o → H9 b' = some o) → Same H8 H9 := fun z b' o h => z b' o (fun q => by rw [q, nC] at h; cases h) h
              refine lc_tup (K := K) (a := bq) (xs := nts z.1) (fun i H9 => H9 C = some (.lst (nts (ledon t (z.1.take i) j))) ∧ ∀ b' o, b' ≠ C → H8 b' = some o → H9 b' = some o)
                ⟨upd_same, fun b' o hb' h => keep_new h nC⟩ (fun i H9 _ ⟨_, q⟩ => sqt_same (smC q) (SqT.of b2')) ?_ ?_
              · rintro i v H9 hv ⟨q1, q2⟩
                have hi : i < z.1.length := by
                  have := (List.getElem?_eq_some_iff.mp hv).1
                  rw [nts_length] at this
                  exact this
                unfold nts at hv
                rw [List.getElem?_map, List.getElem?_eq_getElem hi] at hv
                cases hv
                refine ⟨rfl, tYes_if ?_⟩
                have hp := w1 z.1[i] (List.getElem_mem hi)
                have lc : (col t j).length = t.length := by
                  unfold col
                  rw [List.length_map]
                refine ⟨_, rfl, _, rfl, bs, nts (col t j), _, _, rfl, rfl, SqL.of ((smC q2) _ _ y8), nts_at (by omega), ?_⟩
                rw [col_getD hp]
                refine ⟨_, q1, ?_, ?_, fun b'' o hb' h => by rw [upd_ne hb']; exact q2 b'' o hb' h⟩
                · unfold ledon
                  rw [nts_length, List.length_map, List.length_take]
                  exact Nat.lt_of_le_of_lt (show _ ≤ 1000 by omega) (by decide)
                · rw [upd_same]
                  unfold ledon nts
                  rw [map_take_snoc hi, List.map_append]
                  rfl
              · rintro H9 ⟨q1, q2⟩
                have et : z.1.take (nts z.1).length = z.1 := by
                  rw [nts_length]
                  exact List.take_length
                rw [et] at q1
                refine ⟨C, _, rfl, .inl ⟨SqL.of q1, fun g ng => ?_⟩⟩
                have s9 : Same H8 (upd H9 g (.tup (nts (ledon t z.1 j)))) := Same.new (smC q2) ng
                have hg : (upd H9 g (.tup (nts (ledon t z.1 j)))) g = some (.tup (nts (ledon t z.1 j))) := upd_same
                generalize upd H9 g (.tup (nts (ledon t z.1 j))) = HA at s9 hg ⊢
                have hF := s9 _ _ hF
                have hW := s9 _ _ hW
                have RA := RA.to (H' := HA) (fun b ys h => s9 _ _ h)
                have kp : ∀ b o, b ≠ LF → b ≠ LW → H4 b = some o → HA b = some o := fun b o h1 h2 h => s9 _ _ (kp b o h1 h2 h)
                have hg' : HA g = some (.tup ((key (ledon t z.1 j)).map kV)) := by rw [key_tup]; exact hg
                refine ⟨_, rfl, _, rfl, LW, _, rfl, DGet.t (k := key (ledon t z.1 j)) hW hg', _, rfl, ?_⟩
                have sz : (100000 : Nat) < sizeLine := by decide
                by_cases mem : ledon t z.1 j ∈ GG.map Prod.fst
                · obtain ⟨wv, ev⟩ := ents_some mem
                  rw [ev]
                  refine iteF ?_
                  rw [addA_old mem] at FA3 ⊢
                  exact ⟨us', _, _, _, rfl, hF, hW, RA, FA2, kp⟩
                · rw [ents_none mem]
                  refine iteT ?_
                  rw [addA_new mem] at FA3 ⊢
                  obtain ⟨bq', e1, e2⟩ := RA.2 at' _ gm
                  have bb : bq' = bq := by
                    rw [b1] at e1
                    exact (V.ref.inj (Option.some.inj e1)).symm
                  subst bb
                  have b3 := s9 _ _ b2'
                  have GD : DGet HA LW (.ref bq') (some (.str z.2)) := by
                    have q := DGet.t (k := key z.1) hW (by rw [key_tup]; exact b3)
                    rw [d1] at q
                    exact q
                  have wl : z.2.length + (⟨#[c]⟩ : Str).length ≤ sizeLine := by
                    have : (⟨#[c]⟩ : Str).length = 1 := rfl
                    have : at' < GG.length := (List.getElem?_eq_some_iff.mp gz).1
                    omega
                  have le : (ents GG).length = GG.length := List.length_map _
                  refine ⟨_, rfl, _, rfl, _, rfl, LF, us', _, _, rfl, rfl, SqL.of hF, atI_nat b1, LW, _, rfl, GD, _, rfl, z.2, ⟨#[c]⟩, rfl, rfl, wl, _, rfl, _, rfl, LW, _, rfl, DPut.t hW hg' (by omega), ?_⟩
                  rw [put_new mem]
                  have gF : g ≠ LF := ne_of hg hF (fun z => by cases z)
                  have gW : g ≠ LW := ne_of hg hW (fun z => by cases z)
                  have hFa : (upd HA LW (.dT (ents (GG ++ [(ledon t z.1 j, z.2 ++ ⟨#[c]⟩)])))) LF = some (.lst us') := by rw [upd_ne FW]; exact hF
                  have lF : us'.length = GG.length := by rw [RA.1, List.length_map]
                  refine ⟨_, rfl, .inl ⟨rfl, _, SqL.of hFa⟩, _, rfl, LF, us', .ref g, rfl, rfl, hFa, (by omega), ?_⟩
                  refine ⟨us' ++ [.ref g], _, _, _, rfl, upd_same, ?_, ?_, FA3, ?_⟩
                  · rw [upd_ne (Ne.symm FW)]
                    exact upd_same
                  · rw [List.map_append]
                    refine (RA.to fun b ys h => ?_).snoc ?_
                    · rw [upd_ne (ne_of h hF (fun z => by cases z)), upd_ne (ne_of h hW (fun z => by cases z))]
                      exact h
                    · rw [upd_ne gF, upd_ne gW]
                      exact hg
                  · intro b o h1 h2 h
                    rw [upd_ne h1, upd_ne h2]
                    exact kp b o h1 h2 h
            · rintro σ H6 ⟨us', v1, v2, v3, rfl, hF, hW, RA, FA2, kp⟩
              rw [hmin] at hW RA FA2
              have lj := rowA_len (x := x) (r := z.1) (w := z.2) (t := t) (F := F) x.cps.size
              refine ⟨_, rfl, _, _, rfl, rfl, ⟨us', _, at' + 1, v1, v2, v3, rfl, hF, hW, RA, FA2, rowA_nodup nd _, by omega, bf2, kp⟩, ?_⟩
              show mo + 1 - (at' + 1) < mo + 1 - at'
              omega
          · have h2 : mo < F.length := by
              by_cases q : mo < F.length
              · exact q
              · exact absurd (decide_eq_true (show ((F.length : Nat) : Int) ≤ ((mo : Nat) : Int) by omega)) h2
            rw [bfsL_stop (.inr h2)] at bf
            rw [bf] at hW
            refine ⟨_, rfl, LW, _, rfl, hW, _, rfl, _, _, rfl, rfl, _, rfl, ?_⟩
            rw [le]
            refine ite2 (fun h3 => ?_) (fun h3 => ?_)
            · have h3 := of_decide_eq_true h3
              exact ⟨_, rfl, k1 (by omega) LW H5 hW nLW0 kS⟩
            · have h3 : ¬ (((bfs t x mo).length : Nat) : Int) ≤ ((mo : Nat) : Int) := fun z => h3 (decide_eq_true z)
              exact k2 (by omega) H5 kS
        · have h1 : F.length ≤ at' := by
            by_cases q : F.length ≤ at'
            · exact q
            · exact absurd (decide_eq_true (show ((at' : Nat) : Int) < ((F.length : Nat) : Int) by omega)) h1
          rw [bfsL_stop (.inl h1)] at bf
          rw [bf] at hW
          refine iteF ?_
          refine ⟨_, rfl, LW, _, rfl, hW, _, rfl, _, _, rfl, rfl, _, rfl, ?_⟩
          rw [le]
          refine ite2 (fun h3 => ?_) (fun h3 => ?_)
          · have h3 := of_decide_eq_true h3
            exact ⟨_, rfl, k1 (by omega) LW H5 hW nLW0 kS⟩
          · have h3 : ¬ (((bfs t x mo).length : Nat) : Int) ≤ ((mo : Nat) : Int) := fun z => h3 (decide_eq_true z)
            exact k2 (by omega) H5 kS
      · rintro σ H1 Q1 Q2 hq h
        obtain ⟨v1, hv1, v2, hv2, p, ys, hp, hs, i1, i2, c1, c2, b, hb, hh⟩ := h
        refine ⟨v1, hv1, v2, hv2, p, ys, hp, hs, i1, i2, c1, c2, b, hb, ?_⟩
        cases b with
        | true =>
          obtain ⟨v3, hv3, p3, ys3, hp3, hs3, v4, hv4, j1, j2, d1, d2, b2, hb2, hh⟩ := hh
          exact ⟨v3, hv3, p3, ys3, hp3, hs3, v4, hv4, j1, j2, d1, d2, b2, hb2, hq _ _ hh⟩
        | false => exact hq _ _ hh
end
end M3

set_option Elab.async false
set_option linter.all false
set_option maxRecDepth 100000
set_option maxHeartbeats 8000000
/-! # Going round: the law's own look; few actions -/
namespace M3
open PySem L2
theorem few_nats : ∀ (n : Nat) (l : List Nat), l.Nodup → (∀ x ∈ l, x < n) → l.length ≤ n
  | 0, l, _, h => by
    match l, h with
    | [], _ => exact Nat.le_refl _
    | a :: _, h => exact absurd (h a List.mem_cons_self) (Nat.not_lt_zero _)
  | n + 1, l, nd, h => by
    by_cases c : n ∈ l
    · have e := List.length_erase_of_mem c
      have q := few_nats n (l.erase n) (nd.erase n) fun x hx => by
        have hx := (nd.mem_erase_iff).mp hx
        have := h x hx.2
        have := hx.1
        omega
      omega
    · have q := few_nats n l nd fun x hx => by
        have h1 := h x hx
        by_cases e : x = n
        · rw [e] at hx
          exact absurd hx c
        · omega
      omega
/-- a way to lead up to four places, as a number -/
def code4 : List Nat → Nat
  | [] => 0
  | a :: l => a + 4 * code4 l
theorem code4_lt : ∀ {l : List Nat}, (∀ z ∈ l, z < 4) → code4 l < 4 ^ l.length
  | [], _ => by decide
  | a :: l, h => by
    have ih := code4_lt (l := l) fun z hz => h z (List.mem_cons_of_mem _ hz)
    have ha := h a List.mem_cons_self
    show a + 4 * code4 l < 4 ^ (l.length + 1)
    rw [Nat.pow_succ]
    omega
theorem code4_inj : ∀ {l k : List Nat}, l.length = k.length → (∀ z ∈ l, z < 4) → (∀ z ∈ k, z < 4) → code4 l = code4 k → l = k
  | [], [], _, _, _, _ => rfl
  | [], _ :: _, h, _, _, _ => by cases h
  | _ :: _, [], h, _, _, _ => by cases h
  | a :: l, b :: k, hl, h1, h2, e => by
    have ha := h1 a List.mem_cons_self
    have hb := h2 b List.mem_cons_self
    have e : a + 4 * code4 l = b + 4 * code4 k := e
    have e1 : a = b := by omega
    have e2 : code4 l = code4 k := by omega
    rw [e1, code4_inj (by simpa using hl) (fun z hz => h1 z (List.mem_cons_of_mem _ hz)) (fun z hz => h2 z (List.mem_cons_of_mem _ hz)) e2]
theorem few_256 {F : List (List Nat)} {n : Nat} (n4 : n ≤ 4) (nd : F.Nodup) (h : ∀ r ∈ F, (∀ z ∈ r, z < n) ∧ r.length = n) : F.length ≤ 256 := by
  have q := few_nats 256 (F.map code4) (by
    unfold List.Nodup
    rw [List.pairwise_map]
    refine List.Pairwise.imp_of_mem (fun {r s} hr hs ne e => ne ?_) nd
    obtain ⟨r1, r2⟩ := h r hr
    obtain ⟨s1, s2⟩ := h s hs
    exact code4_inj (by rw [r2, s2]) (fun z hz => Nat.lt_of_lt_of_le (r1 z hz) n4) (fun z hz => Nat.lt_of_lt_of_le (s1 z hz) n4) e) (fun x hx => by
    obtain ⟨r, hr, rfl⟩ := List.mem_map.mp hx
    obtain ⟨r1, r2⟩ := h r hr
    have q := code4_lt (l := r) fun z hz => Nat.lt_of_lt_of_le (r1 z hz) n4
    rw [r2] at q
    exact Nat.lt_of_lt_of_le q (Nat.le_trans (Nat.pow_le_pow_right (by decide) n4) (by decide)))
  rw [List.length_map] at q
  exact q
theorem bfsL_nodup {t : List (List Nat)} {x : Str} {mo : Nat} : ∀ (n i : Nat) (F : List (List Nat × Str)), (F.map Prod.fst).Nodup → ((bfsL t x mo n i F).map Prod.fst).Nodup
  | 0, _, _, h => h
  | n + 1, i, F, h => by
    show ((match F[i]? with
      | none => F
      | some z => if F.length ≤ mo then bfsL t x mo n (i + 1) (rowA t x z.1 z.2 F x.cps.size) else F).map Prod.fst).Nodup
    split
    · exact h
    · split
      · exact bfsL_nodup n (i + 1) _ (rowA_nodup h _)
      · exact h
theorem bfs_nodup {t : List (List Nat)} {x : Str} {mo : Nat} : ((bfs t x mo).map Prod.fst).Nodup := bfsL_nodup _ _ _ (by simp)
theorem bfs_few {t : List (List Nat)} {x : Str} {m : Nat} (R : RightB x t m) : (bfs t x 256).length ≤ 256 := by
  have FA := bfs_found (mo := 256) R.tb R.st R.m2
  have q := few_256 (F := (bfs t x 256).map Prod.fst) R.t4 bfs_nodup fun r hr => by
    obtain ⟨z, hz, rfl⟩ := List.mem_map.mp hr
    obtain ⟨i, hi, ei⟩ := List.getElem_of_mem hz
    obtain ⟨h1, h2, _⟩ := FA i z (by rw [List.getElem?_eq_getElem hi, ei])
    exact ⟨h1, h2⟩
  rw [List.length_map] at q
  exact q
theorem its_add {g : List Nat} {q : Nat} : ∀ {i j : Nat}, its g q i = its g q j → ∀ k, its g q (i + k) = its g q (j + k)
  | _, _, h, 0 => h
  | i, j, h, k + 1 => by
    show g.getD (its g q (i + k)) 0 = g.getD (its g q (j + k)) 0
    rw [its_add h k]
/-- what comes back does so within as many steps as there are places -/
theorem its_first {g : List Nat} {q r : Nat} (w : ∀ z ∈ g, z < g.length) (hq : q < g.length) (h : its g q r = q) (r1 : 1 ≤ r) (no : ∀ j, 1 ≤ j → j < r → its g q j ≠ q) : r ≤ g.length := by
  by_cases c : r ≤ g.length
  · exact c
  · have nd : ((List.range r).map (its g q)).Nodup := by
      unfold List.Nodup
      rw [List.pairwise_map]
      refine List.Pairwise.imp_of_mem (fun {i j} hi hj ij e => ?_) List.pairwise_lt_range
      have hi := List.mem_range.mp hi
      have hj := List.mem_range.mp hj
      have k := its_add e (r - j)
      rw [show j + (r - j) = r by omega, h] at k
      exact no (i + (r - j)) (by omega) (by omega) k
    have q := few_nats g.length _ nd fun x hx => by
      obtain ⟨i, _, rfl⟩ := List.mem_map.mp hx
      exact its_lt w hq i
    rw [List.length_map, List.length_range] at q
    exact q
theorem turnedB_yes {g : List Nat} {q c : Nat} (w : ∀ z ∈ g, z < g.length) (hq : q < g.length) (h : its g q c = q) (c1 : 1 < c) (no : ∀ j, 1 ≤ j → j < c → its g q j ≠ q) : turnedB g q = true := by
  have l := its_first w hq h (by omega) no
  unfold turnedB comesB
  have n1 : g.getD q 0 ≠ q := no 1 (Nat.le_refl _) c1
  rw [decide_eq_true n1, Bool.true_and, List.any_eq_true]
  exact ⟨c - 1, List.mem_range.mpr (by omega), decide_eq_true (by rw [show c - 1 + 1 = c by omega]; exact h)⟩
theorem turnedB_one {g : List Nat} {q : Nat} (h : its g q 1 = q) : turnedB g q = false := by
  unfold turnedB
  have h : g.getD q 0 = q := h
  rw [decide_eq_false (fun z => z h)]
  rfl
theorem turnedB_no {g : List Nat} {q : Nat} (no : ∀ j, 1 ≤ j → j ≤ g.length → its g q j ≠ q) : turnedB g q = false := by
  unfold turnedB comesB
  have e : ((List.range g.length).any fun k => decide (its g q (k + 1) = q)) = false := by
    rw [List.any_eq_false]
    intro j hj
    rw [decide_eq_true_eq]
    exact no (j + 1) (by omega) (List.mem_range.mp hj)
  rw [e, Bool.and_false]
abbrev sGoes : Stmt := top 78
abbrev nGoes : List Str := ["action", "place", "now", "count"]
theorem scGoes : FnScope nGoes ["action", "place"] (defScope sGoes) := ⟨rfl, rfl, rfl, by decide +kernel, rfl, by decide +kernel, by decide +kernel⟩
def spGoes (K : PySem.W.Frag) : Sp := fun vs H Q _ => ∃ (a : Addr) (g : List Nat) (q : Nat), vs = [.ref a, .int (q : Nat)] ∧ SqT K H a (nts g) ∧ (∀ z ∈ g, z < g.length) ∧ q < g.length ∧ Q (.bl (turnedB g q)) H
section
variable {P : Program} {w : World} {K : PySem.W.Frag} {mg : Str → Option Value} {base : Heap}
theorem ok_goes {f : Addr} {fd : FuncData} (F : Fun K "_law_goes_round" "_law_goes_round" sGoes f fd) (M : TxM mg) : FnOk P w K mg base CX0 1 f fd ["action", "place"] (spGoes K) := by
  refine F.ok scGoes (fun vs H Q E h => ?_) (fun cdv A outer s H vs Q E hr h => ?_)
  · obtain ⟨a, g, q, rfl, _⟩ := h
    rfl
  · obtain ⟨a, g, q, rfl, ha, wf, hq, k⟩ := h
    refine ⟨_, pss_cons (ps_par (i := 2) (j := 3) (by rfl) scGoes.nd rfl rfl (by decide) rfl rfl (pa_cons (pe_ix ix_tup (pv 0) (pv 1) (fun _ _ => rfl)) (pa_cons pe_int pa_nil)) (by rfl))
      (pss_cons (ps_while PassesOwn.never (PW.pt (pw_and (pt_cmpR op_ne (pv 2) (pv 1) (nomark _)) (pw_and1 (pt_cmpR op_le (pv 3) (pe_callB call_len_seq (by rfl) M.len PySem.boot_len (pa_cons (pv 0) pa_nil)) (nomark _)))))
        (pss_one (ps_par (i := 2) (j := 3) (by rfl) scGoes.nd rfl rfl (by decide) rfl rfl (pa_cons (pe_ix ix_tup (pv 0) (pv 2) (fun _ _ => rfl)) (pa_cons (pe_op op_add (pv 3) pe_int) pa_nil)) (by rfl))))
      (pss_one (ps_ret (pe_and (pe_cmpR op_eq (pv 2) (pv 1) (nomark _)) (pe_one (pe_cmpR op_gt (pv 3) pe_int (nomark _))))))), ?_⟩
    have ln : (nts g).length = g.length := nts_length g
    refine ⟨_, rfl, _, rfl, a, _, _, _, rfl, rfl, ha, nts_at' hq, _, _, rfl, ?_⟩
    refine while_by (fun σ H' => ∃ c : Nat, σ = [some (.ref a), some (.int (q : Nat)), some (.int (its g q c : Nat)), some (.int (c : Nat))] ∧ H' = H ∧ 1 ≤ c ∧ c ≤ g.length + 1 ∧ ∀ j, 1 ≤ j → j < c → its g q j ≠ q)
      (fun σ H' => match σ with | [_, _, _, some (.int i)] => g.length + 2 - i.toNat | _ => 0)
      ⟨1, rfl, rfl, Nat.le_refl _, by omega, fun j h1 h2 => absurd h2 (by omega)⟩ ?_ ?_
    · rintro σ H1 ⟨c, rfl, rfl, c1, cl, no⟩
      -- the answer behind the loop
      have ans : (its g q c = q ∨ g.length < c) → ∀ b : Bool, b = (decide (its g q c = q) && decide (1 < c)) → turnedB g q = b := fun h b e => by
        by_cases e1 : its g q c = q
        · by_cases c2 : 1 < c
          · rw [e, decide_eq_true e1, decide_eq_true c2]
            exact turnedB_yes wf hq e1 c2 no
          · have c3 : c = 1 := by omega
            subst c3
            rw [e, turnedB_one e1, decide_eq_false c2, Bool.and_false]
        · rw [e, decide_eq_false e1, Bool.false_and]
          refine turnedB_no fun j j1 jl => ?_
          rcases h with h | h
          · exact absurd h e1
          · exact no j j1 (by omega)
      have ret : (its g q c = q ∨ g.length < c) → ∀ b : Bool, b = (decide (its g q c = q) && decide (1 < c)) → Q (.bl b) H1 := fun h b e => by
        rw [← ans h b e]
        exact k
      refine ⟨_, rfl, _, rfl, rfl, _, rfl, ?_⟩
      have vi : ∀ {i j : Nat}, V.int ((i : Nat) : Int) = V.int ((j : Nat) : Int) → i = j := fun {i j} z => by
        injection z with z
        exact Int.ofNat.inj z
      by_cases e1 : its g q c = q
      · rw [e1] at ret ⊢
        rw [decide_eq_true (show V.int ((q : Nat) : Int) = V.int ((q : Nat) : Int) from rfl)]
        refine iteF (iteF ?_)
        refine ⟨_, rfl, _, rfl, rfl, _, rfl, ?_⟩
        rw [decide_eq_true (show V.int ((q : Nat) : Int) = V.int ((q : Nat) : Int) from rfl)]
        refine iteT ⟨_, rfl, _, _, rfl, rfl, ret (.inl rfl) _ ?_⟩
        rw [decide_eq_true (show q = q from rfl), Bool.true_and]
        exact decide_eq_decide.mpr (by omega)
      · have e2 : ¬ (V.int ((its g q c : Nat) : Int) = V.int ((q : Nat) : Int)) := fun z => e1 (vi z)
        rw [decide_eq_false e2]
        refine iteT ?_
        refine ⟨_, rfl, _, rfl, a, _, rfl, .inr ha, _, _, rfl, rfl, _, rfl, ?_⟩
        rw [ln]
        refine ite2 (fun h2 => ?_) (fun h2 => ?_)
        · have h2 := of_decide_eq_true h2
          refine ⟨_, rfl, _, rfl, a, _, _, _, rfl, rfl, ha, nts_at' (its_lt wf hq c), _, rfl, _, _, rfl, rfl, _, _, rfl, ⟨c + 1, rfl, rfl, by omega, by omega, fun j h1 h3 => ?_⟩, ?_⟩
          · by_cases e : j = c
            · rw [e]
              exact e1
            · exact no j h1 (by omega)
          · show g.length + 2 - ((c : Int) + 1).toNat < g.length + 2 - ((c : Nat) : Int).toNat
            omega
        · have h2 : ¬ ((c : Nat) : Int) ≤ ((g.length : Nat) : Int) := fun z => h2 (decide_eq_true z)
          refine ⟨_, rfl, _, rfl, rfl, _, rfl, ?_⟩
          rw [decide_eq_false e2]
          refine iteF (ret (.inr (by omega)) _ ?_)
          rw [decide_eq_false e1]
          rfl
    · rintro σ H1 Q1 Q2 hq h
      obtain ⟨v1, hv1, v2, hv2, c, b, hb, hh⟩ := h
      refine ⟨v1, hv1, v2, hv2, c, b, hb, ?_⟩
      cases b with
      | true =>
        obtain ⟨v3, hv3, v4, hv4, p3, ys3, hp3, hs3, j1, j2, d1, d2, b2, hb2, hh⟩ := hh
        exact ⟨v3, hv3, v4, hv4, p3, ys3, hp3, hs3, j1, j2, d1, d2, b2, hb2, hq _ _ hh⟩
      | false => exact hq _ _ hh
end
end M3

set_option Elab.async false
set_option linter.all false
set_option maxRecDepth 100000
set_option maxHeartbeats 8000000
/-! # The first turn: the law's own, and the one that is told -/
namespace M3
open PySem L2
abbrev sFirstT : Stmt := top 79
abbrev nFirstT : List Str := ["table", "letters", "found", "action", "spots", "place"]
theorem scFirstT : FnScope nFirstT ["table", "letters"] (defScope sFirstT) := ⟨rfl, rfl, rfl, by decide +kernel, rfl, by decide +kernel, by decide +kernel⟩
/-- what is told of the first turn: None, or a pair -/
def TurnIs (K : PySem.W.Frag) (H H' : Hp) (o : Option (Str × Nat)) (v : V) : Prop := match o with
  | none => v = .non
  | some (y, q) => ∃ T : Addr, v = .ref T ∧ SqT K H' T [.str y, .int (q : Nat)]
def spFirstT (K : PySem.W.Frag) : Sp := fun vs H Q _ => ∃ (a : Addr) (x : Str) (us : List V) (t : List (List Nat)) (m : Nat), vs = [.ref a, .str x] ∧ SqL K H a us ∧ Tups K H us t ∧ RightB x t m ∧
  ∀ (v : V) (H' : Hp), TurnIs K H H' (among (bfs t x 256)) v → Same H H' → Q v H'
/-- GoesRound, raised and caught -/
structure TxG (P : Program) (K : PySem.W.Frag) (mg : Str → Option Value) (c : Addr) : Prop where
  a : TxA P K mg "GoesRound" "turn" c
  xf : XfC K c
  nf : PySem.W.findIn K (.ref c) "turn" = some none
section
variable {P : Program} {w : World} {K : PySem.W.Frag} {mg : Str → Option Value} {base : Heap} {C cG : Addr}
theorem filter_find {p : Nat → Bool} {n : Nat} : ((List.range n).filter p).head? = (List.range n).find? p := by
  rw [List.head?_filter]
theorem shaped_lN (es : List Nat) : SeqAt.shaped (.list (es.map fun n => .int ((n : Nat) : Int))) = true := by
  unfold SeqAt.shaped
  have h1 : (PyData.list (es.map fun n => .int ((n : Nat) : Int))).canLay0 = true := by
    simp only [PyData.canLay0, lay_nats]
  have h2 : (PyData.list (es.map fun n => .int ((n : Nat) : Int))).depth ≤ 64 := by
    simp only [PyData.depth, dep_nats]
    omega
  rw [h1, decide_eq_true h2]
  rfl
theorem shaped_l0 : SeqAt.shaped (.list []) = true := shaped_lN []
theorem eqv_l0 (es : List Nat) : (PyData.list (es.map fun n => .int ((n : Nat) : Int))).eqv (.list []) = decide (es = []) := by
  have q := eqv_nats es []
  rw [PyData.eqv]
  exact q
theorem ok_firstt {f : Addr} {fd : FuncData} (F : Fun K "_law_first_turn" "_law_first_turn" sFirstT f fd) (cA : FnC P w K mg base 1 "_law_actions" ["table", "letters", "most"] (spLawActs K)) (cG : FnC P w K mg base 1 "_law_goes_round" ["action", "place"] (spGoes K)) (M : TxM mg) :
    FnOk P w K mg base CX0 2 f fd ["table", "letters"] (spFirstT K) := by
  refine F.ok scFirstT (fun vs H Q E h => ?_) (fun cdv A outer s H vs Q E hr h => ?_)
  · obtain ⟨a, x, us, t, m, rfl, _⟩ := h
    rfl
  · obtain ⟨a, x, us, t, m, rfl, ha, hT, R, k⟩ := h
    have hu := hu_of hr
    refine ⟨_, pss_cons (ps_set (i := 2) scFirstT.nd rfl (Or.inl rfl) (pe_call cA.G hr rfl cA.m cA.kp cA.b .nil pass0 (pa_cons (pv 0) (pa_cons (pv 1) (pa_cons pe_int pa_nil)))))
      (pss_cons (ps_lock (ps_for PassesOwn.never rfl (pi_keys (pv 2)) (pg_name (i := 3) scFirstT.nd rfl (Or.inr rfl))
        (pss_cons (ps_setLc (i := 4) (own := [("place", 5)]) (g := gName 5) (tt := tTest (tCall (spGoes K) [] E0 (tCons (tVar 3) (tCons (tVar 5) tNil)))) (te := tVar 5) rfl scFirstT.nd rfl rfl (by rfl) (pi_range1 rfl M.range (pa_cons (pe_callB call_len_seq (by rfl) M.len PySem.boot_len (pa_cons (pv 0) pa_nil)) pa_nil)) (blkOk_by (N := nFirstT) (sc := defScope sFirstT) (by decide +kernel)) (fun _ _ _ _ _ => pg_name (i := 5) scFirstT.nd rfl (Or.inl rfl))
            (fun _ _ _ _ _ => pts_one (pt_val (pe_call cG.G hr rfl cG.m cG.kp cG.b .nil pass0 (pa_cons (pv 3) (pa_cons (pv 5) pa_nil))))) (fun _ _ _ _ _ => pv 5))
        (pss_one (ps_if (pt_cmpR (op_neD hr.units) (pv 4) (pe_lst pa_nil) (nomark _)) (pss_one (ps_ret (pe_tup (pa_cons (pe_dget hu (pv 2) (pv 3) (fun _ _ => rfl)) (pa_cons (pe_ix ix_list (pv 4) pe_int (fun _ _ => rfl)) pa_nil))))) pss_nil)))))
      (pss_one (ps_ret pe_non))), ?_⟩
    have few := bfs_few R
    have FA := bfs_found (mo := 256) R.tb R.st R.m2
    have nd : ((bfs t x 256).map Prod.fst).Nodup := bfs_nodup
    refine ⟨_, rfl, _, rfl, a, x, us, t, m, 256, rfl, ha, hT, R.tb, R.st, R.m2, (by have := R.t4; omega), by decide, fun _ D H1 hD nD s1 => ?_, fun z => absurd z (by omega)⟩
    unfold among at k
    generalize bfs t x 256 = F at hD k FA nd few
    refine ⟨D, _, hD, trivial, fun od => ?_⟩
    have lE : (ents F).length = F.length := List.length_map _
    have sD : Same H (upd H1 D (.frz od (.dT (ents F)))) := fun b o h => by
      rw [upd_ne (ne_of_none h nD)]
      exact s1 _ _ h
    refine ⟨_, rfl, D, od, rfl, .inr ⟨ents F, upd_same, for_it (walk_keysT (d := D) (o := od) (kvs := ents F)) (fun i σ H' => ∃ v3 v4 v5, σ = [some (.ref a), some (.str x), some (.ref D), v3, v4, v5] ∧ Same (upd H1 D (.frz od (.dT (ents F)))) H' ∧ (F.take i).findSome? (fun z => (turned z.1).map fun q => (z.2, q)) = none)
      ⟨_, _, _, rfl, Same.refl _, by rw [List.take_zero]; rfl⟩ (fun i σ H' _ h => ?_) ?_ ?_⟩⟩
    · obtain ⟨v3, v4, v5, _, s2, _⟩ := h
      exact s2 _ _ upd_same
    · rintro i v σ H2 H3 hi ⟨v3, v4, v5, rfl, s2, no⟩ ⟨rfl, kk, vv, q, hk, rfl, hq⟩
      rw [lE] at hi
      have hz : F[i]? = some F[i] := List.getElem?_eq_getElem hi
      generalize F[i] = z at hz
      have ek : (kk, vv) = (key z.1, V.str z.2) := by
        unfold ents at hk
        rw [List.getElem?_map, hz] at hk
        exact (Option.some.inj hk).symm
      cases ek
      obtain ⟨w1, w2, _⟩ := FA i z hz
      have sH := sD.trans s2
      have lu : us.length = t.length := hT.1
      refine ⟨_, rfl, a, us, rfl, .inl (sH.seq ha), ?_⟩
      rw [lu]
      have t4 := R.t4
      refine ⟨_, rfl, by omega, by omega, fun G nG => ?_⟩
      have en : (((t.length : Nat) : Int)).toNat = t.length := by omega
      refine lc_range (lo := 0) (n := ((t.length : Nat) : Int).toNat) (fun j H9 => H9 G = some (.lst (nts ((List.range j).filter (turnedB z.1)))) ∧ ∀ b o, b ≠ G → H3 b = some o → H9 b = some o)
        ⟨upd_same, fun b o hb h => keep_new h nG⟩ ?_ ?_
      · rintro j H9 hj ⟨q1, q2⟩
        have hj : j < t.length := by omega
        have s9 : Same H3 H9 := fun b o h => q2 b o (ne_of_none h nG) h
        refine ⟨rfl, ?_⟩
        rw [key_tup] at hq
        have ej : (0 : Int) + (j : Int) = (j : Int) := Int.zero_add _
        refine ⟨_, rfl, _, rfl, q, z.1, j, by rw [show (0 : Int) + (j : Int) = ((j : Nat) : Int) by omega]; rfl, SqT.of (s9 _ _ hq), fun y hy => by rw [w2]; exact w1 y hy, by rw [w2]; exact hj, _, rfl, ?_⟩
        rw [List.range_succ, List.filter_append]
        cases b : turnedB z.1 j with
        | true =>
          refine iteT ?_
          refine ⟨_, rfl, _, q1, ?_, ?_, fun b' o hb' h => by rw [upd_ne hb']; exact q2 b' o hb' h⟩
          · rw [nts_length]
            exact Nat.lt_of_le_of_lt (Nat.le_trans (List.length_filter_le _ _) (by rw [List.length_range]; omega)) (show 4 < sizeLine by decide)
          · have e1 : [j].filter (turnedB z.1) = [j] := by simp [b]
            rw [upd_same, ej, e1]
            unfold nts
            rw [List.map_append]
            rfl
        | false =>
          refine iteF ?_
          refine ⟨?_, q2⟩
          simpa [b] using q1
      · rintro H9 ⟨q1, q2⟩
        rw [en] at q1
        have s9 : Same H3 H9 := fun b o h => q2 b o (ne_of_none h nG) h
        have ft : (List.range t.length).find? (turnedB z.1) = turned z.1 := by
          unfold turned
          rw [w2]
        have hd := filter_find (p := turnedB z.1) (n := t.length)
        rw [ft] at hd
        generalize (List.range t.length).filter (turnedB z.1) = spots at q1 hd
        have et : (F.take (i + 1)).findSome? (fun z => (turned z.1).map fun q => (z.2, q)) = (turned z.1).map fun q => (z.2, q) := by
          rw [take_snoc hz, List.findSome?_append, no]
          simp
        have sL := s9
        refine ⟨_, rfl, (by show 0 ≤ sizeLine; decide), fun L nL => ⟨.list (spots.map fun n => .int ((n : Nat) : Int)), .list [], .lst (SqL.of (keep_new q1 nL)) (dp_nats spots), .lst (SqL.of upd_same) .nil, shaped_lN spots, shaped_l0, _, rfl, ?_⟩⟩
        rw [eqv_l0]
        have sHL : Same (upd H1 D (.frz od (.dT (ents F)))) (upd H9 L (.lst [])) := Same.new (s2.trans s9) nL
        have g1 : (upd H9 L (.lst [])) G = some (.lst (nts spots)) := keep_new q1 nL
        have hqL : (upd H9 L (.lst [])) q = some (.tup ((key z.1).map kV)) := keep_new (s9 _ _ hq) nL
        generalize upd H9 L (.lst []) = HL at sHL g1 hqL ⊢
        match spots, hd with
        | [], hd =>
          rw [decide_eq_true (show ([] : List Nat) = [] from rfl)]
          refine iteF ⟨_, _, _, rfl, sHL, ?_⟩
          rw [et, ← hd]
          rfl
        | r :: rest, hd =>
          rw [decide_eq_false (show ¬ (r :: rest = []) from fun z => by cases z)]
          refine iteT ?_
          have hd : some r = turned z.1 := hd
          have hA : F.findSome? (fun z => (turned z.1).map fun q => (z.2, q)) = some (z.2, r) := by
            rw [← List.take_append_drop (i + 1) F, List.findSome?_append, et, ← hd]
            rfl
          have hDL := sHL _ _ upd_same
          have GD : DGet HL D (.ref q) (some (.str z.2)) := by
            refine .inr ⟨ents F, key z.1, q, .inr ⟨od, hDL⟩, rfl, hqL, ?_⟩
            exact (ents_at nd hz).symm
          refine ⟨_, rfl, _, rfl, D, _, rfl, GD, _, rfl, G, _, _, _, rfl, rfl, SqL.of g1, atI_nat (j := 0) (v := V.int (r : Nat)) rfl, (by show 2 ≤ sizeLine; decide), fun T nT => ?_⟩
          have sT := Same.new (u := .tup [.str z.2, .int (r : Nat)]) sHL nT
          have hT2 : (upd HL T (.tup [.str z.2, .int (r : Nat)])) T = some (.tup [.str z.2, .int (r : Nat)]) := upd_same
          generalize upd HL T (.tup [.str z.2, .int (r : Nat)]) = HT at sT hT2 ⊢
          have TD : T ≠ D := ne_of hT2 (sT _ _ upd_same) (fun z => by cases z)
          refine ⟨sT _ _ upd_same, k (.ref T) _ ?_ (fun b o h => ?_)⟩
          · rw [hA]
            exact ⟨T, rfl, SqT.of (by rw [upd_ne TD]; exact hT2)⟩
          · have bD : b ≠ D := ne_of_none h nD
            rw [upd_ne bD]
            exact sT _ _ (by rw [upd_ne bD]; exact s1 _ _ h)
    · rintro σ H2 ⟨v3, v4, v5, rfl, s2, no⟩
      rw [lE, List.take_of_length_le (Nat.le_refl _)] at no
      refine ⟨s2 _ _ upd_same, k .non _ ?_ (fun b o h => ?_)⟩
      · rw [no]
        rfl
      · have bD : b ≠ D := ne_of_none h nD
        rw [upd_ne bD]
        exact s2 _ _ (by rw [upd_ne bD]; exact s1 _ _ h)
end
end M3

set_option Elab.async false
set_option linter.all false
set_option maxRecDepth 100000
set_option maxHeartbeats 8000000
/-! # Short words -/
namespace M3
open PySem L2
def ext (x w : Str) : List Str := x.cps.toList.map fun c => w ++ (⟨#[c]⟩ : Str)
def lay (x : Str) : Nat → List Str
  | 0 => [""]
  | n + 1 => (lay x n).flatMap (ext x)
def shortW (x : Str) : Nat → List Str
  | 0 => [""]
  | n + 1 => shortW x n ++ lay x (n + 1)
theorem codes_empty : ("" : Str).cps.toList = [] := by decide +kernel
theorem lay_len {x : Str} : ∀ (n : Nat) (w : Str), w ∈ lay x n → w.cps.toList.length = n ∧ IsW x w
  | 0, w, h => by
    rw [List.mem_singleton.mp h, codes_empty]
    exact ⟨rfl, fun c hc => by rw [codes_empty] at hc; cases hc⟩
  | n + 1, w, h => by
    obtain ⟨u, hu, hw⟩ := List.mem_flatMap.mp h
    obtain ⟨l1, l2⟩ := lay_len n u hu
    obtain ⟨c, hc, rfl⟩ := List.mem_map.mp hw
    have sn := snoc_cps u c
    refine ⟨by rw [sn, List.length_append, l1]; rfl, fun d hd => ?_⟩
    rw [sn] at hd
    rcases List.mem_append.mp hd with q | q
    · exact l2 d q
    · rw [List.mem_singleton.mp q]
      exact hc
theorem str_ext {a b : Str} (h : a.cps.toList = b.cps.toList) : a = b := by
  cases a with
  | mk a =>
    cases b with
    | mk b =>
      have h : a.toList = b.toList := h
      rw [Array.toList_inj] at h
      rw [h]
theorem lay_all {x : Str} : ∀ (n : Nat) (w : List Nat), w.length = n → (∀ c ∈ w, c ∈ x.cps.toList) → ∃ u ∈ lay x n, u.cps.toList = w
  | 0, w, h, _ => ⟨"", List.mem_cons_self, by rw [codes_empty, List.eq_nil_of_length_eq_zero h]⟩
  | n + 1, w, h, hw => by
    have ne : w ≠ [] := fun e => by rw [e] at h; cases h
    have ew := List.dropLast_concat_getLast ne
    obtain ⟨u, hu, eu⟩ := lay_all n w.dropLast (by rw [List.length_dropLast]; omega) (fun c hc => hw c ((List.dropLast_sublist w).subset hc))
    refine ⟨u ++ (⟨#[w.getLast ne]⟩ : Str), List.mem_flatMap.mpr ⟨u, hu, List.mem_map.mpr ⟨_, hw _ (List.getLast_mem ne), rfl⟩⟩, ?_⟩
    rw [snoc_cps, eu]
    exact ew
theorem short_mem {x : Str} {w : Str} : ∀ {n : Nat}, w ∈ shortW x n → ∃ k, k ≤ n ∧ w ∈ lay x k
  | 0, h => ⟨0, Nat.le_refl _, h⟩
  | n + 1, h => by
    rcases List.mem_append.mp h with h | h
    · obtain ⟨k, hk, h⟩ := short_mem h
      exact ⟨k, by omega, h⟩
    · exact ⟨n + 1, Nat.le_refl _, h⟩
theorem mem_short {x : Str} {w : Str} {k : Nat} : ∀ {n : Nat}, k ≤ n → w ∈ lay x k → w ∈ shortW x n
  | 0, h, hw => by
    have e : k = 0 := by omega
    subst e
    exact hw
  | n + 1, h, hw => by
    by_cases e : k = n + 1
    · subst e
      exact List.mem_append_right _ hw
    · exact List.mem_append_left _ (mem_short (by omega) hw)
theorem short_all {x : Str} {n : Nat} {w : Str} (hw : IsW x w) (hl : w.cps.toList.length ≤ n) : w ∈ shortW x n := by
  obtain ⟨u, hu, eu⟩ := lay_all _ w.cps.toList rfl hw
  rw [str_ext eu] at hu
  exact mem_short hl hu
def LessS (a b : Str) : Prop := lessW a.cps.toList b.cps.toList
theorem lay_ord {x : Str} (asc : Asc x) : ∀ n, (lay x n).Pairwise LessS
  | 0 => List.pairwise_singleton _ _
  | n + 1 => by
    have ih := lay_ord asc n
    have len := lay_len (x := x) n
    show ((lay x n).flatMap (ext x)).Pairwise LessS
    rw [List.flatMap_def, List.pairwise_flatten]
    refine ⟨fun l hl => ?_, ?_⟩
    · obtain ⟨u, hu, rfl⟩ := List.mem_map.mp hl
      unfold ext
      rw [List.pairwise_map, List.pairwise_iff_getElem]
      intro i j hi hj ij
      unfold LessS
      rw [snoc_cps, snoc_cps]
      exact lessW_same (asc i j _ _ ij (List.getElem?_eq_getElem hi) (List.getElem?_eq_getElem hj))
    · rw [List.pairwise_map]
      refine ih.imp fun {u v} h a ha b hb => ?_
      obtain ⟨c, hc, rfl⟩ := List.mem_map.mp ha
      obtain ⟨d, hd, rfl⟩ := List.mem_map.mp hb
      unfold LessS
      rw [snoc_cps, snoc_cps]
      exact lessW_snoc h
theorem short_ord {x : Str} (asc : Asc x) : ∀ n, (shortW x n).Pairwise LessS
  | 0 => List.pairwise_singleton _ _
  | n + 1 => by
    show (shortW x n ++ lay x (n + 1)).Pairwise LessS
    rw [List.pairwise_append]
    refine ⟨short_ord asc n, lay_ord asc (n + 1), fun a ha b hb => ?_⟩
    obtain ⟨k, hk, ha⟩ := short_mem ha
    have la := (lay_len k a ha).1
    have lb := (lay_len (n + 1) b hb).1
    exact .inl (by omega)
/-- a word that goes round first -/
def hasTurn (t : List (List Nat)) (x : Str) (w : Str) : Option Nat := turned (act t x w.cps.toList)
theorem among_spec {t : List (List Nat)} {x : Str} {m : Nat} (R : RightB x t m) {y : Str} {q : Nat} (h : among (bfs t x 256) = some (y, q)) : IsW x y ∧ hasTurn t x y = some q ∧ ∀ w : Str, IsW x w → (hasTurn t x w).isSome → y = w ∨ LessS y w := by
  have FA := bfs_found (mo := 256) R.tb R.st R.m2
  have few := bfs_few R
  have ord := (bfs_stage (asc_of R.st) few).ord
  have fst := fun w => bfs_first R.st few (t := t) (x := x) _ w rfl
  unfold among at h
  obtain ⟨l1, z, l2, e, hz, no⟩ := List.findSome?_eq_some_iff.mp h
  cases ht : turned z.1 with
  | none =>
    rw [ht] at hz
    cases hz
  | some r =>
    rw [ht] at hz
    have hz : some (z.2, r) = some (y, q) := hz
    injection hz with hz
    injection hz with hz1 hz2
    subst hz1 hz2
    have ez : (bfs t x 256)[l1.length]? = some z := by
      rw [e, List.getElem?_append_right (Nat.le_refl _), Nat.sub_self]
      rfl
    obtain ⟨w1, w2, w3, w4, w5⟩ := FA _ z ez
    refine ⟨w3, ?_, fun w hw hs => ?_⟩
    · unfold hasTurn
      rw [← w4]
      exact ht
    · obtain ⟨u, hu, e1, e2⟩ := fst w.cps.toList hw
      obtain ⟨j, hj, ej⟩ := List.getElem_of_mem hu
      have ej' : (bfs t x 256)[j]? = some u := by rw [List.getElem?_eq_getElem hj, ej]
      have lj : l1.length ≤ j := by
        by_cases c : l1.length ≤ j
        · exact c
        · exfalso
          have c : j < l1.length := by omega
          have hu1 : u ∈ l1 := by
            rw [e, List.getElem?_append_left c] at ej'
            exact List.mem_of_getElem? ej'
          have n1 := no u hu1
          unfold hasTurn at hs
          rw [← e1] at hs
          cases hc : turned u.1 with
          | none =>
            rw [hc] at hs
            cases hs
          | some r2 =>
            rw [hc] at n1
            cases n1
      have zu : codes z = codes u ∨ lessW (codes z) (codes u) := by
        by_cases c : l1.length = j
        · rw [← c, ez] at ej'
          cases ej'
          exact .inl rfl
        · exact .inr (ord _ _ z u (by omega) ez ej')
      rcases lessW_le (d := []) zu e2 with q | q
      · exact .inl (str_ext q)
      · exact .inr q
theorem among_none {t : List (List Nat)} {x : Str} {m : Nat} (R : RightB x t m) (h : among (bfs t x 256) = none) {w : Str} (hw : IsW x w) : hasTurn t x w = none := by
  have few := bfs_few R
  have q := bfs_all R.st R.m2 few (t := t) _ w.cps.toList rfl hw
  obtain ⟨z, hz, ez⟩ := List.mem_map.mp q
  unfold among at h
  have n := List.findSome?_eq_none_iff.mp h z hz
  unfold hasTurn
  rw [← ez]
  cases hc : turned z.1 with
  | none => rfl
  | some r =>
    rw [hc] at n
    cases n
/-- the first short word that goes round is the one that is told -/
theorem short_first {t : List (List Nat)} {x : Str} {m n i r : Nat} (R : RightB x t m) {w : Str} (hi : (shortW x n)[i]? = some w) (no : ∀ (j : Nat) (u : Str), j < i → (shortW x n)[j]? = some u → hasTurn t x u = none) (h : hasTurn t x w = some r) : among (bfs t x 256) = some (w, r) := by
  obtain ⟨k, hk, hwk⟩ := short_mem (List.mem_of_getElem? hi)
  obtain ⟨lw, hw⟩ := lay_len k w hwk
  cases ha : among (bfs t x 256) with
  | none =>
    rw [among_none R ha hw] at h
    cases h
  | some yq =>
    obtain ⟨y, q⟩ := yq
    obtain ⟨h1, h2, h3⟩ := among_spec R ha
    rcases h3 w hw (by rw [h]; rfl) with e | e
    · subst e
      rw [h2] at h
      rw [Option.some.inj h]
    · exfalso
      have ly : y.cps.toList.length ≤ n := by
        rcases e with e | ⟨e, _⟩ <;> omega
      obtain ⟨j, hj, ej⟩ := List.getElem_of_mem (short_all (n := n) h1 ly)
      have ej' : (shortW x n)[j]? = some y := by rw [List.getElem?_eq_getElem hj, ej]
      have P := List.pairwise_iff_getElem.mp (short_ord (asc_of R.st) n)
      by_cases c : j < i
      · rw [no j y c ej'] at h2
        cases h2
      · by_cases c2 : i = j
        · subst c2
          rw [hi] at ej'
          cases ej'
          exact lessW_irrefl e
        · obtain ⟨hi1, hi2⟩ := List.getElem?_eq_some_iff.mp hi
          have q := P i j hi1 hj (by omega)
          rw [hi2, ej] at q
          exact lessW_irrefl (lessW_trans e q)
theorem short_none {t : List (List Nat)} {x : Str} {m n : Nat} (R : RightB x t m) (no : ∀ u ∈ shortW x n, hasTurn t x u = none) {y : Str} {q : Nat} (h : among (bfs t x 256) = some (y, q)) : n < y.cps.toList.length := by
  obtain ⟨h1, h2, _⟩ := among_spec R h
  by_cases c : n < y.cps.toList.length
  · exact c
  · rw [no y (short_all h1 (by omega))] at h2
    cases h2
theorem its_iter {t : List (List Nat)} {x y : Str} {m q : Nat} (R : RightB x t m) (hw : IsW x y) (hq : q < t.length) : ∀ k, its (act t x y.cps.toList) q k = iter t x y q k
  | 0 => rfl
  | k + 1 => by
    have hm : x.cps.toList.length = m := by
      have := set_len R.st
      simpa [Str.length] using this
    have il := iter_lt (q0 := q) R.tb hm hq hw k
    show (act t x y.cps.toList).getD (its (act t x y.cps.toList) q k) 0 = goes t x (iter t x y q k) y.cps.toList
    rw [its_iter R hw hq k]
    unfold act
    simp [List.getD, List.getElem?_eq_getElem, il]
/-- where nothing goes round, all comes to rest -/
theorem its_rest {g : List Nat} {q : Nat} (w : ∀ z ∈ g, z < g.length) (hq : q < g.length) (no : turned g = none) : its g q (g.length + 1) = its g q g.length := by
  have nt : ∀ r, r < g.length → turnedB g r = false := fun r hr => by
    unfold turned at no
    have := List.find?_eq_none.mp no r (List.mem_range.mpr hr)
    simpa using this
  have ex : ∃ i j, i < j ∧ j ≤ g.length ∧ its g q i = its g q j := by
    apply Classical.byContradiction
    intro h
    have nd : ((List.range (g.length + 1)).map (its g q)).Nodup := by
      unfold List.Nodup
      rw [List.pairwise_map]
      refine List.Pairwise.imp_of_mem (fun {i j} hi hj ij e => ?_) List.pairwise_lt_range
      have hj := List.mem_range.mp hj
      exact h ⟨i, j, ij, by omega, e⟩
    have c := few_nats g.length _ nd fun x hx => by
      obtain ⟨i, _, rfl⟩ := List.mem_map.mp hx
      exact its_lt w hq i
    rw [List.length_map, List.length_range] at c
    omega
  obtain ⟨i, j, ij, jl, e⟩ := ex
  have split : ∀ k, its g (its g q i) k = its g q (i + k) := fun k => by
    induction k with
    | zero => rfl
    | succ k ih =>
      show g.getD (its g (its g q i) k) 0 = g.getD (its g q (i + k)) 0
      rw [ih]
  have hr := its_lt w hq i
  have back : its g (its g q i) (j - i) = its g q i := by
    rw [split, show i + (j - i) = j by omega, e]
  have fx : g.getD (its g q i) 0 = its g q i := by
    have n := nt _ hr
    unfold turnedB comesB at n
    have c : ((List.range g.length).any fun k => decide (its g (its g q i) (k + 1) = its g q i)) = true := by
      rw [List.any_eq_true]
      exact ⟨j - i - 1, List.mem_range.mpr (by omega), decide_eq_true (by rw [show j - i - 1 + 1 = j - i by omega]; exact back)⟩
    rw [c, Bool.and_true] at n
    have := of_decide_eq_false n
    exact Classical.not_not.mp this
  have con : ∀ k, its g q (i + k) = its g q i := fun k => by
    induction k with
    | zero => rfl
    | succ k ih =>
      show g.getD (its g q (i + k)) 0 = its g q i
      rw [ih, fx]
  have a := con (g.length - i)
  have b := con (g.length + 1 - i)
  rw [show i + (g.length - i) = g.length by omega] at a
  rw [show i + (g.length + 1 - i) = g.length + 1 by omega] at b
  rw [a, b]
theorem ext_len (x w : Str) : (ext x w).length = x.length := by
  unfold ext
  rw [List.length_map]
  simp [Str.length]
theorem lay_card {x : Str} (hx : x.length ≤ 2) : ∀ n, (lay x n).length ≤ 2 ^ n
  | 0 => Nat.le_refl _
  | n + 1 => by
    have ih := lay_card hx n
    show ((lay x n).flatMap (ext x)).length ≤ _
    rw [List.length_flatMap]
    have : ((lay x n).map fun w => (ext x w).length).sum ≤ (lay x n).length * 2 := by
      generalize lay x n = l
      induction l with
      | nil => exact Nat.zero_le _
      | cons w l ih =>
        rw [List.map_cons, List.sum_cons, ext_len, List.length_cons]
        omega
    rw [Nat.pow_succ]
    omega
theorem short_card {x : Str} (hx : x.length ≤ 2) : ∀ n, (shortW x n).length ≤ 2 ^ (n + 1)
  | 0 => by
    show 1 ≤ 2 ^ 1
    decide
  | n + 1 => by
    have ih := short_card hx n
    have l := lay_card hx (n + 1)
    show (shortW x n ++ lay x (n + 1)).length ≤ _
    rw [List.length_append, Nat.pow_succ]
    omega
theorem pow_le5 {n : Nat} (h : n ≤ 6) : 2 ^ n ≤ 64 := Nat.le_trans (Nat.pow_le_pow_right (by decide) h) (by decide)
theorem flat_snoc {x : Str} {l : List Str} {i : Nat} {w : Str} (h : l[i]? = some w) : (l.take (i + 1)).flatMap (ext x) = (l.take i).flatMap (ext x) ++ ext x w := by
  rw [take_snoc h, List.flatMap_append]
  simp
section
variable {P : Program} {w : World} {K : PySem.W.Frag} {mg : Str → Option Value} {base : Heap}
end
end M3

set_option Elab.async false
set_option linter.all false
set_option maxRecDepth 100000
set_option maxHeartbeats 8000000
/-! # Boxes as values: the fields, a box called, its action, ==, str -/
namespace M3
open PySem L2 NdefX
abbrev sBLet : Stmt := inClass (top 62) 3
abbrev sBTab : Stmt := inClass (top 62) 4
abbrev sBCall : Stmt := inClass (top 62) 5
abbrev sBAct : Stmt := inClass (top 62) 7
abbrev sBEq : Stmt := inClass (top 62) 14
abbrev sBStr : Stmt := inClass (top 62) 15
abbrev sBChk : Stmt := inClass (top 62) 16
theorem scBLet : FnScope ["self"] ["self"] (defScope sBLet) := ⟨rfl, rfl, rfl, by decide +kernel, rfl, by decide +kernel, by decide +kernel⟩
theorem scBTab : FnScope ["self"] ["self"] (defScope sBTab) := ⟨rfl, rfl, rfl, by decide +kernel, rfl, by decide +kernel, by decide +kernel⟩
theorem scBCall : FnScope ["self", "word"] ["self", "word"] (defScope sBCall) := ⟨rfl, rfl, rfl, by decide +kernel, rfl, by decide +kernel, by decide +kernel⟩
theorem scBAct : FnScope ["self", "word"] ["self", "word"] (defScope sBAct) := ⟨rfl, rfl, rfl, by decide +kernel, rfl, by decide +kernel, by decide +kernel⟩
theorem scBEq : FnScope ["self", "other"] ["self", "other"] (defScope sBEq) := ⟨rfl, rfl, rfl, by decide +kernel, rfl, by decide +kernel, by decide +kernel⟩
theorem scBStr : FnScope ["self"] ["self"] (defScope sBStr) := ⟨rfl, rfl, rfl, by decide +kernel, rfl, by decide +kernel, by decide +kernel⟩
theorem scBChk : FnScope ["self", "word"] ["self", "word"] (defScope sBChk) := ⟨rfl, rfl, rfl, by decide +kernel, rfl, by decide +kernel, by decide +kernel⟩
theorem kbc1 : ¬ (("_check" : Str) = "_table") := by decide +kernel
theorem kbc2 : ¬ (("_check" : Str) = "_letters") := by decide +kernel
theorem flb_chk {x : Str} {a : Addr} : (flB x a).lookup ("_check" : Str) = none := by
  unfold flB
  rw [lookup_putF, if_neg kbc1, lookup_putF, if_neg kbc2]
  rfl
theorem kba1 : ¬ (("action" : Str) = "_table") := by decide +kernel
theorem kba2 : ¬ (("action" : Str) = "_letters") := by decide +kernel
theorem flb_act {x : Str} {a : Addr} : (flB x a).lookup ("action" : Str) = none := by
  unfold flB
  rw [lookup_putF, if_neg kba1, lookup_putF, if_neg kba2]
  rfl
theorem BoxAt.ext {K : PySem.W.Frag} {C p : Addr} {H H' : Hp} {x : Str} {t : List (List Nat)} (h : BoxAt K C H p x t) (s : LamX.ExtN H H') : BoxAt K C H' p x t := by
  obtain ⟨dx, a, us, h1, h2, h3⟩ := h
  exact ⟨dx, a, us, exn_at s h1, sqt_ext s h2, h3.ext s⟩
def spBLet (K : PySem.W.Frag) (C : Addr) : Sp := fun vs H Q _ => ∃ (p : Addr) (x : Str) (t : List (List Nat)), vs = [.ref p] ∧ BoxAt K C H p x t ∧ Q (.str x) H
def spBTab (K : PySem.W.Frag) (C : Addr) : Sp := fun vs H Q _ => ∃ (p : Addr) (x : Str) (t : List (List Nat)), vs = [.ref p] ∧ BoxAt K C H p x t ∧ ∀ (a : Addr) (us : List V), SqT K H a us → Tups K H us t → Q (.ref a) H
def spBChk (K : PySem.W.Frag) (C : Addr) : Sp := fun vs H Q _ => ∃ (p : Addr) (x y : Str) (t : List (List Nat)) (m : Nat), vs = [.ref p, .str y] ∧ BoxAt K C H p x t ∧ RightB x t m ∧ IsW x y ∧ y.length ≤ 1000000 ∧ ∀ H' : Hp, Same H H' → Q .non H'
def spBCall (K : PySem.W.Frag) (C : Addr) : Sp := fun vs H Q _ => ∃ (p : Addr) (x y : Str) (t : List (List Nat)) (m : Nat), vs = [.ref p, .str y] ∧ BoxAt K C H p x t ∧ RightB x t m ∧ IsW x y ∧ y.length ≤ 1000000 ∧ ∀ H' : Hp, Same H H' → Q (.int ((goes t x 0 y.cps.toList : Nat) : Int)) H'
def spBAct (K : PySem.W.Frag) (T : List NTab) (C : Addr) : Sp := fun vs H Q _ => ∃ (p : Addr) (x y : Str) (t : List (List Nat)) (m : Nat), vs = [.ref p, .str y] ∧ BoxAt K C H p x t ∧ RightB x t m ∧ IsW x y ∧ y.length ≤ 1000000 ∧ TabsN T H ∧
  ∀ (b : Addr) (H' : Hp), H' b = some (.tup (nts (act t x y.cps.toList))) → Ext T H H' → Q (.ref b) H'
def spBEq (K : PySem.W.Frag) (C : Addr) : Sp := fun vs H Q _ => ∃ (p : Addr) (v : V) (tv : Value) (b : Bool) (x : Str) (t : List (List Nat)) (m : Nat), vs = [.ref p, v] ∧ BoxAt K C H p x t ∧ RightB x t m ∧ TyX K H v tv ∧ PySem.W.kitOne K tv (.ref C) = some b ∧
  (b = false → Q (.bl false) H) ∧ (b = true → ∃ (q : Addr) (y : Str) (s : List (List Nat)) (m' : Nat), v = .ref q ∧ BoxAt K C H q y s ∧ RightB y s m' ∧ ∀ H' : Hp, Same H H' → Q (.bl (decide (x = y) && decide (t = s))) H')
/-- how a box of n places is told -/
def btxt (n : Nat) (x : Str) : Str := (((Str.empty ++ ("box of " : Str)) ++ (toString (n : Int) : Str)) ++ (" places for " : Str)) ++ x
theorem btxt_len : ∀ n, n < 5 → ∀ c : Str, c.length ≤ 2 → (btxt n c).length ≤ 100 := by
  intro n hn c hc
  have h : ∀ n : Nat, n < 5 → (((Str.empty ++ ("box of " : Str)) ++ (toString (n : Int) : Str)) ++ (" places for " : Str)).length ≤ 50 := by decide +kernel
  have := h n hn
  show ((((Str.empty ++ ("box of " : Str)) ++ (toString (n : Int) : Str)) ++ (" places for " : Str)) ++ c).length ≤ 100
  have e : ((((Str.empty ++ ("box of " : Str)) ++ (toString (n : Int) : Str)) ++ (" places for " : Str)) ++ c).length = (((Str.empty ++ ("box of " : Str)) ++ (toString (n : Int) : Str)) ++ (" places for " : Str)).length + c.length := Array.size_append
  omega
theorem blog_small : ∀ n : Nat, n < 5 → ((n : Int)).natAbs.log2 < 1920 := by decide +kernel
theorem bstr_app (a b : Str) : (a ++ b).length = a.length + b.length := by
  show (a.cps ++ b.cps).size = a.cps.size + b.cps.size
  exact Array.size_append
def spBStr (K : PySem.W.Frag) (C : Addr) : Sp := fun vs H Q _ => ∃ (p : Addr) (x : Str) (t : List (List Nat)), vs = [.ref p] ∧ BoxAt K C H p x t ∧ t.length < 5 ∧ x.length ≤ 2 ∧ Q (.str (btxt t.length x)) H
/-- a box's data -/
def dB (x : Str) (t : List (List Nat)) : PyData := .tuple [.str x, dT t]
theorem eqv_dB (x y : Str) (t s : List (List Nat)) : (dB x t).eqv (dB y s) = (decide (x = y) && decide (t = s)) := by
  unfold dB
  rw [PyData.eqv]
  simp only [PyData.eqvAll]
  have e : (dT t).eqv (dT s) = decide (t = s) := by
    unfold dT
    rw [PyData.eqv]
    exact eqv_tabs t s
  rw [e]
  simp only [PyData.eqv, Bool.and_true]
  congr 1
theorem shaped_dB {x : Str} {t : List (List Nat)} {m : Nat} (h : IsSet x m) : SeqAt.shaped (dB x t) = true := by
  unfold SeqAt.shaped
  have h1 : (dB x t).canLay0 = true := by
    unfold dB dT
    simp only [PyData.canLay0, PyData.canLayAll0, lay_rows, set_ok h, Bool.and_self]
  have h2 : (dB x t).depth ≤ 64 := by
    have r := dep_rows t
    unfold dB dT
    simp only [PyData.depth, PyData.depthAll]
    omega
  rw [h1, decide_eq_true h2]
  rfl
section
variable {P : Program} {w : World} {K : PySem.W.Frag} {mg : Str → Option Value} {base : Heap} {C : Addr}
theorem ok_blet {f : Addr} {fd : FuncData} (F : Fun K "letters" "Box.letters" sBLet f fd) (TB : TxB K mg C) : FnOk P w K mg base CX0 1 f fd ["self"] (spBLet K C) := by
  refine F.ok scBLet (fun vs H Q E h => ?_) (fun cdv A outer s H vs Q E hr h => ?_)
  · obtain ⟨p, x, t, rfl, _⟩ := h
    rfl
  · obtain ⟨p, x, t, rfl, ⟨dx, a, us, h1, h2, h3⟩, k⟩ := h
    refine ⟨_, pss_one (ps_ret (pe_fld (pv 0) rfl)), ?_⟩
    exact ⟨_, rfl, p, C, dx, _, _, rfl, h1, TB.cl, TB.nL, flb_l, k⟩
theorem ok_btab {f : Addr} {fd : FuncData} (F : Fun K "table" "Box.table" sBTab f fd) (TB : TxB K mg C) : FnOk P w K mg base CX0 1 f fd ["self"] (spBTab K C) := by
  refine F.ok scBTab (fun vs H Q E h => ?_) (fun cdv A outer s H vs Q E hr h => ?_)
  · obtain ⟨p, x, t, rfl, _⟩ := h
    rfl
  · obtain ⟨p, x, t, rfl, ⟨dx, a, us, h1, h2, h3⟩, k⟩ := h
    refine ⟨_, pss_one (ps_ret (pe_fld (pv 0) rfl)), ?_⟩
    exact ⟨_, rfl, p, C, dx, _, _, rfl, h1, TB.cl, TB.nT, flb_t, k a us h2 h3⟩
theorem ok_bchk {f : Addr} {fd : FuncData} (F : Fun K "_check" "Box._check" sBChk f fd) (cC : FnC P w K mg base 3 "check_word" ["value"] spCheck) (cO : FnC P w K mg base 2 "check_only" ["word", "letters"] spOnlyC) (TB : TxB K mg C) : FnOk P w K mg base CX0 4 f fd ["self", "word"] (spBChk K C) := by
  refine F.ok scBChk (fun vs H Q E h => ?_) (fun cdv A outer s H vs Q E hr h => ?_)
  · obtain ⟨p, x, y, t, m, rfl, _⟩ := h
    rfl
  · obtain ⟨p, x, y, t, m, rfl, B, R, hw, hy, k⟩ := h
    have hr2 : Room 2 _ := hr.mono (by decide)
    refine ⟨_, pss_cons (ps_expr (pe_call cC.G hr rfl cC.m cC.kp cC.b .nil pass0 (pa_cons (pv 1) pa_nil)))
      (pss_one (ps_expr (pe_call cO.G hr2 rfl cO.m cO.kp cO.b .nil pass0 (pa_cons (pv 1) (pa_cons (pe_fld (pv 0) rfl) pa_nil))))), ?_⟩
    refine ⟨_, rfl, y, rfl, hy, only_all R.st hw, fun H1 s1 => ?_⟩
    obtain ⟨dx, a, us, i1, i2, i3⟩ := B.same s1
    exact ⟨_, rfl, _, rfl, p, C, dx, _, _, rfl, i1, TB.cl, TB.nL, flb_l, y, x, rfl, hy, only_of hw, fun H2 s2 => k H2 (s1.trans s2)⟩
theorem ok_bcall {f fC : Addr} {fd dC : FuncData} (F : Fun K "__call__" "Box.__call__" sBCall f fd) (GC : FnOk P w K mg base CX0 4 fC dC ["self", "word"] (spBChk K C)) (bC : Binds K dC ["self", "word"] []) (mC : Meth K C "_check" fC)
    (cL : FnC P w K mg base 1 "led" ["table", "letters", "start", "word"] (spLed K)) (TB : TxB K mg C) : FnOk P w K mg base CX0 5 f fd ["self", "word"] (spBCall K C) := by
  refine F.ok scBCall (fun vs H Q E h => ?_) (fun cdv A outer s H vs Q E hr h => ?_)
  · obtain ⟨p, x, y, t, m, rfl, _⟩ := h
    rfl
  · obtain ⟨p, x, y, t, m, rfl, B, R, hw, hy, k⟩ := h
    have hr1 : Room 1 _ := hr.mono (by decide)
    refine ⟨_, pss_cons (ps_expr (pe_meth (pv 0) TB.cl mC GC hr bC .nil pass0 (pa_cons (pv 1) pa_nil)))
      (pss_one (ps_ret (pe_call cL.G hr1 rfl cL.m cL.kp cL.b .nil pass0 (pa_cons (pe_fld (pv 0) rfl) (pa_cons (pe_fld (pv 0) rfl) (pa_cons pe_int (pa_cons (pv 1) pa_nil))))))), ?_⟩
    obtain ⟨dx, a, us, i1, i2, i3⟩ := id B
    refine ⟨_, rfl, p, dx, _, rfl, i1, flb_chk, _, rfl, p, x, y, t, m, rfl, B, R, hw, hy, fun H1 s1 => ?_⟩
    refine ⟨_, rfl, p, C, dx, _, _, rfl, s1 _ _ i1, TB.cl, TB.nT, flb_t, _, rfl, p, C, dx, _, _, rfl, s1 _ _ i1, TB.cl, TB.nL, flb_l, _, rfl, a, x, y, 0, t.length, m, t, us, rfl, sqt_same s1 i2, i3.same s1, R.tb, R.st, R.m2, hw, R.t1, ?_⟩
    exact k H1 s1
theorem ok_bact {f fC : Addr} {fd dC : FuncData} {T : List NTab} (F : Fun K "action" "Box.action" sBAct f fd) (GC : FnOk P w K mg base CX0 4 fC dC ["self", "word"] (spBChk K C)) (bC : Binds K dC ["self", "word"] []) (mC : Meth K C "_check" fC)
    (cA : FnC P w K mg base 4 "acted" ["table", "letters", "word"] (spActed K T)) (TB : TxB K mg C) : FnOk P w K mg base CX0 5 f fd ["self", "word"] (spBAct K T C) := by
  refine F.ok scBAct (fun vs H Q E h => ?_) (fun cdv A outer s H vs Q E hr h => ?_)
  · obtain ⟨p, x, y, t, m, rfl, _⟩ := h
    rfl
  · obtain ⟨p, x, y, t, m, rfl, B, R, hw, hy, tabs, k⟩ := h
    refine ⟨_, pss_cons (ps_expr (pe_meth (pv 0) TB.cl mC GC hr bC .nil pass0 (pa_cons (pv 1) pa_nil)))
      (pss_one (ps_ret (pe_call cA.G hr rfl cA.m cA.kp cA.b .nil pass0 (pa_cons (pe_fld (pv 0) rfl) (pa_cons (pe_fld (pv 0) rfl) (pa_cons (pv 1) pa_nil)))))), ?_⟩
    obtain ⟨dx, a, us, i1, i2, i3⟩ := id B
    refine ⟨_, rfl, p, dx, _, rfl, i1, flb_chk, _, rfl, p, x, y, t, m, rfl, B, R, hw, hy, fun H1 s1 => ?_⟩
    exact ⟨_, rfl, p, C, dx, _, _, rfl, s1 _ _ i1, TB.cl, TB.nT, flb_t, _, rfl, p, C, dx, _, _, rfl, s1 _ _ i1, TB.cl, TB.nL, flb_l, _, rfl, a, x, y, us, t, m, rfl, sqt_same s1 i2, i3.same s1, R.tb, R.st, R.m2, hw, (by have := R.t4; omega), hy, tabs.ext s1, fun b H2 h2 s2 => k b H2 h2 ((Ext.of tabs s1).trans s2)⟩
theorem ok_beq {f : Addr} {fd : FuncData} (F : Fun K "__eq__" "Box.__eq__" sBEq f fd) (W : TxW mg) (TB : TxB K mg C) (mC : mg "Box" = some (.ref C)) : FnOk P w K mg base CX0 1 f fd ["self", "other"] (spBEq K C) := by
  refine F.ok scBEq (fun vs H Q E h => ?_) (fun cdv A outer s H vs Q E hr h => ?_)
  · obtain ⟨p, v, tv, b, x, t, m, rfl, _⟩ := h
    rfl
  · obtain ⟨p, v, tv, b, x, t, m, rfl, M, R, ty, k1, q1, q2⟩ := h
    refine ⟨_, pss_cons (ps_if (pt_not (pt_val (pe_callB call_isi (by rfl) W.isi (by decide +kernel) (pa_cons (pv 1) (pa_cons (pe_glob (v := .ref C) rfl mC rfl) pa_nil))))) (pss_one (ps_ret pe_bl)) pss_nil)
      (pss_one (ps_ret (pe_cmpR (op_eqD hr.units) (pe_tup (pa_cons (pe_fld (pv 0) rfl) (pa_cons (pe_fld (pv 0) rfl) pa_nil))) (pe_tup (pa_cons (pe_fld (pv 1) rfl) (pa_cons (pe_fld (pv 1) rfl) pa_nil))) (nomark _)))), ?_⟩
    refine ⟨_, rfl, v, .ref C, tv, .ref C, b, rfl, .own C, ty, k1, _, rfl, ?_⟩
    cases b with
    | false => exact iteT (q1 rfl)
    | true =>
      obtain ⟨q, y, s, m', rfl, M', R', k⟩ := q2 rfl
      refine iteF ?_
      obtain ⟨dx, a, us, i1, i2, i3⟩ := id M
      obtain ⟨dx', a', us', j1, j2, j3⟩ := id M'
      refine ⟨_, rfl, p, C, dx, _, _, rfl, i1, TB.cl, TB.nL, flb_l, _, rfl, p, C, dx, _, _, rfl, i1, TB.cl, TB.nT, flb_t, (by show 2 ≤ sizeLine; decide), fun T1 n1 => ?_⟩
      have s1 : Same H (upd H T1 (.tup [.str x, .ref a])) := Same.new (Same.refl H) n1
      refine ⟨_, rfl, q, C, dx', _, _, rfl, s1 _ _ j1, TB.cl, TB.nL, flb_l, _, rfl, q, C, dx', _, _, rfl, s1 _ _ j1, TB.cl, TB.nT, flb_t, (by show 2 ≤ sizeLine; decide), fun T2 n2 => ?_⟩
      have s2 : Same H (upd (upd H T1 (.tup [.str x, .ref a])) T2 (.tup [.str y, .ref a'])) := Same.new s1 n2
      refine ⟨dB x t, dB y s, .tup (SqT.of (keep_new upd_same n2)) (.cons (.str x) (.cons (.tup (sqt_same s2 i2) (dp_rows t us (i3.same s2))) .nil)),
        .tup (SqT.of upd_same) (.cons (.str y) (.cons (.tup (sqt_same s2 j2) (dp_rows s us' (j3.same s2))) .nil)), shaped_dB R.st, shaped_dB R'.st, ?_⟩
      rw [eqv_dB]
      exact k _ s2
theorem ok_bstr {f : Addr} {fd : FuncData} (F : Fun K "__str__" "Box.__str__" sBStr f fd) (Zx : TxZ mg) (TB : TxB K mg C) : FnOk P w K mg base CX0 1 f fd ["self"] (spBStr K C) := by
  refine F.ok scBStr (fun vs H Q E h => ?_) (fun cdv A outer s H vs Q E hr h => ?_)
  · obtain ⟨p, x, t, rfl, _⟩ := h
    rfl
  · obtain ⟨p, x, t, rfl, ⟨dx, a, us, h1, h2, h3⟩, t5, x2, k⟩ := h
    refine ⟨_, pss_one (ps_ret (pe_joined (.cons pe_str (.cons (pe_fmt (pe_callB call_len_seq (by rfl) Zx.len PySem.boot_len (pa_cons (pe_fld (pv 0) rfl) pa_nil))) (.cons pe_str (.cons (pe_fmt (pe_fld (pv 0) rfl)) .nil)))))), ?_⟩
    have le := btxt_len _ t5 x x2
    have big : (100 : Nat) ≤ sizeLine := by decide
    unfold btxt at le k
    rw [bstr_app, bstr_app, bstr_app] at le
    refine ⟨_, rfl, Nat.le_trans (show _ ≤ 100 from ?_) big, ?_⟩
    · omega
    refine ⟨_, rfl, p, C, dx, _, _, rfl, h1, TB.cl, TB.nT, flb_t, a, us, rfl, .inr h2, .inr ⟨_, rfl, ?_, ?_⟩⟩
    · rw [h3.1]
      exact blog_small _ t5
    rw [h3.1]
    refine ⟨_, rfl, Nat.le_trans (show _ ≤ 100 from ?_) big, ?_⟩
    · rw [bstr_app]
      omega
    refine ⟨_, rfl, Nat.le_trans (show _ ≤ 100 from ?_) big, ?_⟩
    · rw [bstr_app, bstr_app]
      omega
    refine ⟨_, rfl, p, C, dx, _, _, rfl, h1, TB.cl, TB.nL, flb_l, .inl ⟨_, rfl, Nat.le_trans (show x.length ≤ 100 by omega) big, _, rfl, Nat.le_trans (show _ ≤ 100 from ?_) big, k⟩⟩
    rw [bstr_app, bstr_app, bstr_app]
    exact le
end
end M3

set_option Elab.async false
set_option linter.all false
set_option maxRecDepth 100000
set_option maxHeartbeats 8000000
/-! # Drawn ways to lead, by their sort -/
namespace M3
open PySem L2
/-- what the sort of a drawn action tells -/
structure SortIs (i : Int) (xs : List Nat) : Prop where
  up : i = 1 → ∀ j, j < xs.length → j ≤ xs.getD j 0
  one : i = 2 → ∃ c, ∀ z ∈ xs, z = c
  id : i = 4 → xs = List.range xs.length
  asc : i = 5 → xs.Pairwise (· ≤ ·)
theorem yes_i {i k : Int} (c : decide (V.int i = V.int k) = true) : i = k := by
  have := of_decide_eq_true c
  injection this
theorem no_i {i k : Int} (c : ¬ decide (V.int i = V.int k) = true) : i ≠ k := fun e => c (by rw [e]; exact decide_eq_true rfl)
theorem si1 {i : Int} {xs : List Nat} (c : decide (V.int i = V.int 1) = true) (h : ∀ j, j < xs.length → j ≤ xs.getD j 0) : SortIs i xs := by
  have e := yes_i c
  exact ⟨fun _ => h, fun z => by omega, fun z => by omega, fun z => by omega⟩
theorem si2 {i : Int} {xs : List Nat} {y : Nat} (c : decide (V.int i = V.int 2) = true) (h : ∀ z ∈ xs, z = y) : SortIs i xs := by
  have e := yes_i c
  exact ⟨fun z => by omega, fun _ => ⟨y, h⟩, fun z => by omega, fun z => by omega⟩
theorem si3 {i : Int} {xs : List Nat} (c : decide (V.int i = V.int 3) = true) : SortIs i xs := by
  have e := yes_i c
  exact ⟨fun z => by omega, fun z => by omega, fun z => by omega, fun z => by omega⟩
theorem si4 {i : Int} {n : Nat} (c : decide (V.int i = V.int 4) = true) : SortIs i (List.range n) := by
  have e := yes_i c
  exact ⟨fun z => by omega, fun z => by omega, fun _ => by rw [List.length_range], fun z => by omega⟩
theorem si5 {i : Int} {zs : List Nat} (c : decide (V.int i = V.int 5) = true) (h : (zs.map Int.ofNat).Pairwise (fun a b => a ≤ b)) : SortIs i zs := by
  have e := yes_i c
  refine ⟨fun z => by omega, fun z => by omega, fun z => by omega, fun _ => ?_⟩
  rw [List.pairwise_map] at h
  exact h.imp fun {a b} q => Int.ofNat_le.mp q
theorem sin {i : Int} {xs : List Nat} (c1 : ¬ decide (V.int i = V.int 1) = true) (c2 : ¬ decide (V.int i = V.int 2) = true) (c4 : ¬ decide (V.int i = V.int 4) = true) (c5 : ¬ decide (V.int i = V.int 5) = true) : SortIs i xs :=
  ⟨fun z => absurd z (no_i c1), fun z => absurd z (no_i c2), fun z => absurd z (no_i c4), fun z => absurd z (no_i c5)⟩
theorem ge_snoc {xs : List Nat} {x : Nat} (h : ∀ j, j < xs.length → j ≤ xs.getD j 0) (hx : xs.length ≤ x) : ∀ j, j < (xs ++ [x]).length → j ≤ (xs ++ [x]).getD j 0 := by
  intro j hj
  rw [List.length_append] at hj
  by_cases c : j < xs.length
  · have := h j c
    rw [List.getD_eq_getElem?_getD, List.getElem?_append_left c, ← List.getD_eq_getElem?_getD]
    exact this
  · have e : j = xs.length := by
      have hj : j < xs.length + 1 := hj
      omega
    subst e
    rw [List.getD_eq_getElem?_getD, List.getElem?_append_right (Nat.le_refl _), Nat.sub_self]
    exact hx
theorem eq_snoc {xs : List Nat} {x y : Nat} (h : ∀ z ∈ xs, z = y) (hx : x = y) : ∀ z ∈ xs ++ [x], z = y := fun z hz => by
  rcases List.mem_append.mp hz with q | q
  · exact h z q
  · rw [List.mem_singleton.mp q]
    exact hx
def spActionS : Sp := fun vs H Q _ => ∃ (d : Addr) (n : Nat) (i : Int), vs = [.ref d, .int n, .int i] ∧ Dz H d ∧ 0 < n ∧ n ≤ 10 ∧
  ∀ (xs : List Nat) (p : Addr) (H' : Hp), xs.length = n → (∀ x ∈ xs, x < n) → SortIs i xs → H p = none → H' p = some (.lst (nts xs)) → Dz H' d → Still d H H' → Q (.ref p) H'
/-- the column c of a table: where the letter leads each place -/
def colOf (t : List (List Nat)) (c : Nat) : List Nat := (List.range t.length).map fun q => (t.getD q []).getD c 0
theorem cols_at {rs : List (List Nat)} {n c : Nat} (h : ∀ r ∈ rs, r.length = n) (hc : c < rs.length) : colOf ((List.range n).map (col rs)) c = rs[c] := by
  have hn := h rs[c] (List.getElem_mem hc)
  unfold colOf
  refine List.ext_getElem ?_ fun j h1 h2 => ?_
  · rw [List.length_map, List.length_range, List.length_map, List.length_range, hn]
  · rw [List.getElem_map, List.getElem_range]
    have hj : j < n := by rw [← hn]; exact h2
    have e1 : ((List.range n).map (col rs)).getD j [] = col rs j := by
      rw [List.getD_eq_getElem?_getD, List.getElem?_map, List.getElem?_range hj]
      rfl
    rw [e1]
    unfold col
    rw [List.getD_eq_getElem?_getD, List.getElem?_map, List.getElem?_eq_getElem hc]
    show rs[c].getD j 0 = rs[c][j]
    rw [List.getD_eq_getElem?_getD, List.getElem?_eq_getElem h2]
    rfl
theorem cols_sort {rs : List (List Nat)} {n c : Nat} {ss : List Int} (h : ∀ r ∈ rs, (r.length = n ∧ ∀ z ∈ r, z < n) ∧ ∃ i ∈ ss, SortIs i r) (hc : c < rs.length) : ∃ i ∈ ss, SortIs i (colOf ((List.range n).map (col rs)) c) := by
  rw [cols_at (fun r hr => (h r hr).1.1) hc]
  exact (h rs[c] (List.getElem_mem hc)).2
def spTableS (K : PySem.W.Frag) : Sp := fun vs H Q _ => ∃ (d a : Addr) (x : Str) (n : Nat) (ss : List Int), vs = [.ref d, .str x, .int n, .ref a] ∧ Dz H d ∧ 0 < n ∧ n ≤ 10 ∧ x.length ≤ 10 ∧ SqL K H a (ss.map V.int) ∧ a ≠ d ∧ 0 < ss.length ∧ ss.length < 1000 ∧
  ∀ (t : List (List Nat)) (us : List V) (p : Addr) (H' : Hp), IsTab t n x.length → (∀ c, c < x.length → ∃ i ∈ ss, SortIs i (colOf t c)) → H p = none → p ≠ d → H' p = some (.lst us) → RowsT d p H' us t → Dz H' d → Still d H H' → Q (.ref p) H'
section
variable {P : Program} {w : World} {K : PySem.W.Frag} {mg : Str → Option Value} {base : Heap}
theorem ok_actionS {f : Addr} {fd : FuncData} (F : Fun K "_law_action" "_law_action" sAction f fd) (D : DefsD K mg) (T : TxI mg) (M : TxM mg) :
    FnOk P w K mg base CX0 2 f fd ["dice", "size", "sort"] spActionS := by
  have GR : FnOk P w K mg base CX0 1 D.fR D.dR ["dice", "total"] spDraw := ok_draw D.R T
  refine F.ok scAction (fun vs H Q E h => ?_) (fun cdv A outer s H vs Q E hr h => ?_)
  · obtain ⟨d, n, i, rfl, _⟩ := h
    rfl
  · obtain ⟨d, n, i, rfl, Z, hn, h10, k⟩ := h
    have hr1 : Room 1 _ := hr.mono (by decide)
    refine ⟨_, (pss_cons (ps_if (pt_cmpR op_eq (pv 2) pe_int (nomark _)) (pss_one (ps_ret (pe_lc (own := [("place", 8)]) (g := gName 8) (tt := tYes) rfl scAction.nd (pi_range1 rfl M.range (pa_cons (pv 1) pa_nil)) (blkOk_by (N := nAction) (sc := defScope sAction) (by decide +kernel)) (fun _ _ _ _ _ => pg_name (i := 8) scAction.nd rfl (Or.inl rfl)) (fun _ _ _ _ _ => pts_nil) (fun _ _ _ _ _ => (pe_op op_add (pv 8) (pe_call GR hr1 rfl D.mR D.R.kp D.bR .nil pass0 (pa_cons (pv 0) (pa_cons (pe_op op_sub (pv 1) (pv 8)) pa_nil)))))))) pss_nil)
      (pss_cons (ps_if (pt_cmpR op_eq (pv 2) pe_int (nomark _)) (pss_cons (ps_set (i := 3) scAction.nd rfl (Or.inr rfl) (pe_call GR hr1 rfl D.mR D.R.kp D.bR .nil pass0 (pa_cons (pv 0) (pa_cons (pv 1) pa_nil))))
        (pss_one (ps_ret (pe_lc (own := [("place", 8)]) (g := gName 8) (tt := tYes) rfl scAction.nd (pi_range1 rfl M.range (pa_cons (pv 1) pa_nil)) (blkOk_by (N := nAction) (sc := defScope sAction) (by decide +kernel)) (fun _ _ _ _ _ => pg_name (i := 8) scAction.nd rfl (Or.inl rfl)) (fun _ _ _ _ _ => pts_nil) (fun _ _ _ _ _ => (pv 3)))))) pss_nil)
      (pss_cons (ps_if (pt_cmpR op_eq (pv 2) pe_int (nomark _)) (pss_cons (ps_set (i := 4) scAction.nd rfl (Or.inr rfl) (pe_call GR hr1 rfl D.mR D.R.kp D.bR .nil pass0 (pa_cons (pv 0) (pa_cons (pv 1) pa_nil))))
        (pss_one (ps_ret (pe_lc (own := [("place", 8)]) (g := gName 8) (tt := tYes) rfl scAction.nd (pi_range1 rfl M.range (pa_cons (pv 1) pa_nil)) (blkOk_by (N := nAction) (sc := defScope sAction) (by decide +kernel)) (fun _ _ _ _ _ => pg_name (i := 8) scAction.nd rfl (Or.inl rfl)) (fun _ _ _ _ _ => pts_nil) (fun _ _ _ _ _ => (pe_op op_modN (pe_callTy call_int1 (by rfl) T.int (by decide +kernel) (pa_cons (pe_op op_add (pv 8) (pv 4)) pa_nil)) (pv 1))))))) pss_nil)
      (pss_cons (ps_if (pt_cmpR op_eq (pv 2) pe_int (nomark _)) (pss_one (ps_ret (pe_listRg rfl rfl M.list (prg_1 rfl M.range (pv 1))))) pss_nil)
      (pss_cons (ps_if (pt_cmpR op_eq (pv 2) pe_int (nomark _)) (pss_one (ps_ret (pe_callB cr_sorted (by rfl) M.sorted (by decide +kernel) (pa_cons (pe_lc (own := [("place", 8)]) (g := gName 8) (tt := tYes) rfl scAction.nd (pi_range1 rfl M.range (pa_cons (pv 1) pa_nil)) (blkOk_by (N := nAction) (sc := defScope sAction) (by decide +kernel)) (fun _ _ _ _ _ => pg_name (i := 8) scAction.nd rfl (Or.inl rfl)) (fun _ _ _ _ _ => pts_nil) (fun _ _ _ _ _ => (pe_call GR hr1 rfl D.mR D.R.kp D.bR .nil pass0 (pa_cons (pv 0) (pa_cons (pv 1) pa_nil))))) pa_nil)))) pss_nil)
      (pss_cons (ps_set (i := 5) scAction.nd rfl (Or.inl rfl) (pe_ifExp (pt_cmpR op_eq (pv 2) pe_int (nomark _)) (pe_lc (own := [("place", 8)]) (g := gName 8) (tt := tYes) rfl scAction.nd (pi_range1 rfl M.range (pa_cons (pv 1) pa_nil)) (blkOk_by (N := nAction) (sc := defScope sAction) (by decide +kernel)) (fun _ _ _ _ _ => pg_name (i := 8) scAction.nd rfl (Or.inl rfl)) (fun _ _ _ _ _ => pts_nil) (fun _ _ _ _ _ => (pe_call GR hr1 rfl D.mR D.R.kp D.bR .nil pass0 (pa_cons (pv 0) (pa_cons (pv 1) pa_nil))))) (pe_listRg rfl rfl M.list (prg_1 rfl M.range (pv 1)))))
      (pss_cons (ps_if (pt_cmpR op_eq (pv 2) pe_int (nomark _)) (pss_cons (ps_par (i := 6) (j := 7) (by rfl) scAction.nd rfl rfl (by decide) rfl rfl (pa_cons (pe_call GR hr1 rfl D.mR D.R.kp D.bR .nil pass0 (pa_cons (pv 0) (pa_cons (pv 1) pa_nil))) (pa_cons (pe_call GR hr1 rfl D.mR D.R.kp D.bR .nil pass0 (pa_cons (pv 0) (pa_cons (pv 1) pa_nil))) pa_nil)) (by rfl))
        (pss_one (ps_asg (pe_tup (pa_cons (pv 7) (pa_cons (pv 6) pa_nil))) (pg_tup rfl (pgs_cons (pg_sub (pv 5) (pv 6) set_list) (pgs_cons (pg_sub (pv 5) (pv 7) set_list) pgs_nil)))))) pss_nil)
      (pss_one (ps_ret (pv 5)))))))))), ?_⟩
    have h10' : (n : Int) ≤ 10 := by omega
    have RGOK : RgOk 0 (n : Int) := RgOk.of_le (by decide) (by omega) (by decide) (by omega)
    have ZH := Z
    have SH := Still.refl d H
    refine ⟨_, rfl, rfl, _, rfl, ?_⟩
    refine ite2 (fun c1 => ?_) (fun c1 => ?_)
    · refine ⟨_, rfl, (n : Int), rfl, by omega, by omega, fun C nC => ?_⟩
      have Cd : C ≠ d := ZH.not nC
      have HC : H C = none := SH.free ZH nC
      refine lc_range (lo := 0) (n := (n : Int).toNat) (fun j H9 => ∃ xs : List Nat, H9 C = some (.lst (nts xs)) ∧ xs.length = j ∧ (∀ x ∈ xs, x < n) ∧ (∀ j, j < xs.length → j ≤ xs.getD j 0) ∧ Dz H9 d ∧ Still d H H9) ⟨[], upd_same, rfl, (fun z hz => by cases hz), (fun j hj => absurd hj (Nat.not_lt_zero _)), ZH.new nC, SH.new nC⟩ ?_ ?_
      · rintro j H9 hj ⟨xs, h1, h2, h3, h7, h4, h5⟩
        refine ⟨rfl, tYes_if ?_⟩
        have hj : j < n := by omega
        have fin : ∀ (x : Nat) (H4 : Hp), x < n → j ≤ x → Dz H4 d → Still d H9 H4 → ∃ acc, H4 C = some (.lst acc) ∧ acc.length < sizeLine ∧ ∃ ys : List Nat, upd H4 C (.lst (acc ++ [.int x])) C = some (.lst (nts ys)) ∧ ys.length = j + 1 ∧ (∀ y ∈ ys, y < n) ∧ (∀ j, j < ys.length → j ≤ ys.getD j 0) ∧ Dz (upd H4 C (.lst (acc ++ [.int x]))) d ∧ Still d H (upd H4 C (.lst (acc ++ [.int x]))) := fun x H4 hx jx z4 s4 => by
          refine ⟨_, s4 _ _ Cd h1, ?_, xs ++ [x], ?_, ?_, fun y hy => ?_, ge_snoc h7 (by omega), z4.ne Cd, (h5.trans s4).at_new HC⟩
          · rw [nts_length, h2]
            exact Nat.lt_trans hj (Nat.lt_of_le_of_lt h10 (by decide))
          · rw [upd_same, nts_append]
          · rw [List.length_append, h2]
            rfl
          · rcases List.mem_append.mp hy with q | q
            · exact h3 y q
            · rw [List.mem_singleton.mp q]
              exact hx
        refine ⟨_, rfl, _, rfl, _, rfl, _, rfl, _, _, rfl, rfl, d, n - j, ?_, h4, by omega, by omega, fun x H4 xn z4 s4 => ?_⟩
        · have e : ((n - j : Nat) : Int) = (n : Int) - (0 + (j : Int)) := by omega
          show [V.ref d, V.int ((n : Int) - (0 + (j : Int)))] = _
          rw [← e]
        · refine ⟨_, _, rfl, rfl, ?_⟩
          have q := fin (j + x) H4 (by omega) (by omega) z4 s4
          have e : ((j + x : Nat) : Int) = (0 + (j : Int)) + (x : Int) := by omega
          rw [e] at q
          exact q
      · rintro H9 ⟨xs, h1, h2, h3, h7, h4, h5⟩
        have h2 : xs.length = n := by rw [h2]; omega
        exact k xs C H9 h2 h3 (si1 c1 h7) HC h1 h4 h5
    · refine ⟨_, rfl, rfl, _, rfl, ?_⟩
      refine ite2 (fun c2 => ?_) (fun c2 => ?_)
      · refine ⟨_, rfl, _, rfl, d, n, rfl, Z, hn, by omega, fun y H1 yn ZH SH => ?_⟩
        refine ⟨_, rfl, (n : Int), rfl, by omega, by omega, fun C nC => ?_⟩
        have Cd : C ≠ d := ZH.not nC
        have HC : H C = none := SH.free ZH nC
        refine lc_range (lo := 0) (n := (n : Int).toNat) (fun j H9 => ∃ xs : List Nat, H9 C = some (.lst (nts xs)) ∧ xs.length = j ∧ (∀ x ∈ xs, x < n) ∧ (∀ z ∈ xs, z = y) ∧ Dz H9 d ∧ Still d H H9) ⟨[], upd_same, rfl, (fun z hz => by cases hz), (fun z hz => by cases hz), ZH.new nC, SH.new nC⟩ ?_ ?_
        · rintro j H9 hj ⟨xs, h1, h2, h3, h7, h4, h5⟩
          refine ⟨rfl, tYes_if ?_⟩
          have hj : j < n := by omega
          have fin : ∀ (x : Nat) (H4 : Hp), x < n → x = y → Dz H4 d → Still d H9 H4 → ∃ acc, H4 C = some (.lst acc) ∧ acc.length < sizeLine ∧ ∃ ys : List Nat, upd H4 C (.lst (acc ++ [.int x])) C = some (.lst (nts ys)) ∧ ys.length = j + 1 ∧ (∀ y ∈ ys, y < n) ∧ (∀ z ∈ ys, z = y) ∧ Dz (upd H4 C (.lst (acc ++ [.int x]))) d ∧ Still d H (upd H4 C (.lst (acc ++ [.int x]))) := fun x H4 hx jx z4 s4 => by
            refine ⟨_, s4 _ _ Cd h1, ?_, xs ++ [x], ?_, ?_, fun y hy => ?_, eq_snoc h7 jx, z4.ne Cd, (h5.trans s4).at_new HC⟩
            · rw [nts_length, h2]
              exact Nat.lt_trans hj (Nat.lt_of_le_of_lt h10 (by decide))
            · rw [upd_same, nts_append]
            · rw [List.length_append, h2]
              rfl
            · rcases List.mem_append.mp hy with q | q
              · exact h3 y q
              · rw [List.mem_singleton.mp q]
                exact hx
          exact ⟨_, rfl, fin y _ yn rfl h4 (Still.refl _ _)⟩
        · rintro H9 ⟨xs, h1, h2, h3, h7, h4, h5⟩
          have h2 : xs.length = n := by rw [h2]; omega
          exact k xs C H9 h2 h3 (si2 c2 h7) HC h1 h4 h5
      · refine ⟨_, rfl, rfl, _, rfl, ?_⟩
        refine ite2 (fun c3 => ?_) (fun c3 => ?_)
        · refine ⟨_, rfl, _, rfl, d, n, rfl, Z, hn, by omega, fun y H1 yn ZH SH => ?_⟩
          refine ⟨_, rfl, (n : Int), rfl, by omega, by omega, fun C nC => ?_⟩
          have Cd : C ≠ d := ZH.not nC
          have HC : H C = none := SH.free ZH nC
          refine lc_range (lo := 0) (n := (n : Int).toNat) (fun j H9 => ∃ xs : List Nat, H9 C = some (.lst (nts xs)) ∧ xs.length = j ∧ (∀ x ∈ xs, x < n) ∧ Dz H9 d ∧ Still d H H9) ⟨[], upd_same, rfl, (fun z hz => by cases hz), ZH.new nC, SH.new nC⟩ ?_ ?_
          · rintro j H9 hj ⟨xs, h1, h2, h3, h4, h5⟩
            refine ⟨rfl, tYes_if ?_⟩
            have hj : j < n := by omega
            have fin : ∀ (x : Nat) (H4 : Hp), x < n → Dz H4 d → Still d H9 H4 → ∃ acc, H4 C = some (.lst acc) ∧ acc.length < sizeLine ∧ ∃ ys : List Nat, upd H4 C (.lst (acc ++ [.int x])) C = some (.lst (nts ys)) ∧ ys.length = j + 1 ∧ (∀ y ∈ ys, y < n) ∧ Dz (upd H4 C (.lst (acc ++ [.int x]))) d ∧ Still d H (upd H4 C (.lst (acc ++ [.int x]))) := fun x H4 hx z4 s4 => by
              refine ⟨_, s4 _ _ Cd h1, ?_, xs ++ [x], ?_, ?_, fun y hy => ?_, z4.ne Cd, (h5.trans s4).at_new HC⟩
              · rw [nts_length, h2]
                exact Nat.lt_trans hj (Nat.lt_of_le_of_lt h10 (by decide))
              · rw [upd_same, nts_append]
              · rw [List.length_append, h2]
                rfl
              · rcases List.mem_append.mp hy with q | q
                · exact h3 y q
                · rw [List.mem_singleton.mp q]
                  exact hx
            refine ⟨_, rfl, _, rfl, _, _, rfl, rfl, .inl ⟨_, rfl, _, rfl, _, _, rfl, rfl, by omega, ?_⟩⟩
            have e : (((j + y) % n : Nat) : Int) = (0 + (j : Int) + (y : Int)).fmod (n : Int) := by
              rw [Int.fmod_eq_emod_of_nonneg _ (by omega), Int.zero_add, Int.natCast_emod, Int.natCast_add]
            have q := fin _ H9 (Nat.mod_lt (j + y) hn) h4 (Still.refl _ _)
            rw [e] at q
            exact q
          · rintro H9 ⟨xs, h1, h2, h3, h4, h5⟩
            have h2 : xs.length = n := by rw [h2]; omega
            exact k xs C H9 h2 h3 (si3 c3) HC h1 h4 h5
        · refine ⟨_, rfl, rfl, _, rfl, ?_⟩
          refine ite2 (fun c4 => ?_) (fun c4 => ?_)
          · refine ⟨_, rfl, (n : Int), rfl, RGOK, fun C nC => ?_⟩
            rw [rgV_nats]
            exact k (List.range n) C _ List.length_range (fun x hx => List.mem_range.mp hx) (si4 c4) nC upd_same (Z.new nC) (SH.new nC)
          · refine ⟨_, rfl, rfl, _, rfl, ?_⟩
            refine ite2 (fun c5 => ?_) (fun c5 => ?_)
            · refine ⟨_, rfl, (n : Int), rfl, by omega, by omega, fun C nC => ?_⟩
              have Cd : C ≠ d := ZH.not nC
              have HC : H C = none := SH.free ZH nC
              refine lc_range (lo := 0) (n := (n : Int).toNat) (fun j H9 => ∃ xs : List Nat, H9 C = some (.lst (nts xs)) ∧ xs.length = j ∧ (∀ x ∈ xs, x < n) ∧ Dz H9 d ∧ Still d H H9) ⟨[], upd_same, rfl, (fun z hz => by cases hz), ZH.new nC, SH.new nC⟩ ?_ ?_
              · rintro j H9 hj ⟨xs, h1, h2, h3, h4, h5⟩
                refine ⟨rfl, tYes_if ?_⟩
                have hj : j < n := by omega
                have fin : ∀ (x : Nat) (H4 : Hp), x < n → Dz H4 d → Still d H9 H4 → ∃ acc, H4 C = some (.lst acc) ∧ acc.length < sizeLine ∧ ∃ ys : List Nat, upd H4 C (.lst (acc ++ [.int x])) C = some (.lst (nts ys)) ∧ ys.length = j + 1 ∧ (∀ y ∈ ys, y < n) ∧ Dz (upd H4 C (.lst (acc ++ [.int x]))) d ∧ Still d H (upd H4 C (.lst (acc ++ [.int x]))) := fun x H4 hx z4 s4 => by
                  refine ⟨_, s4 _ _ Cd h1, ?_, xs ++ [x], ?_, ?_, fun y hy => ?_, z4.ne Cd, (h5.trans s4).at_new HC⟩
                  · rw [nts_length, h2]
                    exact Nat.lt_trans hj (Nat.lt_of_le_of_lt h10 (by decide))
                  · rw [upd_same, nts_append]
                  · rw [List.length_append, h2]
                    rfl
                  · rcases List.mem_append.mp hy with q | q
                    · exact h3 y q
                    · rw [List.mem_singleton.mp q]
                      exact hx
                refine ⟨_, rfl, _, rfl, d, n, rfl, h4, hn, by omega, fun x H4 xn z4 s4 => ?_⟩
                exact fin x _ xn z4 s4
              · rintro H9 ⟨xs, h1, h2, h3, h4, h5⟩
                have h2 : xs.length = n := by rw [h2]; omega
                refine ⟨C, xs.map Int.ofNat, rfl, SqL.of (by rw [h1]; exact nts_eq xs), by rw [List.length_map]; omega, fun ys p perm srt np => ?_⟩
                obtain ⟨zs, e, pz⟩ := nats_perm perm
                subst e
                rw [← nts_eq']
                exact k zs p _ (by rw [pz.length_eq, h2]) (fun x hx => h3 x (pz.subset hx)) (si5 c5 srt) (h5.free h4 np) upd_same (h4.new np) (h5.new np)
            · refine ⟨_, rfl, rfl, _, rfl, ?_⟩
              refine ite2 (fun c6 => ?_) (fun c6 => ?_)
              · refine ⟨_, rfl, (n : Int), rfl, by omega, by omega, fun C nC => ?_⟩
                have Cd : C ≠ d := ZH.not nC
                have HC : H C = none := SH.free ZH nC
                refine lc_range (lo := 0) (n := (n : Int).toNat) (fun j H9 => ∃ xs : List Nat, H9 C = some (.lst (nts xs)) ∧ xs.length = j ∧ (∀ x ∈ xs, x < n) ∧ Dz H9 d ∧ Still d H H9) ⟨[], upd_same, rfl, (fun z hz => by cases hz), ZH.new nC, SH.new nC⟩ ?_ ?_
                · rintro j H9 hj ⟨xs, h1, h2, h3, h4, h5⟩
                  refine ⟨rfl, tYes_if ?_⟩
                  have hj : j < n := by omega
                  have fin : ∀ (x : Nat) (H4 : Hp), x < n → Dz H4 d → Still d H9 H4 → ∃ acc, H4 C = some (.lst acc) ∧ acc.length < sizeLine ∧ ∃ ys : List Nat, upd H4 C (.lst (acc ++ [.int x])) C = some (.lst (nts ys)) ∧ ys.length = j + 1 ∧ (∀ y ∈ ys, y < n) ∧ Dz (upd H4 C (.lst (acc ++ [.int x]))) d ∧ Still d H (upd H4 C (.lst (acc ++ [.int x]))) := fun x H4 hx z4 s4 => by
                    refine ⟨_, s4 _ _ Cd h1, ?_, xs ++ [x], ?_, ?_, fun y hy => ?_, z4.ne Cd, (h5.trans s4).at_new HC⟩
                    · rw [nts_length, h2]
                      exact Nat.lt_trans hj (Nat.lt_of_le_of_lt h10 (by decide))
                    · rw [upd_same, nts_append]
                    · rw [List.length_append, h2]
                      rfl
                    · rcases List.mem_append.mp hy with q | q
                      · exact h3 y q
                      · rw [List.mem_singleton.mp q]
                        exact hx
                  refine ⟨_, rfl, _, rfl, d, n, rfl, h4, hn, by omega, fun x H4 xn z4 s4 => ?_⟩
                  exact fin x _ xn z4 s4
                · rintro H9 ⟨xs, h1, h2, h3, h4, h5⟩
                  have h2 : xs.length = n := by rw [h2]; omega
                  refine ⟨_, rfl, rfl, _, rfl, ?_⟩
                  refine ite2 (fun h6 => ?_) (fun h6 => ?_)
                  · refine ⟨_, rfl, _, rfl, d, n, rfl, h4, hn, by omega, fun x H2 xn z2 s2 => ?_⟩
                    refine ⟨_, rfl, _, rfl, d, n, rfl, z2, hn, by omega, fun y H3 yn z3 s3 => ?_⟩
                    refine ⟨_, _, rfl, ?_⟩
                    have s93 := s2.trans s3
                    have h1 := s93 _ _ Cd h1
                    have h5 := h5.trans s93
                    refine ⟨_, rfl, _, rfl, (by show 2 ≤ sizeLine; decide), fun t nt => ⟨t, _, rfl, SqT.of upd_same, rfl, ?_⟩⟩
                    have lx : (nts xs).length = n := by rw [nts_length, h2]
                    refine ⟨_, _, rfl, _, rfl, _, rfl, C, nts xs, x, x, rfl, rfl, keep_new h1 nt, (by rw [lx]; exact ixNat xn), ?_⟩
                    refine ⟨_, _, rfl, _, rfl, _, rfl, C, _, y, y, rfl, rfl, upd_same, (by rw [List.length_set, lx]; exact ixNat yn), rfl, ?_⟩
                    have es : ((nts xs).set x (.int y)).set y (.int x) = nts ((xs.set x y).set y x) := by
                      unfold nts
                      rw [List.map_set, List.map_set]
                    rw [es]
                    refine ⟨_, rfl, k ((xs.set x y).set y x) C _ (by rw [List.length_set, List.length_set, h2]) (fun z hz => ?_) (sin c1 c2 c4 c5) HC upd_same (((z3.new nt).ne Cd).ne Cd) (((h5.new nt).at_new HC).at_new HC)⟩
                    rcases List.mem_or_eq_of_mem_set hz with q | q
                    · rcases List.mem_or_eq_of_mem_set q with q | q
                      · exact h3 z q
                      · rw [q]
                        exact yn
                    · rw [q]
                      exact xn
                  · exact ⟨_, rfl, k xs C H9 h2 h3 (sin c1 c2 c4 c5) HC h1 h4 h5⟩
              · refine ⟨_, rfl, (n : Int), rfl, RGOK, fun C nC => ?_⟩
                rw [rgV_nats]
                have h1 : (upd H C (.lst (nts (List.range n)))) C = some (.lst (nts (List.range n))) := upd_same
                have h2 : (List.range n).length = n := List.length_range
                have h3 : ∀ x ∈ List.range n, x < n := fun x hx => List.mem_range.mp hx
                have h4 := Z.new nC (u := .lst (nts (List.range n)))
                have h5 := SH.new nC (u := .lst (nts (List.range n)))
                have HC := nC
                have Cd : C ≠ d := Z.not nC
                generalize upd H C (.lst (nts (List.range n))) = H9 at h1 h4 h5 ⊢
                generalize List.range n = xs at h1 h2 h3 ⊢
                refine ⟨_, rfl, rfl, _, rfl, ?_⟩
                refine ite2 (fun h6 => ?_) (fun h6 => ?_)
                · refine ⟨_, rfl, _, rfl, d, n, rfl, h4, hn, by omega, fun x H2 xn z2 s2 => ?_⟩
                  refine ⟨_, rfl, _, rfl, d, n, rfl, z2, hn, by omega, fun y H3 yn z3 s3 => ?_⟩
                  refine ⟨_, _, rfl, ?_⟩
                  have s93 := s2.trans s3
                  have h1 := s93 _ _ Cd h1
                  have h5 := h5.trans s93
                  refine ⟨_, rfl, _, rfl, (by show 2 ≤ sizeLine; decide), fun t nt => ⟨t, _, rfl, SqT.of upd_same, rfl, ?_⟩⟩
                  have lx : (nts xs).length = n := by rw [nts_length, h2]
                  refine ⟨_, _, rfl, _, rfl, _, rfl, C, nts xs, x, x, rfl, rfl, keep_new h1 nt, (by rw [lx]; exact ixNat xn), ?_⟩
                  refine ⟨_, _, rfl, _, rfl, _, rfl, C, _, y, y, rfl, rfl, upd_same, (by rw [List.length_set, lx]; exact ixNat yn), rfl, ?_⟩
                  have es : ((nts xs).set x (.int y)).set y (.int x) = nts ((xs.set x y).set y x) := by
                    unfold nts
                    rw [List.map_set, List.map_set]
                  rw [es]
                  refine ⟨_, rfl, k ((xs.set x y).set y x) C _ (by rw [List.length_set, List.length_set, h2]) (fun z hz => ?_) (sin c1 c2 c4 c5) HC upd_same (((z3.new nt).ne Cd).ne Cd) (((h5.new nt).at_new HC).at_new HC)⟩
                  rcases List.mem_or_eq_of_mem_set hz with q | q
                  · rcases List.mem_or_eq_of_mem_set q with q | q
                    · exact h3 z q
                    · rw [q]
                      exact yn
                  · rw [q]
                    exact xn
                · exact ⟨_, rfl, k xs C H9 h2 h3 (sin c1 c2 c4 c5) HC h1 h4 h5⟩
theorem ok_tableS {f g : Addr} {fd gd : FuncData} (F : Fun K "_law_table" "_law_table" sTable f fd) (FA : Fun K "_law_action" "_law_action" sAction g gd) (bA : Binds K gd ["dice", "size", "sort"] []) (mA : mg "_law_action" = some (.ref g)) (D : DefsD K mg) (T : TxI mg) (M : TxM mg) :
    FnOk P w K mg base CX0 3 f fd ["dice", "letters", "size", "sorts"] (spTableS K) := by
  have GO : FnOk P w K mg base CX0 2 D.fO D.dO ["dice", "items"] (spOneOf K) := ok_oneof D.O D.R D.bR D.mR T
  have GA : FnOk P w K mg base CX0 2 g gd ["dice", "size", "sort"] spActionS := ok_actionS FA D T M
  refine F.ok scTable (fun vs H Q E h => ?_) (fun cdv A outer s H vs Q E hr h => ?_)
  · obtain ⟨d, a, x, n, ss, rfl, _⟩ := h
    rfl
  · obtain ⟨d, a, x, n, ss, rfl, Z, hn, h10, hx, ha, ad, s0, s1, k⟩ := h
    have hr2 : Room 2 _ := hr.mono (by decide)
    refine ⟨_, pss_cons (ps_set (i := 4) scTable.nd rfl (Or.inr rfl) (pe_lc (own := [("letter", 5)]) (g := gName 5) (tt := tYes) rfl scTable.nd (pi_str (pv 1)) (blkOk_by (N := nTable) (sc := defScope sTable) (by decide +kernel)) (fun _ _ _ _ _ => pg_name (i := 5) scTable.nd rfl (Or.inl rfl)) (fun _ _ _ _ _ => pts_nil)
        (fun _ _ _ _ _ => pe_call GA hr2 rfl mA FA.kp bA .nil pass0 (pa_cons (pv 0) (pa_cons (pv 2) (pa_cons (pe_call GO hr2 rfl D.mO D.O.kp D.bO .nil pass0 (pa_cons (pv 0) (pa_cons (pv 3) pa_nil))) pa_nil))))))
      (pss_one (ps_ret (pe_lc (own := [("place", 7)]) (g := gName 7) (tt := tYes) (te := tPick K) rfl scTable.nd (pi_range1 rfl M.range (pa_cons (pv 2) pa_nil)) (blkOk_by (N := nTable) (sc := defScope sTable) (by decide +kernel)) (fun _ _ _ _ _ => pg_name (i := 7) scTable.nd rfl (Or.inr rfl)) (fun _ _ _ _ _ => pts_nil)
        (fun _ _ _ _ _ => pe_callTy call_tuple_of (by rfl) M.tuple (by decide +kernel : bootBuiltins "tuple" = some (.type "tuple")) (pa_cons (pe_lc (own := [("row", 6)]) (wi := iList K (tVar 4)) (g := gName 6) (tt := tYes) (te := tOp (rIxL K) (tVar 6) (tVar 7)) rfl scTable.nd (pi_list (pv 4)) (by exact blkOk_by (N := nTable) (sc := ⟨.function, [(".0", .local), ("place", .cell), ("tuple", .globalImplicit), ("rows", .cell)], false, false, []⟩) (scope := ⟨.function, [(".0", .local), ("row", .local), ("place", .free)], false, false, []⟩) (own := [("row", 6)]) (by decide +kernel)) (fun _ _ _ _ _ => pg_name (i := 6) scTable.nd rfl (Or.inl rfl)) (fun _ _ _ _ _ => pts_nil)
          (fun _ _ _ _ _ => pe_ix ix_list (pv 6) (pv 7) (fun _ _ => rfl))) pa_nil))))), ?_⟩
    refine ⟨_, rfl, x, rfl, fun C nC => ?_⟩
    have Cd : C ≠ d := Z.not nC
    refine lc_it walk_str (fun j H9 => ∃ (vs : List V) (rs : List (List Nat)), H9 C = some (.lst vs) ∧ rs.length = j ∧ RowsL d C H9 vs rs ∧ (∀ r ∈ rs, (r.length = n ∧ ∀ z ∈ r, z < n) ∧ ∃ i ∈ ss, SortIs i r) ∧ Dz H9 d ∧ Still d H H9)
      ⟨[], [], upd_same, rfl, ⟨rfl, fun i r h => by cases h⟩, (fun z hz => by cases hz), Z.new nC, (Still.refl d H).new nC⟩ (fun _ _ _ _ => trivial) ?_ ?_
    · rintro i y H9 H9' hi ⟨vs, rs, h1, h2, h3, h4, h5, h6⟩ ⟨rfl, c, hc, rfl⟩
      refine ⟨rfl, tYes_if ?_⟩
      refine ⟨_, rfl, _, rfl, _, rfl, _, rfl, d, a, _, rfl, h5, sq_still h6 ad ha, ad, by rw [List.length_map]; exact s0, by rw [List.length_map]; omega, fun v H2 hv T2 => ?_⟩
      obtain ⟨q, hqs, rfl⟩ := List.mem_map.mp hv
      have S2 : Still d H9' H2 := (Still.refl d H9').turn T2
      refine ⟨d, n, q, rfl, T2.dz, hn, h10, fun xs p H3 hl hlt si np hp z3 s3 => ?_⟩
      have S3 : Still d H9' H3 := S2.trans s3
      have pC : p ≠ C := fun e => by
        rw [e, S2 _ _ Cd h1] at np
        cases np
      have pd : p ≠ d := T2.dz.not np
      have hi10 : i < 10 := Nat.lt_of_lt_of_le hi hx
      have R3 : RowsL d C H3 (vs ++ [.ref p]) (rs ++ [xs]) := (h3.to fun b o h1 _ h => S3 b o h1 h).snoc pd pC hp
      refine ⟨vs, S3 _ _ Cd h1, ?_, vs ++ [.ref p], rs ++ [xs], upd_same, by rw [List.length_append, h2]; rfl, R3.to fun b o _ h2 h => by rw [upd_ne h2]; exact h, fun r hr => ?_, z3.ne Cd, (h6.trans S3).at_new nC⟩
      · rw [h3.1, h2]
        exact Nat.lt_trans hi10 (by decide)
      · rcases List.mem_append.mp hr with e | e
        · exact h4 r e
        · rw [List.mem_singleton.mp e]
          exact ⟨⟨hl, hlt⟩, q, hqs, si⟩
    · rintro H8 ⟨vs, rs, h1, h2, h3, h4, h5, h6⟩
      refine ⟨_, rfl, n, rfl, by omega, by omega, fun G nG => ?_⟩
      have Gd : G ≠ d := h5.not nG
      have HG : H G = none := h6.free h5 nG
      have hv10 : vs.length ≤ 10 := by
        rw [h3.1, h2]
        exact hx
      refine lc_range (lo := 0) (n := (n : Int).toNat) (fun j H9 => ∃ us : List V, H9 G = some (.lst us) ∧ RowsT d G H9 us ((List.range j).map (col rs)) ∧ ∀ b o, b ≠ G → H8 b = some o → H9 b = some o)
        ⟨[], upd_same, ⟨rfl, fun i r h => by cases h⟩, fun b o hb h => keep_new h nG⟩ ?_ ?_
      · rintro j H9 hj ⟨us, u1, u2, u3⟩
        have hj : j < n := by omega
        refine ⟨rfl, tYes_if ?_⟩
        have nG8 : ∀ {b : Addr} {o : HO}, H8 b = some o → b ≠ G := fun h z => by
          subst z
          rw [nG] at h
          cases h
        refine ⟨_, rfl, C, rfl, ⟨_, SqL.of (u3 _ _ (nG8 h1) h1)⟩, fun S nS => ?_⟩
        have S8 : ∀ {b : Addr} {o : HO}, H9 b = some o → b ≠ S := fun h z => by
          subst z
          rw [nS] at h
          cases h
        refine lc_list (K := K) (a := C) (xs := vs) (fun i H10 => H10 S = some (.lst (nts (col (rs.take i) j))) ∧ ∀ b o, b ≠ S → H9 b = some o → H10 b = some o)
          ⟨upd_same, fun b o hb h => keep_new h nS⟩ (fun i H10 _ ⟨_, z⟩ => SqL.of (z _ _ (S8 (u3 _ _ (nG8 h1) h1)) (u3 _ _ (nG8 h1) h1))) ?_ ?_
        · rintro i v H10 hv ⟨w1, w2⟩
          have hi : i < rs.length := by
            rw [← h3.1]
            exact (List.getElem?_eq_some_iff.mp hv).1
          obtain ⟨b, b1, b2, b3, b4⟩ := h3.2 i rs[i] (List.getElem?_eq_getElem hi)
          have ev : v = .ref b := Option.some.inj (hv.symm.trans b1)
          subst ev
          refine ⟨rfl, tYes_if ?_⟩
          have b5 := u3 _ _ (nG8 b4) b4
          have b6 := w2 _ _ (S8 b5) b5
          obtain ⟨⟨ln, _⟩, _⟩ := h4 rs[i] (List.getElem_mem hi)
          have ej : (0 : Int) + (j : Int) = (j : Int) := Int.zero_add _
          refine ⟨_, rfl, _, rfl, b, nts rs[i], 0 + (j : Int), .int ((rs[i].getD j 0 : Nat) : Int), rfl, rfl, SqL.of b6, by rw [ej]; exact nts_at (by omega), ?_⟩
          refine ⟨_, w1, ?_, ?_, fun b' o hb' h' => by rw [upd_ne hb']; exact w2 b' o hb' h'⟩
          · rw [nts_length]
            unfold col
            rw [List.length_map, List.length_take]
            exact Nat.lt_of_le_of_lt (Nat.le_trans (Nat.min_le_right _ _) (show rs.length ≤ 10 by rw [← h3.1]; exact hv10)) (by decide)
          · rw [upd_same, nts_append]
            unfold col
            rw [take_snoc (List.getElem?_eq_getElem hi), List.map_append]
            rfl
        · rintro H10 ⟨w1, w2⟩
          have et : rs.take vs.length = rs := by
            rw [h3.1]
            exact List.take_length
          rw [et] at w1
          refine ⟨S, _, rfl, .inl ⟨SqL.of w1, fun l nl => ?_⟩⟩
          have k10 : ∀ b o, H9 b = some o → H10 b = some o := fun b o h => w2 b o (S8 h) h
          have lG : l ≠ G := fun z => by
            rw [z, k10 _ _ u1] at nl
            cases nl
          obtain ⟨dl, dm, dc, dd, _⟩ := id h5
          have ld : l ≠ d := fun z => by
            rw [z, k10 _ _ (u3 _ _ Gd.symm dd)] at nl
            cases nl
          refine ⟨us, keep_new (k10 _ _ u1) nl, ?_, us ++ [.ref l], upd_same, ?_, fun b o hb h => ?_⟩
          · rw [u2.1, List.length_map, List.length_range]
            exact Nat.lt_of_lt_of_le (Nat.lt_of_lt_of_le hj h10) (by decide)
          · rw [List.range_succ, List.map_append]
            exact ((u2.to fun b o _ _ h => keep_new (k10 _ _ h) nl).snoc ld lG upd_same).to fun b o _ h2 h => by
              rw [upd_ne h2]
              exact h
          · rw [upd_ne hb]
            exact keep_new (k10 _ _ (u3 b o hb h)) nl
      · rintro H9 ⟨us, u1, u2, u3⟩
        have en : (n : Int).toNat = n := by omega
        rw [en] at u2
        obtain ⟨dl, dm, dc, dd, d1⟩ := id h5
        refine k ((List.range n).map (col rs)) us G H9 ⟨by rw [List.length_map, List.length_range], fun r hr => ?_⟩ (fun c hc => cols_sort h4 (by rw [h2]; exact hc)) HG Gd u1 u2 ⟨dl, dm, dc, u3 _ _ Gd.symm dd, d1⟩ fun b o hb h => u3 b o (fun z => by
          rw [z, HG] at h
          cases h) (h6 b o hb h)
        obtain ⟨s', hs', rfl⟩ := List.mem_map.mp hr
        have hs' : s' < n := List.mem_range.mp hs'
        refine ⟨by unfold col; rw [List.length_map, h2]; rfl, fun z hz => ?_⟩
        obtain ⟨r', hr', rfl⟩ := List.mem_map.mp hz
        obtain ⟨⟨l1, l2⟩, _⟩ := h4 r' hr'
        refine l2 _ ?_
        have : s' < r'.length := by omega
        simp [List.getD, List.getElem?_eq_getElem this]
end
end M3

set_option Elab.async false
set_option linter.all false
set_option maxRecDepth 100000
set_option maxHeartbeats 8000000
/-! # Tables that never turn -/
namespace M3
open PySem L2
theorem not_turned {g : List Nat} (h : ∀ q k, q < g.length → its g q (k + 1) = q → g.getD q 0 = q) : turned g = none := by
  unfold turned
  refine find_none fun q hq => ?_
  unfold turnedB comesB
  rw [Bool.and_eq_false_iff]
  by_cases c : g.getD q 0 = q
  · exact .inl (decide_eq_false fun z => z c)
  · refine .inr ?_
    rw [List.any_eq_false]
    intro k _
    rw [decide_eq_true_eq]
    exact fun e => c (h q k hq e)
/-- where a column leads -/
def stp (t : List (List Nat)) (c q : Nat) : Nat := (t.getD q []).getD c 0
theorem stp_lt {t : List (List Nat)} {m c q : Nat} (tb : IsTab t t.length m) (hc : c < m) (hq : q < t.length) : stp t c q < t.length := by
  have e := tb.2 t[q] (List.getElem_mem hq)
  unfold stp
  have ed : t.getD q [] = t[q] := by simp [List.getD, List.getElem?_eq_getElem hq]
  rw [ed]
  have hc2 : c < t[q].length := by rw [e.1]; exact hc
  have eg : t[q].getD c 0 = t[q][c] := by simp [List.getD, List.getElem?_eq_getElem hc2]
  rw [eg]
  exact e.2 _ (List.getElem_mem hc2)
theorem goes_cons {t : List (List Nat)} {x : Str} {q c : Nat} {cs : List Nat} : goes t x q (c :: cs) = goes t x (stp t (x.cps.toList.idxOf c) q) cs := rfl
theorem ix_lt {x : Str} {m c : Nat} (hm : x.cps.toList.length = m) (hc : c ∈ x.cps.toList) : x.cps.toList.idxOf c < m := by
  rw [← hm]
  exact List.idxOf_lt_length_of_mem hc
def MonoT (t : List (List Nat)) (m : Nat) : Prop := ∀ c, c < m → ∀ a b, a ≤ b → b < t.length → stp t c a ≤ stp t c b
def ExpT (t : List (List Nat)) (m : Nat) : Prop := ∀ c, c < m → (∀ q, q < t.length → q ≤ stp t c q) ∨ ∃ k, ∀ q, q < t.length → stp t c q = k
theorem mono_goes {t : List (List Nat)} {x : Str} {m : Nat} (tb : IsTab t t.length m) (hm : x.cps.toList.length = m) (M : MonoT t m) : ∀ (cs : List Nat), (∀ c ∈ cs, c ∈ x.cps.toList) → ∀ a b, a ≤ b → b < t.length → goes t x a cs ≤ goes t x b cs
  | [], _, a, b, h, _ => h
  | c :: cs, hw, a, b, h, hb => by
    rw [goes_cons, goes_cons]
    have hc := ix_lt hm (hw c List.mem_cons_self)
    exact mono_goes tb hm M cs (fun d hd => hw d (List.mem_cons_of_mem _ hd)) _ _ (M _ hc a b h hb) (stp_lt tb hc hb)
theorem exp_goes {t : List (List Nat)} {x : Str} {m : Nat} (tb : IsTab t t.length m) (hm : x.cps.toList.length = m) (M : ExpT t m) : ∀ (cs : List Nat), (∀ c ∈ cs, c ∈ x.cps.toList) → (∀ q, q < t.length → q ≤ goes t x q cs) ∨ ∃ k, ∀ q, q < t.length → goes t x q cs = k
  | [], _ => .inl fun q _ => Nat.le_refl _
  | c :: cs, hw => by
    have hc := ix_lt hm (hw c List.mem_cons_self)
    have ih := exp_goes tb hm M cs fun d hd => hw d (List.mem_cons_of_mem _ hd)
    rcases M _ hc with e | ⟨k, e⟩
    · rcases ih with f | ⟨k, f⟩
      · refine .inl fun q hq => ?_
        rw [goes_cons]
        exact Nat.le_trans (e q hq) (f _ (stp_lt tb hc hq))
      · refine .inr ⟨k, fun q hq => ?_⟩
        rw [goes_cons]
        exact f _ (stp_lt tb hc hq)
    · refine .inr ⟨goes t x k cs, fun q hq => ?_⟩
      rw [goes_cons, e q hq]
theorem act_pt {t : List (List Nat)} {x : Str} {cs : List Nat} {q : Nat} (h : q < t.length) : (act t x cs).getD q 0 = goes t x q cs := by
  refine getD_some' ?_
  unfold act
  rw [List.getElem?_map, List.getElem?_range h]
  rfl
theorem its_act {t : List (List Nat)} {x : Str} {m q : Nat} {cs : List Nat} (tb : IsTab t t.length m) (hm : x.cps.toList.length = m) (hw : ∀ c ∈ cs, c ∈ x.cps.toList) (hq : q < t.length) : ∀ k, its (act t x cs) q k < t.length ∧ its (act t x cs) q (k + 1) = goes t x (its (act t x cs) q k) cs := by
  have la : (act t x cs).length = t.length := by
    unfold act
    rw [List.length_map, List.length_range]
  intro k
  have h := its_lt (g := act t x cs) (q := q) (fun z hz => by rw [la]; exact act_lt tb hm hw z hz) (by rw [la]; exact hq) k
  rw [la] at h
  exact ⟨h, act_pt h⟩
theorem calm_mono {t : List (List Nat)} {x : Str} {m : Nat} {cs : List Nat} (tb : IsTab t t.length m) (hm : x.cps.toList.length = m) (M : MonoT t m) (hw : ∀ c ∈ cs, c ∈ x.cps.toList) : turned (act t x cs) = none := by
  have la : (act t x cs).length = t.length := by
    unfold act
    rw [List.length_map, List.length_range]
  refine not_turned fun q k hq e => ?_
  rw [la] at hq
  rw [act_pt hq]
  have st := fun j => its_act (cs := cs) tb hm hw hq j
  have g1 : its (act t x cs) q 1 = goes t x q cs := (st 0).2
  rcases Nat.lt_trichotomy (goes t x q cs) q with c | c | c
  · have : ∀ j, its (act t x cs) q (j + 1) ≤ goes t x q cs := by
      intro j
      induction j with
      | zero => rw [g1]; exact Nat.le_refl _
      | succ j ih =>
        rw [(st (j + 1)).2]
        exact mono_goes tb hm M cs hw _ _ (by omega) hq
    have := this k
    omega
  · exact c
  · have : ∀ j, goes t x q cs ≤ its (act t x cs) q (j + 1) := by
      intro j
      induction j with
      | zero => rw [g1]; exact Nat.le_refl _
      | succ j ih =>
        rw [(st (j + 1)).2]
        exact mono_goes tb hm M cs hw _ _ (by omega) (st (j + 1)).1
    have := this k
    omega
theorem calm_exp {t : List (List Nat)} {x : Str} {m : Nat} {cs : List Nat} (tb : IsTab t t.length m) (hm : x.cps.toList.length = m) (M : ExpT t m) (hw : ∀ c ∈ cs, c ∈ x.cps.toList) : turned (act t x cs) = none := by
  have la : (act t x cs).length = t.length := by
    unfold act
    rw [List.length_map, List.length_range]
  refine not_turned fun q k hq e => ?_
  rw [la] at hq
  rw [act_pt hq]
  have st := fun j => its_act (cs := cs) tb hm hw hq j
  have g1 : its (act t x cs) q 1 = goes t x q cs := (st 0).2
  rcases exp_goes tb hm M cs hw with f | ⟨c, f⟩
  · have : ∀ j, goes t x q cs ≤ its (act t x cs) q (j + 1) := by
      intro j
      induction j with
      | zero => rw [g1]; exact Nat.le_refl _
      | succ j ih =>
        rw [(st (j + 1)).2]
        exact Nat.le_trans ih (f _ (st (j + 1)).1)
    have h1 := this k
    have h2 := f q hq
    omega
  · have h1 := (st k).2
    rw [f _ (st k).1] at h1
    rw [f q hq]
    omega
/-- no action turns, so no turn is found -/
theorem among_calm {t : List (List Nat)} {x : Str} {m : Nat} (R : RightB x t m) (h : ∀ cs : List Nat, (∀ c ∈ cs, c ∈ x.cps.toList) → turned (act t x cs) = none) : among (bfs t x 256) = none := by
  have FA := bfs_found (mo := 256) R.tb R.st R.m2
  unfold among
  rw [List.findSome?_eq_none_iff]
  intro z hz
  obtain ⟨i, hi, ei⟩ := List.getElem_of_mem hz
  obtain ⟨_, _, h3, h4, _⟩ := FA i z (by rw [List.getElem?_eq_getElem hi, ei])
  rw [h4, h _ h3]
  rfl
theorem sort_mono {t : List (List Nat)} {m : Nat} {ss : List Int} (h : ∀ c, c < m → ∃ i ∈ ss, SortIs i (colOf t c)) (hs : ∀ i ∈ ss, i = 2 ∨ i = 4 ∨ i = 5) : MonoT t m := by
  intro c hc a b ab hb
  obtain ⟨i, hi, S⟩ := h c hc
  have lc : (colOf t c).length = t.length := by
    unfold colOf
    rw [List.length_map, List.length_range]
  have at_ : ∀ q (hq : q < t.length), (colOf t c)[q]'(by rw [lc]; exact hq) = stp t c q := fun q hq => by
    unfold colOf stp
    rw [List.getElem_map, List.getElem_range]
  have ha : a < t.length := by omega
  rcases hs i hi with e | e | e
  · obtain ⟨k, hk⟩ := S.one e
    rw [← at_ a ha, ← at_ b hb, hk _ (List.getElem_mem _), hk _ (List.getElem_mem _)]
    exact Nat.le_refl _
  · have hid := S.id e
    rw [← at_ a ha, ← at_ b hb]
    have g : ∀ q (hq : q < (colOf t c).length), (colOf t c)[q] = q := fun q hq => by
      have : (colOf t c)[q]? = (List.range (colOf t c).length)[q]? := by rw [← hid]
      rw [List.getElem?_eq_getElem hq, List.getElem?_range hq] at this
      exact Option.some.inj this
    rw [g, g]
    exact ab
  · rw [← at_ a ha, ← at_ b hb]
    rcases Nat.lt_or_ge a b with l | l
    · exact List.pairwise_iff_getElem.mp (S.asc e) a b (by rw [lc]; exact ha) (by rw [lc]; exact hb) l
    · have : a = b := by omega
      subst this
      exact Nat.le_refl _
theorem sort_exp {t : List (List Nat)} {m : Nat} {ss : List Int} (h : ∀ c, c < m → ∃ i ∈ ss, SortIs i (colOf t c)) (hs : ∀ i ∈ ss, i = 1 ∨ i = 2 ∨ i = 4) : ExpT t m := by
  intro c hc
  obtain ⟨i, hi, S⟩ := h c hc
  have lc : (colOf t c).length = t.length := by
    unfold colOf
    rw [List.length_map, List.length_range]
  have at_ : ∀ q (hq : q < t.length), (colOf t c)[q]'(by rw [lc]; exact hq) = stp t c q := fun q hq => by
    unfold colOf stp
    rw [List.getElem_map, List.getElem_range]
  rcases hs i hi with e | e | e
  · refine .inl fun q hq => ?_
    have := S.up e q (by rw [lc]; exact hq)
    rw [List.getD_eq_getElem?_getD, List.getElem?_eq_getElem (by rw [lc]; exact hq)] at this
    rw [← at_ q hq]
    exact this
  · obtain ⟨k, hk⟩ := S.one e
    refine .inr ⟨k, fun q hq => ?_⟩
    rw [← at_ q hq]
    exact hk _ (List.getElem_mem _)
  · refine .inl fun q hq => ?_
    have hid := S.id e
    have hq' : q < (colOf t c).length := by rw [lc]; exact hq
    have : (colOf t c)[q]? = (List.range (colOf t c).length)[q]? := by rw [← hid]
    rw [List.getElem?_eq_getElem hq', List.getElem?_range hq'] at this
    rw [← at_ q hq, Option.some.inj this]
    exact Nat.le_refl _
end M3

set_option Elab.async false
set_option linter.all false
set_option maxRecDepth 100000
set_option maxHeartbeats 8000000
/-! # _law_box -/
namespace M3
open PySem L2
abbrev sLawBox : Stmt := top 80
abbrev nLawBox : List Str := ["dice", "letters", "most", "size", "way", "table", "plain", "sorts"]
theorem scLawBox : FnScope nLawBox ["dice", "letters", "most"] (defScope sLawBox) := ⟨rfl, rfl, rfl, by decide +kernel, rfl, by decide +kernel, by decide +kernel⟩
/-- a list of tuples of numbers stands at p -/
structure LTab (d : Addr) (H : Hp) (p : Addr) (t : List (List Nat)) : Prop where
  ex : ∃ us : List V, p ≠ d ∧ H p = some (.lst us) ∧ us.length = t.length ∧ ∀ (i : Nat) (r : List Nat), t[i]? = some r → ∃ b : Addr, us[i]? = some (.ref b) ∧ H b = some (.tup (nts r))
theorem LTab.of {d p : Addr} {H : Hp} {us : List V} {t : List (List Nat)} (pd : p ≠ d) (hp : H p = some (.lst us)) (R : RowsT d p H us t) : LTab d H p t := ⟨us, pd, hp, R.1, fun i r e => by
  obtain ⟨a, h1, _, _, h4⟩ := R.2 i r e
  exact ⟨a, h1, h4⟩⟩
theorem LTab.still {d p : Addr} {H H' : Hp} {t : List (List Nat)} (h : LTab d H p t) (z : Dz H d) (s : Still d H H') : LTab d H' p t := by
  obtain ⟨us, pd, hp, hl, R⟩ := h
  obtain ⟨l, m, c, e, _⟩ := z
  refine ⟨us, pd, s _ _ pd hp, hl, fun i r hr => ?_⟩
  obtain ⟨b, h1, h2⟩ := R i r hr
  exact ⟨b, h1, s _ _ (fun q => by rw [q, e] at h2; cases h2) h2⟩
theorem LTab.same {d p : Addr} {H H' : Hp} {t : List (List Nat)} (h : LTab d H p t) (s : Same H H') : LTab d H' p t := by
  obtain ⟨us, pd, hp, hl, R⟩ := h
  refine ⟨us, pd, s _ _ hp, hl, fun i r hr => ?_⟩
  obtain ⟨b, h1, h2⟩ := R i r hr
  exact ⟨b, h1, s _ _ h2⟩
theorem LTab.off {d p D : Addr} {H : Hp} {t : List (List Nat)} {xs ys : List V} (h : LTab d H p t) (hD : H D = some (.lst xs)) (pD : p ≠ D) : LTab d (upd H D (.lst ys)) p t := by
  obtain ⟨us, pd, hp, hl, R⟩ := h
  refine ⟨us, pd, by rw [upd_ne pD]; exact hp, hl, fun i r hr => ?_⟩
  obtain ⟨b, h1, h2⟩ := R i r hr
  exact ⟨b, h1, by rw [upd_ne (ne_of h2 hD (fun z => by cases z))]; exact h2⟩
theorem LTab.tups {K : PySem.W.Frag} {d p : Addr} {H : Hp} {t : List (List Nat)} (h : LTab d H p t) : ∃ us : List V, SqL K H p us ∧ Tups K H us t := by
  obtain ⟨us, _, hp, hl, R⟩ := h
  exact ⟨us, SqL.of hp, hl, fun i r hr => by
    obtain ⟨b, h1, h2⟩ := R i r hr
    exact ⟨b, h1, SqT.of h2⟩⟩
def spLawBox : Sp := fun vs H Q _ => ∃ (d : Addr) (x : Str) (m : Nat), vs = [.ref d, .str x, .int 4] ∧ Dz H d ∧ IsSet x m ∧ 1 ≤ m ∧ m ≤ 2 ∧
  ∀ (t : List (List Nat)) (p : Addr) (H' : Hp), RightB x t m → among (bfs t x 256) = none → LTab d H' p t → Dz H' d → Still d H H' → Q (.ref p) H'
theorem turnis_non {K : PySem.W.Frag} {H H' : Hp} {o : Option (Str × Nat)} {v : V} (h : TurnIs K H H' o v) : decide (v = .non) = decide (o = none) := by
  match o, h with
  | none, h => rw [show v = .non from h]; rfl
  | some (y, q), h =>
    obtain ⟨T, rfl, _⟩ := h
    rfl
section
variable {P : Program} {w : World} {K : PySem.W.Frag} {mg : Str → Option Value} {base : Heap}
theorem ok_lawbox {f : Addr} {fd : FuncData} (F : Fun K "_law_box" "_law_box" sLawBox f fd) (cR : FnC P w K mg base 1 "_law_roll" ["dice", "total"] spDraw) (cT : FnC P w K mg base 3 "_law_table" ["dice", "letters", "size", "sorts"] (spTableS K))
    (cF : FnC P w K mg base 2 "_law_first_turn" ["table", "letters"] (spFirstT K)) : FnOk P w K mg base CX0 4 f fd ["dice", "letters", "most"] spLawBox := by
  refine F.ok scLawBox (fun vs H Q E h => ?_) (fun cdv A outer s H vs Q E hr h => ?_)
  · obtain ⟨d, x, m, rfl, _⟩ := h
    rfl
  · obtain ⟨d, x, m, rfl, Z, st, m1, m2, k⟩ := h
    have hr2 : Room 2 _ := hr.mono (by decide)
    have hr1 : Room 1 _ := hr.mono (by decide)
    refine ⟨_, pss_cons (ps_asg (pe_tup (pa_cons (pe_op op_add pe_int (pe_call cR.G hr1 rfl cR.m cR.kp cR.b .nil pass0 (pa_cons (pv 0) (pa_cons (pv 2) pa_nil)))) (pa_cons (pe_call cR.G hr1 rfl cR.m cR.kp cR.b .nil pass0 (pa_cons (pv 0) (pa_cons pe_int pa_nil))) pa_nil))) (pg_tup rfl (pgs_cons (pg_name (i := 3) scLawBox.nd rfl (Or.inr rfl)) (pgs_cons (pg_name (i := 4) scLawBox.nd rfl (Or.inl rfl)) pgs_nil))))
      (pss_cons (ps_if (pt_cmpR op_eq (pv 4) pe_int (nomark _)) (pss_one (ps_ret (pe_call cT.G hr rfl cT.m cT.kp cT.b .nil pass0 (pa_cons (pv 0) (pa_cons (pv 1) (pa_cons (pv 3) (pa_cons (pe_lst (pa_cons pe_int (pa_cons pe_int (pa_cons pe_int (pa_cons pe_int pa_nil))))) pa_nil))))))) pss_nil)
      (pss_cons (ps_asg (pe_lc (own := [("sorts", 7)]) (g := gName 7) (tt := tYes) rfl scLawBox.nd (pi_tup (pe_tup (pa_cons (pe_lst (pa_cons pe_int (pa_cons pe_int (pa_cons pe_int (pa_cons pe_int (pa_cons pe_int pa_nil)))))) (pa_cons (pe_lst (pa_cons pe_int (pa_cons pe_int (pa_cons pe_int (pa_cons pe_int pa_nil))))) pa_nil)))) (blkOk_by (N := nLawBox) (sc := defScope sLawBox) (by decide +kernel)) (fun _ _ _ _ _ => pg_name (i := 7) scLawBox.nd rfl (Or.inl rfl)) (fun _ _ _ _ _ => pts_nil)
          (fun _ _ _ _ _ => pe_call cT.G hr rfl cT.m cT.kp cT.b .nil pass0 (pa_cons (pv 0) (pa_cons (pv 1) (pa_cons (pv 3) (pa_cons (pv 7) pa_nil)))))) (pg_lst rfl (pgs_cons (pg_name (i := 5) scLawBox.nd rfl (Or.inl rfl)) (pgs_cons (pg_name (i := 6) scLawBox.nd rfl (Or.inl rfl)) pgs_nil))))
      (pss_one (ps_ret (pe_ifExp (PW.pt (pw_and (pt_cmpR op_eq (pv 4) pe_int (nomark _)) (pw_and1 (pt_cmpR op_isN (pe_call cF.G hr2 rfl cF.m cF.kp cF.b .nil pass0 (pa_cons (pv 5) (pa_cons (pv 1) pa_nil))) pe_non (nomark _))))) (pv 5) (pv 6)))))), ?_⟩
    have lx := set_len st
    have hcx : x.cps.toList.length = m := by simpa [Str.length] using lx
    refine ⟨_, rfl, _, rfl, d, 4, rfl, Z, by decide, by decide, fun r0 H1 r4 Z1 S1 => ⟨_, _, rfl, rfl, ?_⟩⟩
    refine ⟨_, rfl, d, 3, rfl, Z1, by decide, by decide, fun way H2 w3 Z2 S2 => ⟨(by show 2 ≤ sizeLine; decide), fun T nT => ⟨T, _, rfl, SqT.of upd_same, rfl, _, _, rfl, _, _, rfl, rfl, ?_⟩⟩⟩
    have e1 : (1 : Int) + (r0 : Int) = ((1 + r0 : Nat) : Int) := by omega
    dsimp only
    rw [e1]
    have S3 : Still d H (upd H2 T (.tup [.int ((1 + r0 : Nat) : Int), .int (way : Nat)])) := (S1.trans S2).new nT
    have Z3 : Dz (upd H2 T (.tup [.int ((1 + r0 : Nat) : Int), .int (way : Nat)])) d := Z2.new nT
    generalize upd H2 T (.tup [.int ((1 + r0 : Nat) : Int), .int (way : Nat)]) = H3 at S3 Z3 ⊢
    generalize hn : 1 + r0 = n
    have n1 : 1 ≤ n := by omega
    have n4 : n ≤ 4 := by omega
    clear e1 Z1 Z2 S1 S2 nT
    have right : ∀ {t : List (List Nat)}, IsTab t n x.length → RightB x t m := fun {t} tb => by
      rw [lx] at tb
      exact ⟨st, m1, m2, by rw [tb.1]; exact tb, by rw [tb.1]; exact n1, by rw [tb.1]; exact n4⟩
    refine ⟨_, rfl, rfl, _, rfl, ?_⟩
    refine ite2 (fun _ => ?_) (fun _ => ?_)
    · refine ⟨_, rfl, _, rfl, _, rfl, (by show 4 ≤ sizeLine; decide), fun L nL => ?_⟩
      refine ⟨d, L, x, n, [5, 5, 2, 4], rfl, Z3.new nL, n1, by omega, by omega, SqL.of upd_same, Z3.not nL, by decide, by decide, fun t us p H' tb srt np pd hp R Z' S' => ?_⟩
      have Rb := right tb
      refine k t p H' Rb (among_calm Rb fun cs hw => calm_mono Rb.tb hcx (sort_mono (by rw [lx] at srt; exact srt) (by decide)) hw) (LTab.of pd hp R) Z' ((S3.new nL).trans S')
    · refine ⟨(by show 5 ≤ sizeLine; decide), fun L1 nL1 => ⟨(by show 4 ≤ sizeLine; decide), fun L2 nL2 => ⟨(by show 2 ≤ sizeLine; decide), fun T9 nT9 => ⟨T9, rfl, ⟨_, SqT.of upd_same⟩, fun D nD => ?_⟩⟩⟩⟩
      have hL1 : (upd (upd (upd H3 L1 (.lst [.int 0, .int 0, .int 2, .int 3, .int 6])) L2 (.lst [.int 1, .int 1, .int 2, .int 4])) T9 (.tup [.ref L1, .ref L2])) L1 = some (.lst ([0, 0, 2, 3, 6].map V.int)) := keep_new (keep_new upd_same nL2) nT9
      have hL2 : (upd (upd (upd H3 L1 (.lst [.int 0, .int 0, .int 2, .int 3, .int 6])) L2 (.lst [.int 1, .int 1, .int 2, .int 4])) T9 (.tup [.ref L1, .ref L2])) L2 = some (.lst ([1, 1, 2, 4].map V.int)) := keep_new upd_same nT9
      have hT9 : (upd (upd (upd H3 L1 (.lst [.int 0, .int 0, .int 2, .int 3, .int 6])) L2 (.lst [.int 1, .int 1, .int 2, .int 4])) T9 (.tup [.ref L1, .ref L2])) T9 = some (.tup [.ref L1, .ref L2]) := upd_same
      have Z4 : Dz (upd (upd (upd H3 L1 (.lst [.int 0, .int 0, .int 2, .int 3, .int 6])) L2 (.lst [.int 1, .int 1, .int 2, .int 4])) T9 (.tup [.ref L1, .ref L2])) d := ((Z3.new nL1).new nL2).new nT9
      have S4 : Still d H (upd (upd (upd H3 L1 (.lst [.int 0, .int 0, .int 2, .int 3, .int 6])) L2 (.lst [.int 1, .int 1, .int 2, .int 4])) T9 (.tup [.ref L1, .ref L2])) := ((S3.new nL1).new nL2).new nT9
      have L1d : L1 ≠ d := Z3.not nL1
      have L2d : L2 ≠ d := (Z3.new nL1).not nL2
      generalize upd (upd (upd H3 L1 (.lst [.int 0, .int 0, .int 2, .int 3, .int 6])) L2 (.lst [.int 1, .int 1, .int 2, .int 4])) T9 (.tup [.ref L1, .ref L2]) = H4 at hL1 hL2 hT9 Z4 S4 nD ⊢
      clear nL1 nL2 nT9 S3 Z3
      have Dd : D ≠ d := Z4.not nD
      have DL1 : L1 ≠ D := ne_of_none hL1 nD
      have DL2 : L2 ≠ D := ne_of_none hL2 nD
      refine lc_tup (K := K) (a := T9) (xs := [.ref L1, .ref L2]) (fun j H9 => ∃ ps : List (Addr × List (List Nat)), H9 D = some (.lst (ps.map fun z => V.ref z.1)) ∧ ps.length = j ∧ (∀ z ∈ ps, z.1 ≠ D ∧ LTab d H9 z.1 z.2 ∧ IsTab z.2 n x.length) ∧ (∀ z, ps[1]? = some z → ExpT z.2 m) ∧ Dz H9 d ∧ Still d H H9 ∧ H9 L1 = some (.lst ([0, 0, 2, 3, 6].map V.int)) ∧ H9 L2 = some (.lst ([1, 1, 2, 4].map V.int)) ∧ H9 T9 = some (.tup [.ref L1, .ref L2]))
        ⟨[], upd_same, rfl, (fun z hz => by cases hz), (fun z hz => by cases hz), Z4.new nD, S4.new nD, keep_new hL1 nD, keep_new hL2 nD, keep_new hT9 nD⟩ (fun j H9 _ ⟨_, _, _, _, _, _, _, _, _, z⟩ => SqT.of z) ?_ ?_
      · rintro j v H9 hv ⟨ps, p1, p2, p3, p4, p5, p6, p7, p8, p9⟩
        have j2 : j < 2 := (List.getElem?_eq_some_iff.mp hv).1
        refine ⟨rfl, tYes_if ?_⟩
        have pick : ∃ (L : Addr) (ss : List Int), v = .ref L ∧ H9 L = some (.lst (ss.map V.int)) ∧ L ≠ d ∧ 0 < ss.length ∧ ss.length < 1000 ∧ (j = 1 → ∀ i ∈ ss, i = 1 ∨ i = 2 ∨ i = 4) := by
          match j, hv with
          | 0, hv => exact ⟨L1, [0, 0, 2, 3, 6], (Option.some.inj hv).symm, p7, L1d, by decide, by decide, fun z => by cases z⟩
          | 1, hv => exact ⟨L2, [1, 1, 2, 4], (Option.some.inj hv).symm, p8, L2d, by decide, by decide, fun _ => by decide⟩
        obtain ⟨L, ss, rfl, q1, q2, q3, q4, q5⟩ := pick
        refine ⟨_, rfl, _, rfl, _, rfl, _, rfl, d, L, x, n, ss, rfl, p5, n1, by omega, by omega, SqL.of q1, q2, q3, q4, fun t us p H' tb srt np pd hp R Z' S' => ?_⟩
        have pD : p ≠ D := fun z => by rw [z, p1] at np; cases np
        have hD' : H' D = some (.lst (ps.map fun z => V.ref z.1)) := S' _ _ Dd p1
        refine ⟨_, hD', ?_, ps ++ [(p, t)], by rw [upd_same, List.map_append]; rfl, by rw [List.length_append, p2]; rfl, fun z hz => ?_, fun z hz => ?_, Z'.ne Dd, fun b o hb h => ?_, by rw [upd_ne DL1]; exact S' _ _ L1d p7, by rw [upd_ne DL2]; exact S' _ _ L2d p8, ?_⟩
        · rw [List.length_map, p2]
          exact Nat.lt_trans j2 (by decide)
        · rcases List.mem_append.mp hz with h | h
          · obtain ⟨z1, z2, z3⟩ := p3 z h
            exact ⟨z1, (z2.still p5 S').off hD' z1, z3⟩
          · rw [List.mem_singleton.mp h]
            exact ⟨pD, (LTab.of pd hp R).off hD' pD, tb⟩
        · rcases snoc_at hz with h | ⟨h1, h2⟩
          · exact p4 z h
          · rw [h2]
            rw [lx] at srt
            exact sort_exp srt (q5 (by rw [← p2]; exact h1.symm))
        · have bD : b ≠ D := fun z => by
            rw [z] at h
            have := S4 b o hb (by rw [z]; exact h)
            rw [z, nD] at this
            cases this
          rw [upd_ne bD]
          exact S' b o hb (p6 b o hb h)
        · rw [upd_ne (ne_of p9 p1 (fun z => by cases z))]
          exact S' _ _ (fun z => by obtain ⟨l, m, c, e, _⟩ := p5; rw [z, e] at p9; cases p9) p9
      · rintro H9 ⟨ps, p1, p2, p3, p4, p5, p6, p7, p8, p9⟩
        have p2 : ps.length = 2 := p2
        match ps, p2, p1, p3, p4 with
        | [(p, t), (q, t')], _, p1, p3, p4 =>
          obtain ⟨_, A1, T1⟩ := p3 (p, t) (by simp)
          obtain ⟨_, A2, T2⟩ := p3 (q, t') (by simp)
          have E2 : ExpT t' m := p4 (q, t') rfl
          have R1 : RightB x t m := right T1
          have R2 : RightB x t' m := right T2
          have two : among (bfs t' x 256) = none := among_calm R2 fun cs hw => calm_exp R2.tb hcx E2 hw
          refine ⟨D, _, rfl, SqL.of p1, rfl, _, _, rfl, _, _, rfl, rfl, ?_⟩
          have S9 : Still d H H9 := p6
          have B2 : LTab d H9 q t' := A2
          obtain ⟨us, u1, u2⟩ := A1.tups (K := K)
          have pl : ∀ H' : Hp, Same H9 H' → Q (.ref q) H' := fun H' s' => k t' q H' R2 two (B2.same s') (by obtain ⟨l, m, c, e, r⟩ := p5; exact ⟨l, m, c, s' _ _ e, r⟩) (S9.trans fun b o _ h => s' b o h)
          refine ⟨_, rfl, rfl, _, rfl, ?_⟩
          refine ite2 (fun _ => ?_) (fun _ => ?_)
          · refine ⟨_, rfl, _, rfl, p, x, us, t, m, rfl, u1, u2, R1, fun v H' tv s' => ⟨rfl, _, rfl, ?_⟩⟩
            rw [turnis_non tv]
            refine ite2 (fun c => ?_) (fun _ => ?_)
            · exact ⟨_, rfl, k t p H' R1 (of_decide_eq_true c) (LTab.same A1 s') (by obtain ⟨l, m, c, e, r⟩ := p5; exact ⟨l, m, c, s' _ _ e, r⟩) (S9.trans fun b o _ h => s' b o h)⟩
            · exact ⟨_, rfl, pl H' s'⟩
          · exact ⟨_, rfl, pl H9 (Same.refl H9)⟩
end
end M3

set_option Elab.async false
set_option linter.all false
set_option maxRecDepth 100000
set_option maxHeartbeats 8000000
/-! # _law_made_box, _law_near_table -/
namespace M3
open PySem L2
abbrev sMadeBox : Stmt := top 81
theorem scMadeBox : FnScope ["letters", "table"] ["letters", "table"] (defScope sMadeBox) := ⟨rfl, rfl, rfl, by decide +kernel, rfl, by decide +kernel, by decide +kernel⟩
def rLstOf (K : PySem.W.Frag) : List V → Hp → VK → Prop := fun xs H Q => ∃ p ys, xs = [V.ref p] ∧ (SqL K H p ys ∨ SqT K H p ys) ∧ ∀ l, H l = none → Q (.ref l) (upd H l (.lst ys))
def spMadeBox (K : PySem.W.Frag) (C : Addr) : Sp := fun vs H Q _ => ∃ (p : Addr) (x : Str) (us : List V) (t : List (List Nat)) (m : Nat), vs = [.str x, .ref p] ∧ SqL K H p us ∧ Tups K H us t ∧ RightB x t m ∧ among (bfs t x 256) = none ∧
  ∀ (b : Addr) (H' : Hp), H b = none → BoxAt K C H' b x t → Same H H' → Q (.ref b) H'
section
variable {P : Program} {w : World} {K : PySem.W.Frag} {mg : Str → Option Value} {base : Heap} {C cG : Addr}
theorem ok_madebox {f gI : Addr} {fd dI : FuncData} (F : Fun K "_law_made_box" "_law_made_box" sMadeBox f fd) (MK : Mk K C gI) (GI : FnOk P w K mg base (L2.CX P w) 4 gI dI ["self", "letters", "table"] (spBoxInit K C cG)) (bI : Binds K dI ["self", "letters", "table"] []) (mC : mg "Box" = some (.ref C)) (M : TxM mg) :
    FnOk P w K mg base CX0 6 f fd ["letters", "table"] (spMadeBox K C) := by
  refine F.ok scMadeBox (fun vs H Q E h => ?_) (fun cdv A outer s H vs Q E hr h => ?_)
  · obtain ⟨p, x, us, t, m, rfl, _⟩ := h
    rfl
  · obtain ⟨p, x, us, t, m, rfl, hp, hT, R, no, k⟩ := h
    refine ⟨_, pss_one (ps_ret (pe_make MK GI hr rfl mC bI .nil passL (pa_cons (pv 0) (pa_cons (pe_callTy call_tuple_of (by rfl) M.tuple (by decide +kernel) (pa_cons (pv 1) pa_nil)) pa_nil)))), ?_⟩
    refine ⟨_, rfl, _, rfl, p, us, rfl, .inl ⟨hp, fun l nl => ?_⟩⟩
    intro b dx nb ndx nex
    have s1 : Same H (upd H l (.tup us)) := Same.new (Same.refl H) nl
    have hl : (upd H l (.tup us)) l = some (.tup us) := upd_same
    have nbH : H b = none := by
      cases e : H b with
      | none => rfl
      | some o =>
        have := s1 _ _ e
        rw [nb] at this
        cases this
    generalize upd H l (.tup us) = H1 at s1 hl nb ndx ⊢
    have s3 : Same H1 (upd (upd H1 dx (.own b)) b (.ins C dx [])) := Same.new (Same.new (Same.refl H1) ndx) (by rw [upd_ne (Ne.symm nex)]; exact nb)
    refine ⟨b, dx, l, x, us, t, m, rfl, upd_same, R, SqT.of (s3 _ _ hl), (hT.same s1).same s3, fun _ H' hq kp => ⟨rfl, ?_⟩, fun y q e => by rw [no] at e; cases e⟩
    have s4 : Same H1 H' := fun c o h => kp c o (fun z => by rw [z, nb] at h; cases h) (s3 _ _ h)
    exact k b H' nbH ⟨dx, l, us, hq, SqT.of (s4 _ _ hl), (hT.same s1).same s4⟩ (s1.trans s4)
/-- lists of numbers, each of its own -/
structure FoundL (d C : Addr) (H : Hp) (bs : List Addr) (rs : List (List Nat)) : Prop where
  len : bs.length = rs.length
  nd : bs.Nodup
  at_ : ∀ (i : Nat) (b : Addr) (r : List Nat), bs[i]? = some b → rs[i]? = some r → b ≠ C ∧ b ≠ d ∧ H b = some (.lst (nts r))
end
end M3

set_option Elab.async false
set_option linter.all false
set_option maxRecDepth 100000
set_option maxHeartbeats 8000000
/-! # Places by their first words, and what a lean table is: on lists -/
namespace M3
open PySem L2
/-- one place further by one letter, if it is new -/
def addF (q : Nat) (w : Str) (c : Nat) (F : List (Nat × Str)) : List (Nat × Str) := if q ∈ F.map Prod.fst then F else F ++ [(q, w ++ ⟨#[c]⟩)]
/-- .. by the first letters, so many -/
def rowF (r : List Nat) (x : Str) (w : Str) (F : List (Nat × Str)) : Nat → List (Nat × Str)
  | 0 => F
  | j + 1 => addF (r.getD j 0) w (x.cps.toList.getD j 0) (rowF r x w F j)
/-- one found place after the other -/
def frsL (t : List (List Nat)) (x : Str) : Nat → Nat → List (Nat × Str) → List (Nat × Str)
  | 0, _, F => F
  | n + 1, i, F => match F[i]? with
    | none => F
    | some z => frsL t x n (i + 1) (rowF (t.getD z.1 []) x z.2 F x.cps.size)
/-- the places to which words lead, with their first words -/
def frs (t : List (List Nat)) (x : Str) : List (Nat × Str) := frsL t x 100000 0 [(0, "")]
def ordF (t : List (List Nat)) (x : Str) : List Nat := (frs t x).map Prod.fst
def leanT (t : List (List Nat)) (x : Str) : List (List Nat) := (ordF t x).map fun p => (t.getD p []).map fun q => (ordF t x).idxOf q
theorem addF_pre {q c : Nat} {w : Str} {F : List (Nat × Str)} : F <+: addF q w c F := by
  unfold addF
  split
  · exact List.prefix_refl _
  · exact List.prefix_append _ _
theorem rowF_pre {r : List Nat} {x w : Str} {F : List (Nat × Str)} : ∀ n, F <+: rowF r x w F n
  | 0 => List.prefix_refl _
  | n + 1 => (rowF_pre n).trans addF_pre
theorem addF_mem {q c : Nat} {w : Str} {F : List (Nat × Str)} : q ∈ (addF q w c F).map Prod.fst := by
  unfold addF
  split
  · assumption
  · simp
theorem addF_old {q c : Nat} {w : Str} {F : List (Nat × Str)} (h : q ∈ F.map Prod.fst) : addF q w c F = F := if_pos h
theorem addF_new {q c : Nat} {w : Str} {F : List (Nat × Str)} (h : q ∉ F.map Prod.fst) : addF q w c F = F ++ [(q, w ++ ⟨#[c]⟩)] := if_neg h
theorem pre_mem {F G : List (Nat × Str)} (h : F <+: G) {q : Nat} (hq : q ∈ F.map Prod.fst) : q ∈ G.map Prod.fst := (h.map Prod.fst).subset hq
theorem rowF_mem {r : List Nat} {x w : Str} {F : List (Nat × Str)} : ∀ {n j : Nat}, j < n → r.getD j 0 ∈ (rowF r x w F n).map Prod.fst
  | n + 1, j, h => by
    by_cases e : j = n
    · subst e
      exact addF_mem
    · exact pre_mem addF_pre (rowF_mem (show j < n by omega))
theorem addF_nodup {q c : Nat} {w : Str} {F : List (Nat × Str)} (h : (F.map Prod.fst).Nodup) : ((addF q w c F).map Prod.fst).Nodup := by
  unfold addF
  split
  · exact h
  · rename_i n
    rw [List.map_append, List.nodup_append]
    refine ⟨h, by simp, fun y hy z hz e => ?_⟩
    have hz : z ∈ [q] := hz
    rw [List.mem_singleton.mp hz] at e
    rw [e] at hy
    exact n hy
theorem rowF_nodup {r : List Nat} {x w : Str} {F : List (Nat × Str)} (h : (F.map Prod.fst).Nodup) : ∀ n, ((rowF r x w F n).map Prod.fst).Nodup
  | 0 => h
  | n + 1 => addF_nodup (rowF_nodup h n)
theorem addF_lt {q c k : Nat} {w : Str} {F : List (Nat × Str)} (hq : q < k) (h : ∀ p ∈ F.map Prod.fst, p < k) : ∀ p ∈ (addF q w c F).map Prod.fst, p < k := by
  unfold addF
  split
  · exact h
  · intro p hp
    rw [List.map_append] at hp
    rcases List.mem_append.mp hp with hp | hp
    · exact h p hp
    · have hp : p ∈ [q] := hp
      rw [List.mem_singleton.mp hp]
      exact hq
theorem getD_mem_lt {r : List Nat} {k j : Nat} (h : ∀ z ∈ r, z < k) (hj : j < r.length) : r.getD j 0 < k := by
  rw [List.getD_eq_getElem?_getD, List.getElem?_eq_getElem hj]
  exact h _ (List.getElem_mem hj)
theorem rowF_lt {r : List Nat} {x w : Str} {F : List (Nat × Str)} {k : Nat} (hr : ∀ z ∈ r, z < k) (h : ∀ p ∈ F.map Prod.fst, p < k) : ∀ n, n ≤ r.length → ∀ p ∈ (rowF r x w F n).map Prod.fst, p < k
  | 0, _ => h
  | n + 1, hn => addF_lt (getD_mem_lt hr (by omega)) (rowF_lt hr h n (by omega))
theorem nodup_lt_len {l : List Nat} {k : Nat} (nd : l.Nodup) (h : ∀ p ∈ l, p < k) : l.length ≤ k := by
  have s : l ⊆ List.range k := fun p hp => List.mem_range.mpr (h p hp)
  have := List.Nodup.length_le_of_subset nd s
  rwa [List.length_range] at this
/-- so many of the found places are looked at: their next ones are found -/
def Seen (t : List (List Nat)) (m i : Nat) (F : List (Nat × Str)) : Prop := ∀ (k : Nat) (z : Nat × Str), k < i → F[k]? = some z → ∀ j, j < m → (t.getD z.1 []).getD j 0 ∈ F.map Prod.fst
theorem pre_at {F G : List (Nat × Str)} (h : F <+: G) {i : Nat} {z : Nat × Str} (e : F[i]? = some z) : G[i]? = some z := by
  obtain ⟨R, rfl⟩ := h
  rw [List.getElem?_append_left (List.getElem?_eq_some_iff.mp e).1]
  exact e
theorem row_tab {t : List (List Nat)} {m q : Nat} (tb : IsTab t t.length m) (hq : q < t.length) : (t.getD q []).length = m ∧ ∀ z ∈ t.getD q [], z < t.length := by
  have e : t.getD q [] = t[q] := by simp [List.getD, List.getElem?_eq_getElem hq]
  rw [e]
  exact tb.2 _ (List.getElem_mem hq)
/-- what holds of the places found so far -/
structure FF (t : List (List Nat)) (m i : Nat) (F : List (Nat × Str)) : Prop where
  nd : (F.map Prod.fst).Nodup
  lt : ∀ p ∈ F.map Prod.fst, p < t.length
  sn : Seen t m i F
theorem FF.step {t : List (List Nat)} {x : Str} {m i : Nat} {F : List (Nat × Str)} {z : Nat × Str} (tb : IsTab t t.length m) (hm : x.cps.size = m) (h : FF t m i F) (e : F[i]? = some z) : FF t m (i + 1) (rowF (t.getD z.1 []) x z.2 F x.cps.size) := by
  have hz : z.1 < t.length := h.lt _ (List.mem_map.mpr ⟨z, List.mem_of_getElem? e, rfl⟩)
  obtain ⟨l1, l2⟩ := row_tab tb hz
  refine ⟨rowF_nodup h.nd _, rowF_lt l2 h.lt _ (by omega), fun k y hk ey j hj => ?_⟩
  by_cases q : k = i
  · subst q
    have ez := pre_at (rowF_pre (r := t.getD z.1 []) (x := x) (w := z.2) x.cps.size) e
    rw [ez] at ey
    cases ey
    exact rowF_mem (by omega)
  · have hl : k < F.length := by
      have := (List.getElem?_eq_some_iff.mp e).1
      omega
    have ek := List.getElem?_eq_getElem hl
    have ek2 := pre_at (rowF_pre (r := t.getD z.1 []) (x := x) (w := z.2) x.cps.size) ek
    rw [ek2] at ey
    cases ey
    exact pre_mem (rowF_pre _) (h.sn k _ (by omega) ek j hj)
theorem FF.len {t : List (List Nat)} {m i : Nat} {F : List (Nat × Str)} (h : FF t m i F) : F.length ≤ t.length := by
  have := nodup_lt_len h.nd h.lt
  rwa [List.length_map] at this
theorem frsL_end {t : List (List Nat)} {x : Str} {m : Nat} (tb : IsTab t t.length m) (hm : x.cps.size = m) : ∀ (n i : Nat) (F : List (Nat × Str)), FF t m i F → t.length ≤ n + i → F <+: frsL t x n i F ∧ FF t m (frsL t x n i F).length (frsL t x n i F)
  | 0, i, F, h, hn => by
    have := h.len
    exact ⟨List.prefix_refl _, h.nd, h.lt, fun k z hk e => h.sn k z (by
      have hk : k < F.length := hk
      omega) e⟩
  | n + 1, i, F, h, hn => by
    unfold frsL
    cases e : F[i]? with
    | none =>
      have := List.getElem?_eq_none_iff.mp e
      exact ⟨List.prefix_refl _, h.nd, h.lt, fun k z hk e => h.sn k z (by
        have hk : k < F.length := hk
        omega) e⟩
    | some z =>
      obtain ⟨a, b⟩ := frsL_end tb hm n (i + 1) _ (h.step tb hm e) (by omega)
      exact ⟨(rowF_pre _).trans a, b⟩
theorem FF.start {t : List (List Nat)} {m : Nat} (h : 1 ≤ t.length) : FF t m 0 [(0, "")] := ⟨by simp, fun p hp => by
  have hp : p ∈ [0] := hp
  rw [List.mem_singleton.mp hp]
  omega, fun k z hk => by omega⟩
section
variable {t : List (List Nat)} {x : Str} {m : Nat}
theorem frs_ff (tb : IsTab t t.length m) (hm : x.cps.size = m) (h1 : 1 ≤ t.length) (h2 : t.length ≤ 100000) : [(0, ("" : Str))] <+: frs t x ∧ FF t m (frs t x).length (frs t x) := frsL_end tb hm _ _ _ (FF.start h1) (by omega)
theorem ord_closed (tb : IsTab t t.length m) (hm : x.cps.size = m) (h1 : 1 ≤ t.length) (h2 : t.length ≤ 100000) {q j : Nat} (hq : q ∈ ordF t x) (hj : j < m) : (t.getD q []).getD j 0 ∈ ordF t x := by
  obtain ⟨z, hz, rfl⟩ := List.mem_map.mp hq
  obtain ⟨k, hk, e⟩ := List.getElem_of_mem hz
  exact (frs_ff tb hm h1 h2).2.sn k z hk (by rw [List.getElem?_eq_getElem hk, e]) j hj
theorem ord_zero (tb : IsTab t t.length m) (hm : x.cps.size = m) (h1 : 1 ≤ t.length) (h2 : t.length ≤ 100000) : (ordF t x)[0]? = some 0 := by
  unfold ordF
  rw [List.getElem?_map, pre_at (frs_ff tb hm h1 h2).1 (show ([((0 : Nat), ("" : Str))] : List (Nat × Str))[0]? = some ((0 : Nat), ("" : Str)) from rfl)]
  rfl
theorem idx_at {l : List Nat} (nd : l.Nodup) {i q : Nat} (h : l[i]? = some q) : l.idxOf q = i := by
  obtain ⟨hi, e⟩ := List.getElem?_eq_some_iff.mp h
  have hq : l.idxOf q < l.length := List.idxOf_lt_length_of_mem (List.mem_of_getElem? h)
  have e2 : l[l.idxOf q] = q := List.getElem_idxOf hq
  exact (List.getElem_inj nd).mp (e2.trans e.symm)
theorem lean_row (tb : IsTab t t.length m) (hm : x.cps.size = m) (h1 : 1 ≤ t.length) (h2 : t.length ≤ 100000) {q : Nat} (hq : q ∈ ordF t x) : (leanT t x).getD ((ordF t x).idxOf q) [] = (t.getD q []).map fun p => (ordF t x).idxOf p := by
  have hl : (ordF t x).idxOf q < (ordF t x).length := List.idxOf_lt_length_of_mem hq
  unfold leanT
  rw [List.getD_eq_getElem?_getD, List.getElem?_map, List.getElem?_eq_getElem hl, List.getElem_idxOf hl]
  rfl
/-- the same places under other numbers -/
def renF (o : List Nat) (F : List (Nat × Str)) : List (Nat × Str) := F.map fun z => (o.idxOf z.1, z.2)
theorem idx_inj {l : List Nat} {p q : Nat} (hp : p ∈ l) (hq : q ∈ l) (e : l.idxOf p = l.idxOf q) : p = q := by
  have a : l[l.idxOf p]'(List.idxOf_lt_length_of_mem hp) = p := List.getElem_idxOf _
  have b : l[l.idxOf q]'(List.idxOf_lt_length_of_mem hq) = q := List.getElem_idxOf _
  have c : l[l.idxOf p]? = some p := by rw [List.getElem?_eq_getElem (List.idxOf_lt_length_of_mem hp), a]
  have d : l[l.idxOf q]? = some q := by rw [List.getElem?_eq_getElem (List.idxOf_lt_length_of_mem hq), b]
  rw [e, d] at c
  exact (Option.some.inj c).symm
theorem ren_mem {o : List Nat} {F : List (Nat × Str)} (hF : ∀ p ∈ F.map Prod.fst, p ∈ o) {q : Nat} (hq : q ∈ o) : o.idxOf q ∈ (renF o F).map Prod.fst ↔ q ∈ F.map Prod.fst := by
  constructor
  · intro h
    obtain ⟨z, hz, e⟩ := List.mem_map.mp h
    obtain ⟨y, hy, rfl⟩ := List.mem_map.mp hz
    have yo := hF _ (List.mem_map.mpr ⟨y, hy, rfl⟩)
    rw [← idx_inj yo hq e]
    exact List.mem_map.mpr ⟨y, hy, rfl⟩
  · intro h
    obtain ⟨z, hz, rfl⟩ := List.mem_map.mp h
    exact List.mem_map.mpr ⟨_, List.mem_map.mpr ⟨z, hz, rfl⟩, rfl⟩
theorem ren_add {o : List Nat} {F : List (Nat × Str)} {q c : Nat} {w : Str} (hF : ∀ p ∈ F.map Prod.fst, p ∈ o) (hq : q ∈ o) : addF (o.idxOf q) w c (renF o F) = renF o (addF q w c F) := by
  by_cases h : q ∈ F.map Prod.fst
  · rw [addF_old h, addF_old ((ren_mem hF hq).mpr h)]
  · rw [addF_new h, addF_new fun z => h ((ren_mem hF hq).mp z)]
    unfold renF
    rw [List.map_append]
    rfl
theorem ren_row {o : List Nat} {F : List (Nat × Str)} {r : List Nat} {w : Str} (hF : ∀ p ∈ F.map Prod.fst, p ∈ o) (hr : ∀ j, j < r.length → r.getD j 0 ∈ o) : ∀ n, n ≤ r.length → (∀ p ∈ (rowF r x w F n).map Prod.fst, p ∈ o) ∧ rowF (r.map fun p => o.idxOf p) x w (renF o F) n = renF o (rowF r x w F n)
  | 0, _ => ⟨hF, rfl⟩
  | n + 1, hn => by
    obtain ⟨a, b⟩ := ren_row hF hr n (by omega)
    have hq := hr n (by omega)
    refine ⟨fun p hp => ?_, ?_⟩
    · have hp : p ∈ (addF (r.getD n 0) w (x.cps.toList.getD n 0) (rowF r x w F n)).map Prod.fst := hp
      unfold addF at hp
      split at hp
      · exact a p hp
      · rw [List.map_append] at hp
        rcases List.mem_append.mp hp with hp | hp
        · exact a p hp
        · have hp : p ∈ [r.getD n 0] := hp
          rw [List.mem_singleton.mp hp]
          exact hq
    · show addF ((r.map fun p => o.idxOf p).getD n 0) w _ (rowF (r.map fun p => o.idxOf p) x w (renF o F) n) = renF o (addF (r.getD n 0) w _ (rowF r x w F n))
      rw [b, ← ren_add a hq]
      congr 1
      have hn' : n < r.length := by omega
      rw [List.getD_eq_getElem?_getD, List.getD_eq_getElem?_getD, List.getElem?_map, List.getElem?_eq_getElem hn']
      rfl
theorem ren_frs (tb : IsTab t t.length m) (hm : x.cps.size = m) (h1 : 1 ≤ t.length) (h2 : t.length ≤ 100000) : ∀ (n i : Nat) (F : List (Nat × Str)), (∀ p ∈ F.map Prod.fst, p ∈ ordF t x) → frsL (leanT t x) x n i (renF (ordF t x) F) = renF (ordF t x) (frsL t x n i F)
  | 0, _, _, _ => rfl
  | n + 1, i, F, hF => by
    unfold frsL
    have er : (renF (ordF t x) F)[i]? = (F[i]?).map fun z => ((ordF t x).idxOf z.1, z.2) := by
      unfold renF
      rw [List.getElem?_map]
    rw [er]
    cases e : F[i]? with
    | none => rfl
    | some z =>
      have hz : z.1 ∈ ordF t x := hF _ (List.mem_map.mpr ⟨z, List.mem_of_getElem? e, rfl⟩)
      have lz : z.1 < t.length := (frs_ff tb hm h1 h2).2.lt _ hz
      have lr := (row_tab tb lz).1
      obtain ⟨a, b⟩ := ren_row (x := x) (w := z.2) hF (r := t.getD z.1 []) (fun j hj => ord_closed tb hm h1 h2 hz (by omega)) x.cps.size (by omega)
      show frsL (leanT t x) x n (i + 1) (rowF ((leanT t x).getD ((ordF t x).idxOf z.1) []) x z.2 (renF (ordF t x) F) x.cps.size) = renF (ordF t x) (frsL t x n (i + 1) (rowF (t.getD z.1 []) x z.2 F x.cps.size))
      rw [lean_row tb hm h1 h2 hz, b]
      exact ren_frs tb hm h1 h2 n (i + 1) _ a
theorem idx_all {l : List Nat} (nd : l.Nodup) : l.map (fun q => l.idxOf q) = List.range l.length := by
  refine List.ext_getElem? fun i => ?_
  rw [List.getElem?_map]
  by_cases h : i < l.length
  · rw [List.getElem?_eq_getElem h, List.getElem?_range h]
    exact congrArg some (idx_at nd (List.getElem?_eq_getElem h))
  · rw [List.getElem?_eq_none (by omega), List.getElem?_eq_none (by rw [List.length_range]; omega)]
    rfl
theorem lean_len : (leanT t x).length = (ordF t x).length := List.length_map _
theorem lean_frs (tb : IsTab t t.length m) (hm : x.cps.size = m) (h1 : 1 ≤ t.length) (h2 : t.length ≤ 100000) : frs (leanT t x) x = renF (ordF t x) (frs t x) := by
  have z0 := ord_zero tb hm h1 h2
  have h := ren_frs tb hm h1 h2 100000 0 [((0 : Nat), ("" : Str))] (fun p hp => by
    have hp : p ∈ [0] := hp
    rw [List.mem_singleton.mp hp]
    exact List.mem_of_getElem? z0)
  have e : renF (ordF t x) [((0 : Nat), ("" : Str))] = [((0 : Nat), ("" : Str))] := by
    show [((ordF t x).idxOf 0, ("" : Str))] = _
    have e0 : (ordF t x).idxOf 0 = 0 := idx_at (frs_ff tb hm h1 h2).2.nd z0
    rw [e0]
  rw [e] at h
  exact h
theorem lean_ord (tb : IsTab t t.length m) (hm : x.cps.size = m) (h1 : 1 ≤ t.length) (h2 : t.length ≤ 100000) : ordF (leanT t x) x = List.range (ordF t x).length := by
  show (frs (leanT t x) x).map Prod.fst = _
  rw [lean_frs tb hm h1 h2]
  have e := idx_all (l := ordF t x) (frs_ff tb hm h1 h2).2.nd
  rw [← e]
  show ((frs t x).map fun z => ((ordF t x).idxOf z.1, z.2)).map Prod.fst = ((frs t x).map Prod.fst).map fun q => (ordF t x).idxOf q
  rw [List.map_map, List.map_map]
  rfl
theorem lean_tab (tb : IsTab t t.length m) (hm : x.cps.size = m) (h1 : 1 ≤ t.length) (h2 : t.length ≤ 100000) : IsTab (leanT t x) (leanT t x).length m ∧ 1 ≤ (leanT t x).length ∧ (leanT t x).length ≤ t.length := by
  have ff := (frs_ff tb hm h1 h2).2
  refine ⟨⟨rfl, fun r hr => ?_⟩, ?_, ?_⟩
  · obtain ⟨p, hp, rfl⟩ := List.mem_map.mp hr
    have lr := row_tab tb (ff.lt _ hp)
    refine ⟨by rw [List.length_map]; exact lr.1, fun z hz => ?_⟩
    obtain ⟨q, hq, rfl⟩ := List.mem_map.mp hz
    rw [lean_len]
    refine List.idxOf_lt_length_of_mem ?_
    obtain ⟨k, hk, e⟩ := List.getElem_of_mem hq
    have := ord_closed tb hm h1 h2 hp (j := k) (by omega)
    rw [List.getD_eq_getElem?_getD, List.getElem?_eq_getElem hk, e] at this
    exact this
  · rw [lean_len]
    have := (List.getElem?_eq_some_iff.mp (ord_zero tb hm h1 h2)).1
    omega
  · rw [lean_len]
    exact nodup_lt_len ff.nd ff.lt
theorem lean_lean (tb : IsTab t t.length m) (hm : x.cps.size = m) (h1 : 1 ≤ t.length) (h2 : t.length ≤ 100000) : leanT (leanT t x) x = leanT t x := by
  obtain ⟨tl, l1, l2⟩ := lean_tab tb hm h1 h2
  have eo := lean_ord tb hm h1 h2
  show (ordF (leanT t x) x).map (fun p => ((leanT t x).getD p []).map fun q => (ordF (leanT t x) x).idxOf q) = _
  rw [eo, ← lean_len]
  refine List.ext_getElem? fun i => ?_
  rw [List.getElem?_map]
  by_cases h : i < (leanT t x).length
  · rw [List.getElem?_range h, List.getElem?_eq_getElem h]
    show some (((leanT t x).getD i []).map fun q => (List.range (leanT t x).length).idxOf q) = _
    have e : (leanT t x).getD i [] = (leanT t x)[i] := by rw [List.getD_eq_getElem?_getD, List.getElem?_eq_getElem h]; rfl
    rw [e]
    refine congrArg some ?_
    have hr := (tl.2 _ (List.getElem_mem h)).2
    have : ∀ q ∈ (leanT t x)[i], (List.range (leanT t x).length).idxOf q = q := fun q hq => idx_at List.nodup_range (List.getElem?_range (hr q hq))
    rw [List.map_congr_left this]
    exact List.map_id _
  · rw [List.getElem?_eq_none (by rw [List.length_range]; omega), List.getElem?_eq_none (by omega)]
    rfl
theorem lean_goes (tb : IsTab t t.length m) (hm : x.cps.size = m) (h1 : 1 ≤ t.length) (h2 : t.length ≤ 100000) : ∀ (cs : List Nat) (q : Nat), q ∈ ordF t x → (∀ c ∈ cs, c ∈ x.cps.toList) → goes t x q cs ∈ ordF t x ∧ goes (leanT t x) x ((ordF t x).idxOf q) cs = (ordF t x).idxOf (goes t x q cs)
  | [], q, hq, _ => ⟨hq, rfl⟩
  | c :: cs, q, hq, hc => by
    have lz : q < t.length := (frs_ff tb hm h1 h2).2.lt _ hq
    have lr := (row_tab tb lz).1
    have hi : x.cps.toList.idxOf c < m := by
      have := List.idxOf_lt_length_of_mem (hc c List.mem_cons_self)
      have e : x.cps.toList.length = x.cps.size := by simp
      omega
    have hs : step t x q c ∈ ordF t x := ord_closed tb hm h1 h2 hq hi
    have es : step (leanT t x) x ((ordF t x).idxOf q) c = (ordF t x).idxOf (step t x q c) := by
      unfold step
      rw [lean_row tb hm h1 h2 hq]
      have hi2 : x.cps.toList.idxOf c < (t.getD q []).length := by omega
      rw [List.getD_eq_getElem?_getD, List.getElem?_map, List.getElem?_eq_getElem hi2]
      show (ordF t x).idxOf (t.getD q [])[x.cps.toList.idxOf c] = (ordF t x).idxOf ((t.getD q []).getD (x.cps.toList.idxOf c) 0)
      congr 1
      rw [List.getD_eq_getElem?_getD (l := t.getD q []), List.getElem?_eq_getElem hi2]
      rfl
    obtain ⟨a, b⟩ := lean_goes tb hm h1 h2 cs (step t x q c) hs fun d hd => hc d (List.mem_cons_of_mem _ hd)
    refine ⟨a, ?_⟩
    show goes (leanT t x) x (step (leanT t x) x ((ordF t x).idxOf q) c) cs = _
    rw [es]
    exact b
end
end M3

set_option Elab.async false
set_option linter.all false
set_option maxRecDepth 100000
set_option maxHeartbeats 8000000
/-! # Which states are reached, just in which order -/
namespace M3
open PySem L2
theorem frsL_stop {t : List (List Nat)} {x : Str} {i : Nat} {F : List (Nat × Str)} (h : F.length ≤ i) : ∀ n, frsL t x n i F = F
  | 0 => rfl
  | n + 1 => by
    unfold frsL
    rw [List.getElem?_eq_none h]
theorem frsL_go {t : List (List Nat)} {x : Str} {n i : Nat} {F : List (Nat × Str)} {z : Nat × Str} (e : F[i]? = some z) : frsL t x (n + 1) i F = frsL t x n (i + 1) (rowF (t.getD z.1 []) x z.2 F x.cps.size) := by
  show (match F[i]? with
    | none => F
    | some z => frsL t x n (i + 1) (rowF (t.getD z.1 []) x z.2 F x.cps.size)) = _
  rw [e]
/-- so far, with this place to be looked at next -/
structure Way (t : List (List Nat)) (x : Str) (m i : Nat) (F : List (Nat × Str)) : Prop where
  ff : FF t m i F
  eq : frsL t x (100000 - i) i F = frs t x
theorem Way.next {t : List (List Nat)} {x : Str} {m i : Nat} {F : List (Nat × Str)} {z : Nat × Str} (h : Way t x m i F) (tb : IsTab t t.length m) (hm : x.cps.size = m) (tk : t.length ≤ 1000) (e : F[i]? = some z) : Way t x m (i + 1) (rowF (t.getD z.1 []) x z.2 F x.cps.size) := by
  refine ⟨h.ff.step tb hm e, ?_⟩
  have l := h.ff.len
  have hi := (List.getElem?_eq_some_iff.mp e).1
  rw [← h.eq, show 100000 - i = (100000 - (i + 1)) + 1 by omega, frsL_go e]
theorem Way.stop {t : List (List Nat)} {x : Str} {m i : Nat} {F : List (Nat × Str)} (h : Way t x m i F) (e : F.length ≤ i) : F = frs t x := by
  rw [← h.eq, frsL_stop e]
theorem Way.start {t : List (List Nat)} {x : Str} {m : Nat} (h : 1 ≤ t.length) : Way t x m 0 [(0, "")] := ⟨FF.start h, rfl⟩
theorem row_at {t : List (List Nat)} {q : Nat} (hq : q < t.length) : t[q]? = some (t.getD q []) := by
  rw [List.getD_eq_getElem?_getD, List.getElem?_eq_getElem hq]
  rfl
theorem addF_len {q c : Nat} {w : Str} {F : List (Nat × Str)} : F.length ≤ (addF q w c F).length := by
  unfold addF
  split
  · exact Nat.le_refl _
  · rw [List.length_append]
    omega
theorem rowF_len {r : List Nat} {x w : Str} {F : List (Nat × Str)} : ∀ n, F.length ≤ (rowF r x w F n).length
  | 0 => Nat.le_refl _
  | n + 1 => Nat.le_trans (rowF_len n) addF_len
theorem nts_get {r : List Nat} {j : Nat} {v : V} (h : (nts r)[j]? = some v) : j < r.length ∧ v = .int ((r.getD j 0 : Nat) : Int) := by
  unfold nts at h
  rw [List.getElem?_map] at h
  cases e : r[j]? with
  | none =>
    rw [e] at h
    cases h
  | some z =>
    rw [e] at h
    cases h
    refine ⟨(List.getElem?_eq_some_iff.mp e).1, ?_⟩
    rw [List.getD_eq_getElem?_getD, e]
    rfl
def spReachedE (K : PySem.W.Frag) : Sp := fun vs H Q _ => ∃ (a : Addr) (us : List V) (t : List (List Nat)) (m : Nat) (x : Str), vs = [.ref a] ∧ SqT K H a us ∧ Tups K H us t ∧ IsTab t t.length m ∧ 1 ≤ t.length ∧ t.length ≤ 1000 ∧ x.cps.size = m ∧
  ∀ (l : Addr) (H' : Hp), H l = none → H' l = some (.lst (nts (ordF t x))) → Same H H' → Q (.ref l) H'
section
variable {P : Program} {w : World} {K : PySem.W.Frag} {mg : Str → Option Value} {base : Heap}
theorem ok_reachedE {f : Addr} {fd : FuncData} (F : Fun K "reached" "reached" sReached f fd) (T : TxI mg) : FnOk P w K mg base CX0 1 f fd ["table"] (spReachedE K) := by
  refine F.ok scReached (fun vs H Q E h => ?_) (fun cdv A outer s H vs Q E hr h => ?_)
  · obtain ⟨a, us, t, m, x, rfl, _⟩ := h
    rfl
  · obtain ⟨a, us, t, m, x, rfl, ha, hT, tb, t1, tk, hm, k⟩ := h
    have hu := hu_of hr
    refine ⟨_, pss_cons (ps_set (i := 1) scReached.nd rfl (Or.inl rfl) (pe_lst (pa_cons pe_int pa_nil)))
      (pss_cons (ps_set (i := 2) scReached.nd rfl (Or.inl rfl) (pe_disp (pps_cons pe_int pe_bl pps_nil) (by rfl) (by rfl) (fun z => by cases z) (by decide)))
      (pss_cons (ps_set (i := 3) scReached.nd rfl (Or.inl rfl) pe_int)
      (pss_cons (ps_while PassesOwn.never (pt_cmpR op_lt (pv 3) (pe_callB call_len_seq (by rfl) T.len PySem.boot_len (pa_cons (pv 1) pa_nil)) (nomark _))
        (pss_cons (ps_for PassesOwn.never rfl (pi_tup (pe_ix ix_tup (pv 0) (pe_ix ix_list (pv 1) (pv 3) (fun _ _ => rfl)) (fun _ _ => rfl))) (pg_name (i := 4) scReached.nd rfl (Or.inl rfl))
          (pss_one (ps_if (pt_cmp (pc_dnotin hu (pv 4) (pv 2))) (pss_cons (ps_dput hu (pv 2) (pv 4) pe_bl rfl) (pss_one (ps_expr (pe_bm PySem.F.plainAttrs_list PySem.F.slot_list_append PySem.F.type_list_append mt_append (pv 1) (pa_cons (pv 4) pa_nil))))) pss_nil)))
        (pss_one (ps_aug (i := 3) scReached.nd rfl (.inl rfl) pe_int ip_add))))
      (pss_one (ps_ret (pv 1)))))), ?_⟩
    refine ⟨(by show 1 ≤ sizeLine; decide), fun l nl => ?_⟩
    intro f' nf
    refine ⟨upd_same, [(.inl 0, .bl true)], rfl, (by show 1 ≤ 15; decide), ?_⟩
    rw [upd_upd]
    have lf : l ≠ f' := fun z => by
      rw [← z, upd_same] at nf
      cases nf
    have nf0 : H f' = none := by
      rw [upd_ne (Ne.symm lf)] at nf
      exact nf
    have neL : ∀ {b : Addr} {o : HO}, H b = some o → b ≠ l := fun h z => by rw [z, nl] at h; cases h
    have neF : ∀ {b : Addr} {o : HO}, H b = some o → b ≠ f' := fun h z => by rw [z, nf0] at h; cases h
    have s0 : SeenIs [((.inl 0 : Key), V.bl true)] [0] := fun q => by
      by_cases e : q = 0
      · subst e
        have z : valV [((.inl 0 : Key), V.bl true)] (.inl ((0 : Nat) : Int)) = some (.bl true) := valV_pos rfl
        rw [z]
        rfl
      · rw [valV_neg (fun z => e (by injection z with z; omega)), valV_nil]
        simp [e]
    refine while_by (fun σ H' => ∃ (at' : Nat) (g : Option V) (F : List (Nat × Str)) (kvs : List (Key × V)), σ = [some (.ref a), some (.ref l), some (.ref f'), some (.int at'), g] ∧ H' l = some (.lst (nts (F.map Prod.fst))) ∧ H' f' = some (.dK kvs) ∧ SeenIs kvs (F.map Prod.fst) ∧ kvs.length ≤ F.length ∧ Way t x m at' F ∧ at' ≤ F.length ∧ Same H H')
      (fun σ H' => match σ with | [_, _, _, some (.int i), _] => t.length - i.toNat | _ => 0)
      ⟨0, none, [(0, "")], _, rfl, by rw [upd_ne lf]; exact upd_same, upd_same, s0, Nat.le_refl _, Way.start t1, Nat.zero_le _, Same.new (Same.new (Same.refl H) nl) (by rw [upd_ne (Ne.symm lf)]; exact nf0)⟩ ?_ ?_
    · rintro σ H1 ⟨at', g, F, kvs, rfl, h1, h2, h3, h4, hw, h7, s1⟩
      have fl := hw.ff.len
      refine ⟨_, rfl, _, rfl, l, _, rfl, .inl (SqL.of h1), _, _, rfl, rfl, _, rfl, ?_⟩
      rw [nts_length, List.length_map]
      refine ite2 (fun hle => ?_) (fun hle => ?_)
      · have hlt : at' < F.length := by
          have := of_decide_eq_true hle
          omega
        have hz : F[at']? = some F[at'] := List.getElem?_eq_getElem hlt
        have q := hw.ff.lt _ (List.mem_map.mpr ⟨_, List.getElem_mem hlt, rfl⟩)
        generalize F[at'] = z at hz q
        obtain ⟨b, b1, b2⟩ := hT.2 z.1 _ (row_at q)
        obtain ⟨rl, rz⟩ := row_tab tb q
        have ei : atI (nts (F.map Prod.fst)) (at' : Int) = some (.int ((z.1 : Nat) : Int)) := by
          have e := nts_at (r := F.map Prod.fst) (j := at') (by rw [List.length_map]; exact hlt)
          rw [e, List.getD_eq_getElem?_getD, List.getElem?_map, hz]
          rfl
        have hnext := hw.next tb hm tk hz
        refine ⟨_, rfl, _, rfl, _, rfl, l, _, _, _, rfl, rfl, SqL.of h1, ei, a, us, _, .ref b, rfl, rfl, sqt_same s1 ha, atI_nat b1, ?_⟩
        generalize hr0 : t.getD z.1 [] = r at b2 rl rz hnext
        refine ⟨b, rfl, ⟨_, sqt_same s1 b2⟩, for_it (walk_tup (K := K) (a := b) (xs := nts r)) (fun j σ H' => ∃ (g : Option V) (kvs' : List (Key × V)), σ = [some (.ref a), some (.ref l), some (.ref f'), some (.int at'), g] ∧ H' l = some (.lst (nts ((rowF r x z.2 F j).map Prod.fst))) ∧ H' f' = some (.dK kvs') ∧ SeenIs kvs' ((rowF r x z.2 F j).map Prod.fst) ∧ kvs'.length ≤ (rowF r x z.2 F j).length ∧ Same H H')
          ⟨g, kvs, rfl, h1, h2, h3, h4, s1⟩ (fun j σ H' _ ⟨_, _, _, _, _, _, _, z⟩ => sqt_same z b2) ?_ ?_⟩
        · rintro j v σ H2 H3 hj ⟨g', kvs', rfl, p1, p2, p3, p4, p8⟩ ⟨rfl, hv⟩
          obtain ⟨jr, rfl⟩ := nts_get hv
          have fl2 : (rowF r x z.2 F j).length ≤ t.length := by
            have := nodup_lt_len (rowF_nodup (r := r) (x := x) (w := z.2) hw.ff.nd j) (rowF_lt rz hw.ff.lt j (by omega))
            rwa [List.length_map] at this
          refine ⟨_, rfl, _, rfl, f', _, rfl, DGet.k (k := Sum.inl ((r.getD j 0 : Nat) : Int)) p2, _, rfl, ?_⟩
          have sz := p3 (r.getD j 0)
          have er : rowF r x z.2 F (j + 1) = addF (r.getD j 0) z.2 (x.cps.toList.getD j 0) (rowF r x z.2 F j) := rfl
          rw [er]
          generalize rowF r x z.2 F j = G at p1 p3 p4 fl2 sz ⊢
          generalize r.getD j 0 = y at sz ⊢
          cases e : valV kvs' (Sum.inl ((y : Nat) : Int) : Key) with
          | none =>
            rw [e] at sz
            have nz : y ∉ G.map Prod.fst := fun q => by
              rw [decide_eq_true q] at sz
              cases sz
            rw [addF_new nz]
            refine iteT ?_
            refine ⟨_, rfl, _, rfl, f', _, rfl, DPut.k (k := Sum.inl ((y : Nat) : Int)) p2 (Nat.lt_of_le_of_lt (show kvs'.length ≤ 1000 by omega) (by decide)), ?_⟩
            have g1 : (upd H3 f' (.dK (putK kvs' (Sum.inl ((y : Nat) : Int)) (.bl true)))) l = some (.lst (nts (G.map Prod.fst))) := by
              rw [upd_ne lf]
              exact p1
            refine ⟨_, rfl, .inl ⟨rfl, _, SqL.of g1⟩, _, rfl, l, _, _, rfl, rfl, g1, ?_, some (.int ((y : Nat) : Int)), putK kvs' (Sum.inl ((y : Nat) : Int)) (.bl true), rfl, ?_, ?_, ?_, ?_, fun b' o h => ?_⟩
            · rw [nts_length, List.length_map]
              exact Nat.lt_of_le_of_lt (show G.length ≤ 1000 by omega) (by decide)
            · rw [upd_same, List.map_append, nts_append]
              rfl
            · rw [upd_ne (Ne.symm lf)]
              exact upd_same
            · rw [List.map_append]
              exact p3.put
            · rw [putK_new _ e, List.length_append, List.length_append]
              show kvs'.length + 1 ≤ G.length + 1
              omega
            · rw [upd_ne (neL h), upd_ne (neF h)]
              exact p8 _ _ h
          | some v =>
            rw [e] at sz
            have yz : y ∈ G.map Prod.fst := of_decide_eq_true sz.symm
            rw [addF_old yz]
            refine iteF ?_
            exact ⟨some (.int ((y : Nat) : Int)), kvs', rfl, p1, p2, p3, p4, p8⟩
        · rintro σ H2 ⟨g', kvs', rfl, p1, p2, p3, p4, p8⟩
          rw [nts_length, rl, ← hm] at p1 p3 p4
          have := rowF_len (r := r) (x := x) (w := z.2) (F := F) x.cps.size
          refine ⟨_, rfl, _, _, rfl, rfl, ⟨at' + 1, g', _, kvs', rfl, p1, p2, p3, p4, hnext, by omega, p8⟩, ?_⟩
          show t.length - (at' + 1) < t.length - at'
          omega
      · have hge : F.length ≤ at' := by
          by_cases q : F.length ≤ at'
          · exact q
          · exact absurd (decide_eq_true (show ((at' : Nat) : Int) < ((F.length : Nat) : Int) by omega)) hle
        have := hw.stop hge
        subst this
        exact ⟨_, rfl, k l H1 nl h1 s1⟩
    · rintro σ H1 Q1 Q2 hq h
      obtain ⟨v1, hv1, v2, hv2, p, ys, hp, hs, i1, i2, c1, c2, b, hb, hh⟩ := h
      exact ⟨v1, hv1, v2, hv2, p, ys, hp, hs, i1, i2, c1, c2, b, hb, hq _ _ hh⟩
end
end M3

set_option Elab.async false
set_option linter.all false
set_option maxRecDepth 100000
set_option maxHeartbeats 8000000
/-! # lean_table -/
namespace M3
open PySem L2
abbrev sLeanT : Stmt := top 29
abbrev nLeanT : List Str := ["table", "states", "numbers", "at", "state", "goal"]
theorem scLeanT : FnScope nLeanT ["table"] (defScope sLeanT) := ⟨rfl, rfl, rfl, by decide +kernel, rfl, by decide +kernel, by decide +kernel⟩
/-- a dict by a comprehension over a walk -/
theorem dc_it {J : It} {n : Nat} {G : Hp → Prop} {Y : Nat → Hp → V → Hp → Prop} (w : Walk J n G Y) {g : TG} {tt : TT} {tk tv : TE} {vs : List Nat} {σ : St} {H1 : Hp} {D : Addr} {Qd : Hp → Prop} (Pv : Nat → Hp → Prop) (h0 : Pv 0 (upd H1 D (.dK []))) (hG : ∀ i H, i ≤ n → Pv i H → G H)
    (hs : ∀ i x H H', i < n → Pv i H → Y i H x H' → g x (wipe σ vs) H' fun σ2 H2 => wipe σ2 vs = wipe σ vs ∧ tt σ2 H2 fun b H3 =>
      if b = true then tk σ2 H3 fun y H4 => tv σ2 H4 fun z H5 => ∃ kvs k, y = kV k ∧ H5 D = some (.dK kvs) ∧ kvs.length < sizeLine ∧ Pv (i + 1) (upd H5 D (.dK (putK kvs k z))) else Pv (i + 1) H3) (hd : ∀ H, Pv n H → Qd H) :
    ∃ W : Nat → Nat → Hp → Prop, (∃ m, W 0 m (upd H1 D (.dK []))) ∧ ∀ i m H, W i m H →
      (J.stop i H ∧ Qd H) ∨ (J.go i H ∧ ∃ Nx : Hp → Prop, (∀ H', Nx H' → ∃ m', m' < m ∧ W (i + 1) m' H') ∧ ∀ x H', J.yld i H x H' → g x (wipe σ vs) H' fun σ2 H2 => wipe σ2 vs = wipe σ vs ∧ tt σ2 H2 fun b H3 =>
        if b = true then tk σ2 H3 fun y H4 => tv σ2 H4 fun z H5 => ∃ kvs k, y = kV k ∧ H5 D = some (.dK kvs) ∧ kvs.length < sizeLine ∧ Nx (upd H5 D (.dK (putK kvs k z))) else Nx H3) := by
  refine ⟨fun i m H => m = n - i ∧ i ≤ n ∧ Pv i H, ⟨n, by omega, Nat.zero_le _, h0⟩, fun i m H h => ?_⟩
  obtain ⟨em, hi, p⟩ := h
  by_cases lt : i < n
  · exact .inr ⟨w.goes i H lt (hG i H hi p), Pv (i + 1), fun H' p' => ⟨n - (i + 1), by omega, rfl, lt, p'⟩, fun x H' y => hs i x H H' lt p (w.yields i H x H' lt (hG i H hi p) y)⟩
  · obtain rfl : i = n := by omega
    exact .inl ⟨w.stops H (hG i H hi p), hd H p⟩
/-- the dict tells at which place each of them stands -/
def NumIs (kvs : List (Key × V)) (fs : List Nat) : Prop := ∀ q : Nat, q ∈ fs → valV kvs (.inl (q : Int)) = some (.int ((fs.idxOf q : Nat) : Int))
theorem NumIs.put {kvs : List (Key × V)} {fs : List Nat} {g : Nat} (h : NumIs kvs fs) (ng : g ∉ fs) : NumIs (putK kvs (.inl (g : Int)) (.int ((fs.length : Nat) : Int))) (fs ++ [g]) := fun q hq => by
  rw [valV_put]
  by_cases e : q = g
  · subst e
    rw [if_pos rfl, List.idxOf_append, if_neg ng]
    simp
  · have hq2 : q ∈ fs := by
      rcases List.mem_append.mp hq with z | z
      · exact z
      · exact absurd (List.mem_singleton.mp z) e
    rw [if_neg (fun z => e (by injection z with z; omega)), h q hq2, List.idxOf_append, if_pos hq2]
def spLeanT (K : PySem.W.Frag) : Sp := fun vs H Q _ => ∃ (a : Addr) (us : List V) (t : List (List Nat)) (m : Nat) (x : Str), vs = [.ref a] ∧ SqT K H a us ∧ Tups K H us t ∧ IsTab t t.length m ∧ 1 ≤ t.length ∧ t.length ≤ 1000 ∧ x.cps.size = m ∧ m ≤ 1000 ∧
  ∀ (p : Addr) (us' : List V) (H' : Hp), H' p = some (.tup us') → RowsA H' us' (leanT t x) → Same H H' → Q (.ref p) H'
/-- a line of the lean table, as it is written -/
def tLineL (K : PySem.W.Frag) : TE := tLc (iTup K (tOp (rIxT K) (tVar 0) (tVar 4))) (gName 5) tYes (tDGet (tVar 2) (tVar 5)) [5]
section
variable {P : Program} {w : World} {K : PySem.W.Frag} {mg : Str → Option Value} {base : Heap}
theorem ok_leant {f g : Addr} {fd gd : FuncData} (F : Fun K "lean_table" "lean_table" sLeanT f fd) (G : Fun K "reached" "reached" sReached g gd) (bG : Binds K gd ["table"] []) (mG : mg "reached" = some (.ref g)) (T : TxI mg) (M : TxM mg) (hE : mg "enumerate" = none) :
    FnOk P w K mg base CX0 2 f fd ["table"] (spLeanT K) := by
  have GR : FnOk P w K mg base CX0 1 g gd ["table"] (spReachedE K) := ok_reachedE G T
  refine F.ok scLeanT (fun vs H Q E h => ?_) (fun cdv A outer s H vs Q E hr h => ?_)
  · obtain ⟨a, us, t, m, x, rfl, _⟩ := h
    rfl
  · obtain ⟨a, us, t, m, x, rfl, ha, hT, tb, t1, tk, hm, m9, k⟩ := h
    have hu := hu_of hr
    refine ⟨_, pss_cons (ps_set (i := 1) scLeanT.nd rfl (Or.inl rfl) (pe_call GR hr rfl mG G.kp bG .nil pass0 (pa_cons (pv 0) pa_nil)))
      (pss_cons (ps_set (i := 2) scLeanT.nd rfl (Or.inr rfl) (pe_dc (own := [("at", 3), ("state", 4)]) (g := gTup K 2 (gCons (gName 3) (gCons (gName 4) gNil))) (tt := tYes) (tk := tVar 4) (tv := tVar 3) rfl scLeanT.nd (pi_enum rfl hE (pa_cons (pv 1) pa_nil)) (blkOk_by (N := nLeanT) (sc := defScope sLeanT) (by decide +kernel))
        (fun _ _ _ _ _ => pg_tup rfl (pgs_cons (pg_name (i := 3) scLeanT.nd rfl (Or.inl rfl)) (pgs_cons (pg_name (i := 4) scLeanT.nd rfl (Or.inl rfl)) pgs_nil))) (fun _ _ _ _ _ => pts_nil) (fun _ _ _ _ _ => pv 4) (fun _ _ _ _ _ => pv 3)))
      (pss_one (ps_ret (pe_callTy call_tuple_of (by rfl) M.tuple (by decide +kernel) (pa_cons (pe_lc (own := [("state", 4)]) (g := gName 4) (tt := tYes) (te := tCB (rTupOf K) (tCons (tLineL K) tNil)) rfl scLeanT.nd (pi_list (pv 1)) (blkOk_by (N := nLeanT) (sc := defScope sLeanT) (by decide +kernel)) (fun _ _ _ _ _ => pg_name (i := 4) scLeanT.nd rfl (Or.inl rfl)) (fun _ _ _ _ _ => pts_nil)
        (fun _ _ _ _ _ => pe_callTy call_tuple_of (by rfl) M.tuple (by decide +kernel) (pa_cons (pe_lc (own := [("goal", 5)]) (wi := iTup K (tOp (rIxT K) (tVar 0) (tVar 4))) (g := gName 5) (tt := tYes) (te := tDGet (tVar 2) (tVar 5)) rfl scLeanT.nd (pi_tup (pe_ix ix_tup (pv 0) (pv 4) (fun _ _ => rfl))) (by exact blkOk_by (N := nLeanT) (sc := ⟨.function, [(".0", .local), ("state", .local), ("tuple", .globalImplicit), ("numbers", .cell), ("table", .cell)], false, false, []⟩) (scope := ⟨.function, [(".0", .local), ("goal", .local), ("numbers", .free)], false, false, []⟩) (own := [("goal", 5)]) (by decide +kernel)) (fun _ _ _ _ _ => pg_name (i := 5) scLeanT.nd rfl (Or.inl rfl)) (fun _ _ _ _ _ => pts_nil)
          (fun _ _ _ _ _ => pe_dget hu (pv 2) (pv 5) (fun _ _ => rfl))) pa_nil))) pa_nil))))), ?_⟩
    have hmin : ∀ {H9 : Hp} {q : Addr}, Same H H9 → H9 q = none → H q = none := fun {H9 q} sx hq => free_of sx hq
    have ff := (frs_ff tb hm t1 (by omega)).2
    refine ⟨_, rfl, a, us, t, m, x, rfl, ha, hT, tb, t1, tk, hm, fun l H1 nl h1 s1 => ?_⟩
    refine ⟨_, rfl, l, _, rfl, SqL.of h1, fun D nD => ?_⟩
    have nd : (ordF t x).Nodup := ff.nd
    have ol : (ordF t x).length ≤ t.length := nodup_lt_len ff.nd ff.lt
    have sm : ∀ {H9 : Hp}, (∀ b' o, b' ≠ D → H1 b' = some o → H9 b' = some o) → Same H1 H9 := fun z b' o h => z b' o (fun q => by rw [q, nD] at h; cases h) h
    refine dc_it (walk_enum (K := K) (a := l) (xs := nts (ordF t x))) (fun j H9 => ∃ kvs : List (Key × V), H9 D = some (.dK kvs) ∧ NumIs kvs ((ordF t x).take j) ∧ kvs.length ≤ j ∧ ∀ b' o, b' ≠ D → H1 b' = some o → H9 b' = some o)
      ⟨[], upd_same, fun q hq => (by cases hq), Nat.le_refl _, fun b' o hb' h => keep_new h nD⟩ (fun i H9 _ ⟨_, _, _, _, z⟩ => SqL.of (sm z _ _ h1)) ?_ ?_
    · rintro i v H9 H10 hi ⟨kvs, q1, q2, q3, q4⟩ ⟨T9, y1, y2, rfl, nT, rfl, e1, e2⟩
      rw [nts_length] at hi
      obtain ⟨_, rfl⟩ := nts_get e2
      cases e1
      have eg : (ordF t x)[i]? = some ((ordF t x).getD i 0) := by
        rw [List.getD_eq_getElem?_getD, List.getElem?_eq_getElem hi]
        rfl
      have q1' := keep_new (u := .tup [.int (i : Nat), .int (((ordF t x).getD i 0 : Nat) : Int)]) q1 nT
      refine ⟨T9, _, rfl, SqT.of upd_same, rfl, _, _, rfl, _, _, rfl, rfl, rfl, tYes_if ?_⟩
      refine ⟨_, rfl, _, rfl, kvs, .inl (((ordF t x).getD i 0 : Nat) : Int), rfl, q1', Nat.lt_of_le_of_lt (show kvs.length ≤ 1000 by omega) (by decide), _, upd_same, ?_, ?_, fun b' o hb' h => ?_⟩
      · rw [take_snoc eg]
        have ng : (ordF t x).getD i 0 ∉ (ordF t x).take i := fun z => by
          have nd2 : ((ordF t x).take (i + 1)).Nodup := nd.sublist (List.take_sublist _ _)
          rw [take_snoc eg] at nd2
          exact (List.nodup_append.mp nd2).2.2 _ z _ (List.mem_singleton.mpr rfl) rfl
        have ql : ((ordF t x).take i).length = i := by
          rw [List.length_take]
          omega
        have := q2.put ng
        rw [ql] at this
        exact this
      · have := putK_len (kvs := kvs) (k := (.inl (((ordF t x).getD i 0 : Nat) : Int) : Key)) (v := V.int (i : Nat))
        omega
      · rw [upd_ne hb']
        exact keep_new (q4 b' o hb' h) nT
    · rintro H9 ⟨kvs, q1, q2, q3, q4⟩
      have et : (ordF t x).take (nts (ordF t x)).length = ordF t x := by
        rw [nts_length]
        exact List.take_length
      rw [et] at q2
      have s9 := s1.trans (sm q4)
      have hl9 := sm q4 _ _ h1
      refine ⟨_, rfl, l, rfl, ⟨_, SqL.of hl9⟩, fun G nG => ?_⟩
      have smG : ∀ {H10 : Hp}, (∀ b' o, b' ≠ G → H9 b' = some o → H10 b' = some o) → Same H9 H10 := fun z b' o h => z b' o (fun q => by rw [q, nG] at h; cases h) h
      refine lc_list (K := K) (a := l) (xs := nts (ordF t x)) (fun j H10 => ∃ us9 : List V, H10 G = some (.lst us9) ∧ RowsA H10 us9 ((leanT t x).take j) ∧ ∀ b o, b ≠ G → H9 b = some o → H10 b = some o)
        ⟨[], upd_same, ⟨rfl, fun i r h => by rw [List.take_zero] at h; cases h⟩, fun b o hb h => keep_new h nG⟩ (fun i H10 _ ⟨_, _, _, z⟩ => SqL.of (smG z _ _ hl9)) ?_ ?_
      · rintro i v H10 hv ⟨us9, u1, u2, u3⟩
        obtain ⟨hi, rfl⟩ := nts_get hv
        have eg : (ordF t x)[i]? = some ((ordF t x).getD i 0) := by
          rw [List.getD_eq_getElem?_getD, List.getElem?_eq_getElem hi]
          rfl
        have qo : (ordF t x).getD i 0 ∈ ordF t x := List.mem_of_getElem? eg
        have el : (leanT t x)[i]? = some ((t.getD ((ordF t x).getD i 0) []).map fun q => (ordF t x).idxOf q) := by
          unfold leanT
          rw [List.getElem?_map, eg]
          rfl
        generalize (ordF t x).getD i 0 = q at eg qo el ⊢
        have lq := ff.lt q qo
        have lr := row_tab tb lq
        obtain ⟨b, b1, b2⟩ := hT.2 q _ (row_at lq)
        have s10 := s9.trans (smG u3)
        have inO : ∀ j, j < m → (t.getD q []).getD j 0 ∈ ordF t x := fun j hj => ord_closed tb hm t1 (by omega) qo hj
        generalize t.getD q [] = r at b2 lr inO el ⊢
        refine ⟨rfl, tYes_if ?_⟩
        refine ⟨_, rfl, _, rfl, a, us, _, .ref b, rfl, rfl, sqt_same s10 ha, atI_nat b1, b, rfl, ⟨_, sqt_same s10 b2⟩, fun S nS => ?_⟩
        have smS : ∀ {H11 : Hp}, (∀ b' o, b' ≠ S → H10 b' = some o → H11 b' = some o) → Same H10 H11 := fun z b' o h => z b' o (fun q => by rw [q, nS] at h; cases h) h
        have hD10 := smG u3 _ _ q1
        refine lc_tup (K := K) (a := b) (xs := nts r) (fun j H11 => H11 S = some (.lst (nts ((r.take j).map fun q => (ordF t x).idxOf q))) ∧ ∀ b o, b ≠ S → H10 b = some o → H11 b = some o)
          ⟨upd_same, fun b o hb h => keep_new h nS⟩ (fun j H11 _ ⟨_, z⟩ => sqt_same (s10.trans (smS z)) b2) ?_ ?_
        · rintro j v H11 hv ⟨w1, w2⟩
          obtain ⟨hj, rfl⟩ := nts_get hv
          have ej : r[j]? = some (r.getD j 0) := by
            rw [List.getD_eq_getElem?_getD, List.getElem?_eq_getElem hj]
            rfl
          have jo := inO j (by omega)
          refine ⟨rfl, tYes_if ?_⟩
          have hD11 := smS w2 _ _ hD10
          have dg := DGet.k (k := (Sum.inl ((r.getD j 0 : Nat) : Int) : Key)) hD11
          rw [q2 _ jo] at dg
          refine ⟨_, rfl, _, rfl, D, _, rfl, dg, _, w1, ?_, ?_, fun b' o hb' h' => by rw [upd_ne hb']; exact w2 b' o hb' h'⟩
          · rw [nts_length, List.length_map, List.length_take]
            exact Nat.lt_of_le_of_lt (show _ ≤ 1000 by omega) (by decide)
          · rw [upd_same, nts_append, take_snoc ej, List.map_append]
            rfl
        · rintro H11 ⟨w1, w2⟩
          have et : r.take (nts r).length = r := by
            rw [nts_length]
            exact List.take_length
          rw [et] at w1
          refine ⟨S, _, rfl, .inl ⟨SqL.of w1, fun p np => ?_⟩⟩
          have sp : Same H10 (upd H11 p (.tup (nts (r.map fun q => (ordF t x).idxOf q)))) := Same.new (smS w2) np
          have hp : (upd H11 p (.tup (nts (r.map fun q => (ordF t x).idxOf q)))) p = some (.tup (nts (r.map fun q => (ordF t x).idxOf q))) := upd_same
          generalize upd H11 p (.tup (nts (r.map fun q => (ordF t x).idxOf q))) = H12 at sp hp ⊢
          have hG := sp _ _ u1
          refine ⟨us9, hG, ?_, us9 ++ [.ref p], upd_same, ?_, fun b o hb h => ?_⟩
          · rw [u2.1, List.length_take]
            rw [lean_len]
            exact Nat.lt_of_le_of_lt (show _ ≤ 1000 by omega) (by decide)
          · rw [take_snoc el]
            refine (u2.to fun b ys h => ?_).snoc ?_
            · rw [upd_ne (ne_of (sp _ _ h) hG (fun z => by cases z))]
              exact sp _ _ h
            · rw [upd_ne (ne_of hp hG (fun z => by cases z))]
              exact hp
          · rw [upd_ne hb]
            exact sp _ _ (u3 b o hb h)
      · rintro H10 ⟨us9, u1, u2, u3⟩
        have et2 : (leanT t x).take (nts (ordF t x)).length = leanT t x := by
          rw [nts_length, ← lean_len]
          exact List.take_length
        rw [et2] at u2
        refine ⟨G, _, rfl, .inl ⟨SqL.of u1, fun p np => ?_⟩⟩
        refine k p us9 _ upd_same (u2.to fun b ys h => ?_) (Same.new (s9.trans (smG u3)) np)
        exact keep_new h np
end
end M3

set_option Elab.async false
set_option linter.all false
set_option maxRecDepth 100000
set_option maxHeartbeats 8000000
/-! # _law_firsts -/
namespace M3
open PySem L2
abbrev sFirstsL : Stmt := top 76
abbrev nFirstsL : List Str := ["table", "letters", "found", "at", "place", "letter", "later"]
theorem scFirstsL : FnScope nFirstsL ["table", "letters"] (defScope sFirstsL) := ⟨rfl, rfl, rfl, by decide +kernel, rfl, by decide +kernel, by decide +kernel⟩
def kN (q : Nat) : Key := .inl ((q : Nat) : Int)
def entF (F : List (Nat × Str)) : List (Key × V) := F.map fun z => (kN z.1, V.str z.2)
theorem kN_inj {p q : Nat} (h : kN p = kN q) : p = q := by
  injection h with h
  omega
theorem entF_none {q : Nat} : ∀ {F : List (Nat × Str)}, q ∉ F.map Prod.fst → valV (entF F) (kN q) = none
  | [], _ => valV_nil
  | z :: F, h => by
    have h1 : ¬ kN z.1 = kN q := fun e => h (by rw [← kN_inj e]; exact List.mem_cons_self)
    show valV ((kN z.1, V.str z.2) :: entF F) (kN q) = none
    rw [valV_neg h1]
    exact entF_none fun h2 => h (List.mem_cons_of_mem _ h2)
theorem entF_at {F : List (Nat × Str)} (nd : (F.map Prod.fst).Nodup) : ∀ {i : Nat} {z : Nat × Str}, F[i]? = some z → valV (entF F) (kN z.1) = some (.str z.2) := by
  induction F with
  | nil =>
    intro i z h
    cases h
  | cons y F ih =>
    intro i z h
    have nd' : y.1 ∉ F.map Prod.fst ∧ (F.map Prod.fst).Nodup := List.nodup_cons.mp nd
    cases i with
    | zero =>
      cases h
      exact valV_pos rfl
    | succ i =>
      have h : F[i]? = some z := h
      have ne : ¬ kN y.1 = kN z.1 := fun e => nd'.1 (by
        rw [kN_inj e]
        exact List.mem_map.mpr ⟨z, List.mem_of_getElem? h, rfl⟩)
      show valV ((kN y.1, V.str y.2) :: entF F) (kN z.1) = _
      rw [valV_neg ne]
      exact ih nd'.2 h
theorem entF_put {q : Nat} {w : Str} {F : List (Nat × Str)} (h : q ∉ F.map Prod.fst) : putK (entF F) (kN q) (.str w) = entF (F ++ [(q, w)]) := by
  rw [putK_new _ (entF_none h)]
  unfold entF
  rw [List.map_append]
  rfl
theorem entF_keys {F : List (Nat × Str)} : (entF F).map (fun kv => kV kv.1) = nts (F.map Prod.fst) := by
  unfold entF nts
  rw [List.map_map, List.map_map]
  rfl
/-- the first words are short, and words of the letters -/
def ShortF (x : Str) (F : List (Nat × Str)) : Prop := ∀ (i : Nat) (z : Nat × Str), F[i]? = some z → z.2.length ≤ i ∧ IsW x z.2
theorem ShortF.add {x : Str} {F : List (Nat × Str)} {q c : Nat} {w : Str} (h : ShortF x F) (hw : w.length < F.length) (hx : IsW x w) (hc : c ∈ x.cps.toList) : ShortF x (addF q w c F) := by
  unfold addF
  split
  · exact h
  · intro i z e
    rcases snoc_at e with e | ⟨rfl, rfl⟩
    · exact h i z e
    · refine ⟨?_, fun d hd => ?_⟩
      · show (w.cps ++ #[c]).size ≤ F.length
        have : w.cps.size < F.length := hw
        simp
        omega
      · have hd : d ∈ (w ++ (⟨#[c]⟩ : Str)).cps.toList := hd
        rw [snoc_cps] at hd
        rcases List.mem_append.mp hd with q | q
        · exact hx d q
        · rw [List.mem_singleton.mp q]
          exact hc
def spFirstsL (K : PySem.W.Frag) : Sp := fun vs H Q _ => ∃ (a : Addr) (us : List V) (t : List (List Nat)) (m : Nat) (x : Str), vs = [.ref a, .str x] ∧ SqL K H a us ∧ Tups K H us t ∧ IsTab t t.length m ∧ 1 ≤ t.length ∧ t.length ≤ 1000 ∧ x.cps.size = m ∧
  ∀ (D : Addr) (H' : Hp), H D = none → H' D = some (.dK (entF (frs t x))) → ShortF x (frs t x) → Same H H' → Q (.ref D) H'
section
variable {P : Program} {w : World} {K : PySem.W.Frag} {mg : Str → Option Value} {base : Heap}
theorem ok_firstsl {f : Addr} {fd : FuncData} (F : Fun K "_law_firsts" "_law_firsts" sFirstsL f fd) (M : TxM mg) (hZ : mg "zip" = none) : FnOk P w K mg base CX0 1 f fd ["table", "letters"] (spFirstsL K) := by
  refine F.ok scFirstsL (fun vs H Q E h => ?_) (fun cdv A outer s H vs Q E hr h => ?_)
  · obtain ⟨a, us, t, m, x, rfl, _⟩ := h
    rfl
  · obtain ⟨a, us, t, m, x, rfl, ha, hT, tb, t1, tk, hm, k⟩ := h
    have hu := hu_of hr
    refine ⟨_, pss_cons (ps_par (i := 2) (j := 3) (by rfl) scFirstsL.nd rfl rfl (by decide) rfl rfl (pa_cons (pe_disp (pps_cons pe_int pe_str pps_nil) (by rfl) (by rfl) (fun z => by cases z) (by decide)) (pa_cons pe_int pa_nil)) (by rfl))
      (pss_cons (ps_while PassesOwn.never (pt_cmpR op_lt (pv 3) (pe_callB call_lenD (by rfl) M.len PySem.boot_len (pa_cons (pv 2) pa_nil)) (nomark _))
        (pss_cons (ps_set (i := 4) scFirstsL.nd rfl (Or.inl rfl) (pe_ix ix_list (pe_callTy (call_list_dK rfl) (by rfl) M.list (by decide +kernel) (pa_cons (pv 2) pa_nil)) (pv 3) (fun _ _ => rfl)))
        (pss_cons (ps_for PassesOwn.never rfl (NvLT.pi_zipST rfl hZ (pa_cons (pv 1) (pa_cons (pe_ix ix_list (pv 0) (pv 4) (fun _ _ => rfl)) pa_nil))) (pg_tup rfl (pgs_cons (pg_name (i := 5) scFirstsL.nd rfl (Or.inl rfl)) (pgs_cons (pg_name (i := 6) scFirstsL.nd rfl (Or.inl rfl)) pgs_nil)))
          (pss_one (ps_if (pt_cmp (pc_dnotin hu (pv 6) (pv 2)))
            (pss_one (ps_dput hu (pv 2) (pv 6) (pe_op op_add_str (pe_dget hu (pv 2) (pv 4) (fun _ _ => rfl)) (pv 5)) rfl)) pss_nil)))
        (pss_one (ps_set (i := 3) scFirstsL.nd rfl (Or.inl rfl) (pe_op op_add (pv 3) pe_int))))))
      (pss_one (ps_ret (pv 2)))), ?_⟩
    have free : ∀ {H9 : Hp} {q : Addr}, Same H H9 → H9 q = none → H q = none := fun {H9 q} sx hq => free_of sx hq
    intro D nD
    refine ⟨upd_same, [(.inl 0, .str "")], rfl, (by show 1 ≤ 15; decide), ?_⟩
    rw [upd_upd]
    refine ⟨_, _, rfl, ?_⟩
    have nD0 : H D = none := nD
    have hD0 : (upd H D (.dK (entF [((0 : Nat), ("" : Str))]))) D = some (.dK (entF [((0 : Nat), ("" : Str))])) := upd_same
    have s0 : Same H (upd H D (.dK (entF [((0 : Nat), ("" : Str))]))) := Same.new (Same.refl H) nD
    refine while_by (fun σ H' => ∃ (F : List (Nat × Str)) (at' : Nat) (v1 v2 v3 : Option V), σ = [some (.ref a), some (.str x), some (.ref D), some (.int (at' : Nat)), v1, v2, v3] ∧
        H' D = some (.dK (entF F)) ∧ ShortF x F ∧ Way t x m at' F ∧ Same H H')
      (fun σ H' => match σ with | [_, _, _, some (.int i), _, _, _] => t.length - i.toNat | _ => 0)
      ⟨[((0 : Nat), ("" : Str))], 0, none, none, none, rfl, hD0, ?_, Way.start t1, s0⟩ ?_ ?_
    · intro i z e
      match i, e with
      | 0, e =>
        cases e
        refine ⟨(show ("" : Str).length ≤ 0 by decide +kernel), fun c hc => ?_⟩
        have e0 : ("" : Str).cps.toList = [] := by decide +kernel
        have hc : c ∈ ("" : Str).cps.toList := hc
        rw [e0] at hc
        cases hc
    · rintro σ H5 ⟨F, at', v1, v2, v3, rfl, hD, hS, hw, sH⟩
      have fl := hw.ff.len
      have le : (entF F).length = F.length := List.length_map _
      refine ⟨_, rfl, _, rfl, D, _, rfl, hD, _, _, rfl, rfl, _, rfl, ?_⟩
      rw [le]
      refine ite2 (fun h1 => ?_) (fun h1 => ?_)
      · have h1 : at' < F.length := by
          have := of_decide_eq_true h1
          omega
        have hz : F[at']? = some F[at'] := List.getElem?_eq_getElem h1
        generalize F[at'] = z at hz
        have q := hw.ff.lt _ (List.mem_map.mpr ⟨z, List.mem_of_getElem? hz, rfl⟩)
        have hnext := hw.next tb hm tk hz
        obtain ⟨b, b1, b2⟩ := hT.2 z.1 _ (row_at q)
        obtain ⟨rl, rz⟩ := row_tab tb q
        generalize t.getD z.1 [] = r at b2 rl rz hnext
        refine ⟨_, rfl, D, _, rfl, hD, fun g ng => ?_⟩
        rw [entF_keys]
        have hg : (upd H5 g (.lst (nts (F.map Prod.fst)))) g = some (.lst (nts (F.map Prod.fst))) := upd_same
        have sg : Same H5 (upd H5 g (.lst (nts (F.map Prod.fst)))) := Same.new (Same.refl H5) ng
        generalize upd H5 g (.lst (nts (F.map Prod.fst))) = H6 at hg sg ⊢
        have hD6 := sg _ _ hD
        have s6 := sH.trans sg
        have ei : atI (nts (F.map Prod.fst)) (at' : Int) = some (.int ((z.1 : Nat) : Int)) := by
          have e := nts_at (r := F.map Prod.fst) (j := at') (by rw [List.length_map]; exact h1)
          rw [e, List.getD_eq_getElem?_getD, List.getElem?_map, hz]
          rfl
        refine ⟨_, rfl, g, _, _, _, rfl, rfl, SqL.of hg, ei, ?_⟩
        refine ⟨_, rfl, _, rfl, _, rfl, a, us, _, .ref b, rfl, rfl, s6.seq ha, atI_nat b1, x, b, nts r, rfl, sqt_same s6 b2, ?_⟩
        have hmin : min x.cps.size (nts r).length = x.cps.size := by
          rw [nts_length]
          omega
        refine for_it (NvLT.walk_zipST (K := K) (x := x) (b := b) (ys := nts r)) (fun j σ H' => ∃ (v2 v3 : Option V), σ = [some (.ref a), some (.str x), some (.ref D), some (.int (at' : Nat)), some (.int (z.1 : Nat)), v2, v3] ∧
            H' D = some (.dK (entF (rowF r x z.2 F j))) ∧ ShortF x (rowF r x z.2 F j) ∧ Same H H')
          ⟨v2, v3, rfl, hD6, hS, s6⟩ (fun i σ H' _ ⟨_, _, _, _, _, z⟩ => sqt_same z b2) ?_ ?_
        · rintro j v σ H7 H8 hj ⟨v2, v3, rfl, hD, hS2, sH⟩ ⟨T, c, y, rfl, nT, rfl, hc, hy⟩
          rw [hmin] at hj
          obtain ⟨jr, rfl⟩ := nts_get hy
          have hc' : x.cps.toList[j]? = some c := by simpa using hc
          have cx : c ∈ x.cps.toList := List.mem_of_getElem? hc'
          have ec : x.cps.toList.getD j 0 = c := getD_some' hc'
          have ndj := rowF_nodup (r := r) (x := x) (w := z.2) hw.ff.nd j
          have fl2 : (rowF r x z.2 F j).length ≤ t.length := by
            have := nodup_lt_len ndj (rowF_lt rz hw.ff.lt j (by omega))
            rwa [List.length_map] at this
          have gz : (rowF r x z.2 F j)[at']? = some z := pre_at (rowF_pre _) hz
          have er : rowF r x z.2 F (j + 1) = addF (r.getD j 0) z.2 c (rowF r x z.2 F j) := by
            show addF (r.getD j 0) z.2 (x.cps.toList.getD j 0) _ = _
            rw [ec]
          obtain ⟨zl, zx⟩ := hS2 at' z gz
          have al : at' < (rowF r x z.2 F j).length := (List.getElem?_eq_some_iff.mp gz).1
          have hS3 := hS2.add (q := r.getD j 0) (c := c) (w := z.2) (by omega) zx cx
          rw [er]
          generalize rowF r x z.2 F j = G at hD hS2 ndj fl2 gz hS3 al ⊢
          generalize r.getD j 0 = q2 at hS3 hy ⊢
          have dz := entF_at ndj gz
          refine ⟨T, _, rfl, SqT.of upd_same, rfl, _, _, rfl, _, _, rfl, rfl, ?_⟩
          have hD := keep_new (u := .tup [.str ⟨#[c]⟩, .int ((q2 : Nat) : Int)]) hD nT
          have sH : Same H (upd H7 T (.tup [.str ⟨#[c]⟩, .int ((q2 : Nat) : Int)])) := Same.new sH nT
          generalize upd H7 T (.tup [.str ⟨#[c]⟩, .int ((q2 : Nat) : Int)]) = H8 at hD sH ⊢
          refine ⟨_, rfl, _, rfl, D, _, rfl, DGet.k (k := kN q2) hD, _, rfl, ?_⟩
          by_cases mem : q2 ∈ G.map Prod.fst
          · obtain ⟨y, hy2, ey⟩ := List.mem_map.mp mem
            obtain ⟨k2, hk2, ek2⟩ := List.getElem_of_mem hy2
            have ev := entF_at ndj (show G[k2]? = some y by rw [List.getElem?_eq_getElem hk2, ek2])
            rw [ey] at ev
            rw [ev, addF_old mem]
            exact iteF ⟨_, _, rfl, hD, hS2, sH⟩
          · rw [entF_none mem]
            rw [addF_new mem] at hS3 ⊢
            refine iteT ?_
            have GD : DGet H8 D (.int ((z.1 : Nat) : Int)) (some (.str z.2)) := by
              have q := DGet.k (k := kN z.1) hD
              rw [dz] at q
              exact q
            have wl : z.2.length + (⟨#[c]⟩ : Str).length ≤ sizeLine := by
              have : (⟨#[c]⟩ : Str).length = 1 := rfl
              have : (100000 : Nat) < sizeLine := by decide
              omega
            have le : (entF G).length = G.length := List.length_map _
            refine ⟨_, rfl, _, rfl, D, _, rfl, GD, _, rfl, z.2, ⟨#[c]⟩, rfl, rfl, wl, _, rfl, _, rfl, D, _, rfl, DPut.k (k := kN q2) hD (Nat.lt_of_le_of_lt (show (entF G).length ≤ 1000 by omega) (by decide)), ?_⟩
            rw [entF_put mem]
            exact ⟨_, _, rfl, upd_same, hS3, fun b o h => by rw [upd_ne (ne_of_none h nD0)]; exact sH _ _ h⟩
        · rintro σ H7 ⟨v2, v3, rfl, hD, hS2, sH⟩
          rw [hmin] at hD hS2
          refine ⟨_, rfl, _, _, rfl, rfl, ⟨_, at' + 1, _, _, _, rfl, hD, hS2, hnext, sH⟩, ?_⟩
          show t.length - (at' + 1) < t.length - at'
          omega
      · have hge : F.length ≤ at' := by
          by_cases q : F.length ≤ at'
          · exact q
          · exact absurd (decide_eq_true (show ((at' : Nat) : Int) < ((F.length : Nat) : Int) by omega)) h1
        have := hw.stop hge
        subst this
        exact ⟨_, rfl, k D H5 nD0 hD hS sH⟩
    · rintro σ H1 Q1 Q2 hq h
      obtain ⟨v1, hv1, v2, hv2, p, ys, hp, hs, i1, i2, c1, c2, b, hb, hh⟩ := h
      exact ⟨v1, hv1, v2, hv2, p, ys, hp, hs, i1, i2, c1, c2, b, hb, hq _ _ hh⟩
end
end M3

set_option Elab.async false
set_option linter.all false
set_option maxRecDepth 100000
set_option maxHeartbeats 8000000
/-! # _law_lean -/
namespace M3
open PySem L2
abbrev sLeanL : Stmt := top 83
abbrev nLeanL : List Str := ["table", "letters", "order", "place", "later"]
theorem scLeanL : FnScope nLeanL ["table", "letters"] (defScope sLeanL) := ⟨rfl, rfl, rfl, by decide +kernel, rfl, by decide +kernel, by decide +kernel⟩
def spLeanL (K : PySem.W.Frag) : Sp := fun vs H Q _ => ∃ (a : Addr) (us : List V) (t : List (List Nat)) (m : Nat) (x : Str), vs = [.ref a, .str x] ∧ SqL K H a us ∧ Tups K H us t ∧ IsTab t t.length m ∧ 1 ≤ t.length ∧ t.length ≤ 1000 ∧ x.cps.size = m ∧ m ≤ 1000 ∧
  ∀ (p : Addr) (us' : List V) (H' : Hp), H' p = some (.tup us') → RowsA H' us' (leanT t x) → Same H H' → Q (.ref p) H'
def tLineX (K : PySem.W.Frag) : TE := tLc (iTup K (tOp (rIxL K) (tVar 0) (tVar 3))) (gName 4) tYes (tBM K "list" (rIndex K) (tVar 2) (tCons (tVar 4) tNil)) [4]
section
variable {P : Program} {w : World} {K : PySem.W.Frag} {mg : Str → Option Value} {base : Heap}
theorem ok_leanl {f g : Addr} {fd gd : FuncData} (F : Fun K "_law_lean" "_law_lean" sLeanL f fd) (G : Fun K "_law_firsts" "_law_firsts" sFirstsL g gd) (bG : Binds K gd ["table", "letters"] []) (mG : mg "_law_firsts" = some (.ref g)) (M : TxM mg) (hZ : mg "zip" = none) :
    FnOk P w K mg base CX0 2 f fd ["table", "letters"] (spLeanL K) := by
  have GF : FnOk P w K mg base CX0 1 g gd ["table", "letters"] (spFirstsL K) := ok_firstsl G M hZ
  refine F.ok scLeanL (fun vs H Q E h => ?_) (fun cdv A outer s H vs Q E hr h => ?_)
  · obtain ⟨a, us, t, m, x, rfl, _⟩ := h
    rfl
  · obtain ⟨a, us, t, m, x, rfl, ha, hT, tb, t1, tk, hm, m9, k⟩ := h
    have hu := hu_of hr
    refine ⟨_, pss_cons (ps_set (i := 2) scLeanL.nd rfl (Or.inr rfl) (pe_callTy (call_list_dK rfl) (by rfl) M.list (by decide +kernel) (pa_cons (pe_call GF hr rfl mG G.kp bG .nil pass0 (pa_cons (pv 0) (pa_cons (pv 1) pa_nil))) pa_nil)))
      (pss_one (ps_ret (pe_callTy call_tuple_of (by rfl) M.tuple (by decide +kernel) (pa_cons (pe_lc (own := [("place", 3)]) (g := gName 3) (tt := tYes) (te := tCB (rTupOf K) (tCons (tLineX K) tNil)) rfl scLeanL.nd (pi_list (pv 2)) (blkOk_by (N := nLeanL) (sc := defScope sLeanL) (by decide +kernel)) (fun _ _ _ _ _ => pg_name (i := 3) scLeanL.nd rfl (Or.inl rfl)) (fun _ _ _ _ _ => pts_nil)
        (fun _ _ _ _ _ => pe_callTy call_tuple_of (by rfl) M.tuple (by decide +kernel) (pa_cons (pe_lc (own := [("later", 4)]) (wi := iTup K (tOp (rIxL K) (tVar 0) (tVar 3))) (g := gName 4) (tt := tYes) (te := tBM K "list" (rIndex K) (tVar 2) (tCons (tVar 4) tNil)) rfl scLeanL.nd (pi_tup (pe_ix ix_list (pv 0) (pv 3) (fun _ _ => rfl))) (by exact blkOk_by (N := nLeanL) (sc := ⟨.function, [(".0", .local), ("place", .local), ("tuple", .globalImplicit), ("order", .cell), ("table", .cell)], false, false, []⟩) (scope := ⟨.function, [(".0", .local), ("later", .local), ("order", .free)], false, false, []⟩) (own := [("later", 4)]) (by decide +kernel)) (fun _ _ _ _ _ => pg_name (i := 4) scLeanL.nd rfl (Or.inl rfl)) (fun _ _ _ _ _ => pts_nil)
          (fun _ _ _ _ _ => pe_bm PySem.F.plainAttrs_list PySem.F.slot_list_index PySem.F.type_list_index mt_index (pv 2) (pa_cons (pv 4) pa_nil))) pa_nil))) pa_nil)))), ?_⟩
    have hmin : ∀ {H9 : Hp} {q : Addr}, Same H H9 → H9 q = none → H q = none := fun {H9 q} sx hq => free_of sx hq
    have ff := (frs_ff tb hm t1 (by omega)).2
    have nd : (ordF t x).Nodup := ff.nd
    have ol : (ordF t x).length ≤ t.length := nodup_lt_len ff.nd ff.lt
    refine ⟨_, rfl, _, rfl, a, us, t, m, x, rfl, ha, hT, tb, t1, tk, hm, fun D H0 nD hD0 _ s0 => ⟨D, _, rfl, hD0, fun l nl => ?_⟩⟩
    rw [entF_keys]
    have hl9 : (upd H0 l (.lst (nts ((frs t x).map Prod.fst)))) l = some (.lst (nts (ordF t x))) := upd_same
    have s9 : Same H (upd H0 l (.lst (nts ((frs t x).map Prod.fst)))) := Same.new s0 nl
    generalize upd H0 l (.lst (nts ((frs t x).map Prod.fst))) = H9 at hl9 s9 ⊢
    refine ⟨_, rfl, l, rfl, ⟨_, SqL.of hl9⟩, fun G nG => ?_⟩
    have smG : ∀ {H10 : Hp}, (∀ b' o, b' ≠ G → H9 b' = some o → H10 b' = some o) → Same H9 H10 := fun z b' o h => z b' o (fun q => by rw [q, nG] at h; cases h) h
    refine lc_list (K := K) (a := l) (xs := nts (ordF t x)) (fun j H10 => ∃ us9 : List V, H10 G = some (.lst us9) ∧ RowsA H10 us9 ((leanT t x).take j) ∧ ∀ b o, b ≠ G → H9 b = some o → H10 b = some o)
      ⟨[], upd_same, ⟨rfl, fun i r h => by rw [List.take_zero] at h; cases h⟩, fun b o hb h => keep_new h nG⟩ (fun i H10 _ ⟨_, _, _, z⟩ => SqL.of (smG z _ _ hl9)) ?_ ?_
    · rintro i v H10 hv ⟨us9, u1, u2, u3⟩
      obtain ⟨hi, rfl⟩ := nts_get hv
      have eg : (ordF t x)[i]? = some ((ordF t x).getD i 0) := by
        rw [List.getD_eq_getElem?_getD, List.getElem?_eq_getElem hi]
        rfl
      have qo : (ordF t x).getD i 0 ∈ ordF t x := List.mem_of_getElem? eg
      have el : (leanT t x)[i]? = some ((t.getD ((ordF t x).getD i 0) []).map fun q => (ordF t x).idxOf q) := by
        unfold leanT
        rw [List.getElem?_map, eg]
        rfl
      generalize (ordF t x).getD i 0 = q at eg qo el ⊢
      have lq := ff.lt q qo
      have lr := row_tab tb lq
      obtain ⟨b, b1, b2⟩ := hT.2 q _ (row_at lq)
      have s10 := s9.trans (smG u3)
      have inO : ∀ j, j < m → (t.getD q []).getD j 0 ∈ ordF t x := fun j hj => ord_closed tb hm t1 (by omega) qo hj
      generalize t.getD q [] = r at b2 lr inO el ⊢
      refine ⟨rfl, tYes_if ?_⟩
      refine ⟨_, rfl, _, rfl, a, us, _, .ref b, rfl, rfl, s10.seq ha, atI_nat b1, b, rfl, ⟨_, sqt_same s10 b2⟩, fun S nS => ?_⟩
      have smS : ∀ {H11 : Hp}, (∀ b' o, b' ≠ S → H10 b' = some o → H11 b' = some o) → Same H10 H11 := fun z b' o h => z b' o (fun q => by rw [q, nS] at h; cases h) h
      have hl10 := smG u3 _ _ hl9
      refine lc_tup (K := K) (a := b) (xs := nts r) (fun j H11 => H11 S = some (.lst (nts ((r.take j).map fun q => (ordF t x).idxOf q))) ∧ ∀ b o, b ≠ S → H10 b = some o → H11 b = some o)
        ⟨upd_same, fun b o hb h => keep_new h nS⟩ (fun j H11 _ ⟨_, z⟩ => sqt_same (s10.trans (smS z)) b2) ?_ ?_
      · rintro j v H11 hv ⟨w1, w2⟩
        obtain ⟨hj, rfl⟩ := nts_get hv
        have ej : r[j]? = some (r.getD j 0) := by
          rw [List.getD_eq_getElem?_getD, List.getElem?_eq_getElem hj]
          rfl
        have jo := inO j (by omega)
        refine ⟨rfl, tYes_if ?_⟩
        have hl11 := smS w2 _ _ hl10
        have hq : (ordF t x).idxOf (r.getD j 0) < (ordF t x).length := List.idxOf_lt_length_of_mem jo
        have eq : (ordF t x)[(ordF t x).idxOf (r.getD j 0)]? = some (r.getD j 0) := by
          rw [List.getElem?_eq_getElem hq, List.getElem_idxOf hq]
        refine ⟨_, rfl, .inl ⟨rfl, _, SqL.of hl11⟩, _, rfl, l, nts (ordF t x), _, (ordF t x).idxOf (r.getD j 0), .int ((r.getD j 0 : Nat) : Int), rfl, rfl, SqL.of hl11, rfl, flat_nts _, ?_, ?_, fun k2 z' hk2 hz' => ?_, ?_⟩
        · unfold nts
          rw [List.getElem?_map, eq]
          rfl
        · exact decide_eq_true rfl
        · obtain ⟨hk3, rfl⟩ := nts_get hz'
          refine decide_eq_false fun z => ?_
          have z : (((ordF t x).getD k2 0 : Nat) : Int) = ((r.getD j 0 : Nat) : Int) := z
          have z : (ordF t x).getD k2 0 = r.getD j 0 := by omega
          have e2 : (ordF t x)[k2]? = some (r.getD j 0) := by
            rw [← z, List.getD_eq_getElem?_getD, List.getElem?_eq_getElem hk3]
            rfl
          have := idx_at nd e2
          omega
        · refine ⟨_, w1, ?_, ?_, fun b' o hb' h' => by rw [upd_ne hb']; exact w2 b' o hb' h'⟩
          · rw [nts_length, List.length_map, List.length_take]
            exact Nat.lt_of_le_of_lt (show _ ≤ 1000 by omega) (by decide)
          · rw [upd_same, nts_append, take_snoc ej, List.map_append]
            rfl
      · rintro H11 ⟨w1, w2⟩
        have et : r.take (nts r).length = r := by
          rw [nts_length]
          exact List.take_length
        rw [et] at w1
        refine ⟨S, _, rfl, .inl ⟨SqL.of w1, fun p np => ?_⟩⟩
        have sp : Same H10 (upd H11 p (.tup (nts (r.map fun q => (ordF t x).idxOf q)))) := Same.new (smS w2) np
        have hp : (upd H11 p (.tup (nts (r.map fun q => (ordF t x).idxOf q)))) p = some (.tup (nts (r.map fun q => (ordF t x).idxOf q))) := upd_same
        generalize upd H11 p (.tup (nts (r.map fun q => (ordF t x).idxOf q))) = H12 at sp hp ⊢
        have hG := sp _ _ u1
        refine ⟨us9, hG, ?_, us9 ++ [.ref p], upd_same, ?_, fun b o hb h => ?_⟩
        · rw [u2.1, List.length_take]
          rw [lean_len]
          exact Nat.lt_of_le_of_lt (show _ ≤ 1000 by omega) (by decide)
        · rw [take_snoc el]
          refine (u2.to fun b ys h => ?_).snoc ?_
          · rw [upd_ne (ne_of (sp _ _ h) hG (fun z => by cases z))]
            exact sp _ _ h
          · rw [upd_ne (ne_of hp hG (fun z => by cases z))]
            exact hp
        · rw [upd_ne hb]
          exact sp _ _ (u3 b o hb h)
    · rintro H10 ⟨us9, u1, u2, u3⟩
      have et2 : (leanT t x).take (nts (ordF t x)).length = leanT t x := by
        rw [nts_length, ← lean_len]
        exact List.take_length
      rw [et2] at u2
      refine ⟨G, _, rfl, .inl ⟨SqL.of u1, fun p np => ?_⟩⟩
      refine k p us9 _ upd_same (u2.to fun b ys h => ?_) (Same.new (s9.trans (smG u3)) np)
      exact keep_new h np
end
end M3

set_option Elab.async false
set_option linter.all false
set_option maxRecDepth 100000
set_option maxHeartbeats 8000000
/-! # spelled, first_word_to -/
namespace M3
open PySem L2
abbrev sSpelled : Stmt := top 31
abbrev sFirstTo : Stmt := top 30
abbrev nSpelled : List Str := ["came", "state", "signs", "now", "letter"]
abbrev nFirstTo : List Str := ["table", "letters", "states", "marks", "found", "came", "at", "state", "letter", "goal"]
theorem scSpelled : FnScope nSpelled ["came", "state"] (defScope sSpelled) := ⟨rfl, rfl, rfl, by decide +kernel, rfl, by decide +kernel, by decide +kernel⟩
theorem scFirstTo : FnScope nFirstTo ["table", "letters", "states"] (defScope sFirstTo) := ⟨rfl, rfl, rfl, by decide +kernel, rfl, by decide +kernel, by decide +kernel⟩
/-- from which place each place was found, and by which letter -/
def CameIs (H : Hp) (kvs : List (Key × V)) (F : List (Nat × Str)) : Prop := ∀ (i : Nat) (z : Nat × Str), F[i]? = some z → (z.2 = "" ∧ valV kvs (kN z.1) = some .non) ∨
  ∃ (T : Addr) (k c : Nat) (y : Nat × Str), k < i ∧ F[k]? = some y ∧ z.2 = y.2 ++ (⟨#[c]⟩ : Str) ∧ valV kvs (kN z.1) = some (.ref T) ∧ H T = some (.tup [.int ((y.1 : Nat) : Int), .str ⟨#[c]⟩])
theorem CameIs.same {H H' : Hp} {kvs : List (Key × V)} {F : List (Nat × Str)} (h : CameIs H kvs F) (s : ∀ b ys, H b = some (.tup ys) → H' b = some (.tup ys)) : CameIs H' kvs F := fun i z e => by
  rcases h i z e with q | ⟨T, k, c, y, a1, a2, a3, a4, a5⟩
  · exact .inl q
  · exact .inr ⟨T, k, c, y, a1, a2, a3, a4, s _ _ a5⟩
def sgl (c : Nat) : Str := ⟨#[c]⟩
theorem join_sgl (cs : List Nat) : Txt.join "" (cs.map sgl) = ⟨cs.toArray⟩ := by
  rw [join_flat, List.flatMap_map]
  congr 1
  induction cs with
  | nil => rfl
  | cons c cs ih =>
    rw [List.flatMap_cons]
    have ih' : (cs.flatMap fun a => (sgl a).cps.toList) = cs := by simpa using congrArg Array.toList ih
    rw [ih']
    rfl
theorem sum_sgl : ∀ cs : List Nat, ((cs.map sgl).map (·.length)).sum = cs.length
  | [] => rfl
  | c :: cs => by
    have := sum_sgl cs
    show 1 + ((cs.map sgl).map (·.length)).sum = cs.length + 1
    omega
def spSpelled : Sp := fun vs H Q _ => ∃ (D : Addr) (i : Nat) (z : Nat × Str) (F : List (Nat × Str)) (kvs : List (Key × V)), vs = [.ref D, .int ((z.1 : Nat) : Int)] ∧ H D = some (.dK kvs) ∧ CameIs H kvs F ∧ F[i]? = some z ∧ (F.map Prod.fst).Nodup ∧ F.length ≤ 1000 ∧
  ∀ H' : Hp, Same H H' → Q (.str z.2) H'
section
variable {P : Program} {w : World} {K : PySem.W.Frag} {mg : Str → Option Value} {base : Heap}
theorem ok_spelled {f : Addr} {fd : FuncData} (F : Fun K "spelled" "spelled" sSpelled f fd) : FnOk P w K mg base CX0 1 f fd ["came", "state"] spSpelled := by
  refine F.ok scSpelled (fun vs H Q E h => ?_) (fun cdv A outer s H vs Q E hr h => ?_)
  · obtain ⟨D, i, z, F, kvs, rfl, _⟩ := h
    rfl
  · obtain ⟨D, i, z, F, kvs, rfl, hD, hC, hz, nd, fl, k⟩ := h
    have hu := hu_of hr
    refine ⟨_, pss_cons (ps_set (i := 2) scSpelled.nd rfl (Or.inl rfl) (pe_lst pa_nil))
      (pss_cons (ps_set (i := 3) scSpelled.nd rfl (Or.inl rfl) (pv 1))
      (pss_cons (ps_while PassesOwn.never (pt_cmpR op_notN (pe_dget hu (pv 0) (pv 3) (fun _ _ => rfl)) pe_non (nomark _))
        (pss_cons (ps_asg (pe_dget hu (pv 0) (pv 3) (fun _ _ => rfl)) (pg_tup rfl (pgs_cons (pg_name (i := 3) scSpelled.nd rfl (Or.inl rfl)) (pgs_cons (pg_name (i := 4) scSpelled.nd rfl (Or.inl rfl)) pgs_nil))))
        (pss_one (ps_expr (pe_bm PySem.F.plainAttrs_list PySem.F.slot_list_append PySem.F.type_list_append mt_append (pv 2) (pa_cons (pv 4) pa_nil))))))
      (pss_one (ps_ret (pe_join pe_str (pe_revL (pv 2))))))), ?_⟩
    refine ⟨(by show 0 ≤ sizeLine; decide), fun S nS => ?_⟩
    have nS0 : H S = none := nS
    have hS0 : (upd H S (.lst ([] : List V))) S = some (.lst ([] : List V)) := upd_same
    have s0 : Same H (upd H S (.lst ([] : List V))) := Same.new (Same.refl H) nS
    have zi : i < F.length := (List.getElem?_eq_some_iff.mp hz).1
    refine ⟨_, rfl, while_by (fun σ H' => ∃ (j : Nat) (y : Nat × Str) (cs : List Nat) (v : Option V), σ = [some (.ref D), some (.int ((z.1 : Nat) : Int)), some (.ref S), some (.int ((y.1 : Nat) : Int)), v] ∧ H' S = some (.lst (cs.map fun c => V.str (sgl c))) ∧
        F[j]? = some y ∧ cs.length + j ≤ i ∧ z.2.cps.toList = y.2.cps.toList ++ cs.reverse ∧ Same H H')
      (fun σ H' => match σ with | [_, _, _, some (.int q), _] => (F.map Prod.fst).idxOf q.toNat | _ => 0)
      ⟨i, z, [], none, rfl, hS0, hz, (by show 0 + i ≤ i; omega), by simp, s0⟩ ?_ ?_⟩
    · rintro σ H5 ⟨j, y, cs, v, rfl, hS, hy, lj, ez, sH⟩
      have hD5 := sH _ _ hD
      have yi : (F.map Prod.fst)[j]? = some y.1 := by
        rw [List.getElem?_map, hy]
        rfl
      have ij := idx_at nd yi
      rcases hC j y hy with ⟨e1, e2⟩ | ⟨T, k2, c, y2, a1, a2, a3, a4, a5⟩
      · have dg := DGet.k (k := kN y.1) hD5
        rw [e2] at dg
        refine ⟨_, rfl, _, rfl, D, _, rfl, dg, rfl, _, rfl, ?_⟩
        refine iteF ?_
        have er : (cs.map fun c => V.str (sgl c)).reverse = (cs.reverse.map sgl).map V.str := by
          rw [List.map_map, List.map_reverse]
          rfl
        refine ⟨⟨_, rfl⟩, _, rfl, S, _, rfl, SqL.of hS, fun p np => ?_⟩
        rw [er]
        refine ⟨"", p, cs.reverse.map sgl, rfl, rfl, .inl (SqL.of upd_same), ?_, ?_⟩
        · rw [sum_sgl, List.length_map, List.length_reverse]
          have e0 : ("" : Str).length = 0 := by decide +kernel
          rw [e0]
          omega
        · rw [join_sgl]
          have e0 : ("" : Str).cps.toList = [] := by decide +kernel
          have ez2 : (⟨cs.reverse.toArray⟩ : Str) = z.2 := str_ext (by
            rw [ez, e1, e0]
            rfl)
          rw [ez2]
          exact k _ (Same.new sH np)
      · have dg := DGet.k (k := kN y.1) hD5
        rw [a4] at dg
        refine ⟨_, rfl, _, rfl, D, _, rfl, dg, rfl, _, rfl, ?_⟩
        refine iteT ?_
        refine ⟨_, rfl, _, rfl, D, _, rfl, dg, T, _, rfl, SqT.of (sH _ _ a5), rfl, _, _, rfl, _, _, rfl, rfl, ?_⟩
        have y2i : (F.map Prod.fst)[k2]? = some y2.1 := by
          rw [List.getElem?_map, a2]
          rfl
        have ij2 := idx_at nd y2i
        refine ⟨_, rfl, .inl ⟨rfl, _, SqL.of hS⟩, _, rfl, S, _, _, rfl, rfl, hS, ?_, ⟨k2, y2, cs ++ [c], _, rfl, ?_, a2, ?_, ?_, ?_⟩, ?_⟩
        · rw [List.length_map]
          exact Nat.lt_of_le_of_lt (show cs.length ≤ 1000 by omega) (by decide)
        · rw [upd_same, List.map_append]
          rfl
        · rw [List.length_append]
          show cs.length + 1 + k2 ≤ i
          omega
        · rw [ez, a3, snoc_cps, List.reverse_append]
          simp
        · intro b o h
          rw [upd_ne (ne_of_none h nS0)]
          exact sH _ _ h
        · show (F.map Prod.fst).idxOf ((y2.1 : Nat) : Int).toNat < (F.map Prod.fst).idxOf ((y.1 : Nat) : Int).toNat
          rw [Int.toNat_natCast, Int.toNat_natCast, ij, ij2]
          exact a1
    · rintro σ H1 Q1 Q2 hq ⟨v1, hv1, v2, hv2, D1, v, e1, dg, e2, b, hb, hh⟩
      exact ⟨v1, hv1, v2, hv2, D1, v, e1, dg, e2, b, hb, hq _ _ hh⟩
end
end M3

set_option Elab.async false
set_option linter.all false
set_option maxRecDepth 100000
set_option maxHeartbeats 8000000
/-! # first_word_to -/
namespace M3
open PySem L2
theorem find_pre {F G : List (Nat × Str)} {p : Nat × Str → Bool} {i : Nat} {z : Nat × Str} (h : F <+: G) (e : F[i]? = some z) (pz : p z = true) (no : ∀ (j : Nat) (y : Nat × Str), j < i → F[j]? = some y → p y = false) : G.find? p = some z := by
  rw [List.find?_eq_some_iff_getElem]
  obtain ⟨hi, e1⟩ := List.getElem?_eq_some_iff.mp (pre_at h e)
  refine ⟨pz, i, hi, e1, fun j hj => ?_⟩
  have hF : j < F.length := Nat.lt_trans hj (List.getElem?_eq_some_iff.mp e).1
  have ej := pre_at h (List.getElem?_eq_getElem hF)
  have := no j F[j] hj (List.getElem?_eq_getElem hF)
  obtain ⟨hj2, e2⟩ := List.getElem?_eq_some_iff.mp ej
  rw [e2, this]
  rfl
theorem Way.pre {t : List (List Nat)} {x : Str} {m i : Nat} {F : List (Nat × Str)} (h : Way t x m i F) (tb : IsTab t t.length m) (hm : x.cps.size = m) (tk : t.length ≤ 1000) (hi : i ≤ F.length) : F <+: frs t x := by
  have := (frsL_end tb hm (100000 - i) i F h.ff (by have := h.ff.len; omega)).1
  rwa [h.eq] at this
/-- the first word that leads to one of these, as it is told -/
def toldTo (t : List (List Nat)) (x : Str) (es : List Nat) : V := match (frs t x).find? fun z => decide (z.1 ∈ es) with
  | some z => .str z.2
  | none => .non
def KeysIs (kvs : List (Key × V)) (F : List (Nat × Str)) : Prop := ∀ q : Nat, (valV kvs (kN q)).isSome = decide (q ∈ F.map Prod.fst)
def spFirstTo (K : PySem.W.Frag) : Sp := fun vs H Q _ => ∃ (a b : Addr) (us : List V) (t : List (List Nat)) (m : Nat) (x : Str) (es : List Nat), vs = [.ref a, .str x, .ref b] ∧ SqT K H a us ∧ Tups K H us t ∧ IsTab t t.length m ∧ 1 ≤ t.length ∧ t.length ≤ 1000 ∧ x.cps.size = m ∧ SqT K H b (nts es) ∧ es.length ≤ 1000 ∧
  ∀ H' : Hp, Same H H' → Q (toldTo t x es) H'
section
variable {P : Program} {w : World} {K : PySem.W.Frag} {mg : Str → Option Value} {base : Heap}
theorem ok_firstto {f g g2 : Addr} {fd gd gd2 : FuncData} (F : Fun K "first_word_to" "first_word_to" sFirstTo f fd) (G : Fun K "marked" "marked" sMarked g gd) (bG : Binds K gd ["states"] []) (mG : mg "marked" = some (.ref g))
    (G2 : Fun K "spelled" "spelled" sSpelled g2 gd2) (b2 : Binds K gd2 ["came", "state"] []) (m2 : mg "spelled" = some (.ref g2)) (M : TxM mg) (hZ : mg "zip" = none) : FnOk P w K mg base CX0 2 f fd ["table", "letters", "states"] (spFirstTo K) := by
  have GM : FnOk P w K mg base CX0 1 g gd ["states"] (spMarked K) := ok_marked G
  have GS : FnOk P w K mg base CX0 1 g2 gd2 ["came", "state"] spSpelled := ok_spelled G2
  refine F.ok scFirstTo (fun vs H Q E h => ?_) (fun cdv A outer s H vs Q E hr h => ?_)
  · obtain ⟨a, b, us, t, m, x, es, rfl, _⟩ := h
    rfl
  · obtain ⟨a, b, us, t, m, x, es, rfl, ha, hT, tb, t1, tk, hm, hb, he, k⟩ := h
    have hu := hu_of hr
    refine ⟨_, pss_cons (ps_set (i := 3) scFirstTo.nd rfl (Or.inl rfl) (pe_call GM hr rfl mG G.kp bG .nil pass0 (pa_cons (pv 2) pa_nil)))
      (pss_cons (ps_set (i := 4) scFirstTo.nd rfl (Or.inl rfl) (pe_lst (pa_cons pe_int pa_nil)))
      (pss_cons (ps_set (i := 5) scFirstTo.nd rfl (Or.inl rfl) (pe_disp (pps_cons pe_int pe_non pps_nil) (by rfl) (by rfl) (fun z => by cases z) (by decide)))
      (pss_cons (ps_set (i := 6) scFirstTo.nd rfl (Or.inl rfl) pe_int)
      (pss_cons (ps_while PassesOwn.never (pt_cmpR op_lt (pv 6) (pe_callB call_len_seq (by rfl) M.len PySem.boot_len (pa_cons (pv 4) pa_nil)) (nomark _))
        (pss_cons (ps_set (i := 7) scFirstTo.nd rfl (Or.inl rfl) (pe_ix ix_list (pv 4) (pv 6) (fun _ _ => rfl)))
        (pss_cons (ps_if (pt_cmp (pc_din hu (pv 7) (pv 3))) (pss_one (ps_ret (pe_call GS hr rfl m2 G2.kp b2 .nil pass0 (pa_cons (pv 5) (pa_cons (pv 7) pa_nil))))) pss_nil)
        (pss_cons (ps_for PassesOwn.never rfl (NvLT.pi_zipST rfl hZ (pa_cons (pv 1) (pa_cons (pe_ix ix_tup (pv 0) (pv 7) (fun _ _ => rfl)) pa_nil))) (pg_tup rfl (pgs_cons (pg_name (i := 8) scFirstTo.nd rfl (Or.inl rfl)) (pgs_cons (pg_name (i := 9) scFirstTo.nd rfl (Or.inl rfl)) pgs_nil)))
          (pss_one (ps_if (pt_cmp (pc_dnotin hu (pv 9) (pv 5)))
            (pss_cons (ps_dput hu (pv 5) (pv 9) (pe_tup (pa_cons (pv 7) (pa_cons (pv 8) pa_nil))) rfl)
            (pss_one (ps_expr (pe_bm PySem.F.plainAttrs_list PySem.F.slot_list_append PySem.F.type_list_append mt_append (pv 4) (pa_cons (pv 9) pa_nil))))) pss_nil)))
        (pss_one (ps_aug (i := 6) scFirstTo.nd rfl (.inl rfl) pe_int ip_add))))))
      (pss_one (ps_ret pe_non)))))), ?_⟩
    refine ⟨_, rfl, b, es, rfl, hb, he, fun MD mk H1 nM hM sI s1 => ?_⟩
    have ha := sqt_same s1 ha
    have hT := hT.same s1
    refine ⟨(by show 1 ≤ sizeLine; decide), fun l nl => ?_⟩
    intro D nD
    refine ⟨upd_same, [(.inl 0, .non)], rfl, (by show 1 ≤ 15; decide), ?_⟩
    rw [upd_upd]
    have lD : l ≠ D := fun z => by
      rw [← z, upd_same] at nD
      cases nD
    have nl0 : H1 l = none := nl
    have nD0 : H1 D = none := by
      rw [upd_ne (Ne.symm lD)] at nD
      exact nD
    have hl0 : (upd (upd H1 l (.lst [V.int 0])) D (.dK [((.inl 0 : Key), V.non)])) l = some (.lst (nts [0])) := by
      rw [upd_ne lD]
      exact upd_same
    have hD0 : (upd (upd H1 l (.lst [V.int 0])) D (.dK [((.inl 0 : Key), V.non)])) D = some (.dK [(kN 0, V.non)]) := upd_same
    have s2 : Same H1 (upd (upd H1 l (.lst [V.int 0])) D (.dK [((.inl 0 : Key), V.non)])) := Same.new (Same.new (Same.refl H1) nl) nD
    have k0 : KeysIs [(kN 0, V.non)] [((0 : Nat), ("" : Str))] := fun q => by
      by_cases e : q = 0
      · subst e
        have z : valV [(kN 0, V.non)] (kN 0) = some .non := valV_pos rfl
        rw [z]
        rfl
      · rw [valV_neg (fun z => e (kN_inj z).symm), valV_nil]
        have : q ∉ ([((0 : Nat), ("" : Str))] : List (Nat × Str)).map Prod.fst := fun z => e (List.mem_singleton.mp z)
        rw [decide_eq_false this]
        rfl
    refine while_by (fun σ H' => ∃ (F : List (Nat × Str)) (kvs : List (Key × V)) (at' : Nat) (v1 v2 v3 : Option V), σ = [some (.ref a), some (.str x), some (.ref b), some (.ref MD), some (.ref l), some (.ref D), some (.int (at' : Nat)), v1, v2, v3] ∧
        H' l = some (.lst (nts (F.map Prod.fst))) ∧ H' D = some (.dK kvs) ∧ KeysIs kvs F ∧ kvs.length ≤ F.length ∧ CameIs H' kvs F ∧ Way t x m at' F ∧ at' ≤ F.length ∧ (∀ (j : Nat) (y : Nat × Str), j < at' → F[j]? = some y → decide (y.1 ∈ es) = false) ∧ Same H1 H')
      (fun σ H' => match σ with | [_, _, _, _, _, _, some (.int i), _, _, _] => t.length - i.toNat | _ => 0)
      ⟨[((0 : Nat), ("" : Str))], [(kN 0, V.non)], 0, none, none, none, rfl, hl0, hD0, k0, Nat.le_refl _, ?_, Way.start t1, Nat.zero_le _, fun j y hj => by omega, s2⟩ ?_ ?_
    · intro i z e
      match i, e with
      | 0, e =>
        cases e
        exact .inl ⟨rfl, valV_pos rfl⟩
    · rintro σ H5 ⟨F, kvs, at', v1, v2, v3, rfl, hl, hD, hK, lk, hC, hw, ale, no, sH⟩
      have fl := hw.ff.len
      refine ⟨_, rfl, _, rfl, l, _, rfl, .inl (SqL.of hl), _, _, rfl, rfl, _, rfl, ?_⟩
      rw [nts_length, List.length_map]
      refine ite2 (fun h1 => ?_) (fun h1 => ?_)
      · have h1 : at' < F.length := by
          have := of_decide_eq_true h1
          omega
        have hz : F[at']? = some F[at'] := List.getElem?_eq_getElem h1
        generalize F[at'] = z at hz
        have q := hw.ff.lt _ (List.mem_map.mpr ⟨z, List.mem_of_getElem? hz, rfl⟩)
        have hnext := hw.next tb hm tk hz
        obtain ⟨b0, b1, b2⟩ := hT.2 z.1 _ (row_at q)
        obtain ⟨rl, rz⟩ := row_tab tb q
        generalize t.getD z.1 [] = r at b2 rl rz hnext
        have ei : atI (nts (F.map Prod.fst)) (at' : Int) = some (.int ((z.1 : Nat) : Int)) := by
          have e := nts_at (r := F.map Prod.fst) (j := at') (by rw [List.length_map]; exact h1)
          rw [e, List.getD_eq_getElem?_getD, List.getElem?_map, hz]
          rfl
        refine ⟨_, rfl, _, rfl, l, _, _, _, rfl, rfl, SqL.of hl, ei, ?_⟩
        have hM5 := sH _ _ hM
        refine ⟨_, rfl, _, rfl, MD, _, rfl, DGet.k (k := kN z.1) hM5, ?_⟩
        have sz : (valV mk (kN z.1)).isSome = decide (z.1 ∈ es) := sI z.1
        refine ⟨_, rfl, ?_⟩
        rw [sz]
        refine ite2 (fun he2 => ?_) (fun he2 => ?_)
        · refine ⟨_, rfl, _, rfl, D, at', z, F, kvs, rfl, hD, hC, hz, hw.ff.nd, (by omega), fun H6 s6 => ?_⟩
          have e : toldTo t x es = .str z.2 := by
            unfold toldTo
            rw [find_pre (hw.pre tb hm tk ale) hz he2 no]
          rw [e] at k
          exact k H6 ((s1.trans sH).trans s6)
        · have he3 : decide (z.1 ∈ es) = false := by
            cases h : decide (z.1 ∈ es) with
            | false => rfl
            | true => exact absurd h he2
          refine ⟨_, rfl, _, rfl, _, rfl, a, us, _, .ref b0, rfl, rfl, sqt_same sH ha, atI_nat b1, x, b0, nts r, rfl, sqt_same sH b2, ?_⟩
          have hmin : min x.cps.size (nts r).length = x.cps.size := by
            rw [nts_length]
            omega
          refine for_it (NvLT.walk_zipST (K := K) (x := x) (b := b0) (ys := nts r)) (fun j σ H' => ∃ (kvs : List (Key × V)) (v2 v3 : Option V), σ = [some (.ref a), some (.str x), some (.ref b), some (.ref MD), some (.ref l), some (.ref D), some (.int (at' : Nat)), some (.int (z.1 : Nat)), v2, v3] ∧
              H' l = some (.lst (nts ((rowF r x z.2 F j).map Prod.fst))) ∧ H' D = some (.dK kvs) ∧ KeysIs kvs (rowF r x z.2 F j) ∧ kvs.length ≤ (rowF r x z.2 F j).length ∧ CameIs H' kvs (rowF r x z.2 F j) ∧ Same H1 H')
            ⟨kvs, v2, v3, rfl, hl, hD, hK, lk, hC, sH⟩ (fun i σ H' _ ⟨_, _, _, _, _, _, _, _, _, z⟩ => sqt_same z b2) ?_ ?_
          · rintro j v σ H7 H8 hj ⟨kvs, v2, v3, rfl, hl, hD, hK, lk, hC, sH⟩ ⟨T, c, y, rfl, nT, rfl, hc, hy⟩
            rw [hmin] at hj
            obtain ⟨jr, rfl⟩ := nts_get hy
            have hc' : x.cps.toList[j]? = some c := by simpa using hc
            have ec : x.cps.toList.getD j 0 = c := getD_some' hc'
            have ndj := rowF_nodup (r := r) (x := x) (w := z.2) hw.ff.nd j
            have fl2 : (rowF r x z.2 F j).length ≤ t.length := by
              have := nodup_lt_len ndj (rowF_lt rz hw.ff.lt j (by omega))
              rwa [List.length_map] at this
            have gz : (rowF r x z.2 F j)[at']? = some z := pre_at (rowF_pre _) hz
            have er : rowF r x z.2 F (j + 1) = addF (r.getD j 0) z.2 c (rowF r x z.2 F j) := by
              show addF (r.getD j 0) z.2 (x.cps.toList.getD j 0) _ = _
              rw [ec]
            have al : at' < (rowF r x z.2 F j).length := (List.getElem?_eq_some_iff.mp gz).1
            rw [er]
            generalize rowF r x z.2 F j = G at hl hD hK lk hC ndj fl2 gz al ⊢
            generalize r.getD j 0 = q2 at hy ⊢
            refine ⟨T, _, rfl, SqT.of upd_same, rfl, _, _, rfl, _, _, rfl, rfl, ?_⟩
            have hl := keep_new (u := .tup [.str ⟨#[c]⟩, .int ((q2 : Nat) : Int)]) hl nT
            have hD := keep_new (u := .tup [.str ⟨#[c]⟩, .int ((q2 : Nat) : Int)]) hD nT
            have hC := hC.same (H' := upd H7 T (.tup [.str ⟨#[c]⟩, .int ((q2 : Nat) : Int)])) fun b ys h => keep_new h nT
            have sH : Same H1 (upd H7 T (.tup [.str ⟨#[c]⟩, .int ((q2 : Nat) : Int)])) := Same.new sH nT
            generalize upd H7 T (.tup [.str ⟨#[c]⟩, .int ((q2 : Nat) : Int)]) = H8 at hl hD hC sH ⊢
            refine ⟨_, rfl, _, rfl, D, _, rfl, DGet.k (k := kN q2) hD, _, rfl, ?_⟩
            have sz := hK q2
            by_cases mem : q2 ∈ G.map Prod.fst
            · rw [decide_eq_true mem] at sz
              rw [sz, addF_old mem]
              exact iteF ⟨kvs, _, _, rfl, hl, hD, hK, lk, hC, sH⟩
            · rw [decide_eq_false mem] at sz
              rw [sz, addF_new mem]
              refine iteT ?_
              have nv : valV kvs (kN q2) = none := by
                cases e : valV kvs (kN q2) with
                | none => rfl
                | some v =>
                  rw [e] at sz
                  cases sz
              refine ⟨_, rfl, _, rfl, (by show 2 ≤ sizeLine; decide), fun T2 nT2 => ?_⟩
              have hT2 : (upd H8 T2 (.tup [.int ((z.1 : Nat) : Int), .str ⟨#[c]⟩])) T2 = some (.tup [.int ((z.1 : Nat) : Int), .str ⟨#[c]⟩]) := upd_same
              have sT2 : Same H8 (upd H8 T2 (.tup [.int ((z.1 : Nat) : Int), .str ⟨#[c]⟩])) := Same.new (Same.refl H8) nT2
              generalize upd H8 T2 (.tup [.int ((z.1 : Nat) : Int), .str ⟨#[c]⟩]) = H9 at hT2 sT2 ⊢
              have hl := sT2 _ _ hl
              have hD := sT2 _ _ hD
              have hC := hC.same (H' := H9) fun b ys h => sT2 _ _ h
              have sH := sH.trans sT2
              refine ⟨_, rfl, _, rfl, D, _, rfl, DPut.k (k := kN q2) hD (Nat.lt_of_le_of_lt (show kvs.length ≤ 1000 by omega) (by decide)), ?_⟩
              have lD2 : l ≠ D := ne_of hl hD (fun z => by cases z)
              have hl2 : (upd H9 D (.dK (putK kvs (kN q2) (.ref T2)))) l = some (.lst (nts (G.map Prod.fst))) := by
                rw [upd_ne lD2]
                exact hl
              refine ⟨_, rfl, .inl ⟨rfl, _, SqL.of hl2⟩, _, rfl, l, _, _, rfl, rfl, hl2, ?_, putK kvs (kN q2) (.ref T2), _, _, rfl, ?_, ?_, fun q => ?_, ?_, fun i y ey => ?_, fun b' o h => ?_⟩
              · rw [nts_length, List.length_map]
                exact Nat.lt_of_le_of_lt (show G.length ≤ 1000 by omega) (by decide)
              · rw [upd_same, List.map_append, nts_append]
                rfl
              · rw [upd_ne (Ne.symm lD2)]
                exact upd_same
              · rw [valV_put, List.map_append]
                by_cases e : q = q2
                · subst e
                  rw [if_pos rfl]
                  simp
                · rw [if_neg (fun z => e (kN_inj z)), hK q]
                  by_cases mq : q ∈ G.map Prod.fst
                  · simp [mq]
                  · simp [mq, e]
              · rw [putK_new _ nv, List.length_append, List.length_append]
                show kvs.length + 1 ≤ G.length + 1
                omega
              · have tl : ∀ (T3 : Addr) (ys : List V), H9 T3 = some (.tup ys) → (upd (upd H9 D (.dK (putK kvs (kN q2) (.ref T2)))) l (.lst (nts (G.map Prod.fst) ++ [.int ((q2 : Nat) : Int)]))) T3 = some (.tup ys) := fun T3 ys h => by
                  rw [upd_ne (ne_of h hl (fun z => by cases z)), upd_ne (ne_of h hD (fun z => by cases z))]
                  exact h
                rcases snoc_at ey with ey | ⟨rfl, rfl⟩
                · have ny : kN y.1 ≠ kN q2 := fun z => mem (by
                    rw [← kN_inj z]
                    exact List.mem_map.mpr ⟨y, List.mem_of_getElem? ey, rfl⟩)
                  rcases hC i y ey with ⟨e1, e2⟩ | ⟨T3, k3, c3, y3, a1, a2, a3, a4, a5⟩
                  · refine .inl ⟨e1, ?_⟩
                    rw [valV_put, if_neg ny]
                    exact e2
                  · refine .inr ⟨T3, k3, c3, y3, a1, at_app a2 _, a3, ?_, tl _ _ a5⟩
                    rw [valV_put, if_neg ny]
                    exact a4
                · refine .inr ⟨T2, at', c, z, al, at_app gz _, rfl, ?_, tl _ _ hT2⟩
                  rw [valV_put, if_pos rfl]
              · rw [upd_ne (ne_of_none h nl0), upd_ne (ne_of_none h nD0)]
                exact sH _ _ h
          · rintro σ H7 ⟨kvs, v2, v3, rfl, hl, hD, hK, lk, hC, sH⟩
            rw [hmin] at hl hK lk hC
            have rlen := rowF_len (r := r) (x := x) (w := z.2) (F := F) x.cps.size
            refine ⟨_, rfl, _, _, rfl, rfl, ⟨_, kvs, at' + 1, _, _, _, rfl, hl, hD, hK, lk, hC, hnext, by omega, fun j y hj ey => ?_, sH⟩, ?_⟩
            · by_cases e : j = at'
              · subst e
                rw [pre_at (rowF_pre _) hz] at ey
                cases ey
                exact he3
              · have hjF : j < F.length := by omega
                have ej := List.getElem?_eq_getElem hjF
                rw [pre_at (rowF_pre _) ej] at ey
                cases ey
                exact no j _ (by omega) ej
            · show t.length - (at' + 1) < t.length - at'
              omega
      · have hge : F.length ≤ at' := by
          by_cases q : F.length ≤ at'
          · exact q
          · exact absurd (decide_eq_true (show ((at' : Nat) : Int) < ((F.length : Nat) : Int) by omega)) h1
        have := hw.stop hge
        subst this
        have e : toldTo t x es = .non := by
          unfold toldTo
          have : (frs t x).find? (fun z => decide (z.1 ∈ es)) = none := by
            rw [List.find?_eq_none]
            intro z hz
            obtain ⟨j, hj, ej⟩ := List.getElem_of_mem hz
            rw [no j z (by omega) (by rw [List.getElem?_eq_getElem hj, ej])]
            simp
          rw [this]
        rw [e] at k
        exact k H5 (s1.trans sH)
    · rintro σ H1 Q1 Q2 hq h
      obtain ⟨v1, hv1, v2, hv2, p, ys, hp, hs, i1, i2, c1, c2, b, hb, hh⟩ := h
      exact ⟨v1, hv1, v2, hv2, p, ys, hp, hs, i1, i2, c1, c2, b, hb, hq _ _ hh⟩
end
end M3

set_option Elab.async false
set_option linter.all false
set_option maxRecDepth 100000
set_option maxHeartbeats 8000000
/-! # Lags -/
namespace M3
open PySem L2
abbrev sLagL : Stmt := top 82
abbrev nLagL : List Str := ["table", "letters", "word", "found", "number", "place"]
theorem scLagL : FnScope nLagL ["table", "letters", "word"] (defScope sLagL) := ⟨rfl, rfl, rfl, by decide +kernel, rfl, by decide +kernel, by decide +kernel⟩
/-- after so many times one more changes nothing, and not before -/
def Lag (g : List Nat) (n : Nat) : Prop := pw g (n + 1) = pw g n ∧ ∀ k, k < n → pw g (k + 1) ≠ pw g k
theorem Lag.unique {g : List Nat} {n m : Nat} (h : Lag g n) (k : Lag g m) : n = m := by
  rcases Nat.lt_trichotomy n m with q | q | q
  · exact absurd h.1 (k.2 n q)
  · exact q
  · exact absurd k.1 (h.2 m q)
theorem pw_shift {g : List Nat} {i j : Nat} (h : pw g i = pw g j) : ∀ k, pw g (i + k) = pw g (j + k)
  | 0 => h
  | k + 1 => by
    show comp (pw g (i + k)) g = comp (pw g (j + k)) g
    rw [pw_shift h k]
theorem pw_rest {g : List Nat} {n : Nat} (h : pw g (n + 1) = pw g n) : ∀ k, pw g (n + k) = pw g n
  | 0 => rfl
  | k + 1 => by
    have := pw_shift h k
    rw [pw_rest h k] at this
    rw [← this, show n + 1 + k = n + (k + 1) by omega]
theorem Lag.ex {g : List Nat} : ∀ {n : Nat}, pw g (n + 1) = pw g n → ∃ m, m ≤ n ∧ Lag g m
  | 0, h => ⟨0, Nat.le_refl _, h, fun k hk => by omega⟩
  | n + 1, h => by
    by_cases q : pw g (n + 1) = pw g n
    · obtain ⟨m, hm, l⟩ := Lag.ex q
      exact ⟨m, by omega, l⟩
    · by_cases e : ∃ k, k < n ∧ pw g (k + 1) = pw g k
      · obtain ⟨k, hk, e⟩ := e
        have a := pw_rest e (n - k)
        have b := pw_rest e (n + 1 - k)
        rw [show k + (n - k) = n by omega] at a
        rw [show k + (n + 1 - k) = n + 1 by omega] at b
        exact absurd (b.trans a.symm) q
      · refine ⟨n + 1, Nat.le_refl _, h, fun k hk z => ?_⟩
        by_cases kn : k = n
        · rw [kn] at z
          exact q z
        · exact e ⟨k, by omega, z⟩
/-- where the powers begin again is the lag, if they come to rest -/
theorem lag_of {g : List Nat} {n b N : Nat} (st : pw g (N + 1) = pw g N) (ap : Apart g n) (e : pw g n = pw g b) (hb : b < n) : Lag g b := by
  obtain ⟨L, _, hL⟩ := Lag.ex st
  have far : ∀ k, L ≤ k → pw g k = pw g L := fun k hk => by
    have := pw_rest hL.1 (k - L)
    rwa [show L + (k - L) = k by omega] at this
  have per : ∀ i k, pw g (b + k) = pw g (b + k + i * (n - b)) := fun i k => by
    induction i with
    | zero => rw [Nat.zero_mul, Nat.add_zero]
    | succ i ih =>
      have := pw_shift e (k + i * (n - b))
      rw [ih, show b + k + i * (n - b) = b + (k + i * (n - b)) by omega, ← this, show n + (k + i * (n - b)) = b + k + (i + 1) * (n - b) by
        rw [Nat.succ_mul]
        omega]
  have big : L ≤ L * (n - b) := Nat.le_mul_of_pos_right _ (by omega)
  have c0 : pw g b = pw g L := by
    have := per L 0
    rw [Nat.add_zero] at this
    rw [this]
    exact far _ (by omega)
  have c1 : pw g (b + 1) = pw g L := by
    rw [per L 1]
    exact far _ (by omega)
  have bL : L ≤ b := Nat.le_of_not_lt fun z => hL.2 b z (c1.trans c0.symm)
  have : L = b := ap L b (by omega) hb c0.symm
  rw [← this]
  exact hL
theorem pw_its {g : List Nat} {q : Nat} (hq : q < g.length) : ∀ k, (pw g k).getD q 0 = its g q k
  | 0 => by
    show (List.range g.length).getD q 0 = q
    rw [List.getD_eq_getElem?_getD, List.getElem?_range hq]
    rfl
  | k + 1 => by
    have hl : q < (pw g k).length := by rw [pw_length]; exact hq
    have ih := pw_its hq k
    rw [List.getD_eq_getElem?_getD, List.getElem?_eq_getElem hl] at ih
    show ((pw g k).map fun z => g.getD z 0).getD q 0 = g.getD (its g q k) 0
    rw [List.getD_eq_getElem?_getD, List.getElem?_map, List.getElem?_eq_getElem hl, ← ih]
    rfl
theorem pw_ext {g : List Nat} {i j : Nat} (h : ∀ q, q < g.length → its g q i = its g q j) : pw g i = pw g j := by
  refine List.ext_getElem? fun q => ?_
  by_cases hq : q < g.length
  · have a := pw_its hq i
    have b := pw_its hq j
    rw [h q hq, ← b, List.getD_eq_getElem?_getD, List.getD_eq_getElem?_getD, List.getElem?_eq_getElem (by rw [pw_length]; exact hq), List.getElem?_eq_getElem (by rw [pw_length]; exact hq)] at a
    rw [List.getElem?_eq_getElem (by rw [pw_length]; exact hq), List.getElem?_eq_getElem (by rw [pw_length]; exact hq)]
    exact congrArg some a
  · rw [List.getElem?_eq_none (by rw [pw_length]; omega), List.getElem?_eq_none (by rw [pw_length]; omega)]
def spLagL (K : PySem.W.Frag) : Sp := fun vs H Q _ => ∃ (a : Addr) (x y : Str) (us : List V) (t : List (List Nat)) (m L : Nat), vs = [.ref a, .str x, .str y] ∧ SqL K H a us ∧ Tups K H us t ∧ IsTab t t.length m ∧ t.length ≤ 1000 ∧ IsSet x m ∧ m ≤ 2 ∧ IsW x y ∧ Lag (act t x y.cps.toList) L ∧
  ∀ H' : Hp, Same H H' → Q (.int ((L : Nat) : Int)) H'
section
variable {P : Program} {w : World} {K : PySem.W.Frag} {mg : Str → Option Value} {base : Heap}
theorem ok_lagl {f g : Addr} {fd gd : FuncData} (F : Fun K "_law_lag" "_law_lag" sLagL f fd) (G : Fun K "_law_led" "_law_led" sLawLed g gd) (bG : Binds K gd ["table", "letters", "word", "start"] []) (mG : mg "_law_led" = some (.ref g)) (M : TxM mg) :
    FnOk P w K mg base CX0 2 f fd ["table", "letters", "word"] (spLagL K) := by
  have GL : FnOk P w K mg base CX0 1 g gd ["table", "letters", "word", "start"] (spLawLed K) := ok_lawled G
  refine F.ok scLagL (fun vs H Q E h => ?_) (fun cdv A outer s H vs Q E hr h => ?_)
  · obtain ⟨a, x, y, us, t, m, L, rfl, _⟩ := h
    rfl
  · obtain ⟨a, x, y, us, t, m, L, rfl, ha, hT, tb, tk, st, m2, hw, hL, k⟩ := h
    refine ⟨_, pss_cons (ps_par (i := 3) (j := 4) (by rfl) scLagL.nd rfl rfl (by decide) rfl rfl (pa_cons (pe_listRg rfl rfl M.list (prg_1 rfl M.range (pe_callB call_len_seq (by rfl) M.len PySem.boot_len (pa_cons (pv 0) pa_nil)))) (pa_cons pe_int pa_nil)) (by rfl))
      (pss_cons (ps_while PassesOwn.never (pt_cmpR (op_neD hr.units) (pe_lc (own := [("place", 5)]) (g := gName 5) (tt := tYes) (te := tCall (spLawLed K) [] E0 (tCons (tVar 0) (tCons (tVar 1) (tCons (tVar 2) (tCons (tVar 5) tNil))))) rfl scLagL.nd (pi_list (pv 3)) (blkOk_by (N := nLagL) (sc := defScope sLagL) (by decide +kernel)) (fun _ _ _ _ _ => pg_name (i := 5) scLagL.nd rfl (Or.inl rfl)) (fun _ _ _ _ _ => pts_nil)
          (fun _ _ _ _ _ => pe_call GL hr rfl mG G.kp bG .nil pass0 (pa_cons (pv 0) (pa_cons (pv 1) (pa_cons (pv 2) (pa_cons (pv 5) pa_nil)))))) (pv 3) (nomark _))
        (pss_cons (ps_setLc (i := 3) (own := [("place", 5)]) (g := gName 5) (tt := tYes) (te := tCall (spLawLed K) [] E0 (tCons (tVar 0) (tCons (tVar 1) (tCons (tVar 2) (tCons (tVar 5) tNil))))) rfl scLagL.nd rfl rfl (by rfl) (pi_list (pv 3)) (blkOk_by (N := nLagL) (sc := defScope sLagL) (by decide +kernel)) (fun _ _ _ _ _ => pg_name (i := 5) scLagL.nd rfl (Or.inl rfl)) (fun _ _ _ _ _ => pts_nil)
          (fun _ _ _ _ _ => pe_call GL hr rfl mG G.kp bG .nil pass0 (pa_cons (pv 0) (pa_cons (pv 1) (pa_cons (pv 2) (pa_cons (pv 5) pa_nil))))))
        (pss_one (ps_set (i := 4) scLagL.nd rfl (Or.inl rfl) (pe_op op_add (pv 4) pe_int)))))
      (pss_one (ps_ret (pv 4)))), ?_⟩
    have lu : us.length = t.length := hT.1
    have lg : (act t x y.cps.toList).length = t.length := by
      unfold act
      rw [List.length_map, List.length_range]
    have gpt : ∀ q, q < t.length → (act t x y.cps.toList).getD q 0 = goes t x q y.cps.toList := fun q hq => act_pt hq
    have hm : x.cps.toList.length = m := by
      have := set_len st
      simpa [Str.length] using this
    have wf : ∀ z ∈ act t x y.cps.toList, z < (act t x y.cps.toList).length := fun z hz => by
      rw [lg]
      unfold act at hz
      obtain ⟨q, hq, rfl⟩ := List.mem_map.mp hz
      exact goes_lt tb hm _ q (List.mem_range.mp hq) hw
    generalize act t x y.cps.toList = gA at lg gpt wf hL
    refine ⟨_, rfl, a, us, rfl, .inl ha, _, rfl, .of_le (by decide) (by omega) (by decide) (by omega), fun p0 np => ?_⟩
    rw [lu, rgV_nats]
    have hp0 : (upd H p0 (.lst (nts (List.range t.length)))) p0 = some (.lst (nts (pw gA 0))) := by
      show _ = some (HO.lst (nts (List.range gA.length)))
      rw [lg]
      exact upd_same
    have s0 : Same H (upd H p0 (.lst (nts (List.range t.length)))) := Same.new (Same.refl H) np
    generalize upd H p0 (.lst (nts (List.range t.length))) = H0 at hp0 s0 ⊢
    refine ⟨_, _, rfl, ?_⟩
    refine while_by (fun σ H' => ∃ (n : Nat) (p : Addr), σ = [some (.ref a), some (.str x), some (.str y), some (.ref p), some (.int (n : Nat)), none] ∧ H' p = some (.lst (nts (pw gA n))) ∧ n ≤ L ∧ Same H H')
      (fun σ H' => match σ with | [_, _, _, _, some (.int i), _] => L - i.toNat | _ => 0)
      ⟨0, p0, rfl, hp0, Nat.zero_le _, s0⟩ ?_ ?_
    · rintro σ H5 ⟨n, p, rfl, hp, nL, sH⟩
      refine ⟨_, rfl, p, rfl, ⟨_, SqL.of hp⟩, fun C nC => ?_⟩
      have smC : ∀ {H9 : Hp}, (∀ b' o, b' ≠ C → H5 b' = some o → H9 b' = some o) → Same H5 H9 := fun z b' o h => z b' o (fun q => by rw [q, nC] at h; cases h) h
      refine lc_list (K := K) (a := p) (xs := nts (pw gA n)) (fun j H9 => H9 C = some (.lst (nts (comp ((pw gA n).take j) gA))) ∧ ∀ b o, b ≠ C → H5 b = some o → H9 b = some o)
        ⟨upd_same, fun b o hb h => keep_new h nC⟩ (fun j H9 _ ⟨_, z⟩ => SqL.of (smC z _ _ hp)) ?_ ?_
      · rintro j v H9 hv ⟨w1, w2⟩
        obtain ⟨hj, rfl⟩ := nts_get hv
        have ej : (pw gA n)[j]? = some ((pw gA n).getD j 0) := by
          rw [List.getD_eq_getElem?_getD, List.getElem?_eq_getElem hj]
          rfl
        have hq := pw_lt wf n _ (List.mem_of_getElem? ej)
        rw [lg] at hq
        generalize (pw gA n).getD j 0 = q at ej hq ⊢
        have s9 := sH.trans (smC w2)
        refine ⟨rfl, tYes_if ?_⟩
        refine ⟨_, rfl, _, rfl, _, rfl, _, rfl, a, x, y, q, t.length, m, t, us, rfl, s9.seq ha, hT.same s9, tb, st, m2, hw, hq, ?_⟩
        rw [← gpt q hq]
        refine ⟨_, w1, ?_, ?_, fun b' o hb' h' => by rw [upd_ne hb']; exact w2 b' o hb' h'⟩
        · rw [nts_length, comp_length, List.length_take, pw_length]
          exact Nat.lt_of_le_of_lt (show _ ≤ 1000 by omega) (by decide)
        · rw [upd_same, nts_append, take_snoc ej]
          unfold comp
          rw [List.map_append]
          rfl
      · rintro H6 ⟨w1, w2⟩
        have et : (pw gA n).take (nts (pw gA n)).length = pw gA n := by
          rw [nts_length]
          exact List.take_length
        rw [et] at w1
        have hC : H6 C = some (.lst (nts (pw gA (n + 1)))) := w1
        have s6 := smC w2
        have hp6 := s6 _ _ hp
        refine ⟨_, rfl, .list ((pw gA (n + 1)).map fun n => .int ((n : Nat) : Int)), .list ((pw gA n).map fun n => .int ((n : Nat) : Int)), .lst (SqL.of hC) (dp_nats _), .lst (SqL.of hp6) (dp_nats _), shaped_lN _, shaped_lN _, _, rfl, ?_⟩
        have ev : (PyData.list ((pw gA (n + 1)).map fun n => .int ((n : Nat) : Int))).eqv (.list ((pw gA n).map fun n => .int ((n : Nat) : Int))) = decide (pw gA (n + 1) = pw gA n) := by
          rw [PyData.eqv]
          exact eqv_nats _ _
        rw [ev]
        by_cases e : pw gA (n + 1) = pw gA n
        · have en : n = L := by
            rcases Nat.lt_or_ge n L with q | q
            · exact absurd e (hL.2 n q)
            · omega
          rw [decide_eq_true e]
          refine iteF ⟨_, rfl, ?_⟩
          rw [en]
          exact k H6 (sH.trans s6)
        · have nl : n < L := by
            rcases Nat.lt_or_ge n L with q | q
            · exact q
            · exact absurd (by rw [show n = L by omega]; exact hL.1) e
          rw [decide_eq_false e]
          refine iteT ?_
          have sH6 := sH.trans s6
          refine ⟨_, rfl, p, rfl, ⟨_, SqL.of hp6⟩, fun C2 nC2 => ?_⟩
          have smC2 : ∀ {H9 : Hp}, (∀ b' o, b' ≠ C2 → H6 b' = some o → H9 b' = some o) → Same H6 H9 := fun z b' o h => z b' o (fun q => by rw [q, nC2] at h; cases h) h
          refine lc_list (K := K) (a := p) (xs := nts (pw gA n)) (fun j H9 => H9 C2 = some (.lst (nts (comp ((pw gA n).take j) gA))) ∧ ∀ b o, b ≠ C2 → H6 b = some o → H9 b = some o)
            ⟨upd_same, fun b o hb h => keep_new h nC2⟩ (fun j H9 _ ⟨_, z⟩ => SqL.of (smC2 z _ _ hp6)) ?_ ?_
          · rintro j v H9 hv ⟨w1, w2⟩
            obtain ⟨hj, rfl⟩ := nts_get hv
            have ej : (pw gA n)[j]? = some ((pw gA n).getD j 0) := by
              rw [List.getD_eq_getElem?_getD, List.getElem?_eq_getElem hj]
              rfl
            have hq := pw_lt wf n _ (List.mem_of_getElem? ej)
            rw [lg] at hq
            generalize (pw gA n).getD j 0 = q at ej hq ⊢
            have s9 := sH6.trans (smC2 w2)
            refine ⟨rfl, tYes_if ?_⟩
            refine ⟨_, rfl, _, rfl, _, rfl, _, rfl, a, x, y, q, t.length, m, t, us, rfl, s9.seq ha, hT.same s9, tb, st, m2, hw, hq, ?_⟩
            rw [← gpt q hq]
            refine ⟨_, w1, ?_, ?_, fun b' o hb' h' => by rw [upd_ne hb']; exact w2 b' o hb' h'⟩
            · rw [nts_length, comp_length, List.length_take, pw_length]
              exact Nat.lt_of_le_of_lt (show _ ≤ 1000 by omega) (by decide)
            · rw [upd_same, nts_append, take_snoc ej]
              unfold comp
              rw [List.map_append]
              rfl
          · rintro H7 ⟨w1, w2⟩
            have et : (pw gA n).take (nts (pw gA n)).length = pw gA n := by
              rw [nts_length]
              exact List.take_length
            rw [et] at w1
            have hC2 : H7 C2 = some (.lst (nts (pw gA (n + 1)))) := w1
            have s7 := smC2 w2
            refine ⟨_, rfl, _, _, rfl, rfl, ⟨n + 1, C2, rfl, hC2, by omega, (sH.trans s6).trans s7⟩, ?_⟩
            show L - (n + 1) < L - n
            omega
    · rintro σ H1 Q1 Q2 hq ⟨v, hv, p, hp, hs, h⟩
      refine ⟨v, hv, p, hp, hs, fun D nD => ?_⟩
      obtain ⟨W, w0, h⟩ := h D nD
      refine ⟨W, w0, fun i m H hW => ?_⟩
      rcases h i m H hW with ⟨e, y2, hy, d1, d2, a1, a2, a3, a4, b, hb, hh⟩ | r
      · exact .inl ⟨e, y2, hy, d1, d2, a1, a2, a3, a4, b, hb, hq _ _ hh⟩
      · exact .inr r
end
end M3

set_option Elab.async false
set_option linter.all false
set_option maxRecDepth 100000
set_option maxHeartbeats 8000000
/-! # Box.lag -/
namespace M3
open PySem L2 NdefX
abbrev sBLag : Stmt := inClass (top 62) 8
theorem scBLag : FnScope ["self", "word"] ["self", "word"] (defScope sBLag) := ⟨rfl, rfl, rfl, by decide +kernel, rfl, by decide +kernel, by decide +kernel⟩
/-- in a box a word comes to rest within fewer turns than there are places -/
theorem its_soon {g : List Nat} {q : Nat} (w : ∀ z ∈ g, z < g.length) (hq : q < g.length) (no : turned g = none) : its g q g.length = its g q (g.length - 1) := by
  have nt : ∀ r, r < g.length → turnedB g r = false := fun r hr => by
    unfold turned at no
    have := List.find?_eq_none.mp no r (List.mem_range.mpr hr)
    simpa using this
  have ex : ∃ i j, i < j ∧ j ≤ g.length ∧ its g q i = its g q j := by
    apply Classical.byContradiction
    intro h
    have nd : ((List.range (g.length + 1)).map (its g q)).Nodup := by
      unfold List.Nodup
      rw [List.pairwise_map]
      refine List.Pairwise.imp_of_mem (fun {i j} hi hj ij e => ?_) List.pairwise_lt_range
      have hj := List.mem_range.mp hj
      exact h ⟨i, j, ij, by omega, e⟩
    have c := few_nats g.length _ nd fun x hx => by
      obtain ⟨i, _, rfl⟩ := List.mem_map.mp hx
      exact its_lt w hq i
    rw [List.length_map, List.length_range] at c
    omega
  obtain ⟨i, j, ij, jl, e⟩ := ex
  have split : ∀ k, its g (its g q i) k = its g q (i + k) := fun k => by
    induction k with
    | zero => rfl
    | succ k ih =>
      show g.getD (its g (its g q i) k) 0 = g.getD (its g q (i + k)) 0
      rw [ih]
  have hr := its_lt w hq i
  have back : its g (its g q i) (j - i) = its g q i := by
    rw [split, show i + (j - i) = j by omega, e]
  have fx : g.getD (its g q i) 0 = its g q i := by
    have n := nt _ hr
    unfold turnedB comesB at n
    have c : ((List.range g.length).any fun k => decide (its g (its g q i) (k + 1) = its g q i)) = true := by
      rw [List.any_eq_true]
      exact ⟨j - i - 1, List.mem_range.mpr (by omega), decide_eq_true (by rw [show j - i - 1 + 1 = j - i by omega]; exact back)⟩
    rw [c, Bool.and_true] at n
    have := of_decide_eq_false n
    exact Classical.not_not.mp this
  have con : ∀ k, its g q (i + k) = its g q i := fun k => by
    induction k with
    | zero => rfl
    | succ k ih =>
      show g.getD (its g q (i + k)) 0 = its g q i
      rw [ih, fx]
  have a := con (g.length - 1 - i)
  have b := con (g.length - i)
  rw [show i + (g.length - 1 - i) = g.length - 1 by omega] at a
  rw [show i + (g.length - i) = g.length by omega] at b
  rw [a, b]
theorem pw_soon {g : List Nat} (w : ∀ z ∈ g, z < g.length) (h1 : 1 ≤ g.length) (no : turned g = none) : pw g (g.length - 1 + 1) = pw g (g.length - 1) := pw_ext fun q hq => by
  rw [show g.length - 1 + 1 = g.length by omega]
  exact its_soon w hq no
theorem lag_box {g : List Nat} (w : ∀ z ∈ g, z < g.length) (h1 : 1 ≤ g.length) (no : turned g = none) : ∃ L, L < g.length ∧ Lag g L := by
  obtain ⟨L, hL, l⟩ := Lag.ex (pw_soon w h1 no)
  exact ⟨L, by omega, l⟩
def spBLag (K : PySem.W.Frag) (T : List NTab) (C : Addr) : Sp := fun vs H Q _ => ∃ (p : Addr) (x y : Str) (t : List (List Nat)) (m L : Nat), vs = [.ref p, .str y] ∧ BoxAt K C H p x t ∧ RightB x t m ∧ IsW x y ∧ y.length ≤ 1000000 ∧ TabsN T H ∧ Lag (act t x y.cps.toList) L ∧ L ≤ 1000 ∧
  ∀ H' : Hp, Ext T H H' → Q (.int ((L : Nat) : Int)) H'
section
variable {P : Program} {w : World} {K : PySem.W.Frag} {mg : Str → Option Value} {base : Heap} {C : Addr}
theorem ok_blag {f fC : Addr} {fd dC : FuncData} {T : List NTab} (F : Fun K "lag" "Box.lag" sBLag f fd) (GC : FnOk P w K mg base CX0 4 fC dC ["self", "word"] (spBChk K C)) (bC : Binds K dC ["self", "word"] []) (mC : Meth K C "_check" fC)
    (cA : FnC P w K mg base 4 "acted" ["table", "letters", "word"] (spActed K T)) (cR : FnC P w K mg base 2 "repeats" ["action"] (spRepeats K)) (TB : TxB K mg C) : FnOk P w K mg base CX0 5 f fd ["self", "word"] (spBLag K T C) := by
  refine F.ok scBLag (fun vs H Q E h => ?_) (fun cdv A outer s H vs Q E hr h => ?_)
  · obtain ⟨p, x, y, t, m, L, rfl, _⟩ := h
    rfl
  · obtain ⟨p, x, y, t, m, L, rfl, B, R, hw, hy, tabs, hL, l1, k⟩ := h
    refine ⟨_, pss_cons (ps_expr (pe_meth (pv 0) TB.cl mC GC hr bC .nil pass0 (pa_cons (pv 1) pa_nil)))
      (pss_one (ps_ret (pe_ix ix_tup (pe_call cR.G (hr.mono (by decide)) rfl cR.m cR.kp cR.b .nil pass0 (pa_cons (pe_call cA.G hr rfl cA.m cA.kp cA.b .nil pass0 (pa_cons (pe_fld (pv 0) rfl) (pa_cons (pe_fld (pv 0) rfl) (pa_cons (pv 1) pa_nil)))) pa_nil)) pe_int (fun _ _ => rfl)))), ?_⟩
    obtain ⟨dx, a, us, i1, i2, i3⟩ := id B
    refine ⟨_, rfl, p, dx, _, rfl, i1, flb_chk, _, rfl, p, x, y, t, m, rfl, B, R, hw, hy, fun H1 s1 => ?_⟩
    have hm : x.cps.toList.length = m := by
      have := set_len R.st
      simpa [Str.length] using this
    have lg : (act t x y.cps.toList).length = t.length := by
      unfold act
      rw [List.length_map, List.length_range]
    have wf : ∀ z ∈ act t x y.cps.toList, z < (act t x y.cps.toList).length := fun z hz => by
      rw [lg]
      unfold act at hz
      obtain ⟨q, hq, rfl⟩ := List.mem_map.mp hz
      exact goes_lt R.tb hm _ q (List.mem_range.mp hq) hw
    have t4 := R.t4
    refine ⟨_, rfl, p, C, dx, _, _, rfl, s1 _ _ i1, TB.cl, TB.nT, flb_t, _, rfl, p, C, dx, _, _, rfl, s1 _ _ i1, TB.cl, TB.nL, flb_l, _, rfl, a, x, y, us, t, m, rfl, sqt_same s1 i2, i3.same s1, R.tb, R.st, R.m2, hw, (by omega), hy, tabs.ext s1, fun b H2 h2 s2 => ?_⟩
    refine ⟨b, act t x y.cps.toList, L, L + 1, rfl, SqT.of h2, wf, (by rw [lg]; omega), (by omega), (by omega), hL.1.symm, fun p2 Lr us2 n b2 H3 h3 h4 _ hb _ ap e s3 => ?_⟩
    have := lag_of hL.1 ap e hb
    have eb := this.unique hL
    subst eb
    refine ⟨p2, _, (1 : Int), _, rfl, rfl, SqT.of h3, rfl, ?_⟩
    exact k H3 (((Ext.of tabs s1).trans s2).same s3)
end
end M3

set_option Elab.async false
set_option linter.all false
set_option maxRecDepth 100000
set_option maxHeartbeats 8000000
/-! # check_place, Box.first_word -/
namespace M3
open PySem L2 NdefX
abbrev sChkPlace : Stmt := top 65
abbrev sBFw : Stmt := inClass (top 62) 9
theorem scChkPlace : FnScope ["box", "value"] ["box", "value"] (defScope sChkPlace) := ⟨rfl, rfl, rfl, by decide +kernel, rfl, by decide +kernel, by decide +kernel⟩
theorem scBFw : FnScope ["self", "place"] ["self", "place"] (defScope sBFw) := ⟨rfl, rfl, rfl, by decide +kernel, rfl, by decide +kernel, by decide +kernel⟩
/-- a method found by an operation -/
structure OpC (P : Program) (w : World) (K : PySem.W.Frag) (mg : Str → Option Value) (base : Heap) (C : Addr) (k : Nat) (x : Str) (ps : List Str) (sp : Sp) where
  f : Addr
  fd : FuncData
  G : FnOk P w K mg base CX0 k f fd ps sp
  b : Binds K fd ps []
  m : Meth K C x f
def spChkPlace (K : PySem.W.Frag) (C : Addr) : Sp := fun vs H Q _ => ∃ (p : Addr) (x : Str) (t : List (List Nat)) (q : Nat), vs = [.ref p, .int (q : Nat)] ∧ BoxAt K C H p x t ∧ t.length ≤ 1000 ∧ q < t.length ∧ ∀ H' : Hp, Same H H' → Q .non H'
def spBFw (K : PySem.W.Frag) (C : Addr) : Sp := fun vs H Q _ => ∃ (p : Addr) (x : Str) (t : List (List Nat)) (m q : Nat), vs = [.ref p, .int (q : Nat)] ∧ BoxAt K C H p x t ∧ RightB x t m ∧ q < t.length ∧ ∀ H' : Hp, Same H H' → Q (toldTo t x [q]) H'
section
variable {P : Program} {w : World} {K : PySem.W.Frag} {mg : Str → Option Value} {base : Heap} {C : Addr}
theorem ok_chkplace {f cN : Addr} {fd : FuncData} (F : Fun K "check_place" "check_place" sChkPlace f fd) (DW : DefsW K mg) (W : TxW mg) (M : TxM mg) (oL : OpC P w K mg base C 1 "__len__" ["self"] (spBoxLen K C)) (TN : TxN P K mg cN) : FnOk P w K mg base CX0 3 f fd ["box", "value"] (spChkPlace K C) := by
  have GB : FnOk P w K mg base CX0 1 DW.fB DW.dB ["value", "low", "high"] (spBetween K) := ok_between DW.B W
  refine F.ok scChkPlace (fun vs H Q E h => ?_) (fun cdv A outer s H vs Q E hr h => ?_)
  · obtain ⟨p, x, t, q, rfl, _⟩ := h
    rfl
  · obtain ⟨p, x, t, q, rfl, B, tk, hq, k⟩ := h
    have hr1 : Room 1 _ := hr.mono (by decide)
    refine ⟨_, pss_one (ps_if (pt_not (pt_val (pe_call GB hr1 rfl DW.mB DW.B.kp DW.bB .nil pass0 (pa_cons (pv 1) (pa_cons pe_int (pa_cons (pe_op op_sub (pe_callB (NvO.call_lenO oL.G hr oL.b pass0 oL.m.at_ oL.m.fn) (by rfl) M.len PySem.boot_len (pa_cons (pv 0) pa_nil)) pe_int) pa_nil)))))) (pss_one (ps_raise rfl takes0 (pmk_keep (keepN TN rfl rfl rfl) hr (pa_cons (pv 1) pa_nil)))) pss_nil), ?_⟩
    obtain ⟨dx, a, us, i1, i2, i3⟩ := id B
    refine ⟨_, rfl, _, rfl, p, dx, _, rfl, i1, p, x, t, rfl, B, ((t.length : Nat) : Int), rfl, by omega, by omega, _, _, rfl, rfl, .int (q : Nat), 0, _, .type "int", false, true, rfl, .base (.int _), kit_int_bool, kit_int_int, (fun z => by cases z), (fun _ z => by cases z), fun _ _ => ⟨(q : Nat), rfl, _, rfl, ?_⟩⟩
    have e : (decide ((0 : Int) ≤ ((q : Nat) : Int)) && decide (((q : Nat) : Int) ≤ ((t.length : Nat) : Int) - 1)) = true := by
      rw [Bool.and_eq_true]
      exact ⟨decide_eq_true (by omega), decide_eq_true (by omega)⟩
    rw [e]
    exact iteF (k H (Same.refl H))
theorem ok_bfw {f fC : Addr} {fd : FuncData} (F : Fun K "first_word" "Box.first_word" sBFw f fd) (cC : FnC P w K mg base 3 "check_place" ["box", "value"] (spChkPlace K C)) (cF : FnC P w K mg base 2 "first_word_to" ["table", "letters", "states"] (spFirstTo K)) (TB : TxB K mg C) : FnOk P w K mg base CX0 4 f fd ["self", "place"] (spBFw K C) := by
  refine F.ok scBFw (fun vs H Q E h => ?_) (fun cdv A outer s H vs Q E hr h => ?_)
  · obtain ⟨p, x, t, m, q, rfl, _⟩ := h
    rfl
  · obtain ⟨p, x, t, m, q, rfl, B, R, hq, k⟩ := h
    have t4 := R.t4
    refine ⟨_, pss_cons (ps_expr (pe_call cC.G hr rfl cC.m cC.kp cC.b .nil pass0 (pa_cons (pv 0) (pa_cons (pv 1) pa_nil))))
      (pss_one (ps_ret (pe_call cF.G (hr.mono (by decide)) rfl cF.m cF.kp cF.b .nil pass0 (pa_cons (pe_fld (pv 0) rfl) (pa_cons (pe_fld (pv 0) rfl) (pa_cons (pe_tup (pa_cons (pv 1) pa_nil)) pa_nil)))))), ?_⟩
    have hm : x.cps.size = m := by
      have := set_len R.st
      simpa [Str.length] using this
    refine ⟨_, rfl, _, rfl, p, x, t, q, rfl, B, by omega, hq, fun H1 s1 => ?_⟩
    obtain ⟨dx, a, us, i1, i2, i3⟩ := B.same s1
    refine ⟨_, rfl, p, C, dx, _, _, rfl, i1, TB.cl, TB.nT, flb_t, _, rfl, p, C, dx, _, _, rfl, i1, TB.cl, TB.nL, flb_l, _, rfl, (by show 1 ≤ sizeLine; decide), fun T nT => ?_⟩
    have s2 : Same H1 (upd H1 T (.tup [.int ((q : Nat) : Int)])) := Same.new (Same.refl H1) nT
    exact ⟨a, T, us, t, m, x, [q], rfl, sqt_same s2 i2, i3.same s2, R.tb, R.t1, by omega, hm, SqT.of upd_same, (by show 1 ≤ 1000; decide), fun H3 s3 => k H3 ((s1.trans s2).trans s3)⟩
end
end M3

set_option Elab.async false
set_option linter.all false
set_option maxRecDepth 100000
set_option maxHeartbeats 8000000
/-! # made_box, Box.lean -/
namespace M3
open PySem L2 NdefX
abbrev sMadeB : Stmt := top 63
abbrev sBLean : Stmt := inClass (top 62) 10
abbrev nMadeB : List Str := ["letters", "table", "box"]
theorem scMadeB : FnScope nMadeB ["letters", "table"] (defScope sMadeB) := ⟨rfl, rfl, rfl, by decide +kernel, rfl, by decide +kernel, by decide +kernel⟩
theorem scBLean : FnScope ["self"] ["self"] (defScope sBLean) := ⟨rfl, rfl, rfl, by decide +kernel, rfl, by decide +kernel, by decide +kernel⟩
def spMadeB (K : PySem.W.Frag) (C : Addr) : Sp := fun vs H Q _ => ∃ (p : Addr) (x : Str) (us : List V) (t : List (List Nat)) (m : Nat), vs = [.str x, .ref p] ∧ SqT K H p us ∧ Tups K H us t ∧ IsSet x m ∧ 1 ≤ m ∧ m ≤ 2 ∧
  ∀ (b : Addr) (H' : Hp), H b = none → BoxAt K C H' b x t → Same H H' → Q (.ref b) H'
/-- the table with one place has no turn -/
theorem one_calm {x : Str} {m : Nat} (st : IsSet x m) (m1 : 1 ≤ m) (m2 : m ≤ 2) : RightB x [List.replicate m 0] m ∧ among (bfs [List.replicate m 0] x 256) = none := by
  have tb : IsTab [List.replicate m 0] 1 m := ⟨rfl, fun r hr => by
    rw [List.mem_singleton.mp hr]
    exact ⟨List.length_replicate, fun z hz => by rw [(List.mem_replicate.mp hz).2]; decide⟩⟩
  have R : RightB x [List.replicate m 0] m := ⟨st, m1, m2, tb, (by show 1 ≤ 1; decide), (by show 1 ≤ 4; decide)⟩
  have hm : x.cps.toList.length = m := by
    have := set_len st
    simpa [Str.length] using this
  refine ⟨R, among_calm R fun cs hcs => not_turned fun q k hq e => ?_⟩
  have lg : (act [List.replicate m 0] x cs).length = 1 := by
    unfold act
    rw [List.length_map, List.length_range]
    rfl
  have q0 : q = 0 := by omega
  subst q0
  rw [act_pt (show 0 < ([List.replicate m 0] : List (List Nat)).length by show 0 < 1; decide)]
  have := goes_lt tb hm cs 0 (by decide) hcs
  omega
theorem flb_put {x : Str} {a b : Addr} : putF "_table" (.ref b) (flB x a) = flB x b := by rfl
section
variable {P : Program} {w : World} {K : PySem.W.Frag} {mg : Str → Option Value} {base : Heap} {C cG : Addr}
theorem ok_madeb {f gI : Addr} {fd dI : FuncData} (F : Fun K "made_box" "made_box" sMadeB f fd) (MK : Mk K C gI) (GI : FnOk P w K mg base (L2.CX P w) 4 gI dI ["self", "letters", "table"] (spBoxInit K C cG)) (bI : Binds K dI ["self", "letters", "table"] []) (mC : mg "Box" = some (.ref C)) (M : TxM mg) (TB : TxB K mg C) :
    FnOk P w K mg base CX0 6 f fd ["letters", "table"] (spMadeB K C) := by
  refine F.ok scMadeB (fun vs H Q E h => ?_) (fun cdv A outer s H vs Q E hr h => ?_)
  · obtain ⟨p, x, us, t, m, rfl, _⟩ := h
    rfl
  · obtain ⟨p, x, us, t, m, rfl, hp, hT, st, m1, m2, k⟩ := h
    refine ⟨_, pss_cons (ps_set (i := 2) scMadeB.nd rfl (Or.inl rfl) (pe_make MK GI hr rfl mC bI .nil passL (pa_cons (pv 0) (pa_cons (pe_tup (pa_cons (pe_op (op_repT.or NvN.op_repT1) (pe_tup (pa_cons pe_int pa_nil)) (pe_callB call_len_str (by rfl) M.len PySem.boot_len (pa_cons (pv 0) pa_nil))) pa_nil)) pa_nil))))
      (pss_cons (ps_fld (pv 2) (pv 1) rfl) (pss_one (ps_ret (pv 2)))), ?_⟩
    obtain ⟨R0, no0⟩ := one_calm st m1 m2
    have lx := set_len st
    refine ⟨_, rfl, (by show 1 ≤ sizeLine; decide), fun T1 nT1 => ?_⟩
    have hT1 : (upd H T1 (.tup [.int 0])) T1 = some (.tup [.int 0]) := upd_same
    have sA : Same H (upd H T1 (.tup [.int 0])) := Same.new (Same.refl H) nT1
    generalize upd H T1 (.tup [.int 0]) = HA at hT1 sA ⊢
    refine ⟨_, rfl, x, rfl, Nat.le_trans (show x.length ≤ 2 by omega) (by decide), ?_⟩
    rw [lx]
    by_cases e2 : m = 2
    · refine .inl ⟨T1, ((m : Nat) : Int), [.int 0], rfl, rfl, SqT.of hT1, (fun z => by cases z), by omega, by omega, (by show 1 ≤ 1000; decide), fun r0 nr0 => ⟨(by show 1 ≤ sizeLine; decide), fun T2 nT2 => ?_⟩⟩
      have erow : (List.replicate ((m : Nat) : Int).toNat [V.int 0]).flatten = nts (List.replicate m 0) := by
        subst e2
        rfl
      rw [erow] at nT2 ⊢
      have hr0 : (upd HA r0 (.tup (nts (List.replicate m 0)))) r0 = some (.tup (nts (List.replicate m 0))) := upd_same
      have sB : Same H (upd HA r0 (.tup (nts (List.replicate m 0)))) := Same.new sA nr0
      generalize upd HA r0 (.tup (nts (List.replicate m 0))) = HB at hr0 sB nT2 ⊢
      have hT2 : (upd HB T2 (.tup [.ref r0])) T2 = some (.tup [.ref r0]) := upd_same
      have hr2 : (upd HB T2 (.tup [.ref r0])) r0 = some (.tup (nts (List.replicate m 0))) := keep_new hr0 nT2
      have s2 : Same H (upd HB T2 (.tup [.ref r0])) := Same.new sB nT2
      generalize upd HB T2 (.tup [.ref r0]) = H1 at hT2 hr2 s2 ⊢
      intro b dx nb ndx nex
      have nbH : H b = none := free_of s2 nb
      have s3 : Same H1 (upd (upd H1 dx (.own b)) b (.ins C dx [])) := Same.new (Same.new (Same.refl H1) ndx) (by rw [upd_ne (Ne.symm nex)]; exact nb)
      have tups : Tups K (upd (upd H1 dx (.own b)) b (.ins C dx [])) [.ref r0] [List.replicate m 0] := ⟨rfl, fun i r e => by
        match i, e with
        | 0, e =>
          cases e
          exact ⟨r0, rfl, SqT.of (s3 _ _ hr2)⟩⟩
      refine ⟨b, dx, T2, x, [.ref r0], [List.replicate m 0], m, rfl, upd_same, R0, SqT.of (s3 _ _ hT2), tups, fun _ H' hq kp => ⟨rfl, ?_⟩, fun y q e => by rw [no0] at e; cases e⟩
      refine ⟨_, rfl, _, rfl, b, C, dx, _, rfl, hq, TB.cl, TB.nT, (by show 2 < 1000; decide), ?_⟩
      rw [flb_put]
      have s5 : Same H (upd H' b (.ins C dx (flB x p))) := fun c o h => by
        have cb : c ≠ b := fun z => by rw [z, nbH] at h; cases h
        rw [upd_ne cb]
        exact kp c o cb (s3 _ _ (s2 _ _ h))
      exact ⟨_, rfl, k b _ nbH ⟨dx, p, us, upd_same, sqt_same s5 hp, hT.same s5⟩ s5⟩
    · have e1 : m = 1 := by omega
      refine .inr ⟨T1, _, rfl, (by rw [e1]; rfl), SqT.of hT1, (by show 1 ≤ sizeLine; decide), fun T2 nT2 => ?_⟩
      have hr0 : HA T1 = some (.tup (nts (List.replicate m 0))) := by
        rw [hT1, e1]
        rfl
      have sB := sA
      generalize T1 = r0 at hr0 ⊢
      generalize HA = HB at hr0 sB nT2 ⊢
      have hT2 : (upd HB T2 (.tup [.ref r0])) T2 = some (.tup [.ref r0]) := upd_same
      have hr2 : (upd HB T2 (.tup [.ref r0])) r0 = some (.tup (nts (List.replicate m 0))) := keep_new hr0 nT2
      have s2 : Same H (upd HB T2 (.tup [.ref r0])) := Same.new sB nT2
      generalize upd HB T2 (.tup [.ref r0]) = H1 at hT2 hr2 s2 ⊢
      intro b dx nb ndx nex
      have nbH : H b = none := free_of s2 nb
      have s3 : Same H1 (upd (upd H1 dx (.own b)) b (.ins C dx [])) := Same.new (Same.new (Same.refl H1) ndx) (by rw [upd_ne (Ne.symm nex)]; exact nb)
      have tups : Tups K (upd (upd H1 dx (.own b)) b (.ins C dx [])) [.ref r0] [List.replicate m 0] := ⟨rfl, fun i r e => by
        match i, e with
        | 0, e =>
          cases e
          exact ⟨r0, rfl, SqT.of (s3 _ _ hr2)⟩⟩
      refine ⟨b, dx, T2, x, [.ref r0], [List.replicate m 0], m, rfl, upd_same, R0, SqT.of (s3 _ _ hT2), tups, fun _ H' hq kp => ⟨rfl, ?_⟩, fun y q e => by rw [no0] at e; cases e⟩
      refine ⟨_, rfl, _, rfl, b, C, dx, _, rfl, hq, TB.cl, TB.nT, (by show 2 < 1000; decide), ?_⟩
      rw [flb_put]
      have s5 : Same H (upd H' b (.ins C dx (flB x p))) := fun c o h => by
        have cb : c ≠ b := fun z => by rw [z, nbH] at h; cases h
        rw [upd_ne cb]
        exact kp c o cb (s3 _ _ (s2 _ _ h))
      exact ⟨_, rfl, k b _ nbH ⟨dx, p, us, upd_same, sqt_same s5 hp, hT.same s5⟩ s5⟩
def spBLean (K : PySem.W.Frag) (C : Addr) : Sp := fun vs H Q _ => ∃ (p : Addr) (x : Str) (t : List (List Nat)) (m : Nat), vs = [.ref p] ∧ BoxAt K C H p x t ∧ RightB x t m ∧
  ∀ (b : Addr) (H' : Hp), H b = none → BoxAt K C H' b x (leanT t x) → Same H H' → Q (.ref b) H'
theorem ok_blean {f : Addr} {fd : FuncData} (F : Fun K "lean" "Box.lean" sBLean f fd) (cM : FnC P w K mg base 6 "made_box" ["letters", "table"] (spMadeB K C)) (cT : FnC P w K mg base 2 "lean_table" ["table"] (spLeanT K)) (TB : TxB K mg C) : FnOk P w K mg base CX0 7 f fd ["self"] (spBLean K C) := by
  refine F.ok scBLean (fun vs H Q E h => ?_) (fun cdv A outer s H vs Q E hr h => ?_)
  · obtain ⟨p, x, t, m, rfl, _⟩ := h
    rfl
  · obtain ⟨p, x, t, m, rfl, B, R, k⟩ := h
    have t4 := R.t4
    refine ⟨_, pss_one (ps_ret (pe_call cM.G hr rfl cM.m cM.kp cM.b .nil pass0 (pa_cons (pe_fld (pv 0) rfl) (pa_cons (pe_call cT.G (hr.mono (by decide)) rfl cT.m cT.kp cT.b .nil pass0 (pa_cons (pe_fld (pv 0) rfl) pa_nil)) pa_nil)))), ?_⟩
    have hm : x.cps.size = m := by
      have := set_len R.st
      simpa [Str.length] using this
    obtain ⟨dx, a, us, i1, i2, i3⟩ := id B
    have m2 := R.m2
    refine ⟨_, rfl, p, C, dx, _, _, rfl, i1, TB.cl, TB.nL, flb_l, _, rfl, p, C, dx, _, _, rfl, i1, TB.cl, TB.nT, flb_t, a, us, t, m, x, rfl, i2, i3, R.tb, R.t1, by omega, hm, by omega, fun q us' H1 h1 RA s1 => ?_⟩
    refine ⟨q, x, us', leanT t x, m, rfl, SqT.of h1, ⟨RA.1, fun i r e => ?_⟩, R.st, R.m1, R.m2, fun b H2 nb hB s2 => k b H2 (free_of s1 nb) hB (s1.trans s2)⟩
    obtain ⟨b, b1, b2⟩ := RA.2 i r e
    exact ⟨b, b1, SqT.of b2⟩
end
end M3

set_option Elab.async false
set_option linter.all false
set_option maxRecDepth 100000
set_option maxHeartbeats 8000000
/-! # The first word that is told, and the one that the law has -/
namespace M3
open PySem L2 NdefX
theorem told_one {t : List (List Nat)} {x : Str} {q : Nat} : toldTo t x [q] = (valV (entF (frs t x)) (kN q)).getD .non := by
  unfold toldTo
  generalize frs t x = F
  induction F with
  | nil => rfl
  | cons z F ih =>
    by_cases e : z.1 = q
    · have h1 : valV (entF (z :: F)) (kN q) = some (.str z.2) := by
        show valV ((kN z.1, V.str z.2) :: entF F) (kN q) = _
        rw [e]
        exact valV_pos rfl
      have h2 : (z :: F).find? (fun z => decide (z.1 ∈ [q])) = some z := List.find?_cons_of_pos (by rw [e]; simp)
      rw [h1, h2]
      rfl
    · have h1 : valV (entF (z :: F)) (kN q) = valV (entF F) (kN q) := by
        show valV ((kN z.1, V.str z.2) :: entF F) (kN q) = _
        exact valV_neg fun h => e (kN_inj h)
      have h2 : (z :: F).find? (fun z => decide (z.1 ∈ [q])) = F.find? (fun z => decide (z.1 ∈ [q])) := List.find?_cons_of_neg (by simp [e])
      rw [h1, h2]
      exact ih
/-- what an action does over and over, and how often it changes something, in a box -/
theorem lag_word {t : List (List Nat)} {x y : Str} {m : Nat} (R : RightB x t m) (h : among (bfs t x 256) = none) (hw : IsW x y) : ∃ L, L < t.length ∧ Lag (act t x y.cps.toList) L := by
  have hm : x.cps.toList.length = m := by
    have := set_len R.st
    simpa [Str.length] using this
  have lg : (act t x y.cps.toList).length = t.length := by
    unfold act
    rw [List.length_map, List.length_range]
  have wf : ∀ z ∈ act t x y.cps.toList, z < (act t x y.cps.toList).length := fun z hz => by
    rw [lg]
    unfold act at hz
    obtain ⟨q, hq, rfl⟩ := List.mem_map.mp hz
    exact goes_lt R.tb hm _ q (List.mem_range.mp hq) hw
  have no : turned (act t x y.cps.toList) = none := among_none R h hw
  obtain ⟨L, hL, l⟩ := lag_box wf (by rw [lg]; exact R.t1) no
  exact ⟨L, by omega, l⟩
end M3

set_option Elab.async false
set_option linter.all false
set_option maxRecDepth 100000
set_option maxHeartbeats 8000000
/-! # made_machine -/
namespace M3
open PySem L2 NdefX
abbrev sMadeM : Stmt := top 44
abbrev nMadeM : List Str := ["letters", "table", "ends", "machine"]
theorem scMadeM : FnScope nMadeM ["letters", "table", "ends"] (defScope sMadeM) := ⟨rfl, rfl, rfl, by decide +kernel, rfl, by decide +kernel, by decide +kernel⟩
theorem flds_put {x : Str} {a b c d : Addr} : putF "_ends" (.ref d) (putF "_table" (.ref c) (flds x a b)) = flds x c d := by rfl
def spMadeM (K : PySem.W.Frag) (C : Addr) : Sp := fun vs H Q _ => ∃ (p e : Addr) (x : Str) (us : List V) (t : List (List Nat)) (es : List Nat) (m : Nat), vs = [.str x, .ref p, .ref e] ∧ SqT K H p us ∧ Tups K H us t ∧ SqT K H e (nts es) ∧ IsSet x m ∧ 1 ≤ m ∧ m ≤ 2 ∧
  ∀ (b : Addr) (H' : Hp), H b = none → Mach K C H' b x t es → Same H H' → Q (.ref b) H'
section
variable {P : Program} {w : World} {K : PySem.W.Frag} {mg : Str → Option Value} {base : Heap} {C : Addr}
theorem ok_madem {f gI b0 : Addr} {fd dI : FuncData} (F : Fun K "made_machine" "made_machine" sMadeM f fd) (MK : Mk K C gI) (GI : FnOk P w K mg base CX0 4 gI dI nInit (spInit K C)) (bI1 : Binds K dI nInit [.ref b0]) (hb0 : ∀ H, SqT K H b0 []) (mC : mg "Machine" = some (.ref C)) (M : TxM mg) (TK : TxK K mg C) :
    FnOk P w K mg base CX0 6 f fd ["letters", "table", "ends"] (spMadeM K C) := by
  refine F.ok scMadeM (fun vs H Q E h => ?_) (fun cdv A outer s H vs Q E hr h => ?_)
  · obtain ⟨p, e, x, us, t, es, m, rfl, _⟩ := h
    rfl
  · obtain ⟨p, e, x, us, t, es, m, rfl, hp, hT, he, st, m1, m2, k⟩ := h
    refine ⟨_, pss_cons (ps_set (i := 3) scMadeM.nd rfl (Or.inl rfl) (pe_make MK GI hr rfl mC bI1 (.cons (show RelV (.ref b0) (.ref b0) from rfl) .nil) pass0 (pa_cons (pv 0) (pa_cons (pe_tup (pa_cons (pe_op (op_repT.or NvN.op_repT1) (pe_tup (pa_cons pe_int pa_nil)) (pe_callB call_len_str (by rfl) M.len PySem.boot_len (pa_cons (pv 0) pa_nil))) pa_nil)) pa_nil))))
      (pss_cons (ps_fld (pv 3) (pv 1) rfl) (pss_cons (ps_fld (pv 3) (pv 2) rfl) (pss_one (ps_ret (pv 3))))), ?_⟩
    have R0 := (one_calm st m1 m2).1
    have lx := set_len st
    refine ⟨_, rfl, (by show 1 ≤ sizeLine; decide), fun T1 nT1 => ?_⟩
    have hT1 : (upd H T1 (.tup [.int 0])) T1 = some (.tup [.int 0]) := upd_same
    have sA : Same H (upd H T1 (.tup [.int 0])) := Same.new (Same.refl H) nT1
    generalize upd H T1 (.tup [.int 0]) = HA at hT1 sA ⊢
    refine ⟨_, rfl, x, rfl, Nat.le_trans (show x.length ≤ 2 by omega) (by decide), ?_⟩
    rw [lx]
    by_cases e2 : m = 2
    · refine .inl ⟨T1, ((m : Nat) : Int), [.int 0], rfl, rfl, SqT.of hT1, (fun z => by cases z), by omega, by omega, (by show 1 ≤ 1000; decide), fun r0 nr0 => ⟨(by show 1 ≤ sizeLine; decide), fun T2 nT2 => ?_⟩⟩
      have erow : (List.replicate ((m : Nat) : Int).toNat [V.int 0]).flatten = nts (List.replicate m 0) := by
        subst e2
        rfl
      rw [erow] at nT2 ⊢
      have hr0 : (upd HA r0 (.tup (nts (List.replicate m 0)))) r0 = some (.tup (nts (List.replicate m 0))) := upd_same
      have sB : Same H (upd HA r0 (.tup (nts (List.replicate m 0)))) := Same.new sA nr0
      generalize upd HA r0 (.tup (nts (List.replicate m 0))) = HB at hr0 sB nT2 ⊢
      have hT2 : (upd HB T2 (.tup [.ref r0])) T2 = some (.tup [.ref r0]) := upd_same
      have hr2 : (upd HB T2 (.tup [.ref r0])) r0 = some (.tup (nts (List.replicate m 0))) := keep_new hr0 nT2
      have s2 : Same H (upd HB T2 (.tup [.ref r0])) := Same.new sB nT2
      generalize upd HB T2 (.tup [.ref r0]) = H1 at hT2 hr2 s2 ⊢
      intro b dx nb ndx nex
      have nbH : H b = none := free_of s2 nb
      have s3 : Same H1 (upd (upd H1 dx (.own b)) b (.ins C dx [])) := Same.new (Same.new (Same.refl H1) ndx) (by rw [upd_ne (Ne.symm nex)]; exact nb)
      have tups : Tups K (upd (upd H1 dx (.own b)) b (.ins C dx [])) [.ref r0] [List.replicate m 0] := ⟨rfl, fun i r e => by
        match i, e with
        | 0, e =>
          cases e
          exact ⟨r0, rfl, SqT.of (s3 _ _ hr2)⟩⟩
      refine ⟨b, dx, T2, b0, x, [.ref r0], [List.replicate m 0], [], 1, m, rfl, upd_same, st, m1, m2, SqT.of (s3 _ _ hT2), tups, R0.tb, by decide, by decide, hb0 _, .nil, (fun e he => by cases he), fun H' hq kp => ⟨rfl, ?_⟩⟩
      refine ⟨_, rfl, _, rfl, b, C, dx, _, rfl, hq, TK.cl, TK.nT, (by show 3 < 1000; decide), ?_⟩
      refine ⟨_, rfl, _, rfl, b, C, dx, _, rfl, upd_same, TK.cl, TK.nE, (by show 3 < 1000; decide), ?_⟩
      rw [upd_upd, flds_put]
      have s5 : Same H (upd H' b (.ins C dx (flds x p e))) := fun c o h => by
        have cb : c ≠ b := fun z => by rw [z, nbH] at h; cases h
        rw [upd_ne cb]
        exact kp c o cb (s3 _ _ (s2 _ _ h))
      exact ⟨_, rfl, k b _ nbH ⟨dx, p, e, us, upd_same, sqt_same s5 hp, hT.same s5, sqt_same s5 he⟩ s5⟩
    · have e1 : m = 1 := by omega
      refine .inr ⟨T1, _, rfl, (by rw [e1]; rfl), SqT.of hT1, (by show 1 ≤ sizeLine; decide), fun T2 nT2 => ?_⟩
      have hr0 : HA T1 = some (.tup (nts (List.replicate m 0))) := by
        rw [hT1, e1]
        rfl
      have sB := sA
      generalize T1 = r0 at hr0 ⊢
      generalize HA = HB at hr0 sB nT2 ⊢
      have hT2 : (upd HB T2 (.tup [.ref r0])) T2 = some (.tup [.ref r0]) := upd_same
      have hr2 : (upd HB T2 (.tup [.ref r0])) r0 = some (.tup (nts (List.replicate m 0))) := keep_new hr0 nT2
      have s2 : Same H (upd HB T2 (.tup [.ref r0])) := Same.new sB nT2
      generalize upd HB T2 (.tup [.ref r0]) = H1 at hT2 hr2 s2 ⊢
      intro b dx nb ndx nex
      have nbH : H b = none := free_of s2 nb
      have s3 : Same H1 (upd (upd H1 dx (.own b)) b (.ins C dx [])) := Same.new (Same.new (Same.refl H1) ndx) (by rw [upd_ne (Ne.symm nex)]; exact nb)
      have tups : Tups K (upd (upd H1 dx (.own b)) b (.ins C dx [])) [.ref r0] [List.replicate m 0] := ⟨rfl, fun i r e => by
        match i, e with
        | 0, e =>
          cases e
          exact ⟨r0, rfl, SqT.of (s3 _ _ hr2)⟩⟩
      refine ⟨b, dx, T2, b0, x, [.ref r0], [List.replicate m 0], [], 1, m, rfl, upd_same, st, m1, m2, SqT.of (s3 _ _ hT2), tups, R0.tb, by decide, by decide, hb0 _, .nil, (fun e he => by cases he), fun H' hq kp => ⟨rfl, ?_⟩⟩
      refine ⟨_, rfl, _, rfl, b, C, dx, _, rfl, hq, TK.cl, TK.nT, (by show 3 < 1000; decide), ?_⟩
      refine ⟨_, rfl, _, rfl, b, C, dx, _, rfl, upd_same, TK.cl, TK.nE, (by show 3 < 1000; decide), ?_⟩
      rw [upd_upd, flds_put]
      have s5 : Same H (upd H' b (.ins C dx (flds x p e))) := fun c o h => by
        have cb : c ≠ b := fun z => by rw [z, nbH] at h; cases h
        rw [upd_ne cb]
        exact kp c o cb (s3 _ _ (s2 _ _ h))
      exact ⟨_, rfl, k b _ nbH ⟨dx, p, e, us, upd_same, sqt_same s5 hp, hT.same s5, sqt_same s5 he⟩ s5⟩
end
end M3

set_option Elab.async false
set_option linter.all false
set_option maxRecDepth 100000
set_option maxHeartbeats 8000000
/-! # Box.machine -/
namespace M3
open PySem L2 NdefX
abbrev sBMach : Stmt := inClass (top 62) 11
theorem scBMach : FnScope ["self", "places"] ["self", "places"] (defScope sBMach) := ⟨rfl, rfl, rfl, by decide +kernel, rfl, by decide +kernel, by decide +kernel⟩
/-- M: the class of machines -/
def spBMach (K : PySem.W.Frag) (C M : Addr) : Sp := fun vs H Q _ => ∃ (p e : Addr) (x : Str) (t : List (List Nat)) (m : Nat) (es : List Nat), vs = [.ref p, .ref e] ∧ BoxAt K C H p x t ∧ RightB x t m ∧ SqT K H e (nts es) ∧ es.Pairwise (· < ·) ∧ (∀ z ∈ es, z < t.length) ∧ es.length ≤ 1000 ∧
  ∀ (b : Addr) (H' : Hp), H b = none → Mach K M H' b x t es → Same H H' → Q (.ref b) H'
section
variable {P : Program} {w : World} {K : PySem.W.Frag} {mg : Str → Option Value} {base : Heap} {C M cO : Addr}
theorem ok_bmach {f : Addr} {fd : FuncData} (F : Fun K "machine" "Box.machine" sBMach f fd) (cC : FnC P w K mg base 2 "is_choice" ["value", "size"] (spIsChoice K)) (cM : FnC P w K mg base 6 "made_machine" ["letters", "table", "ends"] (spMadeM K M)) (Zx : TxZ mg) (TO : TxR K mg "InvalidOperation" cO) (TB : TxB K mg C) : FnOk P w K mg base CX0 7 f fd ["self", "places"] (spBMach K C M) := by
  refine F.ok scBMach (fun vs H Q E h => ?_) (fun cdv A outer s H vs Q E hr h => ?_)
  · obtain ⟨p, e, x, t, m, es, rfl, _⟩ := h
    rfl
  · obtain ⟨p, e, x, t, m, es, rfl, B, R, he, up, lt, le, k⟩ := h
    refine ⟨_, pss_cons (ps_if (pt_not (pt_val (pe_call cC.G (hr.mono (by decide)) rfl cC.m cC.kp cC.b .nil pass0 (pa_cons (pv 1) (pa_cons (pe_callB call_len_seq (by rfl) Zx.len PySem.boot_len (pa_cons (pe_fld (pv 0) rfl) pa_nil)) pa_nil))))) (pss_one (ps_raise rfl takes0 (pmk_own PySem.F.excBase_ValueError TO.x TO.g TO.k (raises_own TO.b TO.t) rfl))) pss_nil)
      (pss_one (ps_ret (pe_call cM.G hr rfl cM.m cM.kp cM.b .nil pass0 (pa_cons (pe_fld (pv 0) rfl) (pa_cons (pe_fld (pv 0) rfl) (pa_cons (pv 1) pa_nil)))))), ?_⟩
    obtain ⟨dx, a, us, i1, i2, i3⟩ := id B
    have t4 := R.t4
    refine ⟨_, rfl, _, rfl, p, C, dx, _, _, rfl, i1, TB.cl, TB.nT, flb_t, a, us, rfl, .inr i2, e, es.map Int.ofNat, (us.length : Int), rfl, by rw [← nts_eq']; exact he, by rw [List.length_map]; omega, fun H1 s1 => ⟨_, rfl, ?_⟩⟩
    rw [i3.1, choice_ok up lt]
    refine iteF ?_
    exact ⟨_, rfl, p, C, dx, _, _, rfl, s1 _ _ i1, TB.cl, TB.nL, flb_l, _, rfl, p, C, dx, _, _, rfl, s1 _ _ i1, TB.cl, TB.nT, flb_t, _, rfl, a, e, x, us, t, es, m, rfl, sqt_same s1 i2, i3.same s1, sqt_same s1 he, R.st, R.m1, R.m2, fun b H2 nb hB s2 => k b H2 (free_of s1 nb) hB (s1.trans s2)⟩
end
end M3

set_option Elab.async false
set_option linter.all false
set_option maxRecDepth 100000
set_option maxHeartbeats 8000000
/-! # _law_mixed of a list of anything that has data -/
namespace M3
open PySem L2
theorem data_eqv_nil {α : Type} (dt : α → PyData) (ss : List α) : (PyData.list (ss.map dt)).eqv (.list []) = ss.isEmpty := by
  cases ss with
  | nil => rfl
  | cons a l => simp [PyData.eqv, PyData.eqvAll]
def spMixedG (K : PySem.W.Frag) : Sp := fun vs H Q _ => ∃ (α : Type) (g : α → V) (dt : α → PyData) (d a : Addr) (ss : List α), vs = [.ref d, .ref a] ∧ Dz H d ∧ SqL K H a (ss.map g) ∧ ss.length ≤ 100 ∧
  (∀ (ls : List α) (H' : Hp), (∀ z ∈ ls, z ∈ ss) → Still d H H' → DpAll K H' (ls.map g) (ls.map dt)) ∧ (∀ ls : List α, (∀ z ∈ ls, z ∈ ss) → SeqAt.shaped (.list (ls.map dt)) = true) ∧
  ∀ (ys : List α) (p : Addr) (H' : Hp), ys.Perm ss → H p = none → H' p = some (.lst (ys.map g)) → Dz H' d → Still d H H' → Q (.ref p) H'
section
variable {P : Program} {w : World} {K : PySem.W.Frag} {mg : Str → Option Value} {base : Heap}
theorem ok_mixedG {f : Addr} {fd : FuncData} (F : Fun K "_law_mixed" "_law_mixed" sMixed f fd) (D : DefsD K mg) (T : TxI mg) (M : TxM mg) : FnOk P w K mg base CX0 2 f fd ["dice", "items"] (spMixedG K) := by
  have GR : FnOk P w K mg base CX0 1 D.fR D.dR ["dice", "total"] spRoll := ok_roll D.R T
  refine F.ok scMixed (fun vs H Q E h => ?_) (fun cdv A outer s H vs Q E hr h => ?_)
  · obtain ⟨α, g, dt, d, a, ss, rfl, _⟩ := h
    rfl
  · obtain ⟨α, g, dt, d, a, ss, rfl, Z, ha, hl, hdp, hok, k⟩ := h
    have hr1 : Room 1 _ := hr.mono (by decide)
    refine ⟨_, pss_cons (ps_par (i := 2) (j := 3) (by rfl) scMixed.nd rfl rfl (by decide) rfl rfl (pa_cons (pe_callTy call_list_of (by rfl) M.list (by decide +kernel) (pa_cons (pv 1) pa_nil)) (pa_cons (pe_lst pa_nil) pa_nil)) (by rfl))
      (pss_cons (ps_while PassesOwn.never (pt_cmpR (op_neD hr.units) (pv 2) (pe_lst pa_nil) (nomark _))
        (pss_one (ps_expr (pe_bm PySem.F.plainAttrs_list PySem.F.slot_list_append PySem.F.type_list_append mt_append (pv 3)
          (pa_cons (pe_bm PySem.F.plainAttrs_list PySem.F.slot_list_pop PySem.F.type_list_pop mt_popAt (pv 2) (pa_cons (pe_call GR hr1 rfl D.mR D.R.kp D.bR .nil pass0 (pa_cons (pv 0) (pa_cons (pe_callB call_len_seq (by rfl) T.len PySem.boot_len (pa_cons (pv 2) pa_nil)) pa_nil))) pa_nil)) pa_nil)))))
      (pss_one (ps_ret (pv 3)))), ?_⟩
    refine ⟨_, rfl, a, _, rfl, .inl ha, fun l nl => ⟨(by show 0 ≤ sizeLine; decide), fun f nf => ?_⟩⟩
    have ne_a : ∀ {H' : Hp} {b : Addr}, H' b = none → ∀ {o : HO}, H' d = some o → b ≠ d := fun n _ h z => by
      subst z
      rw [n] at h
      cases h
    obtain ⟨dl, dm, dc, hd, w1, w2, w3⟩ := id Z
    have ld : l ≠ d := ne_a nl hd
    have hd1 : (upd H l (.lst (ss.map g))) d = some (.lst [.int dl, .int dm, .int dc]) := keep_new hd nl
    have fd' : f ≠ d := ne_a nf hd1
    have lf : l ≠ f := fun z => by
      subst z
      rw [upd_same] at nf
      cases nf
    have nf0 : H f = none := by
      rw [upd_ne (Ne.symm lf)] at nf
      exact nf
    refine ⟨_, _, rfl, ?_⟩
    refine while_by (fun σ H' => σ = [some (.ref d), some (.ref a), some (.ref l), some (.ref f)] ∧ ∃ ls fs : List α, H' l = some (.lst (ls.map g)) ∧ H' f = some (.lst (fs.map g)) ∧ (fs ++ ls).Perm ss ∧ Dz H' d ∧ Still d H H')
      (fun σ H' => match H' l with | some (.lst xs) => xs.length | _ => 0) ⟨rfl, ss, [], by rw [upd_ne lf]; exact upd_same, upd_same, List.Perm.refl _, (Z.new nl).new nf, ((Still.refl d H).new nl).new nf⟩ ?_ ?_
    · rintro σ H1 ⟨rfl, ls, fs, h1, h2, h3, h4, h5⟩
      refine ⟨_, rfl, (by show 0 ≤ sizeLine; decide), fun p np => ?_⟩
      refine ⟨_, _, .lst (SqL.of (keep_new h1 np)) (hdp ls _ (fun z hz => h3.subset (List.mem_append_right _ hz)) (h5.new np)), .lst (SqL.of upd_same) .nil, hok ls (fun z hz => h3.subset (List.mem_append_right _ hz)), by decide, ?_⟩
      rw [data_eqv_nil]
      refine ⟨_, rfl, ?_⟩
      cases ls with
      | nil =>
        refine iteF ?_
        rw [List.append_nil] at h3
        exact ⟨_, rfl, k fs f _ h3 nf0 (keep_new h2 np) (h4.new np) (h5.new np)⟩
      | cons z ls =>
        refine iteT ?_
        have g1 : (upd H1 p (.lst [])) l = some (.lst ((z :: ls).map g)) := keep_new h1 np
        have g2 : (upd H1 p (.lst [])) f = some (.lst (fs.map g)) := keep_new h2 np
        have g4 : Dz (upd H1 p (.lst [])) d := h4.new np
        have g5 : Still d H (upd H1 p (.lst [])) := h5.new np
        generalize upd H1 p (.lst []) = H2 at g1 g2 g4 g5 ⊢
        obtain ⟨l0, m0, c0, D0⟩ := g4
        have hlen : (z :: ls).length ≤ 100 := by
          have := h3.length_eq
          rw [List.length_append] at this
          omega
        refine ⟨_, rfl, .inl ⟨rfl, _, SqL.of g2⟩, _, rfl, .inl ⟨rfl, _, SqL.of g1⟩, _, rfl, _, rfl, l, _, rfl, .inl (SqL.of g1), d, l0, m0, c0, _, rfl, D0, ?_, ?_, fun r l' c' r0 rn q0 q1 => ?_⟩
        · rw [List.length_map]
          show (0 : Int) < ((ls.length + 1 : Nat) : Int)
          omega
        · rw [List.length_map]
          omega
        · rw [List.length_map] at rn
          have rl : r.toNat < (z :: ls).length := by omega
          have er : r = (r.toNat : Int) := by omega
          have TT : Turned H2 (upd H2 d (.lst [.int l', .int m0, .int c'])) d := ⟨l', m0, c', q0, D0.2.2.1, q1, rfl⟩
          have k1 : (upd H2 d (.lst [.int l', .int m0, .int c'])) l = some (.lst ((z :: ls).map g)) := by
            rw [upd_ne ld]
            exact g1
          have k2 : (upd H2 d (.lst [.int l', .int m0, .int c'])) f = some (.lst (fs.map g)) := by
            rw [upd_ne fd']
            exact g2
          have k4 := TT.dz
          have k5 := g5.turn TT
          generalize upd H2 d (.lst [.int l', .int m0, .int c']) = H3 at k1 k2 k4 k5 ⊢
          refine ⟨l, _, r, r.toNat, g ((z :: ls)[r.toNat]), rfl, rfl, k1, by omega, by omega, ?_, ?_, ?_⟩
          · rw [List.length_map, er]
            exact seqIx rl
          · rw [List.getElem?_map, List.getElem?_eq_getElem rl]
            rfl
          · refine ⟨f, _, _, rfl, rfl, by rw [upd_ne (Ne.symm lf)]; exact k2, ?_, ?_⟩
            · rw [List.length_map]
              have := h3.length_eq
              rw [List.length_append] at this
              exact Nat.lt_of_le_of_lt (show fs.length ≤ 100 by omega) (by decide)
            · refine ⟨⟨rfl, (z :: ls).eraseIdx r.toNat, fs ++ [(z :: ls)[r.toNat]], ?_, ?_, ?_, ?_, ?_⟩, ?_⟩
              · rw [upd_ne lf, upd_same, map_erase]
              · rw [upd_same, List.map_append]
                rfl
              · refine List.Perm.trans ?_ h3
                rw [List.append_assoc]
                refine List.Perm.append_left fs ?_
                exact (erase_perm (z :: ls) r.toNat rl)
              · exact (k4.ne ld).ne fd'
              · exact (k5.at_new nl).at_new nf0
              · show (match (upd _ f _) l with | some (.lst xs) => xs.length | _ => 0) < (match H1 l with | some (.lst xs) => xs.length | _ => 0)
                rw [h1, upd_ne lf, upd_same]
                show (((z :: ls).map g).eraseIdx r.toNat).length < ((z :: ls).map g).length
                rw [List.length_eraseIdx, List.length_map, if_pos rl]
                show ls.length + 1 - 1 < ls.length + 1
                omega
    · rintro σ H1 Q1 Q2 hq ⟨x, hx, hz, hh⟩
      refine ⟨x, hx, hz, fun p np => ?_⟩
      obtain ⟨d1, d2, q1, q2, q3, q4, k1, q5, q6⟩ := hh p np
      exact ⟨d1, d2, q1, q2, q3, q4, k1, q5, hq _ _ q6⟩
/-- a list of numbers is mixed -/
theorem mixed_nats {K : PySem.W.Frag} {H : Hp} {Q : VK} {E : XK} {d a : Addr} {ns : List Nat} (Z : Dz H d) (ha : SqL K H a (nts ns)) (hl : ns.length ≤ 100)
    (k : ∀ (ys : List Nat) (p : Addr) (H' : Hp), ys.Perm ns → H p = none → H' p = some (.lst (nts ys)) → Dz H' d → Still d H H' → Q (.ref p) H') : spMixedG K [.ref d, .ref a] H Q E :=
  ⟨Nat, fun n => .int (n : Nat), fun n => .int (n : Nat), d, a, ns, rfl, Z, ha, hl, fun ls H' _ _ => dp_nats ls, fun ls _ => shaped_lN ls, k⟩
end
end M3

set_option Elab.async false
set_option linter.all false
set_option maxRecDepth 100000
set_option maxHeartbeats 8000000
/-! # Boxes seen from outside -/
namespace M3
open PySem L2 NdefX
/-- the class of boxes, seen from outside -/
structure TxOB (K : PySem.W.Frag) (C : Addr) : Prop where
  ha : PySem.W.findIn K (.ref C) "__class__" = some (some (.builtin "object.__class__"))
  hn : PySem.W.specialIn K (.builtin "object.__class__") "__get__" = some (some (.builtin "getset_descriptor.__get__"))
  tk : PySem.W.takesIn K (.builtin "object.__class__") = some true
  hm : PySem.W.mroIn K C (.type "object") = some true
  kc : PySem.W.kitOne K (.ref C) (.ref C) = some true
  ki : PySem.W.kitOne K (.type "int") (.ref C) = some false
  kt : PySem.W.kitOne K (.type "str") (.ref C) = some false
  ku : PySem.W.kitOne K (.type "tuple") (.ref C) = some false
  fi : PySem.W.notFirst K C (.type "int") = true
  fs : PySem.W.notFirst K C (.type "str") = true
  fu : PySem.W.notFirst K C (.type "tuple") = true
  ne : PySem.W.findIn K (.ref C) "__ne__" = some (some (.builtin "object.__ne__"))
theorem first_self {K : PySem.W.Frag} {C : Addr} : PySem.W.notFirst K C (.ref C) = true := by simp [PySem.W.notFirst]
theorem BoxAt.stl {K : PySem.W.Frag} {T : List NTab} {C p d : Addr} {H H' : Hp} {x : Str} {t : List (List Nat)} (h : BoxAt K C H p x t) (z : Dz H d) (s : Stl T d H H') : BoxAt K C H' p x t := by
  obtain ⟨dx, a, us, h1, h2, h3⟩ := h
  obtain ⟨l, m, c, e, _⟩ := id z
  refine ⟨dx, a, us, s.st _ _ (fun q => by rw [q, e] at h1; cases h1) h1 (fun ps q => by cases q), sqt_stl s z h2, ⟨h3.1, fun i r hr => ?_⟩⟩
  obtain ⟨b', b1, b2⟩ := h3.2 i r hr
  exact ⟨b', b1, sqt_stl s z b2⟩
theorem LTab.stl {T : List NTab} {d p : Addr} {H H' : Hp} {t : List (List Nat)} (h : LTab d H p t) (z : Dz H d) (s : Stl T d H H') : LTab d H' p t := by
  obtain ⟨us, pd, hp, hl, R⟩ := h
  obtain ⟨l, m, c, e, _⟩ := z
  refine ⟨us, pd, s.st _ _ pd hp (fun ps q => by cases q), hl, fun i r hr => ?_⟩
  obtain ⟨b, h1, h2⟩ := R i r hr
  exact ⟨b, h1, s.st _ _ (fun q => by rw [q, e] at h2; cases h2) h2 (fun ps q => by cases q)⟩
theorem same_dz' {d : Addr} {H H' : Hp} (s : Same H H') (z : Dz H d) : Dz H' d := by
  obtain ⟨l, m, c, e, h⟩ := z
  exact ⟨l, m, c, s _ _ e, h⟩
/-- letters, table and size as data -/
def dTold (x : Str) (t : List (List Nat)) : PyData := .list [.str x, dT t, .int ((t.length : Nat) : Int)]
theorem eqv_told (x : Str) (t : List (List Nat)) : (dTold x t).eqv (dTold x t) = true := by
  unfold dTold
  rw [PyData.eqv]
  simp only [PyData.eqvAll]
  have e : (dT t).eqv (dT t) = true := by
    unfold dT
    rw [PyData.eqv]
    exact (eqv_tabs t t).trans (decide_eq_true rfl)
  rw [e]
  simp [PyData.eqv]
theorem shaped_told {x : Str} {t : List (List Nat)} {m : Nat} (h : IsSet x m) : SeqAt.shaped (dTold x t) = true := by
  unfold SeqAt.shaped
  have h1 : (dTold x t).canLay0 = true := by
    unfold dTold dT
    simp only [PyData.canLay0, PyData.canLayAll0, lay_rows, set_ok h, Bool.and_self]
  have h2 : (dTold x t).depth ≤ 64 := by
    have r := dep_rows t
    unfold dTold dT
    simp only [PyData.depth, PyData.depthAll]
    omega
  rw [h1, decide_eq_true h2]
  rfl
theorem iter_far {t : List (List Nat)} {x y : Str} {m q : Nat} (R : RightB x t m) (hw : IsW x y) (hq : q < t.length) (no : among (bfs t x 256) = none) : ∀ j, iter t x y q (t.length + j) = iter t x y q t.length := by
  have hxm : x.cps.toList.length = m := by
    have := set_len R.st
    simpa [Str.length] using this
  have la : (act t x y.cps.toList).length = t.length := by
    unfold act
    rw [List.length_map, List.length_range]
  have ht : turned (act t x y.cps.toList) = none := among_none R no hw
  have rest := its_rest (g := act t x y.cps.toList) (q := q) (fun z hz => by rw [la]; exact act_lt R.tb hxm hw z hz) (by rw [la]; exact hq) ht
  rw [la] at rest
  have all : ∀ j, its (act t x y.cps.toList) q (t.length + j) = its (act t x y.cps.toList) q t.length := by
    intro j
    induction j with
    | zero => rfl
    | succ j ih =>
      show (act t x y.cps.toList).getD (its (act t x y.cps.toList) q (t.length + j)) 0 = _
      rw [ih]
      exact rest
  intro j
  rw [← its_iter R hw hq, ← its_iter R hw hq]
  exact all j
theorem few_times {v : V} (h : v ∈ [V.int 0, .int 1, .int 2, .int 3, .int 7]) : ∃ k : Nat, v = .int (k : Nat) ∧ k ≤ 7 := by
  simp only [List.mem_cons, List.not_mem_nil, or_false] at h
  rcases h with h | h | h | h | h
  · exact ⟨0, h, by decide⟩
  · exact ⟨1, h, by decide⟩
  · exact ⟨2, h, by decide⟩
  · exact ⟨3, h, by decide⟩
  · exact ⟨7, h, by decide⟩
theorem far_times {v : V} {n : Nat} (hn : n ≤ 4) (h : v ∈ [V.int ((n : Nat) : Int), .int (((n : Nat) : Int) + 1), .int 99, .int ((10 : Int) ^ (11 : Int).toNat), .int ((10 : Int) ^ (11 : Int).toNat - 1)]) : ∃ j : Nat, v = .int ((n + j : Nat) : Int) ∧ n + j ≤ 100000000000 := by
  have es : (10 : Int) ^ (11 : Int).toNat = 100000000000 := by decide +kernel
  rw [es] at h
  simp only [List.mem_cons, List.not_mem_nil, or_false] at h
  rcases h with h | h | h | h | h
  · exact ⟨0, h, by omega⟩
  · exact ⟨1, by rw [h]; rfl, by omega⟩
  · exact ⟨99 - n, by rw [h]; congr 1; omega, by omega⟩
  · exact ⟨100000000000 - n, by rw [h]; congr 1; omega, by omega⟩
  · exact ⟨99999999999 - n, by rw [h]; congr 1; omega, by omega⟩
/-- a list of tuples as data -/
def dTsB (t : List (List Nat)) : PyData := .list (t.map dN)
theorem eqv_dTsB (t s : List (List Nat)) : (dTsB t).eqv (dTsB s) = decide (t = s) := by
  unfold dTsB
  rw [PyData.eqv]
  exact eqv_tabs t s
theorem shaped_dTsB (t : List (List Nat)) : SeqAt.shaped (dTsB t) = true := by
  unfold SeqAt.shaped
  have h1 : (dTsB t).canLay0 = true := by
    unfold dTsB
    simp only [PyData.canLay0, lay_rows]
  have h2 : (dTsB t).depth ≤ 64 := by
    have r := dep_rows t
    unfold dTsB
    simp only [PyData.depth]
    omega
  rw [h1, decide_eq_true h2]
  rfl
theorem same_told {x : Str} {t s : List (List Nat)} : (decide (x = x) && decide (t = s)) = decide (s = t) := by
  rw [decide_eq_true rfl, Bool.true_and]
  exact decide_eq_decide.mpr eq_comm
theorem shaped_nB (es : List Nat) : SeqAt.shaped (dN es) = true := by
  unfold SeqAt.shaped
  have h1 : (dN es).canLay0 = true := lay_dN es
  have h2 : (dN es).depth ≤ 64 := by
    rw [dep_dN]
    decide
  rw [h1, decide_eq_true h2]
  rfl
section
variable {P : Program} {w : World} {K : PySem.W.Frag} {mg : Str → Option Value} {base : Heap} {C : Addr} {T : List NTab}
end
end M3

set_option Elab.async false
set_option linter.all false
set_option maxRecDepth 100000
set_option maxHeartbeats 8000000
/-! # The methods of a machine, over the cut M3U -/
namespace M3
open PySem L2
abbrev sContains : Stmt := inClass (top 43) 14
abbrev sLen : Stmt := inClass (top 43) 15
abbrev sPropL : Stmt := inClass (top 43) 1
abbrev sPropT : Stmt := inClass (top 43) 2
abbrev sPropE : Stmt := inClass (top 43) 3
theorem scContains : FnScope ["self", "x"] ["self", "x"] (defScope sContains) := ⟨rfl, rfl, rfl, by decide +kernel, rfl, by decide +kernel, by decide +kernel⟩
theorem scLen : FnScope ["self"] ["self"] (defScope sLen) := ⟨rfl, rfl, rfl, by decide +kernel, rfl, by decide +kernel, by decide +kernel⟩
theorem scPropL : FnScope ["self"] ["self"] (defScope sPropL) := ⟨rfl, rfl, rfl, by decide +kernel, rfl, by decide +kernel, by decide +kernel⟩
theorem scPropT : FnScope ["self"] ["self"] (defScope sPropT) := ⟨rfl, rfl, rfl, by decide +kernel, rfl, by decide +kernel, by decide +kernel⟩
theorem scPropE : FnScope ["self"] ["self"] (defScope sPropE) := ⟨rfl, rfl, rfl, by decide +kernel, rfl, by decide +kernel, by decide +kernel⟩
theorem ke1 : ¬ (("_letters" : Str) = "_ends") := by decide +kernel
theorem ke2 : ¬ (("_letters" : Str) = "_table") := by decide +kernel
theorem ke3 : ¬ (("_table" : Str) = "_ends") := by decide +kernel
theorem fld_l {x : Str} {a b : Addr} : (flds x a b).lookup ("_letters" : Str) = some (.str x) := by
  unfold flds
  rw [lookup_putF, if_neg ke1, lookup_putF, if_neg ke2, lookup_putF, if_pos rfl]
theorem fld_t {x : Str} {a b : Addr} : (flds x a b).lookup ("_table" : Str) = some (.ref a) := by
  unfold flds
  rw [lookup_putF, if_neg ke3, lookup_putF, if_pos rfl]
theorem fld_e {x : Str} {a b : Addr} : (flds x a b).lookup ("_ends" : Str) = some (.ref b) := by
  unfold flds
  rw [lookup_putF, if_pos rfl]
/-- what is right of a machine's letters, table and ends -/
structure Right (x : Str) (t : List (List Nat)) (es : List Nat) (m : Nat) : Prop where
  st : IsSet x m
  m1 : 1 ≤ m
  m2 : m ≤ 2
  tb : IsTab t t.length m
  t1 : 1 ≤ t.length
  t4 : t.length ≤ 4
  up : es.Pairwise (· < ·)
  lt : ∀ e ∈ es, e < t.length
def spContains (K : PySem.W.Frag) (C : Addr) : Sp := fun vs H Q _ => ∃ (p : Addr) (v : V) (tv : Value) (b : Bool) (x : Str) (t : List (List Nat)) (es : List Nat) (m : Nat), vs = [.ref p, v] ∧ Mach K C H p x t es ∧ Right x t es m ∧ TyX K H v tv ∧ PySem.W.kitOne K tv (.type "str") = some b ∧
  (b = false → Q (.bl false) H) ∧ (b = true → ∃ y : Str, v = .str y ∧ y.length ≤ 1000000 ∧ ∀ H' : Hp, Same H H' → Q (.bl (only y "abcdefghijklmnopqrstuvwxyz" && (only y x && decide (goes t x 0 y.cps.toList ∈ es)))) H')
def spLen (K : PySem.W.Frag) (C : Addr) : Sp := fun vs H Q _ => ∃ (p : Addr) (x : Str) (t : List (List Nat)) (es : List Nat), vs = [.ref p] ∧ Mach K C H p x t es ∧ Q (.int (t.length : Nat)) H
/-- the letters are told -/
def spPropL (K : PySem.W.Frag) (C : Addr) : Sp := fun vs H Q _ => ∃ (p : Addr) (x : Str) (t : List (List Nat)) (es : List Nat), vs = [.ref p] ∧ Mach K C H p x t es ∧ Q (.str x) H
/-- the table is told: a tuple of tuples -/
def spPropT (K : PySem.W.Frag) (C : Addr) : Sp := fun vs H Q _ => ∃ (p : Addr) (x : Str) (t : List (List Nat)) (es : List Nat), vs = [.ref p] ∧ Mach K C H p x t es ∧ ∀ (a : Addr) (us : List V), SqT K H a us → Tups K H us t → Q (.ref a) H
/-- the ends are told: a tuple -/
def spPropE (K : PySem.W.Frag) (C : Addr) : Sp := fun vs H Q _ => ∃ (p : Addr) (x : Str) (t : List (List Nat)) (es : List Nat), vs = [.ref p] ∧ Mach K C H p x t es ∧ ∀ a : Addr, SqT K H a (nts es) → Q (.ref a) H
section
variable {P : Program} {w : World} {K : PySem.W.Frag} {mg : Str → Option Value} {base : Heap} {C : Addr}
theorem ok_contains {f g : Addr} {fd gd : FuncData} (F : Fun K "__contains__" "Machine.__contains__" sContains f fd) (DW : DefsW K mg) (G : Fun K "led" "led" sLed g gd) (bG : Binds K gd ["table", "letters", "start", "word"] []) (mG : mg "led" = some (.ref g)) (W : TxW mg) (TK : TxK K mg C) :
    FnOk P w K mg base CX0 3 f fd ["self", "x"] (spContains K C) := by
  have GW : FnOk P w K mg base CX0 2 DW.fW DW.dW ["value"] (spIsWord K) := ok_isword DW.W DW.O DW.bO DW.mO W
  have GO : FnOk P w K mg base CX0 1 DW.fO DW.dO ["word", "letters"] spHasOnly := ok_hasonly DW.O W
  have GL : FnOk P w K mg base CX0 1 g gd ["table", "letters", "start", "word"] (spLed K) := ok_led G
  refine F.ok scContains (fun vs H Q E h => ?_) (fun cdv A outer s H vs Q E hr h => ?_)
  · obtain ⟨p, v, tv, b, x, t, es, m, rfl, _⟩ := h
    rfl
  · obtain ⟨p, v, tv, b, x, t, es, m, rfl, M, R, ty, k1, q1, q2⟩ := h
    have hr2 : Room 2 _ := hr.mono (by decide)
    have hr1 : Room 1 _ := hr.mono (by decide)
    refine ⟨_, pss_cons (ps_if (PW.pt (pw_or (pt_not (pt_val (pe_call GW hr2 rfl DW.mW DW.W.kp DW.bW .nil pass0 (pa_cons (pv 1) pa_nil)))) (pw_or1 (pt_not (pt_val (pe_call GO hr1 rfl DW.mO DW.O.kp DW.bO .nil pass0 (pa_cons (pv 1) (pa_cons (pe_fld (pv 0) rfl) pa_nil)))))))) (pss_one (ps_ret pe_bl)) pss_nil)
      (pss_one (ps_ret (pe_cmpR op_in_seq (pe_call GL hr1 rfl mG G.kp bG .nil pass0 (pa_cons (pe_fld (pv 0) rfl) (pa_cons (pe_fld (pv 0) rfl) (pa_cons pe_int (pa_cons (pv 1) pa_nil))))) (pe_fld (pv 0) rfl) (by rfl)))), ?_⟩
    refine ⟨_, rfl, v, tv, b, rfl, ty, k1, fun e => ⟨_, rfl, ?_⟩, fun e => ?_⟩
    · exact iteT (iteT (q1 e))
    · obtain ⟨y, rfl, hy, q⟩ := q2 e
      refine ⟨y, rfl, hy, fun H1 s1 => ⟨_, rfl, ?_⟩⟩
      cases h1 : only y "abcdefghijklmnopqrstuvwxyz" with
      | false =>
        rw [h1] at q
        exact iteT (iteT (q H1 s1))
      | true =>
        rw [h1] at q
        refine iteF ?_
        obtain ⟨dx, a, b', us, i1, i2, i3, i4⟩ := M.same s1
        refine ⟨_, rfl, _, rfl, p, C, dx, _, _, rfl, i1, TK.cl, TK.nL, fld_l, y, x, rfl, hy, fun H2 s2 => ⟨_, rfl, ?_⟩⟩
        cases h2 : only y x with
        | false =>
          rw [h2] at q
          exact iteT (q H2 (s1.trans s2))
        | true =>
          rw [h2] at q
          refine iteF ?_
          refine ⟨_, rfl, p, C, dx, _, _, rfl, s2 _ _ i1, TK.cl, TK.nT, fld_t, _, rfl, p, C, dx, _, _, rfl, s2 _ _ i1, TK.cl, TK.nL, fld_l, _, rfl, a, x, y, 0, t.length, m, t, us, rfl, sqt_same s2 i2, i3.same s2, R.tb, R.st, R.m2, only_in h2, R.t1, ?_⟩
          refine ⟨_, rfl, p, C, dx, _, _, rfl, s2 _ _ i1, TK.cl, TK.nE, fld_e, b', nts es, rfl, .inr (sqt_same s2 i4), rfl, flat_nts es, ?_⟩
          rw [inV_nts]
          exact q H2 (s1.trans s2)
theorem ok_len {f : Addr} {fd : FuncData} (F : Fun K "__len__" "Machine.__len__" sLen f fd) (Zx : TxZ mg) (TK : TxK K mg C) : FnOk P w K mg base CX0 1 f fd ["self"] (spLen K C) := by
  refine F.ok scLen (fun vs H Q E h => ?_) (fun cdv A outer s H vs Q E hr h => ?_)
  · obtain ⟨p, x, t, es, rfl, _⟩ := h
    rfl
  · obtain ⟨p, x, t, es, rfl, ⟨dx, a, b, us, h1, h2, h3, h4⟩, k⟩ := h
    refine ⟨_, pss_one (ps_ret (pe_callB call_len_seq (by rfl) Zx.len PySem.boot_len (pa_cons (pe_fld (pv 0) rfl) pa_nil))), ?_⟩
    refine ⟨_, rfl, p, C, dx, _, _, rfl, h1, TK.cl, TK.nT, fld_t, a, us, rfl, .inr h2, ?_⟩
    rw [h3.1]
    exact k
theorem ok_propL {f : Addr} {fd : FuncData} (F : Fun K "letters" "Machine.letters" sPropL f fd) (TK : TxK K mg C) : FnOk P w K mg base CX0 1 f fd ["self"] (spPropL K C) := by
  refine F.ok scPropL (fun vs H Q E h => ?_) (fun cdv A outer s H vs Q E hr h => ?_)
  · obtain ⟨p, x, t, es, rfl, _⟩ := h
    rfl
  · obtain ⟨p, x, t, es, rfl, ⟨dx, a, b, us, h1, h2, h3, h4⟩, k⟩ := h
    refine ⟨_, pss_one (ps_ret (pe_fld (pv 0) rfl)), ?_⟩
    exact ⟨_, rfl, p, C, dx, _, _, rfl, h1, TK.cl, TK.nL, fld_l, k⟩
theorem ok_propT {f : Addr} {fd : FuncData} (F : Fun K "table" "Machine.table" sPropT f fd) (TK : TxK K mg C) : FnOk P w K mg base CX0 1 f fd ["self"] (spPropT K C) := by
  refine F.ok scPropT (fun vs H Q E h => ?_) (fun cdv A outer s H vs Q E hr h => ?_)
  · obtain ⟨p, x, t, es, rfl, _⟩ := h
    rfl
  · obtain ⟨p, x, t, es, rfl, ⟨dx, a, b, us, h1, h2, h3, h4⟩, k⟩ := h
    refine ⟨_, pss_one (ps_ret (pe_fld (pv 0) rfl)), ?_⟩
    exact ⟨_, rfl, p, C, dx, _, _, rfl, h1, TK.cl, TK.nT, fld_t, k a us h2 h3⟩
theorem ok_propE {f : Addr} {fd : FuncData} (F : Fun K "ends" "Machine.ends" sPropE f fd) (TK : TxK K mg C) : FnOk P w K mg base CX0 1 f fd ["self"] (spPropE K C) := by
  refine F.ok scPropE (fun vs H Q E h => ?_) (fun cdv A outer s H vs Q E hr h => ?_)
  · obtain ⟨p, x, t, es, rfl, _⟩ := h
    rfl
  · obtain ⟨p, x, t, es, rfl, ⟨dx, a, b, us, h1, h2, h3, h4⟩, k⟩ := h
    refine ⟨_, pss_one (ps_ret (pe_fld (pv 0) rfl)), ?_⟩
    exact ⟨_, rfl, p, C, dx, _, _, rfl, h1, TK.cl, TK.nE, fld_e, k b h4⟩
end
end M3

set_option Elab.async false
set_option linter.all false
set_option maxRecDepth 100000
set_option maxHeartbeats 8000000
/-! # _law_right (k20) -/
namespace M3
open PySem L2 NdefX
abbrev sRight : Stmt := top 84
abbrev nRight : List Str := ["dice", "letters", "table", "box", "size", "firsts", "turn", "word", "place", "lean", "ends", "made"]
theorem scRight : FnScope nRight ["dice"] (defScope sRight) := ⟨rfl, rfl, rfl, by decide +kernel, rfl, by decide +kernel, by decide +kernel⟩
theorem flb_no {x : Str} {a : Addr} {n : Str} (h1 : ¬ n = ("_table" : Str)) (h2 : ¬ n = ("_letters" : Str)) : (flB x a).lookup n = none := by
  unfold flB
  rw [lookup_putF, if_neg h1, lookup_putF, if_neg h2]
  rfl
theorem eqv_dT (a b : List (List Nat)) : (dT a).eqv (dT b) = decide (a = b) := by
  unfold dT
  rw [PyData.eqv]
  exact eqv_tabs a b
theorem shaped_dT (t : List (List Nat)) : SeqAt.shaped (dT t) = true := by
  unfold SeqAt.shaped
  have h1 : (dT t).canLay0 = true := by
    unfold dT
    simp only [PyData.canLay0, lay_rows]
  have h2 : (dT t).depth ≤ 64 := by
    have r := dep_rows t
    unfold dT
    simp only [PyData.depth]
    omega
  rw [h1, decide_eq_true h2]
  rfl
theorem RowsA.tups {K : PySem.W.Frag} {H : Hp} {us : List V} {t : List (List Nat)} (h : RowsA H us t) : Tups K H us t := ⟨h.1, fun i r e => by
  obtain ⟨b, b1, b2⟩ := h.2 i r e
  exact ⟨b, b1, SqT.of b2⟩⟩
theorem told_scal {t : List (List Nat)} {x : Str} {es : List Nat} : scal (toldTo t x es) (toldTo t x es) = true := by
  unfold toldTo
  cases (frs t x).find? fun z => decide (z.1 ∈ es) <;> rfl
theorem ends_of {ns : List Int} {l : List Nat} {n : Nat} (pm : ns.Perm (l.map Int.ofNat)) (so : ns.Pairwise (· ≤ ·)) (nd : l.Nodup) (lt : ∀ z ∈ l, z < n) : ∃ es : List Nat, ns.map V.int = nts es ∧ es.Pairwise (· < ·) ∧ (∀ z ∈ es, z < n) ∧ es.length = l.length := by
  have nn : ∀ i ∈ ns, ∃ z : Nat, i = (z : Int) := fun i hi => by
    obtain ⟨z, _, e⟩ := List.mem_map.mp (pm.mem_iff.mp hi)
    exact ⟨z, e.symm⟩
  have p2 : (ns.map Int.toNat).Perm l := by
    have := pm.map Int.toNat
    rw [List.map_map] at this
    rwa [show (l.map (Int.toNat ∘ Int.ofNat)) = l from (List.map_congr_left (g := id) fun z _ => rfl).trans (List.map_id _)] at this
  refine ⟨ns.map Int.toNat, ?_, ?_, fun z hz => lt z (p2.mem_iff.mp hz), p2.length_eq⟩
  · unfold nts
    rw [List.map_map]
    refine List.map_congr_left fun i hi => ?_
    obtain ⟨z, rfl⟩ := nn i hi
    rfl
  · have a : (ns.map Int.toNat).Pairwise (· ≤ ·) := by
      rw [List.pairwise_map]
      exact so.imp fun h => by omega
    have b : (ns.map Int.toNat).Nodup := p2.nodup_iff.mpr nd
    exact (List.Pairwise.and a b).imp fun h => Nat.lt_of_le_of_ne h.1 h.2
theorem cut_takeN {es : List Nat} {n : Nat} (h : n ≤ es.length) : cutV (nts es) none (some (n : Int)) = nts (es.take n) := by
  unfold cutV
  rw [HT.sIx_none, HT.sIx_nat, nts_length, List.drop_zero, Nat.sub_zero, Nat.min_eq_left h]
  unfold nts
  rw [List.map_take]
theorem Mach.stl {K : PySem.W.Frag} {T : List NTab} {C p d : Addr} {H H' : Hp} {x : Str} {t : List (List Nat)} {es : List Nat} (h : Mach K C H p x t es) (z : Dz H d) (s : Stl T d H H') : Mach K C H' p x t es := by
  obtain ⟨dx, a, b, us, h1, h2, h3, h4⟩ := h
  obtain ⟨l, m, c, e, _⟩ := id z
  refine ⟨dx, a, b, us, s.st _ _ (fun q => by rw [q, e] at h1; cases h1) h1 (fun ps q => by cases q), sqt_stl s z h2, ⟨h3.1, fun i r hr => ?_⟩, sqt_stl s z h4⟩
  obtain ⟨b', b1, b2⟩ := h3.2 i r hr
  exact ⟨b', b1, sqt_stl s z b2⟩
theorem dk_stl {T : List NTab} {d D : Addr} {H H' : Hp} {kvs : List (Key × V)} (s : Stl T d H H') (z : Dz H d) (h : H D = some (.dK kvs)) : H' D = some (.dK kvs) := by
  obtain ⟨l, m0, c, e, _⟩ := z
  exact s.st _ _ (fun q => by rw [q, e] at h; cases h) h (fun ps q => by cases q)
/-- what a machine tells of itself -/
def dSaid (x : Str) (t : List (List Nat)) (es : List Nat) : PyData := .list [.str x, dT t, dN es, .int ((t.length : Nat) : Int)]
theorem eqv_said (x : Str) (t : List (List Nat)) (es : List Nat) : (dSaid x t es).eqv (dSaid x t es) = true := by
  unfold dSaid
  rw [PyData.eqv]
  simp only [PyData.eqvAll]
  rw [eqv_dT, decide_eq_true rfl, eqv_dN, decide_eq_true rfl]
  simp [PyData.eqv]
theorem shaped_said {x : Str} {t : List (List Nat)} {es : List Nat} {m : Nat} (h : IsSet x m) : SeqAt.shaped (dSaid x t es) = true := by
  unfold SeqAt.shaped
  have h1 : (dSaid x t es).canLay0 = true := by
    unfold dSaid dT
    simp only [PyData.canLay0, PyData.canLayAll0, lay_rows, lay_dN, set_ok h, Bool.and_self]
  have h2 : (dSaid x t es).depth ≤ 64 := by
    have r := dep_rows t
    have q := dep_dN es
    unfold dSaid dT
    simp only [PyData.depth, PyData.depthAll, q]
    omega
  rw [h1, decide_eq_true h2]
  rfl
def spRight (T : List NTab) : Sp := fun vs H Q _ => ∃ d : Addr, vs = [.ref d] ∧ Dz H d ∧ TabsN T H ∧ ∀ H' : Hp, Dz H' d → Stl T d H H' → Q (.bl true) H'
section
variable {P : Program} {w : World} {K : PySem.W.Frag} {mg : Str → Option Value} {base : Heap} {C CM : Addr} {T : List NTab}
theorem ok_right {f fC : Addr} {fd dC : FuncData} (F : Fun K "_law_right" "_law_right" sRight f fd)
    (cR : FnC P w K mg base 1 "_law_roll" ["dice", "total"] spDraw) (cL : FnC P w K mg base 3 "_law_letters" ["dice", "total"] spLetters) (cB : FnC P w K mg base 4 "_law_box" ["dice", "letters", "most"] spLawBox) (cK : FnC P w K mg base 6 "_law_made_box" ["letters", "table"] (spMadeBox K C))
    (cW : FnC P w K mg base 3 "_law_word" ["dice", "letters", "most"] spWord) (cE : FnC P w K mg base 1 "_law_led" ["table", "letters", "word", "start"] (spLawLed K)) (cF : FnC P w K mg base 1 "_law_firsts" ["table", "letters"] (spFirstsL K))
    (cG : FnC P w K mg base 2 "_law_lag" ["table", "letters", "word"] (spLagL K)) (cN : FnC P w K mg base 2 "_law_lean" ["table", "letters"] (spLeanL K)) (cX : FnC P w K mg base 2 "_law_mixed" ["dice", "items"] (spMixedG K))
    (pL : PrC P w K mg base C 1 "letters" (spBLet K C)) (pT : PrC P w K mg base C 1 "table" (spBTab K C)) (oE : OpC P w K mg base C 1 "__eq__" ["self", "other"] (spBEq K C))
    (kC : StX.CallO K C fC) (GC : FnOk P w K mg base CX0 5 fC dC ["self", "word"] (spBCall K C)) (bC : Binds K dC ["self", "word"] [])
    (mG : OpC P w K mg base C 5 "lag" ["self", "word"] (spBLag K T C)) (mF : OpC P w K mg base C 4 "first_word" ["self", "place"] (spBFw K C)) (mN : OpC P w K mg base C 7 "lean" ["self"] (spBLean K C)) (mM : OpC P w K mg base C 7 "machine" ["self", "places"] (spBMach K C CM))
    (qL : PrC P w K mg base CM 1 "letters" (spPropL K CM)) (qT : PrC P w K mg base CM 1 "table" (spPropT K CM)) (qE : PrC P w K mg base CM 1 "ends" (spPropE K CM)) (rL : OpC P w K mg base CM 1 "__len__" ["self"] (spLen K CM)) (rI : OpC P w K mg base CM 3 "__contains__" ["self", "x"] (spContains K CM))
    (TB : TxB K mg C) (TO : TxOB K C) (TK : TxK K mg CM) (M : TxM mg) :
    FnOk P w K mg base CX0 8 f fd ["dice"] (spRight T) := by
  refine F.ok scRight (fun vs H Q E h => ?_) (fun cdv A outer s H vs Q E hr h => ?_)
  · obtain ⟨d, rfl, _⟩ := h
    rfl
  · obtain ⟨d, rfl, Z, tabs, k⟩ := h
    have hu := hu_of hr
    have hr6 : Room 6 _ := hr.mono (by decide)
    have hr5 : Room 5 _ := hr.mono (by decide)
    have hr4 : Room 4 _ := hr.mono (by decide)
    have hr3 : Room 3 _ := hr.mono (by decide)
    have hr2 : Room 2 _ := hr.mono (by decide)
    have hr1 : Room 1 _ := hr.mono (by decide)
    refine ⟨_, pss_cons (ps_set (i := 1) scRight.nd rfl (Or.inl rfl) (pe_call cL.G hr3 rfl cL.m cL.kp cL.b .nil pass0 (pa_cons (pv 0) (pa_cons (pe_op op_add pe_int (pe_call cR.G hr1 rfl cR.m cR.kp cR.b .nil pass0 (pa_cons (pv 0) (pa_cons pe_int pa_nil)))) pa_nil))))
      (pss_cons (ps_set (i := 2) scRight.nd rfl (Or.inl rfl) (pe_call cB.G hr4 rfl cB.m cB.kp cB.b .nil pass0 (pa_cons (pv 0) (pa_cons (pv 1) (pa_cons pe_int pa_nil)))))
      (pss_cons (ps_par3 (i := 3) (j := 4) (l := 5) rfl scRight.nd rfl rfl rfl (by decide) (by decide) (by decide) rfl rfl rfl (pa_cons (pe_call cK.G hr6 rfl cK.m cK.kp cK.b .nil pass0 (pa_cons (pv 1) (pa_cons (pv 2) pa_nil))) (pa_cons (pe_callB call_len_seq (by rfl) M.len PySem.boot_len (pa_cons (pv 2) pa_nil)) (pa_cons (pe_call cF.G hr1 rfl cF.m cF.kp cF.b .nil pass0 (pa_cons (pv 2) (pa_cons (pv 1) pa_nil))) pa_nil))) rfl)
      (pss_cons (ps_for PassesOwn.never rfl (pi_range1 rfl M.range (pa_cons pe_int pa_nil)) (pg_name (i := 6) scRight.nd rfl (Or.inl rfl))
        (pss_cons (ps_set (i := 7) scRight.nd rfl (Or.inl rfl) (pe_call cW.G hr3 rfl cW.m cW.kp cW.b .nil pass0 (pa_cons (pv 0) (pa_cons (pv 1) (pa_cons pe_int pa_nil)))))
        (pss_one (ps_if (PW.pt (pw_or (pt_cmpR op_ne (pe_meth (pv 3) TB.cl mG.m mG.G hr5 mG.b .nil pass0 (pa_cons (pv 7) pa_nil)) (pe_call cG.G hr2 rfl cG.m cG.kp cG.b .nil pass0 (pa_cons (pv 2) (pa_cons (pv 1) (pa_cons (pv 7) pa_nil)))) (nomark _)) (pw_or1 (pt_cmpR op_ge (pe_meth (pv 3) TB.cl mG.m mG.G hr5 mG.b .nil pass0 (pa_cons (pv 7) pa_nil)) (pv 4) (nomark _))))) (pss_one (ps_ret pe_bl)) pss_nil))))
      (pss_cons (ps_for PassesOwn.never rfl (pi_range1 rfl M.range (pa_cons (pv 4) pa_nil)) (pg_name (i := 8) scRight.nd rfl (Or.inl rfl))
        (pss_one (ps_if (pt_cmpR op_ne (pe_meth (pv 3) TB.cl mF.m mF.G hr4 mF.b .nil pass0 (pa_cons (pv 8) pa_nil)) (pe_dget2 hu (pv 5) (pv 8) pe_non ⟨rfl, rfl, rfl, rfl⟩) (nomark _)) (pss_one (ps_ret pe_bl)) pss_nil)))
      (pss_cons (ps_set (i := 9) scRight.nd rfl (Or.inl rfl) (pe_meth0 (pv 3) TB.cl mN.m mN.G hr mN.b .nil pass0))
      (pss_cons (ps_if (PW.pt (pw_or (pt_cmpR (op_neD hr.units) (pe_prop (pv 9) TB.cl pT.hp pT.G hr2 pT.b .nil pass0 rfl) (pe_call cN.G hr2 rfl cN.m cN.kp cN.b .nil pass0 (pa_cons (pv 2) (pa_cons (pv 1) pa_nil))) (nomark _)) (pw_or (pt_cmpR op_ne (pe_prop (pv 9) TB.cl pL.hp pL.G hr2 pL.b .nil pass0 rfl) (pv 1) (nomark _))
          (pw_or1 (pt_cmpR (NvO.op_neO oE.G hr2 oE.b pass0 TO.ne TO.hm oE.m.at_ oE.m.fn) (pe_meth0 (pv 9) TB.cl mN.m mN.G hr mN.b .nil pass0) (pv 9) (nomark _)))))) (pss_one (ps_ret pe_bl)) pss_nil)
      (pss_cons (ps_set (i := 10) scRight.nd rfl (Or.inl rfl) (pe_callTy call_tuple_of (by rfl) M.tuple (by decide +kernel) (pa_cons (pe_callB cr_sorted (by rfl) M.sorted (by decide +kernel) (pa_cons (pe_slice sl_list (pe_call cX.G hr2 rfl cX.m cX.kp cX.b .nil pass0 (pa_cons (pv 0) (pa_cons (pe_listRg rfl rfl M.list (prg_1 rfl M.range (pv 4))) pa_nil))) po_none (po_some (pe_call cR.G hr1 rfl cR.m cR.kp cR.b .nil pass0 (pa_cons (pv 0) (pa_cons (pe_op op_add (pv 4) pe_int) pa_nil))))) pa_nil)) pa_nil)))
      (pss_cons (ps_set (i := 11) scRight.nd rfl (Or.inl rfl) (pe_meth (pv 3) TB.cl mM.m mM.G hr mM.b .nil pass0 (pa_cons (pv 10) pa_nil)))
      (pss_cons (ps_if (pt_cmpR (op_neD hr.units) (pe_lst (pa_cons (pe_prop (pv 11) TK.cl qL.hp qL.G hr2 qL.b .nil pass0 rfl) (pa_cons (pe_prop (pv 11) TK.cl qT.hp qT.G hr2 qT.b .nil pass0 rfl) (pa_cons (pe_prop (pv 11) TK.cl qE.hp qE.G hr2 qE.b .nil pass0 rfl) (pa_cons (pe_callB (NvO.call_lenO rL.G hr2 rL.b pass0 rL.m.at_ rL.m.fn) (by rfl) M.len PySem.boot_len (pa_cons (pv 11) pa_nil)) pa_nil)))))
          (pe_lst (pa_cons (pv 1) (pa_cons (pe_callTy call_tuple_of (by rfl) M.tuple (by decide +kernel) (pa_cons (pv 2) pa_nil)) (pa_cons (pv 10) (pa_cons (pv 4) pa_nil))))) (nomark _)) (pss_one (ps_ret pe_bl)) pss_nil)
      (pss_cons (ps_for PassesOwn.never rfl (pi_range1 rfl M.range (pa_cons pe_int pa_nil)) (pg_name (i := 6) scRight.nd rfl (Or.inl rfl))
        (pss_cons (ps_set (i := 7) scRight.nd rfl (Or.inl rfl) (pe_call cW.G hr3 rfl cW.m cW.kp cW.b .nil pass0 (pa_cons (pv 0) (pa_cons (pv 1) (pa_cons pe_int pa_nil)))))
        (pss_cons (ps_if (pt_cmpR op_ne (pe_cmpR (NvO.op_inO rI.G hr3 rI.b pass0 rI.m.at_ rI.m.fn) (pv 7) (pv 11) (by rfl)) (pe_cmpR op_in_seq (pe_call cE.G hr1 rfl cE.m cE.kp cE.b .nil pass0 (pa_cons (pv 2) (pa_cons (pv 1) (pa_cons (pv 7) (pa_cons pe_int pa_nil))))) (pv 10) (by rfl)) (nomark _)) (pss_one (ps_ret pe_bl)) pss_nil)
        (pss_one (ps_if (pt_cmpR op_ne (StX.pe_callO (pv 9) kC (GC.raw bC .nil) hr5 pass0 (pa_cons (pv 7) pa_nil)) (pe_bm PySem.F.plainAttrs_list PySem.F.slot_list_index PySem.F.type_list_index mt_index (pe_callTy (call_list_dK rfl) (by rfl) M.list (by decide +kernel) (pa_cons (pv 5) pa_nil)) (pa_cons (StX.pe_callO (pv 3) kC (GC.raw bC .nil) hr5 pass0 (pa_cons (pv 7) pa_nil)) pa_nil)) (nomark _)) (pss_one (ps_ret pe_bl)) pss_nil)))))
      (pss_one (ps_ret pe_bl)))))))))))), ?_⟩
    refine ⟨_, rfl, _, rfl, d, 2, rfl, Z, by decide, by decide, fun r H1 rn Z1 S1 => ⟨_, _, rfl, rfl, ?_⟩⟩
    have e1 : [V.ref d, V.int (1 + (r : Int))] = [V.ref d, V.int ((1 + r : Nat) : Int)] := by rw [show ((1 + r : Nat) : Int) = 1 + (r : Int) by omega]
    refine ⟨d, 1 + r, e1, Z1, by omega, by omega, fun x H2 hx Z2 S2 => ?_⟩
    generalize hm : 1 + r = m at hx
    have m1 : 1 ≤ m := by omega
    have m2 : m ≤ 2 := by omega
    have lx := set_len hx
    refine ⟨_, rfl, _, rfl, d, x, m, rfl, Z2, hx, m1, m2, fun t p H3 R no LT Z3 S3 => ?_⟩
    have S : Stl T d H H3 := Stl.of tabs Z Z3 ((S1.trans S2).trans S3)
    clear Z1 Z2 S1 S2 S3 e1 Z tabs
    obtain ⟨us, hp, hT⟩ := LT.tups (K := K)
    refine ⟨_, rfl, _, rfl, p, x, us, t, m, rfl, hp, hT, R, no, fun b H4 nb B s4 => ?_⟩
    refine ⟨_, rfl, p, us, rfl, .inl (s4.seq hp), ?_⟩
    have t1 := R.t1
    have t4 := R.t4
    have m1' := R.m1
    have m2' := R.m2
    have hxm : x.cps.size = m := by simpa [Str.length] using lx
    rw [hT.1]
    refine ⟨_, rfl, _, rfl, p, us, t, m, x, rfl, s4.seq hp, hT.same s4, R.tb, t1, by omega, hxm, fun D H5 nD hD sF s5 => ⟨_, _, _, rfl, ?_⟩⟩
    have s45 := s4.trans s5
    have S := S.same s45
    have Z5 := same_dz' s45 Z3
    have LT := LT.same s45
    have B := B.same s5
    clear s4 s5 s45 Z3 nb nD hp hT us
    have x1 : 0 < x.length ∧ x.length ≤ 100 := by omega
    refine ⟨6, rfl, by decide, by decide, for_range (lo := 0) (n := 6) (fun i σ H' => (∃ v6 v7 : Option V, σ = [some (.ref d), some (.str x), some (.ref p), some (.ref b), some (.int ((t.length : Nat) : Int)), some (.ref D), v6, v7, none, none, none, none]) ∧ Dz H' d ∧ Stl T d H5 H') ⟨⟨_, _, rfl⟩, Z5, Stl.refl d S.tab⟩ ?_ ?_⟩
    · rintro i σ H6 hi ⟨⟨v6, v7, rfl⟩, Z6, S6⟩
      refine ⟨_, rfl, _, rfl, d, x, 6, rfl, Z6, x1.1, by omega, by decide, fun y H7 hw hl Z7 S7 => ?_⟩
      have S7 := S6.still Z6 Z7 S7
      obtain ⟨L, Ll, hL⟩ := lag_word R no hw
      have B7 := B.stl Z5 S7
      obtain ⟨dx, a', us', j1, j2, j3⟩ := id B7
      refine ⟨_, rfl, b, dx, _, rfl, j1, flb_no (by decide +kernel) (by decide +kernel), _, rfl, b, x, y, t, m, L, rfl, B7, R, hw, by omega, S7.tab, hL, by omega, fun H8 e8 => ?_⟩
      have S8 := S7.trans (Stl.ofE e8)
      have Z8 := dz_ext e8.ext Z7
      obtain ⟨ua, pa, ta⟩ := (LT.stl Z5 S8).tups (K := K)
      refine ⟨_, rfl, _, rfl, _, rfl, p, x, y, ua, t, m, L, rfl, pa, ta, R.tb, by omega, R.st, R.m2, hw, hL, fun H9 s9 => ?_⟩
      have S9 := S8.same s9
      have Z9 := same_dz' s9 Z8
      refine ⟨rfl, _, rfl, ?_⟩
      rw [ne_not rfl]
      refine iteF ?_
      have B9 := B.stl Z5 S9
      obtain ⟨dx, a', us', j1, j2, j3⟩ := id B9
      refine ⟨_, rfl, b, dx, _, rfl, j1, flb_no (by decide +kernel) (by decide +kernel), _, rfl, b, x, y, t, m, L, rfl, B9, R, hw, by omega, S9.tab, hL, by omega, fun HA eA => ⟨_, rfl, _, _, rfl, rfl, _, rfl, ?_⟩⟩
      rw [decide_eq_false (show ¬ ((t.length : Nat) : Int) ≤ ((L : Nat) : Int) by omega)]
      refine iteF ?_
      exact ⟨⟨_, _, rfl⟩, dz_ext eA.ext Z9, S9.trans (Stl.ofE eA)⟩
    · rintro σ H6 ⟨⟨v6, v7, rfl⟩, Z6, S6⟩
      have B6 := B.stl Z5 S6
      have hD6 : H6 D = some (.dK (entF (frs t x))) := by
        obtain ⟨l, m0, c, e, _⟩ := id Z5
        exact S6.st _ _ (fun q => by rw [q, e] at hD; cases hD) hD (fun ps q => by cases q)
      refine ⟨_, rfl, ((t.length : Nat) : Int), rfl, by omega, by omega, for_range (lo := 0) (n := ((t.length : Nat) : Int).toNat) (fun i σ H' => (∃ v8 : Option V, σ = [some (.ref d), some (.str x), some (.ref p), some (.ref b), some (.int ((t.length : Nat) : Int)), some (.ref D), v6, v7, v8, none, none, none]) ∧ Same H6 H') ⟨⟨_, rfl⟩, Same.refl H6⟩ ?_ ?_⟩
      · rintro i σ H7 hi ⟨⟨v8, rfl⟩, s7⟩
        have B7 := B6.same s7
        obtain ⟨dx, a', us', j1, j2, j3⟩ := id B7
        refine ⟨_, rfl, b, dx, _, rfl, j1, flb_no (by decide +kernel) (by decide +kernel), _, rfl, b, x, t, m, i, (by rw [Int.zero_add]; rfl), B7, R, by omega, fun H8 s8 => ?_⟩
        have hD8 := s8 _ _ (s7 _ _ hD6)
        refine ⟨_, rfl, D, rfl, (.inl ⟨_, .inl hD8⟩), _, rfl, valV (entF (frs t x)) (kN i), ?_, ?_⟩
        · have g := DGet.k (k := kN i) hD8
          rw [show (0 : Int) + (i : Int) = (i : Int) from Int.zero_add _]
          exact g
        · rw [← told_one]
          refine ⟨told_scal, _, rfl, ?_⟩
          rw [ne_not rfl]
          exact iteF ⟨⟨_, rfl⟩, s7.trans s8⟩
      · rintro σ H7 ⟨⟨v8, rfl⟩, s7⟩
        have S7 := S6.same s7
        have Z7 := same_dz' s7 Z6
        have B7 := B6.same s7
        have hD7 := s7 _ _ hD6
        clear s7 S6 Z6 B6 hD6
        obtain ⟨dx, a', us', j1, j2, j3⟩ := id B7
        refine ⟨_, rfl, b, dx, _, rfl, j1, flb_no (by decide +kernel) (by decide +kernel), b, x, t, m, rfl, B7, R, fun c H8 nc Bc s8 => ?_⟩
        obtain ⟨tlb, l1, l2⟩ := lean_tab R.tb hxm t1 (by omega)
        have RL : RightB x (leanT t x) m := ⟨R.st, m1', m2', tlb, l1, by omega⟩
        have Z8 := same_dz' s8 Z7
        have S8 := S7.same s8
        have B8 := B7.same s8
        have hD8 := s8 _ _ hD7
        clear s8 B7 hD7 j1 j2 j3
        obtain ⟨dc, ac, uc, c1, c2, c3⟩ := id Bc
        obtain ⟨ua, pa, ta⟩ := (LT.stl Z5 S8).tups (K := K)
        refine ⟨_, rfl, c, dc, _, rfl, c1, c, x, leanT t x, rfl, Bc, fun a1 u1 g1 g2 => ?_⟩
        refine ⟨_, rfl, _, rfl, p, ua, t, m, x, rfl, pa, ta, R.tb, t1, by omega, hxm, by omega, fun q uq H9 hq RA s9 => ?_⟩
        refine ⟨dT (leanT t x), dT (leanT t x), .tup (sqt_same s9 g1) (dp_rows _ u1 (g2.same s9)), .tup (SqT.of hq) (dp_rows _ uq RA.tups), shaped_dT _, shaped_dT _, _, rfl, ?_⟩
        rw [eqv_dT, decide_eq_true rfl]
        refine iteF ?_
        refine ⟨_, rfl, c, dc, _, rfl, s9 _ _ c1, c, x, leanT t x, rfl, Bc.same s9, _, rfl, rfl, _, rfl, ?_⟩
        rw [ne_not rfl]
        refine iteF ?_
        have Bc9 := Bc.same s9
        refine ⟨_, rfl, c, dc, _, rfl, s9 _ _ c1, flb_no (by decide +kernel) (by decide +kernel), c, x, leanT t x, m, rfl, Bc9, RL, fun e HA ne Be sA => ?_⟩
        rw [lean_lean R.tb hxm t1 (by omega)] at Be
        have BcA := Bc9.same sA
        obtain ⟨de, ae, ue, e1, e2, e3⟩ := id Be
        obtain ⟨dc', ac', uc', f1, f2, f3⟩ := id BcA
        refine ⟨_, rfl, e, de, _, .ref C, rfl, e1, .base (.ins f1 TB.cl TO.ha TO.hn TO.tk TO.hm), first_self, e, .ref c, .ref C, true, x, leanT t x, m, rfl, Be, RL, .base (.ins f1 TB.cl TO.ha TO.hn TO.tk TO.hm), TO.kc, (fun z => by cases z), fun _ => ⟨c, x, leanT t x, m, rfl, BcA, RL, fun HB sB => ⟨_, rfl, _, rfl, ?_⟩⟩⟩
        rw [same_told, decide_eq_true rfl]
        refine iteF ?_
        have s8B := (s9.trans sA).trans sB
        have ZB := same_dz' s8B Z8
        have SB := S8.same s8B
        have BB := B8.same s8B
        have BcB := Bc.same s8B
        have hDB := s8B _ _ hD8
        clear g1 g2 hq RA s9 Bc9 sA Be BcA e1 e2 e3 f1 f2 f3 sB s8B Z8 S8 B8 Bc hD8 c1 c2 c3 pa ta Z7 S7 nc ne
        refine ⟨_, rfl, _, rfl, _, rfl, .of_le (by decide) (by omega) (by decide) (by omega), fun p0 np => ?_⟩
        rw [rgV_nats]
        refine ⟨Nat, fun n => .int (n : Nat), fun n => .int (n : Nat), d, p0, List.range t.length, rfl, ZB.new np, SqL.of upd_same, (by rw [List.length_range]; omega), fun ls H' _ _ => dp_nats ls, fun ls _ => shaped_lN ls, fun ys p1 HC perm np1 hp1 ZC SC => ?_⟩
        have ly : ys.length = t.length := by rw [perm.length_eq, List.length_range]
        refine ⟨_, rfl, _, rfl, _, _, rfl, rfl, d, t.length + 1, rfl, ZC, by omega, by omega, fun r HD rn ZD SD => ?_⟩
        have p1d : p1 ≠ d := (ZB.new np).not np1
        refine ⟨_, rfl, p1, nts ys, rfl, SqL.of (SD _ _ p1d hp1), fun p2 np2 => ?_⟩
        rw [cut_takeN (by omega)]
        refine ⟨p2, (ys.take r).map Int.ofNat, rfl, by rw [← nts_eq']; exact SqL.of upd_same, by rw [List.length_map, List.length_take]; omega, fun ns p3 pm so np3 => ?_⟩
        obtain ⟨es, ee, up, lt, le⟩ := ends_of (n := t.length) pm so ((perm.nodup_iff.mpr List.nodup_range).sublist (List.take_sublist _ _)) (fun z hz => List.mem_range.mp (perm.mem_iff.mp (List.mem_of_mem_take hz)))
        rw [ee]
        have le4 : es.length ≤ 4 := by
          rw [le, List.length_take]
          omega
        refine ⟨p3, nts es, rfl, .inl ⟨SqL.of upd_same, fun e ne => ?_⟩⟩
        have he : (upd (upd (upd HD p2 (.lst (nts (ys.take r)))) p3 (.lst (nts es))) e (.tup (nts es))) e = some (.tup (nts es)) := upd_same
        have ZE : Dz (upd (upd (upd HD p2 (.lst (nts (ys.take r)))) p3 (.lst (nts es))) e (.tup (nts es))) d := ((ZD.new np2).new np3).new ne
        have SE : Still d HB (upd (upd (upd HD p2 (.lst (nts (ys.take r)))) p3 (.lst (nts es))) e (.tup (nts es))) := (((((((Still.refl d HB).new np).trans SC).trans SD).new np2).new np3).new ne)
        generalize upd (upd (upd HD p2 (.lst (nts (ys.take r)))) p3 (.lst (nts es))) e (.tup (nts es)) = HE at he ZE SE ⊢
        have TE := SB.still ZB ZE SE
        clear ZC SC ZD SD np np1 hp1 np2 np3 ne pm so ee p1d perm ly
        have BE := BB.stl ZB (Stl.of SB.tab ZB ZE SE)
        have BcE := BcB.stl ZB (Stl.of SB.tab ZB ZE SE)
        have hDE : HE D = some (.dK (entF (frs t x))) := by
          obtain ⟨l, m0, c0, e0, _⟩ := id ZB
          exact SE _ _ (fun q => by rw [q, e0] at hDB; cases hDB) hDB
        clear BB BcB hDB SB ZB SE
        obtain ⟨dx, a', us', j1, j2, j3⟩ := id BE
        refine ⟨_, rfl, b, dx, _, rfl, j1, flb_no (by decide +kernel) (by decide +kernel), _, rfl, b, e, x, t, m, es, rfl, BE, R, SqT.of he, up, lt, by omega, fun o HF no' Mo sF' => ?_⟩
        have ZF := same_dz' sF' ZE
        have TF := TE.same sF'
        have BF := BE.same sF'
        have BcF := BcE.same sF'
        have hDF := sF' _ _ hDE
        have heF := sF' _ _ he
        clear j1 j2 j3 BE BcE hDE he no' ZE TE sF'
        obtain ⟨dxo, ao, bo, uo, o1, o2, o3, o4⟩ := id Mo
        refine ⟨_, rfl, o, dxo, _, rfl, o1, o, x, t, es, rfl, Mo, _, rfl, o, dxo, _, rfl, o1, o, x, t, es, rfl, Mo, fun a1 u1 g1 g2 => ⟨_, rfl, o, dxo, _, rfl, o1, o, x, t, es, rfl, Mo, fun b1 g3 => ⟨_, rfl, o, dxo, _, rfl, o1, o, x, t, es, rfl, Mo, ((t.length : Nat) : Int), rfl, by omega, by omega, (by show 4 ≤ sizeLine; decide), fun L nL => ?_⟩⟩⟩
        have k1 : (upd HF L (.lst [.str x, .ref a1, .ref b1, .int ((t.length : Nat) : Int)])) L = some (.lst [.str x, .ref a1, .ref b1, .int ((t.length : Nat) : Int)]) := upd_same
        have s1 : Same HF (upd HF L (.lst [.str x, .ref a1, .ref b1, .int ((t.length : Nat) : Int)])) := Same.new (Same.refl HF) nL
        generalize upd HF L (.lst [.str x, .ref a1, .ref b1, .int ((t.length : Nat) : Int)]) = HG at k1 s1 ⊢
        have TG := TF.same s1
        have ZG := same_dz' s1 ZF
        obtain ⟨ua, pa, ta⟩ := (LT.stl Z5 TG).tups (K := K)
        refine ⟨_, rfl, _, rfl, p, ua, rfl, .inl ⟨pa, fun l nl => ⟨_, rfl, _, rfl, (by show 4 ≤ sizeLine; decide), fun L2 nL2 => ?_⟩⟩⟩
        have k2 : (upd (upd HG l (.tup ua)) L2 (.lst [.str x, .ref l, .ref e, .int ((t.length : Nat) : Int)])) l = some (.tup ua) := keep_new upd_same nL2
        have k3 : (upd (upd HG l (.tup ua)) L2 (.lst [.str x, .ref l, .ref e, .int ((t.length : Nat) : Int)])) L2 = some (.lst [.str x, .ref l, .ref e, .int ((t.length : Nat) : Int)]) := upd_same
        have s2 : Same HG (upd (upd HG l (.tup ua)) L2 (.lst [.str x, .ref l, .ref e, .int ((t.length : Nat) : Int)])) := Same.new (Same.new (Same.refl HG) nl) nL2
        generalize upd (upd HG l (.tup ua)) L2 (.lst [.str x, .ref l, .ref e, .int ((t.length : Nat) : Int)]) = HH at k2 k3 s2 ⊢
        have s12 := s1.trans s2
        refine ⟨dSaid x t es, dSaid x t es, .lst (SqL.of (s2 _ _ k1)) (.cons (.str x) (.cons (.tup (sqt_same s12 g1) (dp_rows t u1 (g2.same s12))) (.cons (.tup (sqt_same s12 g3) (dp_nats es)) (.cons (.int _) .nil)))), .lst (SqL.of k3) (.cons (.str x) (.cons (.tup (SqT.of k2) (dp_rows t ua (ta.same s2))) (.cons (.tup (SqT.of (s12 _ _ heF)) (dp_nats es)) (.cons (.int _) .nil)))), shaped_said R.st, shaped_said R.st, _, rfl, ?_⟩
        rw [eqv_said]
        refine iteF ?_
        have TH := TG.same s2
        have ZH := same_dz' s2 ZG
        have BH := BF.same s12
        have BcH := BcF.same s12
        have MH := Mo.same s12
        have hDH := s12 _ _ hDF
        have heH := s12 _ _ heF
        clear k1 k2 k3 s1 s2 s12 TG ZG TF ZF BF BcF Mo hDF heF g1 g2 g3 nL nl nL2 pa ta o1 o2 o3 o4
        have RM : Right x t es m := ⟨R.st, m1', m2', R.tb, t1, t4, up, lt⟩
        refine ⟨5, rfl, by decide, by decide, for_range (lo := 0) (n := 5) (fun i σ H' => (∃ v6 v7 : Option V, σ = [some (.ref d), some (.str x), some (.ref p), some (.ref b), some (.int ((t.length : Nat) : Int)), some (.ref D), v6, v7, v8, some (.ref c), some (.ref e), some (.ref o)]) ∧ Dz H' d ∧ Stl T d HH H') ⟨⟨_, _, rfl⟩, ZH, Stl.refl d TH.tab⟩ ?_ ?_⟩
        · rintro i σ H6 hi ⟨⟨v6, v7, rfl⟩, Z6, S6⟩
          refine ⟨_, rfl, _, rfl, d, x, 6, rfl, Z6, x1.1, by omega, by decide, fun y H7 hw hl Z7 S7 => ?_⟩
          have S7 := S6.still Z6 Z7 S7
          have M7 := MH.stl ZH S7
          have B7 := BH.stl ZH S7
          have Bc7 := BcH.stl ZH S7
          have hD7 := dk_stl S7 ZH hDH
          have he7 := sqt_stl (K := K) S7 ZH (SqT.of heH)
          obtain ⟨dxo, ao, bo, uo, o1, o2, o3, o4⟩ := id M7
          obtain ⟨ua, pa, ta⟩ := (LT.stl Z5 (TH.trans S7)).tups (K := K)
          refine ⟨_, rfl, _, rfl, o, dxo, _, rfl, o1, o, .str y, .type "str", true, x, t, es, m, rfl, M7, RM, .base (.str y), kit_str, (fun z => by cases z), fun _ => ⟨y, rfl, by omega, fun H8 s8 => ⟨_, rfl, ?_⟩⟩⟩
          refine ⟨_, rfl, _, rfl, _, rfl, p, x, y, 0, t.length, m, t, ua, rfl, s8.seq pa, ta.same s8, R.tb, R.st, R.m2, hw, t1, ?_⟩
          refine ⟨_, rfl, e, nts es, rfl, .inr (sqt_same s8 he7), rfl, flat_nts es, ?_⟩
          rw [inV_nts, only_all R.st hw, only_of hw]
          refine ⟨rfl, _, rfl, ?_⟩
          rw [ne_not (show V.bl (true && (true && decide (goes t x 0 y.cps.toList ∈ es))) = V.bl (if false = true then !decide (goes t x 0 y.cps.toList ∈ es) else decide (goes t x 0 y.cps.toList ∈ es)) by rw [if_neg (by decide)]; rfl)]
          refine iteF ?_
          obtain ⟨dc, ac, uc, c1, c2, c3⟩ := id Bc7
          refine ⟨_, rfl, c, rfl, _, rfl, .inr ⟨dc, _, s8 _ _ c1⟩, c, x, y, leanT t x, m, rfl, Bc7.same s8, RL, hw, by omega, fun H9 s9 => ?_⟩
          have s79 := s8.trans s9
          refine ⟨_, rfl, D, _, rfl, s79 _ _ hD7, fun l nl => ?_⟩
          rw [entF_keys]
          have hl9 : (upd H9 l (.lst (nts ((frs t x).map Prod.fst)))) l = some (.lst (nts (ordF t x))) := upd_same
          have s10 : Same H9 (upd H9 l (.lst (nts ((frs t x).map Prod.fst)))) := Same.new (Same.refl H9) nl
          generalize upd H9 l (.lst (nts ((frs t x).map Prod.fst))) = HX at hl9 s10 ⊢
          have s7X := s79.trans s10
          obtain ⟨db, ab, ub, b1, b2, b3⟩ := id B7
          refine ⟨.inl ⟨rfl, _, SqL.of hl9⟩, _, rfl, b, rfl, _, rfl, .inr ⟨db, _, s7X _ _ b1⟩, b, x, y, t, m, rfl, B7.same s7X, R, hw, by omega, fun HY sY => ?_⟩
          have hlY := sY _ _ hl9
          have ol : (ordF t x).Nodup := (frs_ff R.tb hxm t1 (by omega)).2.nd
          have zo : (0 : Nat) ∈ ordF t x := List.mem_of_getElem? (ord_zero R.tb hxm t1 (by omega))
          obtain ⟨jo, lg⟩ := lean_goes R.tb hxm t1 (by omega) y.cps.toList 0 zo hw
          rw [idx_at ol (ord_zero R.tb hxm t1 (by omega))] at lg
          rw [lg]
          generalize goes t x 0 y.cps.toList = g at jo
          have hq : (ordF t x).idxOf g < (ordF t x).length := List.idxOf_lt_length_of_mem jo
          have eq : (ordF t x)[(ordF t x).idxOf g]? = some g := by
            rw [List.getElem?_eq_getElem hq, List.getElem_idxOf hq]
          refine ⟨l, nts (ordF t x), _, (ordF t x).idxOf g, .int ((g : Nat) : Int), rfl, rfl, SqL.of hlY, rfl, flat_nts _, ?_, ?_, fun k2 z' hk2 hz' => ?_, ?_⟩
          · unfold nts
            rw [List.getElem?_map, eq]
            rfl
          · exact decide_eq_true rfl
          · obtain ⟨hk3, rfl⟩ := nts_get hz'
            refine decide_eq_false fun z => ?_
            have z : (((ordF t x).getD k2 0 : Nat) : Int) = ((g : Nat) : Int) := z
            have z : (ordF t x).getD k2 0 = g := by omega
            have e2 : (ordF t x)[k2]? = some g := by
              rw [← z, List.getD_eq_getElem?_getD, List.getElem?_eq_getElem hk3]
              rfl
            have := idx_at ol e2
            omega
          · refine ⟨rfl, _, rfl, ?_⟩
            rw [ne_not rfl]
            have s7Y := s7X.trans sY
            exact iteF ⟨⟨_, _, rfl⟩, same_dz' s7Y Z7, S7.same s7Y⟩
        · rintro σ H6 ⟨⟨v6, v7, rfl⟩, Z6, S6⟩
          exact k H6 Z6 (S.trans (TH.trans S6))
end
end M3

set_option Elab.async false
set_option linter.all false
set_option maxRecDepth 100000
set_option maxHeartbeats 8000000
/-! # The law itself (k20) -/
namespace M3
open PySem L2 NdefX
abbrev sLaw : Stmt := top 85
abbrev nLaw : List Str := ["script", "at", "dice", "turn", "box", "told"]
theorem scLaw : FnScope nLaw ["script"] (defScope sLaw) := ⟨rfl, rfl, rfl, by decide +kernel, rfl, by decide +kernel, by decide +kernel⟩
structure TxL (mg : Str → Option Value) : Prop where
  max : mg "max" = none
  min : mg "min" = none
theorem Tups.cons {K : PySem.W.Frag} {H : Hp} {u : Addr} {r : List Nat} {us : List V} {t : List (List Nat)} (h : SqT K H u (nts r)) (T : Tups K H us t) : Tups K H (.ref u :: us) (r :: t) := ⟨by rw [List.length_cons, List.length_cons, T.1], fun i r' e => by
  match i, e with
  | 0, e => exact ⟨u, rfl, by cases e; exact h⟩
  | i + 1, e => exact T.2 i r' e⟩
theorem Tups.nil {K : PySem.W.Frag} {H : Hp} : Tups K H [] [] := ⟨rfl, fun i r e => by cases e⟩
theorem set_ab : IsSet "ab" 2 := ⟨[97, 98], by decide +kernel, rfl, by decide, by decide⟩
def tb4 : List (List Nat) := [[0, 0], [2, 1], [3, 1], [3, 3]]
theorem rb4 : RightB "ab" tb4 2 := ⟨set_ab, by decide, by decide, ⟨rfl, by decide⟩, by decide, by decide⟩
theorem am4 : among (bfs tb4 "ab" 256) = none := by decide +kernel
theorem word_a : IsW "ab" "a" := by unfold IsW; decide +kernel
theorem word_b : IsW "ab" "b" := by unfold IsW; decide +kernel
theorem word_ba : IsW "ab" "ba" := by unfold IsW; decide +kernel
theorem word_no : IsW "ab" "" := by unfold IsW; decide +kernel
theorem lag_a : Lag (act tb4 "ab" ("a" : Str).cps.toList) 2 := ⟨by decide +kernel, by decide +kernel⟩
theorem lag_b : Lag (act tb4 "ab" ("b" : Str).cps.toList) 1 := ⟨by decide +kernel, by decide +kernel⟩
theorem lag_ba : Lag (act tb4 "ab" ("ba" : Str).cps.toList) 1 := ⟨by decide +kernel, by decide +kernel⟩
theorem lag_no : Lag (act tb4 "ab" ("" : Str).cps.toList) 0 := ⟨by decide +kernel, by decide +kernel⟩
theorem told_2 : toldTo tb4 "ab" [2] = .non := by decide +kernel
theorem lean_4 : leanT tb4 "ab" = [[0, 0]] := by decide +kernel
theorem len_abc : ("a" : Str).length ≤ 1000000 ∧ ("b" : Str).length ≤ 1000000 ∧ ("ba" : Str).length ≤ 1000000 ∧ ("" : Str).length ≤ 1000000 := by decide +kernel
def dEnd : PyData := .list [.int 2, .int 1, .int 1, .none, .tuple [.tuple [.int 0, .int 0]], .int 0]
theorem end_shaped : SeqAt.shaped dEnd = true := by decide +kernel
theorem end_eqv : dEnd.eqv dEnd = true := by decide +kernel
def spLaw (K : PySem.W.Frag) (T : List NTab) : Sp := fun vs H Q _ => ∃ (a : Addr) (ns : List Int), vs = [.ref a] ∧ TabsN T H ∧ SqL K H a (ns.map V.int) ∧ ns.length ≤ 63 ∧ ∀ H', Q (.bl true) H'
section
variable {P : Program} {w : World} {K : PySem.W.Frag} {mg : Str → Option Value} {base : Heap} {C cG : Addr} {T : List NTab}
theorem box_made {q dx a1 : Addr} {H2 H' : Hp} {x : Str} {us : List V} {t : List (List Nat)} (nq : H2 q = none) (ndx : H2 dx = none) (nex : dx ≠ q) (hq : H' q = some (.ins C dx (flB x a1)))
    (kp : ∀ c o, c ≠ q → (upd (upd H2 dx (.own q)) q (.ins C dx [])) c = some o → H' c = some o) (h2 : SqT K H2 a1 us) (T : Tups K H2 us t) : BoxAt K C H' q x t ∧ Same H2 H' := by
  have s3 : Same H2 (upd (upd H2 dx (.own q)) q (.ins C dx [])) := Same.new (Same.new (Same.refl H2) ndx) (by rw [upd_ne (Ne.symm nex)]; exact nq)
  have s4 : Same H2 H' := fun c o h => kp c o (fun z => by rw [z, nq] at h; cases h) (s3 _ _ h)
  exact ⟨⟨dx, a1, us, hq, sqt_same s4 h2, T.same s4⟩, s4⟩
theorem ok_law {f gI : Addr} {fd dI : FuncData} (F : Fun K "law" "law" sLaw f fd)
    (cD : FnC P w K mg base 1 "_law_dice" ["script", "at"] (spDice K)) (cR : FnC P w K mg base 8 "_law_right" ["dice"] (spRight T))
    (MK : Mk K C gI) (GI : FnOk P w K mg base (L2.CX P w) 4 gI dI ["self", "letters", "table"] (spBoxInit K C cG)) (bI : Binds K dI ["self", "letters", "table"] []) (mC : mg "Box" = some (.ref C))
    (pT : PrC P w K mg base C 1 "table" (spBTab K C)) (mG : OpC P w K mg base C 5 "lag" ["self", "word"] (spBLag K T C)) (mF : OpC P w K mg base C 4 "first_word" ["self", "place"] (spBFw K C)) (mN : OpC P w K mg base C 7 "lean" ["self"] (spBLean K C))
    (TB : TxB K mg C) (M : TxM mg) (TL : TxL mg) :
    FnOk P w K mg base CX0 9 f fd ["script"] (spLaw K T) := by
  refine F.ok scLaw (fun vs H Q E h => ?_) (fun cdv A outer s H vs Q E hr h => ?_)
  · obtain ⟨a, ns, rfl, _⟩ := h
    rfl
  · obtain ⟨a, ns, rfl, tabs, ha, hl, k⟩ := h
    have hr7 : Room 7 _ := hr.mono (by decide)
    have hr5 : Room 5 _ := hr.mono (by decide)
    have hr4 : Room 4 _ := hr.mono (by decide)
    have hr2 : Room 2 _ := hr.mono (by decide)
    have hr1 : Room 1 _ := hr.mono (by decide)
    refine ⟨_, (pss_cons (ps_for PassesOwn.never rfl (pi_range1 rfl M.range (pa_cons (pe_callB (call_max2 rfl) (by rfl) TL.max (by decide +kernel) (pa_cons pe_int (pa_cons (pe_callB (call_min2 rfl) (by rfl) TL.min (by decide +kernel) (pa_cons pe_int (pa_cons (pe_callB call_len_seq (by rfl) M.len PySem.boot_len (pa_cons (pv 0) pa_nil)) pa_nil))) pa_nil))) pa_nil)) (pg_name (i := 1) scLaw.nd rfl (Or.inl rfl))
        (pss_cons (ps_set (i := 2) scLaw.nd rfl (Or.inl rfl) (pe_call cD.G hr1 rfl cD.m cD.kp cD.b .nil pass0 (pa_cons (pv 0) (pa_cons (pv 1) pa_nil))))
        (pss_one (ps_for PassesOwn.never rfl (pi_range1 rfl M.range (pa_cons pe_int pa_nil)) (pg_name (i := 3) scLaw.nd rfl (Or.inl rfl))
          (pss_one (ps_if (pt_not (pt_val (pe_call cR.G hr rfl cR.m cR.kp cR.b .nil pass0 (pa_cons (pv 2) pa_nil)))) (pss_one (ps_ret pe_bl)) pss_nil))))))
      (pss_cons (ps_set (i := 4) scLaw.nd rfl (Or.inl rfl) (pe_make MK GI hr5 rfl mC bI .nil passL (pa_cons pe_str (pa_cons (pe_tup (pa_cons (pe_tup (pa_cons pe_int (pa_cons pe_int pa_nil))) (pa_cons (pe_tup (pa_cons pe_int (pa_cons pe_int pa_nil))) (pa_cons (pe_tup (pa_cons pe_int (pa_cons pe_int pa_nil))) (pa_cons (pe_tup (pa_cons pe_int (pa_cons pe_int pa_nil))) pa_nil))))) pa_nil))))
      (pss_cons (ps_set (i := 5) scLaw.nd rfl (Or.inl rfl) (pe_lst (pa_cons (pe_meth (pv 4) TB.cl mG.m mG.G hr5 mG.b .nil pass0 (pa_cons pe_str pa_nil)) (pa_cons (pe_meth (pv 4) TB.cl mG.m mG.G hr5 mG.b .nil pass0 (pa_cons pe_str pa_nil)) (pa_cons (pe_meth (pv 4) TB.cl mG.m mG.G hr5 mG.b .nil pass0 (pa_cons pe_str pa_nil))
          (pa_cons (pe_meth (pv 4) TB.cl mF.m mF.G hr4 mF.b .nil pass0 (pa_cons pe_int pa_nil)) (pa_cons (pe_prop (pe_meth0 (pv 4) TB.cl mN.m mN.G hr7 mN.b .nil pass0) TB.cl pT.hp pT.G hr2 pT.b .nil pass0 rfl) (pa_cons (pe_meth (pv 4) TB.cl mG.m mG.G hr5 mG.b .nil pass0 (pa_cons pe_str pa_nil)) pa_nil))))))))
      (pss_one (ps_ret (pe_cmpR (op_eqD hr.units) (pv 5) (pe_lst (pa_cons pe_int (pa_cons pe_int (pa_cons pe_int (pa_cons pe_non (pa_cons (pe_tup (pa_cons (pe_tup (pa_cons pe_int (pa_cons pe_int pa_nil))) pa_nil)) (pa_cons pe_int pa_nil))))))) (nomark _))))))), ?_⟩
    have lb : ∀ n : Nat, n ≤ 63 → ∀ m : Int, m = (if (if (n : Int) < 8 then (n : Int) else 8) > 1 then (if (n : Int) < 8 then (n : Int) else 8) else 1) → 1 ≤ m ∧ m ≤ 8 := fun n hn m hm => by
      rw [hm]
      by_cases h8 : (n : Int) < 8
      · rw [if_pos h8]
        by_cases h1 : (n : Int) > 1
        · rw [if_pos h1]
          omega
        · rw [if_neg h1]
          omega
      · rw [if_neg h8]
        decide
    refine ⟨_, rfl, a, _, rfl, .inl ha, _, _, rfl, _, _, rfl, ?_⟩
    have ln : (ns.map V.int).length = ns.length := List.length_map _
    rw [ln]
    have lb := lb _ hl _ rfl
    generalize (if (if (ns.length : Int) < 8 then (ns.length : Int) else 8) > 1 then (if (ns.length : Int) < 8 then (ns.length : Int) else 8) else 1) = m at lb ⊢
    refine ⟨m, rfl, by omega, by omega, for_range (lo := 0) (n := m.toNat) (fun i σ H' => (∃ v1 v2 v3 : Option V, σ = [some (.ref a), v1, v2, v3, none, none]) ∧ Ext T H H') ⟨⟨none, none, none, rfl⟩, Ext.refl tabs⟩ ?_ ?_⟩
    · rintro i σ H1 hi ⟨⟨v1, v2, v3, rfl⟩, s1⟩
      refine ⟨_, rfl, _, rfl, a, ns, _, rfl, sql_ext s1.ext ha, by omega, hl, fun d l q nd l0 q0 => ?_⟩
      have Z0 : Dz (upd H1 d (.lst [.int l, .int q, .int 0])) d := ⟨l, q, 0, upd_same, l0, q0, by decide⟩
      have s2 : Ext T H (upd H1 d (.lst [.int l, .int q, .int 0])) := s1.new nd
      have nd0 : H d = none := s1.non d nd
      generalize upd H1 d (.lst [.int l, .int q, .int 0]) = H2 at Z0 s2 ⊢
      refine ⟨3, rfl, by decide, by decide, for_range (lo := 0) (n := 3) (fun j σ H' => (∃ v1 v3 : Option V, σ = [some (.ref a), v1, some (.ref d), v3, none, none]) ∧ Dz H' d ∧ Stl T d H2 H') ⟨⟨_, _, rfl⟩, Z0, Stl.refl d s2.tab⟩ ?_ ?_⟩
      · rintro j σ H3 hj ⟨⟨w1, w3, rfl⟩, Z3, S3⟩
        exact ⟨_, rfl, d, rfl, Z3, S3.tab, fun H4 Z4 S4 => ⟨_, rfl, iteF ⟨⟨_, _, rfl⟩, Z4, S3.trans S4⟩⟩⟩
      · rintro σ H3 ⟨⟨w1, w3, rfl⟩, Z3, S3⟩
        exact ⟨⟨_, _, _, rfl⟩, Stl.toE s2 S3 nd0⟩
    · rintro σ H1 ⟨⟨v1, v2, v3, rfl⟩, s1⟩
      have tab1 := s1.tab
      clear ha lb s1 hl tabs
      refine ⟨(by show 2 ≤ sizeLine; decide), fun u1 n1 => ⟨(by show 2 ≤ sizeLine; decide), fun u2 n2 => ⟨(by show 2 ≤ sizeLine; decide), fun u3 n3 => ⟨(by show 2 ≤ sizeLine; decide), fun u4 n4 => ⟨(by show 4 ≤ sizeLine; decide), fun a1 n5 => ?_⟩⟩⟩⟩⟩
      generalize hX : upd _ a1 (.tup _) = H2
      have g1 : H2 u1 = some (.tup (nts [0, 0])) := by
        rw [← hX]
        exact keep_new (keep_new (keep_new (keep_new upd_same n2) n3) n4) n5
      have g2 : H2 u2 = some (.tup (nts [2, 1])) := by
        rw [← hX]
        exact keep_new (keep_new (keep_new upd_same n3) n4) n5
      have g3 : H2 u3 = some (.tup (nts [3, 1])) := by
        rw [← hX]
        exact keep_new (keep_new upd_same n4) n5
      have g4 : H2 u4 = some (.tup (nts [3, 3])) := by
        rw [← hX]
        exact keep_new upd_same n5
      have g5 : H2 a1 = some (.tup [.ref u1, .ref u2, .ref u3, .ref u4]) := by
        rw [← hX]
        exact upd_same
      have s12 : Same H1 H2 := by
        rw [← hX]
        exact Same.new (Same.new (Same.new (Same.new (Same.new (Same.refl H1) n1) n2) n3) n4) n5
      clear hX n1 n2 n3 n4 n5
      intro q dx nq ndx nex
      have s3 : Same H2 (upd (upd H2 dx (.own q)) q (.ins C dx [])) := Same.new (Same.new (Same.refl H2) ndx) (by rw [upd_ne (Ne.symm nex)]; exact nq)
      have T2 : Tups K H2 [.ref u1, .ref u2, .ref u3, .ref u4] tb4 := Tups.cons (SqT.of g1) (Tups.cons (SqT.of g2) (Tups.cons (SqT.of g3) (Tups.cons (SqT.of g4) Tups.nil)))
      refine ⟨q, dx, a1, "ab", [.ref u1, .ref u2, .ref u3, .ref u4], tb4, 2, rfl, upd_same, rb4, SqT.of (s3 _ _ g5), T2.same s3, fun _ H3 hq kp => ⟨rfl, ?_⟩, fun y q e => by rw [am4] at e; cases e⟩
      obtain ⟨Bf, s23⟩ := box_made (x := "ab") (t := tb4) nq ndx nex hq kp (SqT.of g5) T2
      have E3 : Ext T H1 H3 := Ext.of tab1 (s12.trans s23)
      clear s3 hq kp nq ndx nex g1 g2 g3 g4 g5 T2 s12 s23 tab1
      obtain ⟨la, lb, lba, l0⟩ := len_abc
      obtain ⟨dx1, b1, w1, i1, i2, i3⟩ := id Bf
      refine ⟨_, rfl, q, dx1, _, rfl, i1, flb_no (by decide +kernel) (by decide +kernel), q, "ab", "a", tb4, 2, 2, rfl, Bf, rb4, word_a, la, E3.tab, lag_a, by decide, fun H4 e4 => ?_⟩
      have B4 := Bf.ext e4.ext
      obtain ⟨dx2, b2, w2, i1, i2, i3⟩ := id B4
      refine ⟨_, rfl, q, dx2, _, rfl, i1, flb_no (by decide +kernel) (by decide +kernel), q, "ab", "b", tb4, 2, 1, rfl, B4, rb4, word_b, lb, e4.tab, lag_b, by decide, fun H5 e5 => ?_⟩
      have B5 := B4.ext e5.ext
      obtain ⟨dx3, b3, w3, i1, i2, i3⟩ := id B5
      refine ⟨_, rfl, q, dx3, _, rfl, i1, flb_no (by decide +kernel) (by decide +kernel), q, "ab", "ba", tb4, 2, 1, rfl, B5, rb4, word_ba, lba, e5.tab, lag_ba, by decide, fun H6 e6 => ?_⟩
      have B6 := B5.ext e6.ext
      obtain ⟨dx4, b4, w4, i1, i2, i3⟩ := id B6
      refine ⟨_, rfl, q, dx4, _, rfl, i1, flb_no (by decide +kernel) (by decide +kernel), q, "ab", tb4, 2, 2, rfl, B6, rb4, by decide, fun H7 s7 => ?_⟩
      rw [told_2]
      have B7 := B6.same s7
      obtain ⟨dx5, b5, w5, i1, i2, i3⟩ := id B7
      refine ⟨_, rfl, q, dx5, _, rfl, i1, flb_no (by decide +kernel) (by decide +kernel), q, "ab", tb4, 2, rfl, B7, rb4, fun c H8 nc Bc s8 => ?_⟩
      rw [lean_4] at Bc
      obtain ⟨dc, bc, wc, c1, c2, c3⟩ := id Bc
      refine ⟨c, dc, _, rfl, c1, c, "ab", [[0, 0]], rfl, Bc, fun p8 u8 g1 g2 => ?_⟩
      have B8 := B7.same s8
      obtain ⟨dx6, b6, w6, i1, i2, i3⟩ := id B8
      refine ⟨_, rfl, q, dx6, _, rfl, i1, flb_no (by decide +kernel) (by decide +kernel), q, "ab", "", tb4, 2, 0, rfl, B8, rb4, word_no, l0, (Ext.of e6.tab (s7.trans s8)).tab, lag_no, by decide, fun H9 e9 => ?_⟩
      have s89 : LamX.ExtN H8 H9 := e9.ext
      have p9 : SqT K H9 p8 u8 := sqt_ext s89 g1
      have t9 : Tups K H9 u8 [[0, 0]] := g2.ext s89
      refine ⟨(by show 6 ≤ sizeLine; decide), fun L nL => ?_⟩
      have k1 : (upd H9 L (.lst [.int 2, .int 1, .int 1, .non, .ref p8, .int 0])) L = some (.lst [.int 2, .int 1, .int 1, .non, .ref p8, .int 0]) := upd_same
      have sL : Same H9 (upd H9 L (.lst [.int 2, .int 1, .int 1, .non, .ref p8, .int 0])) := Same.new (Same.refl H9) nL
      have k1 : (upd H9 L (.lst [.int 2, .int 1, .int 1, .non, .ref p8, .int 0])) L = some (.lst [.int 2, .int 1, .int 1, .non, .ref p8, .int 0]) := upd_same
      refine ⟨_, rfl, (by show 2 ≤ sizeLine; decide), fun z1 n1 => ⟨(by show 1 ≤ sizeLine; decide), fun z2 n2 => ⟨(by show 6 ≤ sizeLine; decide), fun L2 nL2 => ?_⟩⟩⟩
      refine ⟨dEnd, dEnd, .lst (SqL.of (keep_new (keep_new (keep_new k1 n1) n2) nL2)) (.cons (.int _) (.cons (.int _) (.cons (.int _) (.cons .non (.cons (.tup (sqt_same (Same.new (Same.new (Same.new sL n1) n2) nL2) p9) (dp_rows _ _ (t9.same (Same.new (Same.new (Same.new sL n1) n2) nL2)))) (.cons (.int _) .nil)))))), .lst (SqL.of upd_same) (.cons (.int _) (.cons (.int _) (.cons (.int _) (.cons .non (.cons (.tup (SqT.of (keep_new upd_same nL2)) (.cons (.tup (SqT.of (keep_new (keep_new upd_same n2) nL2)) (.cons (.int _) (.cons (.int _) .nil))) .nil)) (.cons (.int _) .nil)))))), end_shaped, end_shaped, ?_⟩
      rw [end_eqv]
      exact k _
end
end M3

set_option Elab.async false
set_option linter.all false
set_option maxRecDepth 100000
set_option maxHeartbeats 8000000
/-! # What the top has made, put together -/
namespace M3
open PySem L2
/-- a def of the top: where it stands, what it is -/
structure DefAt (K : PySem.W.Frag) (x : Str) (st : Stmt) : Prop where
  ex : ∃ (f : Addr) (fd : FuncData), Fun K x x st f fd ∧ PySem.W.nsIn K mainGlobals x = some (some (.ref f))
theorem def_mk {K : PySem.W.Frag} {x : Str} {st : Stmt} {f : Addr} {oc : Value} {od an : Option Addr} {osl : Array (Option Value)} {kV doc pm cdv ct : Value} (a : PySem.W.nsIn K mainGlobals x = some (some (.ref f)))
    (l : K.lookup f = some ⟨oc, od, .func (PySem.W.fnOf x x (defArgs st) (defBody st) (defScope st) .none kV doc pm an cdv ct), osl⟩) (c : PySem.W.codeIn K cdv x = true) (k : PySem.W.keepIn K (.ref f) = true) : DefAt K x st := ⟨f, _, fun_mk l c k, a⟩
/-- a method -/
structure MetAt (K : PySem.W.Frag) (C : Addr) (x qual : Str) (st : Stmt) : Prop where
  ex : ∃ (f : Addr) (fd : FuncData), Fun K x qual st f fd ∧ Meth K C x f
theorem met_mk {K : PySem.W.Frag} {C : Addr} {x qual : Str} {st : Stmt} {f : Addr} {oc : Value} {od an : Option Addr} {osl : Array (Option Value)} {kV doc pm cdv ct : Value} (a : PySem.W.findIn K (.ref C) x = some (some (.ref f))) (fn : PySem.W.isFn K (.ref f) = true)
    (l : K.lookup f = some ⟨oc, od, .func (PySem.W.fnOf x qual (defArgs st) (defBody st) (defScope st) .none kV doc pm an cdv ct), osl⟩) (c : PySem.W.codeIn K cdv qual = true) (k : PySem.W.keepIn K (.ref f) = true) : MetAt K C x qual st := ⟨f, _, fun_mk l c k, ⟨a, fn, k⟩⟩
/-- a property -/
structure PropAt (K : PySem.W.Frag) (C : Addr) (x qual : Str) (st : Stmt) : Prop where
  ex : ∃ (p f : Addr) (fd : FuncData), Fun K x qual st f fd ∧ PropOf K C x p f
theorem prop_mk {K : PySem.W.Frag} {C : Addr} {x qual : Str} {st : Stmt} {p f : Addr} {rest : List Value} {oc : Value} {od an : Option Addr} {osl : Array (Option Value)} {kV doc pm cdv ct : Value} (a : PySem.W.findIn K (.ref C) x = some (some (.ref p)))
    (g : PySem.W.specialIn K (.ref p) "__get__" = some (some (.builtin "property.__get__"))) (t : PySem.W.takesIn K (.ref p) = some true) (r : PySem.W.recIn K p "property" = some (.ref f :: rest))
    (l : K.lookup f = some ⟨oc, od, .func (PySem.W.fnOf x qual (defArgs st) (defBody st) (defScope st) .none kV doc pm an cdv ct), osl⟩) (c : PySem.W.codeIn K cdv qual = true) (k : PySem.W.keepIn K (.ref f) = true) : PropAt K C x qual st := ⟨p, f, _, fun_mk l c k, ⟨a, g, t, ⟨rest, r⟩⟩⟩
/-- __init__, its last parameter with a default: an empty tuple -/
structure InitAt (K : PySem.W.Frag) (C : Addr) : Prop where
  ex : ∃ (f b0 : Addr) (fd : FuncData), C8.Fun K "__init__" "Machine.__init__" sInit f fd ∧ Mk K C f ∧ Binds K fd nInit [] ∧ Binds K fd nInit [.ref b0] ∧ ∀ H : Hp, SqT K H b0 []
theorem init_at {K : PySem.W.Frag} {C f T b0 : Addr} {oc tc : Value} {od an td bd : Option Addr} {osl tsl bsl : Array (Option Value)} {kV doc pm cdv ct : Value} {n n' : Nat}
    (i : PySem.W.findIn K (.ref C) "__init__" = some (some (.ref f))) (mk : PySem.W.makesIn K C = true) (fn : PySem.W.isFn K (.ref f) = true) (kp : PySem.W.keepIn K (.ref C) = true)
    (l : K.lookup f = some ⟨oc, od, .func (PySem.W.fnOf "__init__" "Machine.__init__" (C8.fnArgs sInit) (C8.fnBody sInit) (C8.fnScope sInit) (.ref T) kV doc pm an cdv ct), osl⟩) (c : PySem.W.codeIn K cdv "Machine.__init__" = true)
    (lT : K.lookup T = some ⟨tc, td, .seq #[.ref b0] n, tsl⟩) (lB : K.lookup b0 = some ⟨.type "tuple", bd, .seq #[] n', bsl⟩) : InitAt K C := by
  refine ⟨f, b0, _, ⟨_, _, _, _, _, _, _, _, _, _, rfl, l, c⟩, ⟨mk, i, fn, kp⟩, fun s us X hl => ?_, fun s us X hl => ?_, fun H => .inr ⟨_, #[], n', lB, rfl, rfl, Nat.zero_le _, .nil⟩⟩
  · rw [List.append_nil] at hl ⊢
    have hl : us.length = 4 := hl
    match us, hl with
    | [_, _, _, _], _ => exact BindsTo.of_looks fun M => looks_items (its := #[.ref b0]) X lT rfl (.of_pure rfl)
  · rw [List.length_append] at hl
    have hl : us.length + 1 = 4 := hl
    have hl : us.length = 3 := by omega
    match us, hl with
    | [_, _, _], _ => exact BindsTo.of_looks fun M => looks_items (its := #[.ref b0]) X lT rfl (.of_pure rfl)
theorem vals_app {vs zs : List V} {us ws : List Value} (h : Vals vs us) (k : Vals zs ws) : Vals (vs ++ zs) (us ++ ws) := h.append k
/-- the package's errors over TurnError -/
def errN (K : PySem.W.Frag) (c : Addr) : Bool := PySem.W.keepIn K (.ref c) && (decide (PySem.W.subIn K (.ref c) (.type "BaseException") = some true) && decide (PySem.W.typeIn K (.ref c) = some (.type "type")))
def errB (K : PySem.W.Frag) (c : Addr) : Bool := PySem.W.excIn K c [.type "ValueError", .type "Exception", .type "BaseException", .type "object"] "ValueError.__new__" && errN K c
theorem errR {K : PySem.W.Frag} {mg : Str → Option Value} {nm : Str} {c : Addr} (h : errB K c = true) (g : mg nm = some (.ref c)) : TxR K mg nm c := by
  obtain ⟨h1, h⟩ := Bool.and_eq_true_iff.mp h
  obtain ⟨h2, h⟩ := Bool.and_eq_true_iff.mp h
  obtain ⟨h3, h4⟩ := Bool.and_eq_true_iff.mp h
  exact ⟨h1, g, h2, of_decide_eq_true h3, of_decide_eq_true h4⟩
theorem errE {K : PySem.W.Frag} {mg : Str → Option Value} {c : Addr} (h : errB K c = true) (g : mg "InvalidMachine" = some (.ref c)) : TxE K mg c := by
  obtain ⟨h1, h2, h3, h4, h5⟩ := errR h g
  exact ⟨h1, h2, h3, h4, h5⟩
theorem errN_ok {P : Program} {K : PySem.W.Frag} {mg : Str → Option Value} {c i : Addr} (h : errN K c = true) (t : PySem.NvE.InitTxt P K c i "RuntimeError" "RuntimeError.__init__" "RuntimeError" "RuntimeError.__new__" "value" "InvalidNumber.__init__") (g : mg "InvalidNumber" = some (.ref c)) : TxN P K mg c := by
  obtain ⟨h2, h⟩ := Bool.and_eq_true_iff.mp h
  obtain ⟨h3, h4⟩ := Bool.and_eq_true_iff.mp h
  exact ⟨⟨_, _, _, _, _, _, t⟩, g, h2, of_decide_eq_true h3, of_decide_eq_true h4⟩
/-- the class of machines -/
def clsL (K : PySem.W.Frag) (C : Addr) : List Bool := [PySem.W.plainGet K C Str.empty, PySem.W.hasDictIn K C, PySem.W.plainOver K C, decide (PySem.W.findIn K (.ref C) "__setattr__" = some (some (.builtin "object.__setattr__"))),
  decide (PySem.W.findIn K (.ref C) "_letters" = some none), decide (PySem.W.findIn K (.ref C) "_table" = some none), decide (PySem.W.findIn K (.ref C) "_ends" = some none),
  decide (PySem.W.kitOne K (.ref C) (.type "str") = some false), decide (PySem.W.findIn K (.ref C) "__class__" = some (some (.builtin "object.__class__"))), decide (PySem.W.specialIn K (.builtin "object.__class__") "__get__" = some (some (.builtin "getset_descriptor.__get__"))),
  decide (PySem.W.takesIn K (.builtin "object.__class__") = some true), decide (PySem.W.mroIn K C (.type "object") = some true), decide (PySem.W.kitOne K (.ref C) (.ref C) = some true)]
def clsB (K : PySem.W.Frag) (C : Addr) : Bool := (clsL K C).all id
theorem clsB_ok {K : PySem.W.Frag} {C : Addr} (h : clsB K C = true) : Cls K C ∧ NoAttr K C "_letters" ∧ NoAttr K C "_table" ∧ NoAttr K C "_ends" ∧ TxO K C := by
  have h := List.all_eq_true.mp h
  have q : ∀ (i : Nat) (b : Bool), (clsL K C)[i]? = some b → b = true := fun i b e => h b (List.mem_of_getElem? e)
  exact ⟨⟨q 0 _ rfl, q 1 _ rfl, q 2 _ rfl, of_decide_eq_true (q 3 _ rfl)⟩, (of_decide_eq_true (q 4 _ rfl) : PySem.W.findIn K (.ref C) "_letters" = some none), (of_decide_eq_true (q 5 _ rfl) : PySem.W.findIn K (.ref C) "_table" = some none), (of_decide_eq_true (q 6 _ rfl) : PySem.W.findIn K (.ref C) "_ends" = some none),
    ⟨of_decide_eq_true (q 7 _ rfl), of_decide_eq_true (q 8 _ rfl), of_decide_eq_true (q 9 _ rfl), of_decide_eq_true (q 10 _ rfl), of_decide_eq_true (q 11 _ rfl), of_decide_eq_true (q 12 _ rfl)⟩⟩
/-- TooMany, which keeps the limit -/
def errA (K : PySem.W.Frag) (c : Addr) : Bool := decide (PySem.W.exmOne K (.ref c) (.ref c) = some true) && errN K c
theorem errA_ok {P : Program} {K : PySem.W.Frag} {mg : Str → Option Value} {c i : Addr} (h : errA K c = true) (t : PySem.NvE.InitTxt P K c i "OverflowError" "OverflowError.__init__" "OverflowError" "OverflowError.__new__" "limit" "TooMany.__init__") (g : mg "TooMany" = some (.ref c)) : TxA P K mg "TooMany" "limit" c := by
  obtain ⟨h1, h⟩ := Bool.and_eq_true_iff.mp h
  obtain ⟨h2, h⟩ := Bool.and_eq_true_iff.mp h
  obtain ⟨h3, h4⟩ := Bool.and_eq_true_iff.mp h
  exact ⟨⟨_, _, _, _, _, _, t⟩, g, h2, of_decide_eq_true h3, of_decide_eq_true h4, of_decide_eq_true h1⟩
open PySem.Spec PyProof.Rows in
/-- a law's end, its promise over what the top has left -/
theorem walk_ofK {l : PySem.W.OpenLaw} {n k : Nat} {q : Program} {loose : List Str} {XP : (Str → Option Value) → Heap → Prop} {YP : World → Heap → Prop} {d : PySem.DefRec} {K : Params → PySem.W.Frag} {sp : PySem.W.Frag → Sp} {x : Str}
    (hn : l.most = some n) (hn2 : n ≤ sizeLine) (hdf : d.params.defaults = []) (hr : Room k callerA) (hY : ∀ (w : World) (h : Heap), YP w h → (K w.params).In h)
    (F : ∀ (w : World) (mg : Str → Option Value) (fa : Addr) (h : Heap), (K w.params).In h → h.Ns mainGlobals mg → mg d.name = some (.ref fa) →
      ∃ fd : FuncData, (∀ (s : Shared) (u : Value), BindsTo s fd ⟨[u], []⟩ [(x, u)]) ∧ ∀ base : Heap, (K w.params).In base → base.Ns mainGlobals mg → FnOk l.prog w (K w.params) mg base CX0 k fa fd [x] (sp (K w.params)))
    (hsp : ∀ (K : PySem.W.Frag) (H : Hp) (a : Addr) (ns : List Int), ns.length ≤ n → Only H → SqL K H a (ns.map V.int) → sp K [.ref a] H (fun v _ => v = .bl true) fun _ _ _ => False) :
    PySem.W.WalkO q loose XP YP l.row.toRowW d [] (fun f vs => PySem.call f vs) :=
  walk_of (CX := fun _ => CX0) (sp := fun w => sp (K w.params)) hn hn2 hdf hr hY F (fun w H a ns h1 h2 h3 => hsp (K w.params) H a ns h1 h2 h3) (fun _ _ _ _ _ h => h)

end M3

set_option Elab.async false
set_option linter.all false
set_option maxRecDepth 100000
set_option maxHeartbeats 8000000
/-! # What the top has made of boxes -/
namespace M3
open PySem L2
structure BInitAt (K : PySem.W.Frag) (C : Addr) : Prop where
  ex : ∃ (f : Addr) (fd : FuncData), Fun K "__init__" "Box.__init__" sBoxInit f fd ∧ Mk K C f
theorem binit_at {K : PySem.W.Frag} {C f : Addr} {oc : Value} {od an : Option Addr} {osl : Array (Option Value)} {kV doc pm cdv ct : Value}
    (i : PySem.W.findIn K (.ref C) "__init__" = some (some (.ref f))) (mk : PySem.W.makesIn K C = true) (fn : PySem.W.isFn K (.ref f) = true) (kp : PySem.W.keepIn K (.ref C) = true)
    (l : K.lookup f = some ⟨oc, od, .func (PySem.W.fnOf "__init__" "Box.__init__" (defArgs sBoxInit) (defBody sBoxInit) (defScope sBoxInit) .none kV doc pm an cdv ct), osl⟩) (c : PySem.W.codeIn K cdv "Box.__init__" = true) (k : PySem.W.keepIn K (.ref f) = true) : BInitAt K C :=
  ⟨f, _, fun_mk l c k, ⟨mk, i, fn, kp⟩⟩
/-- the class of boxes -/
def clsX (K : PySem.W.Frag) (C : Addr) : List Bool := [PySem.W.plainGet K C Str.empty, PySem.W.hasDictIn K C, PySem.W.plainOver K C, decide (PySem.W.findIn K (.ref C) "__setattr__" = some (some (.builtin "object.__setattr__"))),
  decide (PySem.W.findIn K (.ref C) "_letters" = some none), decide (PySem.W.findIn K (.ref C) "_table" = some none)]
def clsXB (K : PySem.W.Frag) (C : Addr) : Bool := (clsX K C).all id
theorem clsXB_ok {K : PySem.W.Frag} {C : Addr} (h : clsXB K C = true) : Cls K C ∧ NoAttr K C "_letters" ∧ NoAttr K C "_table" := by
  have h := List.all_eq_true.mp h
  have q : ∀ (i : Nat) (b : Bool), (clsX K C)[i]? = some b → b = true := fun i b e => h b (List.mem_of_getElem? e)
  exact ⟨⟨q 0 _ rfl, q 1 _ rfl, q 2 _ rfl, of_decide_eq_true (q 3 _ rfl)⟩, (of_decide_eq_true (q 4 _ rfl) : PySem.W.findIn K (.ref C) "_letters" = some none), (of_decide_eq_true (q 5 _ rfl) : PySem.W.findIn K (.ref C) "_table" = some none)⟩
/-- GoesRound, which keeps the turn -/
def errG (K : PySem.W.Frag) (c : Addr) : Bool := xfB K c && (decide (PySem.W.findIn K (.ref c) "turn" = some none) && errA K c)
theorem errG_ok {P : Program} {K : PySem.W.Frag} {mg : Str → Option Value} {c i : Addr} (h : errG K c = true) (t : PySem.NvE.InitTxt P K c i "LookupError" "LookupError.__init__" "LookupError" "LookupError.__new__" "turn" "GoesRound.__init__") (g : mg "GoesRound" = some (.ref c)) : TxG P K mg c := by
  obtain ⟨h1, h⟩ := Bool.and_eq_true_iff.mp h
  obtain ⟨h2, h⟩ := Bool.and_eq_true_iff.mp h
  obtain ⟨h3, h⟩ := Bool.and_eq_true_iff.mp h
  obtain ⟨h4, h⟩ := Bool.and_eq_true_iff.mp h
  obtain ⟨h5, h6⟩ := Bool.and_eq_true_iff.mp h
  exact ⟨⟨⟨_, _, _, _, _, _, t⟩, g, h4, of_decide_eq_true h5, of_decide_eq_true h6, of_decide_eq_true h3⟩, xfB_ok h1, of_decide_eq_true h2⟩
/-- a box called -/
structure CallAt (K : PySem.W.Frag) (C : Addr) : Prop where
  ex : ∃ (f : Addr) (fd : FuncData), Fun K "__call__" "Box.__call__" sBCall f fd ∧ StX.CallO K C f
theorem call_mk {K : PySem.W.Frag} {C f : Addr} {oc : Value} {od an : Option Addr} {osl : Array (Option Value)} {kV doc pm cdv ct : Value} (a : PySem.W.findIn K (.ref C) "__call__" = some (some (.ref f))) (fn : PySem.W.isFn K (.ref f) = true) (fi : PySem.W.fnIn K f = true)
    (l : K.lookup f = some ⟨oc, od, .func (PySem.W.fnOf "__call__" "Box.__call__" (defArgs sBCall) (defBody sBCall) (defScope sBCall) .none kV doc pm an cdv ct), osl⟩) (c : PySem.W.codeIn K cdv "Box.__call__" = true) (k : PySem.W.keepIn K (.ref f) = true) : CallAt K C := ⟨f, _, fun_mk l c k, ⟨a, fn, fi⟩⟩
/-- the class of boxes, seen from outside -/
def clsO (K : PySem.W.Frag) (C : Addr) : List Bool := [decide (PySem.W.findIn K (.ref C) "__class__" = some (some (.builtin "object.__class__"))), decide (PySem.W.specialIn K (.builtin "object.__class__") "__get__" = some (some (.builtin "getset_descriptor.__get__"))), decide (PySem.W.takesIn K (.builtin "object.__class__") = some true), decide (PySem.W.mroIn K C (.type "object") = some true),
  decide (PySem.W.kitOne K (.ref C) (.ref C) = some true), decide (PySem.W.kitOne K (.type "int") (.ref C) = some false), decide (PySem.W.kitOne K (.type "str") (.ref C) = some false), decide (PySem.W.kitOne K (.type "tuple") (.ref C) = some false),
  PySem.W.notFirst K C (.type "int"), PySem.W.notFirst K C (.type "str"), PySem.W.notFirst K C (.type "tuple"), decide (PySem.W.findIn K (.ref C) "__ne__" = some (some (.builtin "object.__ne__")))]
def clsOB (K : PySem.W.Frag) (C : Addr) : Bool := (clsO K C).all id
theorem clsOB_ok {K : PySem.W.Frag} {C : Addr} (h : clsOB K C = true) : TxOB K C := by
  have h := List.all_eq_true.mp h
  have q : ∀ (i : Nat) (b : Bool), (clsO K C)[i]? = some b → b = true := fun i b e => h b (List.mem_of_getElem? e)
  exact ⟨of_decide_eq_true (q 0 _ rfl), of_decide_eq_true (q 1 _ rfl), of_decide_eq_true (q 2 _ rfl), of_decide_eq_true (q 3 _ rfl), of_decide_eq_true (q 4 _ rfl), of_decide_eq_true (q 5 _ rfl), of_decide_eq_true (q 6 _ rfl), of_decide_eq_true (q 7 _ rfl), q 8 _ rfl, q 9 _ rfl, q 10 _ rfl, of_decide_eq_true (q 11 _ rfl)⟩
end M3

set_option Elab.async false
set_option linter.all false
set_option maxRecDepth 100000
set_option maxHeartbeats 8000000
/-! # What the top has made: a def whose code object is known; a law's end with tables of code objects -/
namespace M3
open PySem L2 NdefX
structure DefAtC (K : PySem.W.Frag) (x : Str) (st : Stmt) (c : Addr) : Prop where
  ex : ∃ (f : Addr) (fd : FuncData), Fun K x x st f fd ∧ PySem.W.nsIn K mainGlobals x = some (some (.ref f)) ∧ fd.code = .ref c
theorem defc_mk {K : PySem.W.Frag} {x : Str} {st : Stmt} {f c : Addr} {oc : Value} {od an : Option Addr} {osl : Array (Option Value)} {kV doc pm ct : Value} (a : PySem.W.nsIn K mainGlobals x = some (some (.ref f)))
    (l : K.lookup f = some ⟨oc, od, .func (PySem.W.fnOf x x (defArgs st) (defBody st) (defScope st) .none kV doc pm an (.ref c) ct), osl⟩) (c' : PySem.W.codeIn K (.ref c) x = true) (k : PySem.W.keepIn K (.ref f) = true) : DefAtC K x st c := ⟨f, _, fun_mk l c' k, a, rfl⟩
open PySem.Spec PyProof.Rows in
/-- a law's end over one table of code objects: c the code object, P its table -/
theorem lawAt_of {l : PySem.W.OpenLaw} {w : World} {K : PySem.W.Frag} {mg : Str → Option Value} {fa c P : Addr} {h : Heap} {nm : Nat → Nat → Str} {sp : Sp} {k n : Nat} {x : Str}
    (A : ∃ fd : FuncData, (∀ (s : Shared) (v : Value), BindsTo s fd ⟨[v], []⟩ [(x, v)]) ∧ ∀ base : Heap, K.In base → base.Ns mainGlobals mg → LamX.TabB base mg c P → FnOk l.prog w K mg base CX0 k fa fd [x] sp)
    (hsp : ∀ (H : Hp) (a : Addr) (ns : List Int), ns.length ≤ n → TabsN [(P, nm)] H → SqL K H a (ns.map V.int) → sp [.ref a] H (fun v _ => v = .bl true) fun _ _ _ => False)
    (hT : h.get? P = some { cls := .none, data := .fields #[] }) (nT : K.lookup P = none) (hC : PySem.W.CodeHd h c P) : LamX.LawAtS l w K CX0 k n x mg fa h := by
  obtain ⟨fd, hb, hF⟩ := A
  have one : ∀ p ∈ [(c, P)], p = (c, P) := fun p hp => List.mem_singleton.mp hp
  refine ⟨fd, [(c, P)], sp, fun p hp => ?_, fun p hp => ?_, fun p hp => ?_, hb, fun H a ns hl _ hH hS => hsp H a ns hl (fun p hp => ?_) hS, fun base k1 k2 tb => hF base k1 k2 (tb (c, P) (List.mem_singleton.mpr rfl))⟩
  · rw [one p hp]
    exact hT
  · rw [one p hp]
    exact nT
  · rw [one p hp]
    exact hC
  · rw [List.mem_singleton.mp hp]
    exact TabN.nil (hH (c, P) (List.mem_singleton.mpr rfl))
open PySem.Spec PyProof.Rows in
theorem walk_ofKT {l : PySem.W.OpenLaw} {n k : Nat} {q : Program} {loose : List Str} {XP : (Str → Option Value) → Heap → Prop} {YP : World → Heap → Prop} {d : PySem.DefRec} {K : Params → PySem.W.Frag} {x : Str}
    (hn : l.most = some n) (hn2 : n ≤ sizeLine) (hdf : d.params.defaults = []) (hr : Room k callerA) (hY : ∀ (w : World) (h : Heap), YP w h → (K w.params).In h)
    (F : ∀ (w : World) (mg : Str → Option Value) (fa : Addr) (h : Heap), YP w h → (K w.params).In h → h.Ns mainGlobals mg → mg d.name = some (.ref fa) → LamX.LawAtS l w (K w.params) CX0 k n x mg fa h) :
    PySem.W.WalkO q loose XP YP l.row.toRowW d [] (fun f vs => PySem.call f vs) :=
  LamX.walk_ofTs (CX := fun _ => CX0) hn hn2 hdf hr hY F (fun _ _ _ _ _ h => h)
end M3

set_option Elab.async false
set_option linter.all false
set_option maxRecDepth 100000
set_option maxHeartbeats 8000000
/-! # What the top has made, put together (k20) -/
namespace M3
open PySem L2
theorem all_mk {P : Program} {w : World} {K : PySem.W.Frag} {h : Heap} {mg : Str → Option Value} {fa : Addr} (X : K.In h) (G : h.Ns mainGlobals mg) (hfa : mg "law" = some (.ref fa))
    {tk_a tk_c tk_l tk_p tk_s tk_t : Tok}
    {cAct Pt : Addr}
    {cBx cB cG iG cW cO cN iN cM cMc : Addr}
    (dLaw : DefAt K "law" sLaw)
    (dDice : DefAt K "_law_dice" sDice)
    (dRight : DefAt K "_law_right" sRight)
    (dRoll : DefAt K "_law_roll" sRoll)
    (dLetters : DefAt K "_law_letters" sLetters)
    (dMixed : DefAt K "_law_mixed" sMixed)
    (dOneOf : DefAt K "_law_one_of" sOneOf)
    (dLawBox : DefAt K "_law_box" sLawBox)
    (dTable : DefAt K "_law_table" sTable)
    (dAction : DefAt K "_law_action" sAction)
    (dFirstT : DefAt K "_law_first_turn" sFirstT)
    (dLawActs : DefAt K "_law_actions" sLawActs)
    (dGoes : DefAt K "_law_goes_round" sGoes)
    (dMadeBox : DefAt K "_law_made_box" sMadeBox)
    (dIsLetters : DefAt K "is_letters" sIsLetters)
    (dBetween : DefAt K "is_between" sBetween)
    (dIsWord : DefAt K "is_word" sIsWord)
    (dHasOnly : DefAt K "has_only" sHasOnly)
    (dIsTable : DefAt K "is_table" sIsTable)
    (dIsLine : DefAt K "is_line" sIsLine)
    (dActWords : DefAt K "action_words" sActWords)
    (dUnmoved : DefAt K "unmoved" sUnmoved)
    (dLedOn : DefAt K "led_on" sLedOn)
    (dAmong : DefAt K "turn_among" sAmong)
    (dTurned : DefAt K "turned_state" sTurned)
    (dComes : DefAt K "comes_back" sComes)
    (dWord : DefAt K "_law_word" sWord)
    (dLawLed : DefAt K "_law_led" sLawLed)
    (dFirstsL : DefAt K "_law_firsts" sFirstsL)
    (dLagL : DefAt K "_law_lag" sLagL)
    (dLeanL : DefAt K "_law_lean" sLeanL)
    (dCheck : DefAt K "check_word" sCheck)
    (dOnlyC : DefAt K "check_only" sOnlyC)
    (dLed : DefAt K "led" sLed)
    (dActed : DefAtC K "acted" sActed cAct)
    (dWalked : DefAt K "walked" sWalked)
    (dRepeats : DefAt K "repeats" sRepeats)
    (dComposed : DefAt K "composed" sComposed)
    (dChkPlace : DefAt K "check_place" sChkPlace)
    (dFirstTo : DefAt K "first_word_to" sFirstTo)
    (dMarked : DefAt K "marked" sMarked)
    (dSpelled : DefAt K "spelled" sSpelled)
    (dMadeB : DefAt K "made_box" sMadeB)
    (dLeanT : DefAt K "lean_table" sLeanT)
    (dReached : DefAt K "reached" sReached)
    (dIsChoice : DefAt K "is_choice" sIsChoice)
    (dMadeM : DefAt K "made_machine" sMadeM)
    (vA : PySem.W.nsIn K mainGlobals "ALPHABET" = some (some (.str "abcdefghijklmnopqrstuvwxyz" tk_a)))
    (vL : PySem.W.nsIn K mainGlobals "MAX_LETTERS" = some (some (.int 2 tk_l)))
    (hBx : clsXB K cBx = true)
    (vP : PySem.W.nsIn K mainGlobals "MAX_PLACES" = some (some (.int 4 tk_p)))
    (vC : PySem.W.nsIn K mainGlobals "ALL_ACTIONS" = some (some (.int 256 tk_c)))
    (vT : PySem.W.nsIn K mainGlobals "MAX_TIMES" = some (some (.int 100000000000 tk_t)))
    (eB : errB K cB = true)
    (gB : PySem.W.nsIn K mainGlobals "InvalidBox" = some (some (.ref cB)))
    (eG : errG K cG = true)
    (tG : PySem.NvE.InitTxt P K cG iG "LookupError" "LookupError.__init__" "LookupError" "LookupError.__new__" "turn" "GoesRound.__init__")
    (gG : PySem.W.nsIn K mainGlobals "GoesRound" = some (some (.ref cG)))
    (mBI : BInitAt K cBx)
    (gBx : PySem.W.nsIn K mainGlobals "Box" = some (some (.ref cBx)))
    (eW : errB K cW = true)
    (gW : PySem.W.nsIn K mainGlobals "InvalidWord" = some (some (.ref cW)))
    (eO : errB K cO = true)
    (gO : PySem.W.nsIn K mainGlobals "InvalidOperation" = some (some (.ref cO)))
    (mCl : CallAt K cBx)
    (eN : errN K cN = true)
    (tN : PySem.NvE.InitTxt P K cN iN "RuntimeError" "RuntimeError.__init__" "RuntimeError" "RuntimeError.__new__" "value" "InvalidNumber.__init__")
    (gN : PySem.W.nsIn K mainGlobals "InvalidNumber" = some (some (.ref cN)))
    (eM : errB K cM = true)
    (gM : PySem.W.nsIn K mainGlobals "InvalidMachine" = some (some (.ref cM)))
    (hMc : clsB K cMc = true)
    (vS : PySem.W.nsIn K mainGlobals "MAX_STATES" = some (some (.int 4 tk_s)))
    (mMI : InitAt K cMc)
    (gMc : PySem.W.nsIn K mainGlobals "Machine" = some (some (.ref cMc)))
    (hOB : clsOB K cBx = true)
    (pBLet : PropAt K cBx "letters" "Box.letters" sBLet)
    (pBTab : PropAt K cBx "table" "Box.table" sBTab)
    (mBEq : MetAt K cBx "__eq__" "Box.__eq__" sBEq)
    (mBChk : MetAt K cBx "_check" "Box._check" sBChk)
    (mBLag : MetAt K cBx "lag" "Box.lag" sBLag)
    (mBFw : MetAt K cBx "first_word" "Box.first_word" sBFw)
    (mBoxLen : MetAt K cBx "__len__" "Box.__len__" sBoxLen)
    (mBLean : MetAt K cBx "lean" "Box.lean" sBLean)
    (mBMach : MetAt K cBx "machine" "Box.machine" sBMach)
    (pPropL : PropAt K cMc "letters" "Machine.letters" sPropL)
    (pPropT : PropAt K cMc "table" "Machine.table" sPropT)
    (pPropE : PropAt K cMc "ends" "Machine.ends" sPropE)
    (mLen : MetAt K cMc "__len__" "Machine.__len__" sLen)
    (mContains : MetAt K cMc "__contains__" "Machine.__contains__" sContains)
    (z_int : PySem.W.nsIn K mainGlobals "int" = some none)
    (z_abs : PySem.W.nsIn K mainGlobals "abs" = some none)
    (z_len : PySem.W.nsIn K mainGlobals "len" = some none)
    (z_list : PySem.W.nsIn K mainGlobals "list" = some none)
    (z_sorted : PySem.W.nsIn K mainGlobals "sorted" = some none)
    (z_range : PySem.W.nsIn K mainGlobals "range" = some none)
    (z_tuple : PySem.W.nsIn K mainGlobals "tuple" = some none)
    (z_zip : PySem.W.nsIn K mainGlobals "zip" = some none)
    (z_isinstance : PySem.W.nsIn K mainGlobals "isinstance" = some none)
    (z_bool : PySem.W.nsIn K mainGlobals "bool" = some none)
    (z_str : PySem.W.nsIn K mainGlobals "str" = some none)
    (z_all : PySem.W.nsIn K mainGlobals "all" = some none)
    (z_enumerate : PySem.W.nsIn K mainGlobals "enumerate" = some none)
    (z_max : PySem.W.nsIn K mainGlobals "max" = some none)
    (z_min : PySem.W.nsIn K mainGlobals "min" = some none)
    : ∃ fd : FuncData, (∀ (s : Shared) (v : Value), BindsTo s fd ⟨[v], []⟩ [("script", v)]) ∧ ∀ base : Heap, K.In base → base.Ns mainGlobals mg → LamX.TabB base mg cAct Pt → FnOk P w K mg base CX0 9 fa fd ["script"] (spLaw K [(Pt, nmActed)]) := by
  obtain ⟨fLaw, DLaw, FLaw, aLaw⟩ := dLaw.ex
  have mLaw_ := PySem.W.mg_of X G aLaw
  have bLaw := FLaw.binds (ps := ["script"]) fun _ _ _ _ _ _ us hl => match us, hl with | [_], _ => rfl
  obtain ⟨fDice, DDice, FDice, aDice⟩ := dDice.ex
  have mDice_ := PySem.W.mg_of X G aDice
  have bDice := FDice.binds (ps := ["script", "at"]) fun _ _ _ _ _ _ us hl => match us, hl with | [_, _], _ => rfl
  obtain ⟨fRight, DRight, FRight, aRight⟩ := dRight.ex
  have mRight_ := PySem.W.mg_of X G aRight
  have bRight := FRight.binds (ps := ["dice"]) fun _ _ _ _ _ _ us hl => match us, hl with | [_], _ => rfl
  obtain ⟨fRoll, DRoll, FRoll, aRoll⟩ := dRoll.ex
  have mRoll_ := PySem.W.mg_of X G aRoll
  have bRoll := FRoll.binds (ps := ["dice", "total"]) fun _ _ _ _ _ _ us hl => match us, hl with | [_, _], _ => rfl
  obtain ⟨fLetters, DLetters, FLetters, aLetters⟩ := dLetters.ex
  have mLetters_ := PySem.W.mg_of X G aLetters
  have bLetters := FLetters.binds (ps := ["dice", "total"]) fun _ _ _ _ _ _ us hl => match us, hl with | [_, _], _ => rfl
  obtain ⟨fMixed, DMixed, FMixed, aMixed⟩ := dMixed.ex
  have mMixed_ := PySem.W.mg_of X G aMixed
  have bMixed := FMixed.binds (ps := ["dice", "items"]) fun _ _ _ _ _ _ us hl => match us, hl with | [_, _], _ => rfl
  obtain ⟨fOneOf, DOneOf, FOneOf, aOneOf⟩ := dOneOf.ex
  have mOneOf_ := PySem.W.mg_of X G aOneOf
  have bOneOf := FOneOf.binds (ps := ["dice", "items"]) fun _ _ _ _ _ _ us hl => match us, hl with | [_, _], _ => rfl
  obtain ⟨fLawBox, DLawBox, FLawBox, aLawBox⟩ := dLawBox.ex
  have mLawBox_ := PySem.W.mg_of X G aLawBox
  have bLawBox := FLawBox.binds (ps := ["dice", "letters", "most"]) fun _ _ _ _ _ _ us hl => match us, hl with | [_, _, _], _ => rfl
  obtain ⟨fTable, DTable, FTable, aTable⟩ := dTable.ex
  have mTable_ := PySem.W.mg_of X G aTable
  have bTable := FTable.binds (ps := ["dice", "letters", "size", "sorts"]) fun _ _ _ _ _ _ us hl => match us, hl with | [_, _, _, _], _ => rfl
  obtain ⟨fAction, DAction, FAction, aAction⟩ := dAction.ex
  have mAction_ := PySem.W.mg_of X G aAction
  have bAction := FAction.binds (ps := ["dice", "size", "sort"]) fun _ _ _ _ _ _ us hl => match us, hl with | [_, _, _], _ => rfl
  obtain ⟨fFirstT, DFirstT, FFirstT, aFirstT⟩ := dFirstT.ex
  have mFirstT_ := PySem.W.mg_of X G aFirstT
  have bFirstT := FFirstT.binds (ps := ["table", "letters"]) fun _ _ _ _ _ _ us hl => match us, hl with | [_, _], _ => rfl
  obtain ⟨fLawActs, DLawActs, FLawActs, aLawActs⟩ := dLawActs.ex
  have mLawActs_ := PySem.W.mg_of X G aLawActs
  have bLawActs := FLawActs.binds (ps := ["table", "letters", "most"]) fun _ _ _ _ _ _ us hl => match us, hl with | [_, _, _], _ => rfl
  obtain ⟨fGoes, DGoes, FGoes, aGoes⟩ := dGoes.ex
  have mGoes_ := PySem.W.mg_of X G aGoes
  have bGoes := FGoes.binds (ps := ["action", "place"]) fun _ _ _ _ _ _ us hl => match us, hl with | [_, _], _ => rfl
  obtain ⟨fMadeBox, DMadeBox, FMadeBox, aMadeBox⟩ := dMadeBox.ex
  have mMadeBox_ := PySem.W.mg_of X G aMadeBox
  have bMadeBox := FMadeBox.binds (ps := ["letters", "table"]) fun _ _ _ _ _ _ us hl => match us, hl with | [_, _], _ => rfl
  obtain ⟨fIsLetters, DIsLetters, FIsLetters, aIsLetters⟩ := dIsLetters.ex
  have mIsLetters_ := PySem.W.mg_of X G aIsLetters
  have bIsLetters := FIsLetters.binds (ps := ["value"]) fun _ _ _ _ _ _ us hl => match us, hl with | [_], _ => rfl
  obtain ⟨fBetween, DBetween, FBetween, aBetween⟩ := dBetween.ex
  have mBetween_ := PySem.W.mg_of X G aBetween
  have bBetween := FBetween.binds (ps := ["value", "low", "high"]) fun _ _ _ _ _ _ us hl => match us, hl with | [_, _, _], _ => rfl
  obtain ⟨fIsWord, DIsWord, FIsWord, aIsWord⟩ := dIsWord.ex
  have mIsWord_ := PySem.W.mg_of X G aIsWord
  have bIsWord := FIsWord.binds (ps := ["value"]) fun _ _ _ _ _ _ us hl => match us, hl with | [_], _ => rfl
  obtain ⟨fHasOnly, DHasOnly, FHasOnly, aHasOnly⟩ := dHasOnly.ex
  have mHasOnly_ := PySem.W.mg_of X G aHasOnly
  have bHasOnly := FHasOnly.binds (ps := ["word", "letters"]) fun _ _ _ _ _ _ us hl => match us, hl with | [_, _], _ => rfl
  obtain ⟨fIsTable, DIsTable, FIsTable, aIsTable⟩ := dIsTable.ex
  have mIsTable_ := PySem.W.mg_of X G aIsTable
  have bIsTable := FIsTable.binds (ps := ["value", "width", "most"]) fun _ _ _ _ _ _ us hl => match us, hl with | [_, _, _], _ => rfl
  obtain ⟨fIsLine, DIsLine, FIsLine, aIsLine⟩ := dIsLine.ex
  have mIsLine_ := PySem.W.mg_of X G aIsLine
  have bIsLine := FIsLine.binds (ps := ["value", "width", "size"]) fun _ _ _ _ _ _ us hl => match us, hl with | [_, _, _], _ => rfl
  obtain ⟨fActWords, DActWords, FActWords, aActWords⟩ := dActWords.ex
  have mActWords_ := PySem.W.mg_of X G aActWords
  have bActWords := FActWords.binds (ps := ["table", "letters", "most"]) fun _ _ _ _ _ _ us hl => match us, hl with | [_, _, _], _ => rfl
  obtain ⟨fUnmoved, DUnmoved, FUnmoved, aUnmoved⟩ := dUnmoved.ex
  have mUnmoved_ := PySem.W.mg_of X G aUnmoved
  have bUnmoved := FUnmoved.binds (ps := ["table"]) fun _ _ _ _ _ _ us hl => match us, hl with | [_], _ => rfl
  obtain ⟨fLedOn, DLedOn, FLedOn, aLedOn⟩ := dLedOn.ex
  have mLedOn_ := PySem.W.mg_of X G aLedOn
  have bLedOn := FLedOn.binds (ps := ["table", "states", "column"]) fun _ _ _ _ _ _ us hl => match us, hl with | [_, _, _], _ => rfl
  obtain ⟨fAmong, DAmong, FAmong, aAmong⟩ := dAmong.ex
  have mAmong_ := PySem.W.mg_of X G aAmong
  have bAmong := FAmong.binds (ps := ["words"]) fun _ _ _ _ _ _ us hl => match us, hl with | [_], _ => rfl
  obtain ⟨fTurned, DTurned, FTurned, aTurned⟩ := dTurned.ex
  have mTurned_ := PySem.W.mg_of X G aTurned
  have bTurned := FTurned.binds (ps := ["action"]) fun _ _ _ _ _ _ us hl => match us, hl with | [_], _ => rfl
  obtain ⟨fComes, DComes, FComes, aComes⟩ := dComes.ex
  have mComes_ := PySem.W.mg_of X G aComes
  have bComes := FComes.binds (ps := ["action", "state"]) fun _ _ _ _ _ _ us hl => match us, hl with | [_, _], _ => rfl
  obtain ⟨fWord, DWord, FWord, aWord⟩ := dWord.ex
  have mWord_ := PySem.W.mg_of X G aWord
  have bWord := FWord.binds (ps := ["dice", "letters", "most"]) fun _ _ _ _ _ _ us hl => match us, hl with | [_, _, _], _ => rfl
  obtain ⟨fLawLed, DLawLed, FLawLed, aLawLed⟩ := dLawLed.ex
  have mLawLed_ := PySem.W.mg_of X G aLawLed
  have bLawLed := FLawLed.binds (ps := ["table", "letters", "word", "start"]) fun _ _ _ _ _ _ us hl => match us, hl with | [_, _, _, _], _ => rfl
  obtain ⟨fFirstsL, DFirstsL, FFirstsL, aFirstsL⟩ := dFirstsL.ex
  have mFirstsL_ := PySem.W.mg_of X G aFirstsL
  have bFirstsL := FFirstsL.binds (ps := ["table", "letters"]) fun _ _ _ _ _ _ us hl => match us, hl with | [_, _], _ => rfl
  obtain ⟨fLagL, DLagL, FLagL, aLagL⟩ := dLagL.ex
  have mLagL_ := PySem.W.mg_of X G aLagL
  have bLagL := FLagL.binds (ps := ["table", "letters", "word"]) fun _ _ _ _ _ _ us hl => match us, hl with | [_, _, _], _ => rfl
  obtain ⟨fLeanL, DLeanL, FLeanL, aLeanL⟩ := dLeanL.ex
  have mLeanL_ := PySem.W.mg_of X G aLeanL
  have bLeanL := FLeanL.binds (ps := ["table", "letters"]) fun _ _ _ _ _ _ us hl => match us, hl with | [_, _], _ => rfl
  obtain ⟨fCheck, DCheck, FCheck, aCheck⟩ := dCheck.ex
  have mCheck_ := PySem.W.mg_of X G aCheck
  have bCheck := FCheck.binds (ps := ["value"]) fun _ _ _ _ _ _ us hl => match us, hl with | [_], _ => rfl
  obtain ⟨fOnlyC, DOnlyC, FOnlyC, aOnlyC⟩ := dOnlyC.ex
  have mOnlyC_ := PySem.W.mg_of X G aOnlyC
  have bOnlyC := FOnlyC.binds (ps := ["word", "letters"]) fun _ _ _ _ _ _ us hl => match us, hl with | [_, _], _ => rfl
  obtain ⟨fLed, DLed, FLed, aLed⟩ := dLed.ex
  have mLed_ := PySem.W.mg_of X G aLed
  have bLed := FLed.binds (ps := ["table", "letters", "start", "word"]) fun _ _ _ _ _ _ us hl => match us, hl with | [_, _, _, _], _ => rfl
  obtain ⟨fActed, DActed, FActed, aActed, cAct_⟩ := dActed.ex
  have mActed_ := PySem.W.mg_of X G aActed
  have bActed := FActed.binds (ps := ["table", "letters", "word"]) fun _ _ _ _ _ _ us hl => match us, hl with | [_, _, _], _ => rfl
  obtain ⟨fWalked, DWalked, FWalked, aWalked⟩ := dWalked.ex
  have mWalked_ := PySem.W.mg_of X G aWalked
  have bWalked := FWalked.binds (ps := ["start", "step", "word"]) fun _ _ _ _ _ _ us hl => match us, hl with | [_, _, _], _ => rfl
  obtain ⟨fRepeats, DRepeats, FRepeats, aRepeats⟩ := dRepeats.ex
  have mRepeats_ := PySem.W.mg_of X G aRepeats
  have bRepeats := FRepeats.binds (ps := ["action"]) fun _ _ _ _ _ _ us hl => match us, hl with | [_], _ => rfl
  obtain ⟨fComposed, DComposed, FComposed, aComposed⟩ := dComposed.ex
  have mComposed_ := PySem.W.mg_of X G aComposed
  have bComposed := FComposed.binds (ps := ["first", "second"]) fun _ _ _ _ _ _ us hl => match us, hl with | [_, _], _ => rfl
  obtain ⟨fChkPlace, DChkPlace, FChkPlace, aChkPlace⟩ := dChkPlace.ex
  have mChkPlace_ := PySem.W.mg_of X G aChkPlace
  have bChkPlace := FChkPlace.binds (ps := ["box", "value"]) fun _ _ _ _ _ _ us hl => match us, hl with | [_, _], _ => rfl
  obtain ⟨fFirstTo, DFirstTo, FFirstTo, aFirstTo⟩ := dFirstTo.ex
  have mFirstTo_ := PySem.W.mg_of X G aFirstTo
  have bFirstTo := FFirstTo.binds (ps := ["table", "letters", "states"]) fun _ _ _ _ _ _ us hl => match us, hl with | [_, _, _], _ => rfl
  obtain ⟨fMarked, DMarked, FMarked, aMarked⟩ := dMarked.ex
  have mMarked_ := PySem.W.mg_of X G aMarked
  have bMarked := FMarked.binds (ps := ["states"]) fun _ _ _ _ _ _ us hl => match us, hl with | [_], _ => rfl
  obtain ⟨fSpelled, DSpelled, FSpelled, aSpelled⟩ := dSpelled.ex
  have mSpelled_ := PySem.W.mg_of X G aSpelled
  have bSpelled := FSpelled.binds (ps := ["came", "state"]) fun _ _ _ _ _ _ us hl => match us, hl with | [_, _], _ => rfl
  obtain ⟨fMadeB, DMadeB, FMadeB, aMadeB⟩ := dMadeB.ex
  have mMadeB_ := PySem.W.mg_of X G aMadeB
  have bMadeB := FMadeB.binds (ps := ["letters", "table"]) fun _ _ _ _ _ _ us hl => match us, hl with | [_, _], _ => rfl
  obtain ⟨fLeanT, DLeanT, FLeanT, aLeanT⟩ := dLeanT.ex
  have mLeanT_ := PySem.W.mg_of X G aLeanT
  have bLeanT := FLeanT.binds (ps := ["table"]) fun _ _ _ _ _ _ us hl => match us, hl with | [_], _ => rfl
  obtain ⟨fReached, DReached, FReached, aReached⟩ := dReached.ex
  have mReached_ := PySem.W.mg_of X G aReached
  have bReached := FReached.binds (ps := ["table"]) fun _ _ _ _ _ _ us hl => match us, hl with | [_], _ => rfl
  obtain ⟨fIsChoice, DIsChoice, FIsChoice, aIsChoice⟩ := dIsChoice.ex
  have mIsChoice_ := PySem.W.mg_of X G aIsChoice
  have bIsChoice := FIsChoice.binds (ps := ["value", "size"]) fun _ _ _ _ _ _ us hl => match us, hl with | [_, _], _ => rfl
  obtain ⟨fMadeM, DMadeM, FMadeM, aMadeM⟩ := dMadeM.ex
  have mMadeM_ := PySem.W.mg_of X G aMadeM
  have bMadeM := FMadeM.binds (ps := ["letters", "table", "ends"]) fun _ _ _ _ _ _ us hl => match us, hl with | [_, _, _], _ => rfl
  obtain ⟨qBLet, fBLet, DBLet, FBLet, QBLet⟩ := pBLet.ex
  have bBLet := FBLet.binds (ps := ["self"]) fun _ _ _ _ _ _ us hl => match us, hl with | [_], _ => rfl
  obtain ⟨qBTab, fBTab, DBTab, FBTab, QBTab⟩ := pBTab.ex
  have bBTab := FBTab.binds (ps := ["self"]) fun _ _ _ _ _ _ us hl => match us, hl with | [_], _ => rfl
  obtain ⟨fBEq, DBEq, FBEq, MBEq⟩ := mBEq.ex
  have bBEq := FBEq.binds (ps := ["self", "other"]) fun _ _ _ _ _ _ us hl => match us, hl with | [_, _], _ => rfl
  obtain ⟨fBChk, DBChk, FBChk, MBChk⟩ := mBChk.ex
  have bBChk := FBChk.binds (ps := ["self", "word"]) fun _ _ _ _ _ _ us hl => match us, hl with | [_, _], _ => rfl
  obtain ⟨fBLag, DBLag, FBLag, MBLag⟩ := mBLag.ex
  have bBLag := FBLag.binds (ps := ["self", "word"]) fun _ _ _ _ _ _ us hl => match us, hl with | [_, _], _ => rfl
  obtain ⟨fBFw, DBFw, FBFw, MBFw⟩ := mBFw.ex
  have bBFw := FBFw.binds (ps := ["self", "place"]) fun _ _ _ _ _ _ us hl => match us, hl with | [_, _], _ => rfl
  obtain ⟨fBoxLen, DBoxLen, FBoxLen, MBoxLen⟩ := mBoxLen.ex
  have bBoxLen := FBoxLen.binds (ps := ["self"]) fun _ _ _ _ _ _ us hl => match us, hl with | [_], _ => rfl
  obtain ⟨fBLean, DBLean, FBLean, MBLean⟩ := mBLean.ex
  have bBLean := FBLean.binds (ps := ["self"]) fun _ _ _ _ _ _ us hl => match us, hl with | [_], _ => rfl
  obtain ⟨fBMach, DBMach, FBMach, MBMach⟩ := mBMach.ex
  have bBMach := FBMach.binds (ps := ["self", "places"]) fun _ _ _ _ _ _ us hl => match us, hl with | [_, _], _ => rfl
  obtain ⟨qPropL, fPropL, DPropL, FPropL, QPropL⟩ := pPropL.ex
  have bPropL := FPropL.binds (ps := ["self"]) fun _ _ _ _ _ _ us hl => match us, hl with | [_], _ => rfl
  obtain ⟨qPropT, fPropT, DPropT, FPropT, QPropT⟩ := pPropT.ex
  have bPropT := FPropT.binds (ps := ["self"]) fun _ _ _ _ _ _ us hl => match us, hl with | [_], _ => rfl
  obtain ⟨qPropE, fPropE, DPropE, FPropE, QPropE⟩ := pPropE.ex
  have bPropE := FPropE.binds (ps := ["self"]) fun _ _ _ _ _ _ us hl => match us, hl with | [_], _ => rfl
  obtain ⟨fLen, DLen, FLen, MLen⟩ := mLen.ex
  have bLen := FLen.binds (ps := ["self"]) fun _ _ _ _ _ _ us hl => match us, hl with | [_], _ => rfl
  obtain ⟨fContains, DContains, FContains, MContains⟩ := mContains.ex
  have bContains := FContains.binds (ps := ["self", "x"]) fun _ _ _ _ _ _ us hl => match us, hl with | [_, _], _ => rfl
  have e := hfa.symm.trans mLaw_
  cases e
  have TI : TxI mg := ⟨(PySem.W.mg_none_of X G z_int), (PySem.W.mg_none_of X G z_abs), (PySem.W.mg_none_of X G z_len)⟩
  have DD : DefsD K mg := ⟨fRoll, fOneOf, DRoll, DOneOf, FRoll, bRoll, mRoll_, FOneOf, bOneOf, mOneOf_⟩
  have TM : TxM mg := ⟨(PySem.W.mg_none_of X G z_list), (PySem.W.mg_none_of X G z_sorted), (PySem.W.mg_none_of X G z_range), (PySem.W.mg_none_of X G z_tuple), (PySem.W.mg_none_of X G z_len)⟩
  have zZ : mg "zip" = none := (PySem.W.mg_none_of X G z_zip)
  have DW : DefsW K mg := ⟨fBetween, fIsWord, fHasOnly, DBetween, DIsWord, DHasOnly, FBetween, bBetween, mBetween_, FIsWord, bIsWord, mIsWord_, FHasOnly, bHasOnly, mHasOnly_⟩
  have TW : TxW mg := ⟨(PySem.W.mg_none_of X G z_isinstance), (PySem.W.mg_none_of X G z_bool), (PySem.W.mg_none_of X G z_int), (PySem.W.mg_none_of X G z_str), (PySem.W.mg_none_of X G z_tuple), (PySem.W.mg_none_of X G z_all), ⟨_, PySem.W.mg_of X G vA⟩⟩
  have TZ : TxZ mg := ⟨(PySem.W.mg_none_of X G z_zip), (PySem.W.mg_none_of X G z_len), ⟨_, PySem.W.mg_of X G vL⟩⟩
  have zE : mg "enumerate" = none := (PySem.W.mg_none_of X G z_enumerate)
  have clBx : Cls K cBx ∧ NoAttr K cBx "_letters" ∧ NoAttr K cBx "_table" := clsXB_ok hBx
  have TB : TxB K mg cBx := ⟨clBx.1, clBx.2.1, clBx.2.2, ⟨_, PySem.W.mg_of X G vP⟩, ⟨_, PySem.W.mg_of X G vC⟩, ⟨_, PySem.W.mg_of X G vT⟩⟩
  have TRB : TxR K mg "InvalidBox" cB := errR eB (PySem.W.mg_of X G gB)
  have TG : TxG P K mg cG := errG_ok eG tG (PySem.W.mg_of X G gG)
  obtain ⟨fBI, DBI, FBI, MKBI⟩ := mBI.ex
  have bBI := FBI.binds (ps := ["self", "letters", "table"]) fun _ _ _ _ _ _ us hl => match us, hl with | [_, _, _], _ => rfl
  have mCBx : mg "Box" = some (.ref cBx) := PySem.W.mg_of X G gBx
  have TRW : TxR K mg "InvalidWord" cW := errR eW (PySem.W.mg_of X G gW)
  have TRO : TxR K mg "InvalidOperation" cO := errR eO (PySem.W.mg_of X G gO)
  obtain ⟨fBCall, DBCall, FBCall, kBCall⟩ := mCl.ex
  have bBCall := FBCall.binds (ps := ["self", "word"]) fun _ _ _ _ _ _ us hl => match us, hl with | [_, _], _ => rfl
  have TN : TxN P K mg cN := errN_ok eN tN (PySem.W.mg_of X G gN)
  have DT : DefsT K mg := ⟨fIsLetters, fIsTable, fIsLine, fIsChoice, DIsLetters, DIsTable, DIsLine, DIsChoice, FIsLetters, bIsLetters, mIsLetters_, FIsTable, bIsTable, mIsTable_, FIsLine, bIsLine, mIsLine_, FIsChoice, bIsChoice, mIsChoice_⟩
  have TE : TxE K mg cM := errE eM (PySem.W.mg_of X G gM)
  have clMc : Cls K cMc ∧ NoAttr K cMc "_letters" ∧ NoAttr K cMc "_table" ∧ NoAttr K cMc "_ends" ∧ TxO K cMc := clsB_ok hMc
  have TK : TxK K mg cMc := ⟨clMc.1, clMc.2.1, clMc.2.2.1, clMc.2.2.2.1, ⟨_, PySem.W.mg_of X G vS⟩⟩
  obtain ⟨fMI, b0, DMI, FMI, MKMI, bMI, bMI1, hb0⟩ := mMI.ex
  have mCMc : mg "Machine" = some (.ref cMc) := PySem.W.mg_of X G gMc
  have TOB : TxOB K cBx := clsOB_ok hOB
  have TL : TxL mg := ⟨(PySem.W.mg_none_of X G z_max), (PySem.W.mg_none_of X G z_min)⟩
  refine ⟨DLaw, ?_, fun base _ _ TBt => ?_⟩
  rotate_left
  · let _u := ()
    have hin : ((Pt, nmActed) : NdefX.NTab) ∈ [(Pt, nmActed)] := List.mem_singleton.mpr rfl
    have hun : ∀ p ∈ ([(Pt, nmActed)] : List NdefX.NTab), p.1 = Pt → p.2 = nmActed := fun p hp _ => by rw [List.mem_singleton.mp hp]
    let cDice : FnC P w K mg base 1 "_law_dice" ["script", "at"] (spDice K) := ⟨fDice, DDice, ok_dice FDice TI, bDice, mDice_, FDice.kp⟩
    let cRoll : FnC P w K mg base 1 "_law_roll" ["dice", "total"] spDraw := ⟨fRoll, DRoll, ok_draw FRoll TI, bRoll, mRoll_, FRoll.kp⟩
    let cLetters : FnC P w K mg base 3 "_law_letters" ["dice", "total"] spLetters := ⟨fLetters, DLetters, ok_letters FLetters FMixed bMixed mMixed_ DD TI TM, bLetters, mLetters_, FLetters.kp⟩
    let cTableS : FnC P w K mg base 3 "_law_table" ["dice", "letters", "size", "sorts"] (spTableS K) := ⟨fTable, DTable, ok_tableS FTable FAction bAction mAction_ DD TI TM, bTable, mTable_, FTable.kp⟩
    let cLA : FnC P w K mg base 1 "_law_actions" ["table", "letters", "most"] (spLawActs K) := ⟨fLawActs, DLawActs, ok_lawacts FLawActs TM zZ, bLawActs, mLawActs_, FLawActs.kp⟩
    let cGoes : FnC P w K mg base 1 "_law_goes_round" ["action", "place"] (spGoes K) := ⟨fGoes, DGoes, ok_goes FGoes TM, bGoes, mGoes_, FGoes.kp⟩
    let cFirstT : FnC P w K mg base 2 "_law_first_turn" ["table", "letters"] (spFirstT K) := ⟨fFirstT, DFirstT, ok_firstt FFirstT cLA cGoes TM, bFirstT, mFirstT_, FFirstT.kp⟩
    let cLawBox : FnC P w K mg base 4 "_law_box" ["dice", "letters", "most"] spLawBox := ⟨fLawBox, DLawBox, ok_lawbox FLawBox cRoll cTableS cFirstT, bLawBox, mLawBox_, FLawBox.kp⟩
    let cIsLet : FnC P w K mg base 3 "is_letters" ["value"] (spIsLetters K) := ⟨fIsLetters, DIsLetters, ok_isletters FIsLetters DW TW TZ, bIsLetters, mIsLetters_, FIsLetters.kp⟩
    let cIsTab : FnC P w K mg base 3 "is_table" ["value", "width", "most"] (spIsTable K) := ⟨fIsTable, DIsTable, ok_istable FIsTable FIsLine bIsLine mIsLine_ DW TW TZ, bIsTable, mIsTable_, FIsTable.kp⟩
    let cWds : FnC P w K mg base 2 "action_words" ["table", "letters", "most"] (spActWordsE K) := ⟨fActWords, DActWords, ok_actwordsE FActWords FUnmoved bUnmoved mUnmoved_ FLedOn bLedOn mLedOn_ TM zE, bActWords, mActWords_, FActWords.kp⟩
    have GTurned : FnOk P w K mg base CX0 2 fTurned DTurned ["action"] (spTurned K) := ok_turned FTurned FComes bComes mComes_ zE
    let cAmong : FnC P w K mg base 3 "turn_among" ["words"] spAmong := ⟨fAmong, DAmong, ok_among FAmong GTurned FTurned.kp bTurned mTurned_, bAmong, mAmong_, FAmong.kp⟩
    have GBI : FnOk P w K mg base (L2.CX P w) 4 fBI DBI ["self", "letters", "table"] (spBoxInit K cBx cG) := ok_boxinit FBI cIsLet cIsTab cWds cAmong TZ TB TRB TG.a-- obBI
    let cMadeBox : FnC P w K mg base 6 "_law_made_box" ["letters", "table"] (spMadeBox K cBx) := ⟨fMadeBox, DMadeBox, ok_madebox FMadeBox MKBI GBI bBI mCBx TM, bMadeBox, mMadeBox_, FMadeBox.kp⟩
    let cWord : FnC P w K mg base 3 "_law_word" ["dice", "letters", "most"] spWord := ⟨fWord, DWord, ok_word FWord DD TI TM, bWord, mWord_, FWord.kp⟩
    let cLawLed : FnC P w K mg base 1 "_law_led" ["table", "letters", "word", "start"] (spLawLed K) := ⟨fLawLed, DLawLed, ok_lawled FLawLed, bLawLed, mLawLed_, FLawLed.kp⟩
    let cFirstsL : FnC P w K mg base 1 "_law_firsts" ["table", "letters"] (spFirstsL K) := ⟨fFirstsL, DFirstsL, ok_firstsl FFirstsL TM zZ, bFirstsL, mFirstsL_, FFirstsL.kp⟩
    let cLagL : FnC P w K mg base 2 "_law_lag" ["table", "letters", "word"] (spLagL K) := ⟨fLagL, DLagL, ok_lagl FLagL FLawLed bLawLed mLawLed_ TM, bLagL, mLagL_, FLagL.kp⟩
    let cLeanL : FnC P w K mg base 2 "_law_lean" ["table", "letters"] (spLeanL K) := ⟨fLeanL, DLeanL, ok_leanl FLeanL FFirstsL bFirstsL mFirstsL_ TM zZ, bLeanL, mLeanL_, FLeanL.kp⟩
    let cMixedG : FnC P w K mg base 2 "_law_mixed" ["dice", "items"] (spMixedG K) := ⟨fMixed, DMixed, ok_mixedG FMixed DD TI TM, bMixed, mMixed_, FMixed.kp⟩
    let pBL : PrC P w K mg base cBx 1 "letters" (spBLet K cBx) := ⟨qBLet, fBLet, DBLet, QBLet, ok_blet FBLet TB, bBLet⟩
    let pBT : PrC P w K mg base cBx 1 "table" (spBTab K cBx) := ⟨qBTab, fBTab, DBTab, QBTab, ok_btab FBTab TB, bBTab⟩
    let oBE : OpC P w K mg base cBx 1 "__eq__" ["self", "other"] (spBEq K cBx) := ⟨fBEq, DBEq, ok_beq FBEq TW TB mCBx, bBEq, MBEq⟩
    let cCheck : FnC P w K mg base 3 "check_word" ["value"] spCheck := ⟨fCheck, DCheck, ok_check FCheck DW TW TRW, bCheck, mCheck_, FCheck.kp⟩
    let cOnlyC : FnC P w K mg base 2 "check_only" ["word", "letters"] spOnlyC := ⟨fOnlyC, DOnlyC, ok_onlyc FOnlyC DW TW TRO, bOnlyC, mOnlyC_, FOnlyC.kp⟩
    have GChk : FnOk P w K mg base CX0 4 fBChk DBChk ["self", "word"] (spBChk K cBx) := ok_bchk FBChk cCheck cOnlyC TB
    let cLed : FnC P w K mg base 1 "led" ["table", "letters", "start", "word"] (spLed K) := ⟨fLed, DLed, ok_led FLed, bLed, mLed_, FLed.kp⟩
    have GCall : FnOk P w K mg base CX0 5 fBCall DBCall ["self", "word"] (spBCall K cBx) := ok_bcall FBCall GChk bBChk MBChk cLed TB-- obCl
    let cActed : FnC P w K mg base 4 "acted" ["table", "letters", "word"] (spActed K [(Pt, nmActed)]) := ⟨fActed, DActed, ok_acted FActed cAct_ TBt hin hun FUnmoved bUnmoved mUnmoved_ FLedOn bLedOn mLedOn_ FWalked bWalked mWalked_ TM, bActed, mActed_, FActed.kp⟩
    let cRepeats : FnC P w K mg base 2 "repeats" ["action"] (spRepeats K) := ⟨fRepeats, DRepeats, ok_repeats FRepeats FComposed bComposed mComposed_ TM, bRepeats, mRepeats_, FRepeats.kp⟩
    let oBLag : OpC P w K mg base cBx 5 "lag" ["self", "word"] (spBLag K [(Pt, nmActed)] cBx) := ⟨fBLag, DBLag, ok_blag FBLag GChk bBChk MBChk cActed cRepeats TB, bBLag, MBLag⟩
    let oBLen : OpC P w K mg base cBx 1 "__len__" ["self"] (spBoxLen K cBx) := ⟨fBoxLen, DBoxLen, ok_boxlen FBoxLen TZ TB, bBoxLen, MBoxLen⟩
    let cChkPlace : FnC P w K mg base 3 "check_place" ["box", "value"] (spChkPlace K cBx) := ⟨fChkPlace, DChkPlace, ok_chkplace FChkPlace DW TW TM oBLen TN, bChkPlace, mChkPlace_, FChkPlace.kp⟩
    let cFirstTo : FnC P w K mg base 2 "first_word_to" ["table", "letters", "states"] (spFirstTo K) := ⟨fFirstTo, DFirstTo, ok_firstto FFirstTo FMarked bMarked mMarked_ FSpelled bSpelled mSpelled_ TM zZ, bFirstTo, mFirstTo_, FFirstTo.kp⟩
    let oBFw : OpC P w K mg base cBx 4 "first_word" ["self", "place"] (spBFw K cBx) := ⟨fBFw, DBFw, ok_bfw (fC := fBFw) FBFw cChkPlace cFirstTo TB, bBFw, MBFw⟩
    let cMadeB : FnC P w K mg base 6 "made_box" ["letters", "table"] (spMadeB K cBx) := ⟨fMadeB, DMadeB, ok_madeb FMadeB MKBI GBI bBI mCBx TM TB, bMadeB, mMadeB_, FMadeB.kp⟩
    let cLeanT : FnC P w K mg base 2 "lean_table" ["table"] (spLeanT K) := ⟨fLeanT, DLeanT, ok_leant FLeanT FReached bReached mReached_ TI TM zE, bLeanT, mLeanT_, FLeanT.kp⟩
    let oBLean : OpC P w K mg base cBx 7 "lean" ["self"] (spBLean K cBx) := ⟨fBLean, DBLean, ok_blean FBLean cMadeB cLeanT TB, bBLean, MBLean⟩
    let cIsCh : FnC P w K mg base 2 "is_choice" ["value", "size"] (spIsChoice K) := ⟨fIsChoice, DIsChoice, ok_ischoice FIsChoice DW TW TZ, bIsChoice, mIsChoice_, FIsChoice.kp⟩
    have GMI : FnOk P w K mg base CX0 4 fMI DMI nInit (spInit K cMc) := ok_init FMI DT DW TW TZ TE TK-- obMI
    let cMadeM : FnC P w K mg base 6 "made_machine" ["letters", "table", "ends"] (spMadeM K cMc) := ⟨fMadeM, DMadeM, ok_madem FMadeM MKMI GMI bMI1 hb0 mCMc TM TK, bMadeM, mMadeM_, FMadeM.kp⟩
    let oBMach : OpC P w K mg base cBx 7 "machine" ["self", "places"] (spBMach K cBx cMc) := ⟨fBMach, DBMach, ok_bmach FBMach cIsCh cMadeM TZ TRO TB, bBMach, MBMach⟩
    let pML : PrC P w K mg base cMc 1 "letters" (spPropL K cMc) := ⟨qPropL, fPropL, DPropL, QPropL, ok_propL FPropL TK, bPropL⟩
    let pMT : PrC P w K mg base cMc 1 "table" (spPropT K cMc) := ⟨qPropT, fPropT, DPropT, QPropT, ok_propT FPropT TK, bPropT⟩
    let pME : PrC P w K mg base cMc 1 "ends" (spPropE K cMc) := ⟨qPropE, fPropE, DPropE, QPropE, ok_propE FPropE TK, bPropE⟩
    let oMLen : OpC P w K mg base cMc 1 "__len__" ["self"] (spLen K cMc) := ⟨fLen, DLen, ok_len FLen TZ TK, bLen, MLen⟩
    let oMIn : OpC P w K mg base cMc 3 "__contains__" ["self", "x"] (spContains K cMc) := ⟨fContains, DContains, ok_contains FContains DW FLed bLed mLed_ TW TK, bContains, MContains⟩
    let cRight : FnC P w K mg base 8 "_law_right" ["dice"] (spRight [(Pt, nmActed)]) := ⟨fRight, DRight, ok_right FRight cRoll cLetters cLawBox cMadeBox cWord cLawLed cFirstsL cLagL cLeanL cMixedG pBL pBT oBE kBCall GCall bBCall oBLag oBFw oBLean oBMach pML pMT pME oMLen oMIn TB TOB TK TM, bRight, mRight_, FRight.kp⟩
    exact ok_law FLaw cDice cRight MKBI GBI bBI mCBx pBT oBLag oBFw oBLean TB TM TL
  · obtain ⟨oc, od, kV, doc, pm, an, cdv, ct, osl, el, lk, hcd⟩ := FLaw.ex
    subst el
    exact fun s v => .of_eq rfl
end M3

set_option Elab.async false
set_option linter.all false
set_option maxRecDepth 100000
open PySem PySem.W PyProof.Rows
set_option maxHeartbeats 0 in
theorem PySem.Challenge.cw_neverturns_k20_lags_first_words_and_lean_holds : PySem.Challenge.rw_neverturns_k20_lags_first_words_and_lean.Holds := by
  w_on; o_law; k_head; (case hw => w_witness2)
  k_fill
  refine M3.walk_ofKT (l := PySem.Challenge.rw_neverturns_k20_lags_first_words_and_lean) (n := 63) (k := 9) (x := "script") rfl (by decide) rfl ⟨rfl, by decide, by decide⟩ (fun w h Y => PySem.W.km_in_of Y) ?F
  intro w mg fa h Y KX G hmg
  refine M3.lawAt_of (c := ?nvcc) (P := _) (nm := M3.nmActed) (sp := M3.spLaw _ [(_, M3.nmActed)]) ?nvA (fun H a ns hl hT hS => ⟨a, ns, rfl, hT, hS, hl, fun _ => rfl⟩) (PySem.W.km_tabs_of Y _ (.head _)) ?nvN ?nvC
  case nvN => kernel_rfl
  case nvA =>
    refine' M3.all_mk KX G hmg ?nvdLaw ?nvdDice ?nvdRight ?nvdRoll ?nvdLetters ?nvdMixed ?nvdOneOf ?nvdLawBox ?nvdTable ?nvdAction ?nvdFirstT ?nvdLawActs ?nvdGoes ?nvdMadeBox ?nvdIsLetters ?nvdBetween ?nvdIsWord ?nvdHasOnly ?nvdIsTable ?nvdIsLine ?nvdActWords ?nvdUnmoved ?nvdLedOn ?nvdAmong ?nvdTurned ?nvdComes ?nvdWord ?nvdLawLed ?nvdFirstsL ?nvdLagL ?nvdLeanL ?nvdCheck ?nvdOnlyC ?nvdLed ?nvdActed ?nvdWalked ?nvdRepeats ?nvdComposed ?nvdChkPlace ?nvdFirstTo ?nvdMarked ?nvdSpelled ?nvdMadeB ?nvdLeanT ?nvdReached ?nvdIsChoice ?nvdMadeM ?nvvA ?nvvL ?nvhBx ?nvvP ?nvvC ?nvvT ?nveB ?nvgB ?nveG ?nvtG ?nvgG ?nvmBI ?nvgBx ?nveW ?nvgW ?nveO ?nvgO ?nvmCl ?nveN ?nvtN ?nvgN ?nveM ?nvgM ?nvhMc ?nvvS ?nvmMI ?nvgMc ?nvhOB ?nvpBLet ?nvpBTab ?nvmBEq ?nvmBChk ?nvmBLag ?nvmBFw ?nvmBoxLen ?nvmBLean ?nvmBMach ?nvpPropL ?nvpPropT ?nvpPropE ?nvmLen ?nvmContains ?nvz_int ?nvz_abs ?nvz_len ?nvz_list ?nvz_sorted ?nvz_range ?nvz_tuple ?nvz_zip ?nvz_isinstance ?nvz_bool ?nvz_str ?nvz_all ?nvz_enumerate ?nvz_max ?nvz_min
    case nvdLaw => (refine' M3.def_mk ?a ?l ?c ?k; (case a => k_is); (case l => k_is); (case c => k_is); (case k => k_is))
    case nvdDice => (refine' M3.def_mk ?a ?l ?c ?k; (case a => k_is); (case l => k_is); (case c => k_is); (case k => k_is))
    case nvdRight => (refine' M3.def_mk ?a ?l ?c ?k; (case a => k_is); (case l => k_is); (case c => k_is); (case k => k_is))
    case nvdRoll => (refine' M3.def_mk ?a ?l ?c ?k; (case a => k_is); (case l => k_is); (case c => k_is); (case k => k_is))
    case nvdLetters => (refine' M3.def_mk ?a ?l ?c ?k; (case a => k_is); (case l => k_is); (case c => k_is); (case k => k_is))
    case nvdMixed => (refine' M3.def_mk ?a ?l ?c ?k; (case a => k_is); (case l => k_is); (case c => k_is); (case k => k_is))
    case nvdOneOf => (refine' M3.def_mk ?a ?l ?c ?k; (case a => k_is); (case l => k_is); (case c => k_is); (case k => k_is))
    case nvdLawBox => (refine' M3.def_mk ?a ?l ?c ?k; (case a => k_is); (case l => k_is); (case c => k_is); (case k => k_is))
    case nvdTable => (refine' M3.def_mk ?a ?l ?c ?k; (case a => k_is); (case l => k_is); (case c => k_is); (case k => k_is))
    case nvdAction => (refine' M3.def_mk ?a ?l ?c ?k; (case a => k_is); (case l => k_is); (case c => k_is); (case k => k_is))
    case nvdFirstT => (refine' M3.def_mk ?a ?l ?c ?k; (case a => k_is); (case l => k_is); (case c => k_is); (case k => k_is))
    case nvdLawActs => (refine' M3.def_mk ?a ?l ?c ?k; (case a => k_is); (case l => k_is); (case c => k_is); (case k => k_is))
    case nvdGoes => (refine' M3.def_mk ?a ?l ?c ?k; (case a => k_is); (case l => k_is); (case c => k_is); (case k => k_is))
    case nvdMadeBox => (refine' M3.def_mk ?a ?l ?c ?k; (case a => k_is); (case l => k_is); (case c => k_is); (case k => k_is))
    case nvdIsLetters => (refine' M3.def_mk ?a ?l ?c ?k; (case a => k_is); (case l => k_is); (case c => k_is); (case k => k_is))
    case nvdBetween => (refine' M3.def_mk ?a ?l ?c ?k; (case a => k_is); (case l => k_is); (case c => k_is); (case k => k_is))
    case nvdIsWord => (refine' M3.def_mk ?a ?l ?c ?k; (case a => k_is); (case l => k_is); (case c => k_is); (case k => k_is))
    case nvdHasOnly => (refine' M3.def_mk ?a ?l ?c ?k; (case a => k_is); (case l => k_is); (case c => k_is); (case k => k_is))
    case nvdIsTable => (refine' M3.def_mk ?a ?l ?c ?k; (case a => k_is); (case l => k_is); (case c => k_is); (case k => k_is))
    case nvdIsLine => (refine' M3.def_mk ?a ?l ?c ?k; (case a => k_is); (case l => k_is); (case c => k_is); (case k => k_is))
    case nvdActWords => (refine' M3.def_mk ?a ?l ?c ?k; (case a => k_is); (case l => k_is); (case c => k_is); (case k => k_is))
    case nvdUnmoved => (refine' M3.def_mk ?a ?l ?c ?k; (case a => k_is); (case l => k_is); (case c => k_is); (case k => k_is))
    case nvdLedOn => (refine' M3.def_mk ?a ?l ?c ?k; (case a => k_is); (case l => k_is); (case c => k_is); (case k => k_is))
    case nvdAmong => (refine' M3.def_mk ?a ?l ?c ?k; (case a => k_is); (case l => k_is); (case c => k_is); (case k => k_is))
    case nvdTurned => (refine' M3.def_mk ?a ?l ?c ?k; (case a => k_is); (case l => k_is); (case c => k_is); (case k => k_is))
    case nvdComes => (refine' M3.def_mk ?a ?l ?c ?k; (case a => k_is); (case l => k_is); (case c => k_is); (case k => k_is))
    case nvdWord => (refine' M3.def_mk ?a ?l ?c ?k; (case a => k_is); (case l => k_is); (case c => k_is); (case k => k_is))
    case nvdLawLed => (refine' M3.def_mk ?a ?l ?c ?k; (case a => k_is); (case l => k_is); (case c => k_is); (case k => k_is))
    case nvdFirstsL => (refine' M3.def_mk ?a ?l ?c ?k; (case a => k_is); (case l => k_is); (case c => k_is); (case k => k_is))
    case nvdLagL => (refine' M3.def_mk ?a ?l ?c ?k; (case a => k_is); (case l => k_is); (case c => k_is); (case k => k_is))
    case nvdLeanL => (refine' M3.def_mk ?a ?l ?c ?k; (case a => k_is); (case l => k_is); (case c => k_is); (case k => k_is))
    case nvdCheck => (refine' M3.def_mk ?a ?l ?c ?k; (case a => k_is); (case l => k_is); (case c => k_is); (case k => k_is))
    case nvdOnlyC => (refine' M3.def_mk ?a ?l ?c ?k; (case a => k_is); (case l => k_is); (case c => k_is); (case k => k_is))
    case nvdLed => (refine' M3.def_mk ?a ?l ?c ?k; (case a => k_is); (case l => k_is); (case c => k_is); (case k => k_is))
    case nvdActed => (refine' M3.defc_mk ?a ?l ?c' ?k; (case a => k_is); (case l => k_is); (case c' => k_is); (case k => k_is))
    case nvdWalked => (refine' M3.def_mk ?a ?l ?c ?k; (case a => k_is); (case l => k_is); (case c => k_is); (case k => k_is))
    case nvdRepeats => (refine' M3.def_mk ?a ?l ?c ?k; (case a => k_is); (case l => k_is); (case c => k_is); (case k => k_is))
    case nvdComposed => (refine' M3.def_mk ?a ?l ?c ?k; (case a => k_is); (case l => k_is); (case c => k_is); (case k => k_is))
    case nvdChkPlace => (refine' M3.def_mk ?a ?l ?c ?k; (case a => k_is); (case l => k_is); (case c => k_is); (case k => k_is))
    case nvdFirstTo => (refine' M3.def_mk ?a ?l ?c ?k; (case a => k_is); (case l => k_is); (case c => k_is); (case k => k_is))
    case nvdMarked => (refine' M3.def_mk ?a ?l ?c ?k; (case a => k_is); (case l => k_is); (case c => k_is); (case k => k_is))
    case nvdSpelled => (refine' M3.def_mk ?a ?l ?c ?k; (case a => k_is); (case l => k_is); (case c => k_is); (case k => k_is))
    case nvdMadeB => (refine' M3.def_mk ?a ?l ?c ?k; (case a => k_is); (case l => k_is); (case c => k_is); (case k => k_is))
    case nvdLeanT => (refine' M3.def_mk ?a ?l ?c ?k; (case a => k_is); (case l => k_is); (case c => k_is); (case k => k_is))
    case nvdReached => (refine' M3.def_mk ?a ?l ?c ?k; (case a => k_is); (case l => k_is); (case c => k_is); (case k => k_is))
    case nvdIsChoice => (refine' M3.def_mk ?a ?l ?c ?k; (case a => k_is); (case l => k_is); (case c => k_is); (case k => k_is))
    case nvdMadeM => (refine' M3.def_mk ?a ?l ?c ?k; (case a => k_is); (case l => k_is); (case c => k_is); (case k => k_is))
    case nvvA => k_is
    case nvvL => k_is
    case nvvP => k_is
    case nvvC => k_is
    case nvvT => k_is
    case nvgB => k_is
    case nvgG => k_is
    case nvgBx => k_is
    case nvgW => k_is
    case nvgO => k_is
    case nvgN => k_is
    case nvgM => k_is
    case nvvS => k_is
    case nvgMc => k_is
    case nvz_int => k_is
    case nvz_abs => k_is
    case nvz_len => k_is
    case nvz_list => k_is
    case nvz_sorted => k_is
    case nvz_range => k_is
    case nvz_tuple => k_is
    case nvz_zip => k_is
    case nvz_isinstance => k_is
    case nvz_bool => k_is
    case nvz_str => k_is
    case nvz_all => k_is
    case nvz_enumerate => k_is
    case nvz_max => k_is
    case nvz_min => k_is
    case nvhOB => kernel_rfl
    case nvhMc => kernel_rfl
    case nveM => kernel_rfl
    case nveN => kernel_rfl
    case nveO => kernel_rfl
    case nveW => kernel_rfl
    case nveG => kernel_rfl
    case nveB => kernel_rfl
    case nvhBx => kernel_rfl
    case nvtG =>
      refine' NvI.init_mk ?nvic ?nvl1 ?nvc1 ?nvl2 ?nvv2 ?nvfl ?nvl3 ?nvev ?nvl4 ?nvrl ?nvob ?nvnb PySem.F.excBase_LookupError ?nvti ?nvself ?nvup ?nvisb ?nvstat ?nvsa ?nvnof (PySem.NvE.inF_of PySem.F.excBase_LookupError PySem.W.kxs_LookupError) ?nvsup (by decide +kernel) (by decide +kernel) (by decide +kernel) (by decide +kernel) (by decide +kernel) (by decide +kernel) (by decide +kernel) (fun _ _ _ _ _ _ _ _ _ _ _ => rfl)
      case nvic => k_is
      case nvl1 => k_is
      case nvc1 => k_is
      case nvl2 => k_is
      case nvv2 => rfl
      case nvfl => decide +kernel
      case nvl3 => k_is
      case nvev => exact fun _ _ _ _ => ⟨_, rfl⟩
      case nvl4 => k_is
      case nvrl => exact fun _ => rfl
      case nvob => decide +kernel
      case nvnb => exact ⟨by decide +kernel, by decide +kernel, by decide +kernel⟩
      case nvti => k_is
      case nvself => k_is
      case nvup => kernel_rfl
      case nvisb => k_is
      case nvstat => k_is
      case nvsa => k_is
      case nvnof => k_is
      case nvsup => k_is
    case nvmBI => (refine' M3.binit_at ?i ?mk ?fn ?kp ?l ?c ?k; (case i => k_is); (case mk => k_is); (case fn => k_is); (case kp => k_is); (case l => k_is); (case c => k_is); (case k => k_is))
    case nvmCl => (refine' M3.call_mk ?a ?f ?i ?l ?c ?k; (case a => k_is); (case f => k_is); (case i => k_is); (case l => k_is); (case c => k_is); (case k => k_is))
    case nvtN =>
      refine' NvI.init_mk ?nvic ?nvl1 ?nvc1 ?nvl2 ?nvv2 ?nvfl ?nvl3 ?nvev ?nvl4 ?nvrl ?nvob ?nvnb PySem.F.excBase_RuntimeError ?nvti ?nvself ?nvup ?nvisb ?nvstat ?nvsa ?nvnof (PySem.NvE.inF_of PySem.F.excBase_RuntimeError PySem.W.kxs_RuntimeError) ?nvsup (by decide +kernel) (by decide +kernel) (by decide +kernel) (by decide +kernel) (by decide +kernel) (by decide +kernel) (by decide +kernel) (fun _ _ _ _ _ _ _ _ _ _ _ => rfl)
      case nvic => k_is
      case nvl1 => k_is
      case nvc1 => k_is
      case nvl2 => k_is
      case nvv2 => rfl
      case nvfl => decide +kernel
      case nvl3 => k_is
      case nvev => exact fun _ _ _ _ => ⟨_, rfl⟩
      case nvl4 => k_is
      case nvrl => exact fun _ => rfl
      case nvob => decide +kernel
      case nvnb => exact ⟨by decide +kernel, by decide +kernel, by decide +kernel⟩
      case nvti => k_is
      case nvself => k_is
      case nvup => kernel_rfl
      case nvisb => k_is
      case nvstat => k_is
      case nvsa => k_is
      case nvnof => k_is
      case nvsup => k_is
    case nvmMI => (refine' M3.init_at ?i ?mk ?fn ?kp ?l ?c ?lT ?lB; (case i => k_is); (case mk => k_is); (case fn => k_is); (case kp => k_is); (case l => k_is); (case c => k_is); (case lT => k_is); (case lB => k_is))
    case nvpBLet => (refine' M3.prop_mk ?a ?g ?t ?r ?l ?c ?k; (case a => k_is); (case g => k_is); (case t => k_is); (case r => k_is); (case l => k_is); (case c => k_is); (case k => k_is))
    case nvpBTab => (refine' M3.prop_mk ?a ?g ?t ?r ?l ?c ?k; (case a => k_is); (case g => k_is); (case t => k_is); (case r => k_is); (case l => k_is); (case c => k_is); (case k => k_is))
    case nvmBEq => (refine' M3.met_mk ?a ?f ?l ?c ?k; (case a => k_is); (case f => k_is); (case l => k_is); (case c => k_is); (case k => k_is))
    case nvmBChk => (refine' M3.met_mk ?a ?f ?l ?c ?k; (case a => k_is); (case f => k_is); (case l => k_is); (case c => k_is); (case k => k_is))
    case nvmBLag => (refine' M3.met_mk ?a ?f ?l ?c ?k; (case a => k_is); (case f => k_is); (case l => k_is); (case c => k_is); (case k => k_is))
    case nvmBFw => (refine' M3.met_mk ?a ?f ?l ?c ?k; (case a => k_is); (case f => k_is); (case l => k_is); (case c => k_is); (case k => k_is))
    case nvmBoxLen => (refine' M3.met_mk ?a ?f ?l ?c ?k; (case a => k_is); (case f => k_is); (case l => k_is); (case c => k_is); (case k => k_is))
    case nvmBLean => (refine' M3.met_mk ?a ?f ?l ?c ?k; (case a => k_is); (case f => k_is); (case l => k_is); (case c => k_is); (case k => k_is))
    case nvmBMach => (refine' M3.met_mk ?a ?f ?l ?c ?k; (case a => k_is); (case f => k_is); (case l => k_is); (case c => k_is); (case k => k_is))
    case nvpPropL => (refine' M3.prop_mk ?a ?g ?t ?r ?l ?c ?k; (case a => k_is); (case g => k_is); (case t => k_is); (case r => k_is); (case l => k_is); (case c => k_is); (case k => k_is))
    case nvpPropT => (refine' M3.prop_mk ?a ?g ?t ?r ?l ?c ?k; (case a => k_is); (case g => k_is); (case t => k_is); (case r => k_is); (case l => k_is); (case c => k_is); (case k => k_is))
    case nvpPropE => (refine' M3.prop_mk ?a ?g ?t ?r ?l ?c ?k; (case a => k_is); (case g => k_is); (case t => k_is); (case r => k_is); (case l => k_is); (case c => k_is); (case k => k_is))
    case nvmLen => (refine' M3.met_mk ?a ?f ?l ?c ?k; (case a => k_is); (case f => k_is); (case l => k_is); (case c => k_is); (case k => k_is))
    case nvmContains => (refine' M3.met_mk ?a ?f ?l ?c ?k; (case a => k_is); (case f => k_is); (case l => k_is); (case c => k_is); (case k => k_is))
  case nvC => exact PySem.W.codeHd_of_K KX (by kernel_rfl)
