import PyProof.Rows.All
import Wide.All
import OpenK.AllK
import Wide.FinOn
import KE.KExcSuper
import HandS.ForMost
import HandS.Exc
import HandS.ExcOwn
import HandS.ExcInit
import HandS.ExcValue
import HandS.ExcIs
import HandS.ExcField
import HandS.IsInst
import KE.GoesNew
import KE.GoesMore
import HandS.Iter
import HandS.Walk
import KE.KFmtOwn
import HandS.Base
import HandS.Call
import HandS.List
import HandS.Text
import HandS.Dict
import HandS.DictEq
import HandS.Defaults
import HandS.Property
import HandS.Wide
import PyProof.Rows.ListStrD
import HandS.Conv
import HandS.Zip
import HandS.TupAny
import HandS.Replace
import HandS.WordsExc
import HandS.Codes
import HandS.DictComp
import HandS.FStr
import HandS.Ends
import HandS.Words
import PySem.Challenge.RW_neverturns_k03_machines_as_values
set_option Elab.async false
set_option linter.all false
set_option maxRecDepth 100000
set_option maxHeartbeats 4000000
/-! # Own exceptions whose __init__ calls super's, over any built-in base -/
namespace PySem
namespace NvE
open PySem.W PySem.Calls PyProof.Rows
/-- the __init__ of a built-in exception class, as super() finds it -/
structure InF (B i : String) : Prop where
  entry : entryFor table i = some Builtin.«BaseException.__init__»
  kind : builtinKind i = some .slot
  row : Manifest.signature? i = some ⟨.positional, "*", B, .self, [⟨"args", .varPos, false⟩]⟩
  star : (B != "*") = true
  plain : plainId i = true
  kf : KxsFacts B i
theorem inF_of {B n i : String} {bm : List Value} (F : ExcBaseFacts B n i bm) (k : KxsFacts B i) : InF B i := ⟨F.initEntry, F.initKind, F.initRow, F.noStar, F.init.plain, k⟩
theorem kf_KeyError : KxsFacts "KeyError" "KeyError.__init__" :=
  ⟨by show builtinType _ = _; rw [builtinType_eq_fast]; kernel_rfl, by first | kernel_rfl | rfl⟩
theorem inF_KeyError : InF "KeyError" "KeyError.__init__" where
  entry := PyProof.Rows.excClass_KeyError.initEntry
  kind := by decide +kernel
  row := by kernel_rfl
  star := by decide
  plain := by decide +kernel
  kf := kf_KeyError
section
variable {prog : Program} {w : World} {M : Model} {A : Around} {E : Value → Shared → Prop} {h : Heap} {g : Array GenState} {d : Drawn} {t : Nat} {os : OsState}
variable {nm q : Str} {C N : Addr} {bs bm : List Value} {hdct : Bool} {sn : List Str} {sub : List Value} {ab : Bool} {col : Option Bool} {dd : Option Addr} {k0 k1 k2 k3 k5 : Option Value} {B newId i : String}
theorem bound_ok (F : InF B i) {e : Addr} {oe : Obj} {rest : List Value} {Q : Unit → Shared → Prop}
    (hC : h.get? C = some (excClassObj nm q C N bs bm hdct sn sub ab col dd k0 k1 k2 k3 k5 newId)) (he : h.get? e = some oe) (hcls : oe.cls = .ref C)
    (hq : Q () ⟨h, g, d, t, os⟩) : wpAny M A (checkBoundCall i ⟨.ref e :: rest, []⟩) Q E ⟨h, g, d, t, os⟩ := by
  have hs := F.star
  simp only [checkBoundCall, F.kind, F.row]
  repeat (first
    | (with_reducible refine wpAny_loadPart_at he ?_; rw [hcls])
    | with_reducible refine wpAny_loadPart_at hC ?_
    | wp_step)
  refine wpAny_onRaise ?_
  have z : ∀ (a b : String) (n : Nat), Bind.check ⟨.positional, "*", B, .self, [⟨"args", .varPos, false⟩]⟩ a b n (List.map (fun x => x.fst) ({ pos := Value.ref e :: rest } : Args).kw) = pure () :=
    fun a b n => check_star_args _ _ _ _ _ _
  rw [z]
  exact wpAny_pure hq
/-- the bound built-in __init__ is called: the args are laid anew -/
theorem call_mw (F : InF B i) {u e t0 : Addr} {rest : List Value} {Q : Value → Shared → Prop}
    (hC : h.get? C = some (excClassObj nm q C N bs bm hdct sn sub ab col dd k0 k1 k2 k3 k5 newId)) (he : h.get? e = some (HandSPX.excO C t0)) (hu : h.get? u = some (kxs_mw i e)) (hz : rest.length ≤ sizeLine)
    (hq : ∀ h' t1, (∀ b o, b ≠ e → h.get? b = some o → h'.get? b = some o) → h'.get? e = some (HandSPX.excO C t1) → Q .none ⟨h', g, d, t, os⟩) :
    wpAny (model prog w) A (call (.ref u) rest) Q E ⟨h, g, d, t, os⟩ := by
  refine wpAny_call (codeAny_of_tree ?_)
  show wpAny _ A.in1 (callAny (.ref u) ⟨rest, []⟩) _ _ _
  simp only [callAny]
  refine wpAny_bind (wpAny_load hu ?_)
  have yes : (Value.type "method-wrapper" == Value.type "method" || Value.type "method-wrapper" == Value.type "builtin_function_or_method" || Value.type "method-wrapper" == Value.type "method-wrapper") = true := by decide
  simp only [kxs_mw, yes, if_true]
  refine KFB.if_so (by decide) ?_
  refine wpAny_bind (bound_ok F hC he rfl ?_)
  refine wpAny_bind (wpAny_pure (wpAny_pure ?_))
  refine ⟨plainId_quiet F.plain _, codeAny_builtin F.entry ?_⟩
  refine exc_init_tree (cls := .ref C) (t0 := t0) (dv := none) (c2 := .none) (c3 := .none) (b4 := .bool false) he hz fun h' k e' _ => ?_
  exact hq h' _ k e'
end
/-! ### the text of such an __init__ -/
/-- what the chain of bases says, as the making asks it -/
structure NewOk (bm : List Value) (B : String) : Prop where
  hasB : bm.contains (.type B) = true
  noA : bm.contains (.type "AttributeError") = false
  noN : bm.contains (.type "NameError") = false
def iArgs (f : String) (p1 p2 : Pos) : Arguments :=
  { posonlyargs := [], args := [{ arg := "self", annotation := none, pos := p1 }, { arg := Str.ofString f, annotation := none, pos := p2 }], vararg := none, kwonlyargs := [], kw_defaults := [], kwarg := none, defaults := [] }
def iBody (f : String) (msg : Str) (j : Nat) (p0 p1 p2 p3 p4 p5 q1 q2 q3 q4 : Pos) : List Stmt :=
  [.Expr (.Call (.Attribute (.Call (.Name "super" p0) [] [] p1) "__init__" p2) [.Constant (.str msg) j p3] [] p4) p5,
   .Assign [.Attribute (.Name "self" q1) (Str.ofString f) q2] (.Name (Str.ofString f) q3) q4]
def iScope (f : String) : Scope :=
  { kind := .function, names := [("self", .local), (Str.ofString f, .local), ("__class__", .free), ("super", .globalImplicit)], isGenerator := false, isCoroutine := false, more := [] }
/-- how super().__init__(msg) is evaluated: a method's call (it hangs on the places alone) -/
def EvOk (env : Env) (msg : Str) (j : Nat) (a0 a1 a2 a3 a4 : Pos) : Prop := ∃ pl : Sem Bool,
  eval (.Call (.Attribute (.Call (.Name "super" a0) [] [] a1) "__init__" a2) [.Constant (.str msg) j a3] [] a4) env = (do
    let ov ← attributeBase (.Call (.Name "super" a0) [] [] a1) "__init__" env (eval (.Call (.Name "super" a0) [] [] a1) env)
    standAt a2.atName
    let (f, first) ← holding [ov] (getMethod ov "__init__" pl)
    callWith a4 f first (backTo a4 (starEach [.Constant (.str msg) j a3] env)) [])
/-- what the written part says of such a class at C, its __init__ at fI -/
structure InitTxt (prog : Program) (K : Frag) (C fI : Addr) (B i B0 newId : String) (f : String) (qual : Str) : Prop where
  fn : ∃ (oc : Value) (od : Option Addr) (doc pm : Value) (an : Option Addr) (cda : Addr) (ct : Value) (cc : Addr) (osl : Array (Option Value)) (msg : Str) (j : Nat) (p1 p2 a0 a1 a2 a3 a4 a5 q1 q2 q3 q4 : Pos),
    K.lookup fI = some ⟨oc, od, .func (ksFn "__init__" qual (iArgs f p1 p2) (iBody f msg j a0 a1 a2 a3 a4 a5 q1 q2 q3 q4) (iScope f) .none .none doc pm an (.ref cda) ct cc), osl⟩ ∧ codeIn K (.ref cda) qual = true ∧
    (∃ (ccl : Value) (cdd : Option Addr) (vs : Array Value) (ccs : Array (Option Value)) (file : Str) (tf : Tok), K.lookup cda = some ⟨ccl, cdd, .fields vs, ccs⟩ ∧ vs[2]? = some (.str file tf) ∧ ((prog.main.file : Str) == file) = true) ∧
    (∃ (cl : Value) (cld : Option Addr) (csl : Array (Option Value)), K.lookup cc = some ⟨cl, cld, .cell (some (.ref C)), csl⟩) ∧ (∀ L a cd c2, EvOk (ksEnv qual (iScope f) L a cd c2) msg j a0 a1 a2 a3 a4)
  cls : ∃ nm q N bs bm sn sub ab col dd k0 k1 k2 k3 k5, K.lookup C = some (excClassObj nm q C N bs bm true sn sub ab col dd k0 k1 k2 k3 k5 newId) ∧ (∀ self, refuseLoop self "__setattr__" (.ref C :: bm) = pure ()) ∧ bm.contains (.type "object") = true ∧ NewOk bm B0
  newF : ∃ i0 bmB, ExcBaseFacts B0 newId i0 bmB
  iC : findIn K (.ref C) "__init__" = some (some (.ref fI))
  tI : typeIn K (.ref fI) = some (.type "function")
  self : mroIn K C (.ref C) = some true
  up : ks_superIn K C C "__init__" = some (some (.builtin i))
  isB : subIn K (.ref C) (.type B) = some true
  stat : nsIn K cStatics "thirdparty.any" = some none
  sa : findIn K (.ref C) "__setattr__" = some (some (.builtin "object.__setattr__"))
  noF : findIn K (.ref C) (Str.ofString f) = some none
  inF : InF B i
  sup : nsIn K mainGlobals "super" = some none
  top : (prog.main.scope.names.lookup ("super" : Str)).isSome = false
  fs : (Str.ofString f == ("self" : Str)) = false
  fsup : (iScope f).names.lookup ("super" : Str) = some .globalImplicit
  fcl : (iScope f).names.lookup ("__class__" : Str) = some .free
  ff : (iScope f).names.lookup (Str.ofString f) = some .local
  fdb : (Str.ofString f == ("__debug__" : Str)) = false
  ncell : ∀ x ∈ (iScope f).names, x.2 ≠ .cell
  bd : ∀ (b : List Stmt) (doc pm ct cv : Value) (an : Option Addr) (cc : Addr) (p1 p2 : Pos) (x v : Value), bindArgs (ksFn "__init__" qual (iArgs f p1 p2) b (iScope f) .none .none doc pm an cv ct cc) ⟨[x, v], []⟩ = pure [(("self" : Str), x), (Str.ofString f, v)]
section
open Builtin Builtin.ObjectAttr
variable {prog : Program} {w : World} {A : Around} {E : Value → Shared → Prop} {R : Result → Shared → Prop} {hp : Heap} {g : Array GenState} {d : Drawn} {t : Nat} {os : OsState}
/-- self.name = v on an exception that has no dict yet, whatever its bases -/
theorem osa_any {K : Frag} {name : Str} {tk : Tok} {v : Value} {x C : Addr} {fv : Array Value} {cd : ClassData}
    (X : K.In hp) (hx : hp.get? x = some { cls := .ref C, data := .fields fv }) (hcd : clsIn K C = some cd) (hp0 : refuseLoop (.ref x) "__setattr__" cd.mro = pure ()) (hob : cd.mro.contains (.type "object") = true) (hne : cd.mro.isEmpty = false)
    (hh : cd.hasDict = true) (ha : findIn K (.ref C) name = some none)
    (hq : ∀ h' tk' dx, (∀ b o, b ≠ x → hp.get? b = some o → h'.get? b = some o) → hp.objs.size ≤ dx → dx ≠ x → h'.get? x = some { cls := .ref C, dict := some dx, data := .fields fv } →
      h'.Ns1 dx (fun y => if y = name then some v else none) → R (.ok (.ret .none)) ⟨h', g, d, tk', os⟩) :
    codeAny (model prog w) A (.call (.builtin "object.__setattr__") ⟨[.ref x, .str name tk, v], []⟩) R ⟨hp, g, d, t, os⟩ := by
  have I : InstAt hp x { cls := .ref C, data := .fields fv } C none := ⟨hx, rfl, rfl, trivial⟩
  have SF := F.store_object
  have hxs : x ≠ hp.objs.size := Nat.ne_of_lt (Heap.lt_size hx)
  have hm0 : mroIn K C (.type "object") = some true := by
    unfold mroIn
    rw [hcd, Option.bind_some, if_neg (by rw [hne]; decide), hob]
  have sub : Looks (model prog w) hp (isInstance (.ref x) (.type "object")) true := I.type.andThen (looks_mroIn X hm0)
  refine codeAny_call_builtin SF.slot.plain SF.entry (@check_slot (model prog w) _ _ ⟨hp, g, d, t, os⟩ "object.__setattr__" "object" "__setattr__" (.ref x) [.str name tk, v] [] _ SF.kind SF.split sub (SF.args (.ref x) (.str name tk) v) ?_)
  have hmr : Looks (model prog w) hp (mroOf (.ref C)) cd.mro := (looks_clsIn X hcd).andThen .now
  have L3 : Looks (model prog w) hp (storeTaker? none) none := .now
  have hcls : Looks (model prog w) hp (classData C) cd := looks_clsIn X hcd
  rw [osa_eq, refuse_eq]
  refine wpAny_bind (wpAny_bind (I.type.at (wpAny_bind (hmr.at ?_))))
  rw [hp0]
  refine wpAny_pure (wpAny_bind (I.type.at (wpAny_bind ((looks_findIn X ha).at (wpAny_bind (L3.at ?_))))))
  show wpAny _ _ (storeInOwnDict (.ref x) (.ref C) (.str name tk) name v false) _ _ _
  obtain ⟨nm, bs, mro, ns, qn, hd, sn, sb, ab, col, del⟩ := cd
  dsimp only at hh
  subst hh
  unfold storeInOwnDict ownDictForStores
  repeat (first
    | with_reducible refine HandSPX.store_in_new ?_ ?_
    | with_reducible refine wpAny_loadPart_at hx ?_
    | with_reducible refine hcls.at ?_
    | wp_step)
  · exact ⟨_, #[], _, (Heap.get?_update_ne _ _ _ _ hxs.symm).trans (Heap.get?_push_at rfl rfl), rfl, fun e he => absurd he (by simp), fun _ => rfl⟩
  · intro h' tk' hn' hs
    have hx₁ : (hp.push { cls := .type "dict", data := .dict #[] }).get? x = some { cls := .ref C, data := .fields fv } := Heap.get?_push_of_some _ hx
    refine hq h' tk' hp.objs.size (fun b o hb ho => ?_) (Nat.le_refl _) hxs.symm ?_ hn'
    · exact (hs.2 b (Nat.ne_of_lt (Heap.lt_size ho))).trans ((Heap.get?_update_ne _ _ _ _ hb).trans (Heap.get?_push_of_some _ ho))
    · exact (hs.2 x hxs).trans (Heap.get?_update_self _ hx₁ rfl)
end
section
variable {prog : Program} {w : World} {A : Around} {E : Value → Shared → Prop} {R : Result → Shared → Prop} {s : Shared} {K : Frag} {C fI : Addr} {B i B0 newId : String} {f : String} {qual : Str} {mg : Str → Option Value}
theorem init_super (T : InitTxt prog K C fI B i B0 newId f qual) {x t0 : Addr} {v : Value} (X : K.In s.heap) (G : s.heap.Ns mainGlobals mg) (BB : ∃ mb, s.heap.Ns builtinsNs mb ∧ ∀ y : Str, y ≠ "__name__" → mb y = bootBuiltins y) (hlim : s.heap.NoLimit)
    (hx : s.heap.get? x = some (HandSPX.excO C t0)) (hnK : K.lookup x = none) (room : A.depth < recursionLimit)
    (hq : ∀ h' tk dx t1, (∀ b o, b ≠ x → s.heap.get? b = some o → h'.get? b = some o) → s.heap.objs.size ≤ dx → dx ≠ x →
      h'.get? x = some { cls := .ref C, dict := some dx, data := .fields #[.ref t1, .none, .none, .none, .bool false, .none] } → h'.Ns1 dx (fun y => if y = Str.ofString f then some v else none) → R (.ok (.ret .none)) { s with heap := h', toks := tk }) :
    codeAny (model prog w) A (.call (.ref fI) ⟨[.ref x, v], []⟩) R s := by
  obtain ⟨oc, od, doc, pm, an, cda, ct, cc, osl, msg, j, p1, p2, a0, a1, a2, a3, a4, a5, q1, q2, q3, q4, lk, hcq, ⟨ccl, cdd, vs, ccs, file, tf, lcd, hvs, hfile⟩, ⟨cl, cld, csl, lcc⟩, hev⟩ := T.fn
  obtain ⟨nm, q, N, bs, bm, sn, sub, ab, col, dd, k0, k1, k2, k3, k5, hC, hpass, hob, _⟩ := T.cls
  have hnx : x ≠ C := fun z => by
    have e := X _ _ hC
    rw [← z, hx] at e
    cases e
  have hcl : clsIn K C = some { name := nm, bases := bs, mro := .ref C :: bm, ns := N, qualname := q, hasDict := true, slotNames := sn, subclasses := sub, abstract := ab, collection := col, hasDel := false } := by
    unfold clsIn
    rw [hC] <;> rfl
  have hself : (iScope f).names.lookup ("self" : Str) = some .local := by
    unfold iScope
    rfl
  have ls : List.lookup ("self" : Str) ([(("self" : Str), Value.ref x), (Str.ofString f, v)].reverse) = some (.ref x) := by
    show List.lookup ("self" : Str) [(Str.ofString f, v), (("self" : Str), Value.ref x)] = _
    have e : (("self" : Str) == Str.ofString f) = false := by
      have z := T.fs
      rw [beq_eq_false_iff_ne] at z ⊢
      exact fun y => z y.symm
    simp [List.lookup, e]
  have lf : List.lookup (Str.ofString f) ([(("self" : Str), Value.ref x), (Str.ofString f, v)].reverse) = some v := by
    show List.lookup (Str.ofString f) [(Str.ofString f, v), (("self" : Str), Value.ref x)] = _
    simp [List.lookup]
  refine ks_codeAny_call_defAt (binds := [(("self" : Str), .ref x), (Str.ofString f, v)]) room (X _ _ lk) rfl hlim (codeRec_of X hcq) rfl (BindsTo.of_eq (T.bd _ _ _ _ _ _ _ _ _ _ _)) T.ncell (fun y hy => ?_) (fun h₁ hns hk₁ => ?_)
  · rcases List.mem_cons.mp hy with e | hy
    · rw [e]
      exact hself
    · rcases List.mem_cons.mp hy with e | hy
      · rw [e]
        exact T.ff
      · cases hy
  · have X₁ : K.In h₁ := X.keeps hk₁
    have hx₁ := hk₁ _ _ hx
    have hC₁ := X₁ _ _ hC
    show _root_.PySem.wpAt (model prog w) (A.deeper (ksEnv qual (iScope f) s.heap.objs.size fI (.ref cda) cc)) (.func (iBody f msg j a0 a1 a2 a3 a4 a5 q1 q2 q3 q4) (ksEnv qual (iScope f) s.heap.objs.size fI (.ref cda) cc))
      (execs (iBody f msg j a0 a1 a2 a3 a4 a5 q1 q2 q3 q4) (ksEnv qual (iScope f) s.heap.objs.size fI (.ref cda) cc)) _ _ _
    obtain ⟨pl, hev⟩ := hev s.heap.objs.size fI (.ref cda) cc
    refine ks_wpAt_execs_cons (ks_wpAt_Expr_any (ks_wpAt_MethodCall (pl := pl) ?_ hev))
    refine ks_wpAt_super_base (env := ksEnv qual (iScope f) s.heap.objs.size fI (.ref cda) cc) T.fsup T.fcl (by decide) rfl (X₁ _ _ lk) rfl rfl rfl (X₁ _ _ lcd) rfl hvs hfile T.top ?_
    obtain ⟨mb, hb, hbb⟩ := BB
    have hsup : mg "super" = none := mg_none_of X G T.sup
    refine ks_loadName_global rfl T.fsup (loadGlobal_builtin (env := ksEnv qual (iScope f) s.heap.objs.size fI (.ref cda) cc) (G.keeps hk₁) hsup (hb.keeps hk₁) ((hbb _ (by decide +kernel)).trans (by decide +kernel)) ⟨rfl, ?_⟩)
    refine wpAny_loadName_free rfl T.fcl rfl ⟨_, X₁ _ _ lcc, rfl⟩ ?_
    refine wpAny_loadName_local rfl hself hns ls ?_
    refine ks_wpAny_isType_cls hC₁ rfl ⟨rfl, ?_⟩
    refine ks_wpAny_call_super hC₁ rfl hx₁ rfl (fun c e => nomatch e) (looks_mroIn X₁ T.self) (fun h₂ e₂ k₂ => ?_)
    have X₂ : K.In h₂ := X₁.keeps k₂
    have hx₂ := k₂ _ _ hx₁
    have I₂ : InstAt h₂ x (HandSPX.excO C t0) C none := ⟨hx₂, rfl, rfl, trivial⟩
    have hm := T.up
    unfold ks_superIn at hm
    rw [hcl] at hm
    refine kxs_getMethod T.inF.kf e₂ (looks_opaque X₂ T.stat) (l₀ := .ref C :: bm) ?_ rfl X₂ hm (I₂.type.andThen (looks_subIn X₂ T.isB)) hnx (by decide) ?_
    · exact (looks_clsIn X₂ hcl).andThen .now
    · have k₃ : ∀ b o, h₂.get? b = some o → (h₂.push (kxs_mw i x)).get? b = some o := fun b o e => Heap.get?_push_of_some _ e
      have hu : (h₂.push (kxs_mw i x)).get? h₂.objs.size = some (kxs_mw i x) := Heap.get?_push_at rfl rfl
      have hC₃ := k₃ _ _ (X₂ _ _ hC)
      have hx₃ := k₃ _ _ hx₂
      refine kxs_callWith (i := i) (x := x) rfl (evalArgs_plain ?_)
      show wpAny _ _ (spliced ((false, eval (.Constant (.str msg) j a3) _) :: backTo a4 (starEach [] _))) _ _ _
      refine Calls.spliced_cons (wpAny_Constant_str (Calls.spliced_nil ⟨hu, ?_⟩))
      refine call_mw T.inF hC₃ hx₃ hu (by show 1 ≤ sizeLine; rw [sizeLine_eq]; omega) (fun h₄ t1 k₄ hx₄ => ?_)
      refine wpAt_of_wpAny (wpAny_execs_cons (plainObj_wpAny_Assign_Attribute ?_))
      have hLx : s.heap.objs.size ≠ x := Nat.ne_of_gt (Heap.lt_size hx)
      have hns₄ : h₄.Ns s.heap.objs.size (fun y => List.lookup y ([(("self" : Str), Value.ref x), (Str.ofString f, v)].reverse)) := by
        obtain ⟨oL, es, ep, hL, r⟩ := hns
        exact ⟨oL, es, ep, k₄ _ _ hLx (k₃ _ _ (k₂ _ _ hL)), r⟩
      have X₄ : K.In h₄ := fun b o e => by
        by_cases hb : b = x
        · rw [hb, hnK] at e
          cases e
        · exact k₄ _ _ hb (k₃ _ _ (X₂ _ _ e))
      refine wpAny_Name (wpAny_loadName_local rfl T.ff hns₄ lf ?_) T.fdb
      refine wpAny_Name (wpAny_loadName_local rfl hself hns₄ ls ?_) (by decide)
      refine set_plain X₄ (ox := HandSPX.excO C t1) (od := none) ⟨hx₄, rfl, rfl, trivial⟩ T.sa ?_
      refine osa_any X₄ hx₄ hcl (hpass _) (by rw [List.contains_cons, hob, Bool.or_true]) rfl rfl T.noF (fun h₅ tk₅ dx k₅ dn dne hx₅ hn₅ => ?_)
      show wpAny _ _ (execs _ _) _ _ _
      refine wpAny_execs_nil ?_
      have z : s.heap.objs.size ≤ h₄.objs.size := Nat.le_of_lt hns₄.lt
      exact hq h₅ tk₅ dx t1 (fun b o hb e => k₅ b o hb (k₄ b o hb (k₃ _ _ (k₂ _ _ (hk₁ b o e))))) (Nat.le_trans z dn) dne hx₅ hn₅
/-- C(v): what is left of the call of such a class -/
structure ExMade (h h' : Heap) (e C d : Addr) (f : String) (v : Value) : Prop where
  keep : ∀ b o, h.get? b = some o → h'.get? b = some o
  new : h.objs.size ≤ e
  obj : ∃ t1 : Addr, h'.get? e = some ({ cls := .ref C, dict := some d, data := .fields #[.ref t1, .none, .none, .none, .bool false, .none] } : Obj)
  dbig : h.objs.size ≤ d
  dne : d ≠ e
  ns : h'.Ns1 d (fun y => if y = Str.ofString f then some v else none)
end
section
variable {prog : Program} {w : World} {M : Model} {A : Around} {E : Value → Shared → Prop} {R : Result → Shared → Prop} {h : Heap} {g : Array GenState} {d : Drawn} {t : Nat} {os : OsState}
variable {nm q : Str} {C N : Addr} {bs bm bmB : List Value} {hdct : Bool} {sn : List Str} {sub : List Value} {ab : Bool} {col : Option Bool} {dd : Option Addr} {k0 k1 k2 k3 k5 : Option Value} {B newId initId : String}
theorem chk_new (F : ExcBaseFacts B newId initId bmB) (O : NewOk bm B) {rest : List Value} {Q : Unit → Shared → Prop}
    (hC : h.get? C = some (excClassObj nm q C N bs bm hdct sn sub ab col dd k0 k1 k2 k3 k5 newId)) (hq : Q () ⟨h, g, d, t, os⟩) :
    wpAny M A (checkBuiltinCall newId ⟨.ref C :: rest, []⟩) Q E ⟨h, g, d, t, os⟩ := by
  have hcont : (Value.ref C :: bm).contains (.type B) = true := by rw [List.contains_cons, O.hasB, Bool.or_true]
  have hs := F.noStar
  simp only [checkBuiltinCall, F.newKind, F.newSplit, F.newRow]
  repeat (first
    | refine wpAny_loadPart_at hC ?_
    | (refine wpAny_isSubtype_exc hC ?_; rw [hcont])
    | refine wpAny_staticBase_exc hC ?_
    | refine wpAny_madeBy_exc hC ?_
    | simp only [bne_self_eq_false, Bool.false_eq_true, if_false]
    | wp_step)
  exact hq
theorem new_any (F : ExcBaseFacts B newId initId bmB) (O : NewOk bm B) {rest : List Value}
    (hC : h.get? C = some (excClassObj nm q C N bs bm hdct sn sub ab col dd k0 k1 k2 k3 k5 newId))
    (hq : R (.ok (.ret (.ref (h.objs.size + 1)))) ⟨(h.push (kdv_tup rest)).push (HandSPX.excO C h.objs.size), g, d, t, os⟩) (hrest : rest.length ≤ sizeLine) :
    codeAny (model prog w) A (.builtin newId ⟨.ref C :: rest, []⟩) R ⟨h, g, d, t, os⟩ := by
  have hends := F.ends
  have hcB : (Value.ref C :: bm).contains (.type B) = true := by rw [List.contains_cons, O.hasB, Bool.or_true]
  have hcA : (Value.ref C :: bm).contains (.type "AttributeError") = false := by rw [List.contains_cons, O.noA]; rfl
  have hcN : (Value.ref C :: bm).contains (.type "NameError") = false := by rw [List.contains_cons, O.noN]; rfl
  refine codeAny_builtinAt F.entry ?_
  unfold Builtin.«BaseException.__new__»
  refine wpAt_bind ?_
  show wpAt _ _ _ (stack >>= _) _ _ _
  refine wpAt_bind (wpAt_stack fun p below => wpAt_of_wpAny ?_)
  wp_walk
  refine wpAt_of_wpAny ?_
  rw [F.owner]
  repeat (first
    | with_reducible refine wpAny_madeHere_exc F.canon hC ?_
    | with_reducible refine wpAny_loadPart_at hC ?_
    | (with_reducible refine wpAny_isSubtype_exc hC ?_; first | rw [hcB] | rw [hcA] | rw [hcN])
    | wp_step)
  show R _ _
  rw [Heap.size_push]
  exact hq
theorem type_any (F : ExcBaseFacts B newId initId bmB) (O : NewOk bm B) {rest : List Value} {fI : Addr} {Q : Fin → Shared → Prop}
    (hC : h.get? C = some (excClassObj nm q C N bs bm hdct sn sub ab col dd k0 k1 k2 k3 k5 newId))
    (hi : Looks (model prog w) h (typeLookup (.ref C) "__init__") (some (.ref fI))) (hb : ∀ self, Looks (model prog w) h (bindSpecial (.ref fI) self) (.ref fI, [self])) (hrest : rest.length ≤ sizeLine)
    (hq : codeAny (model prog w) A (.call (.ref fI) ⟨.ref (h.objs.size + 1) :: rest, []⟩)
      (fun r s' => match r with
        | .ok (.ret v) => v = .none ∧ Q (.done (.ret (.ref (h.objs.size + 1)))) s'
        | .ok _ => False
        | .error e => E e s') ⟨(h.push (kdv_tup rest)).push (HandSPX.excO C h.objs.size), g, d, t, os⟩) :
    wpAny (model prog w) A (Builtin.«type.__call__» ⟨.ref C :: rest, []⟩) Q E ⟨h, g, d, t, os⟩ := by
  repeat (first
    | with_reducible refine wpAny_loadPart_at hC ?_
    | with_reducible refine wpAny_madeBy_exc hC ?_
    | wp_step)
  refine codeAny_call_builtin_code (Code.quiet_builtin _ F.quiet) (chk_new F O hC ?_)
  refine new_any F O hC ?_ hrest
  show wpAny _ _ _ _ _ _
  have k : ∀ b o, h.get? b = some o → ((h.push (kdv_tup rest)).push (HandSPX.excO C h.objs.size)).get? b = some o := fun b o e => Heap.get?_push_of_some _ (Heap.get?_push_of_some _ e)
  have hC₁ := k _ _ hC
  have hget : ((h.push (kdv_tup rest)).push (HandSPX.excO C h.objs.size)).get? (h.objs.size + 1) = some (HandSPX.excO C h.objs.size) := by heap_get
  have hcC : (Value.ref C :: bm).contains (.ref C) = true := by simp
  have i1 := hi.keeps k
  have b1 := (hb (.ref (h.objs.size + 1))).keeps k
  unfold isInstance
  repeat (first
    | with_reducible refine wpAny_loadPart_at hget ?_
    | (with_reducible refine wpAny_isSubtype_exc hC₁ ?_; rw [hcC])
    | wp_step)
  show wpAny _ _ (typeLookup (.ref C) _) _ _ _
  refine i1.at ?_
  refine wpAny_holding (wpAny_bind (b1.at ?_))
  refine wpAny_bind (wpAny_call (codeAny_mono hq fun r s' z => ?_))
  rcases r with e | (v | _ | _ | _) <;> first | exact z | exact z.elim | skip
  obtain ⟨rfl, z⟩ := z
  first
    | exact wpAny_pure (wpAny_pure z)
    | (wp_walk; exact z)
theorem call_any (F : ExcBaseFacts B newId initId bmB) (O : NewOk bm B) {rest : List Value} {fI : Addr}
    (hC : h.get? C = some (excClassObj nm q C N bs bm hdct sn sub ab col dd k0 k1 k2 k3 k5 newId))
    (hi : Looks (model prog w) h (typeLookup (.ref C) "__init__") (some (.ref fI))) (hb : ∀ self, Looks (model prog w) h (bindSpecial (.ref fI) self) (.ref fI, [self])) (hrest : rest.length ≤ sizeLine)
    (hq : codeAny (model prog w) (A.under (.builtin "type.__call__" ⟨.ref C :: rest, []⟩)) (.call (.ref fI) ⟨.ref (h.objs.size + 1) :: rest, []⟩) (InitBack (h.objs.size + 1) R)
      ⟨(h.push (kdv_tup rest)).push (HandSPX.excO C h.objs.size), g, d, t, os⟩) :
    codeAny (model prog w) A (.call (.ref C) ⟨rest, []⟩) R ⟨h, g, d, t, os⟩ := by
  have f1 := tc_lookup
  have f2 := tc_bind (.ref C)
  have hTy : (⟨h, g, d, t, os⟩ : Shared).TypeIs (.ref C) "type" := ⟨_, hC, rfl⟩
  refine codeAny_of_tree ?_
  show wpAny _ _ (callAny (.ref C) _) _ _ _
  repeat (any_goals (first | assumption | with_reducible refine wpAny_loadPart_at hC ?_ | wp_step))
  refine ⟨rfl, ?_⟩
  refine codeAny_call_builtin_at (Code.quiet_builtin _ (by decide +kernel)) entry_typeCall (wpAny_check_type_call_sub hC (type_any F O hC hi hb hrest ?_))
  refine codeAny_mono hq fun r s' z => ?_
  rcases r with e | (v | _ | _ | _) <;> exact z
end
section
variable {prog : Program} {w : World} {A : Around} {R : Result → Shared → Prop} {s : Shared} {K : Frag} {C fI : Addr} {B i B0 newId : String} {f : String} {qual : Str} {mg : Str → Option Value}
theorem one_ok (v : Value) : [v].length ≤ sizeLine := by
  show 1 ≤ sizeLine
  rw [sizeLine_eq]
  omega
theorem made (T : InitTxt prog K C fI B i B0 newId f qual) {v : Value} (X : K.In s.heap) (G : s.heap.Ns mainGlobals mg) (BB : ∃ mb, s.heap.Ns builtinsNs mb ∧ ∀ y : Str, y ≠ "__name__" → mb y = bootBuiltins y) (hlim : s.heap.NoLimit)
    (room : A.depth + 1 < recursionLimit) (hq : ∀ h' tk e d, ExMade s.heap h' e C d f v → R (.ok (.ret (.ref e))) { s with heap := h', toks := tk }) :
    codeAny (model prog w) A (.call (.ref C) ⟨[v], []⟩) R s := by
  obtain ⟨nm, q, N, bs, bm, sn, sub, ab, col, dd, k0, k1, k2, k3, k5, hC, _, _, O⟩ := T.cls
  obtain ⟨i0, bmB, FB⟩ := T.newF
  obtain ⟨hp, g, dr, tk, os⟩ := s
  have k : ∀ b o, hp.get? b = some o → ((hp.push (kdv_tup [v])).push (HandSPX.excO C hp.objs.size)).get? b = some o := fun b o e => Heap.get?_push_of_some _ (Heap.get?_push_of_some _ e)
  have hget : ((hp.push (kdv_tup [v])).push (HandSPX.excO C hp.objs.size)).get? (hp.objs.size + 1) = some (HandSPX.excO C hp.objs.size) := by heap_get
  have hnK : K.lookup (hp.objs.size + 1) = none := by
    cases e : K.lookup (hp.objs.size + 1) with
    | none => rfl
    | some o =>
      have z : hp.get? (hp.objs.size + 1) = some o := X _ _ e
      exact absurd (Nat.lt_of_succ_lt (Heap.lt_size z)) (Nat.lt_irrefl _)
  refine call_any FB O (X _ _ hC) (looks_findIn X T.iC) (fun self => bind_fn X self T.tI) (one_ok v) ?_
  refine init_super (s := ⟨(hp.push (kdv_tup [v])).push (HandSPX.excO C hp.objs.size), g, dr, tk, os⟩) T (X.keeps k) (G.keeps k) (let ⟨mb, h1, h2⟩ := BB; ⟨mb, h1.keeps k, h2⟩) (hlim.keeps k) hget hnK ?_ fun h' tk' dx t1 k' dn dne hx hns => ?_
  · show A.depth + 1 < recursionLimit
    exact room
  · have old : ∀ b o, hp.get? b = some o → h'.get? b = some o := fun b o e => k' b o (Nat.ne_of_lt (Nat.lt_succ_of_lt (Heap.lt_size e))) (k b o e)
    have z : hp.objs.size + 1 + 1 ≤ dx := by
      have q := dn
      rw [Heap.size_push, Heap.size_push] at q
      exact q
    exact ⟨rfl, hq h' tk' (hp.objs.size + 1) dx ⟨old, Nat.le_succ _, ⟨t1, hx⟩, Nat.le_trans (Nat.le_trans (Nat.le_succ _) (Nat.le_succ _)) z, dne, hns⟩⟩
end
end NvE
end PySem

set_option Elab.async false
set_option linter.all false
set_option maxRecDepth 100000
set_option maxHeartbeats 4000000
/-! # Rules over the hand layer: such exceptions raised, held as values, asked for their class and their fields -/
namespace L2
open PySem PySem.Spec PyProof.Rows
theorem relO_one {f : Str} {v : V} {u : Value} (r : RelV v u) (y : Str) : RelO (List.lookup y [(f, v)]) (if y = f then some u else none) := by
  by_cases h : y = f
  · subst h
    rw [if_pos rfl]
    have q : List.lookup y [(y, v)] = some v := by simp [List.lookup]
    rw [q]
    exact r
  · rw [if_neg h]
    have e : (y == f) = false := by simpa using h
    have q : List.lookup y [(f, v)] = none := by simp [List.lookup, e]
    rw [q]
    trivial
section
variable {X : Cx} {C fI : Addr} {B i B0 newId : String} {f : String} {qual : Str}
/-- what the rules ask of the class x at C, whose __init__ keeps its argument in the field f -/
structure KeepC (X : Cx) (x : Str) (C : Addr) (f : String) : Prop where
  tx : ∃ (fI : Addr) (B i B0 newId : String) (qual : Str), PySem.NvE.InitTxt X.prog X.K C fI B i B0 newId f qual
  gC : X.mg x = some (.ref C)
  kC : PySem.W.keepIn X.K (.ref C) = true
  exC : PySem.W.subIn X.K (.ref C) (.type "BaseException") = some true
  tyC : PySem.W.typeIn X.K (.ref C) = some (.type "type")
theorem call_keep {x : Str} {f : String} (T : KeepC X x C f) {pins : List (Addr × Obj)} {σ : St} {H : Hp} {s : Shared} {u : Value} {Q : Value → Shared → Prop} {E : Value → Shared → Prop} (I : Inv X pins σ H s) (room : X.A.depth + 1 < recursionLimit)
    (hq : ∀ h' tk e d, PySem.NvE.ExMade s.heap h' e C d f u → Q (.ref e) { s with heap := h', toks := tk }) : wpAny (model X.prog X.w) X.A (call (.ref C) [u]) Q E s := by
  obtain ⟨fI, B, i, B0, newId, qual, T0⟩ := T.tx
  refine wpAny_call (PySem.NvE.made T0 I.kIn (I.mod.glob.keeps I.bk) (let ⟨mb, h1, h2⟩ := I.mod.blt; ⟨mb, h1.keeps I.bk, h2⟩) I.nolimit room fun h' tk e d M => ?_)
  exact hq h' tk e d M
/-- X(e), to be raised -/
def tMkKeep (C : Addr) (f : String) (ta : TA) : St → Hp → XK → Prop := fun σ H Q => ta σ H fun vs H1 => ∃ v, vs = [v] ∧ ∀ d, H1 d = none → Q (.ref C) (some d) (upd H1 d (.xd [(Str.ofString f, v)]))
theorem pmk_keep {x : Str} {f : String} {a : Expr} {ta : TA} {p pos : Pos} {k : Nat} (T : KeepC X x C f) (hr : Room k X.A) (ha : PA X [a] ta) (hg : Gl X x := by rfl) (hdb : (x == ("__debug__" : Str)) = false := by decide)
    (he : starEach (a :: []) X.env = (false, eval a X.env) :: starEach [] X.env := by rfl) (hpl : (backTo pos (starEach [] X.env)).any (·.1) = false := by rfl) :
    PMk X (.Call (.Name x p) [a] [] pos) (tMkKeep C f ta) := by
  intro pins s σ H Q I h
  refine wpAny_Call_Name_kw (ld_glob I hg T.gC ?_ hdb)
  refine PySem.W.callWith_K (h₀ := X.base) I.ok.mod.kin T.kC (thn (ha.run pos pins s σ H _ I h) fun us s1 hh => ?_) he hpl
  obtain ⟨vs, H1, I1, r1, v, ev, q1⟩ := hh
  subst ev
  refine ⟨I1.kIn, ?_⟩
  cases r1 with
  | cons rv rn =>
    rename_i v' us'
    cases rn
    show wpAny _ _ (call (.ref C) [v']) _ _ _
    refine call_keep T I1 (by have := hr.dp; omega) fun h' tk' e d M => ?_
    obtain ⟨hp, g, dr, tk, os⟩ := s1
    show MkP X pins σ Q (.ref e) ⟨h', g, dr, tk', os⟩
    obtain ⟨t1, hoe⟩ := M.obj
    have hns := M.ns
    obtain ⟨G', g1, g2⟩ := restrict h' fun b => decide (b ≠ e)
    have gk : ∀ b, b ≠ e → G'.get? b = h'.get? b := fun b hb => g1 b (decide_eq_true hb)
    have ge : G'.get? e = none := g2 e (by simp)
    have old : ∀ b o, hp.get? b = some o → G'.get? b = some o := fun b o q => (gk b (Nat.ne_of_lt (Nat.lt_of_lt_of_le (Heap.lt_size q) M.new))).trans (M.keep b o q)
    have ob : ObjOk X.prog X.w (upd H1 d (.xd [(Str.ofString f, v)])) G' d (.xd [(Str.ofString f, v)]) := ⟨_, hns.at (fun o q => (gk d M.dne).trans q), fun y => relO_one rv y⟩
    have J : Inv X pins σ (upd H1 d (.xd [(Str.ofString f, v)])) ⟨G', g, dr, tk', os⟩ := I1.laid (t' := tk') old M.dbig ob
    refine ⟨e, _, _, ⟨G', g, dr, tk', os⟩, _, .ref C, some d, rfl, J, fun b o q => ?_, ge, hoe, ⟨rfl, rfl⟩, rfl, rfl, ?_, rfl, I1.bare, raises_own T.exC T.tyC, q1 d (I1.hok.fresh M.dbig)⟩
    · by_cases hb : b = e
      · have q' : G'.get? b = some o := q
        rw [hb, ge] at q'
        cases q'
      · exact (gk b hb).symm.trans q
    · rw [upd_ne (Ne.symm M.dne)]
      exact I1.hok.fresh M.new
/-- X(e) as a value: a new exception object and its dict -/
def tKeep (C : Addr) (f : String) (ta : TA) : TE := fun σ H Q => ta σ H fun vs H1 => ∃ v, vs = [v] ∧ ∀ a d, H1 a = none → H1 d = none → d ≠ a → Q (.ref a) (upd (upd H1 d (exd d [(Str.ofString f, v)])) a (exo a C (some d)))
theorem pe_keep {x : Str} {f : String} {a : Expr} {ta : TA} {p pos : Pos} {k : Nat} (T : KeepC X x C f) (hr : Room k X.A) (ha : PA X [a] ta) (hg : Gl X x := by rfl) (hdb : (x == ("__debug__" : Str)) = false := by decide)
    (he : starEach (a :: []) X.env = (false, eval a X.env) :: starEach [] X.env := by rfl) (hpl : (backTo pos (starEach [] X.env)).any (·.1) = false := by rfl) :
    PE X (.Call (.Name x p) [a] [] pos) (tKeep C f ta) := by
  refine ⟨fun pins s σ H Q I h => ?_⟩
  refine wpAny_Call_Name_kw (ld_glob I hg T.gC ?_ hdb)
  refine PySem.W.callWith_K (h₀ := X.base) I.ok.mod.kin T.kC (thn (ha.run pos pins s σ H _ I h) fun us s1 hh => ?_) he hpl
  obtain ⟨vs, H1, I1, r1, v, ev, q1⟩ := hh
  subst ev
  refine ⟨I1.kIn, ?_⟩
  cases r1 with
  | cons rv rn =>
    rename_i v' us'
    cases rn
    show wpAny _ _ (call (.ref C) [v']) _ _ _
    refine call_keep T I1 (by have := hr.dp; omega) fun h' tk' e d M => ?_
    obtain ⟨t1, hoe⟩ := M.obj
    have hns := M.ns
    have ne := I1.hok.fresh M.new
    have nd := I1.hok.fresh M.dbig
    have be : ∀ {b : Addr} {o : Obj}, s1.heap.get? b = some o → b ≠ e := fun {b o} q => Nat.ne_of_lt (Nat.lt_of_lt_of_le (Heap.lt_size q) M.new)
    have bd : ∀ {b : Addr} {o : Obj}, s1.heap.get? b = some o → b ≠ d := fun {b o} q => Nat.ne_of_lt (Nat.lt_of_lt_of_le (Heap.lt_size q) M.dbig)
    have U : Un X.fs [] H1 (upd (upd H1 d (exd d [(Str.ofString f, v)])) e (exo e C (some d))) s1.heap h' := {
      keep := fun b o q _ _ _ => M.keep b o q
      slot := fun b o q _ _ _ => ⟨o.slots, M.keep b o q⟩
      free := fun b o q n _ => by
        rw [upd_ne (be q), upd_ne (bd q)]
        exact n
      there := fun b o q _ => ⟨o, M.keep b o q⟩
      tups := fun b xs q => by
        rw [upd_ne (ne_of_none q ne), upd_ne (ne_of_none q nd)]
        exact q
      frzs := fun b o u q => by
        rw [upd_ne (ne_of_none q ne), upd_ne (ne_of_none q nd)]
        exact q
      tbls := fun b ps q => ⟨#[], by
        rw [upd_ne (ne_of_none q ne), upd_ne (ne_of_none q nd), q]
        simp⟩ }
    have ok : HOk X.prog X.w (upd (upd H1 d (exd d [(Str.ofString f, v)])) e (exo e C (some d))) h' := fun b o q => by
      by_cases hb : b = e
      · subst hb
        rw [upd_same] at q
        cases q
        exact exo_ok hoe
      · rw [upd_ne hb] at q
        by_cases hd : b = d
        · subst hd
          rw [upd_same] at q
          cases q
          exact exd_ok hns (relO_one rv)
        · rw [upd_ne hd] at q
          refine (I1.hok b o q).stay (fun c u _ z => M.keep c u z) (fun c z => ?_) (fun c xs z => ?_)
          · rw [upd_ne (ne_of_none z ne), upd_ne (ne_of_none z nd)]
            exact z
          · rw [upd_ne (ne_of_none z ne), upd_ne (ne_of_none z nd)]
            exact z
    exact ⟨.ref e, _, I1.un (t' := tk') U ok, rfl, q1 e d ne nd M.dne⟩
end
end L2

set_option Elab.async false
set_option linter.all false
set_option maxRecDepth 100000
set_option maxHeartbeats 8000000
/-! # zip of two texts -/
namespace NvZ
open PySem PySem.Spec PyProof.Rows L2
def ItzS (x y : Str) : It := ⟨fun i _ => i < min x.cps.size y.cps.size,
  fun i H v H' => ∃ (T : Addr) (a b : Nat), v = .ref T ∧ H T = none ∧ H' = upd H T (.tup [.str ⟨#[a]⟩, .str ⟨#[b]⟩]) ∧ x.cps[i]? = some a ∧ y.cps[i]? = some b,
  fun i _ => i = min x.cps.size y.cps.size⟩
theorem turn_zipS {P : Program} {w : World} {K : PySem.W.Frag} {elts : List Expr} {kk : Nat} {tpos : Pos} {x y : Str} {t1 t2 : Tok} {z TI TO i1 i2 : Addr} (S : ZipSep2 z TI TO i1 i2 [i1] [i2]) :
    Turn P w K (.Tuple elts kk tpos) (ItzS x y) (z :: TI :: TO :: ([i1] ++ [i2])) z (fun i h => IsZip h z TI TO .none ∧ IsTupOf2 h TI (.ref i1) (.ref i2) ∧ (∃ a1 a2, IsTupOf2 h TO a1 a2) ∧ h.IsStrIter i1 (strIterType x) x t1 i ∧ h.IsStrIter i2 (strIterType y) y t2 i) where
  mem := by simp
  obj := fun i h st c hc => by
    obtain ⟨hz, hTI, ⟨a1, a2, hTO⟩, ⟨o1, e1, _, d1⟩, ⟨o2, e2, _, d2⟩⟩ := st
    have e' : c = z ∨ c = TI ∨ c = TO ∨ c = i1 ∨ c = i2 := by simpa using hc
    rcases e' with q | q | q | q | q
    · rw [q]; exact ⟨_, hz, fun v q => nomatch q⟩
    · rw [q]; exact ⟨_, hTI, fun v q => nomatch q⟩
    · rw [q]; exact ⟨_, hTO, fun v q => nomatch q⟩
    · rw [q]; exact ⟨o1, e1, fun v q => by rw [d1] at q; cases q⟩
    · rw [q]; exact ⟨o2, e2, fun v q => by rw [d2] at q; cases q⟩
  keep := fun i h h' st k => by
    obtain ⟨hz, hTI, ⟨a1, a2, hTO⟩, ⟨o1, e1, r1⟩, ⟨o2, e2, r2⟩⟩ := st
    exact ⟨k z (by simp) _ hz, k TI (by simp) _ hTI, ⟨a1, a2, k TO (by simp) _ hTO⟩, ⟨o1, k i1 (by simp) _ e1, r1⟩, ⟨o2, k i2 (by simp) _ e2, r2⟩⟩
  item := by
    intro X hP hw hK hc i pins s σ H E I hf st hg
    subst hP hw hK
    have hh : X.A.in1.handled = none := I.ok.hd hc
    have G := GoesN.zip2 (elts := elts) (x1 := kk) (pos := tpos) S (Draws.text (prog := X.prog) (w := X.w) (A := X.A.in1) hh i1 x t1) (Draws.text (prog := X.prog) (w := X.w) (A := X.A.in1) hh i2 y t2)
    have live : ∀ b ∈ (z :: TI :: TO :: ([i1] ++ [i2])), b < s.heap.objs.size := fun b hb => by
      obtain ⟨hz, hTI, ⟨a1, a2, hTO⟩, ⟨o1, e1, _⟩, ⟨o2, e2, _⟩⟩ := id st
      have e' : b = z ∨ b = TI ∨ b = TO ∨ b = i1 ∨ b = i2 := by simpa using hb
      rcases e' with q | q | q | q | q
      · rw [q]; exact Heap.lt_size hz
      · rw [q]; exact Heap.lt_size hTI
      · rw [q]; exact Heap.lt_size hTO
      · rw [q]; exact Heap.lt_size e1
      · rw [q]; exact Heap.lt_size e2
    refine G.goes i s (fun u s2 => ∃ v H', Inv X pins σ H' s2 ∧ RelV v u ∧ (ItzS x y).yld i H v H' ∧ _ ∧ ∀ b ∈ _, H' b = none) E hg st fun v h' tk hY st' hk htk => ?_
    obtain ⟨T, vx, vy, rfl, hT, ⟨c1, u1, hx, rfl⟩, ⟨c2, u2, hy, rfl⟩, hIs⟩ := hY
    have new : ObjOk X.prog X.w (upd H T (.tup [.str ⟨#[c1]⟩, .str ⟨#[c2]⟩])) h' T (.tup [.str ⟨#[c1]⟩, .str ⟨#[c2]⟩]) :=
      ⟨by show 2 ≤ sizeLine; decide, [.str ⟨#[c1]⟩ u1, .str ⟨#[c2]⟩ u2], .cons ⟨u1, rfl⟩ (.cons ⟨u2, rfl⟩ .nil), hIs⟩
    have I1 : Inv X pins σ (upd H T (.tup [.str ⟨#[c1]⟩, .str ⟨#[c2]⟩])) { s with heap := h', toks := tk } :=
      I.turnedNew (t' := tk) (ch := [z, TO, i1, i2]) hk (fun b hb => hf b (by
        have e' : b = z ∨ b = TO ∨ b = i1 ∨ b = i2 := by simpa using hb
        rcases e' with q | q | q | q <;> rw [q] <;> simp)) hT new
    refine ⟨.ref T, _, I1, rfl, ⟨T, c1, c2, rfl, I.hok.fresh hT, rfl, hx, hy⟩, st', fun b hb => ?_⟩
    rw [upd_ne (Nat.ne_of_lt (Nat.lt_of_lt_of_le (live b hb) hT))]
    exact (hf b hb).1
  done := by
    intro X hP hw hK hc i pins s σ H E I hf st hg
    subst hP hw hK
    have hh : X.A.in1.handled = none := I.ok.hd hc
    have G := GoesN.zip2 (elts := elts) (x1 := kk) (pos := tpos) S (Draws.text (prog := X.prog) (w := X.w) (A := X.A.in1) hh i1 x t1) (Draws.text (prog := X.prog) (w := X.w) (A := X.A.in1) hh i2 y t2)
    have hg : i = min x.cps.size y.cps.size := hg
    subst hg
    refine G.stops s (fun s1 => Inv X pins σ H s1) E st fun h' tk hk htk => ?_
    exact I.turnedL (t' := tk) (ch := [z, TO, i1, i2]) hk fun b hb => hf b (by
      have e' : b = z ∨ b = TO ∨ b = i1 ∨ b = i2 := by simpa using hb
      rcases e' with q | q | q | q <;> rw [q] <;> simp)
  self := fun A i s Q E st h => wpAny_pyIter_zip st.1 h
def iZipS (ta : TA) : TI := fun σ H R => ta σ H fun vs H1 => ∃ x y : Str, vs = [.str x, .str y] ∧ R (ItzS x y) H1
theorem pi_zipS {X : Cx} {e e2 : Expr} {ta : TA} {p pos tpos : Pos} {elts : List Expr} {kk : Nat} (hg : Gl X "zip") (hm : X.mg "zip" = none) (ha : PA X [e, e2] ta)
    (hs : starEach [e, e2] X.env = (false, eval e X.env) :: starEach [e2] X.env := by rfl) (hpl : (backTo pos (starEach [e2] X.env)).any (·.1) = false := by rfl) :
    PI X (.Tuple elts kk tpos) (.Call (.Name "zip" p) [e, e2] [] pos) (iZipS ta) := by
  refine ⟨fun pins s σ H R I h => ?_⟩
  refine Call_ (ld_blt I hg hm PyProof.Rows.boot_zip (PyProof.Rows.callWith_type1 (thn (ha.run pos pins s σ H _ I h) fun us s1 ⟨vs, H1, I1, r1, q1⟩ => ?_) hs hpl))
  obtain ⟨x, y, ex, q⟩ := q1
  subst ex
  obtain ⟨u1, u2, rfl, ⟨t1, rfl⟩, ⟨t2, rfl⟩⟩ := vals2 r1
  refine zip_begins2 (begins_text x t1) (begins_text y t2) trivial trivial fun h' hz hTI hTO h1 h2 hsz hk => wpAny_pyIter_zip hz ?_
  have I2 : Inv X pins σ H1 { s1 with heap := h' } := I1.kept (t' := s1.toks) hk
  refine ⟨s1.heap.objs.size + 4, _, _, _, H1, rfl, I2, turn_zipS (t1 := t1) (t2 := t2) (zip_sep2 (N := s1.heap.objs.size) (fp1 := []) (fp2 := []) (fun b hb => by cases hb) (fun b hb => by cases hb)), ⟨hz, hTI, ⟨_, _, hTO⟩, ⟨_, h1, rfl, rfl⟩, ⟨_, h2, rfl, rfl⟩⟩, fun c hcm => ?_, q⟩
  have e' : c = s1.heap.objs.size + 4 ∨ c = s1.heap.objs.size + 2 ∨ c = s1.heap.objs.size + 3 ∨ c = s1.heap.objs.size ∨ c = s1.heap.objs.size + 1 := by simpa using hcm
  have hle : s1.heap.objs.size ≤ c := by
    rcases e' with z | z | z | z | z
    · rw [z]; exact Nat.le_add_right _ _
    · rw [z]; exact Nat.le_add_right _ _
    · rw [z]; exact Nat.le_add_right _ _
    · rw [z]; exact Nat.le_refl _
    · rw [z]; exact Nat.le_add_right _ _
  exact I1.fpOk hle (I1.hok.fresh hle)
theorem walk_zipS {x y : Str} : Walk (ItzS x y) (min x.cps.size y.cps.size) (fun _ => True) (fun i H v H' => ∃ (T : Addr) (a b : Nat), v = .ref T ∧ H T = none ∧ H' = upd H T (.tup [.str ⟨#[a]⟩, .str ⟨#[b]⟩]) ∧ x.cps[i]? = some a ∧ y.cps[i]? = some b) :=
  ⟨fun _ _ hi _ => hi, fun _ _ => rfl, fun _ _ _ _ _ _ y => y⟩
end NvZ

set_option Elab.async false
set_option linter.all false
set_option maxRecDepth 100000
set_option maxHeartbeats 8000000
/-! # An own class's __contains__, __len__, __str__, asked from outside -/
namespace NvO
open PySem PySem.Spec PyProof.Rows L2
variable {X : Cx} {k : Nat} {f C : Addr} {fd : FuncData} {sp : Sp} {pa pb : Str}
/-- the frame that the walk's rules ask for -/
theorem fr_of {pins : List (Addr × Obj)} {σ : L2.St} {H : Hp} {s : Shared} (I : Inv X pins σ H s) : ∃ m, Fr X.base X.env.locals s.heap m := by
  obtain ⟨m, hn, _⟩ := I.loc
  exact ⟨m, hn, I.bk, Nat.le_trans I.ok.bsz I.ok.above⟩
theorem inst_of {pins : List (Addr × Obj)} {σ : L2.St} {H : Hp} {s : Shared} {a dx : Addr} {fs : List (Str × V)} (I : Inv X pins σ H s) (ha : H a = some (.ins C dx fs)) : ∃ (ox : Obj) (od : Option Obj), PySem.W.InstAt s.heap a ox C od := by
  obtain ⟨mA, O, _⟩ := ins_get I.hok ha
  obtain ⟨od, J, _⟩ := O.look
  exact ⟨_, od, J⟩
/-- v in o, o of a class with its own __contains__ that gives True or False -/
theorem op_inO (F : FnOk X.prog X.w X.K X.mg X.base CX0 k f fd [pa, pb] sp) (hr : Room k X.A) (hb : Binds X.K fd [pa, pb] []) (hx : Passes CX0 X E0) (hs : PySem.W.findIn X.K (.ref C) "__contains__" = some (some (.ref f))) (hf : PySem.W.isFn X.K (.ref f) = true) :
    OpR X (compareOp .In) (fun x y H Q => ∃ (a dx : Addr) (fs : List (Str × V)), y = .ref a ∧ H a = some (.ins C dx fs) ∧ sp [.ref a, x] H (fun v H' => ∃ b, v = .bl b ∧ Q (.bl b) H') E0) := by
  intro pins s σ H x y v u Q I rx ry h
  obtain ⟨a, dx, fs, rfl, ha, h⟩ := h
  cases ry
  obtain ⟨m, Fm⟩ := fr_of I
  obtain ⟨ox, od, J⟩ := inst_of I ha
  refine PySem.W.in_K Fm I.ok.mod.kin J hs hf (wpAny_mono (run_fn F hr hb .nil hx I (.cons (show RelV (.ref a) (.ref a) from rfl) (.cons rx .nil)) h) (fun r s' hq => ?_) fun _ _ z => z)
  obtain ⟨z, H', I', rz, b, rfl, q⟩ := hq
  cases rz
  exact wpAny_truthy_bool ⟨.bl b, H', I', rfl, q⟩
/-- a def runs below the body, with the same frames -/
theorem run_at {A' : Around} {pins : List (Addr × Obj)} {σ : L2.St} {H : Hp} {s : Shared} {Q : VK} {us : List Value} {vs : List V} {ps : List Str} (fr : A'.frames = some X.stack) (F : FnOk X.prog X.w X.K X.mg X.base CX0 k f fd ps sp) (hr : Room k A') (hb : Binds X.K fd ps []) (hx : Passes CX0 X E0)
    (I : Inv X pins σ H s) (r : Vals vs us) (h : sp vs H Q E0) : wpAny (model X.prog X.w) A' (call (.ref f) us) (EP X pins σ Q) X.xe s := by
  have e0 : Env0 X.prog X.w X.K X.mg X.base A' X.stack s H := by
    obtain ⟨_, a2, a3, a4, a5, a6, a7, a8⟩ := I.env0
    exact ⟨fr, a2, a3, a4, a5, a6, a7, a8⟩
  have hl : us.length = ps.length := by
    rw [← r.length]
    exact F.len _ _ _ _ h
  have b := hb s us I.kIn (by rw [List.append_nil]; exact hl)
  rw [List.append_nil] at b
  refine wpAny_call (codeAny_mono (F.run A' X.stack s H ⟨us, []⟩ us vs Q E0 hr e0 b r h) fun z s' hq => ?_)
  cases z with
  | error e => exact hx pins σ H s e s' I hq
  | ok fl =>
    cases fl with
    | ret u => exact I.after hq
    | next => exact hq.elim
    | brk => exact hq.elim
    | cont => exact hq.elim
/-- len(o), o of a class with its own __len__ -/
theorem call_lenO (F : FnOk X.prog X.w X.K X.mg X.base CX0 k f fd [pa] sp) (hr : Room (k + 1) X.A) (hb : Binds X.K fd [pa] []) (hx : Passes CX0 X E0) (hs : PySem.W.findIn X.K (.ref C) "__len__" = some (some (.ref f))) (hf : PySem.W.isFn X.K (.ref f) = true) :
    CallR X (.builtin "len") (fun xs H Q => ∃ (a dx : Addr) (fs : List (Str × V)), xs = [.ref a] ∧ H a = some (.ins C dx fs) ∧ sp [.ref a] H (fun v H' => ∃ n : Int, v = .int n ∧ 0 ≤ n ∧ n < 2 ^ 63 ∧ Q (.int n) H') E0) := by
  intro pins s σ H xs us Q I r h
  obtain ⟨a, dx, fs, rfl, ha, h⟩ := h
  obtain ⟨u, rfl, ru⟩ := vals1 r
  cases ru
  obtain ⟨m, Fm⟩ := fr_of I
  obtain ⟨ox, od, J⟩ := inst_of I ha
  refine PySem.W.len_K Fm I.ok.mod.kin J hs hf (wpAny_mono (run_at (A' := X.A.in1) I.ok.frames F hr.in1 hb hx I (.cons (show RelV (.ref a) (.ref a) from rfl) .nil) h) (fun z s' hq => ?_) fun _ _ z => z)
  obtain ⟨v, H', I', rz, n, rfl, n0, n1, q⟩ := hq
  obtain ⟨t, rfl⟩ := rz
  exact ⟨⟨n0, n1⟩, .int n, H', I'.tok _, ⟨_, rfl⟩, q⟩
/-- o == v, o of a class with its own __eq__ that gives True or False -/
theorem op_eqO (F : FnOk X.prog X.w X.K X.mg X.base CX0 k f fd [pa, pb] sp) (hr : Room k X.A) (hb : Binds X.K fd [pa, pb] []) (hx : Passes CX0 X E0) (hs : PySem.W.findIn X.K (.ref C) "__eq__" = some (some (.ref f))) (hf : PySem.W.isFn X.K (.ref f) = true) :
    OpR X (compareOp .Eq) (fun x y H Q => ∃ (a dx : Addr) (fs : List (Str × V)) (tb : Value), x = .ref a ∧ H a = some (.ins C dx fs) ∧ TyX X.K H y tb ∧ PySem.W.notFirst X.K C tb = true ∧ sp [.ref a, y] H (fun v H' => ∃ b, v = .bl b ∧ Q (.bl b) H') E0) := by
  intro pins s σ H x y v u Q I rx ry h
  obtain ⟨a, dx, fs, tb, rfl, ha, ty, nf, h⟩ := h
  cases rx
  obtain ⟨m, Fm⟩ := fr_of I
  obtain ⟨ox, od, J⟩ := inst_of I ha
  obtain ⟨Pz, Z, p, _⟩ := kit_of I ry ty
  have hu : X.A.units < cLine := by
    have := hr.un
    omega
  show wpAny _ _ (richCompare .Eq _ _) _ _ _
  refine PySem.W.cmp_K (op := .Eq) hu Fm I.ok.mod.kin J (Z.ty _ _ I.kIn p) nf hs hf (wpAny_mono (run_fn F hr hb .nil hx I (.cons (show RelV (.ref a) (.ref a) from rfl) (.cons ry .nil)) h) (fun r s' hq => ?_) fun _ _ z => z)
  obtain ⟨z, H', I', rz, b, rfl, q⟩ := hq
  cases rz
  exact ⟨.bl b, H', I', rfl, q⟩
end NvO

set_option Elab.async false
set_option linter.all false
set_option maxRecDepth 100000
set_option maxHeartbeats 8000000
/-! # str(o), o != v by own __str__, __eq__; == of dicts of data, both answers; a method called with keywords -/
namespace NvO
open PySem PySem.Spec PyProof.Rows L2 PySem.W
section
variable {X : Cx} {k : Nat} {f C : Addr} {fd : FuncData} {sp : Sp} {pa pb : Str}
open Builtin Builtin.Str in
/-- str(o), o of a class with its own __str__ -/
theorem call_strO (F : FnOk X.prog X.w X.K X.mg X.base CX0 k f fd [pa] sp) (hr : Room (k + 2) X.A) (hb : Binds X.K fd [pa] []) (hx : Passes CX0 X E0) (hs : PySem.W.findIn X.K (.ref C) "__str__" = some (some (.ref f))) (hf : PySem.W.isFn X.K (.ref f) = true) :
    CallR X (.type "str") (fun xs H Q => ∃ (a dx : Addr) (fs : List (Str × V)), xs = [.ref a] ∧ H a = some (.ins C dx fs) ∧ sp [.ref a] H (fun v H' => ∃ y : Str, v = .str y ∧ Q (.str y) H') E0) := by
  intro pins s σ H xs us Q I r h
  obtain ⟨a, dx, fs, rfl, ha, h⟩ := h
  obtain ⟨u, rfl, ru⟩ := vals1 r
  cases ru
  obtain ⟨ox, od, J⟩ := inst_of I ha
  have hu : X.A.in1.in1.units < cLine := by
    have := hr.un
    show X.A.units + 1 + 1 < cLine
    omega
  refine callType_codes (T := "str") (Bi := Builtin.«object.__init__») (Q₁ := fun r s₁ => ∃ y u, r = .str y u ∧ EP X pins σ Q r s₁) PySem.F.called_str (PySem.F.typeCall_str_1 _) PySem.F.entry_object_init ?_ ?_
  · refine codeAny_of_tree ?_
    show wpAny _ X.A.in1.in1 (do checkBuiltinCall "str.__new__" ⟨[.type "str", .ref a], []⟩; again (.builtin "str.__new__" ⟨[.type "str", .ref a], []⟩)) _ _ s
    refine wpAny_bind (wpAny_of_eq (PySem.F.newCall_str_1 _) (wpAny_pure ⟨plainId_quiet (by decide +kernel) _, codeAny_builtin PySem.F.entry_str_new ?_⟩))
    rw [Around.under_plainId (by decide +kernel) _]
    rw [str_new_tree]
    refine wpAny_bind (wpAny_pure ?_)
    refine wpAny_bind (wpAny_of_eq isSubtype_str_str ?_)
    have key : wpAny (model X.prog X.w) X.A.in1.in1 (PySem.Builtin.Str.strOf (.ref a)) (fun r s₁ => ∃ y u, r = .str y u ∧ EP X pins σ Q r s₁) X.xe s := by
      unfold PySem.Builtin.Str.strOf
      rw [show isExactStr (.ref a) = false from rfl]
      refine wpAny_bind (m := cRoomFor _ _) (wpAny_cRoomFor hu ?_)
      refine wpAny_bind (m := callSpecial? (.ref a) (Str.ofString "__str__")) (special_fn I.kIn J hs (beq_iff_eq.mp hf) (wpAny_mono (run_at (A' := X.A.in1.in1) I.ok.frames F hr.in1.in1 hb hx I (.cons (show RelV (.ref a) (.ref a) from rfl) .nil) h) (fun z s' hq => ?_) fun _ _ y => y))
      obtain ⟨v, H', I', rz, y, rfl, q⟩ := hq
      obtain ⟨t, rfl⟩ := rz
      exact wpAny_pure ⟨_, _, rfl, .str y, H', I', ⟨_, rfl⟩, q⟩
    exact wpAny_bind (wpAny_mono key (fun r s₁ hr => wpAny_pure hr) fun _ _ y => y)
  · rintro obj s₁ ⟨y, u, rfl, hq⟩
    exact ⟨typeIs_str _ _ _, PySem.F.args_object_init_2 _ _, object_init_meets PySem.F.called_str.init.lookup PySem.F.called_str.made (by decide) X.prog X.w X.A.in1 _ s₁ ⟨typeIs_str _ _ _, rfl, hq⟩⟩
/-- a built-in slot found at an instance's class, called -/
theorem ifBound_B {prog : Program} {w : World} {A : Around} {E : Value → Shared → Prop} {s : Shared} {K : Frag} {x C : Addr} {ox : Obj} {od : Option Obj} {name : Str} {id : String} {M : Model} {args : List Value} {Q : Option Value → Shared → Prop}
    (X : K.In s.heap) (I : InstAt s.heap x ox C od) (hs : findIn K (.ref C) name = some (some (.builtin id))) (hb : ∀ self, bindSpecial (.builtin id) self = pure (.builtin id, [self]))
    (h : wpAny M A (call (.builtin id) (.ref x :: args)) (fun v => Q (some v)) E s) : wpAny M A (callSpecialIfBound? (.ref x) name args) Q E s := by
  simp only [callSpecialIfBound?, bindSpecialIfBound?]
  refine wpAny_holding (wpAny_bind (wpAny_bind (wpAny_bind (I.type.here ((looks_findIn X hs).here ?_)))))
  refine wpAny_bind (wpAny_askSetting (wpAny_ite ?_))
  have fin : wpAny M A (call (.builtin id) ([.ref x] ++ args) >>= fun v => pure (some v)) Q E s := wpAny_bind (wpAny_mono h (fun v s' h' => wpAny_pure h') fun _ _ h' => h')
  split
  · exact wpAny_bind ((Looks.of_pure (hb _)).here (wpAny_pure (by exact fin)))
  · exact wpAny_tryCatch (wpAny_bind ((Looks.of_pure (hb _)).here (wpAny_pure (by exact fin))))
open Builtin in
/-- o != v, o of a class with its own __eq__ that gives True or False, and without __ne__ -/
theorem op_neO (F : FnOk X.prog X.w X.K X.mg X.base CX0 k f fd [pa, pb] sp) (hr : Room (k + 1) X.A) (hb : Binds X.K fd [pa, pb] []) (hx : Passes CX0 X E0) (hn : PySem.W.findIn X.K (.ref C) "__ne__" = some (some (.builtin "object.__ne__"))) (hm : PySem.W.mroIn X.K C (.type "object") = some true) (hs : PySem.W.findIn X.K (.ref C) "__eq__" = some (some (.ref f))) (hf : PySem.W.isFn X.K (.ref f) = true) :
    OpR X (compareOp .NotEq) (fun x y H Q => ∃ (a dx : Addr) (fs : List (Str × V)) (tb : Value), x = .ref a ∧ H a = some (.ins C dx fs) ∧ TyX X.K H y tb ∧ PySem.W.notFirst X.K C tb = true ∧ sp [.ref a, y] H (fun v H' => ∃ b, v = .bl b ∧ Q (.bl (!b)) H') E0) := by
  intro pins s σ H x y v u Q I rx ry h
  obtain ⟨a, dx, fs, tb, rfl, ha, ty, nf, h⟩ := h
  cases rx
  obtain ⟨ox, od, J⟩ := inst_of I ha
  obtain ⟨Pz, Z, p, _⟩ := kit_of I ry ty
  have hu : X.A.units < cLine := by
    have := hr.un
    omega
  have hu1 : X.A.in1.units < cLine := by
    have := hr.un
    show X.A.units + 1 < cLine
    omega
  have KX := I.kIn
  have one : wpAny (model X.prog X.w) X.A (tryCompare (.ref a) "__ne__" u) (fun r s' => ∃ v, r = some v ∧ EP X pins σ Q v s') X.xe s := by
    unfold tryCompare
    refine wpAny_bind (ifBound_B (prog := X.prog) (w := X.w) KX J hn PySem.F.slot_object_ne.bind (wpAny_call (codeAny_call_builtin PySem.F.slot_object_ne.plain PySem.F.entry_object_ne (check_slot (i := "object.__ne__") (owner := "object") (n := "__ne__") (by decide +kernel) (by decide +kernel) (J.type.andThen (looks_mroIn KX hm)) (PySem.F.args_object_ne_2 _ _) ?_))))
    unfold Builtin.«object.__ne__»
    refine wpAny_bind (m := slotArgs "__ne__" 1 _) (wpAny_pure ?_)
    refine wpAny_bind (m := cRoomFor _ _) (wpAny_cRoomFor hu1 ?_)
    refine wpAny_bind (m := callSpecialIfBound? (.ref a) (Str.ofString "__eq__") _) (ifBound_K KX J hs hf (wpAny_mono (run_at (A' := X.A.in1) I.ok.frames F hr.in1 hb hx I (.cons (show RelV (.ref a) (.ref a) from rfl) (.cons ry .nil)) h) (fun r s' hq => ?_) fun _ _ y => y))
    obtain ⟨z, H', I', rz, b, rfl, q⟩ := hq
    cases rz
    refine wpAny_bind (m := truthy (.bool b)) (wpAny_truthy_bool ?_)
    exact wpAny_pure (wpAny_pure ⟨_, rfl, .bl (!b), H', I', rfl, q⟩)
  show wpAny _ _ (richCompare .NotEq _ _) _ _ _
  unfold richCompare
  simp only [oneThing_ref]
  refine wpAny_holding (wpAny_bind (wpAny_cRoomFor hu ?_))
  refine wpAny_bind (J.type.here (wpAny_bind ((Z.ty _ _ KX p).here ?_)))
  split
  · rename_i q
    have e : subIn X.K tb (.ref C) = some false := by
      rcases Bool.or_eq_true_iff.mp nf with e | e
      · rw [beq_iff_eq.mp e] at q; simp at q
      · exact beq_iff_eq.mp e
    refine wpAny_bind ((looks_subIn KX e).here ?_)
    simp only [Bool.false_eq_true, if_false]
    refine wpAny_bind (wpAny_mono one (fun r s' z => ?_) fun _ _ e => e)
    obtain ⟨v, rfl, hq⟩ := z
    exact wpAny_pure hq
  · refine wpAny_bind (wpAny_pure ?_)
    simp only [Bool.false_eq_true, if_false]
    refine wpAny_bind (wpAny_mono one (fun r s' z => ?_) fun _ _ e => e)
    obtain ⟨v, rfl, hq⟩ := z
    exact wpAny_pure hq
end
/-- entry by entry: what the other dict holds there is data, and the two are compared -/
inductive HitsD (K : PySem.W.Frag) (H : Hp) (ls : List (Key × V)) : List (Key × V) → Bool → Prop where
  | nil : HitsD K H ls [] true
  | cons {k : Key} {v u : V} {d e : PyData} {r : List (Key × V)} {b : Bool} (hv : valV ls k = some u) (h1 : Dp K H v d) (h2 : Dp K H u e) (s1 : SeqAt.shaped d = true) (s2 : SeqAt.shaped e = true) (t : HitsD K H ls r b) : HitsD K H ls ((k, v) :: r) (PyData.eqv d e && b)
section
variable {X : Cx} {pins : List (Addr × Obj)} {σ : L2.St} {H : Hp} {s : Shared}
theorem hitsD_run (I : Inv X pins σ H s) {A : Around} (hu : A.units + 64 < cLine) {ls : List (Key × V)} {vb : List (Key × Value)} (rb : KV ls vb) {ks : List (Key × V)} {va : List (Key × Value)} {b : Bool}
    (ra : KV ks va) (h : HitsD X.K H ls ks b) : PySem.W.KeqHitsP X.prog X.w A s vb va b := by
  unfold KV at ra
  induction ra generalizing b with
  | nil =>
    cases h
    exact .nil
  | @cons p q ps qs hpq t ih =>
    obtain ⟨h1, h2⟩ := hpq
    cases h with
    | cons hv d1 d2 s1 s2 tl =>
      rename_i k v u d e b'
      have rr : RelO (some u) (valueAt vb k) := by rw [← hv]; exact rb.val k
      obtain ⟨y, hy, ry⟩ := rr.some_of
      obtain ⟨key, w⟩ := q
      have h1' : k = key := h1
      rw [h1'] at hy
      obtain ⟨as, r1⟩ := Dp.reads I d v w d1 h2
      obtain ⟨bs, r2⟩ := Dp.reads I e u y d2 ry
      exact .hit hy (SeqAt.EqAt.eqP (SeqAt.eqAt_reads d e A s w y as bs r1 r2 (SeqAt.canLay_of_shaped s1) (SeqAt.canLay_of_shaped s2) (SeqAt.room_of_shaped s1 hu))) (ih tl)
theorem op_eqDd {X : Cx} (hu : X.A.units + 65 < cLine) : OpR X (compareOp .Eq) (fun x y H Q => ∃ (a b : Addr) (ks ls : List (Key × V)) (r : Bool), x = .ref a ∧ y = .ref b ∧ H a = some (.dK ks) ∧ H b = some (.dK ls) ∧ ks.length = ls.length ∧ HitsD X.K H ls ks r ∧ Q (.bl r) H) := by
  intro pins s σ H x y v u Q I rx ry h
  obtain ⟨a, b, ks, ls, r, rfl, rfl, ha, hb, hl, hp, q⟩ := h
  cases (show v = Value.ref a from rx)
  cases (show u = Value.ref b from ry)
  obtain ⟨_, ya, va, ra, da⟩ := (show ObjOk X.prog X.w H s.heap a (.dK ks) from I.hok a _ ha)
  obtain ⟨_, yb, vb, rb, db⟩ := (show ObjOk X.prog X.w H s.heap b (.dK ls) from I.hok b _ hb)
  refine PySem.W.rcP_dicts (knd := mixKind X.prog X.w) (r := r) ya yb da db (by omega) (fun _ => hitsD_run I (A := X.A.in1) (by show X.A.units + 1 + 64 < cLine; omega) rb ra hp) _ _ ?_
  have e : va.length = vb.length := by rw [← ra.length, ← rb.length]; exact hl
  rw [show (va.length == vb.length && r) = r from by rw [e]; simp]
  exact ⟨.bl r, H, I, rfl, q⟩
end
/-! ## o.m(e, .., k = v, ..) -/
def tMethN (C : Addr) (m : Str) (n j : Nat) (sp : Sp) (gV : List V → List V → List V) (E : XK) (ta : TE) (t tk : TA) : TE := fun σ H Q => ta σ H fun x H0 => ∃ a dx fs, x = .ref a ∧ H0 a = some (.ins C dx fs) ∧ fs.lookup m = none ∧ t σ H0 fun vs H1 => tk σ H1 fun zs H2 => vs.length = n ∧ zs.length = j ∧ sp (gV (x :: vs) zs) H2 Q E
section
variable {X : Cx} {CX : CXT} {k n : Nat} {C f : Addr} {fd : FuncData} {ps ks : List Str} {sp : Sp} {E : XK} {m : Str} {apos pos : Pos} {o e : Expr} {es : List Expr} {kws : List Keyword} {ta : TE} {t tk : TA} {g : List Value → List Value → List Value} {gV : List V → List V → List V}
theorem pe_methN {pl : Sem Bool} (he : PE X o ta) (c : Cls X.K C) (hm : Meth X.K C m f) (F : FnOk X.prog X.w X.K X.mg X.base CX k f fd ps sp) (hr : Room k X.A) (hb : KBn X.K fd ps (n + 1) ks g gV) (hx : Passes CX X E) (ha : PA X (e :: es) t) (hkw : PK X kws tk)
    (hall : (backToKw pos (keywordEach kws X.env)).all (·.1.isSome) = true := by rfl) (hks : (backToKw pos (keywordEach kws X.env)).filterMap (·.1) = ks := by rfl)
    (hst : starEach (e :: es) X.env = (false, eval e X.env) :: starEach es X.env := by rfl)
    (hpl : ((backTo pos (starEach (e :: es) X.env)).any (·.1) || (backToKw pos (keywordEach kws X.env)).any (·.1.isNone)) = false := by rfl)
    (ht : eval (.Call (.Attribute o m apos) (e :: es) kws pos) X.env = (do
      let ov ← eval o X.env
      standAt apos.atName
      let (f, first) ← holding [ov] (getMethod ov m pl)
      callWith pos f first (backTo pos (starEach (e :: es) X.env)) (backToKw pos (keywordEach kws X.env))) := by rfl) :
    PE X (.Call (.Attribute o m apos) (e :: es) kws pos) (tMethN C m n ks.length sp gV E ta t tk) := by
  refine ⟨fun pins s σ H Q I h => ?_⟩
  refine PySem.W.methodCall_KW (pl := pl) (thn (he.run pins s σ H _ I h) fun u s1 ⟨x, H1, I1, rx, a, dx, fs, ex, ea, l, q⟩ => ?_) ht
  subst ex
  obtain rfl : u = Value.ref a := rx
  refine getmeth_ok I1 ea c hm l ?_
  refine PySem.W.callWith_KW (first := [.ref a]) (h₀ := X.base) I.ok.mod.kin hm.kp hall (thn (ha.run pos pins s1 σ H1 _ I1 q) fun us s2 ⟨vs, H2, I2, r, q2⟩ => ?_) hpl hst
  refine thn (hkw.run pos pins s2 σ H2 _ I2 q2) fun ws s3 ⟨zs, H3, I3, rz, l1, l2, q3⟩ => ⟨I3.kIn, ?_⟩
  rw [hks]
  exact run_fnN (us := .ref a :: us) (vs := .ref a :: vs) F hr hb hx I3 (.cons rfl r) rz (congrArg Nat.succ l1) l2 q3
end
end NvO

set_option Elab.async false
set_option maxRecDepth 100000
set_option maxHeartbeats 4000000
/-! # The dice of the law -/
namespace M3
open PySem L2
def top (i : Nat) : Stmt := PySem.Challenge.pw_neverturns_k03_machines_as_values.main.body.getD i (.Pass ⟨0, 0, 0, 0⟩)
abbrev sDice : Stmt := top 45
abbrev sRoll : Stmt := top 46
abbrev sOneOf : Stmt := top 47
/-- dice that stand at d: what is left of a great cell, the mixed number, how many were drawn -/
def DiceAt (H : Hp) (d : Addr) (l m c : Int) : Prop := H d = some (.lst [.int l, .int m, .int c]) ∧ 0 ≤ l ∧ 0 ≤ m ∧ 0 ≤ c
/-- what a def leaves: the dice turned, all else as it was -/
def But (H H' : Hp) (d : Addr) : Prop := ∀ b o, b ≠ d → H b = some o → H' b = some o
def spRoll : Sp := fun vs H Q _ => ∃ (d : Addr) (l m c n : Int), vs = [.ref d, .int n] ∧ DiceAt H d l m c ∧ 0 < n ∧ n < 1073741824 ∧
  ∀ (r l' c' : Int), 0 ≤ r → r < n → 0 ≤ l' → 0 ≤ c' → Q (.int r) (upd H d (.lst [.int l', .int m, .int c']))
/-- the dice at d are turned, nothing else -/
def Turned (H H' : Hp) (d : Addr) : Prop := ∃ l m c : Int, 0 ≤ l ∧ 0 ≤ m ∧ 0 ≤ c ∧ H' = upd H d (.lst [.int l, .int m, .int c])
def Dz (H : Hp) (d : Addr) : Prop := ∃ l m c : Int, DiceAt H d l m c
theorem Turned.dz {H H' : Hp} {d : Addr} (t : Turned H H' d) : Dz H' d := by
  obtain ⟨l, m, c, h1, h2, h3, rfl⟩ := t
  exact ⟨l, m, c, upd_same, h1, h2, h3⟩
theorem Turned.ne {H H' : Hp} {d b : Addr} (t : Turned H H' d) (h : b ≠ d) : H' b = H b := by
  obtain ⟨l, m, c, h1, h2, h3, rfl⟩ := t
  exact upd_ne h
theorem Turned.trans {H H1 H2 : Hp} {d : Addr} (t : Turned H H1 d) (u : Turned H1 H2 d) : Turned H H2 d := by
  obtain ⟨l, m, c, h1, h2, h3, rfl⟩ := t
  obtain ⟨l', m', c', g1, g2, g3, rfl⟩ := u
  exact ⟨l', m', c', g1, g2, g3, upd_upd⟩
theorem SqL.turned {K : PySem.W.Frag} {H : Hp} {d a : Addr} {o : HO} {xs : List V} (hn : a ≠ d) (h : SqL K H a xs) : SqL K (upd H d o) a xs := by
  rcases h with (h | ⟨u, h⟩) | h
  · exact .inl (.inl (by rw [upd_ne hn]; exact h))
  · exact .inl (.inr ⟨u, by rw [upd_ne hn]; exact h⟩)
  · exact .inr h
def spOneOf (K : PySem.W.Frag) : Sp := fun vs H Q _ => ∃ (d a : Addr) (xs : List V), vs = [.ref d, .ref a] ∧ Dz H d ∧ SqL K H a xs ∧ a ≠ d ∧ 0 < xs.length ∧ xs.length < 1000000 ∧
  ∀ (v : V) (H' : Hp), v ∈ xs → Turned H H' d → Q v H'
def spDice (K : PySem.W.Frag) : Sp := fun vs H Q _ => ∃ (a : Addr) (ns : List Int) (i : Int), vs = [.ref a, .int i] ∧ SqL K H a (ns.map V.int) ∧ 0 ≤ i ∧ ns.length ≤ 63 ∧
  ∀ (p : Addr) (l m : Int), H p = none → 0 ≤ l → 0 ≤ m → Q (.ref p) (upd H p (.lst [.int l, .int m, .int 0]))
theorem op_powX {X : Cx} : OpR X (binaryOp .Pow) (rI (fun i j => 0 ≤ j ∧ (Builtin.Int.intBits i : Int) * j ≤ 2 ^ 27) fun i j => .int (i ^ j.toNat)) := opI fun _ _ _ _ _ _ _ hc q => PyProof.Rows.pow_int hc.1 hc.2 q
structure TxI (mg : Str → Option Value) : Prop where
  int : mg "int" = none
  abs : mg "abs" = none
  len : mg "len" = none
section
variable {P : Program} {w : World} {K : PySem.W.Frag} {mg : Str → Option Value} {base : Heap}
theorem scRoll : FnScope ["dice", "total", "number", "drawn", "one", "two"] ["dice", "total"] (defScope sRoll) := ⟨rfl, rfl, rfl, by decide +kernel, rfl, by decide +kernel, by decide +kernel⟩
theorem ok_roll {f : Addr} {fd : FuncData} (F : Fun K "_law_roll" "_law_roll" sRoll f fd) (T : TxI mg) : FnOk P w K mg base CX0 1 f fd ["dice", "total"] spRoll := by
  refine F.ok scRoll (fun vs H Q E h => ?_) (fun cdv A outer s H vs Q E hr h => ?_)
  · obtain ⟨d, l, m, c, n, rfl, _⟩ := h
    rfl
  · obtain ⟨d, l, m, c, n, rfl, ⟨hd, hl, hm, hc⟩, hn, hn2, k⟩ := h
    refine ⟨_, pss_cons (ps_set (i := 2) scRoll.nd rfl (Or.inl rfl) (pe_callTy call_int1 (by rfl) T.int (by decide +kernel) (pa_cons (pv 1) pa_nil)))
      (pss_cons (ps_if (pt_cmpR op_gt (pe_ix ix_list (pv 0) pe_int (fun _ _ => rfl)) pe_int (nomark _))
        (pss_cons (ps_set (i := 3) scRoll.nd rfl (Or.inl rfl) (pe_op op_modN (pe_ix ix_list (pv 0) pe_int (fun _ _ => rfl)) (pv 2)))
        (pss_cons (ps_asg (pe_op op_fdivN (pe_ix ix_list (pv 0) pe_int (fun _ _ => rfl)) (pv 2)) (pg_sub (pv 0) pe_int set_list))
        (pss_one (ps_ret (pe_callTy call_int1 (by rfl) T.int (by decide +kernel) (pa_cons (pv 3) pa_nil)))))) pss_nil)
      (pss_cons (ps_asg (pe_op op_add (pe_ix ix_list (pv 0) pe_int (fun _ _ => rfl)) pe_int) (pg_sub (pv 0) pe_int set_list))
      (pss_cons (ps_set (i := 4) scRoll.nd rfl (Or.inl rfl) (pe_op op_mod (pe_op op_add (pe_ix ix_list (pv 0) pe_int (fun _ _ => rfl)) (pe_op op_mul pe_int (pe_ix ix_list (pv 0) pe_int (fun _ _ => rfl)))) pe_int))
      (pss_cons (ps_set (i := 5) scRoll.nd rfl (Or.inl rfl) (pe_op op_add (pe_op op_mul (pe_op op_mod (pe_op op_mul (pv 4) (pv 4)) pe_int) (pv 4)) (pe_op op_mul pe_int (pe_ix ix_list (pv 0) pe_int (fun _ _ => rfl)))))
      (pss_cons (ps_set (i := 5) scRoll.nd rfl (Or.inl rfl) (pe_op op_mod (pv 5) pe_int))
      (pss_one (ps_ret (pe_callTy call_int1 (by rfl) T.int (by decide +kernel) (pa_cons (pe_op op_modN (pe_op op_fdiv (pv 5) pe_int) (pv 2)) pa_nil))))))))), ?_⟩
    have h1 : atI [V.int l, V.int m, V.int c] 1 = some (.int m) := rfl
    have h2 : ∀ z : Int, atI [V.int l, V.int m, V.int z] 2 = some (.int z) := fun _ => rfl
    have h1' : ∀ z : Int, atI [V.int l, V.int m, V.int z] 1 = some (.int m) := fun _ => rfl
    refine ⟨_, rfl, .inl ⟨_, rfl, ?_⟩⟩
    refine ⟨_, rfl, d, _, 0, _, rfl, rfl, SqL.of hd, rfl, _, _, rfl, rfl, _, rfl, ?_⟩
    refine ite2 (fun hpos => ?_) (fun hpos => ?_)
    · have hpos : 0 < l := of_decide_eq_true hpos
      refine ⟨_, rfl, d, _, 0, _, rfl, rfl, SqL.of hd, rfl, _, rfl, _, _, rfl, rfl, (by omega), ?_⟩
      refine ⟨_, rfl, d, _, 0, _, rfl, rfl, SqL.of hd, rfl, _, rfl, _, _, rfl, rfl, ⟨by omega, by omega⟩, ?_⟩
      refine ⟨_, rfl, d, _, 0, 0, rfl, rfl, hd, rfl, ?_⟩
      refine ⟨_, rfl, .inl ⟨_, rfl, ?_⟩⟩
      refine k _ _ _ ?_ ?_ ?_ hc
      · exact Int.fmod_nonneg (by omega) (by omega)
      · exact Int.fmod_lt_of_pos _ hn
      · exact Int.fdiv_nonneg hl (by omega)
    · refine ⟨_, rfl, d, _, 2, _, rfl, rfl, SqL.of hd, rfl, _, _, rfl, rfl, ?_⟩
      refine ⟨_, rfl, d, _, 2, 2, rfl, rfl, hd, rfl, ?_⟩
      have hd2 : (upd H d (.lst [.int l, .int m, .int (c + 1)])) d = some (.lst [.int l, .int m, .int (c + 1)]) := upd_same
      -- one
      refine ⟨_, rfl, d, _, 1, _, rfl, rfl, SqL.of hd2, rfl, ?_⟩
      refine ⟨_, rfl, d, _, 2, _, rfl, rfl, SqL.of hd2, rfl, _, _, rfl, rfl, .inl ⟨by decide, by decide⟩, _, _, rfl, rfl, _, _, rfl, rfl, (by show (0 : Int) < 2305843009213693951; decide), ?_⟩
      have b1 : ∀ x : Int, 0 ≤ x % 2305843009213693951 ∧ x % 2305843009213693951 < 2305843009213693951 := fun x => by omega
      generalize hx : (m + 1000151 * (c + 1)) % 2305843009213693951 = x1
      have bx := b1 (m + 1000151 * (c + 1))
      rw [hx] at bx
      -- two
      refine ⟨_, rfl, _, rfl, _, _, rfl, rfl, .inl ⟨by omega, by omega⟩, _, _, rfl, rfl, (by show (0 : Int) < 2305843009213693921; decide), ?_⟩
      have b2 : ∀ x : Int, 0 ≤ x % 2305843009213693921 ∧ x % 2305843009213693921 < 2305843009213693921 := fun x => by omega
      have by1 := b2 (x1 * x1)
      generalize hy : (x1 * x1) % 2305843009213693921 = y1 at by1 ⊢
      refine ⟨_, rfl, _, _, rfl, rfl, .inl ⟨by omega, by omega⟩, _, rfl, d, _, 2, _, rfl, rfl, SqL.of hd2, rfl, _, _, rfl, rfl, .inl ⟨by decide, by decide⟩, _, _, rfl, rfl, ?_⟩
      refine ⟨_, rfl, _, _, rfl, rfl, (by show (0 : Int) < 2305843009213693907; decide), ?_⟩
      have b3 : ∀ x : Int, 0 ≤ x % 2305843009213693907 := fun x => by omega
      have bz := b3 (y1 * x1 + 9403 * (c + 1))
      generalize (y1 * x1 + 9403 * (c + 1)) % 2305843009213693907 = z1 at bz ⊢
      refine ⟨_, rfl, _, _, rfl, rfl, ⟨by decide, by decide⟩, _, rfl, _, _, rfl, rfl, (by omega), .inl ⟨_, rfl, ?_⟩⟩
      refine k _ _ _ ?_ ?_ hl (by omega)
      · exact Int.fmod_nonneg (by omega) (by omega)
      · exact Int.fmod_lt_of_pos _ hn
theorem scOneOf : FnScope ["dice", "items"] ["dice", "items"] (defScope sOneOf) := ⟨rfl, rfl, rfl, by decide +kernel, rfl, by decide +kernel, by decide +kernel⟩
theorem ok_oneof {f g : Addr} {fd gd : FuncData} (F : Fun K "_law_one_of" "_law_one_of" sOneOf f fd) (G : Fun K "_law_roll" "_law_roll" sRoll g gd) (bG : Binds K gd ["dice", "total"] []) (gG : mg "_law_roll" = some (.ref g)) (T : TxI mg) :
    FnOk P w K mg base CX0 2 f fd ["dice", "items"] (spOneOf K) := by
  have GR : FnOk P w K mg base CX0 1 g gd ["dice", "total"] spRoll := ok_roll G T
  refine F.ok scOneOf (fun vs H Q E h => ?_) (fun cdv A outer s H vs Q E hr h => ?_)
  · obtain ⟨d, a, xs, rfl, _⟩ := h
    rfl
  · obtain ⟨d, a, xs, rfl, ⟨l, m, c, D⟩, ha, hn, h0, hz, k⟩ := h
    refine ⟨_, pss_one (ps_ret (pe_ix ix_list (pv 1) (pe_call GR hr rfl gG G.kp bG .nil pass0 (pa_cons (pv 0) (pa_cons (pe_callB call_len_seq (by rfl) T.len PySem.boot_len (pa_cons (pv 1) pa_nil)) pa_nil))) (fun _ _ => rfl))), ?_⟩
    refine ⟨_, rfl, _, rfl, _, rfl, a, xs, rfl, .inl ha, d, l, m, c, xs.length, rfl, D, by omega, by omega, fun r l' c' h1 h2 h3 h4 => ?_⟩
    have hlt : r.toNat < xs.length := by omega
    have er : r = (r.toNat : Int) := by omega
    refine ⟨a, xs, r, xs[r.toNat], rfl, rfl, (SqL.turned hn ha), ?_, ?_⟩
    · have q := atI_nat (List.getElem?_eq_getElem hlt)
      rw [← er] at q
      exact q
    · exact k _ _ (List.getElem_mem hlt) ⟨l', m, c', h3, D.2.2.1, h4, rfl⟩
theorem scDice : FnScope ["script", "at", "cell", "great", "left", "mixed"] ["script", "at"] (defScope sDice) := ⟨rfl, rfl, rfl, by decide +kernel, rfl, by decide +kernel, by decide +kernel⟩
theorem ok_dice {f : Addr} {fd : FuncData} (F : Fun K "_law_dice" "_law_dice" sDice f fd) (T : TxI mg) : FnOk P w K mg base CX0 1 f fd ["script", "at"] (spDice K) := by
  refine F.ok scDice (fun vs H Q E h => ?_) (fun cdv A outer s H vs Q E hr h => ?_)
  · obtain ⟨a, ns, i, rfl, _⟩ := h
    rfl
  · obtain ⟨a, ns, i, rfl, ha, hi, hl, k⟩ := h
    refine ⟨_, pss_cons (ps_set (i := 2) scDice.nd rfl (Or.inl rfl) (pe_op op_add (pe_op op_mul pe_int (pv 1)) pe_int))
      (pss_cons (ps_if (pt_cmpR op_lt (pv 1) (pe_callB call_len_seq (by rfl) T.len PySem.boot_len (pa_cons (pv 0) pa_nil)) (nomark _)) (pss_one (ps_set (i := 2) scDice.nd rfl (Or.inl rfl) (pe_ix ix_list (pv 0) (pv 1) (fun _ _ => rfl)))) pss_nil)
      (pss_cons (ps_set (i := 3) scDice.nd rfl (Or.inl rfl) (pe_op op_mod (pe_callTy call_int1 (by rfl) T.int (by decide +kernel) (pa_cons (pe_callB call_abs (by rfl) T.abs (by decide +kernel) (pa_cons (pv 2) pa_nil)) pa_nil)) (pe_op op_powX (pe_op op_pow pe_int pe_int) pe_int)))
      (pss_cons (ps_set (i := 4) scDice.nd rfl (Or.inl rfl) (pe_op op_fdivW (pv 3) (pe_op op_pow pe_int pe_int)))
      (pss_cons (ps_set (i := 5) scDice.nd rfl (Or.inl rfl) (pe_op op_add (pe_op op_add (pe_op op_add (pe_op op_mul (pe_op op_mod (pv 3) pe_int) pe_int) (pe_op op_mul pe_int (pv 1)))
        (pe_op op_mul pe_int (pe_callTy call_int1 (by rfl) T.int (by decide +kernel) (pa_cons (pe_cmpR op_lt (pv 2) pe_int (nomark _)) pa_nil)))) pe_int))
      (pss_one (ps_ret (pe_lst (pa_cons (pv 4) (pa_cons (pe_op op_mod (pv 5) pe_int) (pa_cons pe_int pa_nil)))))))))), ?_⟩
    refine ⟨_, rfl, _, _, rfl, rfl, .inl ⟨by decide, by decide⟩, _, _, rfl, rfl, ?_⟩
    refine ⟨_, rfl, _, rfl, a, _, rfl, .inl ha, _, _, rfl, rfl, _, rfl, ?_⟩
    have pw0 : (0 : Int) < (10 ^ (60 : Int).toNat) ^ (10 : Int).toNat := Int.pow_pos (Int.pow_pos (by decide))
    have pb : (0 ≤ (10 : Int) ∧ (Builtin.Int.intBits (10 ^ (60 : Int).toNat) : Int) * 10 ≤ 2 ^ 27) := ⟨by decide, by decide +kernel⟩
    have p18 : (0 : Int) < 10 ^ (18 : Int).toNat := Int.pow_pos (by decide)
    have p18b : ((10 : Int) ^ (18 : Int).toNat).natAbs.log2 < 9000 := by decide +kernel
    have m1 : ∀ x : Int, -(2 ^ 64) < x % 2147483237 ∧ x % 2147483237 < 2 ^ 64 := fun x => by omega
    refine ite2 (fun hc => ?_) (fun hc => ?_)
    · have hc : i < ((ns.map V.int).length : Int) := of_decide_eq_true hc
      have hlt : i.toNat < ns.length := by rw [List.length_map] at hc; omega
      have er : i = (i.toNat : Int) := by omega
      have q : atI (ns.map V.int) (i.toNat : Int) = some (.int ns[i.toNat]) := atI_nat (by rw [List.getElem?_map, List.getElem?_eq_getElem hlt]; rfl)
      rw [← er] at q
      refine ⟨_, rfl, _, rfl, a, _, i, _, rfl, rfl, ha, q, ?_⟩
      generalize ns[i.toNat] = cell
      refine ⟨_, rfl, _, rfl, .inl ⟨_, rfl, _, _, rfl, rfl, ⟨by decide, by decide, by decide⟩, _, _, rfl, rfl, pb, _, _, rfl, rfl, pw0, ?_⟩⟩
      refine ⟨_, rfl, _, _, rfl, rfl, ⟨by decide, by decide, by decide⟩, _, _, rfl, rfl, ⟨p18, p18b⟩, ?_⟩
      refine ⟨_, rfl, _, _, rfl, rfl, (by show (0 : Int) < 2147483237; decide), _, _, rfl, rfl, .inl ⟨(m1 _).1, (m1 _).2⟩, _, rfl, _, _, rfl, rfl, .inl ⟨by decide, by decide⟩, _, _, rfl, rfl, ?_⟩
      refine ⟨_, rfl, _, _, rfl, rfl, .inr ⟨_, rfl, _, _, rfl, rfl, .inl ⟨by decide, by decide⟩, _, _, rfl, rfl, _, _, rfl, rfl, ?_⟩⟩
      refine ⟨_, rfl, _, rfl, _, _, rfl, rfl, (by show (0 : Int) < 2147483179; decide), (by show 3 ≤ sizeLine; decide), fun p hp => ?_⟩
      exact k p _ _ hp (Int.ediv_nonneg (Int.emod_nonneg _ (by omega)) (by omega)) (Int.emod_nonneg _ (by decide))
    · refine ⟨_, rfl, _, rfl, .inl ⟨_, rfl, _, _, rfl, rfl, ⟨by decide, by decide, by decide⟩, _, _, rfl, rfl, pb, _, _, rfl, rfl, pw0, ?_⟩⟩
      refine ⟨_, rfl, _, _, rfl, rfl, ⟨by decide, by decide, by decide⟩, _, _, rfl, rfl, ⟨p18, p18b⟩, ?_⟩
      refine ⟨_, rfl, _, _, rfl, rfl, (by show (0 : Int) < 2147483237; decide), _, _, rfl, rfl, .inl ⟨(m1 _).1, (m1 _).2⟩, _, rfl, _, _, rfl, rfl, .inl ⟨by decide, by decide⟩, _, _, rfl, rfl, ?_⟩
      refine ⟨_, rfl, _, _, rfl, rfl, .inr ⟨_, rfl, _, _, rfl, rfl, .inl ⟨by decide, by decide⟩, _, _, rfl, rfl, _, _, rfl, rfl, ?_⟩⟩
      refine ⟨_, rfl, _, rfl, _, _, rfl, rfl, (by show (0 : Int) < 2147483179; decide), (by show 3 ≤ sizeLine; decide), fun p hp => ?_⟩
      exact k p _ _ hp (Int.ediv_nonneg (Int.emod_nonneg _ (by omega)) (by omega)) (Int.emod_nonneg _ (by decide))
end
end M3

set_option Elab.async false
set_option linter.all false
set_option maxRecDepth 100000
set_option maxHeartbeats 8000000
/-! # Drawn orders, letters, words -/
namespace M3
open PySem L2
theorem keep_new {H : Hp} {p b : Addr} {o u : HO} (h : H b = some o) (hp : H p = none) : upd H p u b = some o := by
  rw [upd_ne (ne_of_none h hp)]
  exact h
/-- all but the dice stands as it stood -/
def Still (d : Addr) (H H' : Hp) : Prop := ∀ b o, b ≠ d → H b = some o → H' b = some o
theorem Still.new {d : Addr} {H H1 : Hp} {p : Addr} {u : HO} (s : Still d H H1) (hp : H1 p = none) : Still d H (upd H1 p u) := fun b o hb h => keep_new (s b o hb h) hp
theorem Still.turn {d : Addr} {H H1 H2 : Hp} (s : Still d H H1) (t : Turned H1 H2 d) : Still d H H2 := fun b o hb h => by
  rw [t.ne hb]
  exact s b o hb h
theorem Still.refl (d : Addr) (H : Hp) : Still d H H := fun _ _ _ h => h
theorem Still.trans {d : Addr} {H H1 H2 : Hp} (s : Still d H H1) (t : Still d H1 H2) : Still d H H2 := fun b o hb h => t b o hb (s b o hb h)
/-- what is made behind H changes nothing of H -/
theorem Still.at_new {d q : Addr} {H H1 : Hp} {u : HO} (s : Still d H H1) (hq : H q = none) : Still d H (upd H1 q u) := fun b o hb h => by
  rw [upd_ne (ne_of_none h hq)]
  exact s b o hb h
theorem Dz.new {H : Hp} {d p : Addr} {u : HO} (z : Dz H d) (hp : H p = none) : Dz (upd H p u) d := by
  obtain ⟨l, m, c, h, r⟩ := z
  exact ⟨l, m, c, keep_new h hp, r⟩
theorem Dz.ne {H : Hp} {d p : Addr} {u : HO} (z : Dz H d) (hp : p ≠ d) : Dz (upd H p u) d := by
  obtain ⟨l, m, c, h, r⟩ := z
  exact ⟨l, m, c, by rw [upd_ne hp.symm]; exact h, r⟩
structure TxM (mg : Str → Option Value) : Prop where
  list : mg "list" = none
  sorted : mg "sorted" = none
  range : mg "range" = none
  tuple : mg "tuple" = none
  len : mg "len" = none
/-- the facts of the dice's defs -/
structure DefsD (K : PySem.W.Frag) (mg : Str → Option Value) where
  (fR fO : Addr)
  (dR dO : FuncData)
  R : Fun K "_law_roll" "_law_roll" sRoll fR dR
  bR : Binds K dR ["dice", "total"] []
  mR : mg "_law_roll" = some (.ref fR)
  O : Fun K "_law_one_of" "_law_one_of" sOneOf fO dO
  bO : Binds K dO ["dice", "items"] []
  mO : mg "_law_one_of" = some (.ref fO)
abbrev sMixed : Stmt := top 48
theorem dp_strs {K : PySem.W.Frag} {H : Hp} : ∀ ss : List Str, DpAll K H (ss.map V.str) (ss.map PyData.str)
  | [] => .nil
  | _ :: ss => .cons (.str _) (dp_strs ss)
theorem strs_lay : ∀ ss : List Str, (∀ z ∈ ss, PyData.strOk z = true) → PyData.canLayAll0 (ss.map PyData.str) = true
  | [], _ => by rfl
  | x :: l, hk => by
    have h := strs_lay l fun z hz => hk z (List.mem_cons_of_mem _ hz)
    have h0 := hk x List.mem_cons_self
    simp only [List.map_cons, PyData.canLayAll0, PyData.canLay0, h, h0, Bool.and_self]
theorem strs_depth : ∀ ss : List Str, PyData.depthAll (ss.map PyData.str) = 0
  | [] => by rfl
  | _ :: l => by
    have h := strs_depth l
    simp only [List.map_cons, PyData.depthAll, PyData.depth, h, Nat.max_self]
theorem strs_shaped (ss : List Str) (hk : ∀ z ∈ ss, PyData.strOk z = true) : SeqAt.shaped (.list (ss.map PyData.str)) = true := by
  unfold SeqAt.shaped
  have h1 : (PyData.list (ss.map PyData.str)).canLay0 = true := by
    have h := strs_lay ss hk
    simp only [PyData.canLay0, h]
  have h2 : (PyData.list (ss.map PyData.str)).depth = 1 := by
    have h := strs_depth ss
    simp only [PyData.depth, h]
  rw [h1, h2]
  rfl
theorem map_erase {α β : Type} (g : α → β) : ∀ (l : List α) (i : Nat), (l.map g).eraseIdx i = (l.eraseIdx i).map g
  | [], _ => rfl
  | _ :: _, 0 => rfl
  | x :: l, i + 1 => by
    show g x :: (l.map g).eraseIdx i = g x :: (l.eraseIdx i).map g
    rw [map_erase g l i]
theorem erase_perm {α : Type} : ∀ (l : List α) (i : Nat) (h : i < l.length), (l[i] :: l.eraseIdx i).Perm l
  | _ :: _, 0, _ => List.Perm.refl _
  | x :: l, i + 1, h => by
    have h' : i < l.length := Nat.lt_of_succ_lt_succ h
    have p := erase_perm l i h'
    show (l[i] :: x :: l.eraseIdx i).Perm (x :: l)
    exact (List.Perm.swap x l[i] _).trans (p.cons x)
theorem seqIx {n k : Nat} (h : k < n) : seqIndex? (k : Int) n = some k := by
  unfold seqIndex?
  have a : ¬ (k : Int) < 0 := by omega
  have b : (0 : Int) ≤ k ∧ (k : Int) < n := by omega
  simp only [if_neg a]
  rw [decide_eq_true b.1, decide_eq_true b.2]
  rfl
theorem strs_eqv_nil (ss : List Str) : (PyData.list (ss.map PyData.str)).eqv (.list []) = ss.isEmpty := by
  cases ss with
  | nil => rfl
  | cons a l => simp [PyData.eqv, PyData.eqvAll]
def spMixed (K : PySem.W.Frag) : Sp := fun vs H Q _ => ∃ (d a : Addr) (ss : List Str), vs = [.ref d, .ref a] ∧ Dz H d ∧ SqL K H a (ss.map V.str) ∧ ss.length ≤ 100 ∧ (∀ z ∈ ss, PyData.strOk z = true) ∧
  ∀ (ys : List Str) (p : Addr) (H' : Hp), ys.Perm ss → H p = none → H' p = some (.lst (ys.map V.str)) → Dz H' d → Still d H H' → Q (.ref p) H'
section
variable {P : Program} {w : World} {K : PySem.W.Frag} {mg : Str → Option Value} {base : Heap}
theorem scMixed : FnScope ["dice", "items", "left", "found"] ["dice", "items"] (defScope sMixed) := ⟨rfl, rfl, rfl, by decide +kernel, rfl, by decide +kernel, by decide +kernel⟩
theorem ok_mixed {f : Addr} {fd : FuncData} (F : Fun K "_law_mixed" "_law_mixed" sMixed f fd) (D : DefsD K mg) (T : TxI mg) (M : TxM mg) : FnOk P w K mg base CX0 2 f fd ["dice", "items"] (spMixed K) := by
  have GR : FnOk P w K mg base CX0 1 D.fR D.dR ["dice", "total"] spRoll := ok_roll D.R T
  refine F.ok scMixed (fun vs H Q E h => ?_) (fun cdv A outer s H vs Q E hr h => ?_)
  · obtain ⟨d, a, ss, rfl, _⟩ := h
    rfl
  · obtain ⟨d, a, ss, rfl, Z, ha, hl, hok, k⟩ := h
    have hr1 : Room 1 _ := hr.mono (by decide)
    refine ⟨_, pss_cons (ps_par (i := 2) (j := 3) (by rfl) scMixed.nd rfl rfl (by decide) rfl rfl (pa_cons (pe_callTy call_list_of (by rfl) M.list (by decide +kernel) (pa_cons (pv 1) pa_nil)) (pa_cons (pe_lst pa_nil) pa_nil)) (by rfl))
      (pss_cons (ps_while PassesOwn.never (pt_cmpR (op_neD hr.units) (pv 2) (pe_lst pa_nil) (nomark _))
        (pss_one (ps_expr (pe_bm PySem.F.plainAttrs_list PySem.F.slot_list_append PySem.F.type_list_append mt_append (pv 3)
          (pa_cons (pe_bm PySem.F.plainAttrs_list PySem.F.slot_list_pop PySem.F.type_list_pop mt_popAt (pv 2) (pa_cons (pe_call GR hr1 rfl D.mR D.R.kp D.bR .nil pass0 (pa_cons (pv 0) (pa_cons (pe_callB call_len_seq (by rfl) T.len PySem.boot_len (pa_cons (pv 2) pa_nil)) pa_nil))) pa_nil)) pa_nil)))))
      (pss_one (ps_ret (pv 3)))), ?_⟩
    refine ⟨_, rfl, a, _, rfl, .inl ha, fun l nl => ⟨(by show 0 ≤ sizeLine; decide), fun f nf => ?_⟩⟩
    have ne_a : ∀ {H' : Hp} {b : Addr}, H' b = none → ∀ {o : HO}, H' d = some o → b ≠ d := fun n _ h z => by
      subst z
      rw [n] at h
      cases h
    obtain ⟨dl, dm, dc, hd, w1, w2, w3⟩ := id Z
    have ld : l ≠ d := ne_a nl hd
    have hd1 : (upd H l (.lst (ss.map V.str))) d = some (.lst [.int dl, .int dm, .int dc]) := keep_new hd nl
    have fd' : f ≠ d := ne_a nf hd1
    have lf : l ≠ f := fun z => by
      subst z
      rw [upd_same] at nf
      cases nf
    have nf0 : H f = none := by
      rw [upd_ne (Ne.symm lf)] at nf
      exact nf
    refine ⟨_, _, rfl, ?_⟩
    refine while_by (fun σ H' => σ = [some (.ref d), some (.ref a), some (.ref l), some (.ref f)] ∧ ∃ ls fs : List Str, H' l = some (.lst (ls.map V.str)) ∧ H' f = some (.lst (fs.map V.str)) ∧ (fs ++ ls).Perm ss ∧ Dz H' d ∧ Still d H H')
      (fun σ H' => match H' l with | some (.lst xs) => xs.length | _ => 0) ⟨rfl, ss, [], by rw [upd_ne lf]; exact upd_same, upd_same, List.Perm.refl _, (Z.new nl).new nf, ((Still.refl d H).new nl).new nf⟩ ?_ ?_
    · rintro σ H1 ⟨rfl, ls, fs, h1, h2, h3, h4, h5⟩
      refine ⟨_, rfl, (by show 0 ≤ sizeLine; decide), fun p np => ?_⟩
      refine ⟨_, _, .lst (SqL.of (keep_new h1 np)) (dp_strs ls), .lst (SqL.of upd_same) .nil, strs_shaped ls (fun z hz => hok z (h3.subset (List.mem_append_right _ hz))), by decide, ?_⟩
      rw [strs_eqv_nil]
      refine ⟨_, rfl, ?_⟩
      cases ls with
      | nil =>
        refine iteF ?_
        rw [List.append_nil] at h3
        exact ⟨_, rfl, k fs f _ h3 nf0 (keep_new h2 np) (h4.new np) (h5.new np)⟩
      | cons z ls =>
        refine iteT ?_
        have g1 : (upd H1 p (.lst [])) l = some (.lst ((z :: ls).map V.str)) := keep_new h1 np
        have g2 : (upd H1 p (.lst [])) f = some (.lst (fs.map V.str)) := keep_new h2 np
        have g4 : Dz (upd H1 p (.lst [])) d := h4.new np
        have g5 : Still d H (upd H1 p (.lst [])) := h5.new np
        generalize upd H1 p (.lst []) = H2 at g1 g2 g4 g5 ⊢
        obtain ⟨l0, m0, c0, D0⟩ := g4
        have hlen : (z :: ls).length ≤ 100 := by
          have := h3.length_eq
          rw [List.length_append] at this
          omega
        refine ⟨_, rfl, .inl ⟨rfl, _, SqL.of g2⟩, _, rfl, .inl ⟨rfl, _, SqL.of g1⟩, _, rfl, _, rfl, l, _, rfl, .inl (SqL.of g1), d, l0, m0, c0, _, rfl, D0, ?_, ?_, fun r l' c' r0 rn q0 q1 => ?_⟩
        · rw [List.length_map]
          show (0 : Int) < ((ls.length + 1 : Nat) : Int)
          omega
        · rw [List.length_map]
          omega
        · rw [List.length_map] at rn
          have rl : r.toNat < (z :: ls).length := by omega
          have er : r = (r.toNat : Int) := by omega
          have TT : Turned H2 (upd H2 d (.lst [.int l', .int m0, .int c'])) d := ⟨l', m0, c', q0, D0.2.2.1, q1, rfl⟩
          have k1 : (upd H2 d (.lst [.int l', .int m0, .int c'])) l = some (.lst ((z :: ls).map V.str)) := by
            rw [upd_ne ld]
            exact g1
          have k2 : (upd H2 d (.lst [.int l', .int m0, .int c'])) f = some (.lst (fs.map V.str)) := by
            rw [upd_ne fd']
            exact g2
          have k4 := TT.dz
          have k5 := g5.turn TT
          generalize upd H2 d (.lst [.int l', .int m0, .int c']) = H3 at k1 k2 k4 k5 ⊢
          refine ⟨l, _, r, r.toNat, .str ((z :: ls)[r.toNat]), rfl, rfl, k1, by omega, by omega, ?_, ?_, ?_⟩
          · rw [List.length_map, er]
            exact seqIx rl
          · rw [List.getElem?_map, List.getElem?_eq_getElem rl]
            rfl
          · refine ⟨f, _, _, rfl, rfl, by rw [upd_ne (Ne.symm lf)]; exact k2, ?_, ?_⟩
            · rw [List.length_map]
              have := h3.length_eq
              rw [List.length_append] at this
              exact Nat.lt_of_le_of_lt (show fs.length ≤ 100 by omega) (by decide)
            · refine ⟨⟨rfl, (z :: ls).eraseIdx r.toNat, fs ++ [(z :: ls)[r.toNat]], ?_, ?_, ?_, ?_, ?_⟩, ?_⟩
              · rw [upd_ne lf, upd_same, map_erase]
              · rw [upd_same, List.map_append]
                rfl
              · refine List.Perm.trans ?_ h3
                rw [List.append_assoc]
                refine List.Perm.append_left fs ?_
                exact (erase_perm (z :: ls) r.toNat rl)
              · exact (k4.ne ld).ne fd'
              · exact (k5.at_new nl).at_new nf0
              · show (match (upd _ f _) l with | some (.lst xs) => xs.length | _ => 0) < (match H1 l with | some (.lst xs) => xs.length | _ => 0)
                rw [h1, upd_ne lf, upd_same]
                show (((z :: ls).map V.str).eraseIdx r.toNat).length < ((z :: ls).map V.str).length
                rw [List.length_eraseIdx, List.length_map, if_pos rl]
                show ls.length + 1 - 1 < ls.length + 1
                omega
    · rintro σ H1 Q1 Q2 hq ⟨x, hx, hz, hh⟩
      refine ⟨x, hx, hz, fun p np => ?_⟩
      obtain ⟨d1, d2, q1, q2, q3, q4, k1, q5, q6⟩ := hh p np
      exact ⟨d1, d2, q1, q2, q3, q4, k1, q5, hq _ _ q6⟩
end
end M3

set_option Elab.async false
set_option linter.all false
set_option maxRecDepth 100000
set_option maxHeartbeats 8000000
/-! # Drawn sets of letters, drawn words -/
namespace M3
open PySem L2
/-- list(a text): its signs -/
theorem call_listS {X : Cx} (hc : X.calm = true) : CallR X (.type "list") (fun xs H Q => ∃ x : Str, xs = [.str x] ∧ x.length ≤ sizeLine ∧ ∀ l, H l = none → Q (.ref l) (upd H l (.lst ((PyProof.Rows.signs x).map V.str)))) := by
  intro pins s σ H xs us Q I r h
  obtain ⟨x, rfl, hz, q⟩ := h
  obtain ⟨u, rfl, rx⟩ := vals1 r
  obtain ⟨t, rfl⟩ := rx
  refine call_list_str (I.ok.hd hc) x t (hn := hz) fun h' tk acc' c' hk hS hacc => ?_
  refine ⟨.ref s.heap.objs.size, _, I.laid (t' := tk) hk (Nat.le_refl _) (show ObjOk X.prog X.w _ h' _ (.lst ((PyProof.Rows.signs x).map V.str)) from ⟨?_, acc'.toList, c', ?_, by simpa using hS⟩), rfl, q _ (I.hok.fresh (Nat.le_refl _))⟩
  · rw [List.length_map]
    unfold PyProof.Rows.signs
    rw [List.length_map]
    exact hz
  · have hl : acc'.toList.length = x.cps.toList.length := by
      have := hacc.1
      simpa using this
    refine vals_of_at ?_ fun j y v h1 h2 => ?_
    · unfold PyProof.Rows.signs
      rw [List.length_map, List.length_map, hl]
    · obtain ⟨c, u, e1, e2⟩ := hacc.2 j v (by simpa using h2)
      unfold PyProof.Rows.signs at h1
      rw [List.getElem?_map, List.getElem?_map] at h1
      have e3 : x.cps.toList[j]? = some c := by simpa using e1
      rw [e3] at h1
      cases h1
      exact ⟨u, e2⟩
abbrev sLetters : Stmt := top 49
theorem scLetters : FnScope ["dice", "total"] ["dice", "total"] (defScope sLetters) := ⟨rfl, rfl, rfl, by decide +kernel, rfl, by decide +kernel, by decide +kernel⟩
/-- a set of letters that is drawn: ascending signs of abckxz -/
def IsSet (w : Str) (n : Nat) : Prop := ∃ cs : List Nat, w = ⟨cs.toArray⟩ ∧ cs.length = n ∧ cs.Pairwise (· < ·) ∧ ∀ c ∈ cs, c ∈ [97, 98, 99, 107, 120, 122]
abbrev six : List Nat := [97, 98, 99, 107, 120, 122]
theorem signs_six : PyProof.Rows.signs "abckxz" = six.map fun c => (⟨#[c]⟩ : Str) := by decide +kernel
theorem six_lt : ∀ a ∈ six, ∀ b ∈ six, a ≠ b → PyProof.Rows.sortedS [(⟨#[a]⟩ : Str), ⟨#[b]⟩] = true → a < b := by decide +kernel
theorem six_join : ∀ a ∈ six, ∀ b ∈ six, Txt.join "" [(⟨#[a]⟩ : Str), ⟨#[b]⟩] = ⟨#[a, b]⟩ := by decide +kernel
theorem six_join1 : ∀ a ∈ six, Txt.join "" [(⟨#[a]⟩ : Str)] = ⟨#[a]⟩ := by decide +kernel
theorem six_ok : ∀ z ∈ PyProof.Rows.signs "abckxz", PyData.strOk z = true := by
  rw [signs_six]
  decide +kernel
theorem six_nodup : (PyProof.Rows.signs "abckxz").Nodup := by
  rw [signs_six]
  decide +kernel
theorem set_of {ys zs : List Str} {n : Nat} (h1 : 1 ≤ n) (h2 : n ≤ 2) (perm : ys.Perm (PyProof.Rows.signs "abckxz")) (pz : zs.Perm (ys.take n)) (so : PyProof.Rows.sortedS zs = true) : IsSet (Txt.join "" zs) n ∧ (zs.map (·.length)).sum ≤ 2 := by
  have hn : ys.Nodup := perm.nodup_iff.mpr six_nodup
  have hz : zs.Nodup := pz.nodup_iff.mpr (hn.sublist (List.take_sublist n ys))
  have ly : ys.length = 6 := by
    rw [perm.length_eq, signs_six]
    rfl
  have lz : zs.length = n := by
    rw [pz.length_eq, List.length_take, ly]
    omega
  have hm : ∀ z ∈ zs, ∃ a ∈ six, z = (⟨#[a]⟩ : Str) := fun z h => by
    have h' := perm.subset (List.mem_of_mem_take (pz.subset h))
    rw [signs_six] at h'
    obtain ⟨a, ha, e⟩ := List.mem_map.mp h'
    exact ⟨a, ha, e.symm⟩
  match zs, lz, hz, hm, so with
  | [], lz, _, _, _ =>
    have lz : 0 = n := lz
    omega
  | [z], lz, _, hm, _ =>
    obtain ⟨a, ha, e⟩ := hm z List.mem_cons_self
    subst e
    have lz : 1 = n := lz
    refine ⟨⟨[a], six_join1 a ha, lz, List.pairwise_singleton _ _, fun c hc => ?_⟩, by show 1 + 0 ≤ 2; decide⟩
    rw [List.mem_singleton.mp hc]
    exact ha
  | [x, y], lz, hz, hm, so =>
    obtain ⟨a, ha, e⟩ := hm x List.mem_cons_self
    obtain ⟨b, hb, e'⟩ := hm y (List.mem_cons_of_mem _ List.mem_cons_self)
    subst e e'
    have lz : 2 = n := lz
    have ne : a ≠ b := fun q => by
      subst q
      simp at hz
    have lt := six_lt a ha b hb ne so
    refine ⟨⟨[a, b], six_join a ha b hb, lz, ?_, fun c hc => ?_⟩, by show 1 + (1 + 0) ≤ 2; decide⟩
    · simp [lt]
    · rcases List.mem_cons.mp hc with q | q
      · rw [q]
        exact ha
      · rw [List.mem_singleton.mp q]
        exact hb
  | _ :: _ :: _ :: l, lz, _, _, _ =>
    have lz : l.length + 3 = n := lz
    omega
theorem cut_take {ss : List Str} {n : Nat} (h : n ≤ ss.length) : cutV (ss.map V.str) none (some (n : Int)) = (ss.take n).map V.str := by
  unfold cutV
  rw [HT.sIx_none, HT.sIx_nat, List.length_map, List.drop_zero, Nat.sub_zero, Nat.min_eq_left h, List.map_take]
def spLetters : Sp := fun vs H Q _ => ∃ (d : Addr) (n : Nat), vs = [.ref d, .int n] ∧ Dz H d ∧ 1 ≤ n ∧ n ≤ 2 ∧ ∀ (x : Str) (H' : Hp), IsSet x n → Dz H' d → Still d H H' → Q (.str x) H'
section
variable {P : Program} {w : World} {K : PySem.W.Frag} {mg : Str → Option Value} {base : Heap}
theorem ok_letters {f g : Addr} {fd gd : FuncData} (F : Fun K "_law_letters" "_law_letters" sLetters f fd) (FM : Fun K "_law_mixed" "_law_mixed" sMixed g gd) (bM : Binds K gd ["dice", "items"] []) (mM : mg "_law_mixed" = some (.ref g)) (D : DefsD K mg) (T : TxI mg) (M : TxM mg) :
    FnOk P w K mg base CX0 3 f fd ["dice", "total"] spLetters := by
  have GM : FnOk P w K mg base CX0 2 g gd ["dice", "items"] (spMixed K) := ok_mixed FM D T M
  refine F.ok scLetters (fun vs H Q E h => ?_) (fun cdv A outer s H vs Q E hr h => ?_)
  · obtain ⟨d, n, rfl, _⟩ := h
    rfl
  · obtain ⟨d, n, rfl, Z, h1, h2, k⟩ := h
    have hr2 : Room 2 _ := hr.mono (by decide)
    refine ⟨_, pss_one (ps_ret (pe_join pe_str (pe_callB cr_sortedS (by rfl) M.sorted (by decide +kernel) (pa_cons (pe_slice sl_list (pe_call GM hr2 rfl mM FM.kp bM .nil pass0 (pa_cons (pv 0) (pa_cons (pe_callTy (call_listS rfl) (by rfl) M.list (by decide +kernel) (pa_cons pe_str pa_nil)) pa_nil))) po_none (po_some (pv 1))) pa_nil)))), ?_⟩
    refine ⟨⟨_, rfl⟩, _, rfl, "abckxz", rfl, by decide, fun l nl => ?_⟩
    refine ⟨d, l, _, rfl, Z.new nl, SqL.of upd_same, by decide +kernel, six_ok, fun ys p H' perm np hp Z' st => ?_⟩
    refine ⟨_, rfl, _, rfl, p, _, rfl, SqL.of hp, fun p2 np2 => ?_⟩
    have ly : ys.length = 6 := by
      rw [perm.length_eq, signs_six]
      rfl
    rw [cut_take (by omega)]
    refine ⟨p2, ys.take n, rfl, SqL.of upd_same, ?_, fun zs p3 pz so np3 => ?_⟩
    · rw [List.length_take]
      omega
    · obtain ⟨s1, s2⟩ := set_of h1 h2 perm pz so
      refine ⟨"", p3, zs, rfl, rfl, .inl (SqL.of upd_same), ?_, ?_⟩
      · have e : ("" : Str).length = 0 := by decide +kernel
        rw [e]
        omega
      · exact k _ _ s1 ((Z'.new np2).new np3) (((((Still.refl d H).new nl).trans st).new np2).new np3)
end
end M3

set_option Elab.async false
set_option linter.all false
set_option maxRecDepth 100000
set_option maxHeartbeats 8000000
/-! # Drawn words -/
namespace M3
open PySem L2
abbrev sWord : Stmt := top 50
abbrev nWord : List Str := ["dice", "letters", "most", "turn"]
theorem scWord : FnScope nWord ["dice", "letters", "most"] (defScope sWord) := ⟨rfl, rfl, rfl, by decide +kernel, rfl, by decide +kernel, by decide +kernel⟩
theorem join_flat (zs : List Str) : Txt.join "" zs = ⟨(zs.flatMap fun z => z.cps.toList).toArray⟩ := by
  have e0 : ("" : Str).cps = #[] := by decide +kernel
  have go : ∀ (ps : List Str) (acc : Array Nat), ps.foldl (fun acc p => acc ++ ("" : Str).cps ++ p.cps) acc = acc ++ (ps.flatMap fun z => z.cps.toList).toArray := by
    intro ps
    induction ps with
    | nil =>
      intro acc
      simp
    | cons p ps ih =>
      intro acc
      rw [List.foldl_cons, ih, e0]
      apply Array.toList_inj.mp
      simp
  cases zs with
  | nil => decide +kernel
  | cons z zs =>
    show (⟨(zs.foldl (fun acc p => acc ++ ("" : Str).cps ++ p.cps) z.cps)⟩ : Str) = _
    rw [go]
    congr 1
    apply Array.toList_inj.mp
    simp
/-- a word of the letters x -/
def IsW (x : Str) (w : Str) : Prop := ∀ c ∈ w.cps.toList, c ∈ x.cps.toList
theorem join_word {x : Str} {zs : List Str} (h : ∀ z ∈ zs, ∃ c ∈ x.cps.toList, z = (⟨#[c]⟩ : Str)) : IsW x (Txt.join "" zs) ∧ (Txt.join "" zs).length = zs.length ∧ (zs.map (·.length)).sum = zs.length := by
  rw [join_flat]
  refine ⟨fun c hc => ?_, ?_, ?_⟩
  · have hc : c ∈ zs.flatMap fun z => z.cps.toList := by simpa using hc
    obtain ⟨z, hz, q⟩ := List.mem_flatMap.mp hc
    obtain ⟨a, ha, e⟩ := h z hz
    rw [e] at q
    have q : c ∈ [a] := q
    rw [List.mem_singleton.mp q]
    exact ha
  · show (zs.flatMap fun z => z.cps.toList).toArray.size = zs.length
    rw [List.size_toArray]
    induction zs with
    | nil => rfl
    | cons z zs ih =>
      obtain ⟨a, _, e⟩ := h z List.mem_cons_self
      rw [List.flatMap_cons, List.length_append, ih fun y hy => h y (List.mem_cons_of_mem _ hy), e, List.length_cons]
      show 1 + zs.length = zs.length + 1
      omega
  · induction zs with
    | nil => rfl
    | cons z zs ih =>
      obtain ⟨a, _, e⟩ := h z List.mem_cons_self
      rw [List.map_cons, List.sum_cons, ih fun y hy => h y (List.mem_cons_of_mem _ hy), e, List.length_cons]
      show 1 + zs.length = zs.length + 1
      omega
theorem tYes_if {σ : St} {H : Hp} {A B : Hp → Prop} (h : A H) : tYes σ H (fun b H3 => if b = true then A H3 else B H3) := by
  show (if true = true then A H else B H)
  exact h
def spWord : Sp := fun vs H Q _ => ∃ (d : Addr) (x : Str) (m : Nat), vs = [.ref d, .str x, .int m] ∧ Dz H d ∧ 0 < x.length ∧ x.length ≤ 100 ∧ m ≤ 100 ∧
  ∀ (y : Str) (H' : Hp), IsW x y → y.length ≤ m → Dz H' d → Still d H H' → Q (.str y) H'
theorem Still.free {d b : Addr} {H H1 : Hp} (s : Still d H H1) (z : Dz H1 d) (h : H1 b = none) : H b = none := by
  cases e : H b with
  | none => rfl
  | some o =>
    have nb : b ≠ d := fun q => by
      subst q
      obtain ⟨l, m, c, q, _⟩ := z
      rw [h] at q
      cases q
    rw [s b o nb e] at h
    cases h
theorem Dz.not {d b : Addr} {H : Hp} (z : Dz H d) (h : H b = none) : b ≠ d := fun q => by
  subst q
  obtain ⟨l, m, c, q, _⟩ := z
  rw [h] at q
  cases q
section
variable {P : Program} {w : World} {K : PySem.W.Frag} {mg : Str → Option Value} {base : Heap}
theorem ok_word {f : Addr} {fd : FuncData} (F : Fun K "_law_word" "_law_word" sWord f fd) (D : DefsD K mg) (T : TxI mg) (M : TxM mg) :
    FnOk P w K mg base CX0 3 f fd ["dice", "letters", "most"] spWord := by
  have GR : FnOk P w K mg base CX0 1 D.fR D.dR ["dice", "total"] spRoll := ok_roll D.R T
  have GO : FnOk P w K mg base CX0 2 D.fO D.dO ["dice", "items"] (spOneOf K) := ok_oneof D.O D.R D.bR D.mR T
  refine F.ok scWord (fun vs H Q E h => ?_) (fun cdv A outer s H vs Q E hr h => ?_)
  · obtain ⟨d, x, m, rfl, _⟩ := h
    rfl
  · obtain ⟨d, x, m, rfl, Z, x1, x2, hm, k⟩ := h
    have hr2 : Room 2 _ := hr.mono (by decide)
    have hr1 : Room 1 _ := hr.mono (by decide)
    refine ⟨_, pss_one (ps_ret (pe_join pe_str (pe_lc (own := [("turn", 3)]) (g := gName 3) (tt := tYes) rfl scWord.nd (pi_range1 rfl M.range (pa_cons (pe_call GR hr1 rfl D.mR D.R.kp D.bR .nil pass0 (pa_cons (pv 0) (pa_cons (pe_op op_add (pv 2) pe_int) pa_nil))) pa_nil)) (blkOk_by (N := nWord) (sc := defScope sWord) (by decide +kernel)) (fun _ _ _ _ _ => pg_name (i := 3) scWord.nd rfl (Or.inl rfl)) (fun _ _ _ _ _ => pts_nil)
      (fun _ _ _ _ _ => pe_call GO hr2 rfl D.mO D.O.kp D.bO .nil pass0 (pa_cons (pv 0) (pa_cons (pe_callTy (call_listS rfl) (by rfl) M.list (by decide +kernel) (pa_cons (pv 1) pa_nil)) pa_nil)))))), ?_⟩
    obtain ⟨l0, m0, c0, D0⟩ := id Z
    refine ⟨⟨_, rfl⟩, _, rfl, _, rfl, _, _, rfl, rfl, d, l0, m0, c0, _, rfl, D0, by omega, by omega, fun r l' c' r0 rn q0 q1 => ?_⟩
    have TT : Turned H (upd H d (.lst [.int l', .int m0, .int c'])) d := ⟨l', m0, c', q0, D0.2.2.1, q1, rfl⟩
    have Z1 := TT.dz
    have S1 := (Still.refl d H).turn TT
    generalize upd H d (.lst [.int l', .int m0, .int c']) = H1 at Z1 S1 ⊢
    refine ⟨r, rfl, by omega, by omega, fun C nC => ?_⟩
    have Cd : C ≠ d := Z1.not nC
    have HC : H C = none := S1.free Z1 nC
    refine lc_range (lo := 0) (n := r.toNat) (fun j H9 => ∃ zs : List Str, H9 C = some (.lst (zs.map V.str)) ∧ zs.length = j ∧ (∀ z ∈ zs, ∃ c ∈ x.cps.toList, z = (⟨#[c]⟩ : Str)) ∧ Dz H9 d ∧ Still d H H9)
      ⟨[], upd_same, rfl, (fun z hz => by cases hz), Z1.new nC, S1.new nC⟩ ?_ ?_
    · rintro j H9 hj ⟨zs, h1, h2, h3, h4, h5⟩
      refine ⟨rfl, tYes_if ?_⟩
      have hj : j < 101 := by omega
      refine ⟨_, rfl, _, rfl, x, rfl, Nat.le_trans x2 (by decide), fun l nl => ?_⟩
      have ls : ((PyProof.Rows.signs x).map V.str).length = x.length := by
        unfold PyProof.Rows.signs
        rw [List.length_map, List.length_map]
        rfl
      refine ⟨d, l, _, rfl, h4.new nl, SqL.of upd_same, h4.not nl, by rw [ls]; exact x1, by rw [ls]; omega, fun v H2 hv T2 => ?_⟩
      obtain ⟨z, hz, rfl⟩ := List.mem_map.mp hv
      have hz' : ∃ c ∈ x.cps.toList, z = (⟨#[c]⟩ : Str) := by
        unfold PyProof.Rows.signs at hz
        obtain ⟨c, hc, e⟩ := List.mem_map.mp hz
        exact ⟨c, hc, e.symm⟩
      have g1 : H2 C = some (.lst (zs.map V.str)) := by
        rw [T2.ne Cd]
        exact keep_new h1 nl
      refine ⟨_, g1, ?_, zs ++ [z], ?_, ?_, fun y hy => ?_, T2.dz.ne Cd, ((h5.new nl).turn T2).at_new HC⟩
      · rw [List.length_map, h2]
        exact Nat.lt_trans hj (by decide)
      · rw [upd_same, List.map_append]
        rfl
      · rw [List.length_append, h2]
        rfl
      · rcases List.mem_append.mp hy with q | q
        · exact h3 y q
        · rw [List.mem_singleton.mp q]
          exact hz'
    · rintro H9 ⟨zs, h1, h2, h3, h4, h5⟩
      obtain ⟨w1, w2, w3⟩ := join_word h3
      have e0 : ("" : Str).length = 0 := by decide +kernel
      refine ⟨"", C, zs, rfl, rfl, .inl (SqL.of h1), ?_, k _ _ w1 ?_ h4 h5⟩
      · rw [e0, w3, h2]
        omega
      · rw [w2, h2]
        omega
end
end M3

set_option Elab.async false
set_option linter.all false
set_option maxRecDepth 100000
set_option maxHeartbeats 8000000
/-! # Drawn ways to lead -/
namespace M3
open PySem L2
abbrev sAction : Stmt := top 51
abbrev nAction : List Str := ["dice", "size", "sort", "spot", "by", "found", "one", "other", "place"]
theorem scAction : FnScope nAction ["dice", "size", "sort"] (defScope sAction) := ⟨rfl, rfl, rfl, by decide +kernel, rfl, by decide +kernel, by decide +kernel⟩
def nts (xs : List Nat) : List V := xs.map fun (x : Nat) => V.int (x : Int)
theorem nts_length (xs : List Nat) : (nts xs).length = xs.length := List.length_map _
theorem nts_append (xs : List Nat) (x : Nat) : some (HO.lst (nts xs ++ [V.int x])) = some (HO.lst (nts (xs ++ [x]))) := by
  unfold nts
  rw [List.map_append]
  rfl
theorem nts_eq (xs : List Nat) : some (HO.lst (nts xs)) = some (HO.lst ((xs.map Int.ofNat).map V.int)) := by
  unfold nts
  rw [List.map_map]
  rfl
theorem nts_eq' (xs : List Nat) : nts xs = (xs.map Int.ofNat).map V.int := by
  unfold nts
  rw [List.map_map]
  rfl
theorem ixNat {n k : Nat} (h : k < n) : ixN n (k : Int) = some k := by
  unfold ixN
  rw [if_pos (by omega), if_pos (by omega)]
  rfl
theorem rgV_nats (n : Nat) : rgV 0 (n : Int) = nts (List.range n) := by
  unfold rgV nts
  have e : ((n : Int) - 0).toNat = n := by omega
  rw [e]
  exact List.map_congr_left fun i _ => by rw [Int.zero_add]
theorem nats_perm {ys : List Int} {xs : List Nat} (p : ys.Perm (xs.map Int.ofNat)) : ∃ zs : List Nat, ys = zs.map Int.ofNat ∧ zs.Perm xs := by
  refine ⟨ys.map Int.toNat, ?_, ?_⟩
  · have h : ∀ y ∈ ys, Int.ofNat y.toNat = y := fun y hy => by
      obtain ⟨x, _, e⟩ := List.mem_map.mp (p.subset hy)
      rw [← e]
      rfl
    rw [List.map_map]
    exact ((List.map_congr_left h).trans (List.map_id ys)).symm
  · have q := p.map Int.toNat
    rw [List.map_map] at q
    have e : xs.map (Int.toNat ∘ Int.ofNat) = xs := (List.map_congr_left (fun x _ => rfl)).trans (List.map_id xs)
    rw [e] at q
    exact q
/-- a number is drawn -/
def spDraw : Sp := fun vs H Q _ => ∃ (d : Addr) (n : Nat), vs = [.ref d, .int n] ∧ Dz H d ∧ 0 < n ∧ n < 1073741824 ∧ ∀ (x : Nat) (H' : Hp), x < n → Dz H' d → Still d H H' → Q (.int x) H'
def spAction : Sp := fun vs H Q _ => ∃ (d : Addr) (n : Nat) (i : Int), vs = [.ref d, .int n, .int i] ∧ Dz H d ∧ 0 < n ∧ n ≤ 10 ∧
  ∀ (xs : List Nat) (p : Addr) (H' : Hp), xs.length = n → (∀ x ∈ xs, x < n) → H p = none → H' p = some (.lst (nts xs)) → Dz H' d → Still d H H' → Q (.ref p) H'
section
variable {P : Program} {w : World} {K : PySem.W.Frag} {mg : Str → Option Value} {base : Heap}
theorem ok_draw {f : Addr} {fd : FuncData} (F : Fun K "_law_roll" "_law_roll" sRoll f fd) (T : TxI mg) : FnOk P w K mg base CX0 1 f fd ["dice", "total"] spDraw := by
  refine (ok_roll F T).imp fun vs H Q E h => ?_
  obtain ⟨d, n, rfl, ⟨l, m, c, D⟩, h1, h2, k⟩ := h
  refine ⟨d, l, m, c, n, rfl, D, by omega, by omega, fun r l' c' r0 rn q0 q1 => ?_⟩
  have TT : Turned H (upd H d (.lst [.int l', .int m, .int c'])) d := ⟨l', m, c', q0, D.2.2.1, q1, rfl⟩
  have er : r = (r.toNat : Int) := by omega
  rw [er]
  exact k r.toNat _ (by omega) TT.dz ((Still.refl d H).turn TT)
theorem ok_action {f : Addr} {fd : FuncData} (F : Fun K "_law_action" "_law_action" sAction f fd) (D : DefsD K mg) (T : TxI mg) (M : TxM mg) :
    FnOk P w K mg base CX0 2 f fd ["dice", "size", "sort"] spAction := by
  have GR : FnOk P w K mg base CX0 1 D.fR D.dR ["dice", "total"] spDraw := ok_draw D.R T
  refine F.ok scAction (fun vs H Q E h => ?_) (fun cdv A outer s H vs Q E hr h => ?_)
  · obtain ⟨d, n, i, rfl, _⟩ := h
    rfl
  · obtain ⟨d, n, i, rfl, Z, hn, h10, k⟩ := h
    have hr1 : Room 1 _ := hr.mono (by decide)
    refine ⟨_, (pss_cons (ps_if (pt_cmpR op_eq (pv 2) pe_int (nomark _)) (pss_one (ps_ret (pe_lc (own := [("place", 8)]) (g := gName 8) (tt := tYes) rfl scAction.nd (pi_range1 rfl M.range (pa_cons (pv 1) pa_nil)) (blkOk_by (N := nAction) (sc := defScope sAction) (by decide +kernel)) (fun _ _ _ _ _ => pg_name (i := 8) scAction.nd rfl (Or.inl rfl)) (fun _ _ _ _ _ => pts_nil) (fun _ _ _ _ _ => (pe_op op_add (pv 8) (pe_call GR hr1 rfl D.mR D.R.kp D.bR .nil pass0 (pa_cons (pv 0) (pa_cons (pe_op op_sub (pv 1) (pv 8)) pa_nil)))))))) pss_nil)
      (pss_cons (ps_if (pt_cmpR op_eq (pv 2) pe_int (nomark _)) (pss_cons (ps_set (i := 3) scAction.nd rfl (Or.inr rfl) (pe_call GR hr1 rfl D.mR D.R.kp D.bR .nil pass0 (pa_cons (pv 0) (pa_cons (pv 1) pa_nil))))
        (pss_one (ps_ret (pe_lc (own := [("place", 8)]) (g := gName 8) (tt := tYes) rfl scAction.nd (pi_range1 rfl M.range (pa_cons (pv 1) pa_nil)) (blkOk_by (N := nAction) (sc := defScope sAction) (by decide +kernel)) (fun _ _ _ _ _ => pg_name (i := 8) scAction.nd rfl (Or.inl rfl)) (fun _ _ _ _ _ => pts_nil) (fun _ _ _ _ _ => (pv 3)))))) pss_nil)
      (pss_cons (ps_if (pt_cmpR op_eq (pv 2) pe_int (nomark _)) (pss_cons (ps_set (i := 4) scAction.nd rfl (Or.inr rfl) (pe_call GR hr1 rfl D.mR D.R.kp D.bR .nil pass0 (pa_cons (pv 0) (pa_cons (pv 1) pa_nil))))
        (pss_one (ps_ret (pe_lc (own := [("place", 8)]) (g := gName 8) (tt := tYes) rfl scAction.nd (pi_range1 rfl M.range (pa_cons (pv 1) pa_nil)) (blkOk_by (N := nAction) (sc := defScope sAction) (by decide +kernel)) (fun _ _ _ _ _ => pg_name (i := 8) scAction.nd rfl (Or.inl rfl)) (fun _ _ _ _ _ => pts_nil) (fun _ _ _ _ _ => (pe_op op_modN (pe_callTy call_int1 (by rfl) T.int (by decide +kernel) (pa_cons (pe_op op_add (pv 8) (pv 4)) pa_nil)) (pv 1))))))) pss_nil)
      (pss_cons (ps_if (pt_cmpR op_eq (pv 2) pe_int (nomark _)) (pss_one (ps_ret (pe_listRg rfl rfl M.list (prg_1 rfl M.range (pv 1))))) pss_nil)
      (pss_cons (ps_if (pt_cmpR op_eq (pv 2) pe_int (nomark _)) (pss_one (ps_ret (pe_callB cr_sorted (by rfl) M.sorted (by decide +kernel) (pa_cons (pe_lc (own := [("place", 8)]) (g := gName 8) (tt := tYes) rfl scAction.nd (pi_range1 rfl M.range (pa_cons (pv 1) pa_nil)) (blkOk_by (N := nAction) (sc := defScope sAction) (by decide +kernel)) (fun _ _ _ _ _ => pg_name (i := 8) scAction.nd rfl (Or.inl rfl)) (fun _ _ _ _ _ => pts_nil) (fun _ _ _ _ _ => (pe_call GR hr1 rfl D.mR D.R.kp D.bR .nil pass0 (pa_cons (pv 0) (pa_cons (pv 1) pa_nil))))) pa_nil)))) pss_nil)
      (pss_cons (ps_set (i := 5) scAction.nd rfl (Or.inl rfl) (pe_ifExp (pt_cmpR op_eq (pv 2) pe_int (nomark _)) (pe_lc (own := [("place", 8)]) (g := gName 8) (tt := tYes) rfl scAction.nd (pi_range1 rfl M.range (pa_cons (pv 1) pa_nil)) (blkOk_by (N := nAction) (sc := defScope sAction) (by decide +kernel)) (fun _ _ _ _ _ => pg_name (i := 8) scAction.nd rfl (Or.inl rfl)) (fun _ _ _ _ _ => pts_nil) (fun _ _ _ _ _ => (pe_call GR hr1 rfl D.mR D.R.kp D.bR .nil pass0 (pa_cons (pv 0) (pa_cons (pv 1) pa_nil))))) (pe_listRg rfl rfl M.list (prg_1 rfl M.range (pv 1)))))
      (pss_cons (ps_if (pt_cmpR op_eq (pv 2) pe_int (nomark _)) (pss_cons (ps_par (i := 6) (j := 7) (by rfl) scAction.nd rfl rfl (by decide) rfl rfl (pa_cons (pe_call GR hr1 rfl D.mR D.R.kp D.bR .nil pass0 (pa_cons (pv 0) (pa_cons (pv 1) pa_nil))) (pa_cons (pe_call GR hr1 rfl D.mR D.R.kp D.bR .nil pass0 (pa_cons (pv 0) (pa_cons (pv 1) pa_nil))) pa_nil)) (by rfl))
        (pss_one (ps_asg (pe_tup (pa_cons (pv 7) (pa_cons (pv 6) pa_nil))) (pg_tup rfl (pgs_cons (pg_sub (pv 5) (pv 6) set_list) (pgs_cons (pg_sub (pv 5) (pv 7) set_list) pgs_nil)))))) pss_nil)
      (pss_one (ps_ret (pv 5)))))))))), ?_⟩
    have h10' : (n : Int) ≤ 10 := by omega
    have RGOK : RgOk 0 (n : Int) := RgOk.of_le (by decide) (by omega) (by decide) (by omega)
    have ZH := Z
    have SH := Still.refl d H
    refine ⟨_, rfl, rfl, _, rfl, ?_⟩
    refine ite2 (fun _ => ?_) (fun _ => ?_)
    · refine ⟨_, rfl, (n : Int), rfl, by omega, by omega, fun C nC => ?_⟩
      have Cd : C ≠ d := ZH.not nC
      have HC : H C = none := SH.free ZH nC
      refine lc_range (lo := 0) (n := (n : Int).toNat) (fun j H9 => ∃ xs : List Nat, H9 C = some (.lst (nts xs)) ∧ xs.length = j ∧ (∀ x ∈ xs, x < n) ∧ Dz H9 d ∧ Still d H H9) ⟨[], upd_same, rfl, (fun z hz => by cases hz), ZH.new nC, SH.new nC⟩ ?_ ?_
      · rintro j H9 hj ⟨xs, h1, h2, h3, h4, h5⟩
        refine ⟨rfl, tYes_if ?_⟩
        have hj : j < n := by omega
        have fin : ∀ (x : Nat) (H4 : Hp), x < n → Dz H4 d → Still d H9 H4 → ∃ acc, H4 C = some (.lst acc) ∧ acc.length < sizeLine ∧ ∃ ys : List Nat, upd H4 C (.lst (acc ++ [.int x])) C = some (.lst (nts ys)) ∧ ys.length = j + 1 ∧ (∀ y ∈ ys, y < n) ∧ Dz (upd H4 C (.lst (acc ++ [.int x]))) d ∧ Still d H (upd H4 C (.lst (acc ++ [.int x]))) := fun x H4 hx z4 s4 => by
          refine ⟨_, s4 _ _ Cd h1, ?_, xs ++ [x], ?_, ?_, fun y hy => ?_, z4.ne Cd, (h5.trans s4).at_new HC⟩
          · rw [nts_length, h2]
            exact Nat.lt_trans hj (Nat.lt_of_le_of_lt h10 (by decide))
          · rw [upd_same, nts_append]
          · rw [List.length_append, h2]
            rfl
          · rcases List.mem_append.mp hy with q | q
            · exact h3 y q
            · rw [List.mem_singleton.mp q]
              exact hx
        refine ⟨_, rfl, _, rfl, _, rfl, _, rfl, _, _, rfl, rfl, d, n - j, ?_, h4, by omega, by omega, fun x H4 xn z4 s4 => ?_⟩
        · have e : ((n - j : Nat) : Int) = (n : Int) - (0 + (j : Int)) := by omega
          show [V.ref d, V.int ((n : Int) - (0 + (j : Int)))] = _
          rw [← e]
        · refine ⟨_, _, rfl, rfl, ?_⟩
          have q := fin (j + x) H4 (by omega) z4 s4
          have e : ((j + x : Nat) : Int) = (0 + (j : Int)) + (x : Int) := by omega
          rw [e] at q
          exact q
      · rintro H9 ⟨xs, h1, h2, h3, h4, h5⟩
        have h2 : xs.length = n := by rw [h2]; omega
        exact k xs C H9 h2 h3 HC h1 h4 h5
    · refine ⟨_, rfl, rfl, _, rfl, ?_⟩
      refine ite2 (fun _ => ?_) (fun _ => ?_)
      · refine ⟨_, rfl, _, rfl, d, n, rfl, Z, hn, by omega, fun y H1 yn ZH SH => ?_⟩
        refine ⟨_, rfl, (n : Int), rfl, by omega, by omega, fun C nC => ?_⟩
        have Cd : C ≠ d := ZH.not nC
        have HC : H C = none := SH.free ZH nC
        refine lc_range (lo := 0) (n := (n : Int).toNat) (fun j H9 => ∃ xs : List Nat, H9 C = some (.lst (nts xs)) ∧ xs.length = j ∧ (∀ x ∈ xs, x < n) ∧ Dz H9 d ∧ Still d H H9) ⟨[], upd_same, rfl, (fun z hz => by cases hz), ZH.new nC, SH.new nC⟩ ?_ ?_
        · rintro j H9 hj ⟨xs, h1, h2, h3, h4, h5⟩
          refine ⟨rfl, tYes_if ?_⟩
          have hj : j < n := by omega
          have fin : ∀ (x : Nat) (H4 : Hp), x < n → Dz H4 d → Still d H9 H4 → ∃ acc, H4 C = some (.lst acc) ∧ acc.length < sizeLine ∧ ∃ ys : List Nat, upd H4 C (.lst (acc ++ [.int x])) C = some (.lst (nts ys)) ∧ ys.length = j + 1 ∧ (∀ y ∈ ys, y < n) ∧ Dz (upd H4 C (.lst (acc ++ [.int x]))) d ∧ Still d H (upd H4 C (.lst (acc ++ [.int x]))) := fun x H4 hx z4 s4 => by
            refine ⟨_, s4 _ _ Cd h1, ?_, xs ++ [x], ?_, ?_, fun y hy => ?_, z4.ne Cd, (h5.trans s4).at_new HC⟩
            · rw [nts_length, h2]
              exact Nat.lt_trans hj (Nat.lt_of_le_of_lt h10 (by decide))
            · rw [upd_same, nts_append]
            · rw [List.length_append, h2]
              rfl
            · rcases List.mem_append.mp hy with q | q
              · exact h3 y q
              · rw [List.mem_singleton.mp q]
                exact hx
          exact ⟨_, rfl, fin y _ yn h4 (Still.refl _ _)⟩
        · rintro H9 ⟨xs, h1, h2, h3, h4, h5⟩
          have h2 : xs.length = n := by rw [h2]; omega
          exact k xs C H9 h2 h3 HC h1 h4 h5
      · refine ⟨_, rfl, rfl, _, rfl, ?_⟩
        refine ite2 (fun _ => ?_) (fun _ => ?_)
        · refine ⟨_, rfl, _, rfl, d, n, rfl, Z, hn, by omega, fun y H1 yn ZH SH => ?_⟩
          refine ⟨_, rfl, (n : Int), rfl, by omega, by omega, fun C nC => ?_⟩
          have Cd : C ≠ d := ZH.not nC
          have HC : H C = none := SH.free ZH nC
          refine lc_range (lo := 0) (n := (n : Int).toNat) (fun j H9 => ∃ xs : List Nat, H9 C = some (.lst (nts xs)) ∧ xs.length = j ∧ (∀ x ∈ xs, x < n) ∧ Dz H9 d ∧ Still d H H9) ⟨[], upd_same, rfl, (fun z hz => by cases hz), ZH.new nC, SH.new nC⟩ ?_ ?_
          · rintro j H9 hj ⟨xs, h1, h2, h3, h4, h5⟩
            refine ⟨rfl, tYes_if ?_⟩
            have hj : j < n := by omega
            have fin : ∀ (x : Nat) (H4 : Hp), x < n → Dz H4 d → Still d H9 H4 → ∃ acc, H4 C = some (.lst acc) ∧ acc.length < sizeLine ∧ ∃ ys : List Nat, upd H4 C (.lst (acc ++ [.int x])) C = some (.lst (nts ys)) ∧ ys.length = j + 1 ∧ (∀ y ∈ ys, y < n) ∧ Dz (upd H4 C (.lst (acc ++ [.int x]))) d ∧ Still d H (upd H4 C (.lst (acc ++ [.int x]))) := fun x H4 hx z4 s4 => by
              refine ⟨_, s4 _ _ Cd h1, ?_, xs ++ [x], ?_, ?_, fun y hy => ?_, z4.ne Cd, (h5.trans s4).at_new HC⟩
              · rw [nts_length, h2]
                exact Nat.lt_trans hj (Nat.lt_of_le_of_lt h10 (by decide))
              · rw [upd_same, nts_append]
              · rw [List.length_append, h2]
                rfl
              · rcases List.mem_append.mp hy with q | q
                · exact h3 y q
                · rw [List.mem_singleton.mp q]
                  exact hx
            refine ⟨_, rfl, _, rfl, _, _, rfl, rfl, .inl ⟨_, rfl, _, rfl, _, _, rfl, rfl, by omega, ?_⟩⟩
            have e : (((j + y) % n : Nat) : Int) = (0 + (j : Int) + (y : Int)).fmod (n : Int) := by
              rw [Int.fmod_eq_emod_of_nonneg _ (by omega), Int.zero_add, Int.natCast_emod, Int.natCast_add]
            have q := fin _ H9 (Nat.mod_lt (j + y) hn) h4 (Still.refl _ _)
            rw [e] at q
            exact q
          · rintro H9 ⟨xs, h1, h2, h3, h4, h5⟩
            have h2 : xs.length = n := by rw [h2]; omega
            exact k xs C H9 h2 h3 HC h1 h4 h5
        · refine ⟨_, rfl, rfl, _, rfl, ?_⟩
          refine ite2 (fun _ => ?_) (fun _ => ?_)
          · refine ⟨_, rfl, (n : Int), rfl, RGOK, fun C nC => ?_⟩
            rw [rgV_nats]
            exact k (List.range n) C _ List.length_range (fun x hx => List.mem_range.mp hx) nC upd_same (Z.new nC) (SH.new nC)
          · refine ⟨_, rfl, rfl, _, rfl, ?_⟩
            refine ite2 (fun _ => ?_) (fun _ => ?_)
            · refine ⟨_, rfl, (n : Int), rfl, by omega, by omega, fun C nC => ?_⟩
              have Cd : C ≠ d := ZH.not nC
              have HC : H C = none := SH.free ZH nC
              refine lc_range (lo := 0) (n := (n : Int).toNat) (fun j H9 => ∃ xs : List Nat, H9 C = some (.lst (nts xs)) ∧ xs.length = j ∧ (∀ x ∈ xs, x < n) ∧ Dz H9 d ∧ Still d H H9) ⟨[], upd_same, rfl, (fun z hz => by cases hz), ZH.new nC, SH.new nC⟩ ?_ ?_
              · rintro j H9 hj ⟨xs, h1, h2, h3, h4, h5⟩
                refine ⟨rfl, tYes_if ?_⟩
                have hj : j < n := by omega
                have fin : ∀ (x : Nat) (H4 : Hp), x < n → Dz H4 d → Still d H9 H4 → ∃ acc, H4 C = some (.lst acc) ∧ acc.length < sizeLine ∧ ∃ ys : List Nat, upd H4 C (.lst (acc ++ [.int x])) C = some (.lst (nts ys)) ∧ ys.length = j + 1 ∧ (∀ y ∈ ys, y < n) ∧ Dz (upd H4 C (.lst (acc ++ [.int x]))) d ∧ Still d H (upd H4 C (.lst (acc ++ [.int x]))) := fun x H4 hx z4 s4 => by
                  refine ⟨_, s4 _ _ Cd h1, ?_, xs ++ [x], ?_, ?_, fun y hy => ?_, z4.ne Cd, (h5.trans s4).at_new HC⟩
                  · rw [nts_length, h2]
                    exact Nat.lt_trans hj (Nat.lt_of_le_of_lt h10 (by decide))
                  · rw [upd_same, nts_append]
                  · rw [List.length_append, h2]
                    rfl
                  · rcases List.mem_append.mp hy with q | q
                    · exact h3 y q
                    · rw [List.mem_singleton.mp q]
                      exact hx
                refine ⟨_, rfl, _, rfl, d, n, rfl, h4, hn, by omega, fun x H4 xn z4 s4 => ?_⟩
                exact fin x _ xn z4 s4
              · rintro H9 ⟨xs, h1, h2, h3, h4, h5⟩
                have h2 : xs.length = n := by rw [h2]; omega
                refine ⟨C, xs.map Int.ofNat, rfl, SqL.of (by rw [h1]; exact nts_eq xs), by rw [List.length_map]; omega, fun ys p perm _ np => ?_⟩
                obtain ⟨zs, e, pz⟩ := nats_perm perm
                subst e
                rw [← nts_eq']
                exact k zs p _ (by rw [pz.length_eq, h2]) (fun x hx => h3 x (pz.subset hx)) (h5.free h4 np) upd_same (h4.new np) (h5.new np)
            · refine ⟨_, rfl, rfl, _, rfl, ?_⟩
              refine ite2 (fun _ => ?_) (fun _ => ?_)
              · refine ⟨_, rfl, (n : Int), rfl, by omega, by omega, fun C nC => ?_⟩
                have Cd : C ≠ d := ZH.not nC
                have HC : H C = none := SH.free ZH nC
                refine lc_range (lo := 0) (n := (n : Int).toNat) (fun j H9 => ∃ xs : List Nat, H9 C = some (.lst (nts xs)) ∧ xs.length = j ∧ (∀ x ∈ xs, x < n) ∧ Dz H9 d ∧ Still d H H9) ⟨[], upd_same, rfl, (fun z hz => by cases hz), ZH.new nC, SH.new nC⟩ ?_ ?_
                · rintro j H9 hj ⟨xs, h1, h2, h3, h4, h5⟩
                  refine ⟨rfl, tYes_if ?_⟩
                  have hj : j < n := by omega
                  have fin : ∀ (x : Nat) (H4 : Hp), x < n → Dz H4 d → Still d H9 H4 → ∃ acc, H4 C = some (.lst acc) ∧ acc.length < sizeLine ∧ ∃ ys : List Nat, upd H4 C (.lst (acc ++ [.int x])) C = some (.lst (nts ys)) ∧ ys.length = j + 1 ∧ (∀ y ∈ ys, y < n) ∧ Dz (upd H4 C (.lst (acc ++ [.int x]))) d ∧ Still d H (upd H4 C (.lst (acc ++ [.int x]))) := fun x H4 hx z4 s4 => by
                    refine ⟨_, s4 _ _ Cd h1, ?_, xs ++ [x], ?_, ?_, fun y hy => ?_, z4.ne Cd, (h5.trans s4).at_new HC⟩
                    · rw [nts_length, h2]
                      exact Nat.lt_trans hj (Nat.lt_of_le_of_lt h10 (by decide))
                    · rw [upd_same, nts_append]
                    · rw [List.length_append, h2]
                      rfl
                    · rcases List.mem_append.mp hy with q | q
                      · exact h3 y q
                      · rw [List.mem_singleton.mp q]
                        exact hx
                  refine ⟨_, rfl, _, rfl, d, n, rfl, h4, hn, by omega, fun x H4 xn z4 s4 => ?_⟩
                  exact fin x _ xn z4 s4
                · rintro H9 ⟨xs, h1, h2, h3, h4, h5⟩
                  have h2 : xs.length = n := by rw [h2]; omega
                  refine ⟨_, rfl, rfl, _, rfl, ?_⟩
                  refine ite2 (fun h6 => ?_) (fun h6 => ?_)
                  · refine ⟨_, rfl, _, rfl, d, n, rfl, h4, hn, by omega, fun x H2 xn z2 s2 => ?_⟩
                    refine ⟨_, rfl, _, rfl, d, n, rfl, z2, hn, by omega, fun y H3 yn z3 s3 => ?_⟩
                    refine ⟨_, _, rfl, ?_⟩
                    have s93 := s2.trans s3
                    have h1 := s93 _ _ Cd h1
                    have h5 := h5.trans s93
                    refine ⟨_, rfl, _, rfl, (by show 2 ≤ sizeLine; decide), fun t nt => ⟨t, _, rfl, SqT.of upd_same, rfl, ?_⟩⟩
                    have lx : (nts xs).length = n := by rw [nts_length, h2]
                    refine ⟨_, _, rfl, _, rfl, _, rfl, C, nts xs, x, x, rfl, rfl, keep_new h1 nt, (by rw [lx]; exact ixNat xn), ?_⟩
                    refine ⟨_, _, rfl, _, rfl, _, rfl, C, _, y, y, rfl, rfl, upd_same, (by rw [List.length_set, lx]; exact ixNat yn), rfl, ?_⟩
                    have es : ((nts xs).set x (.int y)).set y (.int x) = nts ((xs.set x y).set y x) := by
                      unfold nts
                      rw [List.map_set, List.map_set]
                    rw [es]
                    refine ⟨_, rfl, k ((xs.set x y).set y x) C _ (by rw [List.length_set, List.length_set, h2]) (fun z hz => ?_) HC upd_same (((z3.new nt).ne Cd).ne Cd) (((h5.new nt).at_new HC).at_new HC)⟩
                    rcases List.mem_or_eq_of_mem_set hz with q | q
                    · rcases List.mem_or_eq_of_mem_set q with q | q
                      · exact h3 z q
                      · rw [q]
                        exact yn
                    · rw [q]
                      exact xn
                  · exact ⟨_, rfl, k xs C H9 h2 h3 HC h1 h4 h5⟩
              · refine ⟨_, rfl, (n : Int), rfl, RGOK, fun C nC => ?_⟩
                rw [rgV_nats]
                have h1 : (upd H C (.lst (nts (List.range n)))) C = some (.lst (nts (List.range n))) := upd_same
                have h2 : (List.range n).length = n := List.length_range
                have h3 : ∀ x ∈ List.range n, x < n := fun x hx => List.mem_range.mp hx
                have h4 := Z.new nC (u := .lst (nts (List.range n)))
                have h5 := SH.new nC (u := .lst (nts (List.range n)))
                have HC := nC
                have Cd : C ≠ d := Z.not nC
                generalize upd H C (.lst (nts (List.range n))) = H9 at h1 h4 h5 ⊢
                generalize List.range n = xs at h1 h2 h3 ⊢
                refine ⟨_, rfl, rfl, _, rfl, ?_⟩
                refine ite2 (fun h6 => ?_) (fun h6 => ?_)
                · refine ⟨_, rfl, _, rfl, d, n, rfl, h4, hn, by omega, fun x H2 xn z2 s2 => ?_⟩
                  refine ⟨_, rfl, _, rfl, d, n, rfl, z2, hn, by omega, fun y H3 yn z3 s3 => ?_⟩
                  refine ⟨_, _, rfl, ?_⟩
                  have s93 := s2.trans s3
                  have h1 := s93 _ _ Cd h1
                  have h5 := h5.trans s93
                  refine ⟨_, rfl, _, rfl, (by show 2 ≤ sizeLine; decide), fun t nt => ⟨t, _, rfl, SqT.of upd_same, rfl, ?_⟩⟩
                  have lx : (nts xs).length = n := by rw [nts_length, h2]
                  refine ⟨_, _, rfl, _, rfl, _, rfl, C, nts xs, x, x, rfl, rfl, keep_new h1 nt, (by rw [lx]; exact ixNat xn), ?_⟩
                  refine ⟨_, _, rfl, _, rfl, _, rfl, C, _, y, y, rfl, rfl, upd_same, (by rw [List.length_set, lx]; exact ixNat yn), rfl, ?_⟩
                  have es : ((nts xs).set x (.int y)).set y (.int x) = nts ((xs.set x y).set y x) := by
                    unfold nts
                    rw [List.map_set, List.map_set]
                  rw [es]
                  refine ⟨_, rfl, k ((xs.set x y).set y x) C _ (by rw [List.length_set, List.length_set, h2]) (fun z hz => ?_) HC upd_same (((z3.new nt).ne Cd).ne Cd) (((h5.new nt).at_new HC).at_new HC)⟩
                  rcases List.mem_or_eq_of_mem_set hz with q | q
                  · rcases List.mem_or_eq_of_mem_set q with q | q
                    · exact h3 z q
                    · rw [q]
                      exact yn
                  · rw [q]
                    exact xn
                · exact ⟨_, rfl, k xs C H9 h2 h3 HC h1 h4 h5⟩
end
end M3

set_option Elab.async false
set_option linter.all false
set_option maxRecDepth 100000
set_option maxHeartbeats 8000000
/-! # Drawn tables -/
namespace M3
open PySem L2
abbrev sTable : Stmt := top 52
abbrev nTable : List Str := ["dice", "letters", "size", "sorts", "rows", "letter", "row", "place"]
theorem scTable : FnScope nTable ["dice", "letters", "size", "sorts"] (defScope sTable) := ⟨rfl, rfl, rfl, by decide +kernel, rfl, by decide +kernel, by decide +kernel⟩
/-- lists of numbers, one for each; none of them stands at d or C -/
def RowsL (d C : Addr) (H : Hp) (vs : List V) (rs : List (List Nat)) : Prop := vs.length = rs.length ∧ ∀ (i : Nat) (r : List Nat), rs[i]? = some r → ∃ a : Addr, vs[i]? = some (V.ref a) ∧ a ≠ d ∧ a ≠ C ∧ H a = some (HO.lst (nts r))
/-- tuples of numbers, one for each -/
def RowsT (d C : Addr) (H : Hp) (vs : List V) (rs : List (List Nat)) : Prop := vs.length = rs.length ∧ ∀ (i : Nat) (r : List Nat), rs[i]? = some r → ∃ a : Addr, vs[i]? = some (V.ref a) ∧ a ≠ d ∧ a ≠ C ∧ H a = some (.tup (nts r))
theorem RowsL.to {d C : Addr} {H H' : Hp} {vs : List V} {rs : List (List Nat)} (R : RowsL d C H vs rs) (k : ∀ b o, b ≠ d → b ≠ C → H b = some o → H' b = some o) : RowsL d C H' vs rs :=
  ⟨R.1, fun i r h => by
    obtain ⟨a, h1, h2, h3, h4⟩ := R.2 i r h
    exact ⟨a, h1, h2, h3, k _ _ h2 h3 h4⟩⟩
theorem RowsT.to {d C : Addr} {H H' : Hp} {vs : List V} {rs : List (List Nat)} (R : RowsT d C H vs rs) (k : ∀ b o, b ≠ d → b ≠ C → H b = some o → H' b = some o) : RowsT d C H' vs rs :=
  ⟨R.1, fun i r h => by
    obtain ⟨a, h1, h2, h3, h4⟩ := R.2 i r h
    exact ⟨a, h1, h2, h3, k _ _ h2 h3 h4⟩⟩
theorem snoc_at {α : Type} {xs : List α} {x y : α} {i : Nat} (h : (xs ++ [x])[i]? = some y) : xs[i]? = some y ∨ (i = xs.length ∧ y = x) := by
  by_cases hi : i < xs.length
  · rw [List.getElem?_append_left hi] at h
    exact .inl h
  · rw [List.getElem?_append_right (by omega)] at h
    by_cases e : i - xs.length = 0
    · rw [e] at h
      exact .inr ⟨by omega, (Option.some.inj h).symm⟩
    · have : 1 ≤ i - xs.length := by omega
      rw [List.getElem?_eq_none (by simpa using this)] at h
      cases h
theorem RowsL.snoc {d C a : Addr} {H : Hp} {vs : List V} {rs : List (List Nat)} {r : List Nat} (R : RowsL d C H vs rs) (hd : a ≠ d) (hC : a ≠ C) (h : H a = some (.lst (nts r))) : RowsL d C H (vs ++ [.ref a]) (rs ++ [r]) := by
  refine ⟨by rw [List.length_append, List.length_append, R.1]; rfl, fun i r' hr => ?_⟩
  rcases snoc_at hr with q | ⟨e, q⟩
  · obtain ⟨b, h1, h2⟩ := R.2 i r' q
    exact ⟨b, by rw [List.getElem?_append_left (List.getElem?_eq_some_iff.mp h1).1]; exact h1, h2⟩
  · subst q
    refine ⟨a, ?_, hd, hC, h⟩
    rw [e, ← R.1, List.getElem?_append_right (Nat.le_refl _), Nat.sub_self]
    rfl
theorem RowsT.snoc {d C a : Addr} {H : Hp} {vs : List V} {rs : List (List Nat)} {r : List Nat} (R : RowsT d C H vs rs) (hd : a ≠ d) (hC : a ≠ C) (h : H a = some (.tup (nts r))) : RowsT d C H (vs ++ [.ref a]) (rs ++ [r]) := by
  refine ⟨by rw [List.length_append, List.length_append, R.1]; rfl, fun i r' hr => ?_⟩
  rcases snoc_at hr with q | ⟨e, q⟩
  · obtain ⟨b, h1, h2⟩ := R.2 i r' q
    exact ⟨b, by rw [List.getElem?_append_left (List.getElem?_eq_some_iff.mp h1).1]; exact h1, h2⟩
  · subst q
    refine ⟨a, ?_, hd, hC, h⟩
    rw [e, ← R.1, List.getElem?_append_right (Nat.le_refl _), Nat.sub_self]
    rfl
/-- a table of so many states, so many letters -/
def IsTab (t : List (List Nat)) (n m : Nat) : Prop := t.length = n ∧ ∀ r ∈ t, r.length = m ∧ ∀ z ∈ r, z < n
theorem sq_still {K : PySem.W.Frag} {d a : Addr} {H H' : Hp} {xs : List V} (s : Still d H H') (n : a ≠ d) (h : SqL K H a xs) : SqL K H' a xs := by
  rcases h with (h | ⟨o, h⟩) | h
  · exact .inl (.inl (s _ _ n h))
  · exact .inl (.inr ⟨o, s _ _ n h⟩)
  · exact .inr h
def rTupOf (K : PySem.W.Frag) : List V → Hp → VK → Prop := fun xs H Q => ∃ p ys, xs = [V.ref p] ∧ ((SqL K H p ys ∧ ∀ l, H l = none → Q (.ref l) (upd H l (.tup ys))) ∨ (SqT K H p ys ∧ Q (.ref p) H))
/-- tuple([row[place] for row in rows]) -/
def tPick (K : PySem.W.Frag) : TE := tCB (rTupOf K) (tCons (tLc (iList K (tVar 4)) (gName 6) tYes (tOp (rIxL K) (tVar 6) (tVar 7)) [6]) tNil)
def col (rs : List (List Nat)) (s : Nat) : List Nat := rs.map fun r => r.getD s 0
theorem nts_at {r : List Nat} {j : Nat} (h : j < r.length) : atI (nts r) (j : Int) = some (.int (r.getD j 0)) := by
  refine atI_nat ?_
  unfold nts
  rw [List.getElem?_map, List.getElem?_eq_getElem h]
  simp [List.getD, List.getElem?_eq_getElem h]
theorem take_snoc {α : Type} {l : List α} {i : Nat} {x : α} (h : l[i]? = some x) : l.take (i + 1) = l.take i ++ [x] := by
  rw [List.take_succ, h]
  rfl
def spTable (K : PySem.W.Frag) : Sp := fun vs H Q _ => ∃ (d a : Addr) (x : Str) (n : Nat) (ss : List Int), vs = [.ref d, .str x, .int n, .ref a] ∧ Dz H d ∧ 0 < n ∧ n ≤ 10 ∧ x.length ≤ 10 ∧ SqL K H a (ss.map V.int) ∧ a ≠ d ∧ 0 < ss.length ∧ ss.length < 1000 ∧
  ∀ (t : List (List Nat)) (us : List V) (p : Addr) (H' : Hp), IsTab t n x.length → H p = none → p ≠ d → H' p = some (.lst us) → RowsT d p H' us t → Dz H' d → Still d H H' → Q (.ref p) H'
section
variable {P : Program} {w : World} {K : PySem.W.Frag} {mg : Str → Option Value} {base : Heap}
theorem ok_one {f : Addr} {fd : FuncData} (D : DefsD K mg) (T : TxI mg) : FnOk P w K mg base CX0 2 D.fO D.dO ["dice", "items"] (spOneOf K) := ok_oneof D.O D.R D.bR D.mR T
theorem ok_table {f g : Addr} {fd gd : FuncData} (F : Fun K "_law_table" "_law_table" sTable f fd) (FA : Fun K "_law_action" "_law_action" sAction g gd) (bA : Binds K gd ["dice", "size", "sort"] []) (mA : mg "_law_action" = some (.ref g)) (D : DefsD K mg) (T : TxI mg) (M : TxM mg) :
    FnOk P w K mg base CX0 3 f fd ["dice", "letters", "size", "sorts"] (spTable K) := by
  have GO : FnOk P w K mg base CX0 2 D.fO D.dO ["dice", "items"] (spOneOf K) := ok_oneof D.O D.R D.bR D.mR T
  have GA : FnOk P w K mg base CX0 2 g gd ["dice", "size", "sort"] spAction := ok_action FA D T M
  refine F.ok scTable (fun vs H Q E h => ?_) (fun cdv A outer s H vs Q E hr h => ?_)
  · obtain ⟨d, a, x, n, ss, rfl, _⟩ := h
    rfl
  · obtain ⟨d, a, x, n, ss, rfl, Z, hn, h10, hx, ha, ad, s0, s1, k⟩ := h
    have hr2 : Room 2 _ := hr.mono (by decide)
    refine ⟨_, pss_cons (ps_set (i := 4) scTable.nd rfl (Or.inr rfl) (pe_lc (own := [("letter", 5)]) (g := gName 5) (tt := tYes) rfl scTable.nd (pi_str (pv 1)) (blkOk_by (N := nTable) (sc := defScope sTable) (by decide +kernel)) (fun _ _ _ _ _ => pg_name (i := 5) scTable.nd rfl (Or.inl rfl)) (fun _ _ _ _ _ => pts_nil)
        (fun _ _ _ _ _ => pe_call GA hr2 rfl mA FA.kp bA .nil pass0 (pa_cons (pv 0) (pa_cons (pv 2) (pa_cons (pe_call GO hr2 rfl D.mO D.O.kp D.bO .nil pass0 (pa_cons (pv 0) (pa_cons (pv 3) pa_nil))) pa_nil))))))
      (pss_one (ps_ret (pe_lc (own := [("place", 7)]) (g := gName 7) (tt := tYes) (te := tPick K) rfl scTable.nd (pi_range1 rfl M.range (pa_cons (pv 2) pa_nil)) (blkOk_by (N := nTable) (sc := defScope sTable) (by decide +kernel)) (fun _ _ _ _ _ => pg_name (i := 7) scTable.nd rfl (Or.inr rfl)) (fun _ _ _ _ _ => pts_nil)
        (fun _ _ _ _ _ => pe_callTy call_tuple_of (by rfl) M.tuple (by decide +kernel : bootBuiltins "tuple" = some (.type "tuple")) (pa_cons (pe_lc (own := [("row", 6)]) (wi := iList K (tVar 4)) (g := gName 6) (tt := tYes) (te := tOp (rIxL K) (tVar 6) (tVar 7)) rfl scTable.nd (pi_list (pv 4)) (by exact blkOk_by (N := nTable) (sc := ⟨.function, [(".0", .local), ("place", .cell), ("tuple", .globalImplicit), ("rows", .cell)], false, false, []⟩) (scope := ⟨.function, [(".0", .local), ("row", .local), ("place", .free)], false, false, []⟩) (own := [("row", 6)]) (by decide +kernel)) (fun _ _ _ _ _ => pg_name (i := 6) scTable.nd rfl (Or.inl rfl)) (fun _ _ _ _ _ => pts_nil)
          (fun _ _ _ _ _ => pe_ix ix_list (pv 6) (pv 7) (fun _ _ => rfl))) pa_nil))))), ?_⟩
    refine ⟨_, rfl, x, rfl, fun C nC => ?_⟩
    have Cd : C ≠ d := Z.not nC
    refine lc_it walk_str (fun j H9 => ∃ (vs : List V) (rs : List (List Nat)), H9 C = some (.lst vs) ∧ rs.length = j ∧ RowsL d C H9 vs rs ∧ (∀ r ∈ rs, r.length = n ∧ ∀ z ∈ r, z < n) ∧ Dz H9 d ∧ Still d H H9)
      ⟨[], [], upd_same, rfl, ⟨rfl, fun i r h => by cases h⟩, (fun z hz => by cases hz), Z.new nC, (Still.refl d H).new nC⟩ (fun _ _ _ _ => trivial) ?_ ?_
    · rintro i y H9 H9' hi ⟨vs, rs, h1, h2, h3, h4, h5, h6⟩ ⟨rfl, c, hc, rfl⟩
      refine ⟨rfl, tYes_if ?_⟩
      refine ⟨_, rfl, _, rfl, _, rfl, _, rfl, d, a, _, rfl, h5, sq_still h6 ad ha, ad, by rw [List.length_map]; exact s0, by rw [List.length_map]; omega, fun v H2 hv T2 => ?_⟩
      obtain ⟨q, _, rfl⟩ := List.mem_map.mp hv
      have S2 : Still d H9' H2 := (Still.refl d H9').turn T2
      refine ⟨d, n, q, rfl, T2.dz, hn, h10, fun xs p H3 hl hlt np hp z3 s3 => ?_⟩
      have S3 : Still d H9' H3 := S2.trans s3
      have pC : p ≠ C := fun e => by
        rw [e, S2 _ _ Cd h1] at np
        cases np
      have pd : p ≠ d := T2.dz.not np
      have hi10 : i < 10 := Nat.lt_of_lt_of_le hi hx
      have R3 : RowsL d C H3 (vs ++ [.ref p]) (rs ++ [xs]) := (h3.to fun b o h1 _ h => S3 b o h1 h).snoc pd pC hp
      refine ⟨vs, S3 _ _ Cd h1, ?_, vs ++ [.ref p], rs ++ [xs], upd_same, by rw [List.length_append, h2]; rfl, R3.to fun b o _ h2 h => by rw [upd_ne h2]; exact h, fun r hr => ?_, z3.ne Cd, (h6.trans S3).at_new nC⟩
      · rw [h3.1, h2]
        exact Nat.lt_trans hi10 (by decide)
      · rcases List.mem_append.mp hr with e | e
        · exact h4 r e
        · rw [List.mem_singleton.mp e]
          exact ⟨hl, hlt⟩
    · rintro H8 ⟨vs, rs, h1, h2, h3, h4, h5, h6⟩
      refine ⟨_, rfl, n, rfl, by omega, by omega, fun G nG => ?_⟩
      have Gd : G ≠ d := h5.not nG
      have HG : H G = none := h6.free h5 nG
      have hv10 : vs.length ≤ 10 := by
        rw [h3.1, h2]
        exact hx
      refine lc_range (lo := 0) (n := (n : Int).toNat) (fun j H9 => ∃ us : List V, H9 G = some (.lst us) ∧ RowsT d G H9 us ((List.range j).map (col rs)) ∧ ∀ b o, b ≠ G → H8 b = some o → H9 b = some o)
        ⟨[], upd_same, ⟨rfl, fun i r h => by cases h⟩, fun b o hb h => keep_new h nG⟩ ?_ ?_
      · rintro j H9 hj ⟨us, u1, u2, u3⟩
        have hj : j < n := by omega
        refine ⟨rfl, tYes_if ?_⟩
        have nG8 : ∀ {b : Addr} {o : HO}, H8 b = some o → b ≠ G := fun h z => by
          subst z
          rw [nG] at h
          cases h
        refine ⟨_, rfl, C, rfl, ⟨_, SqL.of (u3 _ _ (nG8 h1) h1)⟩, fun S nS => ?_⟩
        have S8 : ∀ {b : Addr} {o : HO}, H9 b = some o → b ≠ S := fun h z => by
          subst z
          rw [nS] at h
          cases h
        refine lc_list (K := K) (a := C) (xs := vs) (fun i H10 => H10 S = some (.lst (nts (col (rs.take i) j))) ∧ ∀ b o, b ≠ S → H9 b = some o → H10 b = some o)
          ⟨upd_same, fun b o hb h => keep_new h nS⟩ (fun i H10 _ ⟨_, z⟩ => SqL.of (z _ _ (S8 (u3 _ _ (nG8 h1) h1)) (u3 _ _ (nG8 h1) h1))) ?_ ?_
        · rintro i v H10 hv ⟨w1, w2⟩
          have hi : i < rs.length := by
            rw [← h3.1]
            exact (List.getElem?_eq_some_iff.mp hv).1
          obtain ⟨b, b1, b2, b3, b4⟩ := h3.2 i rs[i] (List.getElem?_eq_getElem hi)
          have ev : v = .ref b := Option.some.inj (hv.symm.trans b1)
          subst ev
          refine ⟨rfl, tYes_if ?_⟩
          have b5 := u3 _ _ (nG8 b4) b4
          have b6 := w2 _ _ (S8 b5) b5
          obtain ⟨ln, _⟩ := h4 rs[i] (List.getElem_mem hi)
          have ej : (0 : Int) + (j : Int) = (j : Int) := Int.zero_add _
          refine ⟨_, rfl, _, rfl, b, nts rs[i], 0 + (j : Int), .int ((rs[i].getD j 0 : Nat) : Int), rfl, rfl, SqL.of b6, by rw [ej]; exact nts_at (by omega), ?_⟩
          refine ⟨_, w1, ?_, ?_, fun b' o hb' h' => by rw [upd_ne hb']; exact w2 b' o hb' h'⟩
          · rw [nts_length]
            unfold col
            rw [List.length_map, List.length_take]
            exact Nat.lt_of_le_of_lt (Nat.le_trans (Nat.min_le_right _ _) (show rs.length ≤ 10 by rw [← h3.1]; exact hv10)) (by decide)
          · rw [upd_same, nts_append]
            unfold col
            rw [take_snoc (List.getElem?_eq_getElem hi), List.map_append]
            rfl
        · rintro H10 ⟨w1, w2⟩
          have et : rs.take vs.length = rs := by
            rw [h3.1]
            exact List.take_length
          rw [et] at w1
          refine ⟨S, _, rfl, .inl ⟨SqL.of w1, fun l nl => ?_⟩⟩
          have k10 : ∀ b o, H9 b = some o → H10 b = some o := fun b o h => w2 b o (S8 h) h
          have lG : l ≠ G := fun z => by
            rw [z, k10 _ _ u1] at nl
            cases nl
          obtain ⟨dl, dm, dc, dd, _⟩ := id h5
          have ld : l ≠ d := fun z => by
            rw [z, k10 _ _ (u3 _ _ Gd.symm dd)] at nl
            cases nl
          refine ⟨us, keep_new (k10 _ _ u1) nl, ?_, us ++ [.ref l], upd_same, ?_, fun b o hb h => ?_⟩
          · rw [u2.1, List.length_map, List.length_range]
            exact Nat.lt_of_lt_of_le (Nat.lt_of_lt_of_le hj h10) (by decide)
          · rw [List.range_succ, List.map_append]
            exact ((u2.to fun b o _ _ h => keep_new (k10 _ _ h) nl).snoc ld lG upd_same).to fun b o _ h2 h => by
              rw [upd_ne h2]
              exact h
          · rw [upd_ne hb]
            exact keep_new (k10 _ _ (u3 b o hb h)) nl
      · rintro H9 ⟨us, u1, u2, u3⟩
        have en : (n : Int).toNat = n := by omega
        rw [en] at u2
        obtain ⟨dl, dm, dc, dd, d1⟩ := id h5
        refine k ((List.range n).map (col rs)) us G H9 ⟨by rw [List.length_map, List.length_range], fun r hr => ?_⟩ HG Gd u1 u2 ⟨dl, dm, dc, u3 _ _ Gd.symm dd, d1⟩ fun b o hb h => u3 b o (fun z => by
          rw [z, HG] at h
          cases h) (h6 b o hb h)
        obtain ⟨s', hs', rfl⟩ := List.mem_map.mp hr
        have hs' : s' < n := List.mem_range.mp hs'
        refine ⟨by unfold col; rw [List.length_map, h2]; rfl, fun z hz => ?_⟩
        obtain ⟨r', hr', rfl⟩ := List.mem_map.mp hz
        obtain ⟨l1, l2⟩ := h4 r' hr'
        refine l2 _ ?_
        have : s' < r'.length := by omega
        simp [List.getD, List.getElem?_eq_getElem this]
end
end M3

set_option Elab.async false
set_option linter.all false
set_option maxRecDepth 100000
set_option maxHeartbeats 8000000
/-! # Drawn machines, plain: a dict of letters, table, ends -/
namespace M3
open PySem L2
abbrev sMachine : Stmt := top 53
abbrev nMachine : List Str := ["dice", "letters", "states", "size", "table", "ends", "state"]
theorem scMachine : FnScope nMachine ["dice", "letters", "states"] (defScope sMachine) := ⟨rfl, rfl, rfl, by decide +kernel, rfl, by decide +kernel, by decide +kernel⟩
theorem RowsT.both {d C : Addr} {H : Hp} {vs : List V} {rs : List (List Nat)} (R : RowsT d C H vs rs) : RowsT d d H vs rs := ⟨R.1, fun i r h => by
  obtain ⟨a, h1, h2, _, h4⟩ := R.2 i r h
  exact ⟨a, h1, h2, h2, h4⟩⟩
/-- a machine told plainly at p: letters x, table t, ends es -/
structure Plain (d : Addr) (H : Hp) (p : Addr) (x : Str) (t : List (List Nat)) (es : List Nat) : Prop where
  ex : ∃ (a b : Addr) (us : List V), H p = some (.dK [(.inr "letters", .str x), (.inr "table", .ref a), (.inr "ends", .ref b)]) ∧ a ≠ d ∧ H a = some (.lst us) ∧ RowsT d d H us t ∧ b ≠ d ∧ H b = some (.lst (nts es))
  tab : IsTab t t.length x.length
  up : es.Pairwise (· < ·)
  lt : ∀ e ∈ es, e < t.length
theorem Plain.still {d p : Addr} {H H' : Hp} {x : Str} {t : List (List Nat)} {es : List Nat} (h : Plain d H p x t es) (z : Dz H d) (s : Still d H H') : Plain d H' p x t es := by
  obtain ⟨⟨a, b, us, h1, h2, h3, h4, h5, h6⟩, h7, h8, h9⟩ := h
  obtain ⟨dl, dm, dc, dd, _⟩ := z
  have pd : p ≠ d := fun e => by
    rw [e, dd] at h1
    cases h1
  exact ⟨⟨a, b, us, s _ _ pd h1, h2, s _ _ h2 h3, h4.to fun b o hb _ h => s b o hb h, h5, s _ _ h5 h6⟩, h7, h8, h9⟩
theorem plain_merge {x y z : V} : mergeK [] [((.inr "letters" : Key), x), (.inr "table", y), (.inr "ends", z)] = [(.inr "letters", x), (.inr "table", y), (.inr "ends", z)] := by
  rfl
def spMachine : Sp := fun vs H Q _ => ∃ (d : Addr) (x : Str) (m : Nat), vs = [.ref d, .str x, .int m] ∧ Dz H d ∧ 0 < m ∧ m ≤ 4 ∧ x.length ≤ 10 ∧
  ∀ (t : List (List Nat)) (es : List Nat) (p : Addr) (H' : Hp), Plain d H' p x t es → 0 < t.length → t.length ≤ m → H p = none → Dz H' d → Still d H H' → Q (.ref p) H'
/-- .. and it does not hang on lists that stood ahead -/
def spMachineF : Sp := fun vs H Q _ => ∃ (d : Addr) (x : Str) (m : Nat), vs = [.ref d, .str x, .int m] ∧ Dz H d ∧ 0 < m ∧ m ≤ 4 ∧ x.length ≤ 10 ∧
  ∀ (t : List (List Nat)) (es : List Nat) (p : Addr) (H' : Hp), Plain d H' p x t es → 0 < t.length → t.length ≤ m → H p = none → Dz H' d → Still d H H' → (∀ (L : Addr) (ys : List V) (o : HO), L ≠ d → H L = some (.lst ys) → Plain d (upd H' L o) p x t es) → Q (.ref p) H'
section
variable {P : Program} {w : World} {K : PySem.W.Frag} {mg : Str → Option Value} {base : Heap}
/-- the facts of the defs that draw machines -/
structure DefsM (K : PySem.W.Frag) (mg : Str → Option Value) where
  (fA fT : Addr)
  (dA dT : FuncData)
  A : Fun K "_law_action" "_law_action" sAction fA dA
  bA : Binds K dA ["dice", "size", "sort"] []
  mA : mg "_law_action" = some (.ref fA)
  T : Fun K "_law_table" "_law_table" sTable fT dT
  bT : Binds K dT ["dice", "letters", "size", "sorts"] []
  mT : mg "_law_table" = some (.ref fT)
theorem ok_machineF {f : Addr} {fd : FuncData} (F : Fun K "_law_machine" "_law_machine" sMachine f fd) (D : DefsD K mg) (G : DefsM K mg) (T : TxI mg) (M : TxM mg) :
    FnOk P w K mg base CX0 4 f fd ["dice", "letters", "states"] spMachineF := by
  have GR : FnOk P w K mg base CX0 1 D.fR D.dR ["dice", "total"] spDraw := ok_draw D.R T
  have GT : FnOk P w K mg base CX0 3 G.fT G.dT ["dice", "letters", "size", "sorts"] (spTable K) := ok_table G.T G.A G.bA G.mA D T M
  refine F.ok scMachine (fun vs H Q E h => ?_) (fun cdv A outer s H vs Q E hr h => ?_)
  · obtain ⟨d, x, m, rfl, _⟩ := h
    rfl
  · obtain ⟨d, x, m, rfl, Z, hm, hm4, hx, k⟩ := h
    have hr3 : Room 3 _ := hr.mono (by decide)
    have hr1 : Room 1 _ := hr.mono (by decide)
    refine ⟨_, pss_cons (ps_set (i := 3) scMachine.nd rfl (Or.inl rfl) (pe_op op_add pe_int (pe_call GR hr1 rfl D.mR D.R.kp D.bR .nil pass0 (pa_cons (pv 0) (pa_cons (pv 2) pa_nil)))))
      (pss_cons (ps_set (i := 4) scMachine.nd rfl (Or.inl rfl) (pe_call GT hr3 rfl G.mT G.T.kp G.bT .nil pass0 (pa_cons (pv 0) (pa_cons (pv 1) (pa_cons (pv 3) (pa_cons (pe_lst (pa_cons pe_int (pa_cons pe_int (pa_cons pe_int (pa_cons pe_int (pa_cons pe_int (pa_cons pe_int (pa_cons pe_int (pa_cons pe_int pa_nil))))))))) pa_nil))))))
      (pss_cons (ps_setLc (i := 5) (own := [("state", 6)]) (g := gName 6) (tt := tTest (tOp rEq (tCall spDraw [] E0 (tCons (tVar 0) (tCons (tC (.int 2)) tNil))) (tC (.int 0)))) rfl scMachine.nd rfl rfl (sw_true rfl rfl rfl (by decide +kernel)) (pi_range1 rfl M.range (pa_cons (pv 3) pa_nil)) (blkOk_by (N := nMachine) (sc := defScope sMachine) (by decide +kernel)) (fun _ _ _ _ _ => pg_name (i := 6) scMachine.nd rfl (Or.inl rfl))
        (fun _ _ _ _ _ => pts_one (pt_cmpR op_eq (pe_call GR hr1 rfl D.mR D.R.kp D.bR .nil pass0 (pa_cons (pv 0) (pa_cons pe_int pa_nil))) pe_int (nomark _))) (fun _ _ _ _ _ => pv 6))
      (pss_one (ps_ret (pe_disp (pps_cons pe_str (pv 1) (pps_cons pe_str (pv 4) (pps_cons pe_str (pv 5) pps_nil))) (by rfl) (by rfl) (fun z => by cases z) (by decide)))))), ?_⟩
    refine ⟨_, rfl, _, rfl, d, m, rfl, Z, hm, by omega, fun r H1 hr' Z1 S1 => ?_⟩
    refine ⟨_, _, rfl, rfl, ?_⟩
    refine ⟨_, rfl, _, rfl, _, rfl, (by show 8 ≤ sizeLine; decide), fun l nl => ?_⟩
    have ld : l ≠ d := Z1.not nl
    have er : (1 : Int) + (r : Int) = ((1 + r : Nat) : Int) := by omega
    refine ⟨d, l, x, 1 + r, [0, 1, 2, 3, 3, 4, 5, 6], ?_, Z1.new nl, by omega, by omega, hx, SqL.of upd_same, ld, by decide, by decide, fun t us p H2 ht np pd hp R Z2 S2 => ?_⟩
    · rw [← er]
      rfl
    have S12 : Still d H H2 := (S1.new nl).trans S2
    refine ⟨_, rfl, _, rfl, by omega, by omega, fun C nC => ?_⟩
    have Cd : C ≠ d := Z2.not nC
    have HC : H2 C = none := nC
    refine lc_range (lo := 0) (n := ((1 : Int) + (r : Int)).toNat) (fun j H9 => ∃ es : List Nat, H9 C = some (.lst (nts es)) ∧ es.length ≤ j ∧ es.Pairwise (· < ·) ∧ (∀ e ∈ es, e < j) ∧ Dz H9 d ∧ Still d H2 H9)
      ⟨[], upd_same, Nat.le_refl _, List.Pairwise.nil, (fun z hz => by cases hz), Z2.new nC, (Still.refl d H2).new nC⟩ ?_ ?_
    · rintro j H9 hj ⟨es, h1, h2, h3, h4, h5, h6⟩
      refine ⟨rfl, ?_⟩
      refine ⟨_, rfl, d, 2, rfl, h5, by decide, by decide, fun z H3 hz Z3 S3 => ⟨rfl, _, rfl, ?_⟩⟩
      refine ite2 (fun _ => ?_) (fun _ => ?_)
      · refine ⟨_, rfl, _, S3 _ _ Cd h1, ?_, es ++ [j], ?_, ?_, ?_, fun e he => ?_, Z3.ne Cd, (h6.trans S3).at_new HC⟩
        · rw [nts_length]
          exact Nat.lt_of_le_of_lt (show es.length ≤ 4 by omega) (by decide)
        · have ej : (0 : Int) + (j : Int) = (j : Int) := Int.zero_add _
          rw [upd_same, ej, nts_append]
        · rw [List.length_append]
          show es.length + 1 ≤ j + 1
          omega
        · rw [List.pairwise_append]
          refine ⟨h3, List.pairwise_singleton _ _, fun a ha b hb => ?_⟩
          rw [List.mem_singleton.mp hb]
          exact h4 a ha
        · rcases List.mem_append.mp he with q | q
          · have := h4 e q
            omega
          · rw [List.mem_singleton.mp q]
            omega
      · exact ⟨es, S3 _ _ Cd h1, by omega, h3, (fun e he => Nat.lt_succ_of_lt (h4 e he)), Z3, h6.trans S3⟩
    · rintro H9 ⟨es, h1, h2, h3, h4, h5, h6⟩
      refine fun q nq => ⟨_, rfl, _, rfl, _, rfl, upd_same, [(.inr "letters", .str x), (.inr "table", .ref p), (.inr "ends", .ref C)], rfl, (by show 3 ≤ 15; decide), ?_⟩
      rw [plain_merge]
      have k9 : ∀ b o, b ≠ d → H2 b = some o → H9 b = some o := h6
      have q2 : H2 q = none := h6.free h5 nq
      have hq : H q = none := S12.free Z2 q2
      obtain ⟨t1, t2⟩ := ht
      have el : ((1 : Int) + (r : Int)).toNat = t.length := by
        rw [t1]
        omega
      rw [el] at h4
      rw [upd_upd]
      have tl : IsTab t t.length x.length := by
        rw [← t1] at t2
        exact ⟨rfl, t2⟩
      have f1 := keep_new (u := .dK [(.inr "letters", .str x), (.inr "table", .ref p), (.inr "ends", .ref C)]) (k9 _ _ pd hp) nq
      have f2 : RowsT d d (upd H9 q (.dK [(.inr "letters", .str x), (.inr "table", .ref p), (.inr "ends", .ref C)])) us t := R.both.to fun b o hb _ h => keep_new (k9 b o hb h) nq
      have f3 := keep_new (u := .dK [(.inr "letters", .str x), (.inr "table", .ref p), (.inr "ends", .ref C)]) h1 nq
      have f4 : Still d H (upd H9 q (.dK [(.inr "letters", .str x), (.inr "table", .ref p), (.inr "ends", .ref C)])) := (S12.trans h6).new nq
      have hpn : H p = none := (S1.new nl).free (Z1.new nl) np
      have hCn : H C = none := S12.free Z2 nC
      refine k t es q _ ⟨⟨p, C, us, upd_same, pd, f1, f2, Cd, f3⟩, tl, h3, h4⟩ (by omega) (by omega) hq (h5.new nq) f4 fun L ys o Ld hL => ?_
      have n1 : q ≠ L := fun z => by
        rw [← z, hq] at hL
        cases hL
      have n2 : p ≠ L := fun z => by
        rw [← z, hpn] at hL
        cases hL
      have n3 : C ≠ L := fun z => by
        rw [← z, hCn] at hL
        cases hL
      refine ⟨⟨p, C, us, by rw [upd_ne n1]; exact upd_same, pd, by rw [upd_ne n2]; exact f1, ⟨f2.1, fun i r e => ?_⟩, Cd, by rw [upd_ne n3]; exact f3⟩, tl, h3, h4⟩
      obtain ⟨a', a1, a2, a3, a4⟩ := f2.2 i r e
      refine ⟨a', a1, a2, a3, ?_⟩
      rw [upd_ne (fun z => ?_)]
      · exact a4
      · rw [z, f4 _ _ Ld hL] at a4
        cases a4
theorem ok_machine {f : Addr} {fd : FuncData} (F : Fun K "_law_machine" "_law_machine" sMachine f fd) (D : DefsD K mg) (G : DefsM K mg) (T : TxI mg) (M : TxM mg) :
    FnOk P w K mg base CX0 4 f fd ["dice", "letters", "states"] spMachine := by
  refine (ok_machineF F D G T M).imp fun vs H Q E h => ?_
  obtain ⟨d, x, m, rfl, Z, hm, hm4, hx, k⟩ := h
  exact ⟨d, x, m, rfl, Z, hm, hm4, hx, fun t es p H' h1 h2 h3 h4 h5 h6 _ => k t es p H' h1 h2 h3 h4 h5 h6⟩
end
end M3

set_option Elab.async false
set_option linter.all false
set_option maxRecDepth 100000
set_option maxHeartbeats 8000000
/-! # Numbers between, words -/
namespace M3
open PySem L2
abbrev sBetween : Stmt := top 11
abbrev sIsWord : Stmt := top 12
abbrev sHasOnly : Stmt := top 13
structure TxW (mg : Str → Option Value) : Prop where
  isi : mg "isinstance" = none
  bool : mg "bool" = none
  int : mg "int" = none
  str : mg "str" = none
  tuple : mg "tuple" = none
  all : mg "all" = none
  alpha : ∃ t, mg "ALPHABET" = some (.str "abcdefghijklmnopqrstuvwxyz" t)
theorem boot_bool' : bootBuiltins "bool" = some (.type "bool") := by decide +kernel
theorem boot_int' : bootBuiltins "int" = some (.type "int") := by decide +kernel
theorem boot_str' : bootBuiltins "str" = some (.type "str") := by decide +kernel
theorem boot_tuple' : bootBuiltins "tuple" = some (.type "tuple") := by decide +kernel
theorem scBetween : FnScope ["value", "low", "high"] ["value", "low", "high"] (defScope sBetween) := ⟨rfl, rfl, rfl, by decide +kernel, rfl, by decide +kernel, by decide +kernel⟩
theorem scIsWord : FnScope ["value"] ["value"] (defScope sIsWord) := ⟨rfl, rfl, rfl, by decide +kernel, rfl, by decide +kernel, by decide +kernel⟩
theorem scHasOnly : FnScope ["word", "letters", "letter"] ["word", "letters"] (defScope sHasOnly) := ⟨rfl, rfl, rfl, by decide +kernel, rfl, by decide +kernel, by decide +kernel⟩
/-- is it an integer between: what kind of value it is decides first -/
def spBetween (K : PySem.W.Frag) : Sp := fun vs H Q _ => ∃ (v : V) (lo hi : Int) (t : Value) (bb bi : Bool), vs = [v, .int lo, .int hi] ∧ TyX K H v t ∧ PySem.W.kitOne K t (.type "bool") = some bb ∧ PySem.W.kitOne K t (.type "int") = some bi ∧
  (bb = true → Q (.bl false) H) ∧ (bb = false → bi = false → Q (.bl false) H) ∧ (bb = false → bi = true → ∃ i : Int, v = .int i ∧ Q (.bl (decide (lo ≤ i) && decide (i ≤ hi))) H)
def only (x y : Str) : Bool := x.cps.toList.all fun c => decide (c ∈ y.cps.toList)
def spHasOnly : Sp := fun vs H Q _ => ∃ x y : Str, vs = [.str x, .str y] ∧ x.length ≤ 1000000 ∧ ∀ H' : Hp, Same H H' → Q (.bl (only x y)) H'
def spIsWord (K : PySem.W.Frag) : Sp := fun vs H Q _ => ∃ (v : V) (t : Value) (b : Bool), vs = [v] ∧ TyX K H v t ∧ PySem.W.kitOne K t (.type "str") = some b ∧
  (b = false → Q (.bl false) H) ∧ (b = true → ∃ x : Str, v = .str x ∧ x.length ≤ 1000000 ∧ ∀ H' : Hp, Same H H' → Q (.bl (only x "abcdefghijklmnopqrstuvwxyz")) H')
theorem Same.new {H H1 : Hp} {p : Addr} {u : HO} (s : Same H H1) (hp : H1 p = none) : Same H (upd H1 p u) := fun b o h => keep_new (s b o h) hp
section
variable {P : Program} {w : World} {K : PySem.W.Frag} {mg : Str → Option Value} {base : Heap}
theorem ok_between {f : Addr} {fd : FuncData} (F : Fun K "is_between" "is_between" sBetween f fd) (W : TxW mg) : FnOk P w K mg base CX0 1 f fd ["value", "low", "high"] (spBetween K) := by
  refine F.ok scBetween (fun vs H Q E h => ?_) (fun cdv A outer s H vs Q E hr h => ?_)
  · obtain ⟨v, lo, hi, t, bb, bi, rfl, _⟩ := h
    rfl
  · obtain ⟨v, lo, hi, t, bb, bi, rfl, ty, k1, k2, q1, q2, q3⟩ := h
    refine ⟨_, pss_cons (ps_if (PW.pt (pw_or (pt_val (pe_callB call_isi (by rfl) W.isi (by decide +kernel) (pa_cons (pv 0) (pa_cons (pe_bltn (v := .ty "bool") rfl W.bool boot_bool' rfl) pa_nil)))) (pw_or1 (pt_not (pt_val (pe_callB call_isi (by rfl) W.isi (by decide +kernel) (pa_cons (pv 0) (pa_cons (pe_bltn (v := .ty "int") rfl W.int boot_int' rfl) pa_nil)))))))) (pss_one (ps_ret pe_bl)) pss_nil)
      (pss_one (ps_ret (pe_chain op_le op_le (pv 1) (pv 0) (pv 2)))), ?_⟩
    refine ⟨_, rfl, v, .ty "bool", t, .type "bool", bb, rfl, .ty _, ty, k1, _, rfl, ?_⟩
    cases bb with
    | true => exact iteT (iteT (q1 rfl))
    | false =>
      refine iteF ?_
      refine ⟨_, rfl, v, .ty "int", t, .type "int", bi, rfl, .ty _, ty, k2, _, rfl, ?_⟩
      cases bi with
      | false => exact iteT (q2 rfl rfl)
      | true =>
        obtain ⟨i, rfl, q⟩ := q3 rfl rfl
        refine iteF ?_
        refine ⟨_, rfl, _, rfl, _, _, rfl, rfl, _, rfl, ?_⟩
        by_cases h1 : lo ≤ i
        · rw [decide_eq_true h1] at q ⊢
          exact iteT ⟨_, rfl, _, _, rfl, rfl, q⟩
        · rw [decide_eq_false h1] at q ⊢
          exact iteF q
theorem ok_hasonly {f : Addr} {fd : FuncData} (F : Fun K "has_only" "has_only" sHasOnly f fd) (W : TxW mg) : FnOk P w K mg base CX0 1 f fd ["word", "letters"] spHasOnly := by
  refine F.ok scHasOnly (fun vs H Q E h => ?_) (fun cdv A outer s H vs Q E hr h => ?_)
  · obtain ⟨x, y, rfl, _⟩ := h
    rfl
  · obtain ⟨x, y, rfl, hx, k⟩ := h
    refine ⟨_, pss_one (ps_ret (pe_callB (cr_all rfl) (by rfl) W.all (by decide +kernel) (pa_cons (pe_lc (own := [("letter", 2)]) (g := gName 2) (tt := tYes) rfl scHasOnly.nd (pi_str (pv 0)) (blkOk_by (N := ["word", "letters", "letter"]) (sc := defScope sHasOnly) (by decide +kernel)) (fun _ _ _ _ _ => pg_name (i := 2) scHasOnly.nd rfl (Or.inl rfl)) (fun _ _ _ _ _ => pts_nil)
      (fun _ _ _ _ _ => pe_cmpR op_in_sign (pv 2) (pv 1) rfl)) pa_nil))), ?_⟩
    refine ⟨_, rfl, x, rfl, fun C nC => ?_⟩
    refine lc_it walk_str (fun j H9 => H9 C = some (.lst (((x.cps.toList.take j).map fun c => decide (c ∈ y.cps.toList)).map V.bl)) ∧ ∀ b o, b ≠ C → H b = some o → H9 b = some o)
      ⟨upd_same, fun b o hb h => keep_new h nC⟩ (fun _ _ _ _ => trivial) ?_ ?_
    · rintro i v H9 H9' hi ⟨h1, h2⟩ ⟨rfl, c, hc, rfl⟩
      refine ⟨rfl, tYes_if ?_⟩
      have hc' : x.cps.toList[i]? = some c := by simpa using hc
      refine ⟨_, rfl, _, rfl, c, y, rfl, rfl, _, h1, ?_, ?_, fun b o hb h => by rw [upd_ne hb]; exact h2 b o hb h⟩
      · rw [List.length_map, List.length_map, List.length_take]
        have : x.cps.toList.length = x.length := by simp [Str.length]
        have l : sizeLine = 16777216 := sizeLine_eq
        omega
      · rw [upd_same, take_snoc hc', List.map_append, List.map_append]
        rfl
    · rintro H9 ⟨h1, h2⟩
      have et : x.cps.toList.take x.cps.size = x.cps.toList := List.take_of_length_le (by simp)
      rw [et] at h1
      refine ⟨C, _, rfl, SqL.of h1, ?_⟩
      have e : (x.cps.toList.map fun c => decide (c ∈ y.cps.toList)).all id = only x y := by
        unfold only
        rw [List.all_map]
        rfl
      rw [e]
      exact k _ fun b o h => h2 b o (fun z => by rw [z, nC] at h; cases h) h
theorem ok_isword {f g : Addr} {fd gd : FuncData} (F : Fun K "is_word" "is_word" sIsWord f fd) (G : Fun K "has_only" "has_only" sHasOnly g gd) (bG : Binds K gd ["word", "letters"] []) (mG : mg "has_only" = some (.ref g)) (W : TxW mg) : FnOk P w K mg base CX0 2 f fd ["value"] (spIsWord K) := by
  have GH : FnOk P w K mg base CX0 1 g gd ["word", "letters"] spHasOnly := ok_hasonly G W
  obtain ⟨ta, al⟩ := W.alpha
  refine F.ok scIsWord (fun vs H Q E h => ?_) (fun cdv A outer s H vs Q E hr h => ?_)
  · obtain ⟨v, t, b, rfl, _⟩ := h
    rfl
  · obtain ⟨v, t, b, rfl, ty, k1, q1, q2⟩ := h
    refine ⟨_, pss_cons (ps_if (pt_not (pt_val (pe_callB call_isi (by rfl) W.isi (by decide +kernel) (pa_cons (pv 0) (pa_cons (pe_bltn (v := .ty "str") rfl W.str boot_str' rfl) pa_nil))))) (pss_one (ps_ret pe_bl)) pss_nil)
      (pss_one (ps_ret (pe_call GH hr rfl mG G.kp bG .nil pass0 (pa_cons (pv 0) (pa_cons (pe_glob (v := .str "abcdefghijklmnopqrstuvwxyz") rfl al ⟨_, rfl⟩) pa_nil))))), ?_⟩
    refine ⟨_, rfl, v, .ty "str", t, .type "str", b, rfl, .ty _, ty, k1, _, rfl, ?_⟩
    cases b with
    | false => exact iteT (q1 rfl)
    | true =>
      obtain ⟨x, rfl, hx, q⟩ := q2 rfl
      refine iteF ?_
      exact ⟨_, rfl, x, _, rfl, hx, q⟩
end
end M3

set_option Elab.async false
set_option linter.all false
set_option maxRecDepth 100000
set_option maxHeartbeats 8000000
/-! # Sets of letters -/
namespace M3
open PySem L2
abbrev sIsLetters : Stmt := top 14
abbrev nIsLetters : List Str := ["value", "low", "high"]
theorem scIsLetters : FnScope nIsLetters ["value"] (defScope sIsLetters) := ⟨rfl, rfl, rfl, by decide +kernel, rfl, by decide +kernel, by decide +kernel⟩
structure TxZ (mg : Str → Option Value) : Prop where
  zip : mg "zip" = none
  len : mg "len" = none
  maxL : ∃ t, mg "MAX_LETTERS" = some (.int 2 t)
/-- each sign is ahead of the next one -/
def ups (x : Str) : List Bool := (x.cps.toList.zip (x.cps.toList.drop 1)).map fun p => decide ([p.1] < [p.2])
def isLet (x : Str) : Bool := only x "abcdefghijklmnopqrstuvwxyz" && (decide (1 ≤ x.length) && (decide (x.length ≤ 2) && (ups x).all id))
def spIsLetters (K : PySem.W.Frag) : Sp := fun vs H Q _ => ∃ (v : V) (t : Value) (b : Bool), vs = [v] ∧ TyX K H v t ∧ PySem.W.kitOne K t (.type "str") = some b ∧
  (b = false → Q (.bl false) H) ∧ (b = true → ∃ x : Str, v = .str x ∧ x.length ≤ 1000000 ∧ ∀ H' : Hp, Same H H' → Q (.bl (isLet x)) H')
theorem cut1 (x : Str) : cutS x (some 1) none = ⟨(x.cps.toList.drop 1).toArray⟩ := by
  unfold cutS
  have e : HT.sIx x.length 0 (some ((1 : Nat) : Int)) = min 1 x.length := HT.sIx_nat _ _ _
  have e' : HT.sIx x.length 0 (some 1) = min 1 x.length := e
  rw [e', HT.sIx_none]
  have l : x.cps.toList.length = x.length := by simp [Str.length]
  congr 2
  by_cases h : x.length = 0
  · have z : x.cps.toList = [] := List.eq_nil_of_length_eq_zero (by omega)
    rw [z]
    simp
  · have m : min 1 x.length = 1 := by omega
    rw [m]
    exact List.take_of_length_le (by rw [List.length_drop]; omega)
theorem zip_at {α : Type} {l : List α} {i : Nat} {a b : α} (h1 : l[i]? = some a) (h2 : (l.drop 1)[i]? = some b) : (l.zip (l.drop 1))[i]? = some (a, b) := by
  rw [List.getElem?_zip_eq_some]
  exact ⟨h1, h2⟩
section
variable {P : Program} {w : World} {K : PySem.W.Frag} {mg : Str → Option Value} {base : Heap}
/-- the facts of the defs of words -/
structure DefsW (K : PySem.W.Frag) (mg : Str → Option Value) where
  (fB fW fO : Addr)
  (dB dW dO : FuncData)
  B : Fun K "is_between" "is_between" sBetween fB dB
  bB : Binds K dB ["value", "low", "high"] []
  mB : mg "is_between" = some (.ref fB)
  W : Fun K "is_word" "is_word" sIsWord fW dW
  bW : Binds K dW ["value"] []
  mW : mg "is_word" = some (.ref fW)
  O : Fun K "has_only" "has_only" sHasOnly fO dO
  bO : Binds K dO ["word", "letters"] []
  mO : mg "has_only" = some (.ref fO)
theorem ok_isletters {f : Addr} {fd : FuncData} (F : Fun K "is_letters" "is_letters" sIsLetters f fd) (D : DefsW K mg) (W : TxW mg) (Zx : TxZ mg) : FnOk P w K mg base CX0 3 f fd ["value"] (spIsLetters K) := by
  have GW : FnOk P w K mg base CX0 2 D.fW D.dW ["value"] (spIsWord K) := ok_isword D.W D.O D.bO D.mO W
  obtain ⟨tm, ml⟩ := Zx.maxL
  refine F.ok scIsLetters (fun vs H Q E h => ?_) (fun cdv A outer s H vs Q E hr h => ?_)
  · obtain ⟨v, t, b, rfl, _⟩ := h
    rfl
  · obtain ⟨v, t, b, rfl, ty, k1, q1, q2⟩ := h
    have hr2 : Room 2 _ := hr.mono (by decide)
    refine ⟨_, pss_cons (ps_if (PW.pt (pw_or (pt_not (pt_val (pe_call GW hr2 rfl D.mW D.W.kp D.bW .nil pass0 (pa_cons (pv 0) pa_nil)))) (pw_or1 (pt_not (pt_chain op_le op_le pe_int (pe_callB call_len_str (by rfl) Zx.len PySem.boot_len (pa_cons (pv 0) pa_nil)) (pe_glob (v := .int 2) rfl ml ⟨_, rfl⟩)))))) (pss_one (ps_ret pe_bl)) pss_nil)
      (pss_one (ps_ret (pe_callB (cr_all rfl) (by rfl) W.all (by decide +kernel) (pa_cons (pe_lc (own := [("low", 1), ("high", 2)]) (g := gTup K 2 (gCons (gName 1) (gCons (gName 2) gNil))) (tt := tYes) rfl scIsLetters.nd (NvZ.pi_zipS rfl Zx.zip (pa_cons (pv 0) (pa_cons (pe_slice sl_str (pv 0) (po_some pe_int) po_none) pa_nil))) (blkOk_by (N := nIsLetters) (sc := defScope sIsLetters) (by decide +kernel))
        (fun _ _ _ _ _ => pg_tup rfl (pgs_cons (pg_name (i := 1) scIsLetters.nd rfl (Or.inl rfl)) (pgs_cons (pg_name (i := 2) scIsLetters.nd rfl (Or.inl rfl)) pgs_nil))) (fun _ _ _ _ _ => pts_nil) (fun _ _ _ _ _ => pe_cmpR op_lt_str (pv 1) (pv 2) (nomark _))) pa_nil)))), ?_⟩
    refine ⟨_, rfl, v, t, b, rfl, ty, k1, fun e => ⟨_, rfl, ?_⟩, fun e => ?_⟩
    · exact iteT (iteT (q1 e))
    · obtain ⟨x, rfl, hx, q⟩ := q2 e
      refine ⟨x, rfl, hx, fun H1 s1 => ?_⟩
      unfold isLet at q
      refine ⟨_, rfl, ?_⟩
      cases h1 : only x "abcdefghijklmnopqrstuvwxyz" with
      | false =>
        rw [h1] at q
        exact iteT (iteT (q H1 s1))
      | true =>
        rw [h1] at q
        refine iteF ?_
        have hz : x.length ≤ sizeLine := Nat.le_trans hx (by rw [sizeLine_eq]; decide)
        refine ⟨_, rfl, x, rfl, hz, _, _, rfl, rfl, _, rfl, ?_⟩
        have e1 : decide ((1 : Int) ≤ (x.length : Int)) = decide (1 ≤ x.length) := by
          by_cases h : 1 ≤ x.length
          · rw [decide_eq_true h, decide_eq_true (by omega)]
          · rw [decide_eq_false h, decide_eq_false (by omega)]
        have e2 : decide ((x.length : Int) ≤ 2) = decide (x.length ≤ 2) := by
          by_cases h : x.length ≤ 2
          · rw [decide_eq_true h, decide_eq_true (by omega)]
          · rw [decide_eq_false h, decide_eq_false (by omega)]
        rw [e1]
        cases h2 : decide (1 ≤ x.length) with
        | false =>
          rw [h2] at q
          exact iteF ⟨_, rfl, iteT (q H1 s1)⟩
        | true =>
          rw [h2] at q
          refine iteT ⟨_, _, rfl, rfl, _, rfl, ?_⟩
          rw [e2]
          cases h3 : decide (x.length ≤ 2) with
          | false =>
            rw [h3] at q
            exact iteT (q H1 s1)
          | true =>
            rw [h3] at q
            refine iteF ?_
            refine ⟨_, rfl, _, rfl, 1, rfl, x, rfl, hz, x, _, rfl, ?_⟩
            rw [cut1]
            intro C nC
            have lu : (ups x).length = min x.cps.size (⟨(x.cps.toList.drop 1).toArray⟩ : Str).cps.size := by
              unfold ups
              rw [List.length_map, List.length_zip]
              simp
            refine lc_it NvZ.walk_zipS (fun j H9 => H9 C = some (.lst (((ups x).take j).map V.bl)) ∧ ∀ b o, b ≠ C → H1 b = some o → H9 b = some o)
              ⟨upd_same, fun b o hb h => keep_new h nC⟩ (fun _ _ _ _ => trivial) ?_ ?_
            · rintro i v H9 H9' hi ⟨h1, h2⟩ ⟨T', a, b, rfl, nT, rfl, ha, hb⟩
              refine ⟨T', _, rfl, SqT.of upd_same, rfl, _, _, rfl, _, _, rfl, rfl, rfl, tYes_if ?_⟩
              have hu : (ups x)[i]? = some (decide ([a] < [b])) := by
                unfold ups
                rw [List.getElem?_map, zip_at (l := x.cps.toList) (by simpa using ha) (by simpa using hb)]
                rfl
              refine ⟨_, rfl, _, rfl, _, _, rfl, rfl, _, keep_new h1 nT, ?_, ?_, fun b' o hb' h => by rw [upd_ne hb']; exact keep_new (h2 b' o hb' h) nT⟩
              · rw [List.length_map, List.length_take]
                have : (ups x).length ≤ x.cps.size := by rw [lu]; exact Nat.min_le_left _ _
                have l : sizeLine = 16777216 := sizeLine_eq
                have : x.cps.size ≤ 1000000 := hx
                omega
              · rw [upd_same, take_snoc hu, List.map_append]
                rfl
            · rintro H9 ⟨h1, h2⟩
              rw [← lu, List.take_length] at h1
              refine ⟨C, _, rfl, SqL.of h1, q H9 fun b o h => h2 b o (fun z => ?_) (s1 _ _ h)⟩
              rw [z] at h
              have := s1 _ _ h
              rw [nC] at this
              cases this
end
end M3

set_option Elab.async false
set_option linter.all false
set_option maxRecDepth 100000
set_option maxHeartbeats 8000000
/-! # Lines, tables, choices -/
namespace M3
open PySem L2
abbrev sIsTable : Stmt := top 19
abbrev sIsLine : Stmt := top 20
abbrev sIsChoice : Stmt := top 21
abbrev nIsTable : List Str := ["value", "width", "most", "line"]
abbrev nIsLine : List Str := ["value", "width", "size", "goal"]
abbrev nIsChoice : List Str := ["value", "size", "state", "low", "high"]
theorem scIsTable : FnScope nIsTable ["value", "width", "most"] (defScope sIsTable) := ⟨rfl, rfl, rfl, by decide +kernel, rfl, by decide +kernel, by decide +kernel⟩
theorem scIsLine : FnScope nIsLine ["value", "width", "size"] (defScope sIsLine) := ⟨rfl, rfl, rfl, by decide +kernel, rfl, by decide +kernel, by decide +kernel⟩
theorem scIsChoice : FnScope nIsChoice ["value", "size"] (defScope sIsChoice) := ⟨rfl, rfl, rfl, by decide +kernel, rfl, by decide +kernel, by decide +kernel⟩
theorem ty_tup {K : PySem.W.Frag} {H : Hp} {a : Addr} {xs : List V} (h : SqT K H a xs) : TyX K H (.ref a) (.type "tuple") := by
  rcases h with (h | ⟨o, h⟩) | ⟨o, _, _, h, c, _⟩
  · exact .base (.tup h)
  · exact .fTuple h
  · exact .kTuple h c
theorem sqt_same {K : PySem.W.Frag} {a : Addr} {H H' : Hp} {xs : List V} (s : Same H H') (h : SqT K H a xs) : SqT K H' a xs := by
  rcases h with (h | ⟨o, h⟩) | h
  · exact .inl (.inl (s _ _ h))
  · exact .inl (.inr ⟨o, s _ _ h⟩)
  · exact .inr h
def inside (n i : Int) : Bool := decide (0 ≤ i) && decide (i ≤ n - 1)
/-- a tuple of integers is handed in -/
def spIsLine (K : PySem.W.Frag) : Sp := fun vs H Q _ => ∃ (a : Addr) (xs : List Int) (w n : Int), vs = [.ref a, .int w, .int n] ∧ SqT K H a (xs.map V.int) ∧ xs.length ≤ 1000000 ∧ ∀ H' : Hp, Same H H' → Q (.bl (decide ((xs.length : Int) = w) && xs.all (inside n))) H'
section
variable {P : Program} {w : World} {K : PySem.W.Frag} {mg : Str → Option Value} {base : Heap}
theorem kit_tup : PySem.W.kitOne K (.type "tuple") (.type "tuple") = some true := kit_ty (by decide +kernel)
theorem kit_int_bool : PySem.W.kitOne K (.type "int") (.type "bool") = some false := kit_ty (by decide +kernel)
theorem kit_int_int : PySem.W.kitOne K (.type "int") (.type "int") = some true := kit_ty (by decide +kernel)
theorem ok_isline {f : Addr} {fd : FuncData} (F : Fun K "is_line" "is_line" sIsLine f fd) (D : DefsW K mg) (W : TxW mg) (Zx : TxZ mg) : FnOk P w K mg base CX0 2 f fd ["value", "width", "size"] (spIsLine K) := by
  have GB : FnOk P w K mg base CX0 1 D.fB D.dB ["value", "low", "high"] (spBetween K) := ok_between D.B W
  refine F.ok scIsLine (fun vs H Q E h => ?_) (fun cdv A outer s H vs Q E hr h => ?_)
  · obtain ⟨a, xs, w', n, rfl, _⟩ := h
    rfl
  · obtain ⟨a, xs, w', n, rfl, ha, hx, k⟩ := h
    refine ⟨_, pss_cons (ps_if (PW.pt (pw_or (pt_not (pt_val (pe_callB call_isi (by rfl) W.isi (by decide +kernel) (pa_cons (pv 0) (pa_cons (pe_bltn (v := .ty "tuple") rfl W.tuple boot_tuple' rfl) pa_nil))))) (pw_or1 (pt_cmpR op_ne (pe_callB call_len_seq (by rfl) Zx.len PySem.boot_len (pa_cons (pv 0) pa_nil)) (pv 1) (nomark _))))) (pss_one (ps_ret pe_bl)) pss_nil)
      (pss_one (ps_ret (pe_callB (cr_all rfl) (by rfl) W.all (by decide +kernel) (pa_cons (pe_lc (own := [("goal", 3)]) (g := gName 3) (tt := tYes) rfl scIsLine.nd (pi_tup (pv 0)) (blkOk_by (N := nIsLine) (sc := defScope sIsLine) (by decide +kernel)) (fun _ _ _ _ _ => pg_name (i := 3) scIsLine.nd rfl (Or.inl rfl)) (fun _ _ _ _ _ => pts_nil)
        (fun _ _ _ _ _ => pe_call GB hr rfl D.mB D.B.kp D.bB .nil pass0 (pa_cons (pv 3) (pa_cons pe_int (pa_cons (pe_op op_sub (pv 2) pe_int) pa_nil))))) pa_nil)))), ?_⟩
    refine ⟨_, rfl, .ref a, .ty "tuple", _, .type "tuple", true, rfl, .ty _, ty_tup ha, kit_tup, _, rfl, ?_⟩
    refine iteF ?_
    refine ⟨_, rfl, a, _, rfl, .inr ha, _, rfl, rfl, _, rfl, ?_⟩
    have e1 : (!decide (V.int ((xs.map V.int).length : Int) = V.int w')) = !decide ((xs.length : Int) = w') := by
      rw [List.length_map]
      by_cases h : (xs.length : Int) = w'
      · rw [decide_eq_true h, decide_eq_true (by rw [h])]
      · rw [decide_eq_false h, decide_eq_false (fun z => h (by injection z))]
    rw [e1]
    cases h1 : decide ((xs.length : Int) = w') with
    | false =>
      rw [h1] at k
      exact iteT (k H (Same.refl H))
    | true =>
      rw [h1] at k
      refine iteF ?_
      refine ⟨_, rfl, a, rfl, ⟨_, ha⟩, fun C nC => ?_⟩
      refine lc_it (walk_tup (K := K) (a := a) (xs := xs.map V.int)) (fun j H9 => H9 C = some (.lst (((xs.take j).map (inside n)).map V.bl)) ∧ Same H H9 ∧ H C = none)
        ⟨upd_same, Same.new (Same.refl H) nC, nC⟩ (fun i H9 _ ⟨_, z, _⟩ => sqt_same z ha) ?_ ?_
      · rintro i v H9 H9' hi ⟨q1, q2, _⟩ ⟨rfl, hv⟩
        refine ⟨rfl, tYes_if ?_⟩
        rw [List.getElem?_map] at hv
        cases e : xs[i]? with
        | none =>
          rw [e] at hv
          cases hv
        | some y =>
          rw [e] at hv
          cases hv
          refine ⟨_, rfl, _, rfl, _, _, rfl, rfl, .int y, 0, n - 1, .type "int", false, true, rfl, .base (.int y), kit_int_bool, kit_int_int, (fun z => by cases z), (fun _ z => by cases z), fun _ _ => ⟨y, rfl, ?_⟩⟩
          refine ⟨_, q1, ?_, ?_, fun b o h => ?_, nC⟩
          · rw [List.length_map, List.length_map, List.length_take]
            have l : sizeLine = 16777216 := sizeLine_eq
            omega
          · rw [upd_same, take_snoc e, List.map_append, List.map_append]
            rfl
          · rw [upd_ne (fun z => by rw [z, nC] at h; cases h)]
            exact q2 b o h
      · rintro H9 ⟨q1, q2, _⟩
        have et : xs.take (xs.map V.int).length = xs := by
          rw [List.length_map]
          exact List.take_length
        rw [et] at q1
        refine ⟨C, _, rfl, SqL.of q1, ?_⟩
        rw [List.all_map]
        exact k H9 q2
end
end M3

set_option Elab.async false
set_option linter.all false
set_option maxRecDepth 100000
set_option maxHeartbeats 8000000
/-! # Tables judged -/
namespace M3
open PySem L2
/-- tuples of integers stand at these addresses -/
def Lines (K : PySem.W.Frag) (H : Hp) (us : List V) (t : List (List Int)) : Prop := us.length = t.length ∧ ∀ (i : Nat) (r : List Int), t[i]? = some r → ∃ b : Addr, us[i]? = some (V.ref b) ∧ SqT K H b (r.map V.int) ∧ r.length ≤ 1000
theorem Lines.same {K : PySem.W.Frag} {H H' : Hp} {us : List V} {t : List (List Int)} (h : Lines K H us t) (s : Same H H') : Lines K H' us t := ⟨h.1, fun i r e => by
  obtain ⟨b, h1, h2, h3⟩ := h.2 i r e
  exact ⟨b, h1, sqt_same s h2, h3⟩⟩
def tabOk (t : List (List Int)) (w m : Int) : Bool := decide (1 ≤ (t.length : Int)) && (decide ((t.length : Int) ≤ m) && t.all fun r => decide ((r.length : Int) = w) && r.all (inside t.length))
def spIsTable (K : PySem.W.Frag) : Sp := fun vs H Q _ => ∃ (a : Addr) (us : List V) (t : List (List Int)) (w m : Int), vs = [.ref a, .int w, .int m] ∧ SqT K H a us ∧ Lines K H us t ∧ t.length ≤ 1000000 ∧ ∀ H' : Hp, Same H H' → Q (.bl (tabOk t w m)) H'
section
variable {P : Program} {w : World} {K : PySem.W.Frag} {mg : Str → Option Value} {base : Heap}
theorem ok_istable {f g : Addr} {fd gd : FuncData} (F : Fun K "is_table" "is_table" sIsTable f fd) (G : Fun K "is_line" "is_line" sIsLine g gd) (bG : Binds K gd ["value", "width", "size"] []) (mG : mg "is_line" = some (.ref g)) (D : DefsW K mg) (W : TxW mg) (Zx : TxZ mg) :
    FnOk P w K mg base CX0 3 f fd ["value", "width", "most"] (spIsTable K) := by
  have GL : FnOk P w K mg base CX0 2 g gd ["value", "width", "size"] (spIsLine K) := ok_isline G D W Zx
  refine F.ok scIsTable (fun vs H Q E h => ?_) (fun cdv A outer s H vs Q E hr h => ?_)
  · obtain ⟨a, us, t, w', m, rfl, _⟩ := h
    rfl
  · obtain ⟨a, us, t, w', m, rfl, ha, hL, ht, k⟩ := h
    refine ⟨_, pss_cons (ps_if (PW.pt (pw_or (pt_not (pt_val (pe_callB call_isi (by rfl) W.isi (by decide +kernel) (pa_cons (pv 0) (pa_cons (pe_bltn (v := .ty "tuple") rfl W.tuple boot_tuple' rfl) pa_nil))))) (pw_or1 (pt_not (pt_chain op_le op_le pe_int (pe_callB call_len_seq (by rfl) Zx.len PySem.boot_len (pa_cons (pv 0) pa_nil)) (pv 2)))))) (pss_one (ps_ret pe_bl)) pss_nil)
      (pss_one (ps_ret (pe_callB (cr_all rfl) (by rfl) W.all (by decide +kernel) (pa_cons (pe_lc (own := [("line", 3)]) (g := gName 3) (tt := tYes) (te := tCall (spIsLine K) [] E0 (tCons (tVar 3) (tCons (tVar 1) (tCons (tCB (fun xs H Q => ∃ p ys, xs = [V.ref p] ∧ (SqL K H p ys ∨ SqT K H p ys) ∧ Q (V.int ys.length) H) (tCons (tVar 0) tNil)) tNil)))) rfl scIsTable.nd (pi_tup (pv 0)) (blkOk_by (N := nIsTable) (sc := defScope sIsTable) (by decide +kernel)) (fun _ _ _ _ _ => pg_name (i := 3) scIsTable.nd rfl (Or.inl rfl)) (fun _ _ _ _ _ => pts_nil)
        (fun _ _ _ _ _ => pe_call GL hr rfl mG G.kp bG .nil pass0 (pa_cons (pv 3) (pa_cons (pv 1) (pa_cons (pe_callB call_len_seq (by rfl) Zx.len PySem.boot_len (pa_cons (pv 0) pa_nil)) pa_nil))))) pa_nil)))), ?_⟩
    have lu : us.length = t.length := hL.1
    refine ⟨_, rfl, .ref a, .ty "tuple", _, .type "tuple", true, rfl, .ty _, ty_tup ha, kit_tup, _, rfl, ?_⟩
    refine iteF ?_
    refine ⟨_, rfl, a, _, rfl, .inr ha, _, _, rfl, rfl, _, rfl, ?_⟩
    rw [lu]
    unfold tabOk at k
    cases h1 : decide (1 ≤ (t.length : Int)) with
    | false =>
      rw [h1] at k
      exact iteF ⟨_, rfl, iteT (k H (Same.refl H))⟩
    | true =>
      rw [h1] at k
      refine iteT ⟨_, rfl, _, _, rfl, rfl, _, rfl, ?_⟩
      cases h2 : decide ((t.length : Int) ≤ m) with
      | false =>
        rw [h2] at k
        exact iteT (k H (Same.refl H))
      | true =>
        rw [h2] at k
        refine iteF ?_
        refine ⟨_, rfl, a, rfl, ⟨_, ha⟩, fun C nC => ?_⟩
        refine lc_it (walk_tup (K := K) (a := a) (xs := us)) (fun j H9 => H9 C = some (.lst (((t.take j).map fun r => decide ((r.length : Int) = w') && r.all (inside t.length)).map V.bl)) ∧ Same H H9)
          ⟨upd_same, Same.new (Same.refl H) nC⟩ (fun i H9 _ ⟨_, z⟩ => sqt_same z ha) ?_ ?_
        · rintro i v H9 H9' hi ⟨q1, q2⟩ ⟨rfl, hv⟩
          refine ⟨rfl, tYes_if ?_⟩
          have hi' : i < t.length := by rw [← lu]; exact hi
          obtain ⟨b, b1, b2, b3⟩ := hL.2 i t[i] (List.getElem?_eq_getElem hi')
          have ev : v = .ref b := Option.some.inj (hv.symm.trans b1)
          subst ev
          refine ⟨_, rfl, _, rfl, _, rfl, a, us, rfl, .inr (sqt_same q2 ha), b, t[i], w', (us.length : Int), rfl, sqt_same q2 b2, Nat.le_trans b3 (by decide), fun H3 s3 => ?_⟩
          rw [lu]
          refine ⟨_, s3 _ _ q1, ?_, ?_, fun b' o h => ?_⟩
          · rw [List.length_map, List.length_map, List.length_take]
            have l : sizeLine = 16777216 := sizeLine_eq
            omega
          · rw [upd_same, take_snoc (List.getElem?_eq_getElem hi'), List.map_append, List.map_append]
            rfl
          · rw [upd_ne (fun z => by rw [z, nC] at h; cases h)]
            exact s3 _ _ (q2 b' o h)
        · rintro H9 ⟨q1, q2⟩
          have et : t.take us.length = t := by
            rw [lu]
            exact List.take_length
          rw [et] at q1
          refine ⟨C, _, rfl, SqL.of q1, ?_⟩
          rw [List.all_map]
          exact k H9 q2
end
end M3

set_option Elab.async false
set_option linter.all false
set_option maxRecDepth 100000
set_option maxHeartbeats 8000000
/-! # Choices judged -/
namespace M3
open PySem L2
theorem walk_zT {K : PySem.W.Frag} {a b : Addr} {xs ys : List V} {n : Nat} (hn : n = min xs.length ys.length) :
    Walk (RZ.ItzT K a b) n (fun H => SqT K H a xs ∧ SqT K H b ys) (YPair (fun i => xs[i]?) (fun i => ys[i]?)) where
  goes := fun i H hi q => by
    have h1 : i < xs.length := by omega
    have h2 : i < ys.length := by omega
    refine ⟨xs, ys, _, _, q.1, q.2, List.getElem?_eq_getElem h1, List.getElem?_eq_getElem h2⟩
  stops := fun H q => by
    refine ⟨xs, ys, q.1, q.2, ?_⟩
    omega
  yields := fun i H v H' hi q y => by
    obtain ⟨T, c, e, h1, h2, h3, h4, h5⟩ := y
    exact ⟨T, c, e, h1, h2, h3, h4 xs q.1, h5 ys q.2⟩
def climbs (xs : List Int) : List Bool := (xs.zip (xs.drop 1)).map fun p => decide (p.1 < p.2)
def choiceOk (xs : List Int) (n : Int) : Bool := xs.all (inside n) && (climbs xs).all id
def spIsChoice (K : PySem.W.Frag) : Sp := fun vs H Q _ => ∃ (a : Addr) (xs : List Int) (n : Int), vs = [.ref a, .int n] ∧ SqT K H a (xs.map V.int) ∧ xs.length ≤ 1000000 ∧ ∀ H' : Hp, Same H H' → Q (.bl (choiceOk xs n)) H'
section
variable {P : Program} {w : World} {K : PySem.W.Frag} {mg : Str → Option Value} {base : Heap}
theorem ok_ischoice {f : Addr} {fd : FuncData} (F : Fun K "is_choice" "is_choice" sIsChoice f fd) (D : DefsW K mg) (W : TxW mg) (Zx : TxZ mg) : FnOk P w K mg base CX0 2 f fd ["value", "size"] (spIsChoice K) := by
  have GB : FnOk P w K mg base CX0 1 D.fB D.dB ["value", "low", "high"] (spBetween K) := ok_between D.B W
  refine F.ok scIsChoice (fun vs H Q E h => ?_) (fun cdv A outer s H vs Q E hr h => ?_)
  · obtain ⟨a, xs, n, rfl, _⟩ := h
    rfl
  · obtain ⟨a, xs, n, rfl, ha, hx, k⟩ := h
    refine ⟨_, pss_cons (ps_if (pt_not (pt_val (pe_callB call_isi (by rfl) W.isi (by decide +kernel) (pa_cons (pv 0) (pa_cons (pe_bltn (v := .ty "tuple") rfl W.tuple boot_tuple' rfl) pa_nil))))) (pss_one (ps_ret pe_bl)) pss_nil)
      (pss_cons (ps_if (pt_not (pt_val (pe_callB (cr_all rfl) (by rfl) W.all (by decide +kernel) (pa_cons (pe_lc (own := [("state", 2)]) (g := gName 2) (tt := tYes) rfl scIsChoice.nd (pi_tup (pv 0)) (blkOk_by (N := nIsChoice) (sc := defScope sIsChoice) (by decide +kernel)) (fun _ _ _ _ _ => pg_name (i := 2) scIsChoice.nd rfl (Or.inl rfl)) (fun _ _ _ _ _ => pts_nil)
        (fun _ _ _ _ _ => pe_call GB hr rfl D.mB D.B.kp D.bB .nil pass0 (pa_cons (pv 2) (pa_cons pe_int (pa_cons (pe_op op_sub (pv 1) pe_int) pa_nil))))) pa_nil)))) (pss_one (ps_ret pe_bl)) pss_nil)
      (pss_one (ps_ret (pe_callB (cr_all rfl) (by rfl) W.all (by decide +kernel) (pa_cons (pe_lc (own := [("low", 3), ("high", 4)]) (g := gTup K 2 (gCons (gName 3) (gCons (gName 4) gNil))) (tt := tYes) rfl scIsChoice.nd (RZ.pi_zipA rfl Zx.zip (pa_cons (pv 0) (pa_cons (pe_slice sl_tupA (pv 0) (po_some pe_int) po_none) pa_nil))) (blkOk_by (N := nIsChoice) (sc := defScope sIsChoice) (by decide +kernel))
        (fun _ _ _ _ _ => pg_tup rfl (pgs_cons (pg_name (i := 3) scIsChoice.nd rfl (Or.inl rfl)) (pgs_cons (pg_name (i := 4) scIsChoice.nd rfl (Or.inl rfl)) pgs_nil))) (fun _ _ _ _ _ => pts_nil) (fun _ _ _ _ _ => pe_cmpR op_lt (pv 3) (pv 4) (nomark _))) pa_nil))))), ?_⟩
    refine ⟨_, rfl, .ref a, .ty "tuple", _, .type "tuple", true, rfl, .ty _, ty_tup ha, kit_tup, _, rfl, ?_⟩
    refine iteF ?_
    refine ⟨_, rfl, a, rfl, ⟨_, ha⟩, fun C nC => ?_⟩
    refine lc_it (walk_tup (K := K) (a := a) (xs := xs.map V.int)) (fun j H9 => H9 C = some (.lst (((xs.take j).map (inside n)).map V.bl)) ∧ Same H H9)
      ⟨upd_same, Same.new (Same.refl H) nC⟩ (fun i H9 _ ⟨_, z⟩ => sqt_same z ha) ?_ ?_
    · rintro i v H9 H9' hi ⟨q1, q2⟩ ⟨rfl, hv⟩
      refine ⟨rfl, tYes_if ?_⟩
      rw [List.getElem?_map] at hv
      cases e : xs[i]? with
      | none =>
        rw [e] at hv
        cases hv
      | some y =>
        rw [e] at hv
        cases hv
        refine ⟨_, rfl, _, rfl, _, _, rfl, rfl, .int y, 0, n - 1, .type "int", false, true, rfl, .base (.int y), kit_int_bool, kit_int_int, (fun z => by cases z), (fun _ z => by cases z), fun _ _ => ⟨y, rfl, ?_⟩⟩
        refine ⟨_, q1, ?_, ?_, fun b o h => ?_⟩
        · rw [List.length_map, List.length_map, List.length_take]
          have l : sizeLine = 16777216 := sizeLine_eq
          omega
        · rw [upd_same, take_snoc e, List.map_append, List.map_append]
          rfl
        · rw [upd_ne (fun z => by rw [z, nC] at h; cases h)]
          exact q2 b o h
    · rintro H9 ⟨q1, q2⟩
      have et : xs.take (xs.map V.int).length = xs := by
        rw [List.length_map]
        exact List.take_length
      rw [et] at q1
      refine ⟨C, _, rfl, SqL.of q1, _, rfl, ?_⟩
      rw [List.all_map]
      unfold choiceOk at k
      have ea : xs.all (id ∘ inside n) = xs.all (inside n) := rfl
      rw [ea]
      cases h1 : xs.all (inside n) with
      | false =>
        rw [h1] at k
        exact iteT (k H9 q2)
      | true =>
        rw [h1] at k
        refine iteF ?_
        have ha9 := sqt_same q2 ha
        refine ⟨_, rfl, _, rfl, 1, rfl, a, _, rfl, ha9, ?_⟩
        have h1x : HT.sIx (xs.map V.int).length 0 (some 1) = min 1 xs.length := by
          have e : HT.sIx (xs.map V.int).length 0 (some ((1 : Nat) : Int)) = min 1 (xs.map V.int).length := HT.sIx_nat _ _ _
          rw [List.length_map] at e
          rw [List.length_map]
          exact e
        refine ⟨fun hw => ?_, fun hw p np => ?_⟩
        · have nil : xs = [] := by
            have := hw.1
            rw [h1x] at this
            exact List.eq_nil_of_length_eq_zero (by omega)
          have hd : (xs.drop 1).map V.int = xs.map V.int := by
            rw [nil]
            rfl
          refine ⟨a, a, xs.map V.int, (xs.drop 1).map V.int, rfl, .inr ⟨sqt_same q2 ha, (by rw [hd]; exact sqt_same q2 ha), fun G nG => ?_⟩⟩
          have sH : Same H H9 := q2
          have hz : SqT K H9 a ((xs.drop 1).map V.int) := (by rw [hd]; exact sqt_same q2 ha)
          generalize H9 = H10 at nG sH hz ⊢
          have lc : (climbs xs).length = min xs.length (xs.drop 1).length := by
            unfold climbs
            rw [List.length_map, List.length_zip]
          refine lc_it (walk_zT (K := K) (a := a) (b := a) (xs := xs.map V.int) (ys := (xs.drop 1).map V.int) (n := (climbs xs).length) (by rw [lc, List.length_map, List.length_map])) (fun j H9 => H9 G = some (.lst (((climbs xs).take j).map V.bl)) ∧ ∀ b o, b ≠ G → H10 b = some o → H9 b = some o)
            ⟨upd_same, fun b o hb h => keep_new h nG⟩ (fun i H9 _ ⟨_, z⟩ => ?_) ?_ ?_
          · have z' : ∀ c ys, SqT K H10 c ys → SqT K H9 c ys := fun c ys h => by
              rcases h with (h | ⟨o, h⟩) | h
              · exact .inl (.inl (z _ _ (fun e => by rw [e, nG] at h; cases h) h))
              · exact .inl (.inr ⟨o, z _ _ (fun e => by rw [e, nG] at h; cases h) h⟩)
              · exact .inr h
            exact ⟨z' _ _ (sqt_same sH ha), z' _ _ hz⟩
          · rintro i v H11 H12 hi ⟨p1, p2⟩ ⟨T', u1, u2, rfl, nT, rfl, hu1, hu2⟩
            refine ⟨T', _, rfl, SqT.of upd_same, rfl, _, _, rfl, _, _, rfl, rfl, rfl, tYes_if ?_⟩
            have hu1 : (xs.map V.int)[i]? = some u1 := hu1
            have hu2 : ((xs.drop 1).map V.int)[i]? = some u2 := hu2
            rw [List.getElem?_map] at hu1 hu2
            cases e1 : xs[i]? with
            | none =>
              rw [e1] at hu1
              cases hu1
            | some y1 =>
              cases e2 : (xs.drop 1)[i]? with
              | none =>
                rw [e2] at hu2
                cases hu2
              | some y2 =>
                rw [e1] at hu1
                rw [e2] at hu2
                cases hu1
                cases hu2
                have hu : (climbs xs)[i]? = some (decide (y1 < y2)) := by
                  unfold climbs
                  rw [List.getElem?_map, zip_at e1 e2]
                  rfl
                refine ⟨_, rfl, _, rfl, _, _, rfl, rfl, _, keep_new p1 nT, ?_, ?_, fun b' o hb' h => by rw [upd_ne hb']; exact keep_new (p2 b' o hb' h) nT⟩
                · rw [List.length_map, List.length_take]
                  have : (climbs xs).length ≤ xs.length := by rw [lc]; exact Nat.min_le_left _ _
                  have l : sizeLine = 16777216 := sizeLine_eq
                  omega
                · rw [upd_same, take_snoc hu, List.map_append]
                  rfl
          · rintro H11 ⟨p1, p2⟩
            rw [List.take_length] at p1
            exact ⟨G, _, rfl, SqL.of p1, k H11 fun b o h => p2 b o (fun z => by rw [z] at h; have := sH _ _ h; rw [nG] at this; cases this) (sH _ _ h)⟩
        · have hd : cutV (xs.map V.int) (some 1) none = (xs.drop 1).map V.int := by
            unfold cutV
            rw [h1x, HT.sIx_none, List.length_map, ← List.map_drop, ← List.map_take]
            by_cases h0 : xs.length = 0
            · rw [List.eq_nil_of_length_eq_zero h0]
              rfl
            · have m : min 1 xs.length = 1 := by omega
              rw [m, List.take_of_length_le (by rw [List.length_drop]; omega)]
          refine ⟨a, p, xs.map V.int, (xs.drop 1).map V.int, rfl, .inr ⟨sqt_same (Same.new q2 np) ha, (by rw [hd]; exact SqT.of upd_same), fun G nG => ?_⟩⟩
          have sH : Same H (upd H9 p (.tup (cutV (xs.map V.int) (some 1) none))) := (Same.new q2 np)
          have hz : SqT K (upd H9 p (.tup (cutV (xs.map V.int) (some 1) none))) p ((xs.drop 1).map V.int) := (by rw [hd]; exact SqT.of upd_same)
          generalize (upd H9 p (.tup (cutV (xs.map V.int) (some 1) none))) = H10 at nG sH hz ⊢
          have lc : (climbs xs).length = min xs.length (xs.drop 1).length := by
            unfold climbs
            rw [List.length_map, List.length_zip]
          refine lc_it (walk_zT (K := K) (a := a) (b := p) (xs := xs.map V.int) (ys := (xs.drop 1).map V.int) (n := (climbs xs).length) (by rw [lc, List.length_map, List.length_map])) (fun j H9 => H9 G = some (.lst (((climbs xs).take j).map V.bl)) ∧ ∀ b o, b ≠ G → H10 b = some o → H9 b = some o)
            ⟨upd_same, fun b o hb h => keep_new h nG⟩ (fun i H9 _ ⟨_, z⟩ => ?_) ?_ ?_
          · have z' : ∀ c ys, SqT K H10 c ys → SqT K H9 c ys := fun c ys h => by
              rcases h with (h | ⟨o, h⟩) | h
              · exact .inl (.inl (z _ _ (fun e => by rw [e, nG] at h; cases h) h))
              · exact .inl (.inr ⟨o, z _ _ (fun e => by rw [e, nG] at h; cases h) h⟩)
              · exact .inr h
            exact ⟨z' _ _ (sqt_same sH ha), z' _ _ hz⟩
          · rintro i v H11 H12 hi ⟨p1, p2⟩ ⟨T', u1, u2, rfl, nT, rfl, hu1, hu2⟩
            refine ⟨T', _, rfl, SqT.of upd_same, rfl, _, _, rfl, _, _, rfl, rfl, rfl, tYes_if ?_⟩
            have hu1 : (xs.map V.int)[i]? = some u1 := hu1
            have hu2 : ((xs.drop 1).map V.int)[i]? = some u2 := hu2
            rw [List.getElem?_map] at hu1 hu2
            cases e1 : xs[i]? with
            | none =>
              rw [e1] at hu1
              cases hu1
            | some y1 =>
              cases e2 : (xs.drop 1)[i]? with
              | none =>
                rw [e2] at hu2
                cases hu2
              | some y2 =>
                rw [e1] at hu1
                rw [e2] at hu2
                cases hu1
                cases hu2
                have hu : (climbs xs)[i]? = some (decide (y1 < y2)) := by
                  unfold climbs
                  rw [List.getElem?_map, zip_at e1 e2]
                  rfl
                refine ⟨_, rfl, _, rfl, _, _, rfl, rfl, _, keep_new p1 nT, ?_, ?_, fun b' o hb' h => by rw [upd_ne hb']; exact keep_new (p2 b' o hb' h) nT⟩
                · rw [List.length_map, List.length_take]
                  have : (climbs xs).length ≤ xs.length := by rw [lc]; exact Nat.min_le_left _ _
                  have l : sizeLine = 16777216 := sizeLine_eq
                  omega
                · rw [upd_same, take_snoc hu, List.map_append]
                  rfl
          · rintro H11 ⟨p1, p2⟩
            rw [List.take_length] at p1
            exact ⟨G, _, rfl, SqL.of p1, k H11 fun b o h => p2 b o (fun z => by rw [z] at h; have := sH _ _ h; rw [nG] at this; cases this) (sH _ _ h)⟩
end
end M3

set_option Elab.async false
set_option linter.all false
set_option maxRecDepth 100000
set_option maxHeartbeats 8000000
/-! # Leading words -/
namespace M3
open PySem L2
abbrev sLawLed : Stmt := top 55
abbrev sLed : Stmt := top 23
abbrev nLawLed : List Str := ["table", "letters", "word", "start", "place", "letter"]
abbrev nLed : List Str := ["table", "letters", "start", "word", "now", "letter"]
theorem scLawLed : FnScope nLawLed ["table", "letters", "word", "start"] (defScope sLawLed) := ⟨rfl, rfl, rfl, by decide +kernel, rfl, by decide +kernel, by decide +kernel⟩
theorem scLed : FnScope nLed ["table", "letters", "start", "word"] (defScope sLed) := ⟨rfl, rfl, rfl, by decide +kernel, rfl, by decide +kernel, by decide +kernel⟩
/-- tuples of numbers stand at these addresses -/
def Tups (K : PySem.W.Frag) (H : Hp) (us : List V) (t : List (List Nat)) : Prop := us.length = t.length ∧ ∀ (i : Nat) (r : List Nat), t[i]? = some r → ∃ b : Addr, us[i]? = some (V.ref b) ∧ SqT K H b (nts r)
def step (t : List (List Nat)) (x : Str) (q c : Nat) : Nat := (t.getD q []).getD (x.cps.toList.idxOf c) 0
/-- to which state a word leads -/
def goes (t : List (List Nat)) (x : Str) (q : Nat) (cs : List Nat) : Nat := cs.foldl (step t x) q
theorem step_lt {t : List (List Nat)} {x : Str} {n m : Nat} (h : IsTab t n m) (hm : x.cps.toList.length = m) {q c : Nat} (hq : q < n) (hc : c ∈ x.cps.toList) : step t x q c < n := by
  obtain ⟨h1, h2⟩ := h
  have hq' : q < t.length := by omega
  obtain ⟨l1, l2⟩ := h2 t[q] (List.getElem_mem hq')
  have hi : x.cps.toList.idxOf c < t[q].length := by
    rw [l1, ← hm]
    exact List.idxOf_lt_length_of_mem hc
  unfold step
  have e : t.getD q [] = t[q] := by simp [List.getD, List.getElem?_eq_getElem hq']
  rw [e]
  have e2 : t[q].getD (x.cps.toList.idxOf c) 0 = t[q][x.cps.toList.idxOf c] := by simp [List.getD, List.getElem?_eq_getElem hi]
  rw [e2]
  exact l2 _ (List.getElem_mem hi)
theorem goes_lt {t : List (List Nat)} {x : Str} {n m : Nat} (h : IsTab t n m) (hm : x.cps.toList.length = m) : ∀ (cs : List Nat) (q : Nat), q < n → (∀ c ∈ cs, c ∈ x.cps.toList) → goes t x q cs < n
  | [], _, hq, _ => hq
  | c :: cs, q, hq, hc => goes_lt h hm cs (step t x q c) (step_lt h hm hq (hc c List.mem_cons_self)) fun d hd => hc d (List.mem_cons_of_mem _ hd)
theorem occ1 : ∀ a ∈ six, Builtin.Str.occurrences ⟨#[a]⟩ ⟨#[a]⟩ 0 1 1 = [0] := by decide +kernel
theorem occ2 : ∀ a ∈ six, ∀ b ∈ six, a < b → Builtin.Str.occurrences ⟨#[a, b]⟩ ⟨#[a]⟩ 0 2 1 = [0] ∧ Builtin.Str.occurrences ⟨#[a, b]⟩ ⟨#[b]⟩ 0 2 1 = [1] := by decide +kernel
theorem set_occ {x : Str} {n c : Nat} (h : IsSet x n) (h2 : n ≤ 2) (hc : c ∈ x.cps.toList) : Builtin.Str.occurrences x ⟨#[c]⟩ 0 x.length 1 = [x.cps.toList.idxOf c] := by
  obtain ⟨cs, rfl, hl, hp, hm⟩ := h
  match cs, hl, hp, hm with
  | [], _, _, _ => cases hc
  | [a], _, _, hm =>
    have e : c = a := List.mem_singleton.mp hc
    subst e
    have ei : List.idxOf c [c] = 0 := by simp
    show Builtin.Str.occurrences ⟨#[c]⟩ ⟨#[c]⟩ 0 1 1 = [List.idxOf c [c]]
    rw [ei]
    exact occ1 c (hm c List.mem_cons_self)
  | [a, b], _, hp, hm =>
    have lt : a < b := by simpa using hp
    obtain ⟨o1, o2⟩ := occ2 a (hm a List.mem_cons_self) b (hm b (List.mem_cons_of_mem _ List.mem_cons_self)) lt
    rcases List.mem_cons.mp hc with e | e
    · subst e
      have ei : List.idxOf c [c, b] = 0 := by simp
      show Builtin.Str.occurrences ⟨#[c, b]⟩ ⟨#[c]⟩ 0 2 1 = [List.idxOf c [c, b]]
      rw [ei]
      exact o1
    · have e : c = b := List.mem_singleton.mp e
      subst e
      have ei : List.idxOf c [a, c] = 1 := by
        have nb : (a == c) = false := beq_eq_false_iff_ne.mpr (by omega)
        simp [List.idxOf_cons, nb]
      show Builtin.Str.occurrences ⟨#[a, c]⟩ ⟨#[c]⟩ 0 2 1 = [List.idxOf c [a, c]]
      rw [ei]
      exact o2
  | _ :: _ :: _ :: l, hl, _, _ =>
    have hl : l.length + 3 = n := hl
    omega
def spLawLed (K : PySem.W.Frag) : Sp := fun vs H Q _ => ∃ (a : Addr) (x y : Str) (q n m : Nat) (t : List (List Nat)) (us : List V), vs = [.ref a, .str x, .str y, .int q] ∧ SqL K H a us ∧ Tups K H us t ∧ IsTab t n m ∧ IsSet x m ∧ m ≤ 2 ∧ IsW x y ∧ q < n ∧
  Q (.int (goes t x q y.cps.toList : Nat)) H
def spLed (K : PySem.W.Frag) : Sp := fun vs H Q _ => ∃ (a : Addr) (x y : Str) (q n m : Nat) (t : List (List Nat)) (us : List V), vs = [.ref a, .str x, .int q, .str y] ∧ SqT K H a us ∧ Tups K H us t ∧ IsTab t n m ∧ IsSet x m ∧ m ≤ 2 ∧ IsW x y ∧ q < n ∧
  Q (.int (goes t x q y.cps.toList : Nat)) H
theorem goes_snoc {t : List (List Nat)} {x : Str} {q c : Nat} {cs : List Nat} : goes t x q (cs ++ [c]) = step t x (goes t x q cs) c := by
  unfold goes
  rw [List.foldl_append]
  rfl
section
variable {P : Program} {w : World} {K : PySem.W.Frag} {mg : Str → Option Value} {base : Heap}
theorem ok_lawled {f : Addr} {fd : FuncData} (F : Fun K "_law_led" "_law_led" sLawLed f fd) : FnOk P w K mg base CX0 1 f fd ["table", "letters", "word", "start"] (spLawLed K) := by
  refine F.ok scLawLed (fun vs H Q E h => ?_) (fun cdv A outer s H vs Q E hr h => ?_)
  · obtain ⟨a, x, y, q, n, m, t, us, rfl, _⟩ := h
    rfl
  · obtain ⟨a, x, y, q, n, m, t, us, rfl, ha, hT, tab, st, m2, hw, hq, k⟩ := h
    refine ⟨_, pss_cons (ps_set (i := 4) scLawLed.nd rfl (Or.inl rfl) (pv 3))
      (pss_cons (ps_for PassesOwn.never rfl (pi_str (pv 2)) (pg_name (i := 5) scLawLed.nd rfl (Or.inl rfl))
        (pss_one (ps_set (i := 4) scLawLed.nd rfl (Or.inl rfl) (pe_ix ix_tup (pe_ix ix_list (pv 0) (pv 4) (fun _ _ => rfl)) (pe_bm PySem.F.plainAttrs_str PySem.F.slot_str_index PySem.F.type_str_index mt_sindex (pv 1) (pa_cons (pv 5) pa_nil)) (fun _ _ => rfl)))))
      (pss_one (ps_ret (pv 4)))), ?_⟩
    have hm : x.cps.toList.length = m := by
      obtain ⟨cs, e, hl, _⟩ := st
      rw [e]
      simpa using hl
    refine ⟨_, rfl, _, rfl, y, rfl, for_it walk_str (fun i σ H' => H' = H ∧ ∃ l : Option V, σ = [some (.ref a), some (.str x), some (.str y), some (.int q), some (.int ((goes t x q (y.cps.toList.take i) : Nat) : Int)), l]) ⟨rfl, none, rfl⟩ (fun _ _ _ _ _ => trivial) ?_ ?_⟩
    · rintro i v σ H1 H2 hi ⟨rfl, l, rfl⟩ ⟨rfl, c, hc, rfl⟩
      have hc' : y.cps.toList[i]? = some c := by simpa using hc
      have cx : c ∈ x.cps.toList := hw c (List.mem_of_getElem? hc')
      have hq2 : goes t x q (y.cps.toList.take i) < n := goes_lt tab hm _ _ hq fun d hd => hw d (List.mem_of_mem_take hd)
      have eg : goes t x q (y.cps.toList.take (i + 1)) = step t x (goes t x q (y.cps.toList.take i)) c := by
        rw [take_snoc hc', goes_snoc]
      generalize goes t x q (y.cps.toList.take i) = p at hq2 eg ⊢
      have hp : p < t.length := by rw [tab.1]; exact hq2
      obtain ⟨b, b1, b2⟩ := hT.2 p t[p] (List.getElem?_eq_getElem hp)
      have hi2 : x.cps.toList.idxOf c < t[p].length := by
        rw [(tab.2 t[p] (List.getElem_mem hp)).1, ← hm]
        exact List.idxOf_lt_length_of_mem cx
      refine ⟨_, rfl, _, rfl, a, us, (p : Int), .ref b, rfl, rfl, ha, atI_nat b1, ?_⟩
      have es : step t x p c = t[p].getD (x.cps.toList.idxOf c) 0 := by
        unfold step
        have e : t.getD p [] = t[p] := by simp [List.getD, List.getElem?_eq_getElem hp]
        rw [e]
      rw [es] at eg
      refine ⟨_, rfl, rfl, _, rfl, x, ⟨#[c]⟩, x.cps.toList.idxOf c, [], rfl, rfl, set_occ st m2 cx, b, nts t[p], _, _, rfl, rfl, b2, nts_at hi2, ?_⟩
      rw [eg]
      exact ⟨rfl, some (.str ⟨#[c]⟩), rfl⟩
    · rintro σ H1 ⟨rfl, l, rfl⟩
      refine ⟨_, rfl, ?_⟩
      have et : y.cps.toList.take y.cps.size = y.cps.toList := List.take_of_length_le (by simp)
      rw [et]
      exact k
theorem ok_led {f : Addr} {fd : FuncData} (F : Fun K "led" "led" sLed f fd) : FnOk P w K mg base CX0 1 f fd ["table", "letters", "start", "word"] (spLed K) := by
  refine F.ok scLed (fun vs H Q E h => ?_) (fun cdv A outer s H vs Q E hr h => ?_)
  · obtain ⟨a, x, y, q, n, m, t, us, rfl, _⟩ := h
    rfl
  · obtain ⟨a, x, y, q, n, m, t, us, rfl, ha, hT, tab, st, m2, hw, hq, k⟩ := h
    refine ⟨_, pss_cons (ps_set (i := 4) scLed.nd rfl (Or.inl rfl) (pv 2))
      (pss_cons (ps_for PassesOwn.never rfl (pi_str (pv 3)) (pg_name (i := 5) scLed.nd rfl (Or.inl rfl))
        (pss_one (ps_set (i := 4) scLed.nd rfl (Or.inl rfl) (pe_ix ix_tup (pe_ix ix_tup (pv 0) (pv 4) (fun _ _ => rfl)) (pe_bm PySem.F.plainAttrs_str PySem.F.slot_str_index PySem.F.type_str_index mt_sindex (pv 1) (pa_cons (pv 5) pa_nil)) (fun _ _ => rfl)))))
      (pss_one (ps_ret (pv 4)))), ?_⟩
    have hm : x.cps.toList.length = m := by
      obtain ⟨cs, e, hl, _⟩ := st
      rw [e]
      simpa using hl
    refine ⟨_, rfl, _, rfl, y, rfl, for_it walk_str (fun i σ H' => H' = H ∧ ∃ l : Option V, σ = [some (.ref a), some (.str x), some (.int q), some (.str y), some (.int ((goes t x q (y.cps.toList.take i) : Nat) : Int)), l]) ⟨rfl, none, rfl⟩ (fun _ _ _ _ _ => trivial) ?_ ?_⟩
    · rintro i v σ H1 H2 hi ⟨rfl, l, rfl⟩ ⟨rfl, c, hc, rfl⟩
      have hc' : y.cps.toList[i]? = some c := by simpa using hc
      have cx : c ∈ x.cps.toList := hw c (List.mem_of_getElem? hc')
      have hq2 : goes t x q (y.cps.toList.take i) < n := goes_lt tab hm _ _ hq fun d hd => hw d (List.mem_of_mem_take hd)
      have eg : goes t x q (y.cps.toList.take (i + 1)) = step t x (goes t x q (y.cps.toList.take i)) c := by
        rw [take_snoc hc', goes_snoc]
      generalize goes t x q (y.cps.toList.take i) = p at hq2 eg ⊢
      have hp : p < t.length := by rw [tab.1]; exact hq2
      obtain ⟨b, b1, b2⟩ := hT.2 p t[p] (List.getElem?_eq_getElem hp)
      have hi2 : x.cps.toList.idxOf c < t[p].length := by
        rw [(tab.2 t[p] (List.getElem_mem hp)).1, ← hm]
        exact List.idxOf_lt_length_of_mem cx
      refine ⟨_, rfl, _, rfl, a, us, (p : Int), .ref b, rfl, rfl, ha, atI_nat b1, ?_⟩
      have es : step t x p c = t[p].getD (x.cps.toList.idxOf c) 0 := by
        unfold step
        have e : t.getD p [] = t[p] := by simp [List.getD, List.getElem?_eq_getElem hp]
        rw [e]
      rw [es] at eg
      refine ⟨_, rfl, rfl, _, rfl, x, ⟨#[c]⟩, x.cps.toList.idxOf c, [], rfl, rfl, set_occ st m2 cx, b, nts t[p], _, _, rfl, rfl, b2, nts_at hi2, ?_⟩
      rw [eg]
      exact ⟨rfl, some (.str ⟨#[c]⟩), rfl⟩
    · rintro σ H1 ⟨rfl, l, rfl⟩
      refine ⟨_, rfl, ?_⟩
      have et : y.cps.toList.take y.cps.size = y.cps.toList := List.take_of_length_le (by simp)
      rw [et]
      exact k
end
end M3

set_option Elab.async false
set_option linter.all false
set_option maxRecDepth 100000
set_option maxHeartbeats 8000000
/-! # Machines made -/
namespace M3
open PySem L2
abbrev sInit : Stmt := inClass (top 38) 0
abbrev nInit : List Str := ["self", "letters", "table", "ends"]
theorem scInit : FnScope nInit nInit (defScope sInit) := ⟨rfl, rfl, rfl, by decide +kernel, rfl, by decide +kernel, by decide +kernel⟩
/-- the attributes of a machine, in the order in which they are stored -/
def flds (x : Str) (a b : Addr) : List (Str × V) := putF "_ends" (.ref b) (putF "_table" (.ref a) (putF "_letters" (.str x) []))
/-- the class InvalidMachine, raised -/
structure TxE (K : PySem.W.Frag) (mg : Str → Option Value) (c : Addr) : Prop where
  x : PySem.W.excIn K c [.type "ValueError", .type "Exception", .type "BaseException", .type "object"] "ValueError.__new__" = true
  g : mg "InvalidMachine" = some (.ref c)
  k : PySem.W.keepIn K (.ref c) = true
  b : PySem.W.subIn K (.ref c) (.type "BaseException") = some true
  t : PySem.W.typeIn K (.ref c) = some (.type "type")
structure TxK (K : PySem.W.Frag) (mg : Str → Option Value) (C : Addr) : Prop where
  cl : Cls K C
  nL : NoAttr K C "_letters"
  nT : NoAttr K C "_table"
  nE : NoAttr K C "_ends"
  mS : ∃ t, mg "MAX_STATES" = some (.int 4 t)
theorem set_let1 : ∀ a ∈ six, isLet ⟨#[a]⟩ = true := by decide +kernel
theorem set_let2 : ∀ a ∈ six, ∀ b ∈ six, a < b → isLet ⟨#[a, b]⟩ = true := by decide +kernel
theorem set_let {x : Str} {n : Nat} (h : IsSet x n) (h1 : 1 ≤ n) (h2 : n ≤ 2) : isLet x = true := by
  obtain ⟨cs, rfl, hl, hp, hm⟩ := h
  match cs, hl, hp, hm with
  | [], hl, _, _ =>
    have hl : 0 = n := hl
    omega
  | [a], _, _, hm => exact set_let1 a (hm a List.mem_cons_self)
  | [a, b], _, hp, hm => exact set_let2 a (hm a List.mem_cons_self) b (hm b (List.mem_cons_of_mem _ List.mem_cons_self)) (by simpa using hp)
  | _ :: _ :: _ :: l, hl, _, _ =>
    have hl : l.length + 3 = n := hl
    omega
def asInt (t : List (List Nat)) : List (List Int) := t.map fun r => r.map Int.ofNat
theorem inside_nat {n i : Nat} (h : i < n) : inside n (Int.ofNat i) = true := by
  unfold inside
  have a : (0 : Int) ≤ Int.ofNat i := Int.natCast_nonneg i
  have b : Int.ofNat i ≤ (n : Int) - 1 := by
    show ((i : Nat) : Int) ≤ (n : Int) - 1
    omega
  rw [decide_eq_true a, decide_eq_true b]
  rfl
theorem tab_ok {t : List (List Nat)} {n m : Nat} (h : IsTab t n m) (h1 : 1 ≤ n) (h4 : n ≤ 4) : tabOk (asInt t) (m : Int) 4 = true := by
  obtain ⟨e, h⟩ := h
  have le : (asInt t).length = n := by
    unfold asInt
    rw [List.length_map, e]
  unfold tabOk
  rw [le, decide_eq_true (show (1 : Int) ≤ (n : Int) by omega), decide_eq_true (show (n : Int) ≤ 4 by omega)]
  have q : ((asInt t).all fun r => decide ((r.length : Int) = (m : Int)) && r.all (inside (n : Int))) = true := by
    rw [List.all_eq_true]
    intro r hr
    unfold asInt at hr
    obtain ⟨r0, hr0, rfl⟩ := List.mem_map.mp hr
    obtain ⟨l1, l2⟩ := h r0 hr0
    rw [List.length_map, l1, decide_eq_true rfl, Bool.true_and, List.all_eq_true]
    intro i hi
    obtain ⟨j, hj, rfl⟩ := List.mem_map.mp hi
    exact inside_nat (l2 j hj)
  rw [q]
  rfl
theorem climbs_up : ∀ es : List Nat, es.Pairwise (· < ·) → (climbs (es.map Int.ofNat)).all id = true
  | [], _ => rfl
  | [_], _ => rfl
  | a :: b :: l, h => by
    have h' := List.pairwise_cons.mp h
    have ih := climbs_up (b :: l) h'.2
    have lt : (a : Int) < (b : Int) := by
      have := h'.1 b List.mem_cons_self
      omega
    show (decide ((a : Int) < (b : Int)) && (climbs ((b :: l).map Int.ofNat)).all id) = true
    rw [decide_eq_true lt, ih]
    rfl
theorem choice_ok {es : List Nat} {n : Nat} (h : es.Pairwise (· < ·)) (hl : ∀ e ∈ es, e < n) : choiceOk (es.map Int.ofNat) (n : Int) = true := by
  unfold choiceOk
  rw [climbs_up es h, Bool.and_true, List.all_eq_true]
  intro i hi
  obtain ⟨j, hj, rfl⟩ := List.mem_map.mp hi
  exact inside_nat (hl j hj)
theorem tups_lines {K : PySem.W.Frag} {H : Hp} {us : List V} {t : List (List Nat)} {n m : Nat} (h : Tups K H us t) (tb : IsTab t n m) (hm : m ≤ 1000) : Lines K H us (asInt t) := by
  refine ⟨by unfold asInt; rw [List.length_map]; exact h.1, fun i r e => ?_⟩
  unfold asInt at e
  rw [List.getElem?_map] at e
  cases e0 : t[i]? with
  | none =>
    rw [e0] at e
    cases e
  | some r0 =>
    rw [e0] at e
    cases e
    obtain ⟨b, b1, b2⟩ := h.2 i r0 e0
    refine ⟨b, b1, by rw [← nts_eq']; exact b2, ?_⟩
    rw [List.length_map, (tb.2 r0 (List.mem_of_getElem? e0)).1]
    exact hm
end M3

set_option Elab.async false
set_option linter.all false
set_option maxRecDepth 100000
set_option maxHeartbeats 8000000
/-! # Machine.__init__ -/
namespace M3
open PySem L2
/-- the facts of the defs of tables -/
structure DefsT (K : PySem.W.Frag) (mg : Str → Option Value) where
  (fL fT fN fC : Addr)
  (dL dT dN dC : FuncData)
  L : Fun K "is_letters" "is_letters" sIsLetters fL dL
  bL : Binds K dL ["value"] []
  mL : mg "is_letters" = some (.ref fL)
  T : Fun K "is_table" "is_table" sIsTable fT dT
  bT : Binds K dT ["value", "width", "most"] []
  mT : mg "is_table" = some (.ref fT)
  N : Fun K "is_line" "is_line" sIsLine fN dN
  bN : Binds K dN ["value", "width", "size"] []
  mN : mg "is_line" = some (.ref fN)
  C : Fun K "is_choice" "is_choice" sIsChoice fC dC
  bC : Binds K dC ["value", "size"] []
  mC : mg "is_choice" = some (.ref fC)
def spInit (K : PySem.W.Frag) (C : Addr) : Sp := fun vs H Q _ => ∃ (p dx a b : Addr) (x : Str) (us : List V) (t : List (List Nat)) (es : List Nat) (n m : Nat), vs = [.ref p, .str x, .ref a, .ref b] ∧ H p = some (.ins C dx []) ∧
  IsSet x m ∧ 1 ≤ m ∧ m ≤ 2 ∧ SqT K H a us ∧ Tups K H us t ∧ IsTab t n m ∧ 1 ≤ n ∧ n ≤ 4 ∧ SqT K H b (nts es) ∧ es.Pairwise (· < ·) ∧ (∀ e ∈ es, e < n) ∧
  ∀ H' : Hp, H' p = some (.ins C dx (flds x a b)) → (∀ c o, c ≠ p → H c = some o → H' c = some o) → Q .non H'
section
variable {P : Program} {w : World} {K : PySem.W.Frag} {mg : Str → Option Value} {base : Heap}
theorem kit_str : PySem.W.kitOne K (.type "str") (.type "str") = some true := kit_ty (by decide +kernel)
theorem set_len {x : Str} {m : Nat} (h : IsSet x m) : x.length = m := by
  obtain ⟨cs, rfl, hl, _⟩ := h
  simpa [Str.length] using hl
theorem asc_len {es : List Nat} : ∀ {n : Nat}, es.Pairwise (· < ·) → (∀ e ∈ es, e < n) → es.length ≤ n := by
  induction es with
  | nil => intro n _ _; exact Nat.zero_le _
  | cons a l ih =>
    intro n hp hl
    have hp' := List.pairwise_cons.mp hp
    have ha := hl a List.mem_cons_self
    have hm : ∀ (k : Nat) (l : List Nat), l.Pairwise (· < ·) → (∀ e ∈ l, k < e) → (∀ e ∈ l, e < n) → k < n → l.length + k + 1 ≤ n := by
      intro k l
      induction l generalizing k with
      | nil => intro _ _ _ h; simp; omega
      | cons b l ih2 =>
        intro q1 q2 q3 q4
        have q1' := List.pairwise_cons.mp q1
        have := ih2 b q1'.2 q1'.1 (fun e he => q3 e (List.mem_cons_of_mem _ he)) (q3 b List.mem_cons_self)
        have kb := q2 b List.mem_cons_self
        simp
        omega
    have := hm a l hp'.2 hp'.1 (fun e he => hl e (List.mem_cons_of_mem _ he)) ha
    simp
    omega
theorem ok_init {f C c : Addr} {fd : FuncData} (F : C8.Fun K "__init__" "Machine.__init__" sInit f fd) (D : DefsT K mg) (DW : DefsW K mg) (W : TxW mg) (Zx : TxZ mg) (TE : TxE K mg c) (TK : TxK K mg C) : FnOk P w K mg base CX0 4 f fd nInit (spInit K C) := by
  have GL : FnOk P w K mg base CX0 3 D.fL D.dL ["value"] (spIsLetters K) := ok_isletters D.L DW W Zx
  have GT : FnOk P w K mg base CX0 3 D.fT D.dT ["value", "width", "most"] (spIsTable K) := ok_istable D.T D.N D.bN D.mN DW W Zx
  have GC : FnOk P w K mg base CX0 2 D.fC D.dC ["value", "size"] (spIsChoice K) := ok_ischoice D.C DW W Zx
  obtain ⟨ts, ms⟩ := TK.mS
  refine C8.fn0 F scInit (fun vs H Q E h => ?_) (fun cdv A outer s H vs Q E hr h => ?_)
  · obtain ⟨p, dx, a, b, x, us, t, es, n, m, rfl, _⟩ := h
    rfl
  · obtain ⟨p, dx, a, b, x, us, t, es, n, m, rfl, hp, hx, m1, m2, ha, hT, tb, n1, n4, hb, up, lt, k⟩ := h
    have hr2 : Room 2 _ := hr.mono (by decide)
    refine ⟨_, pss_cons (ps_if (pt_not (pt_val (pe_call GL hr rfl D.mL D.L.kp D.bL .nil pass0 (pa_cons (pv 1) pa_nil)))) (pss_one (ps_raise rfl takes0 (pmk_own PySem.F.excBase_ValueError TE.x TE.g TE.k (raises_own TE.b TE.t) rfl))) pss_nil)
      (pss_cons (ps_if (pt_not (pt_val (pe_call GT hr rfl D.mT D.T.kp D.bT .nil pass0 (pa_cons (pv 2) (pa_cons (pe_callB call_len_str (by rfl) Zx.len PySem.boot_len (pa_cons (pv 1) pa_nil)) (pa_cons (pe_glob (v := .int 4) rfl ms ⟨_, rfl⟩) pa_nil)))))) (pss_one (ps_raise rfl takes0 (pmk_own PySem.F.excBase_ValueError TE.x TE.g TE.k (raises_own TE.b TE.t) rfl))) pss_nil)
      (pss_cons (ps_if (pt_not (pt_val (pe_call GC hr2 rfl D.mC D.C.kp D.bC .nil pass0 (pa_cons (pv 3) (pa_cons (pe_callB call_len_seq (by rfl) Zx.len PySem.boot_len (pa_cons (pv 2) pa_nil)) pa_nil))))) (pss_one (ps_raise rfl takes0 (pmk_own PySem.F.excBase_ValueError TE.x TE.g TE.k (raises_own TE.b TE.t) rfl))) pss_nil)
      (pss_cons (ps_fld (pv 0) (pv 1) rfl) (pss_cons (ps_fld (pv 0) (pv 2) rfl) (pss_one (ps_fld (pv 0) (pv 3) rfl)))))), ?_⟩
    have lx := set_len hx
    refine ⟨_, rfl, .str x, .type "str", true, rfl, .base (.str x), kit_str, (fun z => by cases z), fun _ => ⟨x, rfl, by omega, fun H1 s1 => ⟨_, rfl, ?_⟩⟩⟩
    rw [set_let hx m1 m2]
    refine iteF ?_
    refine ⟨_, rfl, _, rfl, x, rfl, Nat.le_trans (show x.length ≤ 2 by omega) (by decide), a, us, asInt t, (x.length : Int), 4, rfl, sqt_same s1 ha, (tups_lines hT tb (by omega)).same s1, ?_, fun H2 s2 => ⟨_, rfl, ?_⟩⟩
    · unfold asInt
      rw [List.length_map, tb.1]
      omega
    rw [lx, tab_ok tb n1 n4]
    refine iteF ?_
    have s12 := s1.trans s2
    have lu : us.length = n := by rw [hT.1, tb.1]
    refine ⟨_, rfl, _, rfl, a, us, rfl, .inr (sqt_same s12 ha), b, es.map Int.ofNat, (us.length : Int), rfl, by rw [← nts_eq']; exact sqt_same s12 hb, ?_, fun H3 s3 => ⟨_, rfl, ?_⟩⟩
    · rw [List.length_map]
      have := asc_len up lt
      omega
    rw [lu, choice_ok up lt]
    refine iteF ?_
    have s13 := s12.trans s3
    have hp3 := s13 _ _ hp
    refine ⟨_, rfl, _, rfl, p, C, dx, [], rfl, hp3, TK.cl, TK.nL, (by show 0 < 1000; decide), ?_⟩
    refine ⟨_, rfl, _, rfl, p, C, dx, _, rfl, upd_same, TK.cl, TK.nT, (by show 1 < 1000; decide), ?_⟩
    refine ⟨_, rfl, _, rfl, p, C, dx, _, rfl, upd_same, TK.cl, TK.nE, (by show 2 < 1000; decide), ?_⟩
    refine k _ upd_same fun c' o hc h => ?_
    rw [upd_ne hc, upd_ne hc, upd_ne hc]
    exact s13 _ _ h
end
end M3

set_option Elab.async false
set_option linter.all false
set_option maxRecDepth 100000
set_option maxHeartbeats 8000000
/-! # A plain machine made one -/
namespace M3
open PySem L2
abbrev sMade : Stmt := top 54
theorem scMade : FnScope ["plain"] ["plain"] (defScope sMade) := ⟨rfl, rfl, rfl, by decide +kernel, rfl, by decide +kernel, by decide +kernel⟩
/-- a machine stands at p: letters x, table t, ends es -/
structure Mach (K : PySem.W.Frag) (C : Addr) (H : Hp) (p : Addr) (x : Str) (t : List (List Nat)) (es : List Nat) : Prop where
  ex : ∃ (dx a b : Addr) (us : List V), H p = some (.ins C dx (flds x a b)) ∧ SqT K H a us ∧ Tups K H us t ∧ SqT K H b (nts es)
/-- tuples that stand as such -/
theorem tups_of {K : PySem.W.Frag} {d C : Addr} {H : Hp} {us : List V} {t : List (List Nat)} (h : RowsT d C H us t) : Tups K H us t := ⟨h.1, fun i r e => by
  obtain ⟨b, b1, _, _, b4⟩ := h.2 i r e
  exact ⟨b, b1, SqT.of b4⟩⟩
theorem Tups.same {K : PySem.W.Frag} {H H' : Hp} {us : List V} {t : List (List Nat)} (h : Tups K H us t) (s : Same H H') : Tups K H' us t := ⟨h.1, fun i r e => by
  obtain ⟨b, b1, b2⟩ := h.2 i r e
  exact ⟨b, b1, sqt_same s b2⟩⟩
theorem Mach.same {K : PySem.W.Frag} {C p : Addr} {H H' : Hp} {x : Str} {t : List (List Nat)} {es : List Nat} (h : Mach K C H p x t es) (s : Same H H') : Mach K C H' p x t es := by
  obtain ⟨dx, a, b, us, h1, h2, h3, h4⟩ := h
  exact ⟨dx, a, b, us, s _ _ h1, sqt_same s h2, h3.same s, sqt_same s h4⟩
abbrev plainK (x : V) (a b : V) : List (Key × V) := [(.inr "letters", x), (.inr "table", a), (.inr "ends", b)]
theorem plain_l {x a b : V} : valV (plainK x a b) (.inr "letters") = some x := by rfl
theorem plain_t {x a b : V} : valV (plainK x a b) (.inr "table") = some a := by rfl
theorem plain_e {x a b : V} : valV (plainK x a b) (.inr "ends") = some b := by rfl
theorem get_l {H : Hp} {p : Addr} {x a b : V} (h : H p = some (.dK (plainK x a b))) : DGet H p (.str "letters") (some x) := by
  have g := DGet.k (k := .inr "letters") h
  rw [plain_l] at g
  exact g
theorem get_t {H : Hp} {p : Addr} {x a b : V} (h : H p = some (.dK (plainK x a b))) : DGet H p (.str "table") (some a) := by
  have g := DGet.k (k := .inr "table") h
  rw [plain_t] at g
  exact g
theorem get_e {H : Hp} {p : Addr} {x a b : V} (h : H p = some (.dK (plainK x a b))) : DGet H p (.str "ends") (some b) := by
  have g := DGet.k (k := .inr "ends") h
  rw [plain_e] at g
  exact g
def spMade (K : PySem.W.Frag) (C : Addr) : Sp := fun vs H Q _ => ∃ (p d : Addr) (x : Str) (t : List (List Nat)) (es : List Nat) (m : Nat), vs = [.ref p] ∧ Plain d H p x t es ∧ IsSet x m ∧ 1 ≤ m ∧ m ≤ 2 ∧ 1 ≤ t.length ∧ t.length ≤ 4 ∧
  ∀ (q : Addr) (H' : Hp), H q = none → Mach K C H' q x t es → Same H H' → Q (.ref q) H'
section
variable {P : Program} {w : World} {K : PySem.W.Frag} {mg : Str → Option Value} {base : Heap}
theorem ok_made {f g C c : Addr} {fd gd : FuncData} (F : Fun K "_law_made_machine" "_law_made_machine" sMade f fd) (G : C8.Fun K "__init__" "Machine.__init__" sInit g gd) (bG : Binds K gd nInit []) (MK : Mk K C g) (mC : mg "Machine" = some (.ref C)) (D : DefsT K mg) (DW : DefsW K mg) (W : TxW mg) (Zx : TxZ mg) (M : TxM mg) (TE : TxE K mg c) (TK : TxK K mg C) :
    FnOk P w K mg base CX0 6 f fd ["plain"] (spMade K C) := by
  have GI : FnOk P w K mg base CX0 4 g gd nInit (spInit K C) := ok_init G D DW W Zx TE TK
  refine F.ok scMade (fun vs H Q E h => ?_) (fun cdv A outer s H vs Q E hr h => ?_)
  · obtain ⟨p, d, x, t, es, m, rfl, _⟩ := h
    rfl
  · obtain ⟨p, d, x, t, es, m, rfl, ⟨⟨a, b, us, hp, ad, ha, R, bd, hb⟩, tb, up, lt⟩, hx, m1, m2, t1, t4, k⟩ := h
    have hu := hu_of hr
    refine ⟨_, pss_one (ps_ret (pe_make MK GI (hr.mono (by decide)) rfl mC bG .nil pass0 (pa_cons (pe_dget hu (pv 0) pe_str (fun _ _ => rfl)) (pa_cons (pe_callTy call_tuple_of (by rfl) M.tuple (by decide +kernel) (pa_cons (pe_dget hu (pv 0) pe_str (fun _ _ => rfl)) pa_nil)) (pa_cons (pe_callTy call_tuple_of (by rfl) M.tuple (by decide +kernel) (pa_cons (pe_dget hu (pv 0) pe_str (fun _ _ => rfl)) pa_nil)) pa_nil))))), ?_⟩
    refine ⟨_, rfl, p, _, rfl, get_l hp, _, rfl, p, _, rfl, get_t hp, a, us, rfl, .inl ⟨SqL.of ha, fun l1 n1 => ?_⟩⟩
    refine ⟨_, rfl, p, _, rfl, get_e (keep_new hp n1), b, nts es, rfl, .inl ⟨SqL.of (keep_new hb n1), fun l2 n2 => ?_⟩⟩
    have s2 : Same H (upd (upd H l1 (.tup us)) l2 (.tup (nts es))) := Same.new (Same.new (Same.refl H) n1) n2
    have f1 : (upd (upd H l1 (.tup us)) l2 (.tup (nts es))) l1 = some (.tup us) := keep_new upd_same n2
    have f2 : (upd (upd H l1 (.tup us)) l2 (.tup (nts es))) l2 = some (.tup (nts es)) := upd_same
    generalize upd (upd H l1 (.tup us)) l2 (.tup (nts es)) = H2 at s2 f1 f2 ⊢
    intro q dx nq ndx nex
    have s3 : Same H2 (upd (upd H2 dx (.own q)) q (.ins C dx [])) := Same.new (Same.new (Same.refl H2) ndx) (by rw [upd_ne (Ne.symm nex)]; exact nq)
    have T2 : Tups K H us t := tups_of R
    refine ⟨q, dx, l1, l2, x, us, t, es, t.length, m, rfl, upd_same, hx, m1, m2, SqT.of (s3 _ _ f1), (T2.same s2).same s3, ?_, t1, t4, SqT.of (s3 _ _ f2), up, lt, fun H' hq kp => ⟨rfl, ?_⟩⟩
    · rw [set_len hx] at tb
      exact tb
    · have s4 : Same H2 H' := fun c' o h => kp c' o (fun z => by rw [z, nq] at h; cases h) (s3 _ _ h)
      have hqH : H q = none := by
        cases e : H q with
        | none => rfl
        | some o =>
          have := s2 _ _ e
          rw [nq] at this
          cases this
      exact k q H' hqH ⟨dx, l1, l2, us, hq, SqT.of (s4 _ _ f1), (T2.same s2).same s4, SqT.of (s4 _ _ f2)⟩ (s2.trans s4)
end
end M3

set_option Elab.async false
set_option linter.all false
set_option maxRecDepth 100000
set_option maxHeartbeats 8000000
/-! # Numbers in lists -/
namespace M3
open PySem L2
theorem inV_nts (q : Nat) : ∀ es : List Nat, inV (.int q) (nts es) = decide (q ∈ es)
  | [] => by rfl
  | e :: es => by
    have ih := inV_nts q es
    show (((e : Int) == (q : Int)) || inV (.int q) (nts es)) = decide (q ∈ e :: es)
    rw [ih]
    by_cases h : q = e
    · subst h
      simp
    · have a : ((e : Int) == (q : Int)) = false := beq_eq_false_iff_ne.mpr (by omega)
      rw [a, Bool.false_or]
      by_cases hm : q ∈ es
      · rw [decide_eq_true hm, decide_eq_true (List.mem_cons_of_mem _ hm)]
      · rw [decide_eq_false hm, decide_eq_false (fun z => by
          rcases List.mem_cons.mp z with z | z
          · exact h z
          · exact hm z)]
theorem flat_nts : ∀ es : List Nat, (nts es).all flatV = true
  | [] => by rfl
  | _ :: es => by
    have ih := flat_nts es
    show (true && (nts es).all flatV) = true
    rw [ih]
    rfl
end M3

set_option Elab.async false
set_option linter.all false
set_option maxRecDepth 100000
set_option maxHeartbeats 8000000
/-! # Is a word one of a plain machine -/
namespace M3
open PySem L2
abbrev sHas : Stmt := top 56
theorem scHas : FnScope ["plain", "word"] ["plain", "word"] (defScope sHas) := ⟨rfl, rfl, rfl, by decide +kernel, rfl, by decide +kernel, by decide +kernel⟩
def spHas (K : PySem.W.Frag) : Sp := fun vs H Q _ => ∃ (p d : Addr) (x y : Str) (t : List (List Nat)) (es : List Nat) (m : Nat), vs = [.ref p, .str y] ∧ Plain d H p x t es ∧ IsSet x m ∧ m ≤ 2 ∧ 1 ≤ t.length ∧ IsW x y ∧ Q (.bl (decide (goes t x 0 y.cps.toList ∈ es))) H
section
variable {P : Program} {w : World} {K : PySem.W.Frag} {mg : Str → Option Value} {base : Heap}
theorem ok_has {f g : Addr} {fd gd : FuncData} (F : Fun K "_law_has" "_law_has" sHas f fd) (G : Fun K "_law_led" "_law_led" sLawLed g gd) (bG : Binds K gd ["table", "letters", "word", "start"] []) (mG : mg "_law_led" = some (.ref g)) : FnOk P w K mg base CX0 2 f fd ["plain", "word"] (spHas K) := by
  have GL : FnOk P w K mg base CX0 1 g gd ["table", "letters", "word", "start"] (spLawLed K) := ok_lawled G
  refine F.ok scHas (fun vs H Q E h => ?_) (fun cdv A outer s H vs Q E hr h => ?_)
  · obtain ⟨p, d, x, y, t, es, m, rfl, _⟩ := h
    rfl
  · obtain ⟨p, d, x, y, t, es, m, rfl, ⟨⟨a, b, us, hp, ad, ha, R, bd, hb⟩, tb, up, lt⟩, hx, m2, t1, hw, k⟩ := h
    have hu := hu_of hr
    refine ⟨_, pss_one (ps_ret (pe_cmpR op_in_seq (pe_call GL hr rfl mG G.kp bG .nil pass0 (pa_cons (pe_dget hu (pv 0) pe_str (fun _ _ => rfl)) (pa_cons (pe_dget hu (pv 0) pe_str (fun _ _ => rfl)) (pa_cons (pv 1) (pa_cons pe_int pa_nil))))) (pe_dget hu (pv 0) pe_str (fun _ _ => rfl)) (by rfl))), ?_⟩
    rw [set_len hx] at tb
    refine ⟨_, rfl, p, _, rfl, get_t hp, _, rfl, p, _, rfl, get_l hp, _, rfl, a, x, y, 0, t.length, m, t, us, rfl, SqL.of ha, tups_of R, tb, hx, m2, hw, t1, ?_⟩
    refine ⟨_, rfl, p, _, rfl, get_e hp, b, nts es, rfl, .inl (SqL.of hb), rfl, flat_nts es, ?_⟩
    rw [inV_nts]
    exact k
end
end M3

set_option Elab.async false
set_option linter.all false
set_option maxRecDepth 100000
set_option maxHeartbeats 8000000
/-! # Words repeated -/
namespace M3
open PySem L2
/-- the state behind k turns of the word -/
def iter (t : List (List Nat)) (x y : Str) : Nat → Nat
  | 0 => 0
  | k + 1 => goes t x (iter t x y k) y.cps.toList
theorem iter_lt {t : List (List Nat)} {x y : Str} {m : Nat} (tb : IsTab t t.length m) (hm : x.cps.toList.length = m) (t1 : 1 ≤ t.length) (hw : IsW x y) : ∀ k, iter t x y k < t.length
  | 0 => t1
  | k + 1 => goes_lt tb hm _ _ (iter_lt tb hm t1 hw k) hw
theorem iter_shift {t : List (List Nat)} {x y : Str} {i c : Nat} (h : iter t x y (i + c) = iter t x y i) : ∀ k, i ≤ k → iter t x y (k + c) = iter t x y k := by
  intro k hk
  obtain ⟨r, rfl⟩ := Nat.exists_eq_add_of_le hk
  induction r with
  | zero => exact h
  | succ r ih =>
    have e : i + (r + 1) + c = (i + r + c) + 1 := by omega
    rw [e]
    show goes t x (iter t x y (i + r + c)) y.cps.toList = goes t x (iter t x y (i + r)) y.cps.toList
    rw [ih (by omega)]
theorem iter_times {t : List (List Nat)} {x y : Str} {i c : Nat} (h : ∀ k, i ≤ k → iter t x y (k + c) = iter t x y k) : ∀ r k, i ≤ k → iter t x y (k + c * r) = iter t x y k
  | 0, k, _ => rfl
  | r + 1, k, hk => by
    have e : k + c * (r + 1) = (k + c * r) + c := by rw [Nat.mul_succ]; omega
    rw [e, h _ (by omega)]
    exact iter_times h r k hk
theorem pigeon {f : Nat → Nat} (h : ∀ k, f k < 4) : ∃ i j, i < j ∧ j ≤ 4 ∧ f i = f j := by
  have h0 := h 0
  have h1 := h 1
  have h2 := h 2
  have h3 := h 3
  have h4 := h 4
  by_cases a1 : f 0 = f 1
  · exact ⟨0, 1, by omega, by omega, a1⟩
  by_cases a2 : f 0 = f 2
  · exact ⟨0, 2, by omega, by omega, a2⟩
  by_cases a3 : f 0 = f 3
  · exact ⟨0, 3, by omega, by omega, a3⟩
  by_cases a4 : f 0 = f 4
  · exact ⟨0, 4, by omega, by omega, a4⟩
  by_cases b2 : f 1 = f 2
  · exact ⟨1, 2, by omega, by omega, b2⟩
  by_cases b3 : f 1 = f 3
  · exact ⟨1, 3, by omega, by omega, b3⟩
  by_cases b4 : f 1 = f 4
  · exact ⟨1, 4, by omega, by omega, b4⟩
  by_cases c3 : f 2 = f 3
  · exact ⟨2, 3, by omega, by omega, c3⟩
  by_cases c4 : f 2 = f 4
  · exact ⟨2, 4, by omega, by omega, c4⟩
  by_cases d4 : f 3 = f 4
  · exact ⟨3, 4, by omega, by omega, d4⟩
  omega
/-- behind six turns the states come again after twelve -/
theorem iter_12 {t : List (List Nat)} {x y : Str} (h : ∀ k, iter t x y k < 4) : ∀ k, 6 ≤ k → iter t x y (k + 12) = iter t x y k := by
  obtain ⟨i, j, ij, j4, e⟩ := pigeon h
  have e' : iter t x y (i + (j - i)) = iter t x y i := by
    have z : i + (j - i) = j := by omega
    rw [z, e]
  have s := iter_times (iter_shift e')
  intro k hk
  have c : ∃ r, 12 = (j - i) * r := by
    have : j - i = 1 ∨ j - i = 2 ∨ j - i = 3 ∨ j - i = 4 := by omega
    rcases this with q | q | q | q
    · exact ⟨12, by omega⟩
    · exact ⟨6, by omega⟩
    · exact ⟨4, by omega⟩
    · exact ⟨3, by omega⟩
  obtain ⟨r, hr⟩ := c
  have q := s r k (by omega)
  rw [← hr] at q
  exact q
theorem iter_mod {t : List (List Nat)} {x y : Str} (h : ∀ k, iter t x y k < 4) (k : Nat) (hk : 6 ≤ k) : iter t x y (6 + (k - 6) % 12) = iter t x y k := by
  have q := iter_times (i := 6) (c := 12) (iter_12 h) ((k - 6) / 12) (6 + (k - 6) % 12) (by omega)
  have e : 6 + (k - 6) % 12 + 12 * ((k - 6) / 12) = k := by omega
  rw [e] at q
  exact q.symm
def iters (t : List (List Nat)) (x y : Str) (n : Nat) : List Nat := (List.range n).map (iter t x y)
theorem iters_at {t : List (List Nat)} {x y : Str} {n k : Nat} (h : k < n) : atI (nts (iters t x y n)) (k : Int) = some (.int ((iter t x y k : Nat) : Int)) := by
  refine atI_nat ?_
  unfold nts iters
  rw [List.map_map, List.getElem?_map, List.getElem?_range h]
  rfl
theorem iters_last {t : List (List Nat)} {x y : Str} {n : Nat} : atI (nts (iters t x y (n + 1))) (-1) = some (.int ((iter t x y n : Nat) : Int)) := by
  have l : (nts (iters t x y (n + 1))).length = n + 1 := by
    rw [nts_length]
    unfold iters
    rw [List.length_map, List.length_range]
  have q := iters_at (t := t) (x := x) (y := y) (n := n + 1) (k := n) (by omega)
  unfold atI at q ⊢
  rw [l] at q ⊢
  have e1 : ixN (n + 1) (-1) = some n := by
    unfold ixN
    rw [if_neg (by omega), if_pos (by omega)]
    congr 1
    omega
  have e2 : ixN (n + 1) (n : Int) = some n := ixNat (by omega)
  rw [e2] at q
  rw [e1]
  exact q
end M3

set_option Elab.async false
set_option linter.all false
set_option maxRecDepth 100000
set_option maxHeartbeats 8000000
/-! # _law_repeated -/
namespace M3
open PySem L2
abbrev sRep : Stmt := top 58
abbrev nRep : List Str := ["plain", "word", "times", "states", "turn"]
theorem scRep : FnScope nRep ["plain", "word", "times"] (defScope sRep) := ⟨rfl, rfl, rfl, by decide +kernel, rfl, by decide +kernel, by decide +kernel⟩
def spRep : Sp := fun vs H Q _ => ∃ (p d : Addr) (x y : Str) (t : List (List Nat)) (es : List Nat) (m k : Nat), vs = [.ref p, .str y, .int k] ∧ Plain d H p x t es ∧ IsSet x m ∧ m ≤ 2 ∧ 1 ≤ t.length ∧ t.length ≤ 4 ∧ IsW x y ∧
  ∀ H' : Hp, Same H H' → Q (.int ((iter t x y k : Nat) : Int)) H'
section
variable {P : Program} {w : World} {K : PySem.W.Frag} {mg : Str → Option Value} {base : Heap}
theorem ok_rep {f g : Addr} {fd gd : FuncData} (F : Fun K "_law_repeated" "_law_repeated" sRep f fd) (G : Fun K "_law_led" "_law_led" sLawLed g gd) (bG : Binds K gd ["table", "letters", "word", "start"] []) (mG : mg "_law_led" = some (.ref g)) (T : TxI mg) (M : TxM mg) : FnOk P w K mg base CX0 2 f fd ["plain", "word", "times"] spRep := by
  have GL : FnOk P w K mg base CX0 1 g gd ["table", "letters", "word", "start"] (spLawLed K) := ok_lawled G
  refine F.ok scRep (fun vs H Q E h => ?_) (fun cdv A outer s H vs Q E hr h => ?_)
  · obtain ⟨p, d, x, y, t, es, m, k, rfl, _⟩ := h
    rfl
  · obtain ⟨p, d, x, y, t, es, m, n, rfl, ⟨⟨a, b, us, hp, ad, ha, R, bd, hb⟩, tb, up, lt⟩, hx, m2, t1, t4, hw, k⟩ := h
    have hu := hu_of hr
    rw [set_len hx] at tb
    have hm : x.cps.toList.length = m := by
      have := set_len hx
      simpa [Str.length] using this
    have il := iter_lt tb hm t1 hw
    refine ⟨_, pss_cons (ps_set (i := 3) scRep.nd rfl (Or.inl rfl) (pe_lst (pa_cons pe_int pa_nil)))
      (pss_cons (ps_for PassesOwn.never rfl (pi_range1 rfl M.range (pa_cons pe_int pa_nil)) (pg_name (i := 4) scRep.nd rfl (Or.inl rfl))
        (pss_one (ps_expr (pe_bm PySem.F.plainAttrs_list PySem.F.slot_list_append PySem.F.type_list_append mt_append (pv 3) (pa_cons (pe_call GL hr rfl mG G.kp bG .nil pass0 (pa_cons (pe_dget hu (pv 0) pe_str (fun _ _ => rfl)) (pa_cons (pe_dget hu (pv 0) pe_str (fun _ _ => rfl)) (pa_cons (pv 1) (pa_cons (pe_ix ix_list (pv 3) (pe_un un_neg pe_int) (fun _ _ => rfl)) pa_nil))))) pa_nil)))))
      (pss_one (ps_ret (pe_ifExp (pt_cmpR op_lt (pv 2) pe_int (nomark _)) (pe_ix ix_list (pv 3) (pv 2) (fun _ _ => rfl)) (pe_ix ix_list (pv 3) (pe_op op_add pe_int (pe_op op_mod (pe_callTy call_int1 (by rfl) T.int (by decide +kernel) (pa_cons (pe_op op_sub (pv 2) pe_int) pa_nil)) pe_int)) (fun _ _ => rfl)))))), ?_⟩
    refine ⟨(by show 1 ≤ sizeLine; decide), fun l nl => ?_⟩
    have s0 : Same H (upd H l (.lst [.int 0])) := Same.new (Same.refl H) nl
    have lne : ∀ {b : Addr} {o : HO}, H b = some o → b ≠ l := fun h z => by
      rw [z, nl] at h
      cases h
    refine ⟨30, rfl, by decide, by decide, for_range (lo := 0) (n := 30) (fun i σ H' => (∃ v : Option V, σ = [some (.ref p), some (.str y), some (.int n), some (.ref l), v]) ∧ H' l = some (.lst (nts (iters t x y (i + 1)))) ∧ Same H H') ⟨⟨none, rfl⟩, upd_same, s0⟩ ?_ ?_⟩
    · rintro i σ H1 hi ⟨⟨v, rfl⟩, h1, s1⟩
      refine ⟨_, rfl, .inl ⟨rfl, _, SqL.of h1⟩, _, rfl, p, _, rfl, get_t (s1 _ _ hp), _, rfl, p, _, rfl, get_l (s1 _ _ hp), _, rfl, ?_⟩
      refine ⟨_, rfl, _, rfl, l, _, -1, _, rfl, rfl, SqL.of h1, iters_last, a, x, y, iter t x y i, t.length, m, t, us, rfl, SqL.of (s1 _ _ ha), (tups_of R).same s1, tb, hx, m2, hw, il i, ?_⟩
      have en : nts (iters t x y (i + 1)) ++ [V.int ((goes t x (iter t x y i) y.cps.toList : Nat) : Int)] = nts (iters t x y (i + 1 + 1)) := by
        unfold nts iters
        rw [List.range_succ (n := i + 1), List.map_append, List.map_append]
        rfl
      refine ⟨l, _, _, rfl, rfl, h1, ?_, ⟨_, rfl⟩, ?_, fun b' o h => ?_⟩
      · rw [nts_length]
        unfold iters
        rw [List.length_map, List.length_range]
        exact Nat.lt_of_le_of_lt (show i + 1 ≤ 30 by omega) (by decide)
      · rw [upd_same, en]
      · rw [upd_ne (lne h)]
        exact s1 _ _ h
    · rintro σ H1 ⟨⟨v, rfl⟩, h1, s1⟩
      refine ⟨_, rfl, _, _, rfl, rfl, _, rfl, ?_⟩
      refine ite2 (fun h => ?_) (fun h => ?_)
      · have h : (n : Int) < 30 := of_decide_eq_true h
        exact ⟨_, rfl, _, rfl, l, _, _, _, rfl, rfl, SqL.of h1, iters_at (by omega), k H1 s1⟩
      · have h : ¬ (n : Int) < 30 := fun z => h (decide_eq_true z)
        have e : (6 : Int) + ((n : Int) - 6) % 12 = ((6 + (n - 6) % 12 : Nat) : Int) := by omega
        refine ⟨_, rfl, _, rfl, _, _, rfl, rfl, .inl ⟨_, rfl, _, _, rfl, rfl, (by show (0 : Int) < 12; decide), _, _, rfl, rfl, l, _, ((6 + (n - 6) % 12 : Nat) : Int), _, rfl, congrArg V.int e, SqL.of h1, iters_at (by omega), ?_⟩⟩
        have e4 : ∀ k, iter t x y k < 4 := fun k => Nat.lt_of_lt_of_le (il k) t4
        rw [iter_mod e4 n (by omega)]
        exact k H1 s1
end
end M3

set_option Elab.async false
set_option linter.all false
set_option maxRecDepth 100000
set_option maxHeartbeats 8000000
/-! # led_often: the states of a repeated word, until one comes again -/
namespace M3
open PySem L2
abbrev sOften : Stmt := top 24
abbrev nOften : List Str := ["table", "letters", "start", "word", "times", "trail", "first_at", "goal", "back"]
theorem scOften : FnScope nOften ["table", "letters", "start", "word", "times"] (defScope sOften) := ⟨rfl, rfl, rfl, by decide +kernel, rfl, by decide +kernel, by decide +kernel⟩
/-- where each state of the trail stands -/
structure At (t : List (List Nat)) (x y : Str) (j : Nat) (kvs : List (Key × V)) : Prop where
  yes : ∀ i, i < j → valV kvs (.inl ((iter t x y i : Nat) : Int)) = some (.int (i : Nat))
  only : ∀ (q : Int) (v : V), valV kvs (.inl q) = some v → ∃ i : Nat, i < j ∧ q = ((iter t x y i : Nat) : Int) ∧ v = .int (i : Nat)
  len : kvs.length ≤ j
theorem At.le {t : List (List Nat)} {x y : Str} {j : Nat} {kvs : List (Key × V)} (h : At t x y j kvs) (l : ∀ k, iter t x y k < 4) : j ≤ 4 := by
  obtain ⟨a, b, ab, b4, e⟩ := pigeon l
  by_cases hj : j ≤ 4
  · exact hj
  · have h1 := h.yes a (by omega)
    have h2 := h.yes b (by omega)
    rw [e, h2] at h1
    have q : V.int (b : Nat) = V.int (a : Nat) := Option.some.inj h1
    have q' : ((b : Nat) : Int) = ((a : Nat) : Int) := by injection q
    omega
theorem At.one {t : List (List Nat)} {x y : Str} : At t x y 1 [(.inl 0, .int 0)] := by
  refine ⟨fun i hi => ?_, fun q v h => ?_, Nat.le_refl _⟩
  · have e : i = 0 := by omega
    subst e
    exact valV_pos rfl
  · by_cases e : q = 0
    · subst e
      rw [valV_pos rfl] at h
      exact ⟨0, by omega, rfl, (Option.some.inj h).symm⟩
    · rw [valV_neg (fun z => e (by injection z with z; exact z.symm)), valV_nil] at h
      cases h
theorem At.put {t : List (List Nat)} {x y : Str} {j : Nat} {kvs : List (Key × V)} (h : At t x y j kvs) (n : valV kvs (.inl ((iter t x y j : Nat) : Int)) = none) : At t x y (j + 1) (putK kvs (.inl ((iter t x y j : Nat) : Int)) (.int (j : Nat))) := by
  refine ⟨fun i hi => ?_, fun q v e => ?_, ?_⟩
  · rw [valV_put]
    by_cases c : (Sum.inl ((iter t x y i : Nat) : Int) : Key) = Sum.inl ((iter t x y j : Nat) : Int)
    · rw [if_pos c]
      by_cases ij : i = j
      · rw [ij]
      · have q := h.yes i (by omega)
        rw [c, n] at q
        cases q
    · rw [if_neg c]
      refine h.yes i ?_
      by_cases ij : i = j
      · rw [ij] at c
        exact absurd rfl c
      · omega
  · rw [valV_put] at e
    by_cases c : (Sum.inl q : Key) = Sum.inl ((iter t x y j : Nat) : Int)
    · rw [if_pos c] at e
      exact ⟨j, by omega, by injection c, (Option.some.inj e).symm⟩
    · rw [if_neg c] at e
      obtain ⟨i, h1, h2, h3⟩ := h.only q v e
      exact ⟨i, by omega, h2, h3⟩
  · rw [putK_new _ n, List.length_append]
    show kvs.length + 1 ≤ j + 1
    have := h.len
    omega
theorem iter_back {t : List (List Nat)} {x y : Str} {i j : Nat} (ij : i < j) (h : iter t x y j = iter t x y i) (k : Nat) (hk : j ≤ k) : iter t x y (i + (k - i) % (j - i)) = iter t x y k := by
  have e' : iter t x y (i + (j - i)) = iter t x y i := by
    have z : i + (j - i) = j := by omega
    rw [z, h]
  have s := iter_times (iter_shift e') ((k - i) / (j - i)) (i + (k - i) % (j - i)) (by omega)
  have d := Nat.mod_add_div (k - i) (j - i)
  have e : i + (k - i) % (j - i) + (j - i) * ((k - i) / (j - i)) = k := by omega
  rw [e] at s
  exact s.symm
def spOften (K : PySem.W.Frag) : Sp := fun vs H Q _ => ∃ (a : Addr) (x y : Str) (m k : Nat) (t : List (List Nat)) (us : List V), vs = [.ref a, .str x, .int 0, .str y, .int k] ∧ SqT K H a us ∧ Tups K H us t ∧ IsTab t t.length m ∧ IsSet x m ∧ m ≤ 2 ∧ IsW x y ∧ 1 ≤ t.length ∧ t.length ≤ 4 ∧
  ∀ H' : Hp, Same H H' → Q (.int ((iter t x y k : Nat) : Int)) H'
section
variable {P : Program} {w : World} {K : PySem.W.Frag} {mg : Str → Option Value} {base : Heap}
theorem ok_often {f g : Addr} {fd gd : FuncData} (F : Fun K "led_often" "led_often" sOften f fd) (G : Fun K "led" "led" sLed g gd) (bG : Binds K gd ["table", "letters", "start", "word"] []) (mG : mg "led" = some (.ref g)) (T : TxI mg) : FnOk P w K mg base CX0 2 f fd ["table", "letters", "start", "word", "times"] (spOften K) := by
  have GL : FnOk P w K mg base CX0 1 g gd ["table", "letters", "start", "word"] (spLed K) := ok_led G
  refine F.ok scOften (fun vs H Q E h => ?_) (fun cdv A outer s H vs Q E hr h => ?_)
  · obtain ⟨a, x, y, m, k, t, us, rfl, _⟩ := h
    rfl
  · obtain ⟨a, x, y, m, n, t, us, rfl, ha, hT, tb, hx, m2, hw, t1, t4, k⟩ := h
    have hu := hu_of hr
    have hm : x.cps.toList.length = m := by
      have := set_len hx
      simpa [Str.length] using this
    have il := iter_lt tb hm t1 hw
    have i4 : ∀ k, iter t x y k < 4 := fun k => Nat.lt_of_lt_of_le (il k) t4
    refine ⟨_, pss_cons (ps_set (i := 5) scOften.nd rfl (Or.inl rfl) (pe_lst (pa_cons (pv 2) pa_nil)))
      (pss_cons (ps_set (i := 6) scOften.nd rfl (Or.inl rfl) (pe_disp (pps_cons (pv 2) pe_int pps_nil) (by rfl) (by rfl) (fun z => by cases z) (by decide)))
      (pss_cons (ps_while PassesOwn.never (pt_cmpR op_le (pe_callB call_len_seq (by rfl) T.len PySem.boot_len (pa_cons (pv 5) pa_nil)) (pv 4) (nomark _))
        (pss_cons (ps_set (i := 7) scOften.nd rfl (Or.inl rfl) (pe_call GL hr rfl mG G.kp bG .nil pass0 (pa_cons (pv 0) (pa_cons (pv 1) (pa_cons (pe_ix ix_list (pv 5) (pe_un un_neg pe_int) (fun _ _ => rfl)) (pa_cons (pv 3) pa_nil))))))
        (pss_cons (ps_if (pt_cmp (pc_din hu (pv 7) (pv 6))) (pss_cons (ps_set (i := 8) scOften.nd rfl (Or.inl rfl) (pe_dget hu (pv 6) (pv 7) (fun _ _ => rfl)))
          (pss_one (ps_ret (pe_ix ix_list (pv 5) (pe_op op_add (pv 8) (pe_op op_mod (pe_op op_sub (pv 4) (pv 8)) (pe_op op_sub (pe_callB call_len_seq (by rfl) T.len PySem.boot_len (pa_cons (pv 5) pa_nil)) (pv 8)))) (fun _ _ => rfl))))) pss_nil)
        (pss_cons (ps_dput hu (pv 6) (pv 7) (pe_callB call_len_seq (by rfl) T.len PySem.boot_len (pa_cons (pv 5) pa_nil)) rfl)
        (pss_one (ps_expr (pe_bm PySem.F.plainAttrs_list PySem.F.slot_list_append PySem.F.type_list_append mt_append (pv 5) (pa_cons (pv 7) pa_nil))))))))
      (pss_one (ps_ret (pe_ix ix_list (pv 5) (pv 4) (fun _ _ => rfl)))))), ?_⟩
    refine ⟨_, rfl, (by show 1 ≤ sizeLine; decide), fun l nl => ?_⟩
    intro f nf
    refine ⟨_, rfl, upd_same, [(.inl 0, .int 0)], rfl, (by show 1 ≤ 15; decide), ?_⟩
    rw [upd_upd]
    have lf : l ≠ f := fun z => by
      rw [← z, upd_same] at nf
      cases nf
    have nf0 : H f = none := by
      rw [upd_ne (Ne.symm lf)] at nf
      exact nf
    have neL : ∀ {b : Addr} {o : HO}, H b = some o → b ≠ l := fun h z => by rw [z, nl] at h; cases h
    have neF : ∀ {b : Addr} {o : HO}, H b = some o → b ≠ f := fun h z => by rw [z, nf0] at h; cases h
    have lenI : ∀ j, (nts (iters t x y j)).length = j := fun j => by
      rw [nts_length]
      unfold iters
      rw [List.length_map, List.length_range]
    refine while_by (fun σ H' => ∃ (j : Nat) (v1 v2 : Option V) (kvs : List (Key × V)), σ = [some (.ref a), some (.str x), some (.int 0), some (.str y), some (.int n), some (.ref l), some (.ref f), v1, v2] ∧ H' l = some (.lst (nts (iters t x y (j + 1)))) ∧ H' f = some (.dK kvs) ∧ At t x y (j + 1) kvs ∧ j ≤ n ∧ Same H H')
      (fun σ H' => match H' l with | some (.lst xs) => n + 1 - xs.length | _ => 0)
      ⟨0, none, none, _, rfl, by rw [upd_ne lf]; exact upd_same, upd_same, At.one, Nat.zero_le _, Same.new (Same.new (Same.refl H) nl) (by rw [upd_ne (Ne.symm lf)]; exact nf0)⟩ ?_ ?_
    · rintro σ H1 ⟨j, v1, v2, kvs, rfl, h1, h2, A, jn, s1⟩
      refine ⟨_, rfl, l, _, rfl, .inl (SqL.of h1), _, rfl, _, _, rfl, rfl, _, rfl, ?_⟩
      rw [lenI]
      refine ite2 (fun hle => ?_) (fun hle => ?_)
      · have hle : j + 1 ≤ n := by
          have := of_decide_eq_true hle
          omega
        refine ⟨_, rfl, _, rfl, _, rfl, _, rfl, l, _, -1, _, rfl, rfl, SqL.of h1, iters_last, _, rfl, a, x, y, iter t x y j, t.length, m, t, us, rfl, sqt_same s1 ha, hT.same s1, tb, hx, m2, hw, il j, ?_⟩
        refine ⟨_, rfl, _, rfl, f, _, rfl, DGet.k (k := Sum.inl ((iter t x y (j + 1) : Nat) : Int)) h2, _, rfl, ?_⟩
        have j4 := A.le i4
        cases e : valV kvs (Sum.inl ((iter t x y (j + 1) : Nat) : Int) : Key) with
        | some v =>
          refine iteT ?_
          obtain ⟨i, ij, eq, rfl⟩ := A.only _ _ e
          have eq' : iter t x y (j + 1) = iter t x y i := by omega
          have G : DGet H1 f (.int ((iter t x y (j + 1) : Nat) : Int)) (some (.int (i : Nat))) := by
            have g := DGet.k (k := Sum.inl ((iter t x y (j + 1) : Nat) : Int)) h2
            rw [e] at g
            exact g
          refine ⟨_, rfl, _, rfl, f, _, rfl, G, ?_⟩
          have e1 : (i : Int) + ((n : Int) - (i : Int)) % ((j + 1 : Nat) - (i : Int)) = ((i + (n - i) % (j + 1 - i) : Nat) : Int) := by
            have c1 : (n : Int) - (i : Int) = ((n - i : Nat) : Int) := by omega
            have c2 : ((j + 1 : Nat) : Int) - (i : Int) = ((j + 1 - i : Nat) : Int) := by omega
            rw [c1, c2, ← Int.natCast_emod, ← Int.natCast_add]
          refine ⟨_, rfl, _, rfl, _, rfl, _, rfl, _, _, rfl, rfl, _, rfl, l, _, rfl, .inl (SqL.of h1), _, rfl, _, _, rfl, rfl, ?_⟩
          have lt : i + (n - i) % (j + 1 - i) < j + 1 := by
            have := Nat.mod_lt (n - i) (show 0 < j + 1 - i by omega)
            omega
          refine ⟨_, _, rfl, rfl, ?_, _, _, rfl, rfl, l, _, ((i + (n - i) % (j + 1 - i) : Nat) : Int), _, rfl, congrArg V.int ?_, SqL.of h1, iters_at lt, ?_⟩
          · show (0 : Int) < ((nts (iters t x y (j + 1))).length : Int) - (i : Int)
            rw [lenI]
            omega
          · rw [lenI]
            exact e1
          · rw [iter_back ij eq' n hle]
            exact k H1 s1
        | none =>
          refine iteF ?_
          have A' := A.put e
          refine ⟨_, rfl, l, _, rfl, .inl (SqL.of h1), _, rfl, _, rfl, f, _, rfl, DPut.k (k := Sum.inl ((iter t x y (j + 1) : Nat) : Int)) h2 (Nat.lt_of_le_of_lt (Nat.le_trans A.len j4) (by decide)), ?_⟩
          rw [lenI]
          have g1 : (upd H1 f (.dK (putK kvs (Sum.inl ((iter t x y (j + 1) : Nat) : Int)) (.int ((j + 1 : Nat) : Int))))) l = some (.lst (nts (iters t x y (j + 1)))) := by
            rw [upd_ne lf]
            exact h1
          refine ⟨_, rfl, .inl ⟨rfl, _, SqL.of g1⟩, _, rfl, l, _, _, rfl, rfl, g1, ?_, ⟨j + 1, _, _, _, rfl, ?_, ?_, A', hle, fun b' o h => ?_⟩, ?_⟩
          · rw [lenI]
            exact Nat.lt_of_le_of_lt j4 (by decide)
          · rw [upd_same]
            unfold nts iters
            rw [List.range_succ (n := j + 1), List.map_append, List.map_append]
            rfl
          · rw [upd_ne (Ne.symm lf)]
            exact upd_same
          · rw [upd_ne (neL h), upd_ne (neF h)]
            exact s1 _ _ h
          · show (match (upd _ l _) l with | some (.lst xs) => n + 1 - xs.length | _ => 0) < (match H1 l with | some (.lst xs) => n + 1 - xs.length | _ => 0)
            rw [h1, upd_same]
            show n + 1 - (nts (iters t x y (j + 1)) ++ [V.int ((iter t x y (j + 1) : Nat) : Int)]).length < n + 1 - (nts (iters t x y (j + 1))).length
            rw [List.length_append, lenI]
            show n + 1 - (j + 1 + 1) < n + 1 - (j + 1)
            omega
      · have hle : ¬ j + 1 ≤ n := fun z => hle (decide_eq_true (by omega))
        have e : n = j := by omega
        exact ⟨_, rfl, _, rfl, l, _, _, _, rfl, rfl, SqL.of h1, iters_at (by omega), k H1 s1⟩
    · rintro σ H1 Q1 Q2 hq ⟨v1, hv1, p, ys, hp, hs, v2, hv2, i1, i2, c1, c2, b, hb, hh⟩
      exact ⟨v1, hv1, p, ys, hp, hs, v2, hv2, i1, i2, c1, c2, b, hb, hq _ _ hh⟩
end
end M3

set_option Elab.async false
set_option linter.all false
set_option maxRecDepth 100000
set_option maxHeartbeats 8000000
/-! # A plain machine near another one -/
namespace M3
open PySem L2
abbrev sNear : Stmt := top 57
abbrev nNear : List Str := ["dice", "plain", "table", "ends", "size", "way", "state", "row", "end"]
theorem scNear : FnScope nNear ["dice", "plain"] (defScope sNear) := ⟨rfl, rfl, rfl, by decide +kernel, rfl, by decide +kernel, by decide +kernel⟩
def spNear : Sp := fun vs H Q _ => ∃ (d p : Addr) (x : Str) (t : List (List Nat)) (es : List Nat), vs = [.ref d, .ref p] ∧ Dz H d ∧ Plain d H p x t es ∧ 1 ≤ x.length ∧ x.length ≤ 2 ∧ 1 ≤ t.length ∧ t.length ≤ 4 ∧
  ∀ (t' : List (List Nat)) (es' : List Nat) (q : Addr) (H' : Hp), t'.length = t.length → Plain d H' q x t' es' → H q = none → Dz H' d → Still d H H' → Q (.ref q) H'
section
variable {P : Program} {w : World} {K : PySem.W.Frag} {mg : Str → Option Value} {base : Heap}
theorem ok_near {f : Addr} {fd : FuncData} (F : Fun K "_law_near" "_law_near" sNear f fd) (D : DefsD K mg) (T : TxI mg) (M : TxM mg) : FnOk P w K mg base CX0 2 f fd ["dice", "plain"] spNear := by
  have GR : FnOk P w K mg base CX0 1 D.fR D.dR ["dice", "total"] spDraw := ok_draw D.R T
  refine F.ok scNear (fun vs H Q E h => ?_) (fun cdv A outer s H vs Q E hr h => ?_)
  · obtain ⟨d, p, x, t, es, rfl, _⟩ := h
    rfl
  · obtain ⟨d, p, x, t, es, rfl, Z, ⟨⟨a, b, us, hp, ad, ha, R, bd, hb⟩, tb, up, lt⟩, x1, x2, t1, t4, k⟩ := h
    have hu := hu_of hr
    have hr1 : Room 1 _ := hr.mono (by decide)
    refine ⟨_, pss_cons (ps_par (i := 2) (j := 3) (by rfl) scNear.nd rfl rfl (by decide) rfl rfl (pa_cons (pe_callTy call_list_of (by rfl) M.list (by decide +kernel) (pa_cons (pe_dget hu (pv 1) pe_str (fun _ _ => rfl)) pa_nil)) (pa_cons (pe_callTy call_list_of (by rfl) M.list (by decide +kernel) (pa_cons (pe_dget hu (pv 1) pe_str (fun _ _ => rfl)) pa_nil)) pa_nil)) (by rfl))
      (pss_cons (ps_set (i := 4) scNear.nd rfl (Or.inl rfl) (pe_callB call_len_seq (by rfl) T.len PySem.boot_len (pa_cons (pv 2) pa_nil)))
      (pss_cons (ps_asg (pe_tup (pa_cons (pe_call GR hr1 rfl D.mR D.R.kp D.bR .nil pass0 (pa_cons (pv 0) (pa_cons pe_int pa_nil))) (pa_cons (pe_call GR hr1 rfl D.mR D.R.kp D.bR .nil pass0 (pa_cons (pv 0) (pa_cons (pv 4) pa_nil))) pa_nil))) (pg_tup rfl (pgs_cons (pg_name (i := 5) scNear.nd rfl (Or.inl rfl)) (pgs_cons (pg_name (i := 6) scNear.nd rfl (Or.inr rfl)) pgs_nil))))
      (pss_cons (ps_if (pt_cmpR op_eq (pv 5) pe_int (nomark _))
        (pss_cons (ps_set (i := 7) scNear.nd rfl (Or.inl rfl) (pe_callTy call_list_of (by rfl) M.list (by decide +kernel) (pa_cons (pe_ix ix_list (pv 2) (pv 6) (fun _ _ => rfl)) pa_nil)))
        (pss_cons (ps_asg (pe_call GR hr1 rfl D.mR D.R.kp D.bR .nil pass0 (pa_cons (pv 0) (pa_cons (pv 4) pa_nil))) (pg_sub (pv 7) (pe_call GR hr1 rfl D.mR D.R.kp D.bR .nil pass0 (pa_cons (pv 0) (pa_cons (pe_callB call_len_seq (by rfl) T.len PySem.boot_len (pa_cons (pv 7) pa_nil)) pa_nil))) set_list))
        (pss_one (ps_asg (pe_callTy call_tuple_of (by rfl) M.tuple (by decide +kernel) (pa_cons (pv 7) pa_nil)) (pg_sub (pv 2) (pv 6) set_list))))) pss_nil)
      (pss_cons (ps_if (pt_cmpR op_eq (pv 5) pe_int (nomark _))
        (pss_one (ps_set (i := 3) scNear.nd rfl (Or.inl rfl) (pe_callB cr_sorted (by rfl) M.sorted (by decide +kernel) (pa_cons (pe_op op_cat (pe_lc (own := [("end", 8)]) (g := gName 8) (tt := tTest (tOp rNe (tVar 8) (tVar 6))) rfl scNear.nd (pi_list (pv 3)) (blkOk_by (N := nNear) (sc := defScope sNear) (by decide +kernel)) (fun _ _ _ _ _ => pg_name (i := 8) scNear.nd rfl (Or.inl rfl)) (fun _ _ _ _ _ => pts_one (pt_cmpR op_ne (pv 8) (pv 6) (nomark _))) (fun _ _ _ _ _ => pv 8))
          (pe_op op_rep (pe_lst (pa_cons (pv 6) pa_nil)) (pe_callTy call_int1 (by rfl) T.int (by decide +kernel) (pa_cons (pe_cmpR op_notIn_seq (pv 6) (pv 3) (by rfl)) pa_nil)))) pa_nil)))) pss_nil)
      (pss_one (ps_ret (pe_disp (pps_cons pe_str (pe_dget hu (pv 1) pe_str (fun _ _ => rfl)) (pps_cons pe_str (pv 2) (pps_cons pe_str (pv 3) pps_nil))) (by rfl) (by rfl) (fun z => by cases z) (by decide)))))))), ?_⟩
    have pd : p ≠ d := fun e => by
      obtain ⟨_, _, _, dd, _⟩ := id Z
      rw [e, dd] at hp
      cases hp
    refine ⟨_, rfl, p, _, rfl, get_t hp, a, us, rfl, .inl (SqL.of ha), fun l1 n1 => ?_⟩
    refine ⟨_, rfl, p, _, rfl, get_e (keep_new hp n1), b, nts es, rfl, .inl (SqL.of (keep_new hb n1)), fun l2 n2 => ⟨_, _, rfl, ?_⟩⟩
    have l1d : l1 ≠ d := Z.not n1
    have l2d : l2 ≠ d := (Z.new n1).not n2
    have l12 : l1 ≠ l2 := fun z => by
      rw [← z, upd_same] at n2
      cases n2
    have Z2 : Dz (upd (upd H l1 (.lst us)) l2 (.lst (nts es))) d := (Z.new n1).new n2
    have S2 : Still d H (upd (upd H l1 (.lst us)) l2 (.lst (nts es))) := ((Still.refl d H).new n1).new n2
    have f1 : (upd (upd H l1 (.lst us)) l2 (.lst (nts es))) l1 = some (.lst us) := keep_new upd_same n2
    have f2 : (upd (upd H l1 (.lst us)) l2 (.lst (nts es))) l2 = some (.lst (nts es)) := upd_same
    have nl2 : H l2 = none := by
      rw [upd_ne (Ne.symm l12)] at n2
      exact n2
    generalize upd (upd H l1 (.lst us)) l2 (.lst (nts es)) = H2 at Z2 S2 f1 f2 ⊢
    have lu : us.length = t.length := R.1
    refine ⟨_, rfl, l1, us, rfl, .inl (SqL.of f1), ?_⟩
    refine ⟨_, rfl, d, 3, rfl, Z2, by decide, by decide, fun way H3 w3 Z3 S3 => ?_⟩
    refine ⟨_, rfl, _, rfl, d, us.length, rfl, Z3, by omega, by omega, fun st H4 sl Z4 S4 => ?_⟩
    refine ⟨(by show 2 ≤ sizeLine; decide), fun T' nT => ⟨T', _, rfl, SqT.of upd_same, rfl, _, _, rfl, _, _, rfl, rfl, ?_⟩⟩
    have S24 : Still d H2 H4 := S3.trans S4
    have Z5 := Z4.new nT (u := .tup [.int (way : Nat), .int (st : Nat)])
    have S5 : Still d H2 (upd H4 T' (.tup [.int (way : Nat), .int (st : Nat)])) := S24.new nT
    generalize upd H4 T' (.tup [.int (way : Nat), .int (st : Nat)]) = H5 at Z5 S5 ⊢
    have tail : ∀ (σ : L2.St) (H' : Hp) (e : Addr) (us' : List V) (t' : List (List Nat)) (es' : List Nat), σ[1]? = some (some (.ref p)) → σ[2]? = some (some (.ref l1)) → σ[3]? = some (some (.ref e)) → H' l1 = some (.lst us') → RowsT d d H' us' t' → t'.length = t.length → IsTab t' t'.length x.length →
        e ≠ d → H' e = some (.lst (nts es')) → es'.Pairwise (· < ·) → (∀ z ∈ es', z < t'.length) → Dz H' d → Still d H H' →
        tRet (tDisp [(tC (.str "letters"), tDGet (tVar 1) (tC (.str "letters"))), (tC (.str "table"), tVar 2), (tC (.str "ends"), tVar 3)]) { nx := fun _ H' => Q .non H', rt := Q } σ H' := by
      intro σ H' e us' t' es' q1 q2 q3 g1 g2 g3 g4 g5 g6 g7 g8 g9 g10
      intro q nq
      have hq : H q = none := g10.free g9 nq
      refine ⟨_, q1, p, _, rfl, get_l (keep_new (g10 _ _ pd hp) nq), _, q2, _, q3, upd_same, [(.inr "letters", .str x), (.inr "table", .ref l1), (.inr "ends", .ref e)], rfl, (by show 3 ≤ 15; decide), ?_⟩
      rw [plain_merge, upd_upd]
      exact k t' es' q _ g3 ⟨⟨l1, e, us', upd_same, l1d, keep_new g1 nq, g2.to fun b' o hb _ h => keep_new h nq, g5, keep_new g6 nq⟩, g4, g7, g8⟩ hq (g9.new nq) (g10.new nq)
    have R5 : RowsT d d H5 us t := R.to fun b' o hb _ h => S5 _ _ hb (S2 _ _ hb h)
    have SS : Still d H H5 := S2.trans S5
    refine ⟨_, rfl, rfl, _, rfl, ?_⟩
    refine ite2 (fun hw => ?_) (fun hw => ?_)
    · have st' : st < t.length := by omega
      obtain ⟨c, c1, c2, _, c4⟩ := R5.2 st t[st] (List.getElem?_eq_getElem st')
      obtain ⟨tl, tr⟩ := tb
      obtain ⟨rl, rz⟩ := tr t[st] (List.getElem_mem st')
      refine ⟨_, rfl, _, rfl, l1, us, (st : Int), .ref c, rfl, rfl, SqL.of (S5 _ _ l1d f1), atI_nat c1, c, nts t[st], rfl, .inr (SqT.of c4), fun l3 n3 => ?_⟩
      have l3d : l3 ≠ d := Z5.not n3
      have g1 := S5 _ _ l1d f1
      have l31 : l3 ≠ l1 := fun z => by
        rw [z, g1] at n3
        cases n3
      refine ⟨_, rfl, _, rfl, d, us.length, rfl, Z5.new n3, by omega, by omega, fun v H6 vl Z6 S6 => ?_⟩
      have h3 := S6 _ _ l3d upd_same
      refine ⟨_, rfl, _, rfl, _, rfl, l3, _, rfl, .inl (SqL.of h3), d, (nts t[st]).length, rfl, Z6, by rw [nts_length, rl]; omega, by rw [nts_length, rl]; omega, fun i H7 il Z7 S7 => ?_⟩
      have rln : (nts t[st]).length = t[st].length := nts_length _
      refine ⟨l3, _, _, i, rfl, rfl, S7 _ _ l3d h3, ixNat il, ?_⟩
      have S67 : Still d H5 H7 := (((Still.refl d H5).new n3).trans S6).trans S7
      have es2 : (nts t[st]).set i (.int (v : Nat)) = nts (t[st].set i v) := by
        unfold nts
        rw [List.map_set]
      rw [es2]
      refine ⟨_, rfl, l3, _, rfl, .inl ⟨SqL.of upd_same, fun T5 n5 => ?_⟩⟩
      have Z8 : Dz (upd H7 l3 (.lst (nts (t[st].set i v)))) d := Z7.ne l3d
      have S8 : Still d H5 (upd H7 l3 (.lst (nts (t[st].set i v)))) := S67.at_new n3
      generalize upd H7 l3 (.lst (nts (t[st].set i v))) = H8 at n5 Z8 S8 ⊢
      have T5d : T5 ≠ d := Z8.not n5
      have g8 := S8 _ _ l1d g1
      have T51 : T5 ≠ l1 := fun z => by
        rw [z, g8] at n5
        cases n5
      refine ⟨_, rfl, _, rfl, l1, us, (st : Int), st, rfl, rfl, keep_new g8 n5, ixNat sl, ?_⟩
      have Z9 : Dz (upd (upd H8 T5 (.tup (nts (t[st].set i v)))) l1 (.lst (us.set st (.ref T5)))) d := (Z8.new n5).ne l1d
      have nl1 : H l1 = none := n1
      have S9 : Still d H (upd (upd H8 T5 (.tup (nts (t[st].set i v)))) l1 (.lst (us.set st (.ref T5)))) := ((SS.trans S8).new n5).at_new nl1
      have hway : way = 0 := by
        have q := of_decide_eq_true hw
        have q' : ((way : Nat) : Int) = 0 := by injection q
        omega
      refine ⟨_, rfl, rfl, _, rfl, ?_⟩
      refine ite2 (fun hw1 => ?_) (fun hw1 => ?_)
      · have q := of_decide_eq_true hw1
        have q' : ((way : Nat) : Int) = 1 := by injection q
        omega
      · have l2' : H8 l2 = some (.lst (nts es)) := S8 _ _ l2d (S5 _ _ l2d f2)
        refine tail _ _ l2 (us.set st (.ref T5)) (t.set st (t[st].set i v)) es rfl rfl rfl upd_same ⟨by rw [List.length_set, List.length_set, lu], fun j r hr => ?_⟩ (by rw [List.length_set]) ⟨rfl, fun r hr => ?_⟩ l2d (by rw [upd_ne (Ne.symm l12)]; exact keep_new l2' n5) up (by rw [List.length_set]; exact lt) Z9 S9
        · by_cases js : j = st
          · subst js
            rw [List.getElem?_set_self (by omega)] at hr
            have er : t[j].set i v = r := Option.some.inj hr
            subst er
            exact ⟨T5, by rw [List.getElem?_set_self sl], T5d, T5d, by rw [upd_ne T51]; exact upd_same⟩
          · rw [List.getElem?_set_ne (Ne.symm js)] at hr
            obtain ⟨c', d1, d2, d3, d4⟩ := R5.2 j r hr
            refine ⟨c', by rw [List.getElem?_set_ne (Ne.symm js)]; exact d1, d2, d3, ?_⟩
            have d5 := S8 _ _ d2 d4
            have c1' : c' ≠ l1 := fun z => by
              rw [z, g8] at d5
              cases d5
            rw [upd_ne c1']
            exact keep_new d5 n5
        · rw [List.length_set]
          rcases List.mem_or_eq_of_mem_set hr with q | q
          · exact tr r q
          · subst q
            refine ⟨by rw [List.length_set, rl], fun z hz => ?_⟩
            rcases List.mem_or_eq_of_mem_set hz with q | q
            · exact rz z q
            · rw [q]
              omega
    · refine ⟨_, rfl, rfl, _, rfl, ?_⟩
      refine ite2 (fun hw1 => ?_) (fun hw1 => ?_)
      · have g2 := S5 _ _ l2d f2
        have l2len : es.length ≤ t.length := asc_len up lt
        refine ⟨_, rfl, l2, rfl, ⟨_, SqL.of g2⟩, fun C nC => ?_⟩
        have Cd : C ≠ d := Z5.not nC
        have nel : ∀ {b' : Addr} {o : HO}, H5 b' = some o → b' ≠ C := fun h z => by rw [z, nC] at h; cases h
        refine lc_list (K := K) (a := l2) (xs := nts es) (fun j H9 => H9 C = some (.lst (nts ((es.take j).filter fun e => !decide (e = st)))) ∧ ∀ b' o, b' ≠ C → H5 b' = some o → H9 b' = some o)
          ⟨upd_same, fun b' o hb h => keep_new h nC⟩ (fun i H9 _ ⟨_, z⟩ => SqL.of (z _ _ (nel g2) g2)) ?_ ?_
        · rintro i v H9 hv ⟨q1, q2⟩
          unfold nts at hv
          rw [List.getElem?_map] at hv
          cases e : es[i]? with
          | none =>
            rw [e] at hv
            cases hv
          | some y =>
            rw [e] at hv
            cases hv
            have ef : (es.take (i + 1)).filter (fun e => !decide (e = st)) = (es.take i).filter (fun e => !decide (e = st)) ++ (if !decide (y = st) then [y] else []) := by
              rw [take_snoc e, List.filter_append]
              congr 1
              cases hy : (!decide (y = st)) with
              | true => simp [List.filter, hy]
              | false => simp [List.filter, hy]
            have ed : decide (V.int ((y : Nat) : Int) = V.int ((st : Nat) : Int)) = decide (y = st) := by
              by_cases h : y = st
              · rw [h, decide_eq_true rfl, decide_eq_true rfl]
              · rw [decide_eq_false h, decide_eq_false (fun z => h (by injection z with z; omega))]
            refine ⟨rfl, _, rfl, _, rfl, rfl, _, rfl, ?_⟩
            rw [ed]
            cases hy : (!decide (y = st)) with
            | true =>
              rw [hy] at ef
              refine iteT ⟨_, rfl, _, q1, ?_, ?_, fun b' o hb h => by rw [upd_ne hb]; exact q2 b' o hb h⟩
              · rw [nts_length]
                have h1 := List.length_filter_le (fun e => !decide (e = st)) (es.take i)
                have h2 := List.length_take_le i es
                have h3 := List.length_take_le' i es
                exact Nat.lt_of_le_of_lt (show _ ≤ 4 by omega) (by decide)
              · rw [upd_same, ef, nts_append]
                rfl
            | false =>
              rw [hy] at ef
              refine iteF ⟨?_, q2⟩
              rw [ef]
              simpa using q1
        · rintro H9 ⟨q1, q2⟩
          have et : es.take (nts es).length = es := by
            rw [nts_length]
            exact List.take_length
          rw [et] at q1
          have g29 := q2 _ _ (nel g2) g2
          refine ⟨_, rfl, (by show 1 ≤ sizeLine; decide), fun l4 n4 => ?_⟩
          refine ⟨_, rfl, _, rfl, l2, nts es, rfl, .inl (SqL.of (keep_new g29 n4)), rfl, flat_nts es, .inr ⟨_, rfl, ?_⟩⟩
          have kb : ∀ bb : Bool, (0 : Int) ≤ (if bb = true then 1 else 0) ∧ (if bb = true then (1 : Int) else 0) ≤ 1 := fun bb => by cases bb <;> decide
          generalize hk : (if true = true then !inV (V.int ((st : Nat) : Int)) (nts es) else inV (V.int ((st : Nat) : Int)) (nts es)) = bb
          obtain ⟨k0, k1⟩ := kb bb
          generalize (if bb = true then (1 : Int) else 0) = kk at k0 k1 ⊢
          have hrep : ∃ rep : List Nat, (List.replicate kk.toNat [V.int ((st : Nat) : Int)]).flatten = nts rep ∧ rep.length ≤ 1 ∧ ∀ z ∈ rep, z = st := by
            have : kk = 0 ∨ kk = 1 := by omega
            rcases this with h | h
            · rw [h]
              exact ⟨[], rfl, by decide, fun z hz => by cases hz⟩
            · rw [h]
              exact ⟨[st], rfl, Nat.le_refl _, fun z hz => List.mem_singleton.mp hz⟩
          obtain ⟨rep, er, rl1, rst⟩ := hrep
          refine ⟨l4, kk, _, rfl, rfl, upd_same, by omega, by omega, (Nat.le_trans (show [V.int ((st : Nat) : Int)].length * kk.toNat ≤ 1 by show 1 * kk.toNat ≤ 1; omega) (by decide)), fun l5 n5 => ?_⟩
          rw [er]
          have fl := List.length_filter_le (fun e => !decide (e = st)) es
          refine ⟨C, l5, _, _, rfl, rfl, keep_new (keep_new q1 n4) n5, upd_same, (Nat.le_trans (show _ ≤ 5 by rw [nts_length, nts_length]; omega) (by decide)), fun l6 n6 => ?_⟩
          have ec : nts (es.filter fun e => !decide (e = st)) ++ nts rep = ((es.filter fun e => !decide (e = st)) ++ rep).map fun z => V.int ((z : Nat) : Int) := by
            unfold nts
            rw [List.map_append]
          have ec' : nts (es.filter fun e => !decide (e = st)) ++ nts rep = nts ((es.filter fun e => !decide (e = st)) ++ rep) := ec
          rw [ec']
          have hL : ∀ z ∈ (es.filter fun e => !decide (e = st)) ++ rep, z < t.length := fun z hz => by
            rcases List.mem_append.mp hz with q | q
            · exact lt z (List.mem_filter.mp q).1
            · rw [rst z q]
              omega
          have hN : ((es.filter fun e => !decide (e = st)) ++ rep).Nodup := by
            rw [List.nodup_append]
            refine ⟨(List.Pairwise.imp (fun h => Nat.ne_of_lt h) up).sublist List.filter_sublist, ?_, fun z hz w hw => ?_⟩
            · match rep, rl1 with
              | [], _ => exact List.nodup_nil
              | [r], _ => simp
            · rw [rst w hw]
              have := (List.mem_filter.mp hz).2
              simpa using this
          have hlen : ((es.filter fun e => !decide (e = st)) ++ rep).length ≤ 5 := by
            rw [List.length_append]
            omega
          generalize (es.filter fun e => !decide (e = st)) ++ rep = L at hL hN hlen ⊢
          refine ⟨l6, L.map Int.ofNat, rfl, SqL.of (by rw [upd_same]; exact nts_eq L), by rw [List.length_map]; omega, fun ns p' perm rise np => ?_⟩
          obtain ⟨zs, ez, pz⟩ := nats_perm perm
          subst ez
          have hz1 : zs.Pairwise (· ≤ ·) := by
            rw [List.pairwise_map] at rise
            exact rise.imp fun h => Int.ofNat_le.mp h
          have hz2 : zs.Pairwise (· < ·) := by
            have nd : zs.Nodup := pz.nodup_iff.mpr hN
            exact (hz1.and nd).imp fun h => Nat.lt_of_le_of_ne h.1 h.2
          have K9 : ∀ b' o, b' ≠ C → H5 b' = some o → H9 b' = some o := q2
          have St9 : Still d H5 H9 := fun b' o _ h => q2 b' o (nel h) h
          obtain ⟨dl, dm, dc, dd, dr⟩ := id Z5
          have Z9 : Dz H9 d := ⟨dl, dm, dc, q2 _ _ (Ne.symm Cd) dd, dr⟩
          have ZF := (((Z9.new n4 (u := .lst [.int ((st : Nat) : Int)])).new n5 (u := .lst (nts rep))).new n6 (u := .lst (nts L))).new np (u := .lst ((zs.map Int.ofNat).map V.int))
          have SF := (((((SS.trans St9).new n4 (u := .lst [.int ((st : Nat) : Int)])).new n5 (u := .lst (nts rep))).new n6 (u := .lst (nts L))).new np (u := .lst ((zs.map Int.ofNat).map V.int)))
          refine tail _ _ p' us t zs rfl rfl rfl ?_ ?_ rfl tb ?_ (by rw [upd_same, ← nts_eq']) hz2 (fun z hz => hL z (pz.subset hz)) ZF SF
          · exact keep_new (keep_new (keep_new (keep_new (K9 _ _ (nel (S5 _ _ l1d f1)) (S5 _ _ l1d f1)) n4) n5) n6) np
          · exact R5.to fun b' o hb _ h => keep_new (keep_new (keep_new (keep_new (St9 b' o hb h) n4) n5) n6) np
          · exact (((Z9.new n4 (u := .lst [.int ((st : Nat) : Int)])).new n5 (u := .lst (nts rep))).new n6 (u := .lst (nts L))).not np
      · exact tail _ H5 l2 us t es rfl rfl rfl (S5 _ _ l1d f1) R5 rfl tb l2d (S5 _ _ l2d f2) up lt Z5 SS
end
end M3

set_option Elab.async false
set_option linter.all false
set_option maxRecDepth 100000
set_option maxHeartbeats 8000000
/-! # The methods of a machine: in, len, after, the fields -/
namespace M3
open PySem L2
abbrev sContains : Stmt := inClass (top 38) 14
abbrev sLen : Stmt := inClass (top 38) 15
abbrev sPropL : Stmt := inClass (top 38) 1
abbrev sPropT : Stmt := inClass (top 38) 2
abbrev sPropE : Stmt := inClass (top 38) 3
theorem scContains : FnScope ["self", "x"] ["self", "x"] (defScope sContains) := ⟨rfl, rfl, rfl, by decide +kernel, rfl, by decide +kernel, by decide +kernel⟩
theorem scLen : FnScope ["self"] ["self"] (defScope sLen) := ⟨rfl, rfl, rfl, by decide +kernel, rfl, by decide +kernel, by decide +kernel⟩
theorem scPropL : FnScope ["self"] ["self"] (defScope sPropL) := ⟨rfl, rfl, rfl, by decide +kernel, rfl, by decide +kernel, by decide +kernel⟩
theorem scPropT : FnScope ["self"] ["self"] (defScope sPropT) := ⟨rfl, rfl, rfl, by decide +kernel, rfl, by decide +kernel, by decide +kernel⟩
theorem scPropE : FnScope ["self"] ["self"] (defScope sPropE) := ⟨rfl, rfl, rfl, by decide +kernel, rfl, by decide +kernel, by decide +kernel⟩
theorem ke1 : ¬ (("_letters" : Str) = "_ends") := by decide +kernel
theorem ke2 : ¬ (("_letters" : Str) = "_table") := by decide +kernel
theorem ke3 : ¬ (("_table" : Str) = "_ends") := by decide +kernel
theorem fld_l {x : Str} {a b : Addr} : (flds x a b).lookup ("_letters" : Str) = some (.str x) := by
  unfold flds
  rw [lookup_putF, if_neg ke1, lookup_putF, if_neg ke2, lookup_putF, if_pos rfl]
theorem fld_t {x : Str} {a b : Addr} : (flds x a b).lookup ("_table" : Str) = some (.ref a) := by
  unfold flds
  rw [lookup_putF, if_neg ke3, lookup_putF, if_pos rfl]
theorem fld_e {x : Str} {a b : Addr} : (flds x a b).lookup ("_ends" : Str) = some (.ref b) := by
  unfold flds
  rw [lookup_putF, if_pos rfl]
/-- what is right of a machine's letters, table and ends -/
structure Right (x : Str) (t : List (List Nat)) (es : List Nat) (m : Nat) : Prop where
  st : IsSet x m
  m1 : 1 ≤ m
  m2 : m ≤ 2
  tb : IsTab t t.length m
  t1 : 1 ≤ t.length
  t4 : t.length ≤ 4
  up : es.Pairwise (· < ·)
  lt : ∀ e ∈ es, e < t.length
theorem only_in {x y : Str} (h : only y x = true) : IsW x y := fun c hc => by
  unfold only at h
  exact of_decide_eq_true (List.all_eq_true.mp h c hc)
def spContains (K : PySem.W.Frag) (C : Addr) : Sp := fun vs H Q _ => ∃ (p : Addr) (v : V) (tv : Value) (b : Bool) (x : Str) (t : List (List Nat)) (es : List Nat) (m : Nat), vs = [.ref p, v] ∧ Mach K C H p x t es ∧ Right x t es m ∧ TyX K H v tv ∧ PySem.W.kitOne K tv (.type "str") = some b ∧
  (b = false → Q (.bl false) H) ∧ (b = true → ∃ y : Str, v = .str y ∧ y.length ≤ 1000000 ∧ ∀ H' : Hp, Same H H' → Q (.bl (only y "abcdefghijklmnopqrstuvwxyz" && (only y x && decide (goes t x 0 y.cps.toList ∈ es)))) H')
def spLen (K : PySem.W.Frag) (C : Addr) : Sp := fun vs H Q _ => ∃ (p : Addr) (x : Str) (t : List (List Nat)) (es : List Nat), vs = [.ref p] ∧ Mach K C H p x t es ∧ Q (.int (t.length : Nat)) H
/-- the letters are told -/
def spPropL (K : PySem.W.Frag) (C : Addr) : Sp := fun vs H Q _ => ∃ (p : Addr) (x : Str) (t : List (List Nat)) (es : List Nat), vs = [.ref p] ∧ Mach K C H p x t es ∧ Q (.str x) H
/-- the table is told: a tuple of tuples -/
def spPropT (K : PySem.W.Frag) (C : Addr) : Sp := fun vs H Q _ => ∃ (p : Addr) (x : Str) (t : List (List Nat)) (es : List Nat), vs = [.ref p] ∧ Mach K C H p x t es ∧ ∀ (a : Addr) (us : List V), SqT K H a us → Tups K H us t → Q (.ref a) H
/-- the ends are told: a tuple -/
def spPropE (K : PySem.W.Frag) (C : Addr) : Sp := fun vs H Q _ => ∃ (p : Addr) (x : Str) (t : List (List Nat)) (es : List Nat), vs = [.ref p] ∧ Mach K C H p x t es ∧ ∀ a : Addr, SqT K H a (nts es) → Q (.ref a) H
section
variable {P : Program} {w : World} {K : PySem.W.Frag} {mg : Str → Option Value} {base : Heap} {C : Addr}
theorem ok_contains {f g : Addr} {fd gd : FuncData} (F : Fun K "__contains__" "Machine.__contains__" sContains f fd) (DW : DefsW K mg) (G : Fun K "led" "led" sLed g gd) (bG : Binds K gd ["table", "letters", "start", "word"] []) (mG : mg "led" = some (.ref g)) (W : TxW mg) (TK : TxK K mg C) :
    FnOk P w K mg base CX0 3 f fd ["self", "x"] (spContains K C) := by
  have GW : FnOk P w K mg base CX0 2 DW.fW DW.dW ["value"] (spIsWord K) := ok_isword DW.W DW.O DW.bO DW.mO W
  have GO : FnOk P w K mg base CX0 1 DW.fO DW.dO ["word", "letters"] spHasOnly := ok_hasonly DW.O W
  have GL : FnOk P w K mg base CX0 1 g gd ["table", "letters", "start", "word"] (spLed K) := ok_led G
  refine F.ok scContains (fun vs H Q E h => ?_) (fun cdv A outer s H vs Q E hr h => ?_)
  · obtain ⟨p, v, tv, b, x, t, es, m, rfl, _⟩ := h
    rfl
  · obtain ⟨p, v, tv, b, x, t, es, m, rfl, M, R, ty, k1, q1, q2⟩ := h
    have hr2 : Room 2 _ := hr.mono (by decide)
    have hr1 : Room 1 _ := hr.mono (by decide)
    refine ⟨_, pss_cons (ps_if (PW.pt (pw_or (pt_not (pt_val (pe_call GW hr2 rfl DW.mW DW.W.kp DW.bW .nil pass0 (pa_cons (pv 1) pa_nil)))) (pw_or1 (pt_not (pt_val (pe_call GO hr1 rfl DW.mO DW.O.kp DW.bO .nil pass0 (pa_cons (pv 1) (pa_cons (pe_fld (pv 0) rfl) pa_nil)))))))) (pss_one (ps_ret pe_bl)) pss_nil)
      (pss_one (ps_ret (pe_cmpR op_in_seq (pe_call GL hr1 rfl mG G.kp bG .nil pass0 (pa_cons (pe_fld (pv 0) rfl) (pa_cons (pe_fld (pv 0) rfl) (pa_cons pe_int (pa_cons (pv 1) pa_nil))))) (pe_fld (pv 0) rfl) (by rfl)))), ?_⟩
    refine ⟨_, rfl, v, tv, b, rfl, ty, k1, fun e => ⟨_, rfl, ?_⟩, fun e => ?_⟩
    · exact iteT (iteT (q1 e))
    · obtain ⟨y, rfl, hy, q⟩ := q2 e
      refine ⟨y, rfl, hy, fun H1 s1 => ⟨_, rfl, ?_⟩⟩
      cases h1 : only y "abcdefghijklmnopqrstuvwxyz" with
      | false =>
        rw [h1] at q
        exact iteT (iteT (q H1 s1))
      | true =>
        rw [h1] at q
        refine iteF ?_
        obtain ⟨dx, a, b', us, i1, i2, i3, i4⟩ := M.same s1
        refine ⟨_, rfl, _, rfl, p, C, dx, _, _, rfl, i1, TK.cl, TK.nL, fld_l, y, x, rfl, hy, fun H2 s2 => ⟨_, rfl, ?_⟩⟩
        cases h2 : only y x with
        | false =>
          rw [h2] at q
          exact iteT (q H2 (s1.trans s2))
        | true =>
          rw [h2] at q
          refine iteF ?_
          refine ⟨_, rfl, p, C, dx, _, _, rfl, s2 _ _ i1, TK.cl, TK.nT, fld_t, _, rfl, p, C, dx, _, _, rfl, s2 _ _ i1, TK.cl, TK.nL, fld_l, _, rfl, a, x, y, 0, t.length, m, t, us, rfl, sqt_same s2 i2, i3.same s2, R.tb, R.st, R.m2, only_in h2, R.t1, ?_⟩
          refine ⟨_, rfl, p, C, dx, _, _, rfl, s2 _ _ i1, TK.cl, TK.nE, fld_e, b', nts es, rfl, .inr (sqt_same s2 i4), rfl, flat_nts es, ?_⟩
          rw [inV_nts]
          exact q H2 (s1.trans s2)
theorem ok_len {f : Addr} {fd : FuncData} (F : Fun K "__len__" "Machine.__len__" sLen f fd) (Zx : TxZ mg) (TK : TxK K mg C) : FnOk P w K mg base CX0 1 f fd ["self"] (spLen K C) := by
  refine F.ok scLen (fun vs H Q E h => ?_) (fun cdv A outer s H vs Q E hr h => ?_)
  · obtain ⟨p, x, t, es, rfl, _⟩ := h
    rfl
  · obtain ⟨p, x, t, es, rfl, ⟨dx, a, b, us, h1, h2, h3, h4⟩, k⟩ := h
    refine ⟨_, pss_one (ps_ret (pe_callB call_len_seq (by rfl) Zx.len PySem.boot_len (pa_cons (pe_fld (pv 0) rfl) pa_nil))), ?_⟩
    refine ⟨_, rfl, p, C, dx, _, _, rfl, h1, TK.cl, TK.nT, fld_t, a, us, rfl, .inr h2, ?_⟩
    rw [h3.1]
    exact k
theorem ok_propL {f : Addr} {fd : FuncData} (F : Fun K "letters" "Machine.letters" sPropL f fd) (TK : TxK K mg C) : FnOk P w K mg base CX0 1 f fd ["self"] (spPropL K C) := by
  refine F.ok scPropL (fun vs H Q E h => ?_) (fun cdv A outer s H vs Q E hr h => ?_)
  · obtain ⟨p, x, t, es, rfl, _⟩ := h
    rfl
  · obtain ⟨p, x, t, es, rfl, ⟨dx, a, b, us, h1, h2, h3, h4⟩, k⟩ := h
    refine ⟨_, pss_one (ps_ret (pe_fld (pv 0) rfl)), ?_⟩
    exact ⟨_, rfl, p, C, dx, _, _, rfl, h1, TK.cl, TK.nL, fld_l, k⟩
theorem ok_propT {f : Addr} {fd : FuncData} (F : Fun K "table" "Machine.table" sPropT f fd) (TK : TxK K mg C) : FnOk P w K mg base CX0 1 f fd ["self"] (spPropT K C) := by
  refine F.ok scPropT (fun vs H Q E h => ?_) (fun cdv A outer s H vs Q E hr h => ?_)
  · obtain ⟨p, x, t, es, rfl, _⟩ := h
    rfl
  · obtain ⟨p, x, t, es, rfl, ⟨dx, a, b, us, h1, h2, h3, h4⟩, k⟩ := h
    refine ⟨_, pss_one (ps_ret (pe_fld (pv 0) rfl)), ?_⟩
    exact ⟨_, rfl, p, C, dx, _, _, rfl, h1, TK.cl, TK.nT, fld_t, k a us h2 h3⟩
theorem ok_propE {f : Addr} {fd : FuncData} (F : Fun K "ends" "Machine.ends" sPropE f fd) (TK : TxK K mg C) : FnOk P w K mg base CX0 1 f fd ["self"] (spPropE K C) := by
  refine F.ok scPropE (fun vs H Q E h => ?_) (fun cdv A outer s H vs Q E hr h => ?_)
  · obtain ⟨p, x, t, es, rfl, _⟩ := h
    rfl
  · obtain ⟨p, x, t, es, rfl, ⟨dx, a, b, us, h1, h2, h3, h4⟩, k⟩ := h
    refine ⟨_, pss_one (ps_ret (pe_fld (pv 0) rfl)), ?_⟩
    exact ⟨_, rfl, p, C, dx, _, _, rfl, h1, TK.cl, TK.nE, fld_e, k b h4⟩
end
end M3

set_option Elab.async false
set_option linter.all false
set_option maxRecDepth 100000
set_option maxHeartbeats 8000000
/-! # check_word, Machine.after -/
namespace M3
open PySem L2
abbrev sCheck : Stmt := top 15
abbrev sOnlyC : Stmt := top 16
abbrev sAfter : Stmt := inClass (top 38) 6
theorem scCheck : FnScope ["value"] ["value"] (defScope sCheck) := ⟨rfl, rfl, rfl, by decide +kernel, rfl, by decide +kernel, by decide +kernel⟩
theorem scOnlyC : FnScope ["word", "letters"] ["word", "letters"] (defScope sOnlyC) := ⟨rfl, rfl, rfl, by decide +kernel, rfl, by decide +kernel, by decide +kernel⟩
theorem scAfter : FnScope ["self", "word", "times"] ["self", "word", "times"] (defScope sAfter) := ⟨rfl, rfl, rfl, by decide +kernel, rfl, by decide +kernel, by decide +kernel⟩
/-- an own error of the package over TurnError, raised: its facts -/
structure TxR (K : PySem.W.Frag) (mg : Str → Option Value) (nm : Str) (c : Addr) : Prop where
  x : PySem.W.excIn K c [.type "ValueError", .type "Exception", .type "BaseException", .type "object"] "ValueError.__new__" = true
  g : mg nm = some (.ref c)
  k : PySem.W.keepIn K (.ref c) = true
  b : PySem.W.subIn K (.ref c) (.type "BaseException") = some true
  t : PySem.W.typeIn K (.ref c) = some (.type "type")
/-- InvalidNumber, raised: it keeps what it takes -/
structure TxN (P : Program) (K : PySem.W.Frag) (mg : Str → Option Value) (c : Addr) : Prop where
  tx : ∃ (fI : Addr) (B i B0 newId : String) (qual : Str), PySem.NvE.InitTxt P K c fI B i B0 newId "value" qual
  g : mg "InvalidNumber" = some (.ref c)
  k : PySem.W.keepIn K (.ref c) = true
  b : PySem.W.subIn K (.ref c) (.type "BaseException") = some true
  t : PySem.W.typeIn K (.ref c) = some (.type "type")
theorem keepN {P : Program} {K : PySem.W.Frag} {mg : Str → Option Value} {c : Addr} (T : TxN P K mg c) {X : Cx} (h1 : X.prog = P) (h2 : X.K = K) (h3 : X.mg = mg) : KeepC X "InvalidNumber" c "value" := by
  subst h1 h2 h3
  exact ⟨T.tx, T.g, T.k, T.b, T.t⟩
def spCheck : Sp := fun vs H Q _ => ∃ y : Str, vs = [.str y] ∧ y.length ≤ 1000000 ∧ only y "abcdefghijklmnopqrstuvwxyz" = true ∧ ∀ H' : Hp, Same H H' → Q .non H'
def spOnlyC : Sp := fun vs H Q _ => ∃ y x : Str, vs = [.str y, .str x] ∧ y.length ≤ 1000000 ∧ only y x = true ∧ ∀ H' : Hp, Same H H' → Q .non H'
def spAfter (K : PySem.W.Frag) (C : Addr) : Sp := fun vs H Q _ => ∃ (p : Addr) (x y : Str) (t : List (List Nat)) (es : List Nat) (m k : Nat), vs = [.ref p, .str y, .int k] ∧ Mach K C H p x t es ∧ Right x t es m ∧ IsW x y ∧ only y "abcdefghijklmnopqrstuvwxyz" = true ∧ y.length ≤ 1000000 ∧ k ≤ 100000000000 ∧
  ∀ H' : Hp, Same H H' → Q (.int ((iter t x y k : Nat) : Int)) H'
section
variable {P : Program} {w : World} {K : PySem.W.Frag} {mg : Str → Option Value} {base : Heap} {C : Addr}
theorem ok_check {f c : Addr} {fd : FuncData} (F : Fun K "check_word" "check_word" sCheck f fd) (DW : DefsW K mg) (W : TxW mg) (TE : TxR K mg "InvalidWord" c) : FnOk P w K mg base CX0 3 f fd ["value"] spCheck := by
  have GW : FnOk P w K mg base CX0 2 DW.fW DW.dW ["value"] (spIsWord K) := ok_isword DW.W DW.O DW.bO DW.mO W
  refine F.ok scCheck (fun vs H Q E h => ?_) (fun cdv A outer s H vs Q E hr h => ?_)
  · obtain ⟨y, rfl, _⟩ := h
    rfl
  · obtain ⟨y, rfl, hy, ho, k⟩ := h
    refine ⟨_, pss_one (ps_if (pt_not (pt_val (pe_call GW hr rfl DW.mW DW.W.kp DW.bW .nil pass0 (pa_cons (pv 0) pa_nil)))) (pss_one (ps_raise rfl takes0 (pmk_own PySem.F.excBase_ValueError TE.x TE.g TE.k (raises_own TE.b TE.t) rfl))) pss_nil), ?_⟩
    refine ⟨_, rfl, .str y, .type "str", true, rfl, .base (.str y), kit_str, (fun z => by cases z), fun _ => ⟨y, rfl, hy, fun H1 s1 => ⟨_, rfl, ?_⟩⟩⟩
    rw [ho]
    exact iteF (k H1 s1)
theorem ok_onlyc {f c : Addr} {fd : FuncData} (F : Fun K "check_only" "check_only" sOnlyC f fd) (DW : DefsW K mg) (W : TxW mg) (TO : TxR K mg "InvalidOperation" c) : FnOk P w K mg base CX0 2 f fd ["word", "letters"] spOnlyC := by
  have GO : FnOk P w K mg base CX0 1 DW.fO DW.dO ["word", "letters"] spHasOnly := ok_hasonly DW.O W
  refine F.ok scOnlyC (fun vs H Q E h => ?_) (fun cdv A outer s H vs Q E hr h => ?_)
  · obtain ⟨y, x, rfl, _⟩ := h
    rfl
  · obtain ⟨y, x, rfl, hy, ho, k⟩ := h
    refine ⟨_, pss_one (ps_if (pt_not (pt_val (pe_call GO hr rfl DW.mO DW.O.kp DW.bO .nil pass0 (pa_cons (pv 0) (pa_cons (pv 1) pa_nil))))) (pss_one (ps_raise rfl takes0 (pmk_own PySem.F.excBase_ValueError TO.x TO.g TO.k (raises_own TO.b TO.t) rfl))) pss_nil), ?_⟩
    refine ⟨_, rfl, _, rfl, y, x, rfl, hy, fun H1 s1 => ⟨_, rfl, ?_⟩⟩
    rw [ho]
    exact iteF (k H1 s1)
theorem only_of {x y : Str} (h : IsW x y) : only y x = true := by
  unfold only
  rw [List.all_eq_true]
  intro c hc
  exact decide_eq_true (h c hc)
theorem ok_after {f g g2 g3 g4 cW cN cO : Addr} {fd gd gd2 gd3 gd4 : FuncData} (F : C8.Fun K "after" "Machine.after" sAfter f fd) (DW : DefsW K mg) (G : Fun K "check_word" "check_word" sCheck g gd) (bG : Binds K gd ["value"] []) (mG : mg "check_word" = some (.ref g))
    (G2 : Fun K "led_often" "led_often" sOften g2 gd2) (b2 : Binds K gd2 ["table", "letters", "start", "word", "times"] []) (m2 : mg "led_often" = some (.ref g2)) (G3 : Fun K "led" "led" sLed g3 gd3) (b3 : Binds K gd3 ["table", "letters", "start", "word"] []) (m3 : mg "led" = some (.ref g3))
    (G4 : Fun K "check_only" "check_only" sOnlyC g4 gd4) (b4 : Binds K gd4 ["word", "letters"] []) (m4 : mg "check_only" = some (.ref g4))
    (W : TxW mg) (T : TxI mg) (TK : TxK K mg C) (TW : TxR K mg "InvalidWord" cW) (TN : TxN P K mg cN) (TO : TxR K mg "InvalidOperation" cO) (hM : ∃ t, mg "MAX_TIMES" = some (.int 100000000000 t)) : FnOk P w K mg base CX0 4 f fd ["self", "word", "times"] (spAfter K C) := by
  have GC : FnOk P w K mg base CX0 3 g gd ["value"] spCheck := ok_check G DW W TW
  have GB : FnOk P w K mg base CX0 1 DW.fB DW.dB ["value", "low", "high"] (spBetween K) := ok_between DW.B W
  have GO : FnOk P w K mg base CX0 2 g4 gd4 ["word", "letters"] spOnlyC := ok_onlyc G4 DW W TO
  have GL : FnOk P w K mg base CX0 2 g2 gd2 ["table", "letters", "start", "word", "times"] (spOften K) := ok_often G2 G3 b3 m3 T
  obtain ⟨tm, hm⟩ := hM
  refine C8.fn0 F scAfter (fun vs H Q E h => ?_) (fun cdv A outer s H vs Q E hr h => ?_)
  · obtain ⟨p, x, y, t, es, m, k, rfl, _⟩ := h
    rfl
  · obtain ⟨p, x, y, t, es, m, n, rfl, M, R, hw, ho, hy, hn, k⟩ := h
    have hr2 : Room 2 _ := hr.mono (by decide)
    have hr1 : Room 1 _ := hr.mono (by decide)
    refine ⟨_, pss_cons (ps_expr (pe_call GC hr rfl mG G.kp bG .nil pass0 (pa_cons (pv 1) pa_nil)))
      (pss_cons (ps_if (pt_not (pt_val (pe_call GB hr1 rfl DW.mB DW.B.kp DW.bB .nil pass0 (pa_cons (pv 2) (pa_cons pe_int (pa_cons (pe_glob (v := .int 100000000000) rfl hm ⟨_, rfl⟩) pa_nil)))))) (pss_one (ps_raise rfl takes0 (pmk_keep (keepN TN rfl rfl rfl) hr (pa_cons (pv 2) pa_nil)))) pss_nil)
      (pss_cons (ps_expr (pe_call GO hr2 rfl m4 G4.kp b4 .nil pass0 (pa_cons (pv 1) (pa_cons (pe_fld (pv 0) rfl) pa_nil))))
      (pss_one (ps_ret (pe_call GL hr2 rfl m2 G2.kp b2 .nil pass0 (pa_cons (pe_fld (pv 0) rfl) (pa_cons (pe_fld (pv 0) rfl) (pa_cons pe_int (pa_cons (pv 1) (pa_cons (pv 2) pa_nil)))))))))), ?_⟩
    refine ⟨_, rfl, y, rfl, hy, ho, fun H1 s1 => ?_⟩
    refine ⟨_, rfl, .int (n : Nat), 0, 100000000000, .type "int", false, true, rfl, .base (.int _), kit_int_bool, kit_int_int, (fun z => by cases z), (fun _ z => by cases z), fun _ _ => ⟨(n : Nat), rfl, _, rfl, ?_⟩⟩
    have e : (decide ((0 : Int) ≤ ((n : Nat) : Int)) && decide (((n : Nat) : Int) ≤ 100000000000)) = true := by
      rw [decide_eq_true (show (0 : Int) ≤ ((n : Nat) : Int) by omega), decide_eq_true (show ((n : Nat) : Int) ≤ 100000000000 by omega)]
      rfl
    rw [e]
    refine iteF ?_
    obtain ⟨dx, a, b', us, i1, i2, i3, i4⟩ := M.same s1
    refine ⟨_, rfl, _, rfl, p, C, dx, _, _, rfl, i1, TK.cl, TK.nL, fld_l, y, x, rfl, hy, only_of hw, fun H2 s2 => ?_⟩
    refine ⟨_, rfl, p, C, dx, _, _, rfl, s2 _ _ i1, TK.cl, TK.nT, fld_t, _, rfl, p, C, dx, _, _, rfl, s2 _ _ i1, TK.cl, TK.nL, fld_l, _, rfl, _, rfl, a, x, y, m, n, t, us, rfl, sqt_same s2 i2, i3.same s2, R.tb, R.st, R.m2, hw, R.t1, R.t4, fun H3 s3 => ?_⟩
    exact k H3 ((s1.trans s2).trans s3)
end
end M3

set_option Elab.async false
set_option linter.all false
set_option maxRecDepth 100000
set_option maxHeartbeats 8000000
/-! # Machine.__eq__ as a def -/
namespace M3
open PySem L2
abbrev sEq : Stmt := inClass (top 38) 16
theorem scEq : FnScope ["self", "other"] ["self", "other"] (defScope sEq) := ⟨rfl, rfl, rfl, by decide +kernel, rfl, by decide +kernel, by decide +kernel⟩
def dN (es : List Nat) : PyData := .tuple (es.map fun n => .int ((n : Nat) : Int))
def dT (t : List (List Nat)) : PyData := .tuple (t.map dN)
def dM (x : Str) (t : List (List Nat)) (es : List Nat) : PyData := .tuple [.str x, dT t, dN es]
theorem eqv_nats : ∀ a b : List Nat, PyData.eqvAll (a.map fun n => .int ((n : Nat) : Int)) (b.map fun n => .int ((n : Nat) : Int)) = decide (a = b)
  | [], [] => by simp [PyData.eqvAll]
  | [], _ :: _ => by simp [PyData.eqvAll]
  | _ :: _, [] => by simp [PyData.eqvAll]
  | x :: a, y :: b => by
    have ih := eqv_nats a b
    simp only [List.map_cons, PyData.eqvAll, PyData.eqv, ih]
    by_cases h : x = y
    · subst h
      by_cases h2 : a = b
      · subst h2
        simp
      · simp [h2]
    · have n : ¬ ((x : Int) = (y : Int)) := fun z => h (by omega)
      simp [h, n]
theorem eqv_dN (a b : List Nat) : (dN a).eqv (dN b) = decide (a = b) := by
  unfold dN
  rw [PyData.eqv]
  exact eqv_nats a b
theorem eqv_tabs : ∀ a b : List (List Nat), PyData.eqvAll (a.map dN) (b.map dN) = decide (a = b)
  | [], [] => by simp [PyData.eqvAll]
  | [], _ :: _ => by simp [PyData.eqvAll]
  | _ :: _, [] => by simp [PyData.eqvAll]
  | x :: a, y :: b => by
    have ih := eqv_tabs a b
    simp only [List.map_cons, PyData.eqvAll, eqv_dN, ih]
    by_cases h : x = y
    · subst h
      by_cases h2 : a = b
      · subst h2
        simp
      · simp [h2]
    · simp [h]
theorem eqv_dM (x y : Str) (t s : List (List Nat)) (a b : List Nat) : (dM x t a).eqv (dM y s b) = (decide (x = y) && (decide (t = s) && decide (a = b))) := by
  unfold dM
  rw [PyData.eqv]
  simp only [PyData.eqvAll, eqv_dN]
  have e : (dT t).eqv (dT s) = decide (t = s) := by
    unfold dT
    rw [PyData.eqv]
    exact eqv_tabs t s
  rw [e]
  simp only [PyData.eqv, Bool.and_true]
  congr 1
theorem dp_nats {K : PySem.W.Frag} {H : Hp} : ∀ es : List Nat, DpAll K H (nts es) (es.map fun n => .int ((n : Nat) : Int))
  | [] => .nil
  | _ :: es => .cons (.int _) (dp_nats es)
theorem dp_rows {K : PySem.W.Frag} {H : Hp} : ∀ (t : List (List Nat)) (us : List V), Tups K H us t → DpAll K H us (t.map dN)
  | [], us, h => by
    have e : us = [] := List.eq_nil_of_length_eq_zero h.1
    subst e
    exact .nil
  | r :: t, us, h => by
    obtain ⟨b, b1, b2⟩ := h.2 0 r rfl
    match us, h, b1 with
    | u :: us, h, b1 =>
      have e : u = .ref b := Option.some.inj b1
      subst e
      have l : us.length = t.length := by
        have := h.1
        simpa using this
      exact .cons (.tup b2 (dp_nats r)) (dp_rows t us ⟨l, fun i r' hr => h.2 (i + 1) r' hr⟩)
theorem lay_nats : ∀ es : List Nat, PyData.canLayAll0 (es.map fun n => .int ((n : Nat) : Int)) = true
  | [] => by rfl
  | _ :: es => by
    have ih := lay_nats es
    simp only [List.map_cons, PyData.canLayAll0, PyData.canLay0, ih, Bool.and_self]
theorem lay_dN (es : List Nat) : (dN es).canLay0 = true := by
  unfold dN
  simp only [PyData.canLay0, lay_nats]
theorem lay_rows : ∀ t : List (List Nat), PyData.canLayAll0 (t.map dN) = true
  | [] => by rfl
  | _ :: t => by
    have ih := lay_rows t
    simp only [List.map_cons, PyData.canLayAll0, lay_dN, ih, Bool.and_self]
theorem dep_nats : ∀ es : List Nat, PyData.depthAll (es.map fun n => .int ((n : Nat) : Int)) = 0
  | [] => by rfl
  | _ :: es => by
    have ih := dep_nats es
    simp only [List.map_cons, PyData.depthAll, PyData.depth, ih, Nat.max_self]
theorem dep_dN (es : List Nat) : (dN es).depth = 1 := by
  unfold dN
  simp only [PyData.depth, dep_nats]
theorem dep_rows : ∀ t : List (List Nat), PyData.depthAll (t.map dN) ≤ 1
  | [] => by simp [PyData.depthAll]
  | _ :: t => by
    have ih := dep_rows t
    simp only [List.map_cons, PyData.depthAll, dep_dN]
    omega
theorem set_ok {x : Str} {m : Nat} (h : IsSet x m) : PyData.strOk x = true := by
  obtain ⟨cs, rfl, _, _, hm⟩ := h
  show (cs.toArray.all fun c => decide (c < 1114112)) = true
  rw [List.all_toArray, List.all_eq_true]
  intro c hc
  have := hm c hc
  refine decide_eq_true ?_
  simp only [List.mem_cons, List.not_mem_nil, or_false] at this
  omega
theorem shaped_dM {x : Str} {t : List (List Nat)} {es : List Nat} {m : Nat} (h : IsSet x m) : SeqAt.shaped (dM x t es) = true := by
  unfold SeqAt.shaped
  have h1 : (dM x t es).canLay0 = true := by
    unfold dM dT
    simp only [PyData.canLay0, PyData.canLayAll0, lay_rows, lay_dN, set_ok h, Bool.and_self]
  have h2 : (dM x t es).depth ≤ 64 := by
    have r := dep_rows t
    unfold dM dT
    simp only [PyData.depth, PyData.depthAll, dep_dN]
    omega
  rw [h1, decide_eq_true h2]
  rfl
def spEq (K : PySem.W.Frag) (C : Addr) : Sp := fun vs H Q _ => ∃ (p : Addr) (v : V) (tv : Value) (b : Bool) (x : Str) (t : List (List Nat)) (es : List Nat) (m : Nat), vs = [.ref p, v] ∧ Mach K C H p x t es ∧ Right x t es m ∧ TyX K H v tv ∧ PySem.W.kitOne K tv (.ref C) = some b ∧
  (b = false → Q (.bl false) H) ∧ (b = true → ∃ (q : Addr) (y : Str) (s : List (List Nat)) (es' : List Nat) (m' : Nat), v = .ref q ∧ Mach K C H q y s es' ∧ Right y s es' m' ∧ ∀ H' : Hp, Same H H' → Q (.bl (decide (x = y) && (decide (t = s) && decide (es = es')))) H')
section
variable {P : Program} {w : World} {K : PySem.W.Frag} {mg : Str → Option Value} {base : Heap} {C : Addr}
theorem ok_eq {f : Addr} {fd : FuncData} (F : Fun K "__eq__" "Machine.__eq__" sEq f fd) (W : TxW mg) (TK : TxK K mg C) (mC : mg "Machine" = some (.ref C)) : FnOk P w K mg base CX0 1 f fd ["self", "other"] (spEq K C) := by
  refine F.ok scEq (fun vs H Q E h => ?_) (fun cdv A outer s H vs Q E hr h => ?_)
  · obtain ⟨p, v, tv, b, x, t, es, m, rfl, _⟩ := h
    rfl
  · obtain ⟨p, v, tv, b, x, t, es, m, rfl, M, R, ty, k1, q1, q2⟩ := h
    refine ⟨_, pss_cons (ps_if (pt_not (pt_val (pe_callB call_isi (by rfl) W.isi (by decide +kernel) (pa_cons (pv 1) (pa_cons (pe_glob (v := .ref C) rfl mC rfl) pa_nil))))) (pss_one (ps_ret pe_bl)) pss_nil)
      (pss_one (ps_ret (pe_cmpR (op_eqD hr.units) (pe_tup (pa_cons (pe_fld (pv 0) rfl) (pa_cons (pe_fld (pv 0) rfl) (pa_cons (pe_fld (pv 0) rfl) pa_nil)))) (pe_tup (pa_cons (pe_fld (pv 1) rfl) (pa_cons (pe_fld (pv 1) rfl) (pa_cons (pe_fld (pv 1) rfl) pa_nil)))) (nomark _)))), ?_⟩
    refine ⟨_, rfl, v, .ref C, tv, .ref C, b, rfl, .own C, ty, k1, _, rfl, ?_⟩
    cases b with
    | false => exact iteT (q1 rfl)
    | true =>
      obtain ⟨q, y, s, es', m', rfl, M', R', k⟩ := q2 rfl
      refine iteF ?_
      obtain ⟨dx, a, b, us, i1, i2, i3, i4⟩ := id M
      obtain ⟨dx', a', b', us', j1, j2, j3, j4⟩ := id M'
      refine ⟨_, rfl, p, C, dx, _, _, rfl, i1, TK.cl, TK.nL, fld_l, _, rfl, p, C, dx, _, _, rfl, i1, TK.cl, TK.nT, fld_t, _, rfl, p, C, dx, _, _, rfl, i1, TK.cl, TK.nE, fld_e, (by show 3 ≤ sizeLine; decide), fun T1 n1 => ?_⟩
      have s1 : Same H (upd H T1 (.tup [.str x, .ref a, .ref b])) := Same.new (Same.refl H) n1
      refine ⟨_, rfl, q, C, dx', _, _, rfl, s1 _ _ j1, TK.cl, TK.nL, fld_l, _, rfl, q, C, dx', _, _, rfl, s1 _ _ j1, TK.cl, TK.nT, fld_t, _, rfl, q, C, dx', _, _, rfl, s1 _ _ j1, TK.cl, TK.nE, fld_e, (by show 3 ≤ sizeLine; decide), fun T2 n2 => ?_⟩
      have s2 : Same H (upd (upd H T1 (.tup [.str x, .ref a, .ref b])) T2 (.tup [.str y, .ref a', .ref b'])) := Same.new s1 n2
      refine ⟨dM x t es, dM y s es', .tup (SqT.of (keep_new upd_same n2)) (.cons (.str x) (.cons (.tup (sqt_same s2 i2) (dp_rows t us (i3.same s2))) (.cons (.tup (sqt_same s2 i4) (dp_nats es)) .nil))),
        .tup (SqT.of upd_same) (.cons (.str y) (.cons (.tup (sqt_same s2 j2) (dp_rows s us' (j3.same s2))) (.cons (.tup (sqt_same s2 j4) (dp_nats es')) .nil))), shaped_dM R.st, shaped_dM R'.st, ?_⟩
      rw [eqv_dM]
      exact k _ s2
end
end M3

set_option Elab.async false
set_option linter.all false
set_option maxRecDepth 100000
set_option maxHeartbeats 8000000
/-! # Which states are reached -/
namespace M3
open PySem L2
abbrev sReached : Stmt := top 25
abbrev nReached : List Str := ["table", "found", "seen", "at", "goal"]
theorem scReached : FnScope nReached ["table"] (defScope sReached) := ⟨rfl, rfl, rfl, by decide +kernel, rfl, by decide +kernel, by decide +kernel⟩
/-- numbers below n, none twice: at most n of them -/
theorem nodup_le {n : Nat} : ∀ {fs : List Nat}, fs.Nodup → (∀ z ∈ fs, z < n) → fs.length ≤ n := by
  induction n with
  | zero =>
    intro fs _ h
    match fs, h with
    | [], _ => exact Nat.le_refl _
    | z :: l, h => exact absurd (h z List.mem_cons_self) (Nat.not_lt_zero _)
  | succ n ih =>
    intro fs nd h
    have e := ih (fs := fs.filter fun z => !decide (z = n)) (nd.sublist List.filter_sublist) fun z hz => by
      have h1 := h z (List.mem_filter.mp hz).1
      have h2 : ¬ z = n := by simpa using (List.mem_filter.mp hz).2
      omega
    have l : fs.length ≤ (fs.filter fun z => !decide (z = n)).length + 1 := by
      clear e h ih
      induction fs with
      | nil => exact Nat.zero_le _
      | cons z l ih =>
        have nd' := List.nodup_cons.mp nd
        by_cases hz : z = n
        · have f : (l.filter fun z => !decide (z = n)) = l := by
            rw [List.filter_eq_self]
            intro w hw
            have : ¬ w = n := fun q => nd'.1 (by rw [hz, ← q]; exact hw)
            simp [this]
          simp [List.filter_cons, hz, f]
        · have := ih nd'.2
          simp [List.filter_cons, hz]
          omega
    omega
/-- the dict tells just what was found -/
def SeenIs (kvs : List (Key × V)) (fs : List Nat) : Prop := ∀ q : Nat, (valV kvs (.inl (q : Int))).isSome = decide (q ∈ fs)
theorem SeenIs.put {kvs : List (Key × V)} {fs : List Nat} {g : Nat} (h : SeenIs kvs fs) : SeenIs (putK kvs (.inl (g : Int)) (.bl true)) (fs ++ [g]) := fun q => by
  rw [valV_put]
  by_cases e : q = g
  · subst e
    rw [if_pos rfl]
    simp
  · rw [if_neg (fun z => e (by injection z with z; omega)), h q]
    by_cases m : q ∈ fs
    · simp [m]
    · simp [m, e]
def spReached (K : PySem.W.Frag) : Sp := fun vs H Q _ => ∃ (a : Addr) (us : List V) (t : List (List Nat)) (m : Nat), vs = [.ref a] ∧ SqT K H a us ∧ Tups K H us t ∧ IsTab t t.length m ∧ 1 ≤ t.length ∧ t.length ≤ 1000 ∧
  ∀ (l : Addr) (fs : List Nat) (H' : Hp), (∀ z ∈ fs, z < t.length) → fs.length ≤ t.length → H l = none → H' l = some (.lst (nts fs)) → Same H H' → Q (.ref l) H'
section
variable {P : Program} {w : World} {K : PySem.W.Frag} {mg : Str → Option Value} {base : Heap}
theorem ok_reached {f : Addr} {fd : FuncData} (F : Fun K "reached" "reached" sReached f fd) (T : TxI mg) : FnOk P w K mg base CX0 1 f fd ["table"] (spReached K) := by
  refine F.ok scReached (fun vs H Q E h => ?_) (fun cdv A outer s H vs Q E hr h => ?_)
  · obtain ⟨a, us, t, m, rfl, _⟩ := h
    rfl
  · obtain ⟨a, us, t, m, rfl, ha, hT, tb, t1, tk, k⟩ := h
    have hu := hu_of hr
    refine ⟨_, pss_cons (ps_set (i := 1) scReached.nd rfl (Or.inl rfl) (pe_lst (pa_cons pe_int pa_nil)))
      (pss_cons (ps_set (i := 2) scReached.nd rfl (Or.inl rfl) (pe_disp (pps_cons pe_int pe_bl pps_nil) (by rfl) (by rfl) (fun z => by cases z) (by decide)))
      (pss_cons (ps_set (i := 3) scReached.nd rfl (Or.inl rfl) pe_int)
      (pss_cons (ps_while PassesOwn.never (pt_cmpR op_lt (pv 3) (pe_callB call_len_seq (by rfl) T.len PySem.boot_len (pa_cons (pv 1) pa_nil)) (nomark _))
        (pss_cons (ps_for PassesOwn.never rfl (pi_tup (pe_ix ix_tup (pv 0) (pe_ix ix_list (pv 1) (pv 3) (fun _ _ => rfl)) (fun _ _ => rfl))) (pg_name (i := 4) scReached.nd rfl (Or.inl rfl))
          (pss_one (ps_if (pt_cmp (pc_dnotin hu (pv 4) (pv 2))) (pss_cons (ps_dput hu (pv 2) (pv 4) pe_bl rfl) (pss_one (ps_expr (pe_bm PySem.F.plainAttrs_list PySem.F.slot_list_append PySem.F.type_list_append mt_append (pv 1) (pa_cons (pv 4) pa_nil))))) pss_nil)))
        (pss_one (ps_aug (i := 3) scReached.nd rfl (.inl rfl) pe_int ip_add))))
      (pss_one (ps_ret (pv 1)))))), ?_⟩
    refine ⟨(by show 1 ≤ sizeLine; decide), fun l nl => ?_⟩
    intro f' nf
    refine ⟨upd_same, [(.inl 0, .bl true)], rfl, (by show 1 ≤ 15; decide), ?_⟩
    rw [upd_upd]
    have lf : l ≠ f' := fun z => by
      rw [← z, upd_same] at nf
      cases nf
    have nf0 : H f' = none := by
      rw [upd_ne (Ne.symm lf)] at nf
      exact nf
    have neL : ∀ {b : Addr} {o : HO}, H b = some o → b ≠ l := fun h z => by rw [z, nl] at h; cases h
    have neF : ∀ {b : Addr} {o : HO}, H b = some o → b ≠ f' := fun h z => by rw [z, nf0] at h; cases h
    have s0 : SeenIs [((.inl 0 : Key), V.bl true)] [0] := fun q => by
      by_cases e : q = 0
      · subst e
        have z : valV [((.inl 0 : Key), V.bl true)] (.inl ((0 : Nat) : Int)) = some (.bl true) := valV_pos rfl
        rw [z]
        rfl
      · rw [valV_neg (fun z => e (by injection z with z; omega)), valV_nil]
        simp [e]
    refine while_by (fun σ H' => ∃ (at' : Nat) (g : Option V) (fs : List Nat) (kvs : List (Key × V)), σ = [some (.ref a), some (.ref l), some (.ref f'), some (.int at'), g] ∧ H' l = some (.lst (nts fs)) ∧ H' f' = some (.dK kvs) ∧ SeenIs kvs fs ∧ kvs.length ≤ fs.length ∧ fs.Nodup ∧ (∀ z ∈ fs, z < t.length) ∧ at' ≤ fs.length ∧ Same H H')
      (fun σ H' => match σ with | [_, _, _, some (.int i), _] => t.length - i.toNat | _ => 0)
      ⟨0, none, [0], _, rfl, by rw [upd_ne lf]; exact upd_same, upd_same, s0, Nat.le_refl _, by simp, (fun z hz => by rw [List.mem_singleton.mp hz]; exact t1), Nat.zero_le _, Same.new (Same.new (Same.refl H) nl) (by rw [upd_ne (Ne.symm lf)]; exact nf0)⟩ ?_ ?_
    · rintro σ H1 ⟨at', g, fs, kvs, rfl, h1, h2, h3, h4, h5, h6, h7, s1⟩
      refine ⟨_, rfl, _, rfl, l, _, rfl, .inl (SqL.of h1), _, _, rfl, rfl, _, rfl, ?_⟩
      rw [nts_length]
      refine ite2 (fun hle => ?_) (fun hle => ?_)
      · have hlt : at' < fs.length := by
          have := of_decide_eq_true hle
          omega
        have q := h6 fs[at'] (List.getElem_mem hlt)
        obtain ⟨b, b1, b2⟩ := hT.2 fs[at'] t[fs[at']] (List.getElem?_eq_getElem q)
        obtain ⟨_, rz⟩ := tb.2 t[fs[at']] (List.getElem_mem q)
        generalize t[fs[at']] = r at b2 rz
        have ei : atI (nts fs) (at' : Int) = some (.int ((fs[at'] : Nat) : Int)) := by
          have e := nts_at hlt
          rw [e]
          simp [List.getD, List.getElem?_eq_getElem hlt]
        refine ⟨_, rfl, _, rfl, _, rfl, l, _, _, _, rfl, rfl, SqL.of h1, ei, a, us, _, .ref b, rfl, rfl, sqt_same s1 ha, atI_nat b1, ?_⟩
        refine ⟨b, rfl, ⟨_, sqt_same s1 b2⟩, for_it (walk_tup (K := K) (a := b) (xs := nts r)) (fun j σ H' => ∃ (g : Option V) (fs' : List Nat) (kvs' : List (Key × V)), σ = [some (.ref a), some (.ref l), some (.ref f'), some (.int at'), g] ∧ H' l = some (.lst (nts fs')) ∧ H' f' = some (.dK kvs') ∧ SeenIs kvs' fs' ∧ kvs'.length ≤ fs'.length ∧ fs'.Nodup ∧ (∀ z ∈ fs', z < t.length) ∧ at' < fs'.length ∧ Same H H')
          ⟨g, fs, kvs, rfl, h1, h2, h3, h4, h5, h6, hlt, s1⟩ (fun j σ H' _ ⟨_, _, _, _, _, _, _, _, _, _, _, z⟩ => sqt_same z b2) ?_ ?_⟩
        · rintro j v σ H2 H3 hj ⟨g', fs', kvs', rfl, p1, p2, p3, p4, p5, p6, p7, p8⟩ ⟨rfl, hv⟩
          unfold nts at hv
          rw [List.getElem?_map] at hv
          cases er : r[j]? with
          | none =>
            rw [er] at hv
            cases hv
          | some z =>
            rw [er] at hv
            cases hv
            have zn := rz z (List.mem_of_getElem? er)
            have fl := nodup_le p5 p6
            refine ⟨_, rfl, _, rfl, f', _, rfl, DGet.k (k := Sum.inl ((z : Nat) : Int)) p2, _, rfl, ?_⟩
            have sz := p3 z
            cases e : valV kvs' (Sum.inl ((z : Nat) : Int) : Key) with
            | none =>
              rw [e] at sz
              have nz : z ∉ fs' := fun q => by
                rw [decide_eq_true q] at sz
                cases sz
              refine iteT ?_
              refine ⟨_, rfl, _, rfl, f', _, rfl, DPut.k (k := Sum.inl ((z : Nat) : Int)) p2 (Nat.lt_of_le_of_lt (show kvs'.length ≤ 1000 by omega) (by decide)), ?_⟩
              have g1 : (upd H3 f' (.dK (putK kvs' (Sum.inl ((z : Nat) : Int)) (.bl true)))) l = some (.lst (nts fs')) := by
                rw [upd_ne lf]
                exact p1
              refine ⟨_, rfl, .inl ⟨rfl, _, SqL.of g1⟩, _, rfl, l, _, _, rfl, rfl, g1, ?_, some (.int ((z : Nat) : Int)), fs' ++ [z], _, rfl, ?_, ?_, p3.put, ?_, ?_, fun y hy => ?_, ?_, fun b' o h => ?_⟩
              · rw [nts_length]
                exact Nat.lt_of_le_of_lt (show fs'.length ≤ 1000 by omega) (by decide)
              · rw [upd_same, nts_append]
              · rw [upd_ne (Ne.symm lf)]
                exact upd_same
              · rw [putK_new _ e, List.length_append, List.length_append]
                show kvs'.length + 1 ≤ fs'.length + 1
                omega
              · rw [List.nodup_append]
                refine ⟨p5, by simp, fun y hy w hw q => nz ?_⟩
                rw [List.mem_singleton.mp hw] at q
                rw [← q]
                exact hy
              · rcases List.mem_append.mp hy with q | q
                · exact p6 y q
                · rw [List.mem_singleton.mp q]
                  exact zn
              · rw [List.length_append]
                omega
              · rw [upd_ne (neL h), upd_ne (neF h)]
                exact p8 _ _ h
            | some v =>
              refine iteF ?_
              exact ⟨some (.int ((z : Nat) : Int)), fs', kvs', rfl, p1, p2, p3, p4, p5, p6, p7, p8⟩
        · rintro σ H2 ⟨g', fs', kvs', rfl, p1, p2, p3, p4, p5, p6, p7, p8⟩
          have fl := nodup_le p5 p6
          refine ⟨_, rfl, _, _, rfl, rfl, ⟨at' + 1, g', fs', kvs', rfl, p1, p2, p3, p4, p5, p6, p7, p8⟩, ?_⟩
          show t.length - (at' + 1) < t.length - at'
          omega
      · exact ⟨_, rfl, k l fs H1 h6 (nodup_le h5 h6) nl h1 s1⟩
    · rintro σ H1 Q1 Q2 hq h
      obtain ⟨v1, hv1, v2, hv2, p, ys, hp, hs, i1, i2, c1, c2, b, hb, hh⟩ := h
      exact ⟨v1, hv1, v2, hv2, p, ys, hp, hs, i1, i2, c1, c2, b, hb, hq _ _ hh⟩
end
end M3

set_option Elab.async false
set_option linter.all false
set_option maxRecDepth 100000
set_option maxHeartbeats 8000000
/-! # Ends marked; is a machine empty, is it full -/
namespace M3
open PySem L2
abbrev sMarked : Stmt := top 22
abbrev sEndMarks : Stmt := top 26
abbrev sIsEmpty : Stmt := inClass (top 38) 4
abbrev sIsFull : Stmt := inClass (top 38) 5
theorem scMarked : FnScope ["states", "state"] ["states"] (defScope sMarked) := ⟨rfl, rfl, rfl, by decide +kernel, rfl, by decide +kernel, by decide +kernel⟩
theorem scEndMarks : FnScope ["table", "ends", "marks", "state"] ["table", "ends"] (defScope sEndMarks) := ⟨rfl, rfl, rfl, by decide +kernel, rfl, by decide +kernel, by decide +kernel⟩
theorem scIsEmpty : FnScope ["self"] ["self"] (defScope sIsEmpty) := ⟨rfl, rfl, rfl, by decide +kernel, rfl, by decide +kernel, by decide +kernel⟩
theorem scIsFull : FnScope ["self"] ["self"] (defScope sIsFull) := ⟨rfl, rfl, rfl, by decide +kernel, rfl, by decide +kernel, by decide +kernel⟩
def spMarked (K : PySem.W.Frag) : Sp := fun vs H Q _ => ∃ (b : Addr) (es : List Nat), vs = [.ref b] ∧ SqT K H b (nts es) ∧ es.length ≤ 1000 ∧
  ∀ (D : Addr) (kvs : List (Key × V)) (H' : Hp), H D = none → H' D = some (.dK kvs) → SeenIs kvs es → Same H H' → Q (.ref D) H'
section
variable {P : Program} {w : World} {K : PySem.W.Frag} {mg : Str → Option Value} {base : Heap} {C : Addr}
theorem putK_len {kvs : List (Key × V)} {k : Key} {v : V} : (putK kvs k v).length ≤ kvs.length + 1 := by
  unfold putK
  split
  · rw [List.length_map]
    omega
  · rw [List.length_append]
    exact Nat.le_refl _
theorem ok_marked {f : Addr} {fd : FuncData} (F : Fun K "marked" "marked" sMarked f fd) : FnOk P w K mg base CX0 1 f fd ["states"] (spMarked K) := by
  refine F.ok scMarked (fun vs H Q E h => ?_) (fun cdv A outer s H vs Q E hr h => ?_)
  · obtain ⟨b, es, rfl, _⟩ := h
    rfl
  · obtain ⟨b, es, rfl, hb, he, k⟩ := h
    refine ⟨_, pss_one (ps_ret (pe_dc (own := [("state", 1)]) (g := gName 1) (tt := tYes) rfl scMarked.nd (pi_tup (pv 0)) (blkOk_by (N := ["states", "state"]) (sc := defScope sMarked) (by decide +kernel)) (fun _ _ _ _ _ => pg_name (i := 1) scMarked.nd rfl (Or.inl rfl)) (fun _ _ _ _ _ => pts_nil) (fun _ _ _ _ _ => pv 1) (fun _ _ _ _ _ => pe_bl))), ?_⟩
    refine ⟨_, rfl, b, rfl, ⟨_, hb⟩, fun D nD => ?_⟩
    have sm : ∀ {H9 : Hp}, (∀ b' o, b' ≠ D → H b' = some o → H9 b' = some o) → Same H H9 := fun z b' o h => z b' o (fun q => by rw [q, nD] at h; cases h) h
    refine dc_tup (K := K) (a := b) (xs := nts es) (fun j H9 => ∃ kvs : List (Key × V), H9 D = some (.dK kvs) ∧ SeenIs kvs (es.take j) ∧ kvs.length ≤ j ∧ ∀ b' o, b' ≠ D → H b' = some o → H9 b' = some o) ?_ ?_ ?_ ?_
    · exact ⟨[], upd_same, fun q => by rfl, Nat.le_refl _, fun b' o hb' h => keep_new h nD⟩
    · rintro i H9 _ ⟨kvs, _, _, _, z⟩
      exact sqt_same (sm z) hb
    · rintro i v H9 hv ⟨kvs, p1, p2, p3, p4⟩
      have hi : i < es.length := by
        have := (List.getElem?_eq_some_iff.mp hv).1
        rw [nts_length] at this
        exact this
      unfold nts at hv
      rw [List.getElem?_map, List.getElem?_eq_getElem hi] at hv
      cases hv
      refine ⟨rfl, tYes_if ?_⟩
      refine ⟨_, rfl, kvs, .inl ((es[i] : Nat) : Int), rfl, p1, Nat.lt_of_le_of_lt (show kvs.length ≤ 1000 by omega) (by decide), _, upd_same, ?_, ?_, fun b' o hb' h => by rw [upd_ne hb']; exact p4 b' o hb' h⟩
      · rw [take_snoc (List.getElem?_eq_getElem hi)]
        exact p2.put
      · have := putK_len (kvs := kvs) (k := (.inl ((es[i] : Nat) : Int) : Key)) (v := V.bl true)
        omega
    · rintro H9 ⟨kvs, p1, p2, p3, p4⟩
      have et : es.take (nts es).length = es := by
        rw [nts_length]
        exact List.take_length
      rw [et] at p2
      exact k D kvs H9 nD p1 p2 (sm p4)
def spEndMarks (K : PySem.W.Frag) : Sp := fun vs H Q _ => ∃ (a b : Addr) (us : List V) (t : List (List Nat)) (es : List Nat) (m : Nat), vs = [.ref a, .ref b] ∧ SqT K H a us ∧ Tups K H us t ∧ IsTab t t.length m ∧ 1 ≤ t.length ∧ t.length ≤ 1000 ∧ SqT K H b (nts es) ∧ es.length ≤ 1000 ∧
  ∀ (l : Addr) (fs : List Nat) (H' : Hp), (∀ z ∈ fs, z < t.length) → H' l = some (.lst ((fs.map fun q => decide (q ∈ es)).map V.bl)) → Same H H' → Q (.ref l) H'
theorem ok_endmarks {f g g2 : Addr} {fd gd gd2 : FuncData} (F : Fun K "end_marks" "end_marks" sEndMarks f fd) (G : Fun K "marked" "marked" sMarked g gd) (bG : Binds K gd ["states"] []) (mG : mg "marked" = some (.ref g)) (G2 : Fun K "reached" "reached" sReached g2 gd2) (b2 : Binds K gd2 ["table"] []) (m2 : mg "reached" = some (.ref g2)) (T : TxI mg) :
    FnOk P w K mg base CX0 2 f fd ["table", "ends"] (spEndMarks K) := by
  have GM : FnOk P w K mg base CX0 1 g gd ["states"] (spMarked K) := ok_marked G
  have GR : FnOk P w K mg base CX0 1 g2 gd2 ["table"] (spReached K) := ok_reached G2 T
  refine F.ok scEndMarks (fun vs H Q E h => ?_) (fun cdv A outer s H vs Q E hr h => ?_)
  · obtain ⟨a, b, us, t, es, m, rfl, _⟩ := h
    rfl
  · obtain ⟨a, b, us, t, es, m, rfl, ha, hT, tb, t1, tk, hb, he, k⟩ := h
    have hu := hu_of hr
    refine ⟨_, pss_cons (ps_set (i := 2) scEndMarks.nd rfl (Or.inr rfl) (pe_call GM hr rfl mG G.kp bG .nil pass0 (pa_cons (pv 1) pa_nil)))
      (pss_one (ps_ret (pe_lc (own := [("state", 3)]) (g := gName 3) (tt := tYes) rfl scEndMarks.nd (pi_list (pe_call GR hr rfl m2 G2.kp b2 .nil pass0 (pa_cons (pv 0) pa_nil))) (blkOk_by (N := ["table", "ends", "marks", "state"]) (sc := defScope sEndMarks) (by decide +kernel)) (fun _ _ _ _ _ => pg_name (i := 3) scEndMarks.nd rfl (Or.inl rfl)) (fun _ _ _ _ _ => pts_nil)
        (fun _ _ _ _ _ => pe_cmp (pc_din hu (pv 3) (pv 2)) rfl)))), ?_⟩
    refine ⟨_, rfl, b, es, rfl, hb, he, fun M kvs H1 nM hM sI s1 => ?_⟩
    refine ⟨_, rfl, a, us, t, m, rfl, sqt_same s1 ha, hT.same s1, tb, t1, tk, fun l fs H2 hf fl nl hl s2 => ?_⟩
    refine ⟨l, rfl, ⟨_, SqL.of hl⟩, fun C nC => ?_⟩
    have sm : ∀ {H9 : Hp}, (∀ b' o, b' ≠ C → H2 b' = some o → H9 b' = some o) → Same H2 H9 := fun z b' o h => z b' o (fun q => by rw [q, nC] at h; cases h) h
    refine lc_list (K := K) (a := l) (xs := nts fs) (fun j H9 => H9 C = some (.lst (((fs.take j).map fun q => decide (q ∈ es)).map V.bl)) ∧ ∀ b' o, b' ≠ C → H2 b' = some o → H9 b' = some o)
      ⟨upd_same, fun b' o hb' h => keep_new h nC⟩ (fun i H9 _ ⟨_, z⟩ => SqL.of (sm z _ _ hl)) ?_ ?_
    · rintro i v H9 hv ⟨q1, q2⟩
      have hi : i < fs.length := by
        have := (List.getElem?_eq_some_iff.mp hv).1
        rw [nts_length] at this
        exact this
      unfold nts at hv
      rw [List.getElem?_map, List.getElem?_eq_getElem hi] at hv
      cases hv
      refine ⟨rfl, tYes_if ?_⟩
      have hM2 := sm q2 _ _ (s2 _ _ hM)
      refine ⟨_, rfl, _, rfl, M, _, rfl, DGet.k (k := Sum.inl ((fs[i] : Nat) : Int)) hM2, ?_⟩
      rw [sI fs[i]]
      refine ⟨_, q1, ?_, ?_, fun b' o hb' h => by rw [upd_ne hb']; exact q2 b' o hb' h⟩
      · rw [List.length_map, List.length_map, List.length_take]
        exact Nat.lt_of_le_of_lt (show _ ≤ 1000 by omega) (by decide)
      · rw [upd_same, take_snoc (List.getElem?_eq_getElem hi), List.map_append, List.map_append]
        rfl
    · rintro H9 ⟨q1, q2⟩
      have et : fs.take (nts fs).length = fs := by
        rw [nts_length]
        exact List.take_length
      rw [et] at q1
      exact k C fs H9 hf q1 ((s1.trans s2).trans (sm q2))
theorem ok_isempty {f g : Addr} {fd gd : FuncData} (F : Fun K "is_empty" "Machine.is_empty" sIsEmpty f fd) (GE : FnOk P w K mg base CX0 2 g gd ["table", "ends"] (spEndMarks K)) (kG : PySem.W.keepIn K (.ref g) = true) (bG : Binds K gd ["table", "ends"] []) (mG : mg "end_marks" = some (.ref g)) (TK : TxK K mg C) (hA : mg "any" = none) :
    FnOk P w K mg base CX0 3 f fd ["self"] (fun vs H Q _ => ∃ (p : Addr) (x : Str) (t : List (List Nat)) (m : Nat), vs = [.ref p] ∧ Mach K C H p x t [] ∧ Right x t [] m ∧ ∀ H' : Hp, Same H H' → Q (.bl true) H') := by
  refine F.ok scIsEmpty (fun vs H Q E h => ?_) (fun cdv A outer s H vs Q E hr h => ?_)
  · obtain ⟨p, x, t, m, rfl, _⟩ := h
    rfl
  · obtain ⟨p, x, t, m, rfl, ⟨dx, a, b, us, i1, i2, i3, i4⟩, R, k⟩ := h
    refine ⟨_, pss_one (ps_ret (pe_not (pe_callB (cr_any rfl) (by rfl) hA (by decide +kernel) (pa_cons (pe_call GE hr rfl mG kG bG .nil pass0 (pa_cons (pe_fld (pv 0) rfl) (pa_cons (pe_fld (pv 0) rfl) pa_nil))) pa_nil)))), ?_⟩
    refine ⟨_, rfl, p, C, dx, _, _, rfl, i1, TK.cl, TK.nT, fld_t, _, rfl, p, C, dx, _, _, rfl, i1, TK.cl, TK.nE, fld_e, a, b, us, t, [], m, rfl, i2, i3, R.tb, R.t1, Nat.le_trans R.t4 (by decide), i4, Nat.zero_le _, fun l fs H1 hf hl s1 => ?_⟩
    refine ⟨l, _, rfl, SqL.of hl, ?_⟩
    have e : (fs.map fun q => decide (q ∈ ([] : List Nat))).any id = false := by
      rw [List.any_eq_false]
      intro z hz
      obtain ⟨q, _, rfl⟩ := List.mem_map.mp hz
      simp
    rw [e]
    exact ⟨_, rfl, k H1 s1⟩
theorem ok_isfull {f g : Addr} {fd gd : FuncData} (F : Fun K "is_full" "Machine.is_full" sIsFull f fd) (GE : FnOk P w K mg base CX0 2 g gd ["table", "ends"] (spEndMarks K)) (kG : PySem.W.keepIn K (.ref g) = true) (bG : Binds K gd ["table", "ends"] []) (mG : mg "end_marks" = some (.ref g)) (TK : TxK K mg C) (W : TxW mg) :
    FnOk P w K mg base CX0 3 f fd ["self"] (fun vs H Q _ => ∃ (p : Addr) (x : Str) (t : List (List Nat)) (es : List Nat) (m : Nat), vs = [.ref p] ∧ Mach K C H p x t es ∧ Right x t es m ∧ (∀ q, q < t.length → q ∈ es) ∧ ∀ H' : Hp, Same H H' → Q (.bl true) H') := by
  refine F.ok scIsFull (fun vs H Q E h => ?_) (fun cdv A outer s H vs Q E hr h => ?_)
  · obtain ⟨p, x, t, es, m, rfl, _⟩ := h
    rfl
  · obtain ⟨p, x, t, es, m, rfl, ⟨dx, a, b, us, i1, i2, i3, i4⟩, R, al, k⟩ := h
    refine ⟨_, pss_one (ps_ret (pe_callB (cr_all rfl) (by rfl) W.all (by decide +kernel) (pa_cons (pe_call GE hr rfl mG kG bG .nil pass0 (pa_cons (pe_fld (pv 0) rfl) (pa_cons (pe_fld (pv 0) rfl) pa_nil))) pa_nil))), ?_⟩
    have he := asc_len R.up R.lt
    have t4 := R.t4
    refine ⟨_, rfl, p, C, dx, _, _, rfl, i1, TK.cl, TK.nT, fld_t, _, rfl, p, C, dx, _, _, rfl, i1, TK.cl, TK.nE, fld_e, a, b, us, t, es, m, rfl, i2, i3, R.tb, R.t1, by omega, i4, by omega, fun l fs H1 hf hl s1 => ?_⟩
    refine ⟨l, _, rfl, SqL.of hl, ?_⟩
    have e : (fs.map fun q => decide (q ∈ es)).all id = true := by
      rw [List.all_eq_true]
      intro z hz
      obtain ⟨q, hq, rfl⟩ := List.mem_map.mp hz
      exact decide_eq_true (al q (hf q hq))
    rw [e]
    exact k H1 s1
end
end M3

set_option Elab.async false
set_option linter.all false
set_option maxRecDepth 100000
set_option maxHeartbeats 8000000
/-! # Machine.__str__; machines while dice turn -/
namespace M3
open PySem L2
abbrev sStr : Stmt := inClass (top 38) 17
theorem scStr : FnScope ["self"] ["self"] (defScope sStr) := ⟨rfl, rfl, rfl, by decide +kernel, rfl, by decide +kernel, by decide +kernel⟩
/-- how a machine of n states and k ends is told -/
def mtxt (n k : Nat) : Str := ((((Str.empty ++ ("machine of " : Str)) ++ (toString (n : Int) : Str)) ++ (" states, " : Str)) ++ (toString (k : Int) : Str)) ++ (" ends" : Str)
theorem mtxt_len : ∀ n, n < 5 → ∀ k, k < 5 → (mtxt n k).length ≤ 100 := by decide +kernel
theorem log_small : ∀ n : Nat, n < 5 → ((n : Int)).natAbs.log2 < 1920 := by decide +kernel
theorem str_len_app (a b : Str) : (a ++ b).length = a.length + b.length := by
  show (a.cps ++ b.cps).size = a.cps.size + b.cps.size
  exact Array.size_append
def spStr (K : PySem.W.Frag) (C : Addr) : Sp := fun vs H Q _ => ∃ (p : Addr) (x : Str) (t : List (List Nat)) (es : List Nat), vs = [.ref p] ∧ Mach K C H p x t es ∧ t.length < 5 ∧ es.length < 5 ∧ Q (.str (mtxt t.length es.length)) H
theorem sqt_still {K : PySem.W.Frag} {d a : Addr} {H H' : Hp} {xs : List V} (s : Still d H H') (z : Dz H d) (h : SqT K H a xs) : SqT K H' a xs := by
  obtain ⟨l, m, c, e, _⟩ := z
  rcases h with (h | ⟨u, h⟩) | h
  · exact .inl (.inl (s _ _ (fun q => by rw [q, e] at h; cases h) h))
  · exact .inl (.inr ⟨u, s _ _ (fun q => by rw [q, e] at h; cases h) h⟩)
  · exact .inr h
theorem Mach.still {K : PySem.W.Frag} {C p d : Addr} {H H' : Hp} {x : Str} {t : List (List Nat)} {es : List Nat} (h : Mach K C H p x t es) (z : Dz H d) (s : Still d H H') : Mach K C H' p x t es := by
  obtain ⟨dx, a, b, us, h1, h2, h3, h4⟩ := h
  obtain ⟨l, m, c, e, _⟩ := id z
  refine ⟨dx, a, b, us, s _ _ (fun q => by rw [q, e] at h1; cases h1) h1, sqt_still s z h2, ⟨h3.1, fun i r hr => ?_⟩, sqt_still s z h4⟩
  obtain ⟨b', b1, b2⟩ := h3.2 i r hr
  exact ⟨b', b1, sqt_still s z b2⟩
section
variable {P : Program} {w : World} {K : PySem.W.Frag} {mg : Str → Option Value} {base : Heap} {C : Addr}
theorem ok_str {f : Addr} {fd : FuncData} (F : Fun K "__str__" "Machine.__str__" sStr f fd) (Zx : TxZ mg) (TK : TxK K mg C) : FnOk P w K mg base CX0 1 f fd ["self"] (spStr K C) := by
  refine F.ok scStr (fun vs H Q E h => ?_) (fun cdv A outer s H vs Q E hr h => ?_)
  · obtain ⟨p, x, t, es, rfl, _⟩ := h
    rfl
  · obtain ⟨p, x, t, es, rfl, ⟨dx, a, b, us, h1, h2, h3, h4⟩, t5, e5, k⟩ := h
    refine ⟨_, pss_one (ps_ret (pe_joined (.cons pe_str (.cons (pe_fmt (pe_callB call_len_seq (by rfl) Zx.len PySem.boot_len (pa_cons (pe_fld (pv 0) rfl) pa_nil))) (.cons pe_str (.cons (pe_fmt (pe_callB call_len_seq (by rfl) Zx.len PySem.boot_len (pa_cons (pe_fld (pv 0) rfl) pa_nil))) (.cons pe_str .nil))))))), ?_⟩
    have le := mtxt_len _ t5 _ e5
    have big : (100 : Nat) ≤ sizeLine := by decide
    unfold mtxt at le k
    rw [str_len_app, str_len_app, str_len_app, str_len_app] at le
    refine ⟨_, rfl, Nat.le_trans (show _ ≤ 100 from ?_) big, ?_⟩
    · omega
    refine ⟨_, rfl, p, C, dx, _, _, rfl, h1, TK.cl, TK.nT, fld_t, a, us, rfl, .inr h2, .inr ⟨_, rfl, ?_, ?_⟩⟩
    · rw [h3.1]
      exact log_small _ t5
    rw [h3.1]
    refine ⟨_, rfl, Nat.le_trans (show _ ≤ 100 from ?_) big, ?_⟩
    · rw [str_len_app]
      omega
    refine ⟨_, rfl, Nat.le_trans (show _ ≤ 100 from ?_) big, ?_⟩
    · rw [str_len_app, str_len_app]
      omega
    refine ⟨_, rfl, p, C, dx, _, _, rfl, h1, TK.cl, TK.nE, fld_e, b, nts es, rfl, .inr h4, .inr ⟨_, rfl, ?_, ?_⟩⟩
    · rw [nts_length]
      exact log_small _ e5
    rw [nts_length]
    refine ⟨_, rfl, Nat.le_trans (show _ ≤ 100 from ?_) big, ?_⟩
    · rw [str_len_app, str_len_app, str_len_app]
      omega
    refine ⟨_, rfl, Nat.le_trans (show _ ≤ 100 from ?_) big, ?_⟩
    · rw [str_len_app, str_len_app, str_len_app, str_len_app]
      omega
    exact k
end
end M3

set_option Elab.async false
set_option linter.all false
set_option maxRecDepth 100000
set_option maxHeartbeats 8000000
/-! # _law_words_right -/
namespace M3
open PySem L2
abbrev sWordsRight : Stmt := top 59
abbrev nWR : List Str := ["dice", "plain", "made", "turn", "word", "times", "odd", "one"]
theorem scWR : FnScope nWR ["dice", "plain", "made"] (defScope sWordsRight) := ⟨rfl, rfl, rfl, by decide +kernel, rfl, by decide +kernel, by decide +kernel⟩
/-- a def of the top that keeps a promise -/
structure FnC (P : Program) (w : World) (K : PySem.W.Frag) (mg : Str → Option Value) (base : Heap) (k : Nat) (x : Str) (ps : List Str) (sp : Sp) where
  f : Addr
  fd : FuncData
  G : FnOk P w K mg base CX0 k f fd ps sp
  b : Binds K fd ps []
  m : mg x = some (.ref f)
  kp : PySem.W.keepIn K (.ref f) = true
/-- a method of the class at C that keeps a promise; ds: its defaults -/
structure MtC (P : Program) (w : World) (K : PySem.W.Frag) (mg : Str → Option Value) (base : Heap) (C : Addr) (k : Nat) (x : Str) (ps : List Str) (dvs : List V) (sp : Sp) where
  f : Addr
  fd : FuncData
  ds : List Value
  G : FnOk P w K mg base CX0 k f fd ps sp
  v : Vals dvs ds
  b : Binds K fd ps ds
  m : Meth K C x f
/-- the class of machines, seen from outside -/
structure TxO (K : PySem.W.Frag) (C : Addr) : Prop where
  ks : PySem.W.kitOne K (.ref C) (.type "str") = some false
  ha : PySem.W.findIn K (.ref C) "__class__" = some (some (.builtin "object.__class__"))
  hn : PySem.W.specialIn K (.builtin "object.__class__") "__get__" = some (some (.builtin "getset_descriptor.__get__"))
  tk : PySem.W.takesIn K (.builtin "object.__class__") = some true
  hm : PySem.W.mroIn K C (.type "object") = some true
  kc : PySem.W.kitOne K (.ref C) (.ref C) = some true
  kd : PySem.W.kitOne K (.type "dict") (.ref C) = some false
  ki : PySem.W.kitOne K (.type "int") (.ref C) = some false
  kt : PySem.W.kitOne K (.type "str") (.ref C) = some false
  fd : PySem.W.notFirst K C (.type "dict") = true
  fi : PySem.W.notFirst K C (.type "int") = true
  fs : PySem.W.notFirst K C (.type "str") = true
  ne : PySem.W.findIn K (.ref C) "__ne__" = some (some (.builtin "object.__ne__"))
theorem kit_nstr : ∀ n ∈ ["NoneType", "int", "tuple", "dict", "list", "bool"], kitB n "str" = some false := by decide +kernel
/-- odd values: none of them is a word -/
theorem up1 : ∀ a ∈ six, only (Txt.upper ⟨#[a]⟩) "abcdefghijklmnopqrstuvwxyz" = false := by decide +kernel
theorem up2 : ∀ a ∈ six, ∀ b ∈ six, only (Txt.upper ⟨#[a, b]⟩) "abcdefghijklmnopqrstuvwxyz" = false := by decide +kernel
theorem upl1 : ∀ a ∈ six, (Txt.upper ⟨#[a]⟩).length ≤ 1000 := by decide +kernel
theorem upl2 : ∀ a ∈ six, ∀ b ∈ six, (Txt.upper ⟨#[a, b]⟩).length ≤ 1000 := by decide +kernel
theorem upq1 : ∀ a ∈ six, only ((⟨#[a]⟩ : Str) ++ "q") ⟨#[a]⟩ = false := by decide +kernel
theorem upq2 : ∀ a ∈ six, ∀ b ∈ six, only ((⟨#[a, b]⟩ : Str) ++ "q") ⟨#[a, b]⟩ = false := by decide +kernel
theorem q1 : ∀ a ∈ six, only "q" ⟨#[a]⟩ = false := by decide +kernel
theorem q2 : ∀ a ∈ six, ∀ b ∈ six, only "q" ⟨#[a, b]⟩ = false := by decide +kernel
theorem let1 : ∀ a ∈ six, only ⟨#[a]⟩ "abcdefghijklmnopqrstuvwxyz" = true := by decide +kernel
theorem set_two {x : Str} {n : Nat} {p : Str → Prop} (h : IsSet x n) (h1 : 1 ≤ n) (h2 : n ≤ 2) (p1 : ∀ a ∈ six, p ⟨#[a]⟩) (p2 : ∀ a ∈ six, ∀ b ∈ six, p ⟨#[a, b]⟩) : p x := by
  obtain ⟨cs, rfl, hl, hp, hm⟩ := h
  match cs, hl, hm with
  | [], hl, _ =>
    have hl : 0 = n := hl
    omega
  | [a], _, hm => exact p1 a (hm a List.mem_cons_self)
  | [a, b], _, hm => exact p2 a (hm a List.mem_cons_self) b (hm b (List.mem_cons_of_mem _ List.mem_cons_self))
  | _ :: _ :: _ :: l, hl, _ =>
    have hl : l.length + 3 = n := hl
    omega
theorem only_all {x : Str} {n : Nat} (h : IsSet x n) {y : Str} (hw : IsW x y) : only y "abcdefghijklmnopqrstuvwxyz" = true := by
  obtain ⟨cs, rfl, hl, hp, hm⟩ := h
  unfold only
  rw [List.all_eq_true]
  intro c hc
  have h1 := hm c (by simpa using hw c hc)
  have h2 := let1 c h1
  unfold only at h2
  rw [List.all_eq_true] at h2
  exact h2 c (by simp)
theorem times_of {v : V} {r : Nat} (hr : r < 30) (h : v ∈ [V.int 0, .int 1, .int 2, .int 3, .int 5, .int 12, .int 13, .int 999, .int ((10 : Int) ^ (11 : Int).toNat - (r : Int)), .int ((10 : Int) ^ (11 : Int).toNat)]) : ∃ n : Nat, v = .int (n : Nat) ∧ n ≤ 100000000000 := by
  have es : (10 : Int) ^ (11 : Int).toNat = 100000000000 := by decide +kernel
  rw [es] at h
  simp only [List.mem_cons, List.not_mem_nil, or_false] at h
  rcases h with h | h | h | h | h | h | h | h | h | h
  · exact ⟨0, h, by decide⟩
  · exact ⟨1, h, by decide⟩
  · exact ⟨2, h, by decide⟩
  · exact ⟨3, h, by decide⟩
  · exact ⟨5, h, by decide⟩
  · exact ⟨12, h, by decide⟩
  · exact ⟨13, h, by decide⟩
  · exact ⟨999, h, by decide⟩
  · refine ⟨100000000000 - r, ?_, by omega⟩
    rw [h]
    congr 1
    omega
  · exact ⟨100000000000, h, by decide⟩
theorem kf1 : ¬ (("after" : Str) = "_ends") := by decide +kernel
theorem kf2 : ¬ (("after" : Str) = "_table") := by decide +kernel
theorem kf3 : ¬ (("after" : Str) = "_letters") := by decide +kernel
theorem fld_after {x : Str} {a b : Addr} : (flds x a b).lookup ("after" : Str) = none := by
  unfold flds
  rw [lookup_putF, if_neg kf1, lookup_putF, if_neg kf2, lookup_putF, if_neg kf3]
  rfl
theorem ne_not {v u : V} (h : v = u) : (!decide (v = u)) = false := by
  rw [decide_eq_true h]
  rfl
theorem same_still {d : Addr} {H H' : Hp} (s : Same H H') : Still d H H' := fun b o _ h => s b o h
theorem same_dz {d : Addr} {H H' : Hp} (s : Same H H') (z : Dz H d) : Dz H' d := by
  obtain ⟨l, m, c, e, h⟩ := z
  exact ⟨l, m, c, s _ _ e, h⟩
/-- a value that is no word of any of these machines -/
def OddV (K : PySem.W.Frag) (x : Str) (H : Hp) (v : V) : Prop := ∃ (tv : Value) (b : Bool), TyX K H v tv ∧ PySem.W.kitOne K tv (.type "str") = some b ∧ (b = true → ∃ y : Str, v = .str y ∧ y.length ≤ 1000000 ∧ (only y "abcdefghijklmnopqrstuvwxyz" && only y x) = false)
theorem odd_ty {K : PySem.W.Frag} {x : Str} {H : Hp} {v : V} {n : String} (ty : TyOf K H v (.type n)) (h : n ∈ ["NoneType", "int", "tuple", "dict", "list", "bool"]) : OddV K x H v := ⟨_, false, .base ty, kit_ty (kit_nstr n h), fun z => by cases z⟩
theorem odd_str {K : PySem.W.Frag} {x : Str} {H : Hp} {y : Str} (hy : y.length ≤ 1000000) (h : (only y "abcdefghijklmnopqrstuvwxyz" && only y x) = false) : OddV K x H (.str y) := ⟨_, true, .base (.str y), kit_str, fun _ => ⟨y, rfl, hy, h⟩⟩
theorem odd_none {x y : Str} (h : only y "abcdefghijklmnopqrstuvwxyz" = false) : (only y "abcdefghijklmnopqrstuvwxyz" && only y x) = false := by
  rw [h]
  rfl
theorem odd_foreign {x y : Str} (h : only y x = false) : (only y "abcdefghijklmnopqrstuvwxyz" && only y x) = false := by
  rw [h, Bool.and_false]
theorem nw1 : only "a b" "abcdefghijklmnopqrstuvwxyz" = false := by decide +kernel
theorem nw2 : only "Q" "abcdefghijklmnopqrstuvwxyz" = false := by decide +kernel
theorem nw3 : only "a\n" "abcdefghijklmnopqrstuvwxyz" = false := by decide +kernel
theorem nwl : ("a b" : Str).length ≤ 1000000 ∧ ("Q" : Str).length ≤ 1000000 ∧ ("a\n" : Str).length ≤ 1000000 ∧ ("q" : Str).length = 1 := by decide +kernel
theorem nil_eqv : PyData.eqv (.list []) (.list []) = true := by decide +kernel
theorem nil_shaped : SeqAt.shaped (.list []) = true := by decide +kernel
def spWR (K : PySem.W.Frag) (C : Addr) : Sp := fun vs H Q _ => ∃ (d p q : Addr) (x : Str) (t : List (List Nat)) (es : List Nat) (m : Nat), vs = [.ref d, .ref p, .ref q] ∧ Dz H d ∧ Plain d H p x t es ∧ Mach K C H q x t es ∧ Right x t es m ∧
  ∀ H' : Hp, Dz H' d → Still d H H' → Q (.bl true) H'
section
variable {P : Program} {w : World} {K : PySem.W.Frag} {mg : Str → Option Value} {base : Heap} {C : Addr}
theorem ok_wr {f fI : Addr} {fd dI : FuncData} (F : Fun K "_law_words_right" "_law_words_right" sWordsRight f fd)
    (cW : FnC P w K mg base 3 "_law_word" ["dice", "letters", "most"] spWord) (cO : FnC P w K mg base 2 "_law_one_of" ["dice", "items"] (spOneOf K)) (cR : FnC P w K mg base 1 "_law_roll" ["dice", "total"] spDraw)
    (cL : FnC P w K mg base 1 "_law_led" ["table", "letters", "word", "start"] (spLawLed K)) (cP : FnC P w K mg base 2 "_law_repeated" ["plain", "word", "times"] spRep) (cH : FnC P w K mg base 2 "_law_has" ["plain", "word"] (spHas K))
    (mA : MtC P w K mg base C 4 "after" ["self", "word", "times"] [.int 1] (spAfter K C)) (kA : KBn K mA.fd ["self", "word", "times"] 2 ["times"] (fun us ws => us ++ ws) (fun vs zs => vs ++ zs))
    (GI : FnOk P w K mg base CX0 3 fI dI ["self", "x"] (spContains K C)) (bI : Binds K dI ["self", "x"] []) (mI : Meth K C "__contains__" fI) (TK : TxK K mg C) (TO : TxO K C) (M : TxM mg) :
    FnOk P w K mg base CX0 5 f fd ["dice", "plain", "made"] (spWR K C) := by
  refine F.ok scWR (fun vs H Q E h => ?_) (fun cdv A outer s H vs Q E hr h => ?_)
  · obtain ⟨d, p, q, x, t, es, m, rfl, _⟩ := h
    rfl
  · obtain ⟨d, p, q, x, t, es, m, rfl, Z, Pl, Ma, R, k⟩ := h
    have hu := hu_of hr
    have hr3 : Room 3 _ := hr.mono (by decide)
    have hr2 : Room 2 _ := hr.mono (by decide)
    have hr1 : Room 1 _ := hr.mono (by decide)
    refine ⟨_, pss_cons (ps_for PassesOwn.never rfl (pi_range1 rfl M.range (pa_cons pe_int pa_nil)) (pg_name (i := 3) scWR.nd rfl (Or.inl rfl))
        (pss_cons (ps_set (i := 4) scWR.nd rfl (Or.inl rfl) (pe_call cW.G hr3 rfl cW.m cW.kp cW.b .nil pass0 (pa_cons (pv 0) (pa_cons (pe_dget hu (pv 1) pe_str (fun _ _ => rfl)) (pa_cons pe_int pa_nil)))))
        (pss_cons (ps_set (i := 5) scWR.nd rfl (Or.inl rfl) (pe_call cO.G hr2 rfl cO.m cO.kp cO.b .nil pass0 (pa_cons (pv 0) (pa_cons (pe_lst (pa_cons pe_int (pa_cons pe_int (pa_cons pe_int (pa_cons pe_int (pa_cons pe_int (pa_cons pe_int (pa_cons pe_int (pa_cons pe_int
            (pa_cons (pe_op op_sub (pe_op op_pow pe_int pe_int) (pe_call cR.G hr1 rfl cR.m cR.kp cR.b .nil pass0 (pa_cons (pv 0) (pa_cons pe_int pa_nil)))) (pa_cons (pe_op op_pow pe_int pe_int) pa_nil))))))))))) pa_nil))))
        (pss_cons (ps_if (pt_cmpR op_ne (pe_meth (pv 2) TK.cl mA.m mA.G hr mA.b mA.v pass0 (pa_cons (pv 4) pa_nil)) (pe_call cL.G hr1 rfl cL.m cL.kp cL.b .nil pass0 (pa_cons (pe_dget hu (pv 1) pe_str (fun _ _ => rfl)) (pa_cons (pe_dget hu (pv 1) pe_str (fun _ _ => rfl)) (pa_cons (pv 4) (pa_cons pe_int pa_nil))))) (nomark _)) (pss_one (ps_ret pe_bl)) pss_nil)
        (pss_cons (ps_if (pt_cmpR op_ne (NvO.pe_methN (pv 2) TK.cl mA.m mA.G hr kA pass0 (pa_cons (pv 4) pa_nil) (pk_cons (pv 5) pk_nil)) (pe_call cP.G hr2 rfl cP.m cP.kp cP.b .nil pass0 (pa_cons (pv 1) (pa_cons (pv 4) (pa_cons (pv 5) pa_nil)))) (nomark _)) (pss_one (ps_ret pe_bl)) pss_nil)
        (pss_one (ps_if (pt_cmpR op_ne (pe_cmpR (NvO.op_inO GI hr3 bI pass0 mI.at_ mI.fn) (pv 4) (pv 2) (by rfl)) (pe_call cH.G hr2 rfl cH.m cH.kp cH.b .nil pass0 (pa_cons (pv 1) (pa_cons (pv 4) pa_nil))) (nomark _)) (pss_one (ps_ret pe_bl)) pss_nil)))))))
      (pss_cons (ps_set (i := 6) scWR.nd rfl (Or.inl rfl) (pe_lst (pa_cons pe_non (pa_cons pe_int (pa_cons (pe_tup pa_nil) (pa_cons (pe_tup (pa_cons pe_str pa_nil)) (pa_cons (pe_upper (pe_dget hu (pv 1) pe_str (fun _ _ => rfl))) (pa_cons pe_str (pa_cons (pv 2) (pa_cons pe_dnewK (pa_cons (pe_lst pa_nil) (pa_cons pe_bl (pa_cons pe_str (pa_cons pe_str (pa_cons pe_str pa_nil)))))))))))))))
      (pss_cons (ps_expr (pe_bm PySem.F.plainAttrs_list PySem.F.slot_list_append PySem.F.type_list_append mt_append (pv 6) (pa_cons (pe_op op_add_str (pe_dget hu (pv 1) pe_str (fun _ _ => rfl)) pe_str) pa_nil)))
      (pss_one (ps_ret (pe_cmpR (op_eqD hr.units) (pe_lc (own := [("one", 7)]) (g := gName 7) rfl scWR.nd (pi_list (pv 6)) (blkOk_by (N := nWR) (sc := defScope sWordsRight) (by decide +kernel)) (fun _ _ _ _ _ => pg_name (i := 7) scWR.nd rfl (Or.inl rfl))
        (fun _ _ _ _ _ => pts_one (pt_cmpR (NvO.op_inO GI hr3 bI pass0 mI.at_ mI.fn) (pv 7) (pv 2) (by rfl))) (fun _ _ _ _ _ => pv 7)) (pe_lst pa_nil) (nomark _)))))), ?_⟩
    have x1 : 0 < x.length ∧ x.length ≤ 100 := by
      have := set_len R.st
      have := R.m1
      have := R.m2
      omega
    have pw : (0 : Int) ≤ 11 ∧ (11 : Int) ≤ 1000000 ∧ ((10 : Int)).natAbs < 2 ^ 64 := by decide
    refine ⟨8, rfl, by decide, by decide, for_range (lo := 0) (n := 8) (fun i σ H' => (∃ v1 v2 v3 : Option V, σ = [some (.ref d), some (.ref p), some (.ref q), v1, v2, v3, none, none]) ∧ Dz H' d ∧ Still d H H') ⟨⟨none, none, none, rfl⟩, Z, Still.refl d H⟩ ?_ ?_⟩
    · rintro i σ H1 hi ⟨⟨v1, v2, v3, rfl⟩, Z1, S1⟩
      have Pl1 := Pl.still Z S1
      obtain ⟨⟨a, b, us, hp, ad, ha, RT, bd, hb⟩, tb, up, lt⟩ := id Pl1
      refine ⟨_, rfl, _, rfl, p, _, rfl, get_l hp, d, x, 6, rfl, Z1, x1.1, x1.2, by decide, fun y H2 hw hl Z2 S2 => ?_⟩
      refine ⟨_, rfl, _, _, rfl, rfl, pw, _, rfl, d, 30, rfl, Z2, by decide, by decide, fun r H3 rn Z3 S3 => ⟨_, _, rfl, rfl, _, _, rfl, rfl, pw, (by show 10 ≤ sizeLine; decide), fun l nl => ?_⟩⟩
      refine ⟨d, l, _, rfl, Z3.new nl, SqL.of upd_same, Z3.not nl, (by show 0 < 10; decide), (by show 10 < 1000000; decide), fun v H4 hv T4 => ?_⟩
      obtain ⟨n, rfl, hn⟩ := times_of rn hv
      have Z4 := T4.dz
      have S4 : Still d H1 H4 := ((S2.trans S3).new nl).turn T4
      clear hv T4
      have Pl4 := Pl1.still Z1 S4
      have Ma4 := (Ma.still Z S1).still Z1 S4
      obtain ⟨⟨a, b, us, hp, ad, ha, RT, bd, hb⟩, tb, up, lt⟩ := id Pl4
      obtain ⟨dx, a', b', us', i1, i2, i3, i4⟩ := id Ma4
      have ho := only_all R.st hw
      have hy : y.length ≤ 1000000 := by omega
      refine ⟨_, rfl, q, dx, _, rfl, i1, fld_after, _, rfl, q, x, y, t, es, m, 1, rfl, Ma4, R, hw, ho, hy, by decide, fun H5 s5 => ?_⟩
      refine ⟨_, rfl, p, _, rfl, get_t (s5 _ _ hp), _, rfl, p, _, rfl, get_l (s5 _ _ hp), _, rfl, a, x, y, 0, t.length, m, t, us, rfl, SqL.of (s5 _ _ ha), (tups_of RT).same s5, R.tb, R.st, R.m2, hw, R.t1, rfl, _, rfl, ?_⟩
      rw [ne_not (show V.int ((iter t x y 1 : Nat) : Int) = V.int ((goes t x 0 y.cps.toList : Nat) : Int) from rfl)]
      refine iteF ?_
      refine ⟨_, rfl, q, dx, _, rfl, s5 _ _ i1, fld_after, _, rfl, _, rfl, rfl, rfl, q, x, y, t, es, m, n, rfl, Ma4.same s5, R, hw, ho, hy, hn, fun H6 s6 => ?_⟩
      have s56 := s5.trans s6
      refine ⟨_, rfl, _, rfl, _, rfl, p, d, x, y, t, es, m, n, rfl, Pl4.still Z4 (same_still s56), R.st, R.m2, R.t1, R.t4, hw, fun H7 s7 => ⟨rfl, _, rfl, ?_⟩⟩
      rw [ne_not rfl]
      refine iteF ?_
      have s57 := s56.trans s7
      refine ⟨_, rfl, _, rfl, q, dx, _, rfl, s57 _ _ i1, q, .str y, .type "str", true, x, t, es, m, rfl, Ma4.same s57, R, .base (.str y), kit_str, (fun z => by cases z), fun _ => ⟨y, rfl, hy, fun H8 s8 => ⟨_, rfl, ?_⟩⟩⟩
      have s58 := s57.trans s8
      refine ⟨_, rfl, _, rfl, p, d, x, y, t, es, m, rfl, Pl4.still Z4 (same_still s58), R.st, R.m2, R.t1, hw, rfl, _, rfl, ?_⟩
      rw [ne_not (show V.bl (only y "abcdefghijklmnopqrstuvwxyz" && (only y x && decide (goes t x 0 y.cps.toList ∈ es))) = V.bl (decide (goes t x 0 y.cps.toList ∈ es)) by rw [ho, only_of hw]; rfl)]
      refine iteF ?_
      exact ⟨⟨_, _, _, rfl⟩, same_dz s58 Z4, (S1.trans S4).trans (same_still s58)⟩
    · rintro σ H1 ⟨⟨v1, v2, v3, rfl⟩, Z1, S1⟩
      have Pl1 := Pl.still Z S1
      have Ma1 := Ma.still Z S1
      obtain ⟨⟨a, b, us, hp, ad, ha, RT, bd, hb⟩, tb, up, lt⟩ := id Pl1
      obtain ⟨dx, a', b', us', i1, i2, i3, i4⟩ := id Ma1
      have xl : x.length ≤ 5592405 := Nat.le_trans x1.2 (by decide)
      refine ⟨(by show 0 ≤ sizeLine; decide), fun t1 n1 => ⟨(by show 1 ≤ sizeLine; decide), fun t2 n2 => ⟨_, rfl, p, _, rfl, get_l (keep_new (keep_new hp n1) n2), ⟨_, rfl⟩, x, rfl, rfl, xl, _, rfl, fun t3 n3 => ⟨(by show 0 ≤ sizeLine; decide), fun t4 n4 => ⟨(by show 13 ≤ sizeLine; decide), fun L nL => ?_⟩⟩⟩⟩⟩
      have s4 : Same H1 (upd (upd (upd (upd H1 t1 (.tup [])) t2 (.tup [.str "a"])) t3 (.dK [])) t4 (.lst [])) := Same.new (Same.new (Same.new (Same.new (Same.refl H1) n1) n2) n3) n4
      have g1 : (upd (upd (upd (upd H1 t1 (.tup [])) t2 (.tup [.str "a"])) t3 (.dK [])) t4 (.lst [])) t1 = some (.tup []) := keep_new (keep_new (keep_new upd_same n2) n3) n4
      have g2 : (upd (upd (upd (upd H1 t1 (.tup [])) t2 (.tup [.str "a"])) t3 (.dK [])) t4 (.lst [])) t2 = some (.tup [.str "a"]) := keep_new (keep_new upd_same n3) n4
      have g3 : (upd (upd (upd (upd H1 t1 (.tup [])) t2 (.tup [.str "a"])) t3 (.dK [])) t4 (.lst [])) t3 = some (.dK []) := keep_new upd_same n4
      have g4 : (upd (upd (upd (upd H1 t1 (.tup [])) t2 (.tup [.str "a"])) t3 (.dK [])) t4 (.lst [])) t4 = some (.lst []) := upd_same
      generalize upd (upd (upd (upd H1 t1 (.tup [])) t2 (.tup [.str "a"])) t3 (.dK [])) t4 (.lst []) = H2 at s4 g1 g2 g3 g4 nL ⊢
      have xq : x.length + ("q" : Str).length ≤ sizeLine := Nat.le_trans (show _ ≤ 1000 by have := nwl.2.2.2; have := x1.2; omega) (by decide)
      refine ⟨_, rfl, .inl ⟨rfl, _, SqL.of upd_same⟩, _, rfl, p, _, rfl, get_l (keep_new (s4 _ _ hp) nL), x, "q", rfl, rfl, xq, L, _, _, rfl, rfl, upd_same, (by show 13 < sizeLine; decide), ?_⟩
      rw [upd_upd]
      have s5 : Same H1 (upd H2 L (.lst ([V.non, .int 0, .ref t1, .ref t2, .str (Txt.upper x), .str "a b", .ref q, .ref t3, .ref t4, .bl true, .str "Q", .str "q", .str "a\n"] ++ [.str (x ++ "q")]))) := Same.new s4 nL
      have h1 := keep_new (u := .lst ([V.non, .int 0, .ref t1, .ref t2, .str (Txt.upper x), .str "a b", .ref q, .ref t3, .ref t4, .bl true, .str "Q", .str "q", .str "a\n"] ++ [.str (x ++ "q")])) g1 nL
      have h2 := keep_new (u := .lst ([V.non, .int 0, .ref t1, .ref t2, .str (Txt.upper x), .str "a b", .ref q, .ref t3, .ref t4, .bl true, .str "Q", .str "q", .str "a\n"] ++ [.str (x ++ "q")])) g2 nL
      have h3 := keep_new (u := .lst ([V.non, .int 0, .ref t1, .ref t2, .str (Txt.upper x), .str "a b", .ref q, .ref t3, .ref t4, .bl true, .str "Q", .str "q", .str "a\n"] ++ [.str (x ++ "q")])) g3 nL
      have h4 := keep_new (u := .lst ([V.non, .int 0, .ref t1, .ref t2, .str (Txt.upper x), .str "a b", .ref q, .ref t3, .ref t4, .bl true, .str "Q", .str "q", .str "a\n"] ++ [.str (x ++ "q")])) g4 nL
      have hL : (upd H2 L (.lst ([V.non, .int 0, .ref t1, .ref t2, .str (Txt.upper x), .str "a b", .ref q, .ref t3, .ref t4, .bl true, .str "Q", .str "q", .str "a\n"] ++ [.str (x ++ "q")]))) L = some (.lst ([V.non, .int 0, .ref t1, .ref t2, .str (Txt.upper x), .str "a b", .ref q, .ref t3, .ref t4, .bl true, .str "Q", .str "q", .str "a\n"] ++ [.str (x ++ "q")])) := upd_same
      generalize upd H2 L (.lst ([V.non, .int 0, .ref t1, .ref t2, .str (Txt.upper x), .str "a b", .ref q, .ref t3, .ref t4, .bl true, .str "Q", .str "q", .str "a\n"] ++ [.str (x ++ "q")])) = H3 at s5 h1 h2 h3 h4 hL ⊢
      have odd : ∀ (H9 : Hp), Same H3 H9 → ∀ v ∈ ([V.non, .int 0, .ref t1, .ref t2, .str (Txt.upper x), .str "a b", .ref q, .ref t3, .ref t4, .bl true, .str "Q", .str "q", .str "a\n"] ++ [.str (x ++ "q")]), OddV K x H9 v := fun H9 sm v hv => by
        simp only [List.cons_append, List.nil_append, List.mem_cons, List.not_mem_nil, or_false] at hv
        rcases hv with rfl | rfl | rfl | rfl | rfl | rfl | rfl | rfl | rfl | rfl | rfl | rfl | rfl | rfl
        · exact odd_ty .non (by decide)
        · exact odd_ty (.int 0) (by decide)
        · exact odd_ty (.tup (sm _ _ h1)) (by decide)
        · exact odd_ty (.tup (sm _ _ h2)) (by decide)
        · refine odd_str (set_two (p := fun z => (Txt.upper z).length ≤ 1000000) R.st R.m1 R.m2 (fun a ha => Nat.le_trans (upl1 a ha) (by decide)) (fun a ha b hb => Nat.le_trans (upl2 a ha b hb) (by decide))) (odd_none (set_two (p := fun z => only (Txt.upper z) "abcdefghijklmnopqrstuvwxyz" = false) R.st R.m1 R.m2 up1 up2))
        · exact odd_str nwl.1 (odd_none nw1)
        · exact ⟨.ref C, false, .base (.ins (sm _ _ (s5 _ _ i1)) TK.cl TO.ha TO.hn TO.tk TO.hm), TO.ks, fun z => by cases z⟩
        · exact odd_ty (.dK (sm _ _ h3)) (by decide)
        · exact odd_ty (.lst (sm _ _ h4)) (by decide)
        · exact odd_ty (.bl true) (by decide)
        · exact odd_str nwl.2.1 (odd_none nw2)
        · exact odd_str (by have := nwl.2.2.2; omega) (odd_foreign (set_two (p := fun z => only "q" z = false) R.st R.m1 R.m2 q1 q2))
        · exact odd_str nwl.2.2.1 (odd_none nw3)
        · refine odd_str ?_ (odd_foreign (set_two (p := fun z => only (z ++ "q") z = false) R.st R.m1 R.m2 upq1 upq2))
          rw [str_len_app]
          have := nwl.2.2.2
          have := x1.2
          omega
      refine ⟨_, rfl, L, rfl, ⟨_, SqL.of hL⟩, fun D nD => lc_list (K := K) (a := L) (Pv := fun _ H9 => H9 D = some (.lst []) ∧ ∀ b o, b ≠ D → H3 b = some o → H9 b = some o)
        ⟨upd_same, fun b o hb h => keep_new h nD⟩ (fun i H9 _ ⟨_, z⟩ => SqL.of (z _ _ (fun y => by rw [← y, hL] at nD; cases nD) hL)) ?_ ?_⟩
      · rintro i v H9 hv ⟨q1, q2⟩
        have sm : Same H3 H9 := fun b o h => q2 b o (fun y => by rw [y, nD] at h; cases h) h
        obtain ⟨tv, bb, ty, kt, hbb⟩ := odd H9 sm v (List.mem_of_getElem? hv)
        have s9 := s5.trans sm
        refine ⟨rfl, ?_⟩
        refine ⟨_, rfl, _, rfl, q, dx, _, rfl, s9 _ _ i1, q, v, tv, bb, x, t, es, m, rfl, Ma1.same s9, R, ty, kt, fun e => ⟨_, rfl, _, rfl, iteF ⟨q1, q2⟩⟩, fun e => ?_⟩
        obtain ⟨y, rfl, hy, ho⟩ := hbb e
        refine ⟨y, rfl, hy, fun H10 s10 => ⟨_, rfl, _, rfl, ?_⟩⟩
        rw [← Bool.and_assoc, ho]
        exact iteF ⟨s10 _ _ q1, fun b o hb h => s10 _ _ (q2 b o hb h)⟩
      · rintro H9 ⟨q1, q2⟩
        have sm : Same H3 H9 := fun b o h => q2 b o (fun y => by rw [y, nD] at h; cases h) h
        have s9 := s5.trans sm
        refine ⟨(by show 0 ≤ sizeLine; decide), fun l5 n5 => ?_⟩
        refine ⟨.list [], .list [], .lst (SqL.of (keep_new q1 n5)) .nil, .lst (SqL.of upd_same) .nil, nil_shaped, nil_shaped, ?_⟩
        rw [nil_eqv]
        have s10 : Same H1 (upd H9 l5 (.lst [])) := Same.new s9 n5
        exact k _ (same_dz s10 Z1) (S1.trans (same_still s10))
end
end M3

set_option Elab.async false
set_option linter.all false
set_option maxRecDepth 100000
set_option maxHeartbeats 8000000
/-! # _law_right -/
namespace M3
open PySem L2
abbrev sRight : Stmt := top 60
abbrev nRight : List Str := ["dice", "plain", "near", "made", "other", "told", "text"]
theorem scRight : FnScope nRight ["dice"] (defScope sRight) := ⟨rfl, rfl, rfl, by decide +kernel, rfl, by decide +kernel, by decide +kernel⟩
/-- a property of the class at C whose getter keeps a promise -/
structure PrC (P : Program) (w : World) (K : PySem.W.Frag) (mg : Str → Option Value) (base : Heap) (C : Addr) (k : Nat) (x : Str) (sp : Sp) where
  (pa g : Addr)
  fd : FuncData
  hp : PropOf K C x pa g
  G : FnOk P w K mg base CX0 k g fd ["self"] sp
  b : Binds K fd ["self"] []
/-- a method that is asked by an operator or a built-in -/
structure OpC (P : Program) (w : World) (K : PySem.W.Frag) (mg : Str → Option Value) (base : Heap) (C : Addr) (k : Nat) (x : Str) (ps : List Str) (sp : Sp) where
  f : Addr
  fd : FuncData
  G : FnOk P w K mg base CX0 k f fd ps sp
  b : Binds K fd ps []
  m : Meth K C x f
def dNs (es : List Nat) : PyData := .list (es.map fun n => .int ((n : Nat) : Int))
def dTs (t : List (List Nat)) : PyData := .list (t.map dN)
def dTold (x : Str) (t : List (List Nat)) (es : List Nat) (n : Nat) : PyData := .list [.str x, dTs t, dNs es, .int ((n : Nat) : Int)]
theorem eqv_dNs (a b : List Nat) : (dNs a).eqv (dNs b) = decide (a = b) := by
  unfold dNs
  rw [PyData.eqv]
  exact eqv_nats a b
theorem eqv_dTs (a b : List (List Nat)) : (dTs a).eqv (dTs b) = decide (a = b) := by
  unfold dTs
  rw [PyData.eqv]
  exact eqv_tabs a b
theorem eqv_told (x : Str) (t : List (List Nat)) (es : List Nat) (n : Nat) : (dTold x t es n).eqv (dTold x t es n) = true := by
  unfold dTold
  rw [PyData.eqv]
  simp only [PyData.eqvAll, eqv_dNs, eqv_dTs, PyData.eqv]
  simp
theorem shaped_dNs (es : List Nat) : SeqAt.shaped (dNs es) = true := by
  unfold SeqAt.shaped
  have h1 : (dNs es).canLay0 = true := by
    unfold dNs
    simp only [PyData.canLay0, lay_nats]
  have h2 : (dNs es).depth ≤ 64 := by
    unfold dNs
    simp only [PyData.depth, dep_nats]
    omega
  rw [h1, decide_eq_true h2]
  rfl
theorem shaped_dTs (t : List (List Nat)) : SeqAt.shaped (dTs t) = true := by
  unfold SeqAt.shaped
  have h1 : (dTs t).canLay0 = true := by
    unfold dTs
    simp only [PyData.canLay0, lay_rows]
  have h2 : (dTs t).depth ≤ 64 := by
    have r := dep_rows t
    unfold dTs
    simp only [PyData.depth]
    omega
  rw [h1, decide_eq_true h2]
  rfl
theorem shaped_told {x : Str} {t : List (List Nat)} {es : List Nat} {n m : Nat} (h : IsSet x m) : SeqAt.shaped (dTold x t es n) = true := by
  unfold SeqAt.shaped
  have h1 : (dTold x t es n).canLay0 = true := by
    unfold dTold dTs dNs
    simp only [PyData.canLay0, PyData.canLayAll0, lay_rows, lay_nats, set_ok h, Bool.and_self]
  have h2 : (dTold x t es n).depth ≤ 64 := by
    have r := dep_rows t
    unfold dTold dTs dNs
    simp only [PyData.depth, PyData.depthAll, dep_nats]
    omega
  rw [h1, decide_eq_true h2]
  rfl
theorem shaped_str {x : Str} {m : Nat} (h : IsSet x m) : SeqAt.shaped (.str x) = true := by
  unfold SeqAt.shaped
  have h1 : (PyData.str x).canLay0 = true := by
    simp only [PyData.canLay0, set_ok h]
  have h2 : (PyData.str x).depth ≤ 64 := by
    simp only [PyData.depth]
    omega
  rw [h1, decide_eq_true h2]
  rfl
theorem eqv_str (x : Str) : PyData.eqv (.str x) (.str x) = true := by
  simp only [PyData.eqv]
  simp
/-- two plain machines with the same letters are equal just if tables and ends are -/
theorem plain_hits {K : PySem.W.Frag} {d p q : Addr} {H : Hp} {x : Str} {t t' : List (List Nat)} {es es' : List Nat} {m : Nat} (h : Plain d H p x t es) (h' : Plain d H q x t' es') (hx : IsSet x m) :
    ∃ ks ls : List (Key × V), H p = some (.dK ks) ∧ H q = some (.dK ls) ∧ ks.length = ls.length ∧ NvO.HitsD K H ls ks (decide (x = x) && (decide (t = t') && decide (es = es'))) := by
  obtain ⟨⟨a, b, us, hp, ad, ha, R, bd, hb⟩, _, _, _⟩ := h
  obtain ⟨⟨a', b', us', hq, ad', ha', R', bd', hb'⟩, _, _, _⟩ := h'
  refine ⟨_, _, hp, hq, rfl, ?_⟩
  have e : (decide (x = x) && (decide (t = t') && decide (es = es'))) = (PyData.eqv (.str x) (.str x) && (PyData.eqv (dTs t) (dTs t') && (PyData.eqv (dNs es) (dNs es') && true))) := by
    rw [eqv_str, eqv_dTs, eqv_dNs, Bool.and_true]
    congr 1
    exact decide_eq_true rfl
  rw [e]
  exact .cons plain_l (.str x) (.str x) (shaped_str hx) (shaped_str hx)
    (.cons plain_t (.lst (SqL.of ha) (dp_rows t us (tups_of R))) (.lst (SqL.of ha') (dp_rows t' us' (tups_of R'))) (shaped_dTs t) (shaped_dTs t')
    (.cons plain_e (.lst (SqL.of hb) (dp_nats es)) (.lst (SqL.of hb') (dp_nats es')) (shaped_dNs es) (shaped_dNs es') .nil))
theorem three_false : (PyData.list [.bool false, .bool false, .bool false]).eqv (.list [.bool false, .bool false, .bool false]) = true := by decide +kernel
theorem three_shaped : SeqAt.shaped (.list [.bool false, .bool false, .bool false]) = true := by decide +kernel
theorem empty_app : Str.empty ++ ("machine of " : Str) = "machine of " := by decide +kernel
theorem empty_len : (Str.empty : Str).length = 0 := by decide +kernel
theorem first_self {K : PySem.W.Frag} {C : Addr} : PySem.W.notFirst K C (.ref C) = true := by simp [PySem.W.notFirst]
theorem two_bools (b : Bool) : decide (V.bl (!b) = V.bl b) = false := by
  cases b <;> decide
theorem all_same (x : Str) (t : List (List Nat)) (es : List Nat) : (decide (x = x) && (decide (t = t) && decide (es = es))) = true := by
  rw [decide_eq_true rfl, decide_eq_true rfl, decide_eq_true rfl]
  rfl
def spRight : Sp := fun vs H Q _ => ∃ d : Addr, vs = [.ref d] ∧ Dz H d ∧ ∀ H' : Hp, Dz H' d → Still d H H' → Q (.bl true) H'
section
variable {P : Program} {w : World} {K : PySem.W.Frag} {mg : Str → Option Value} {base : Heap} {C : Addr}
theorem ok_right {f : Addr} {fd : FuncData} (F : Fun K "_law_right" "_law_right" sRight f fd)
    (cR : FnC P w K mg base 1 "_law_roll" ["dice", "total"] spDraw) (cL : FnC P w K mg base 3 "_law_letters" ["dice", "total"] spLetters) (cM : FnC P w K mg base 4 "_law_machine" ["dice", "letters", "states"] spMachine)
    (cN : FnC P w K mg base 2 "_law_near" ["dice", "plain"] spNear) (cK : FnC P w K mg base 6 "_law_made_machine" ["plain"] (spMade K C)) (cW : FnC P w K mg base 5 "_law_words_right" ["dice", "plain", "made"] (spWR K C))
    (pL : PrC P w K mg base C 1 "letters" (spPropL K C)) (pT : PrC P w K mg base C 1 "table" (spPropT K C)) (pE : PrC P w K mg base C 1 "ends" (spPropE K C))
    (oL : OpC P w K mg base C 1 "__len__" ["self"] (spLen K C)) (oS : OpC P w K mg base C 1 "__str__" ["self"] (spStr K C)) (oE : OpC P w K mg base C 1 "__eq__" ["self", "other"] (spEq K C))
    (TK : TxK K mg C) (TO : TxO K C) (M : TxM mg) (W : TxW mg) :
    FnOk P w K mg base CX0 7 f fd ["dice"] spRight := by
  refine F.ok scRight (fun vs H Q E h => ?_) (fun cdv A outer s H vs Q E hr h => ?_)
  · obtain ⟨d, rfl, _⟩ := h
    rfl
  · obtain ⟨d, rfl, Z, k⟩ := h
    have hu := hu_of hr
    have hun : (A.deeper (PyProof.Rows.envOfC "_law_right" (defScope sRight) s.heap.objs.size f cdv)).units + 65 < cLine := by
      have := hr.un
      omega
    have hr5 : Room 5 _ := hr.mono (by decide)
    have hr4 : Room 4 _ := hr.mono (by decide)
    have hr3 : Room 3 _ := hr.mono (by decide)
    have hr2 : Room 2 _ := hr.mono (by decide)
    have hr1 : Room 1 _ := hr.mono (by decide)
    refine ⟨_, pss_cons (ps_set (i := 1) scRight.nd rfl (Or.inl rfl) (pe_call cM.G hr4 rfl cM.m cM.kp cM.b .nil pass0 (pa_cons (pv 0) (pa_cons (pe_call cL.G hr3 rfl cL.m cL.kp cL.b .nil pass0 (pa_cons (pv 0) (pa_cons (pe_op op_add pe_int (pe_call cR.G hr1 rfl cR.m cR.kp cR.b .nil pass0 (pa_cons (pv 0) (pa_cons pe_int pa_nil)))) pa_nil))) (pa_cons pe_int pa_nil)))))
      (pss_cons (ps_set (i := 2) scRight.nd rfl (Or.inl rfl) (pe_call cN.G hr2 rfl cN.m cN.kp cN.b .nil pass0 (pa_cons (pv 0) (pa_cons (pv 1) pa_nil))))
      (pss_cons (ps_par (i := 3) (j := 4) (by rfl) scRight.nd rfl rfl (by decide) rfl rfl (pa_cons (pe_call cK.G hr rfl cK.m cK.kp cK.b .nil pass0 (pa_cons (pv 1) pa_nil)) (pa_cons (pe_call cK.G hr rfl cK.m cK.kp cK.b .nil pass0 (pa_cons (pv 2) pa_nil)) pa_nil)) (by rfl))
      (pss_cons (ps_set (i := 5) scRight.nd rfl (Or.inl rfl) (pe_lst (pa_cons (pe_prop (pv 3) TK.cl pL.hp pL.G hr2 pL.b .nil pass0 rfl) (pa_cons (pe_callTy call_list_of (by rfl) M.list (by decide +kernel) (pa_cons (pe_prop (pv 3) TK.cl pT.hp pT.G hr2 pT.b .nil pass0 rfl) pa_nil)) (pa_cons (pe_callTy call_list_of (by rfl) M.list (by decide +kernel) (pa_cons (pe_prop (pv 3) TK.cl pE.hp pE.G hr2 pE.b .nil pass0 rfl) pa_nil)) (pa_cons (pe_callB (NvO.call_lenO oL.G hr2 oL.b pass0 oL.m.at_ oL.m.fn) (by rfl) M.len PySem.boot_len (pa_cons (pv 3) pa_nil)) pa_nil))))))
      (pss_cons (ps_if (pt_cmpR (op_neD hr.units) (pv 5) (pe_lst (pa_cons (pe_dget hu (pv 1) pe_str (fun _ _ => rfl)) (pa_cons (pe_dget hu (pv 1) pe_str (fun _ _ => rfl)) (pa_cons (pe_dget hu (pv 1) pe_str (fun _ _ => rfl)) (pa_cons (pe_callB call_len_seq (by rfl) M.len PySem.boot_len (pa_cons (pe_dget hu (pv 1) pe_str (fun _ _ => rfl)) pa_nil)) pa_nil))))) (nomark _)) (pss_one (ps_ret pe_bl)) pss_nil)
      (pss_cons (ps_set (i := 6) scRight.nd rfl (Or.inl rfl) (pe_op op_add_str (pe_op op_add_str (pe_op op_add_str (pe_op op_add_str pe_str (pe_callTy call_str_int (by rfl) W.str (by decide +kernel) (pa_cons (pe_callB call_len_seq (by rfl) M.len PySem.boot_len (pa_cons (pe_dget hu (pv 1) pe_str (fun _ _ => rfl)) pa_nil)) pa_nil))) pe_str) (pe_callTy call_str_int (by rfl) W.str (by decide +kernel) (pa_cons (pe_callB call_len_seq (by rfl) M.len PySem.boot_len (pa_cons (pe_dget hu (pv 1) pe_str (fun _ _ => rfl)) pa_nil)) pa_nil))) pe_str))
      (pss_cons (ps_if (PW.pt (pw_or (pt_cmpR op_ne (pe_callTy (NvO.call_strO oS.G hr3 oS.b pass0 oS.m.at_ oS.m.fn) (by rfl) W.str (by decide +kernel) (pa_cons (pv 3) pa_nil)) (pv 6) (nomark _)) (pw_or1 (pt_not (pt_val (pe_call cW.G hr5 rfl cW.m cW.kp cW.b .nil pass0 (pa_cons (pv 0) (pa_cons (pv 1) (pa_cons (pv 3) pa_nil))))))))) (pss_one (ps_ret pe_bl)) pss_nil)
      (pss_cons (ps_if (PW.pt (pw_or (pt_cmpR op_ne (pe_cmpR (NvO.op_eqO oE.G hr1 oE.b pass0 oE.m.at_ oE.m.fn) (pv 3) (pv 4) (nomark _)) (pe_cmpR (NvO.op_eqDd hun) (pv 1) (pv 2) (nomark _)) (nomark _)) (pw_or1 (pt_cmpR op_eq (pe_cmpR (NvO.op_neO oE.G hr2 oE.b pass0 TO.ne TO.hm oE.m.at_ oE.m.fn) (pv 3) (pv 4) (nomark _)) (pe_cmpR (NvO.op_eqDd hun) (pv 1) (pv 2) (nomark _)) (nomark _))))) (pss_one (ps_ret pe_bl)) pss_nil)
      (pss_one (ps_ret (pe_and (pe_cmpR (NvO.op_eqO oE.G hr1 oE.b pass0 oE.m.at_ oE.m.fn) (pv 3) (pe_call cK.G hr rfl cK.m cK.kp cK.b .nil pass0 (pa_cons (pv 1) pa_nil)) (nomark _)) (pe_one (pe_cmpR (op_eqD hr.units) (pe_lst (pa_cons (pe_cmpR (NvO.op_eqO oE.G hr1 oE.b pass0 oE.m.at_ oE.m.fn) (pv 3) (pv 1) (nomark _)) (pa_cons (pe_cmpR (NvO.op_eqO oE.G hr1 oE.b pass0 oE.m.at_ oE.m.fn) (pv 3) pe_int (nomark _)) (pa_cons (pe_cmpR (NvO.op_eqO oE.G hr1 oE.b pass0 oE.m.at_ oE.m.fn) (pv 3) pe_str (nomark _)) pa_nil)))) (pe_op op_rep (pe_lst (pa_cons pe_bl pa_nil)) pe_int) (nomark _))))))))))))), ?_⟩
    refine ⟨_, rfl, _, rfl, _, rfl, d, 2, rfl, Z, by decide, by decide, fun r H1 rn Z1 S1 => ⟨_, _, rfl, rfl, ?_⟩⟩
    have e1 : [V.ref d, V.int (1 + (r : Int))] = [V.ref d, V.int ((1 + r : Nat) : Int)] := by rw [show ((1 + r : Nat) : Int) = 1 + (r : Int) by omega]
    refine ⟨d, 1 + r, e1, Z1, by omega, by omega, fun x H2 hx Z2 S2 => ?_⟩
    generalize hm : 1 + r = m at hx
    have m1 : 1 ≤ m := by omega
    have m2 : m ≤ 2 := by omega
    have lx := set_len hx
    refine ⟨d, x, 4, rfl, Z2, by decide, by decide, by omega, fun t es p H3 Pl t0 t4 np Z3 S3 => ?_⟩
    refine ⟨_, rfl, _, rfl, d, p, x, t, es, rfl, Z3, Pl, by omega, by omega, t0, t4, fun t' es' q H4 lt' Pn nq Z4 S4 => ?_⟩
    have Pl4 := Pl.still Z3 S4
    refine ⟨_, rfl, p, d, x, t, es, m, rfl, Pl4, hx, m1, m2, t0, t4, fun a H5 na Ma s5 => ?_⟩
    refine ⟨_, rfl, q, d, x, t', es', m, rfl, Pn.still Z4 (same_still s5), hx, m1, m2, by omega, by omega, fun b H6 nb Mb s6 => ⟨_, _, rfl, ?_⟩⟩
    have Pl6 := Pl4.still Z4 (same_still (s5.trans s6))
    have Pn6 := Pn.still Z4 (same_still (s5.trans s6))
    have Z6 := same_dz (s5.trans s6) Z4
    have S6 : Still d H H6 := (((S1.trans S2).trans S3).trans S4).trans (same_still (s5.trans s6))
    have Ma6 := Ma.same s6
    clear s5 s6 na nb nq np Z1 Z2 Z3 Z4 S1 S2 S3 S4 Pl Pl4 Pn Ma
    have R : Right x t es m := ⟨hx, m1, m2, by have := Pl6.tab; rw [lx] at this; exact this, t0, t4, Pl6.up, Pl6.lt⟩
    have R' : Right x t' es' m := ⟨hx, m1, m2, by have := Pn6.tab; rw [lx] at this; exact this, by omega, by omega, Pn6.up, Pn6.lt⟩
    obtain ⟨⟨pa, pb, us, hp, pad, hpa, RT, pbd, hpb⟩, tb, up, lt⟩ := id Pl6
    obtain ⟨dx, a1, b1, us1, i1, i2, i3, i4⟩ := id Ma6
    have lu : us.length = t.length := RT.1
    refine ⟨_, rfl, a, dx, _, rfl, i1, a, x, t, es, rfl, Ma6, _, rfl, a, dx, _, rfl, i1, a, x, t, es, rfl, Ma6, fun a2 us2 q1 q2 => ⟨a2, us2, rfl, .inr q1, fun l1 n1 => ?_⟩⟩
    have s7 : Same H6 (upd H6 l1 (.lst us2)) := Same.new (Same.refl H6) n1
    refine ⟨_, rfl, a, dx, _, rfl, s7 _ _ i1, a, x, t, es, rfl, Ma6.same s7, fun b2 q3 => ⟨b2, nts es, rfl, .inr q3, fun l2 n2 => ?_⟩⟩
    have s8 : Same H6 (upd (upd H6 l1 (.lst us2)) l2 (.lst (nts es))) := Same.new s7 n2
    have f1 : (upd (upd H6 l1 (.lst us2)) l2 (.lst (nts es))) l1 = some (.lst us2) := keep_new upd_same n2
    have f2 : (upd (upd H6 l1 (.lst us2)) l2 (.lst (nts es))) l2 = some (.lst (nts es)) := upd_same
    generalize upd (upd H6 l1 (.lst us2)) l2 (.lst (nts es)) = H8 at s8 f1 f2 ⊢
    clear s7 n1 n2 q1 q3
    have t63 : ((t.length : Nat) : Int) < 2 ^ 63 := by omega
    refine ⟨_, rfl, a, dx, _, rfl, s8 _ _ i1, a, x, t, es, rfl, Ma6.same s8, ((t.length : Nat) : Int), rfl, by omega, t63, (by show 4 ≤ sizeLine; decide), fun L nL => ?_⟩
    have s9 : Same H8 (upd H8 L (.lst [.str x, .ref l1, .ref l2, .int (t.length : Nat)])) := Same.new (Same.refl H8) nL
    have f3 : (upd H8 L (.lst [.str x, .ref l1, .ref l2, .int (t.length : Nat)])) L = some (.lst [.str x, .ref l1, .ref l2, .int (t.length : Nat)]) := upd_same
    have f1 := s9 _ _ f1
    have f2 := s9 _ _ f2
    have s9 := s8.trans s9
    generalize upd H8 L (.lst [.str x, .ref l1, .ref l2, .int (t.length : Nat)]) = H9 at s9 f1 f2 f3 ⊢
    have hp9 := s9 _ _ hp
    refine ⟨_, rfl, _, rfl, p, _, rfl, get_l hp9, _, rfl, p, _, rfl, get_t hp9, _, rfl, p, _, rfl, get_e hp9, _, rfl, p, _, rfl, get_t hp9, pa, us, rfl, .inl (SqL.of (s9 _ _ hpa)), ?_⟩
    rw [lu]
    refine ⟨(by show 4 ≤ sizeLine; decide), fun L2 nL2 => ?_⟩
    have sA : Same H9 (upd H9 L2 (.lst [.str x, .ref pa, .ref pb, .int (t.length : Nat)])) := Same.new (Same.refl H9) nL2
    refine ⟨dTold x t es t.length, dTold x t es t.length, .lst (SqL.of (sA _ _ f3)) (.cons (.str x) (.cons (.lst (SqL.of (sA _ _ f1)) (dp_rows t us2 (q2.same (s9.trans sA)))) (.cons (.lst (SqL.of (sA _ _ f2)) (dp_nats es)) (.cons (.int _) .nil)))),
      .lst (SqL.of upd_same) (.cons (.str x) (.cons (.lst (SqL.of (sA _ _ (s9 _ _ hpa))) (dp_rows t us ((tups_of RT).same (s9.trans sA)))) (.cons (.lst (SqL.of (sA _ _ (s9 _ _ hpb))) (dp_nats es)) (.cons (.int _) .nil)))), shaped_told hx, shaped_told hx, _, rfl, ?_⟩
    rw [eqv_told]
    refine iteF ?_
    have sA := s9.trans sA
    generalize upd H9 L2 (.lst [.str x, .ref pa, .ref pb, .int (t.length : Nat)]) = HA at sA ⊢
    clear f1 f2 f3 nL nL2 s8 s9 hp9 q2
    have hpA := sA _ _ hp
    have t5 : t.length < 5 := by omega
    have e5 : es.length < 5 := by have := asc_len up lt; omega
    have le := mtxt_len _ t5 _ e5
    have big : (100 : Nat) ≤ sizeLine := by decide
    have mt : mtxt t.length es.length = ((((("machine of " : Str)) ++ (toString ((t.length : Nat) : Int) : Str)) ++ (" states, " : Str)) ++ (toString ((es.length : Nat) : Int) : Str)) ++ (" ends" : Str) := by
      unfold mtxt
      rw [empty_app]
    rw [mt, str_len_app, str_len_app, str_len_app, str_len_app] at le
    refine ⟨_, rfl, p, _, rfl, get_t hpA, pa, us, rfl, .inl (SqL.of (sA _ _ hpa)), ?_⟩
    rw [lu]
    refine ⟨_, rfl, log_small _ t5, _, _, rfl, rfl, Nat.le_trans (show _ ≤ 100 by omega) big, _, _, rfl, rfl, Nat.le_trans (show _ ≤ 100 by rw [str_len_app]; omega) big, _, rfl, p, _, rfl, get_e hpA, pb, nts es, rfl, .inl (SqL.of (sA _ _ hpb)), ?_⟩
    rw [nts_length]
    refine ⟨_, rfl, log_small _ e5, _, _, rfl, rfl, Nat.le_trans (show _ ≤ 100 by rw [str_len_app, str_len_app]; omega) big, _, _, rfl, rfl, Nat.le_trans (show _ ≤ 100 by rw [str_len_app, str_len_app, str_len_app]; omega) big, ?_⟩
    rw [← mt]
    refine ⟨_, rfl, a, dx, _, rfl, sA _ _ i1, a, x, t, es, rfl, Ma6.same sA, t5, e5, _, rfl, _, rfl, rfl, _, rfl, ?_⟩
    rw [ne_not rfl]
    refine iteF ?_
    refine ⟨_, rfl, _, rfl, _, rfl, d, p, a, x, t, es, m, rfl, same_dz sA Z6, Pl6.still Z6 (same_still sA), Ma6.same sA, R, fun HB ZB SB => ⟨_, rfl, iteF ?_⟩⟩
    have S6B : Still d H6 HB := (same_still sA).trans SB
    have PlB := Pl6.still Z6 S6B
    have PnB := Pn6.still Z6 S6B
    have MaB := Ma6.still Z6 S6B
    have MbB := Mb.still Z6 S6B
    have SB := S6.trans S6B
    clear S6B sA hpA i1 i2 i3 i4 hp hpa hpb RT pad pbd tb up lt lu
    obtain ⟨dx, a1, b1, us1, i1, i2, i3, i4⟩ := id MaB
    obtain ⟨dx', a1', b1', us1', j1, j2, j3, j4⟩ := id MbB
    refine ⟨_, rfl, _, rfl, a, dx, _, .ref C, rfl, i1, .base (.ins j1 TK.cl TO.ha TO.hn TO.tk TO.hm), first_self, a, .ref b, .ref C, true, x, t, es, m, rfl, MaB, R, .base (.ins j1 TK.cl TO.ha TO.hn TO.tk TO.hm), TO.kc, (fun z => by cases z), fun _ => ⟨b, x, t', es', m, rfl, MbB, R', fun HC sC => ⟨_, rfl, ?_⟩⟩⟩
    obtain ⟨ks, ls, k1, k2, k3, k4⟩ := plain_hits (K := K) (PlB.still ZB (same_still sC)) (PnB.still ZB (same_still sC)) hx
    refine ⟨_, rfl, _, rfl, p, q, ks, ls, _, rfl, rfl, k1, k2, k3, k4, rfl, _, rfl, ?_⟩
    rw [ne_not rfl]
    refine iteF ?_
    have jC := sC _ _ j1
    refine ⟨_, rfl, _, rfl, a, dx, _, .ref C, rfl, sC _ _ i1, .base (.ins jC TK.cl TO.ha TO.hn TO.tk TO.hm), first_self, a, .ref b, .ref C, true, x, t, es, m, rfl, MaB.same sC, R, .base (.ins jC TK.cl TO.ha TO.hn TO.tk TO.hm), TO.kc, (fun z => by cases z), fun _ => ⟨b, x, t', es', m, rfl, MbB.same sC, R', fun HD sD => ⟨_, rfl, ?_⟩⟩⟩
    have sCD := sC.trans sD
    obtain ⟨ks, ls, k1, k2, k3, k4⟩ := plain_hits (K := K) (PlB.still ZB (same_still sCD)) (PnB.still ZB (same_still sCD)) hx
    refine ⟨_, rfl, _, rfl, p, q, ks, ls, _, rfl, rfl, k1, k2, k3, k4, rfl, _, rfl, ?_⟩
    rw [two_bools]
    refine iteF ?_
    have PlD := PlB.still ZB (same_still sCD)
    have ZD := same_dz sCD ZB
    have SD := SB.trans (same_still sCD)
    have MaD := MaB.same sCD
    have iD := sCD _ _ i1
    clear sC sD sCD jC k1 k2 k3 k4 i1 i2 i3 i4 j1 j2 j3 j4
    refine ⟨_, rfl, _, rfl, p, d, x, t, es, m, rfl, PlD, hx, m1, m2, t0, t4, fun c HE nc Mc sE => ?_⟩
    obtain ⟨dxc, ac, bc, usc, c1, c2, c3, c4⟩ := id Mc
    refine ⟨a, dx, _, .ref C, rfl, sE _ _ iD, .base (.ins c1 TK.cl TO.ha TO.hn TO.tk TO.hm), first_self, a, .ref c, .ref C, true, x, t, es, m, rfl, MaD.same sE, R, .base (.ins c1 TK.cl TO.ha TO.hn TO.tk TO.hm), TO.kc, (fun z => by cases z), fun _ => ⟨c, x, t, es, m, rfl, Mc, R, fun HF sF => ⟨_, rfl, _, rfl, ?_⟩⟩⟩
    rw [all_same]
    refine iteT ?_
    have sEF := sE.trans sF
    have MaF := MaD.same sEF
    have iF := sEF _ _ iD
    obtain ⟨⟨pa, pb, us, hpF, _, _, _, _, _⟩, _, _, _⟩ := PlD.still ZD (same_still sEF)
    refine ⟨_, rfl, _, rfl, a, dx, _, .type "dict", rfl, iF, .base (.dK hpF), TO.fd, a, .ref p, .type "dict", false, x, t, es, m, rfl, MaF, R, .base (.dK hpF), TO.kd, fun _ => ⟨_, rfl, ?_⟩, fun z => by cases z⟩
    refine ⟨_, rfl, a, dx, _, .type "int", rfl, iF, .base (.int 0), TO.fi, a, .int 0, .type "int", false, x, t, es, m, rfl, MaF, R, .base (.int 0), TO.ki, fun _ => ⟨_, rfl, ?_⟩, fun z => by cases z⟩
    refine ⟨_, rfl, a, dx, _, .type "str", rfl, iF, .base (.str "a"), TO.fs, a, .str "a", .type "str", false, x, t, es, m, rfl, MaF, R, .base (.str "a"), TO.kt, fun _ => ⟨_, rfl, ?_⟩, fun z => by cases z⟩
    refine ⟨(by show 3 ≤ sizeLine; decide), fun L nL => ⟨(by show 1 ≤ sizeLine; decide), fun L2 nL2 => ⟨L2, 3, [.bl false], rfl, rfl, upd_same, by decide, by decide, (by show 3 ≤ sizeLine; decide), fun L3 nL3 => ?_⟩⟩⟩
    refine ⟨_, _, .lst (SqL.of (keep_new (keep_new upd_same nL2) nL3)) (.cons (.bl false) (.cons (.bl false) (.cons (.bl false) .nil))), .lst (SqL.of upd_same) (.cons (.bl false) (.cons (.bl false) (.cons (.bl false) .nil))), three_shaped, three_shaped, ?_⟩
    rw [three_false]
    have sL : Same HF (upd (upd (upd HF L (.lst [.bl false, .bl false, .bl false])) L2 (.lst [.bl false])) L3 (.lst (List.replicate (3 : Int).toNat [V.bl false]).flatten)) := Same.new (Same.new (Same.new (Same.refl HF) nL) nL2) nL3
    have sE3 := sEF.trans sL
    exact k _ (same_dz sE3 ZD) (SD.trans (same_still sE3))
end
end M3

set_option Elab.async false
set_option linter.all false
set_option maxRecDepth 100000
set_option maxHeartbeats 8000000
/-! # The law itself -/
namespace M3
open PySem L2
abbrev sLaw : Stmt := top 61
abbrev nLaw : List Str := ["script", "at", "dice", "turn", "bare", "four", "told"]
theorem scLaw : FnScope nLaw ["script"] (defScope sLaw) := ⟨rfl, rfl, rfl, by decide +kernel, rfl, by decide +kernel, by decide +kernel⟩
structure TxL (mg : Str → Option Value) : Prop where
  max : mg "max" = none
  min : mg "min" = none
def tBare : List (List Nat) := [[0]]
def tFour : List (List Nat) := [[1, 0], [2, 0], [3, 0], [0, 0]]
theorem set_x : IsSet "x" 1 := ⟨[120], by decide +kernel, rfl, by decide, by decide⟩
theorem set_ab : IsSet "ab" 2 := ⟨[97, 98], by decide +kernel, rfl, by decide, by decide⟩
theorem right_bare : Right "x" tBare [] 1 := ⟨set_x, by decide, by decide, ⟨rfl, by decide⟩, by decide, by decide, .nil, by decide⟩
theorem right_four : Right "ab" tFour [0, 1, 2, 3] 2 := ⟨set_ab, by decide, by decide, ⟨rfl, by decide⟩, by decide, by decide, by decide, by decide⟩
theorem bare_after : iter tBare "x" "" 1 = 0 := by decide +kernel
theorem four_4 : iter tFour "ab" "a" (0 + 4) = iter tFour "ab" "a" 0 := by decide +kernel
theorem four_after : iter tFour "ab" "a" 100000000000 = 0 := iter_times (iter_shift four_4) 25000000000 0 (Nat.le_refl _)
theorem word_e : IsW "x" "" := fun c hc => by
  have e : ("" : Str).cps.toList = [] := by decide +kernel
  rw [e] at hc
  cases hc
theorem word_a : IsW "ab" "a" := by
  unfold IsW
  decide +kernel
theorem only_e : only "" "abcdefghijklmnopqrstuvwxyz" = true := by decide +kernel
theorem only_a : only "a" "abcdefghijklmnopqrstuvwxyz" = true := by decide +kernel
theorem len_e : ("" : Str).length ≤ 1000000 ∧ ("a" : Str).length ≤ 1000000 := by decide +kernel
theorem in_bare : (only "" "abcdefghijklmnopqrstuvwxyz" && (only "" "x" && decide (goes tBare "x" 0 ("" : Str).cps.toList ∈ ([] : List Nat)))) = false := by decide +kernel
theorem all_four : ∀ q, q < tFour.length → q ∈ [0, 1, 2, 3] := by decide
theorem txt_bare : mtxt 1 0 = "machine of 1 states, 0 ends" := by decide +kernel
def dEnd : PyData := .list [.tuple [], .bool false, .int 0, .bool true, .bool true, .str "machine of 1 states, 0 ends", .int 0, .int 4]
theorem end_shaped : SeqAt.shaped dEnd = true := by decide +kernel
theorem end_eqv : dEnd.eqv dEnd = true := by decide +kernel
theorem mach_made {K : PySem.W.Frag} {C q dx a1 b1 : Addr} {H2 H' : Hp} {x : Str} {us : List V} {t : List (List Nat)} {es : List Nat} (nq : H2 q = none) (ndx : H2 dx = none) (nex : dx ≠ q) (hq : H' q = some (.ins C dx (flds x a1 b1)))
    (kp : ∀ c o, c ≠ q → (upd (upd H2 dx (.own q)) q (.ins C dx [])) c = some o → H' c = some o) (h2 : SqT K H2 a1 us) (T : Tups K H2 us t) (hb : SqT K H2 b1 (nts es)) : Mach K C H' q x t es ∧ Same H2 H' := by
  have s3 : Same H2 (upd (upd H2 dx (.own q)) q (.ins C dx [])) := Same.new (Same.new (Same.refl H2) ndx) (by rw [upd_ne (Ne.symm nex)]; exact nq)
  have s4 : Same H2 H' := fun c o h => kp c o (fun z => by rw [z, nq] at h; cases h) (s3 _ _ h)
  exact ⟨⟨dx, a1, b1, us, hq, sqt_same s4 h2, T.same s4, sqt_same s4 hb⟩, s4⟩
theorem tups1 {K : PySem.W.Frag} {H : Hp} {u : Addr} {r : List Nat} (h : SqT K H u (nts r)) : Tups K H [.ref u] [r] := ⟨rfl, fun i r' e => by
  match i, e with
  | 0, e => exact ⟨u, rfl, by cases e; exact h⟩⟩
theorem tups4 {K : PySem.W.Frag} {H : Hp} {u1 u2 u3 u4 : Addr} {r1 r2 r3 r4 : List Nat} (h1 : SqT K H u1 (nts r1)) (h2 : SqT K H u2 (nts r2)) (h3 : SqT K H u3 (nts r3)) (h4 : SqT K H u4 (nts r4)) : Tups K H [.ref u1, .ref u2, .ref u3, .ref u4] [r1, r2, r3, r4] := ⟨rfl, fun i r' e => by
  match i, e with
  | 0, e => exact ⟨u1, rfl, by cases e; exact h1⟩
  | 1, e => exact ⟨u2, rfl, by cases e; exact h2⟩
  | 2, e => exact ⟨u3, rfl, by cases e; exact h3⟩
  | 3, e => exact ⟨u4, rfl, by cases e; exact h4⟩⟩
def spLaw (K : PySem.W.Frag) : Sp := fun vs H Q _ => ∃ (a : Addr) (ns : List Int), vs = [.ref a] ∧ SqL K H a (ns.map V.int) ∧ ns.length ≤ 63 ∧ ∀ H', Q (.bl true) H'
section
variable {P : Program} {w : World} {K : PySem.W.Frag} {mg : Str → Option Value} {base : Heap} {C : Addr}
theorem ok_law {f gI b0 : Addr} {fd dI : FuncData} (F : Fun K "law" "law" sLaw f fd)
    (cD : FnC P w K mg base 1 "_law_dice" ["script", "at"] (spDice K)) (cR : FnC P w K mg base 7 "_law_right" ["dice"] spRight)
    (MK : Mk K C gI) (GI : FnOk P w K mg base CX0 4 gI dI nInit (spInit K C)) (bI : Binds K dI nInit []) (bI1 : Binds K dI nInit [.ref b0]) (hb0 : ∀ H, SqT K H b0 []) (mC : mg "Machine" = some (.ref C))
    (pE : PrC P w K mg base C 1 "ends" (spPropE K C))
    (pY : PrC P w K mg base C 3 "is_empty" (fun vs H Q _ => ∃ (p : Addr) (x : Str) (t : List (List Nat)) (m : Nat), vs = [.ref p] ∧ Mach K C H p x t [] ∧ Right x t [] m ∧ ∀ H' : Hp, Same H H' → Q (.bl true) H'))
    (pF : PrC P w K mg base C 3 "is_full" (fun vs H Q _ => ∃ (p : Addr) (x : Str) (t : List (List Nat)) (es : List Nat) (m : Nat), vs = [.ref p] ∧ Mach K C H p x t es ∧ Right x t es m ∧ (∀ q, q < t.length → q ∈ es) ∧ ∀ H' : Hp, Same H H' → Q (.bl true) H'))
    (oI : OpC P w K mg base C 3 "__contains__" ["self", "x"] (spContains K C)) (oS : OpC P w K mg base C 1 "__str__" ["self"] (spStr K C))
    (mA : MtC P w K mg base C 4 "after" ["self", "word", "times"] [.int 1] (spAfter K C)) (kA : KBn K mA.fd ["self", "word", "times"] 2 ["times"] (fun us ws => us ++ ws) (fun vs zs => vs ++ zs))
    (TK : TxK K mg C) (TO : TxO K C) (M : TxM mg) (W : TxW mg) (TL : TxL mg) :
    FnOk P w K mg base CX0 8 f fd ["script"] (spLaw K) := by
  refine F.ok scLaw (fun vs H Q E h => ?_) (fun cdv A outer s H vs Q E hr h => ?_)
  · obtain ⟨a, ns, rfl, _⟩ := h
    rfl
  · obtain ⟨a, ns, rfl, ha, hl, k⟩ := h
    obtain ⟨ts, ms⟩ := TK.mS
    have hr5 : Room 5 _ := hr.mono (by decide)
    have hr4 : Room 4 _ := hr.mono (by decide)
    have hr3 : Room 3 _ := hr.mono (by decide)
    have hr2 : Room 2 _ := hr.mono (by decide)
    have hr1 : Room 1 _ := hr.mono (by decide)
    refine ⟨_, (pss_cons (ps_for PassesOwn.never rfl (pi_range1 rfl M.range (pa_cons (pe_callB (call_max2 rfl) (by rfl) TL.max (by decide +kernel) (pa_cons pe_int (pa_cons (pe_callB (call_min2 rfl) (by rfl) TL.min (by decide +kernel) (pa_cons pe_int (pa_cons (pe_callB call_len_seq (by rfl) M.len PySem.boot_len (pa_cons (pv 0) pa_nil)) pa_nil))) pa_nil))) pa_nil)) (pg_name (i := 1) scLaw.nd rfl (Or.inl rfl))
        (pss_cons (ps_set (i := 2) scLaw.nd rfl (Or.inl rfl) (pe_call cD.G hr1 rfl cD.m cD.kp cD.b .nil pass0 (pa_cons (pv 0) (pa_cons (pv 1) pa_nil))))
        (pss_one (ps_for PassesOwn.never rfl (pi_range1 rfl M.range (pa_cons pe_int pa_nil)) (pg_name (i := 3) scLaw.nd rfl (Or.inl rfl))
          (pss_one (ps_if (pt_not (pt_val (pe_call cR.G hr rfl cR.m cR.kp cR.b .nil pass0 (pa_cons (pv 2) pa_nil)))) (pss_one (ps_ret pe_bl)) pss_nil))))))
      (pss_cons (ps_par (i := 4) (j := 5) (by rfl) scLaw.nd rfl rfl (by decide) rfl rfl (pa_cons (pe_make MK GI hr5 rfl mC bI1 (.cons (show RelV (.ref b0) (.ref b0) from rfl) .nil) pass0 (pa_cons pe_str (pa_cons (pe_tup (pa_cons (pe_tup (pa_cons pe_int pa_nil)) pa_nil)) pa_nil)))
          (pa_cons (pe_make MK GI hr5 rfl mC bI .nil pass0 (pa_cons pe_str (pa_cons (pe_tup (pa_cons (pe_tup (pa_cons pe_int (pa_cons pe_int pa_nil))) (pa_cons (pe_tup (pa_cons pe_int (pa_cons pe_int pa_nil))) (pa_cons (pe_tup (pa_cons pe_int (pa_cons pe_int pa_nil))) (pa_cons (pe_tup (pa_cons pe_int (pa_cons pe_int pa_nil))) pa_nil)))))
            (pa_cons (pe_tup (pa_cons pe_int (pa_cons pe_int (pa_cons pe_int (pa_cons pe_int pa_nil))))) pa_nil)))) pa_nil)) (by rfl))
      (pss_cons (ps_set (i := 6) scLaw.nd rfl (Or.inl rfl) (pe_lst (pa_cons (pe_prop (pv 4) TK.cl pE.hp pE.G hr2 pE.b .nil pass0 rfl) (pa_cons (pe_cmpR (NvO.op_inO oI.G hr3 oI.b pass0 oI.m.at_ oI.m.fn) pe_str (pv 4) (by rfl)) (pa_cons (pe_meth (pv 4) TK.cl mA.m mA.G hr4 mA.b mA.v pass0 (pa_cons pe_str pa_nil))
          (pa_cons (pe_prop (pv 4) TK.cl pY.hp pY.G hr4 pY.b .nil pass0 rfl) (pa_cons (pe_prop (pv 5) TK.cl pF.hp pF.G hr4 pF.b .nil pass0 rfl) (pa_cons (pe_callTy (NvO.call_strO oS.G hr3 oS.b pass0 oS.m.at_ oS.m.fn) (by rfl) W.str (by decide +kernel) (pa_cons (pv 4) pa_nil)) pa_nil))))))))
      (pss_cons (ps_set (i := 6) scLaw.nd rfl (Or.inl rfl) (pe_op op_cat (pv 6) (pe_lst (pa_cons (NvO.pe_methN (pv 5) TK.cl mA.m mA.G hr4 kA pass0 (pa_cons pe_str pa_nil) (pk_cons (pe_op op_pow pe_int pe_int) pk_nil)) (pa_cons (pe_glob (v := .int 4) rfl ms ⟨_, rfl⟩) pa_nil)))))
      (pss_one (ps_ret (pe_cmpR (op_eqD hr.units) (pv 6) (pe_lst (pa_cons (pe_tup pa_nil) (pa_cons pe_bl (pa_cons pe_int (pa_cons pe_bl (pa_cons pe_bl (pa_cons pe_str (pa_cons pe_int (pa_cons pe_int pa_nil))))))))) (nomark _)))))))), ?_⟩
    have lb : ∀ n : Nat, n ≤ 63 → ∀ m : Int, m = (if (if (n : Int) < 8 then (n : Int) else 8) > 1 then (if (n : Int) < 8 then (n : Int) else 8) else 1) → 1 ≤ m ∧ m ≤ 8 := fun n hn m hm => by
      rw [hm]
      by_cases h8 : (n : Int) < 8
      · rw [if_pos h8]
        by_cases h1 : (n : Int) > 1
        · rw [if_pos h1]
          omega
        · rw [if_neg h1]
          omega
      · rw [if_neg h8]
        decide
    refine ⟨_, rfl, a, _, rfl, .inl ha, _, _, rfl, _, _, rfl, ?_⟩
    have ln : (ns.map V.int).length = ns.length := List.length_map _
    rw [ln]
    have lb := lb _ hl _ rfl
    generalize (if (if (ns.length : Int) < 8 then (ns.length : Int) else 8) > 1 then (if (ns.length : Int) < 8 then (ns.length : Int) else 8) else 1) = m at lb ⊢
    refine ⟨m, rfl, by omega, by omega, for_range (lo := 0) (n := m.toNat) (fun i σ H' => (∃ v1 v2 v3 : Option V, σ = [some (.ref a), v1, v2, v3, none, none, none]) ∧ Same H H') ⟨⟨none, none, none, rfl⟩, Same.refl _⟩ ?_ ?_⟩
    · rintro i σ H1 hi ⟨⟨v1, v2, v3, rfl⟩, s1⟩
      refine ⟨_, rfl, _, rfl, a, ns, _, rfl, s1.seq ha, by omega, hl, fun d l q nd l0 q0 => ?_⟩
      have Z0 : Dz (upd H1 d (.lst [.int l, .int q, .int 0])) d := ⟨l, q, 0, upd_same, l0, q0, by decide⟩
      have s2 : Same H (upd H1 d (.lst [.int l, .int q, .int 0])) := Same.new s1 nd
      have nd0 : H d = none := by
        cases e : H d with
        | none => rfl
        | some o =>
          have := s1 _ _ e
          rw [nd] at this
          cases this
      generalize upd H1 d (.lst [.int l, .int q, .int 0]) = H2 at Z0 s2 ⊢
      refine ⟨3, rfl, by decide, by decide, for_range (lo := 0) (n := 3) (fun j σ H' => (∃ v1 v3 : Option V, σ = [some (.ref a), v1, some (.ref d), v3, none, none, none]) ∧ Dz H' d ∧ Still d H2 H') ⟨⟨_, _, rfl⟩, Z0, Still.refl d H2⟩ ?_ ?_⟩
      · rintro j σ H3 hj ⟨⟨w1, w3, rfl⟩, Z3, S3⟩
        exact ⟨_, rfl, d, rfl, Z3, fun H4 Z4 S4 => ⟨_, rfl, iteF ⟨⟨_, _, rfl⟩, Z4, S3.trans S4⟩⟩⟩
      · rintro σ H3 ⟨⟨w1, w3, rfl⟩, Z3, S3⟩
        exact ⟨⟨_, _, _, rfl⟩, fun b o h => S3 b o (fun z => by rw [z, nd0] at h; cases h) (s2 _ _ h)⟩
    · rintro σ H1 ⟨⟨v1, v2, v3, rfl⟩, s1⟩
      refine ⟨(by show 1 ≤ sizeLine; decide), fun u1 n1 => ⟨(by show 1 ≤ sizeLine; decide), fun a1 n2 => ?_⟩⟩
      have f1 : (upd (upd H1 u1 (.tup [.int 0])) a1 (.tup [.ref u1])) u1 = some (.tup [.int 0]) := keep_new upd_same n2
      have f2 : (upd (upd H1 u1 (.tup [.int 0])) a1 (.tup [.ref u1])) a1 = some (.tup [.ref u1]) := upd_same
      have s2 : Same H (upd (upd H1 u1 (.tup [.int 0])) a1 (.tup [.ref u1])) := Same.new (Same.new s1 n1) n2
      generalize upd (upd H1 u1 (.tup [.int 0])) a1 (.tup [.ref u1]) = H2 at f1 f2 s2 ⊢
      clear n1 n2
      intro q dx nq ndx nex
      have s3 : Same H2 (upd (upd H2 dx (.own q)) q (.ins C dx [])) := Same.new (Same.new (Same.refl H2) ndx) (by rw [upd_ne (Ne.symm nex)]; exact nq)
      have T1 : Tups K H2 [.ref u1] tBare := tups1 (SqT.of f1)
      refine ⟨q, dx, a1, b0, "x", [.ref u1], tBare, [], 1, 1, rfl, upd_same, set_x, by decide, by decide, SqT.of (s3 _ _ f2), T1.same s3, right_bare.tb, by decide, by decide, hb0 _, .nil, (fun e he => by cases he), fun H3 hq kp => ⟨rfl, ?_⟩⟩
      obtain ⟨Mb, s23⟩ := mach_made (x := "x") (t := tBare) (es := []) nq ndx nex hq kp (SqT.of f2) T1 (hb0 _)
      clear s3 hq kp nq ndx nex f1 f2 T1
      refine ⟨(by show 2 ≤ sizeLine; decide), fun v1 n1 => ⟨(by show 2 ≤ sizeLine; decide), fun v2 n2 => ⟨(by show 2 ≤ sizeLine; decide), fun v3 n3 => ⟨(by show 2 ≤ sizeLine; decide), fun v4 n4 => ⟨(by show 4 ≤ sizeLine; decide), fun a4 n5 => ⟨(by show 4 ≤ sizeLine; decide), fun e4 n6 => ?_⟩⟩⟩⟩⟩⟩
      generalize hX : upd _ e4 (.tup _) = H4
      have g1 : H4 v1 = some (.tup (nts [1, 0])) := by
        rw [← hX]
        exact keep_new (keep_new (keep_new (keep_new (keep_new upd_same n2) n3) n4) n5) n6
      have g2 : H4 v2 = some (.tup (nts [2, 0])) := by
        rw [← hX]
        exact keep_new (keep_new (keep_new (keep_new upd_same n3) n4) n5) n6
      have g3 : H4 v3 = some (.tup (nts [3, 0])) := by
        rw [← hX]
        exact keep_new (keep_new (keep_new upd_same n4) n5) n6
      have g4 : H4 v4 = some (.tup (nts [0, 0])) := by
        rw [← hX]
        exact keep_new (keep_new upd_same n5) n6
      have g5 : H4 a4 = some (.tup [.ref v1, .ref v2, .ref v3, .ref v4]) := by
        rw [← hX]
        exact keep_new upd_same n6
      have g6 : H4 e4 = some (.tup (nts [0, 1, 2, 3])) := by
        rw [← hX]
        exact upd_same
      have s34 : Same H3 H4 := by
        rw [← hX]
        exact Same.new (Same.new (Same.new (Same.new (Same.new (Same.new (Same.refl H3) n1) n2) n3) n4) n5) n6
      clear hX n1 n2 n3 n4 n5 n6
      intro q' dx' nq ndx nex
      have s3 : Same H4 (upd (upd H4 dx' (.own q')) q' (.ins C dx' [])) := Same.new (Same.new (Same.refl H4) ndx) (by rw [upd_ne (Ne.symm nex)]; exact nq)
      have T4 : Tups K H4 [.ref v1, .ref v2, .ref v3, .ref v4] tFour := tups4 (SqT.of g1) (SqT.of g2) (SqT.of g3) (SqT.of g4)
      refine ⟨q', dx', a4, e4, "ab", [.ref v1, .ref v2, .ref v3, .ref v4], tFour, [0, 1, 2, 3], 4, 2, rfl, upd_same, set_ab, by decide, by decide, SqT.of (s3 _ _ g5), T4.same s3, right_four.tb, by decide, by decide, SqT.of (s3 _ _ g6), right_four.up, right_four.lt, fun H5 hq kp => ⟨rfl, ?_⟩⟩
      obtain ⟨Mf, s45⟩ := mach_made (x := "ab") (t := tFour) (es := [0, 1, 2, 3]) nq ndx nex hq kp (SqT.of g5) T4 (SqT.of g6)
      have Mb := (Mb.same s34).same s45
      have S5 : Same H H5 := ((s2.trans s23).trans s34).trans s45
      clear s3 hq kp nq ndx nex g1 g2 g3 g4 g5 g6 T4 s2 s23 s34 s45
      obtain ⟨dxb, ab, bb, usb, i1, i2, i3, i4⟩ := id Mb
      obtain ⟨dxf, af, bf, usf, j1, j2, j3, j4⟩ := id Mf
      refine ⟨_, _, rfl, _, rfl, q, dxb, _, rfl, i1, q, "x", tBare, [], rfl, Mb, fun be hbe => ?_⟩
      refine ⟨_, rfl, q, dxb, _, rfl, i1, q, .str "", .type "str", true, "x", tBare, [], 1, rfl, Mb, right_bare, .base (.str ""), kit_str, (fun z => by cases z), fun _ => ⟨"", rfl, len_e.1, fun H6 s6 => ⟨_, rfl, ?_⟩⟩⟩
      rw [in_bare]
      refine ⟨_, rfl, q, dxb, _, rfl, s6 _ _ i1, fld_after, q, "x", "", tBare, [], 1, 1, rfl, Mb.same s6, right_bare, word_e, only_e, len_e.1, by decide, fun H7 s7 => ?_⟩
      rw [bare_after]
      have s57 := s6.trans s7
      refine ⟨_, rfl, q, dxb, _, rfl, s57 _ _ i1, q, "x", tBare, 1, rfl, Mb.same s57, right_bare, fun H8 s8 => ?_⟩
      have s58 := s57.trans s8
      refine ⟨_, rfl, q', dxf, _, rfl, s58 _ _ j1, q', "ab", tFour, [0, 1, 2, 3], 2, rfl, Mf.same s58, right_four, all_four, fun H9 s9 => ?_⟩
      have s59 := s58.trans s9
      refine ⟨_, rfl, q, dxb, _, rfl, s59 _ _ i1, q, "x", tBare, [], rfl, Mb.same s59, by decide, by decide, _, rfl, ?_⟩
      rw [show mtxt tBare.length ([] : List Nat).length = "machine of 1 states, 0 ends" from txt_bare]
      have pw : (0 : Int) ≤ 11 ∧ (11 : Int) ≤ 1000000 ∧ ((10 : Int)).natAbs < 2 ^ 64 := by decide
      have pe : (10 : Int) ^ (11 : Int).toNat = ((100000000000 : Nat) : Int) := by decide +kernel
      have e2 : [V.ref q', V.str "a", V.int ((10 : Int) ^ (11 : Int).toNat)] = [V.ref q', V.str "a", V.int ((100000000000 : Nat) : Int)] := by rw [pe]
      refine ⟨(by show 6 ≤ sizeLine; decide), fun L nL => ?_⟩
      have hL : (upd H9 L (.lst [.ref be, .bl false, .int ((0 : Nat) : Int), .bl true, .bl true, .str "machine of 1 states, 0 ends"])) L = some (.lst [.ref be, .bl false, .int ((0 : Nat) : Int), .bl true, .bl true, .str "machine of 1 states, 0 ends"]) := upd_same
      have sL : Same H5 (upd H9 L (.lst [.ref be, .bl false, .int ((0 : Nat) : Int), .bl true, .bl true, .str "machine of 1 states, 0 ends"])) := Same.new s59 nL
      generalize upd H9 L (.lst [.ref be, .bl false, .int ((0 : Nat) : Int), .bl true, .bl true, .str "machine of 1 states, 0 ends"]) = HA at hL sL ⊢
      refine ⟨_, rfl, _, rfl, q', dxf, _, rfl, sL _ _ j1, fld_after, _, _, rfl, rfl, pw, rfl, rfl, q', "ab", "a", tFour, [0, 1, 2, 3], 2, 100000000000, e2, Mf.same sL, right_four, word_a, only_a, len_e.2, by decide, fun HB sB => ?_⟩
      rw [four_after]
      refine ⟨(by show 2 ≤ sizeLine; decide), fun L2 nL2 => ?_⟩
      refine ⟨L, L2, _, _, rfl, rfl, keep_new (sB _ _ hL) nL2, upd_same, (by show 8 ≤ sizeLine; decide), fun L3 nL3 => ?_⟩
      refine ⟨_, rfl, (by show 0 ≤ sizeLine; decide), fun t0 n0 => ⟨(by show 8 ≤ sizeLine; decide), fun L4 nL4 => ?_⟩⟩
      have be5 : SqT K HB be [] := sqt_same (sL.trans sB) hbe
      refine ⟨dEnd, dEnd, .lst (SqL.of (keep_new (keep_new upd_same n0) nL4)) (.cons (.tup ?_ .nil) (.cons (.bl false) (.cons (.int 0) (.cons (.bl true) (.cons (.bl true) (.cons (.str _) (.cons (.int 0) (.cons (.int 4) .nil)))))))),
        .lst (SqL.of upd_same) (.cons (.tup (SqT.of (keep_new upd_same nL4)) .nil) (.cons (.bl false) (.cons (.int 0) (.cons (.bl true) (.cons (.bl true) (.cons (.str _) (.cons (.int 0) (.cons (.int 4) .nil)))))))), end_shaped, end_shaped, ?_⟩
      · exact sqt_same (Same.new (Same.new (Same.new (Same.new (Same.refl HB) nL2) nL3) n0) nL4) be5
      rw [end_eqv]
      exact k _
end
end M3

set_option Elab.async false
set_option linter.all false
set_option maxRecDepth 100000
set_option maxHeartbeats 8000000
/-! # What the top has made, put together -/
namespace M3
open PySem L2
/-- a def of the top: where it stands, what it is -/
structure DefAt (K : PySem.W.Frag) (x : Str) (st : Stmt) : Prop where
  ex : ∃ (f : Addr) (fd : FuncData), Fun K x x st f fd ∧ PySem.W.nsIn K mainGlobals x = some (some (.ref f))
theorem def_mk {K : PySem.W.Frag} {x : Str} {st : Stmt} {f : Addr} {oc : Value} {od an : Option Addr} {osl : Array (Option Value)} {kV doc pm cdv ct : Value} (a : PySem.W.nsIn K mainGlobals x = some (some (.ref f)))
    (l : K.lookup f = some ⟨oc, od, .func (PySem.W.fnOf x x (defArgs st) (defBody st) (defScope st) .none kV doc pm an cdv ct), osl⟩) (c : PySem.W.codeIn K cdv x = true) (k : PySem.W.keepIn K (.ref f) = true) : DefAt K x st := ⟨f, _, fun_mk l c k, a⟩
/-- a method -/
structure MetAt (K : PySem.W.Frag) (C : Addr) (x qual : Str) (st : Stmt) : Prop where
  ex : ∃ (f : Addr) (fd : FuncData), Fun K x qual st f fd ∧ Meth K C x f
theorem met_mk {K : PySem.W.Frag} {C : Addr} {x qual : Str} {st : Stmt} {f : Addr} {oc : Value} {od an : Option Addr} {osl : Array (Option Value)} {kV doc pm cdv ct : Value} (a : PySem.W.findIn K (.ref C) x = some (some (.ref f))) (fn : PySem.W.isFn K (.ref f) = true)
    (l : K.lookup f = some ⟨oc, od, .func (PySem.W.fnOf x qual (defArgs st) (defBody st) (defScope st) .none kV doc pm an cdv ct), osl⟩) (c : PySem.W.codeIn K cdv qual = true) (k : PySem.W.keepIn K (.ref f) = true) : MetAt K C x qual st := ⟨f, _, fun_mk l c k, ⟨a, fn, k⟩⟩
/-- a property -/
structure PropAt (K : PySem.W.Frag) (C : Addr) (x qual : Str) (st : Stmt) : Prop where
  ex : ∃ (p f : Addr) (fd : FuncData), Fun K x qual st f fd ∧ PropOf K C x p f
theorem prop_mk {K : PySem.W.Frag} {C : Addr} {x qual : Str} {st : Stmt} {p f : Addr} {rest : List Value} {oc : Value} {od an : Option Addr} {osl : Array (Option Value)} {kV doc pm cdv ct : Value} (a : PySem.W.findIn K (.ref C) x = some (some (.ref p)))
    (g : PySem.W.specialIn K (.ref p) "__get__" = some (some (.builtin "property.__get__"))) (t : PySem.W.takesIn K (.ref p) = some true) (r : PySem.W.recIn K p "property" = some (.ref f :: rest))
    (l : K.lookup f = some ⟨oc, od, .func (PySem.W.fnOf x qual (defArgs st) (defBody st) (defScope st) .none kV doc pm an cdv ct), osl⟩) (c : PySem.W.codeIn K cdv qual = true) (k : PySem.W.keepIn K (.ref f) = true) : PropAt K C x qual st := ⟨p, f, _, fun_mk l c k, ⟨a, g, t, ⟨rest, r⟩⟩⟩
/-- __init__, its last parameter with a default: an empty tuple -/
structure InitAt (K : PySem.W.Frag) (C : Addr) : Prop where
  ex : ∃ (f b0 : Addr) (fd : FuncData), C8.Fun K "__init__" "Machine.__init__" sInit f fd ∧ Mk K C f ∧ Binds K fd nInit [] ∧ Binds K fd nInit [.ref b0] ∧ ∀ H : Hp, SqT K H b0 []
theorem init_at {K : PySem.W.Frag} {C f T b0 : Addr} {oc tc : Value} {od an td bd : Option Addr} {osl tsl bsl : Array (Option Value)} {kV doc pm cdv ct : Value} {n n' : Nat}
    (i : PySem.W.findIn K (.ref C) "__init__" = some (some (.ref f))) (mk : PySem.W.makesIn K C = true) (fn : PySem.W.isFn K (.ref f) = true) (kp : PySem.W.keepIn K (.ref C) = true)
    (l : K.lookup f = some ⟨oc, od, .func (PySem.W.fnOf "__init__" "Machine.__init__" (C8.fnArgs sInit) (C8.fnBody sInit) (C8.fnScope sInit) (.ref T) kV doc pm an cdv ct), osl⟩) (c : PySem.W.codeIn K cdv "Machine.__init__" = true)
    (lT : K.lookup T = some ⟨tc, td, .seq #[.ref b0] n, tsl⟩) (lB : K.lookup b0 = some ⟨.type "tuple", bd, .seq #[] n', bsl⟩) : InitAt K C := by
  refine ⟨f, b0, _, ⟨_, _, _, _, _, _, _, _, _, _, rfl, l, c⟩, ⟨mk, i, fn, kp⟩, fun s us X hl => ?_, fun s us X hl => ?_, fun H => .inr ⟨_, #[], n', lB, rfl, rfl, Nat.zero_le _, .nil⟩⟩
  · rw [List.append_nil] at hl ⊢
    have hl : us.length = 4 := hl
    match us, hl with
    | [_, _, _, _], _ => exact BindsTo.of_looks fun M => looks_items (its := #[.ref b0]) X lT rfl (.of_pure rfl)
  · rw [List.length_append] at hl
    have hl : us.length + 1 = 4 := hl
    have hl : us.length = 3 := by omega
    match us, hl with
    | [_, _, _], _ => exact BindsTo.of_looks fun M => looks_items (its := #[.ref b0]) X lT rfl (.of_pure rfl)
/-- after, its keyword-only parameter with a default -/
structure AfterAt (K : PySem.W.Frag) (C : Addr) : Prop where
  ex : ∃ (f : Addr) (fd : FuncData) (ds : List Value), C8.Fun K "after" "Machine.after" sAfter f fd ∧ Meth K C "after" f ∧ Vals [.int 1] ds ∧ Binds K fd ["self", "word", "times"] ds ∧ KBn K fd ["self", "word", "times"] 2 ["times"] (fun us ws => us ++ ws) (fun vs zs => vs ++ zs)
theorem vals_app {vs zs : List V} {us ws : List Value} (h : Vals vs us) (k : Vals zs ws) : Vals (vs ++ zs) (us ++ ws) := h.append k
theorem after_at {K : PySem.W.Frag} {C f D : Addr} {oc : Value} {od an : Option Addr} {osl : Array (Option Value)} {doc pm cdv ct : Value} {tk : Tok}
    (i : PySem.W.findIn K (.ref C) "after" = some (some (.ref f))) (fn : PySem.W.isFn K (.ref f) = true) (kp : PySem.W.keepIn K (.ref f) = true)
    (l : K.lookup f = some ⟨oc, od, .func (PySem.W.fnOf "after" "Machine.after" (C8.fnArgs sAfter) (C8.fnBody sAfter) (C8.fnScope sAfter) .none (.ref D) doc pm an cdv ct), osl⟩) (c : PySem.W.codeIn K cdv "Machine.after" = true)
    (lD : PySem.W.nsIn K D "times" = some (some (.int 1 tk))) : AfterAt K C := by
  refine ⟨f, _, [.int 1 tk], ⟨_, _, _, _, _, _, _, _, _, _, rfl, l, c⟩, ⟨i, fn, kp⟩, .cons ⟨tk, rfl⟩ .nil, fun s us X hl => ?_, ⟨fun s us ws X l1 l2 => ?_, fun h k => vals_app h k⟩⟩
  · rw [List.length_append] at hl
    have hl : us.length + 1 = 3 := hl
    have hl : us.length = 2 := by omega
    have hq : ∀ q ∈ [(("times" : Str), Value.int 1 tk)], PySem.W.nsIn K D q.1 = some (some q.2) := fun q hq => by
      rw [List.mem_singleton.mp hq]
      exact lD
    match us, hl with
    | [a, b], _ => exact BindsTo.of_looks fun M => KwChain.looks (D := D) (l := [("times", .int 1 tk)]) X hq ⟨_, _, _, _, _, _, rfl, rfl, rfl⟩
  · have l2 : ws.length = 1 := l2
    match us, ws, l1, l2 with
    | [_, _], [_], _, _ => exact .of_eq rfl
/-- the package's errors over TurnError -/
def errN (K : PySem.W.Frag) (c : Addr) : Bool := PySem.W.keepIn K (.ref c) && (decide (PySem.W.subIn K (.ref c) (.type "BaseException") = some true) && decide (PySem.W.typeIn K (.ref c) = some (.type "type")))
def errB (K : PySem.W.Frag) (c : Addr) : Bool := PySem.W.excIn K c [.type "ValueError", .type "Exception", .type "BaseException", .type "object"] "ValueError.__new__" && errN K c
theorem errR {K : PySem.W.Frag} {mg : Str → Option Value} {nm : Str} {c : Addr} (h : errB K c = true) (g : mg nm = some (.ref c)) : TxR K mg nm c := by
  obtain ⟨h1, h⟩ := Bool.and_eq_true_iff.mp h
  obtain ⟨h2, h⟩ := Bool.and_eq_true_iff.mp h
  obtain ⟨h3, h4⟩ := Bool.and_eq_true_iff.mp h
  exact ⟨h1, g, h2, of_decide_eq_true h3, of_decide_eq_true h4⟩
theorem errE {K : PySem.W.Frag} {mg : Str → Option Value} {c : Addr} (h : errB K c = true) (g : mg "InvalidMachine" = some (.ref c)) : TxE K mg c := by
  obtain ⟨h1, h2, h3, h4, h5⟩ := errR h g
  exact ⟨h1, h2, h3, h4, h5⟩
theorem errN_ok {P : Program} {K : PySem.W.Frag} {mg : Str → Option Value} {c i : Addr} (h : errN K c = true) (t : PySem.NvE.InitTxt P K c i "RuntimeError" "RuntimeError.__init__" "RuntimeError" "RuntimeError.__new__" "value" "InvalidNumber.__init__") (g : mg "InvalidNumber" = some (.ref c)) : TxN P K mg c := by
  obtain ⟨h2, h⟩ := Bool.and_eq_true_iff.mp h
  obtain ⟨h3, h4⟩ := Bool.and_eq_true_iff.mp h
  exact ⟨⟨_, _, _, _, _, _, t⟩, g, h2, of_decide_eq_true h3, of_decide_eq_true h4⟩
/-- the class of machines -/
def clsL (K : PySem.W.Frag) (C : Addr) : List Bool := [PySem.W.plainGet K C Str.empty, PySem.W.hasDictIn K C, PySem.W.plainOver K C, decide (PySem.W.findIn K (.ref C) "__setattr__" = some (some (.builtin "object.__setattr__"))),
  decide (PySem.W.findIn K (.ref C) "_letters" = some none), decide (PySem.W.findIn K (.ref C) "_table" = some none), decide (PySem.W.findIn K (.ref C) "_ends" = some none),
  decide (PySem.W.kitOne K (.ref C) (.type "str") = some false), decide (PySem.W.findIn K (.ref C) "__class__" = some (some (.builtin "object.__class__"))), decide (PySem.W.specialIn K (.builtin "object.__class__") "__get__" = some (some (.builtin "getset_descriptor.__get__"))),
  decide (PySem.W.takesIn K (.builtin "object.__class__") = some true), decide (PySem.W.mroIn K C (.type "object") = some true), decide (PySem.W.kitOne K (.ref C) (.ref C) = some true), decide (PySem.W.kitOne K (.type "dict") (.ref C) = some false),
  decide (PySem.W.kitOne K (.type "int") (.ref C) = some false), decide (PySem.W.kitOne K (.type "str") (.ref C) = some false), PySem.W.notFirst K C (.type "dict"), PySem.W.notFirst K C (.type "int"), PySem.W.notFirst K C (.type "str"),
  decide (PySem.W.findIn K (.ref C) "__ne__" = some (some (.builtin "object.__ne__")))]
def clsB (K : PySem.W.Frag) (C : Addr) : Bool := (clsL K C).all id
theorem clsB_ok {K : PySem.W.Frag} {C : Addr} (h : clsB K C = true) : Cls K C ∧ NoAttr K C "_letters" ∧ NoAttr K C "_table" ∧ NoAttr K C "_ends" ∧ TxO K C := by
  have h := List.all_eq_true.mp h
  have q : ∀ (i : Nat) (b : Bool), (clsL K C)[i]? = some b → b = true := fun i b e => h b (List.mem_of_getElem? e)
  exact ⟨⟨q 0 _ rfl, q 1 _ rfl, q 2 _ rfl, of_decide_eq_true (q 3 _ rfl)⟩, (of_decide_eq_true (q 4 _ rfl) : PySem.W.findIn K (.ref C) "_letters" = some none), (of_decide_eq_true (q 5 _ rfl) : PySem.W.findIn K (.ref C) "_table" = some none), (of_decide_eq_true (q 6 _ rfl) : PySem.W.findIn K (.ref C) "_ends" = some none),
    ⟨of_decide_eq_true (q 7 _ rfl), of_decide_eq_true (q 8 _ rfl), of_decide_eq_true (q 9 _ rfl), of_decide_eq_true (q 10 _ rfl), of_decide_eq_true (q 11 _ rfl), of_decide_eq_true (q 12 _ rfl), of_decide_eq_true (q 13 _ rfl), of_decide_eq_true (q 14 _ rfl), of_decide_eq_true (q 15 _ rfl), q 16 _ rfl, q 17 _ rfl, q 18 _ rfl, of_decide_eq_true (q 19 _ rfl)⟩⟩
open PySem.Spec PyProof.Rows in
/-- a law's end, its promise over what the top has left -/
theorem walk_ofK {l : PySem.W.OpenLaw} {n k : Nat} {q : Program} {loose : List Str} {XP : (Str → Option Value) → Heap → Prop} {YP : World → Heap → Prop} {d : PySem.DefRec} {K : Params → PySem.W.Frag} {sp : PySem.W.Frag → Sp} {x : Str}
    (hn : l.most = some n) (hn2 : n ≤ sizeLine) (hdf : d.params.defaults = []) (hr : Room k callerA) (hY : ∀ (w : World) (h : Heap), YP w h → (K w.params).In h)
    (F : ∀ (w : World) (mg : Str → Option Value) (fa : Addr) (h : Heap), (K w.params).In h → h.Ns mainGlobals mg → mg d.name = some (.ref fa) →
      ∃ fd : FuncData, (∀ (s : Shared) (u : Value), BindsTo s fd ⟨[u], []⟩ [(x, u)]) ∧ ∀ base : Heap, (K w.params).In base → base.Ns mainGlobals mg → FnOk l.prog w (K w.params) mg base CX0 k fa fd [x] (sp (K w.params)))
    (hsp : ∀ (K : PySem.W.Frag) (H : Hp) (a : Addr) (ns : List Int), ns.length ≤ n → Only H → SqL K H a (ns.map V.int) → sp K [.ref a] H (fun v _ => v = .bl true) fun _ _ _ => False) :
    PySem.W.WalkO q loose XP YP l.row.toRowW d [] (fun f vs => PySem.call f vs) :=
  walk_of (CX := fun _ => CX0) (sp := fun w => sp (K w.params)) hn hn2 hdf hr hY F (fun w H a ns h1 h2 h3 => hsp (K w.params) H a ns h1 h2 h3) (fun _ _ _ _ _ h => h)
theorem all_mk {P : Program} {w : World} {K : PySem.W.Frag} {h : Heap} {mg : Str → Option Value} {fa : Addr} (X : K.In h) (G : h.Ns mainGlobals mg) (hfa : mg "law" = some (.ref fa))
    (dDice : DefAt K "_law_dice" sDice)
    (dRoll : DefAt K "_law_roll" sRoll)
    (dOneOf : DefAt K "_law_one_of" sOneOf)
    (dMixed : DefAt K "_law_mixed" sMixed)
    (dLetters : DefAt K "_law_letters" sLetters)
    (dWord : DefAt K "_law_word" sWord)
    (dAction : DefAt K "_law_action" sAction)
    (dTable : DefAt K "_law_table" sTable)
    (dMachine : DefAt K "_law_machine" sMachine)
    (dMade : DefAt K "_law_made_machine" sMade)
    (dLawLed : DefAt K "_law_led" sLawLed)
    (dHas : DefAt K "_law_has" sHas)
    (dNear : DefAt K "_law_near" sNear)
    (dRep : DefAt K "_law_repeated" sRep)
    (dWordsRight : DefAt K "_law_words_right" sWordsRight)
    (dRight : DefAt K "_law_right" sRight)
    (dLaw : DefAt K "law" sLaw)
    (dBetween : DefAt K "is_between" sBetween)
    (dIsWord : DefAt K "is_word" sIsWord)
    (dHasOnly : DefAt K "has_only" sHasOnly)
    (dIsLetters : DefAt K "is_letters" sIsLetters)
    (dCheck : DefAt K "check_word" sCheck)
    (dOnlyC : DefAt K "check_only" sOnlyC)
    (dIsTable : DefAt K "is_table" sIsTable)
    (dIsLine : DefAt K "is_line" sIsLine)
    (dIsChoice : DefAt K "is_choice" sIsChoice)
    (dMarked : DefAt K "marked" sMarked)
    (dLed : DefAt K "led" sLed)
    (dOften : DefAt K "led_often" sOften)
    (dReached : DefAt K "reached" sReached)
    (dEndMarks : DefAt K "end_marks" sEndMarks)
    {C cM cW cO cN iN : Addr}
    (gC : PySem.W.nsIn K mainGlobals "Machine" = some (some (.ref C)))
    (gM : PySem.W.nsIn K mainGlobals "InvalidMachine" = some (some (.ref cM)))
    (gW : PySem.W.nsIn K mainGlobals "InvalidWord" = some (some (.ref cW)))
    (gO : PySem.W.nsIn K mainGlobals "InvalidOperation" = some (some (.ref cO)))
    (gN : PySem.W.nsIn K mainGlobals "InvalidNumber" = some (some (.ref cN)))
    (eM : errB K cM = true)
    (eW : errB K cW = true)
    (eO : errB K cO = true)
    (eN : errN K cN = true)
    (tN : PySem.NvE.InitTxt P K cN iN "RuntimeError" "RuntimeError.__init__" "RuntimeError" "RuntimeError.__new__" "value" "InvalidNumber.__init__")
    (hC : clsB K C = true)
    (mI : InitAt K C)
    (mAf : AfterAt K C)
    (mContains : MetAt K C "__contains__" "Machine.__contains__" sContains)
    (mLen : MetAt K C "__len__" "Machine.__len__" sLen)
    (mEq : MetAt K C "__eq__" "Machine.__eq__" sEq)
    (mStr : MetAt K C "__str__" "Machine.__str__" sStr)
    (pPropL : PropAt K C "letters" "Machine.letters" sPropL)
    (pPropT : PropAt K C "table" "Machine.table" sPropT)
    (pPropE : PropAt K C "ends" "Machine.ends" sPropE)
    (pIsEmpty : PropAt K C "is_empty" "Machine.is_empty" sIsEmpty)
    (pIsFull : PropAt K C "is_full" "Machine.is_full" sIsFull)
    {ta tl ts tt : Tok}
    (vA : PySem.W.nsIn K mainGlobals "ALPHABET" = some (some (.str "abcdefghijklmnopqrstuvwxyz" ta)))
    (vL : PySem.W.nsIn K mainGlobals "MAX_LETTERS" = some (some (.int 2 tl)))
    (vS : PySem.W.nsIn K mainGlobals "MAX_STATES" = some (some (.int 4 ts)))
    (vT : PySem.W.nsIn K mainGlobals "MAX_TIMES" = some (some (.int 100000000000 tt)))
    (z_isinstance : PySem.W.nsIn K mainGlobals "isinstance" = some none)
    (z_bool : PySem.W.nsIn K mainGlobals "bool" = some none)
    (z_int : PySem.W.nsIn K mainGlobals "int" = some none)
    (z_str : PySem.W.nsIn K mainGlobals "str" = some none)
    (z_tuple : PySem.W.nsIn K mainGlobals "tuple" = some none)
    (z_all : PySem.W.nsIn K mainGlobals "all" = some none)
    (z_abs : PySem.W.nsIn K mainGlobals "abs" = some none)
    (z_len : PySem.W.nsIn K mainGlobals "len" = some none)
    (z_list : PySem.W.nsIn K mainGlobals "list" = some none)
    (z_sorted : PySem.W.nsIn K mainGlobals "sorted" = some none)
    (z_range : PySem.W.nsIn K mainGlobals "range" = some none)
    (z_zip : PySem.W.nsIn K mainGlobals "zip" = some none)
    (z_max : PySem.W.nsIn K mainGlobals "max" = some none)
    (z_min : PySem.W.nsIn K mainGlobals "min" = some none)
    (z_any : PySem.W.nsIn K mainGlobals "any" = some none)
    : ∃ fd : FuncData, (∀ (s : Shared) (v : Value), BindsTo s fd ⟨[v], []⟩ [("script", v)]) ∧ ∀ base : Heap, K.In base → base.Ns mainGlobals mg → FnOk P w K mg base CX0 8 fa fd ["script"] (spLaw K) := by
  obtain ⟨fDice, DDice, FDice, aDice⟩ := dDice.ex
  have mDice_ := PySem.W.mg_of X G aDice
  have bDice := FDice.binds (ps := ["script", "at"]) fun _ _ _ _ _ _ us hl => match us, hl with | [_, _], _ => rfl
  obtain ⟨fRoll, DRoll, FRoll, aRoll⟩ := dRoll.ex
  have mRoll_ := PySem.W.mg_of X G aRoll
  have bRoll := FRoll.binds (ps := ["dice", "total"]) fun _ _ _ _ _ _ us hl => match us, hl with | [_, _], _ => rfl
  obtain ⟨fOneOf, DOneOf, FOneOf, aOneOf⟩ := dOneOf.ex
  have mOneOf_ := PySem.W.mg_of X G aOneOf
  have bOneOf := FOneOf.binds (ps := ["dice", "items"]) fun _ _ _ _ _ _ us hl => match us, hl with | [_, _], _ => rfl
  obtain ⟨fMixed, DMixed, FMixed, aMixed⟩ := dMixed.ex
  have mMixed_ := PySem.W.mg_of X G aMixed
  have bMixed := FMixed.binds (ps := ["dice", "items"]) fun _ _ _ _ _ _ us hl => match us, hl with | [_, _], _ => rfl
  obtain ⟨fLetters, DLetters, FLetters, aLetters⟩ := dLetters.ex
  have mLetters_ := PySem.W.mg_of X G aLetters
  have bLetters := FLetters.binds (ps := ["dice", "total"]) fun _ _ _ _ _ _ us hl => match us, hl with | [_, _], _ => rfl
  obtain ⟨fWord, DWord, FWord, aWord⟩ := dWord.ex
  have mWord_ := PySem.W.mg_of X G aWord
  have bWord := FWord.binds (ps := ["dice", "letters", "most"]) fun _ _ _ _ _ _ us hl => match us, hl with | [_, _, _], _ => rfl
  obtain ⟨fAction, DAction, FAction, aAction⟩ := dAction.ex
  have mAction_ := PySem.W.mg_of X G aAction
  have bAction := FAction.binds (ps := ["dice", "size", "sort"]) fun _ _ _ _ _ _ us hl => match us, hl with | [_, _, _], _ => rfl
  obtain ⟨fTable, DTable, FTable, aTable⟩ := dTable.ex
  have mTable_ := PySem.W.mg_of X G aTable
  have bTable := FTable.binds (ps := ["dice", "letters", "size", "sorts"]) fun _ _ _ _ _ _ us hl => match us, hl with | [_, _, _, _], _ => rfl
  obtain ⟨fMachine, DMachine, FMachine, aMachine⟩ := dMachine.ex
  have mMachine_ := PySem.W.mg_of X G aMachine
  have bMachine := FMachine.binds (ps := ["dice", "letters", "states"]) fun _ _ _ _ _ _ us hl => match us, hl with | [_, _, _], _ => rfl
  obtain ⟨fMade, DMade, FMade, aMade⟩ := dMade.ex
  have mMade_ := PySem.W.mg_of X G aMade
  have bMade := FMade.binds (ps := ["plain"]) fun _ _ _ _ _ _ us hl => match us, hl with | [_], _ => rfl
  obtain ⟨fLawLed, DLawLed, FLawLed, aLawLed⟩ := dLawLed.ex
  have mLawLed_ := PySem.W.mg_of X G aLawLed
  have bLawLed := FLawLed.binds (ps := ["table", "letters", "word", "start"]) fun _ _ _ _ _ _ us hl => match us, hl with | [_, _, _, _], _ => rfl
  obtain ⟨fHas, DHas, FHas, aHas⟩ := dHas.ex
  have mHas_ := PySem.W.mg_of X G aHas
  have bHas := FHas.binds (ps := ["plain", "word"]) fun _ _ _ _ _ _ us hl => match us, hl with | [_, _], _ => rfl
  obtain ⟨fNear, DNear, FNear, aNear⟩ := dNear.ex
  have mNear_ := PySem.W.mg_of X G aNear
  have bNear := FNear.binds (ps := ["dice", "plain"]) fun _ _ _ _ _ _ us hl => match us, hl with | [_, _], _ => rfl
  obtain ⟨fRep, DRep, FRep, aRep⟩ := dRep.ex
  have mRep_ := PySem.W.mg_of X G aRep
  have bRep := FRep.binds (ps := ["plain", "word", "times"]) fun _ _ _ _ _ _ us hl => match us, hl with | [_, _, _], _ => rfl
  obtain ⟨fWordsRight, DWordsRight, FWordsRight, aWordsRight⟩ := dWordsRight.ex
  have mWordsRight_ := PySem.W.mg_of X G aWordsRight
  have bWordsRight := FWordsRight.binds (ps := ["dice", "plain", "made"]) fun _ _ _ _ _ _ us hl => match us, hl with | [_, _, _], _ => rfl
  obtain ⟨fRight, DRight, FRight, aRight⟩ := dRight.ex
  have mRight_ := PySem.W.mg_of X G aRight
  have bRight := FRight.binds (ps := ["dice"]) fun _ _ _ _ _ _ us hl => match us, hl with | [_], _ => rfl
  obtain ⟨fLaw, DLaw, FLaw, aLaw⟩ := dLaw.ex
  have mLaw_ := PySem.W.mg_of X G aLaw
  have bLaw := FLaw.binds (ps := ["script"]) fun _ _ _ _ _ _ us hl => match us, hl with | [_], _ => rfl
  obtain ⟨fBetween, DBetween, FBetween, aBetween⟩ := dBetween.ex
  have mBetween_ := PySem.W.mg_of X G aBetween
  have bBetween := FBetween.binds (ps := ["value", "low", "high"]) fun _ _ _ _ _ _ us hl => match us, hl with | [_, _, _], _ => rfl
  obtain ⟨fIsWord, DIsWord, FIsWord, aIsWord⟩ := dIsWord.ex
  have mIsWord_ := PySem.W.mg_of X G aIsWord
  have bIsWord := FIsWord.binds (ps := ["value"]) fun _ _ _ _ _ _ us hl => match us, hl with | [_], _ => rfl
  obtain ⟨fHasOnly, DHasOnly, FHasOnly, aHasOnly⟩ := dHasOnly.ex
  have mHasOnly_ := PySem.W.mg_of X G aHasOnly
  have bHasOnly := FHasOnly.binds (ps := ["word", "letters"]) fun _ _ _ _ _ _ us hl => match us, hl with | [_, _], _ => rfl
  obtain ⟨fIsLetters, DIsLetters, FIsLetters, aIsLetters⟩ := dIsLetters.ex
  have mIsLetters_ := PySem.W.mg_of X G aIsLetters
  have bIsLetters := FIsLetters.binds (ps := ["value"]) fun _ _ _ _ _ _ us hl => match us, hl with | [_], _ => rfl
  obtain ⟨fCheck, DCheck, FCheck, aCheck⟩ := dCheck.ex
  have mCheck_ := PySem.W.mg_of X G aCheck
  have bCheck := FCheck.binds (ps := ["value"]) fun _ _ _ _ _ _ us hl => match us, hl with | [_], _ => rfl
  obtain ⟨fOnlyC, DOnlyC, FOnlyC, aOnlyC⟩ := dOnlyC.ex
  have mOnlyC_ := PySem.W.mg_of X G aOnlyC
  have bOnlyC := FOnlyC.binds (ps := ["word", "letters"]) fun _ _ _ _ _ _ us hl => match us, hl with | [_, _], _ => rfl
  obtain ⟨fIsTable, DIsTable, FIsTable, aIsTable⟩ := dIsTable.ex
  have mIsTable_ := PySem.W.mg_of X G aIsTable
  have bIsTable := FIsTable.binds (ps := ["value", "width", "most"]) fun _ _ _ _ _ _ us hl => match us, hl with | [_, _, _], _ => rfl
  obtain ⟨fIsLine, DIsLine, FIsLine, aIsLine⟩ := dIsLine.ex
  have mIsLine_ := PySem.W.mg_of X G aIsLine
  have bIsLine := FIsLine.binds (ps := ["value", "width", "size"]) fun _ _ _ _ _ _ us hl => match us, hl with | [_, _, _], _ => rfl
  obtain ⟨fIsChoice, DIsChoice, FIsChoice, aIsChoice⟩ := dIsChoice.ex
  have mIsChoice_ := PySem.W.mg_of X G aIsChoice
  have bIsChoice := FIsChoice.binds (ps := ["value", "size"]) fun _ _ _ _ _ _ us hl => match us, hl with | [_, _], _ => rfl
  obtain ⟨fMarked, DMarked, FMarked, aMarked⟩ := dMarked.ex
  have mMarked_ := PySem.W.mg_of X G aMarked
  have bMarked := FMarked.binds (ps := ["states"]) fun _ _ _ _ _ _ us hl => match us, hl with | [_], _ => rfl
  obtain ⟨fLed, DLed, FLed, aLed⟩ := dLed.ex
  have mLed_ := PySem.W.mg_of X G aLed
  have bLed := FLed.binds (ps := ["table", "letters", "start", "word"]) fun _ _ _ _ _ _ us hl => match us, hl with | [_, _, _, _], _ => rfl
  obtain ⟨fOften, DOften, FOften, aOften⟩ := dOften.ex
  have mOften_ := PySem.W.mg_of X G aOften
  have bOften := FOften.binds (ps := ["table", "letters", "start", "word", "times"]) fun _ _ _ _ _ _ us hl => match us, hl with | [_, _, _, _, _], _ => rfl
  obtain ⟨fReached, DReached, FReached, aReached⟩ := dReached.ex
  have mReached_ := PySem.W.mg_of X G aReached
  have bReached := FReached.binds (ps := ["table"]) fun _ _ _ _ _ _ us hl => match us, hl with | [_], _ => rfl
  obtain ⟨fEndMarks, DEndMarks, FEndMarks, aEndMarks⟩ := dEndMarks.ex
  have mEndMarks_ := PySem.W.mg_of X G aEndMarks
  have bEndMarks := FEndMarks.binds (ps := ["table", "ends"]) fun _ _ _ _ _ _ us hl => match us, hl with | [_, _], _ => rfl
  obtain ⟨fContains, DContains, FContains, MContains⟩ := mContains.ex
  have bContains := FContains.binds (ps := ["self", "x"]) fun _ _ _ _ _ _ us hl => match us, hl with | [_, _], _ => rfl
  obtain ⟨fLen, DLen, FLen, MLen⟩ := mLen.ex
  have bLen := FLen.binds (ps := ["self"]) fun _ _ _ _ _ _ us hl => match us, hl with | [_], _ => rfl
  obtain ⟨fEq, DEq, FEq, MEq⟩ := mEq.ex
  have bEq := FEq.binds (ps := ["self", "other"]) fun _ _ _ _ _ _ us hl => match us, hl with | [_, _], _ => rfl
  obtain ⟨fStr, DStr, FStr, MStr⟩ := mStr.ex
  have bStr := FStr.binds (ps := ["self"]) fun _ _ _ _ _ _ us hl => match us, hl with | [_], _ => rfl
  obtain ⟨qPropL, fPropL, DPropL, FPropL, QPropL⟩ := pPropL.ex
  have bPropL := FPropL.binds (ps := ["self"]) fun _ _ _ _ _ _ us hl => match us, hl with | [_], _ => rfl
  obtain ⟨qPropT, fPropT, DPropT, FPropT, QPropT⟩ := pPropT.ex
  have bPropT := FPropT.binds (ps := ["self"]) fun _ _ _ _ _ _ us hl => match us, hl with | [_], _ => rfl
  obtain ⟨qPropE, fPropE, DPropE, FPropE, QPropE⟩ := pPropE.ex
  have bPropE := FPropE.binds (ps := ["self"]) fun _ _ _ _ _ _ us hl => match us, hl with | [_], _ => rfl
  obtain ⟨qIsEmpty, fIsEmpty, DIsEmpty, FIsEmpty, QIsEmpty⟩ := pIsEmpty.ex
  have bIsEmpty := FIsEmpty.binds (ps := ["self"]) fun _ _ _ _ _ _ us hl => match us, hl with | [_], _ => rfl
  obtain ⟨qIsFull, fIsFull, DIsFull, FIsFull, QIsFull⟩ := pIsFull.ex
  have bIsFull := FIsFull.binds (ps := ["self"]) fun _ _ _ _ _ _ us hl => match us, hl with | [_], _ => rfl
  have e := hfa.symm.trans mLaw_
  cases e
  have TI : TxI mg := ⟨PySem.W.mg_none_of X G z_int, PySem.W.mg_none_of X G z_abs, PySem.W.mg_none_of X G z_len⟩
  have TM : TxM mg := ⟨PySem.W.mg_none_of X G z_list, PySem.W.mg_none_of X G z_sorted, PySem.W.mg_none_of X G z_range, PySem.W.mg_none_of X G z_tuple, PySem.W.mg_none_of X G z_len⟩
  have TW : TxW mg := ⟨PySem.W.mg_none_of X G z_isinstance, PySem.W.mg_none_of X G z_bool, PySem.W.mg_none_of X G z_int, PySem.W.mg_none_of X G z_str, PySem.W.mg_none_of X G z_tuple, PySem.W.mg_none_of X G z_all, ⟨_, PySem.W.mg_of X G vA⟩⟩
  have TZ : TxZ mg := ⟨PySem.W.mg_none_of X G z_zip, PySem.W.mg_none_of X G z_len, ⟨_, PySem.W.mg_of X G vL⟩⟩
  have TL : TxL mg := ⟨PySem.W.mg_none_of X G z_max, PySem.W.mg_none_of X G z_min⟩
  obtain ⟨cl, nL, nT, nE, TO⟩ := clsB_ok hC
  have TK : TxK K mg C := ⟨cl, nL, nT, nE, ⟨_, PySem.W.mg_of X G vS⟩⟩
  have TE : TxE K mg cM := errE eM (PySem.W.mg_of X G gM)
  have TRW : TxR K mg "InvalidWord" cW := errR eW (PySem.W.mg_of X G gW)
  have TRO : TxR K mg "InvalidOperation" cO := errR eO (PySem.W.mg_of X G gO)
  have TN : TxN P K mg cN := errN_ok eN tN (PySem.W.mg_of X G gN)
  have mC := PySem.W.mg_of X G gC
  have DD : DefsD K mg := ⟨fRoll, fOneOf, DRoll, DOneOf, FRoll, bRoll, mRoll_, FOneOf, bOneOf, mOneOf_⟩
  have DM : DefsM K mg := ⟨fAction, fTable, DAction, DTable, FAction, bAction, mAction_, FTable, bTable, mTable_⟩
  have DW : DefsW K mg := ⟨fBetween, fIsWord, fHasOnly, DBetween, DIsWord, DHasOnly, FBetween, bBetween, mBetween_, FIsWord, bIsWord, mIsWord_, FHasOnly, bHasOnly, mHasOnly_⟩
  have DT : DefsT K mg := ⟨fIsLetters, fIsTable, fIsLine, fIsChoice, DIsLetters, DIsTable, DIsLine, DIsChoice, FIsLetters, bIsLetters, mIsLetters_, FIsTable, bIsTable, mIsTable_, FIsLine, bIsLine, mIsLine_, FIsChoice, bIsChoice, mIsChoice_⟩
  obtain ⟨fI, b0, DI, FI, MKI, bI, bI1, hb0⟩ := mI.ex
  obtain ⟨fA, DA, dsA, FA, MA, vAf, bA, kA⟩ := mAf.ex
  have hMT : ∃ t, mg "MAX_TIMES" = some (.int 100000000000 t) := ⟨_, PySem.W.mg_of X G vT⟩
  refine ⟨DLaw, ?_, fun base _ _ => ?_⟩
  rotate_left
  · have GI : FnOk P w K mg base CX0 4 fI DI nInit (spInit K C) := ok_init FI DT DW TW TZ TE TK
    have GA : FnOk P w K mg base CX0 4 fA DA ["self", "word", "times"] (spAfter K C) := ok_after FA DW FCheck bCheck mCheck_ FOften bOften mOften_ FLed bLed mLed_ FOnlyC bOnlyC mOnlyC_ TW TI TK TRW TN TRO hMT
    have GE : FnOk P w K mg base CX0 2 fEndMarks DEndMarks ["table", "ends"] (spEndMarks K) := ok_endmarks FEndMarks FMarked bMarked mMarked_ FReached bReached mReached_ TI
    let cDice : FnC P w K mg base 1 "_law_dice" ["script", "at"] (spDice K) := ⟨fDice, DDice, ok_dice FDice TI, bDice, mDice_, FDice.kp⟩
    let cRoll : FnC P w K mg base 1 "_law_roll" ["dice", "total"] spDraw := ⟨fRoll, DRoll, ok_draw FRoll TI, bRoll, mRoll_, FRoll.kp⟩
    let cOneOf : FnC P w K mg base 2 "_law_one_of" ["dice", "items"] (spOneOf K) := ⟨fOneOf, DOneOf, ok_oneof FOneOf FRoll bRoll mRoll_ TI, bOneOf, mOneOf_, FOneOf.kp⟩
    let cLetters : FnC P w K mg base 3 "_law_letters" ["dice", "total"] spLetters := ⟨fLetters, DLetters, ok_letters FLetters FMixed bMixed mMixed_ DD TI TM, bLetters, mLetters_, FLetters.kp⟩
    let cWord : FnC P w K mg base 3 "_law_word" ["dice", "letters", "most"] spWord := ⟨fWord, DWord, ok_word FWord DD TI TM, bWord, mWord_, FWord.kp⟩
    let cMachine : FnC P w K mg base 4 "_law_machine" ["dice", "letters", "states"] spMachine := ⟨fMachine, DMachine, ok_machine FMachine DD DM TI TM, bMachine, mMachine_, FMachine.kp⟩
    let cMade : FnC P w K mg base 6 "_law_made_machine" ["plain"] (spMade K C) := ⟨fMade, DMade, ok_made FMade FI bI MKI mC DT DW TW TZ TM TE TK, bMade, mMade_, FMade.kp⟩
    let cLawLed : FnC P w K mg base 1 "_law_led" ["table", "letters", "word", "start"] (spLawLed K) := ⟨fLawLed, DLawLed, ok_lawled FLawLed, bLawLed, mLawLed_, FLawLed.kp⟩
    let cHas : FnC P w K mg base 2 "_law_has" ["plain", "word"] (spHas K) := ⟨fHas, DHas, ok_has FHas FLawLed bLawLed mLawLed_, bHas, mHas_, FHas.kp⟩
    let cNear : FnC P w K mg base 2 "_law_near" ["dice", "plain"] spNear := ⟨fNear, DNear, ok_near FNear DD TI TM, bNear, mNear_, FNear.kp⟩
    let cRep : FnC P w K mg base 2 "_law_repeated" ["plain", "word", "times"] spRep := ⟨fRep, DRep, ok_rep FRep FLawLed bLawLed mLawLed_ TI TM, bRep, mRep_, FRep.kp⟩
    let mAfter : MtC P w K mg base C 4 "after" ["self", "word", "times"] [.int 1] (spAfter K C) := ⟨fA, DA, dsA, GA, vAf, bA, MA⟩
    have GCo : FnOk P w K mg base CX0 3 fContains DContains ["self", "x"] (spContains K C) := ok_contains FContains DW FLed bLed mLed_ TW TK
    let cWR : FnC P w K mg base 5 "_law_words_right" ["dice", "plain", "made"] (spWR K C) := ⟨fWordsRight, DWordsRight, ok_wr FWordsRight cWord cOneOf cRoll cLawLed cRep cHas mAfter kA GCo bContains MContains TK TO TM, bWordsRight, mWordsRight_, FWordsRight.kp⟩
    let pL : PrC P w K mg base C 1 "letters" (spPropL K C) := ⟨qPropL, fPropL, DPropL, QPropL, ok_propL FPropL TK, bPropL⟩
    let pT : PrC P w K mg base C 1 "table" (spPropT K C) := ⟨qPropT, fPropT, DPropT, QPropT, ok_propT FPropT TK, bPropT⟩
    let pE : PrC P w K mg base C 1 "ends" (spPropE K C) := ⟨qPropE, fPropE, DPropE, QPropE, ok_propE FPropE TK, bPropE⟩
    let pY : PrC P w K mg base C 3 "is_empty" _ := ⟨qIsEmpty, fIsEmpty, DIsEmpty, QIsEmpty, ok_isempty FIsEmpty GE FEndMarks.kp bEndMarks mEndMarks_ TK (PySem.W.mg_none_of X G z_any), bIsEmpty⟩
    let pF : PrC P w K mg base C 3 "is_full" _ := ⟨qIsFull, fIsFull, DIsFull, QIsFull, ok_isfull FIsFull GE FEndMarks.kp bEndMarks mEndMarks_ TK TW, bIsFull⟩
    let oI : OpC P w K mg base C 3 "__contains__" ["self", "x"] (spContains K C) := ⟨fContains, DContains, GCo, bContains, MContains⟩
    let oL : OpC P w K mg base C 1 "__len__" ["self"] (spLen K C) := ⟨fLen, DLen, ok_len FLen TZ TK, bLen, MLen⟩
    let oE : OpC P w K mg base C 1 "__eq__" ["self", "other"] (spEq K C) := ⟨fEq, DEq, ok_eq FEq TW TK mC, bEq, MEq⟩
    let oS : OpC P w K mg base C 1 "__str__" ["self"] (spStr K C) := ⟨fStr, DStr, ok_str FStr TZ TK, bStr, MStr⟩
    let cRight : FnC P w K mg base 7 "_law_right" ["dice"] spRight := ⟨fRight, DRight, ok_right FRight cRoll cLetters cMachine cNear cMade cWR pL pT pE oL oS oE TK TO TM TW, bRight, mRight_, FRight.kp⟩
    exact ok_law FLaw cDice cRight MKI GI bI bI1 hb0 mC pE pY pF oI oS mAfter kA TK TO TM TW TL
  · obtain ⟨oc, od, kV, doc, pm, an, cdv, ct, osl, el, lk, hcd⟩ := FLaw.ex
    subst el
    exact fun s v => .of_eq rfl
end M3

set_option Elab.async false
set_option linter.all false
set_option maxRecDepth 100000
set_option maxHeartbeats 8000000
/-! # An own error with an __init__ of its own: from what stands in K (no law's own; of K0g) -/
namespace NvI
open PySem L2
theorem init_mk {prog : Program} {K : PySem.W.Frag} {C fI : Addr} {B i B0 newId : String} {f : String} {qual : Str}
    {oc : Value} {od : Option Addr} {doc pm : Value} {an : Option Addr} {cda : Addr} {ct : Value} {cc : Addr} {osl : Array (Option Value)} {msg : Str} {j : Nat} {p1 p2 a0 a1 a2 a3 a4 a5 q1 q2 q3 q4 : Pos}
    {ccl : Value} {cdd : Option Addr} {vs : Array Value} {ccs : Array (Option Value)} {file : Str} {tf : Tok} {cl : Value} {cld : Option Addr} {csl : Array (Option Value)}
    {nm q : Str} {N : Addr} {bs bm : List Value} {sn : List Str} {sub : List Value} {ab : Bool} {col : Option Bool} {dd : Option Addr} {k0 k1 k2 k3 k5 : Option Value} {i0 : String} {bmB : List Value}
    (iC : PySem.W.findIn K (.ref C) "__init__" = some (some (.ref fI)))
    (l1 : K.lookup fI = some ⟨oc, od, .func (PySem.W.ksFn "__init__" qual (PySem.NvE.iArgs f p1 p2) (PySem.NvE.iBody f msg j a0 a1 a2 a3 a4 a5 q1 q2 q3 q4) (PySem.NvE.iScope f) .none .none doc pm an (.ref cda) ct cc), osl⟩) (c1 : PySem.W.codeIn K (.ref cda) qual = true)
    (l2 : K.lookup cda = some ⟨ccl, cdd, .fields vs, ccs⟩) (v2 : vs[2]? = some (.str file tf)) (fl : ((prog.main.file : Str) == file) = true) (l3 : K.lookup cc = some ⟨cl, cld, .cell (some (.ref C)), csl⟩)
    (ev : ∀ L a cd c2, PySem.NvE.EvOk (PySem.W.ksEnv qual (PySem.NvE.iScope f) L a cd c2) msg j a0 a1 a2 a3 a4)
    (l4 : K.lookup C = some (excClassObj nm q C N bs bm true sn sub ab col dd k0 k1 k2 k3 k5 newId)) (rl : ∀ self, refuseLoop self "__setattr__" (.ref C :: bm) = pure ()) (ob : bm.contains (.type "object") = true) (nb : PySem.NvE.NewOk bm B0)
    (nf : ExcBaseFacts B0 newId i0 bmB) (tI : PySem.W.typeIn K (.ref fI) = some (.type "function")) (self : PySem.W.mroIn K C (.ref C) = some true) (up : PySem.W.ks_superIn K C C "__init__" = some (some (.builtin i)))
    (isB : PySem.W.subIn K (.ref C) (.type B) = some true) (stat : PySem.W.nsIn K PySem.cStatics "thirdparty.any" = some none) (sa : PySem.W.findIn K (.ref C) "__setattr__" = some (some (.builtin "object.__setattr__"))) (noF : PySem.W.findIn K (.ref C) (Str.ofString f) = some none)
    (inF : PySem.NvE.InF B i) (sup : PySem.W.nsIn K mainGlobals "super" = some none) (top : (prog.main.scope.names.lookup ("super" : Str)).isSome = false)
    (fs : (Str.ofString f == ("self" : Str)) = false) (fsup : (PySem.NvE.iScope f).names.lookup ("super" : Str) = some .globalImplicit) (fcl : (PySem.NvE.iScope f).names.lookup ("__class__" : Str) = some .free) (ff : (PySem.NvE.iScope f).names.lookup (Str.ofString f) = some .local)
    (fdb : (Str.ofString f == ("__debug__" : Str)) = false) (ncell : ∀ x ∈ (PySem.NvE.iScope f).names, x.2 ≠ .cell)
    (bd : ∀ (b : List Stmt) (doc pm ct cv : Value) (an : Option Addr) (cc : Addr) (p1 p2 : Pos) (x v : Value), bindArgs (PySem.W.ksFn "__init__" qual (PySem.NvE.iArgs f p1 p2) b (PySem.NvE.iScope f) .none .none doc pm an cv ct cc) ⟨[x, v], []⟩ = pure [(("self" : Str), x), (Str.ofString f, v)]) :
    PySem.NvE.InitTxt prog K C fI B i B0 newId f qual :=
  ⟨⟨_, _, _, _, _, _, _, _, _, _, _, _, _, _, _, _, _, _, _, _, _, _, _, l1, c1, ⟨_, _, _, _, _, _, l2, v2, fl⟩, ⟨_, _, _, l3⟩, ev⟩, ⟨_, _, _, _, _, _, _, _, _, _, _, _, _, _, _, l4, rl, ob, nb⟩, ⟨_, _, nf⟩, iC, tI, self, up, isB, stat, sa, noF, inF, sup, top, fs, fsup, fcl, ff, fdb, ncell, bd⟩
end NvI

set_option Elab.async false
set_option linter.all false
set_option maxRecDepth 100000
open PySem PySem.W PyProof.Rows
set_option maxHeartbeats 0 in
theorem PySem.Challenge.cw_neverturns_k03_machines_as_values_holds : PySem.Challenge.rw_neverturns_k03_machines_as_values.Holds := by
  w_on; o_law; k_head; (case hw => w_witness2)
  k_fill
  refine M3.walk_ofK (l := PySem.Challenge.rw_neverturns_k03_machines_as_values) (n := 63) (k := 8) (x := "script") (sp := M3.spLaw) rfl (by decide) rfl ⟨rfl, by decide, by decide⟩ (fun w h Y => PySem.W.kIn_of Y) ?F ?S
  case S =>
    intro K H a ns hl hO hS
    exact ⟨a, ns, rfl, hS, hl, fun _ => rfl⟩
  case F =>
    intro w mg fa h KX G hmg
    refine' M3.all_mk KX G hmg ?nvdDice ?nvdRoll ?nvdOneOf ?nvdMixed ?nvdLetters ?nvdWord ?nvdAction ?nvdTable ?nvdMachine ?nvdMade ?nvdLawLed ?nvdHas ?nvdNear ?nvdRep ?nvdWordsRight ?nvdRight ?nvdLaw ?nvdBetween ?nvdIsWord ?nvdHasOnly ?nvdIsLetters ?nvdCheck ?nvdOnlyC ?nvdIsTable ?nvdIsLine ?nvdIsChoice ?nvdMarked ?nvdLed ?nvdOften ?nvdReached ?nvdEndMarks ?nvgC ?nvgM ?nvgW ?nvgO ?nvgN ?nveM ?nveW ?nveO ?nveN ?nvtN ?nvhC ?nvmI ?nvmAf ?nvmContains ?nvmLen ?nvmEq ?nvmStr ?nvpPropL ?nvpPropT ?nvpPropE ?nvpIsEmpty ?nvpIsFull ?nvvA ?nvvL ?nvvS ?nvvT ?nvz_isinstance ?nvz_bool ?nvz_int ?nvz_str ?nvz_tuple ?nvz_all ?nvz_abs ?nvz_len ?nvz_list ?nvz_sorted ?nvz_range ?nvz_zip ?nvz_max ?nvz_min ?nvz_any
    case nvdDice => (refine' M3.def_mk ?a ?l ?c ?k; (case a => k_is); (case l => k_is); (case c => k_is); (case k => k_is))
    case nvdRoll => (refine' M3.def_mk ?a ?l ?c ?k; (case a => k_is); (case l => k_is); (case c => k_is); (case k => k_is))
    case nvdOneOf => (refine' M3.def_mk ?a ?l ?c ?k; (case a => k_is); (case l => k_is); (case c => k_is); (case k => k_is))
    case nvdMixed => (refine' M3.def_mk ?a ?l ?c ?k; (case a => k_is); (case l => k_is); (case c => k_is); (case k => k_is))
    case nvdLetters => (refine' M3.def_mk ?a ?l ?c ?k; (case a => k_is); (case l => k_is); (case c => k_is); (case k => k_is))
    case nvdWord => (refine' M3.def_mk ?a ?l ?c ?k; (case a => k_is); (case l => k_is); (case c => k_is); (case k => k_is))
    case nvdAction => (refine' M3.def_mk ?a ?l ?c ?k; (case a => k_is); (case l => k_is); (case c => k_is); (case k => k_is))
    case nvdTable => (refine' M3.def_mk ?a ?l ?c ?k; (case a => k_is); (case l => k_is); (case c => k_is); (case k => k_is))
    case nvdMachine => (refine' M3.def_mk ?a ?l ?c ?k; (case a => k_is); (case l => k_is); (case c => k_is); (case k => k_is))
    case nvdMade => (refine' M3.def_mk ?a ?l ?c ?k; (case a => k_is); (case l => k_is); (case c => k_is); (case k => k_is))
    case nvdLawLed => (refine' M3.def_mk ?a ?l ?c ?k; (case a => k_is); (case l => k_is); (case c => k_is); (case k => k_is))
    case nvdHas => (refine' M3.def_mk ?a ?l ?c ?k; (case a => k_is); (case l => k_is); (case c => k_is); (case k => k_is))
    case nvdNear => (refine' M3.def_mk ?a ?l ?c ?k; (case a => k_is); (case l => k_is); (case c => k_is); (case k => k_is))
    case nvdRep => (refine' M3.def_mk ?a ?l ?c ?k; (case a => k_is); (case l => k_is); (case c => k_is); (case k => k_is))
    case nvdWordsRight => (refine' M3.def_mk ?a ?l ?c ?k; (case a => k_is); (case l => k_is); (case c => k_is); (case k => k_is))
    case nvdRight => (refine' M3.def_mk ?a ?l ?c ?k; (case a => k_is); (case l => k_is); (case c => k_is); (case k => k_is))
    case nvdLaw => (refine' M3.def_mk ?a ?l ?c ?k; (case a => k_is); (case l => k_is); (case c => k_is); (case k => k_is))
    case nvdBetween => (refine' M3.def_mk ?a ?l ?c ?k; (case a => k_is); (case l => k_is); (case c => k_is); (case k => k_is))
    case nvdIsWord => (refine' M3.def_mk ?a ?l ?c ?k; (case a => k_is); (case l => k_is); (case c => k_is); (case k => k_is))
    case nvdHasOnly => (refine' M3.def_mk ?a ?l ?c ?k; (case a => k_is); (case l => k_is); (case c => k_is); (case k => k_is))
    case nvdIsLetters => (refine' M3.def_mk ?a ?l ?c ?k; (case a => k_is); (case l => k_is); (case c => k_is); (case k => k_is))
    case nvdCheck => (refine' M3.def_mk ?a ?l ?c ?k; (case a => k_is); (case l => k_is); (case c => k_is); (case k => k_is))
    case nvdOnlyC => (refine' M3.def_mk ?a ?l ?c ?k; (case a => k_is); (case l => k_is); (case c => k_is); (case k => k_is))
    case nvdIsTable => (refine' M3.def_mk ?a ?l ?c ?k; (case a => k_is); (case l => k_is); (case c => k_is); (case k => k_is))
    case nvdIsLine => (refine' M3.def_mk ?a ?l ?c ?k; (case a => k_is); (case l => k_is); (case c => k_is); (case k => k_is))
    case nvdIsChoice => (refine' M3.def_mk ?a ?l ?c ?k; (case a => k_is); (case l => k_is); (case c => k_is); (case k => k_is))
    case nvdMarked => (refine' M3.def_mk ?a ?l ?c ?k; (case a => k_is); (case l => k_is); (case c => k_is); (case k => k_is))
    case nvdLed => (refine' M3.def_mk ?a ?l ?c ?k; (case a => k_is); (case l => k_is); (case c => k_is); (case k => k_is))
    case nvdOften => (refine' M3.def_mk ?a ?l ?c ?k; (case a => k_is); (case l => k_is); (case c => k_is); (case k => k_is))
    case nvdReached => (refine' M3.def_mk ?a ?l ?c ?k; (case a => k_is); (case l => k_is); (case c => k_is); (case k => k_is))
    case nvdEndMarks => (refine' M3.def_mk ?a ?l ?c ?k; (case a => k_is); (case l => k_is); (case c => k_is); (case k => k_is))
    case nvgC => k_is
    case nvgM => k_is
    case nvgW => k_is
    case nvgO => k_is
    case nvgN => k_is
    case nvvA => k_is
    case nvvL => k_is
    case nvvS => k_is
    case nvvT => k_is
    case nvz_isinstance => k_is
    case nvz_bool => k_is
    case nvz_int => k_is
    case nvz_str => k_is
    case nvz_tuple => k_is
    case nvz_all => k_is
    case nvz_abs => k_is
    case nvz_len => k_is
    case nvz_list => k_is
    case nvz_sorted => k_is
    case nvz_range => k_is
    case nvz_zip => k_is
    case nvz_max => k_is
    case nvz_min => k_is
    case nvz_any => k_is
    case nveM => kernel_rfl
    case nveW => kernel_rfl
    case nveO => kernel_rfl
    case nveN => kernel_rfl
    case nvhC => kernel_rfl
    case nvmContains => (refine' M3.met_mk ?a ?f ?l ?c ?k; (case a => k_is); (case f => k_is); (case l => k_is); (case c => k_is); (case k => k_is))
    case nvmLen => (refine' M3.met_mk ?a ?f ?l ?c ?k; (case a => k_is); (case f => k_is); (case l => k_is); (case c => k_is); (case k => k_is))
    case nvmEq => (refine' M3.met_mk ?a ?f ?l ?c ?k; (case a => k_is); (case f => k_is); (case l => k_is); (case c => k_is); (case k => k_is))
    case nvmStr => (refine' M3.met_mk ?a ?f ?l ?c ?k; (case a => k_is); (case f => k_is); (case l => k_is); (case c => k_is); (case k => k_is))
    case nvpPropL => (refine' M3.prop_mk ?a ?g ?t ?r ?l ?c ?k; (case a => k_is); (case g => k_is); (case t => k_is); (case r => k_is); (case l => k_is); (case c => k_is); (case k => k_is))
    case nvpPropT => (refine' M3.prop_mk ?a ?g ?t ?r ?l ?c ?k; (case a => k_is); (case g => k_is); (case t => k_is); (case r => k_is); (case l => k_is); (case c => k_is); (case k => k_is))
    case nvpPropE => (refine' M3.prop_mk ?a ?g ?t ?r ?l ?c ?k; (case a => k_is); (case g => k_is); (case t => k_is); (case r => k_is); (case l => k_is); (case c => k_is); (case k => k_is))
    case nvpIsEmpty => (refine' M3.prop_mk ?a ?g ?t ?r ?l ?c ?k; (case a => k_is); (case g => k_is); (case t => k_is); (case r => k_is); (case l => k_is); (case c => k_is); (case k => k_is))
    case nvpIsFull => (refine' M3.prop_mk ?a ?g ?t ?r ?l ?c ?k; (case a => k_is); (case g => k_is); (case t => k_is); (case r => k_is); (case l => k_is); (case c => k_is); (case k => k_is))
    case nvmI => (refine' M3.init_at ?i ?mk ?fn ?kp ?l ?c ?lT ?lB; (case i => k_is); (case mk => k_is); (case fn => k_is); (case kp => k_is); (case l => k_is); (case c => k_is); (case lT => k_is); (case lB => k_is))
    case nvmAf => (refine' M3.after_at ?i ?fn ?kp ?l ?c ?lD; (case i => k_is); (case fn => k_is); (case kp => k_is); (case l => k_is); (case c => k_is); (case lD => k_is))
    case nvtN =>
      refine' NvI.init_mk ?nvic ?nvl1 ?nvc1 ?nvl2 ?nvv2 ?nvfl ?nvl3 ?nvev ?nvl4 ?nvrl ?nvob ?nvnb PySem.F.excBase_RuntimeError ?nvti ?nvself ?nvup ?nvisb ?nvstat ?nvsa ?nvnof (PySem.NvE.inF_of PySem.F.excBase_RuntimeError PySem.W.kxs_RuntimeError) ?nvsup (by decide +kernel) (by decide +kernel) (by decide +kernel) (by decide +kernel) (by decide +kernel) (by decide +kernel) (by decide +kernel) (fun _ _ _ _ _ _ _ _ _ _ _ => rfl)
      case nvic => k_is
      case nvl1 => k_is
      case nvc1 => k_is
      case nvl2 => k_is
      case nvv2 => rfl
      case nvfl => decide +kernel
      case nvl3 => k_is
      case nvev => exact fun _ _ _ _ => ⟨_, rfl⟩
      case nvl4 => k_is
      case nvrl => exact fun _ => rfl
      case nvob => decide +kernel
      case nvnb => exact ⟨by decide +kernel, by decide +kernel, by decide +kernel⟩
      case nvti => k_is
      case nvself => k_is
      case nvup => kernel_rfl
      case nvisb => k_is
      case nvstat => k_is
      case nvsa => k_is
      case nvnof => k_is
      case nvsup => k_is
