import PyProof.Rows.All
import Wide.All
import OpenK.AllK
import Wide.FinOn
import HandS.ForMost
import HandS.Exc
import HandS.Wide
import KE.KExcSuper
import HandS.ExcOwn
import HandS.ExcInit
import HandS.ExcValue
import HandS.ExcIs
import HandS.ExcField
import HandS.IsInst
import HandS.Dict
import HandS.Ends
import PyProof.StrLawsRepr
import HandS.ExcBuiltin
import HandS.ForExc
import HandS.RaiseMore
import HandS.Walk
import PyProof.ReprLen
import PySem.Challenge.RW_neverturns_k00_errors_and_what_they_keep
set_option Elab.async false
set_option maxRecDepth 100000
set_option maxHeartbeats 4000000
/-! # The dice of the law -/
namespace NV
open PySem L2
def top (i : Nat) : Stmt := PySem.Challenge.pw_neverturns_k00_errors_and_what_they_keep.main.body.getD i (.Pass ⟨0, 0, 0, 0⟩)
abbrev sDice : Stmt := top 14
abbrev sRoll : Stmt := top 15
abbrev sOneOf : Stmt := top 16
/-- dice that stand at d: what is left of a great cell, the mixed number, how many were drawn -/
def DiceAt (H : Hp) (d : Addr) (l m c : Int) : Prop := H d = some (.lst [.int l, .int m, .int c]) ∧ 0 ≤ l ∧ 0 ≤ m ∧ 0 ≤ c
/-- what a def leaves: the dice turned, all else as it was -/
def But (H H' : Hp) (d : Addr) : Prop := ∀ b o, b ≠ d → H b = some o → H' b = some o
def spRoll : Sp := fun vs H Q _ => ∃ (d : Addr) (l m c n : Int), vs = [.ref d, .int n] ∧ DiceAt H d l m c ∧ 0 < n ∧ n < 1000000000 ∧
  ∀ (r l' c' : Int), 0 ≤ r → r < n → 0 ≤ l' → 0 ≤ c' → Q (.int r) (upd H d (.lst [.int l', .int m, .int c']))
/-- the dice at d are turned, nothing else -/
def Turned (H H' : Hp) (d : Addr) : Prop := ∃ l m c : Int, 0 ≤ l ∧ 0 ≤ m ∧ 0 ≤ c ∧ H' = upd H d (.lst [.int l, .int m, .int c])
def Dz (H : Hp) (d : Addr) : Prop := ∃ l m c : Int, DiceAt H d l m c
theorem Turned.dz {H H' : Hp} {d : Addr} (t : Turned H H' d) : Dz H' d := by
  obtain ⟨l, m, c, h1, h2, h3, rfl⟩ := t
  exact ⟨l, m, c, upd_same, h1, h2, h3⟩
theorem Turned.ne {H H' : Hp} {d b : Addr} (t : Turned H H' d) (h : b ≠ d) : H' b = H b := by
  obtain ⟨l, m, c, h1, h2, h3, rfl⟩ := t
  exact upd_ne h
theorem Turned.trans {H H1 H2 : Hp} {d : Addr} (t : Turned H H1 d) (u : Turned H1 H2 d) : Turned H H2 d := by
  obtain ⟨l, m, c, h1, h2, h3, rfl⟩ := t
  obtain ⟨l', m', c', g1, g2, g3, rfl⟩ := u
  exact ⟨l', m', c', g1, g2, g3, upd_upd⟩
theorem SqL.turned {K : PySem.W.Frag} {H : Hp} {d a : Addr} {o : HO} {xs : List V} (hn : a ≠ d) (h : SqL K H a xs) : SqL K (upd H d o) a xs := by
  rcases h with (h | ⟨u, h⟩) | h
  · exact .inl (.inl (by rw [upd_ne hn]; exact h))
  · exact .inl (.inr ⟨u, by rw [upd_ne hn]; exact h⟩)
  · exact .inr h
def spOneOf (K : PySem.W.Frag) : Sp := fun vs H Q _ => ∃ (d a : Addr) (xs : List V), vs = [.ref d, .ref a] ∧ Dz H d ∧ SqL K H a xs ∧ a ≠ d ∧ 0 < xs.length ∧ xs.length < 1000000 ∧
  ∀ (v : V) (H' : Hp), v ∈ xs → Turned H H' d → Q v H'
def spDice (K : PySem.W.Frag) : Sp := fun vs H Q _ => ∃ (a : Addr) (ns : List Int) (i : Int), vs = [.ref a, .int i] ∧ SqL K H a (ns.map V.int) ∧ 0 ≤ i ∧ ns.length ≤ 63 ∧
  ∀ (p : Addr) (l m : Int), H p = none → 0 ≤ l → 0 ≤ m → Q (.ref p) (upd H p (.lst [.int l, .int m, .int 0]))
theorem op_powX {X : Cx} : OpR X (binaryOp .Pow) (rI (fun i j => 0 ≤ j ∧ (Builtin.Int.intBits i : Int) * j ≤ 2 ^ 27) fun i j => .int (i ^ j.toNat)) := opI fun _ _ _ _ _ _ _ hc q => PyProof.Rows.pow_int hc.1 hc.2 q
structure TxI (mg : Str → Option Value) : Prop where
  int : mg "int" = none
  abs : mg "abs" = none
  len : mg "len" = none
section
variable {P : Program} {w : World} {K : PySem.W.Frag} {mg : Str → Option Value} {base : Heap}
theorem scRoll : FnScope ["dice", "total", "number", "drawn", "one", "two"] ["dice", "total"] (defScope sRoll) := ⟨rfl, rfl, rfl, by decide +kernel, rfl, by decide +kernel, by decide +kernel⟩
theorem ok_roll {f : Addr} {fd : FuncData} (F : Fun K "_law_roll" "_law_roll" sRoll f fd) (T : TxI mg) : FnOk P w K mg base CX0 1 f fd ["dice", "total"] spRoll := by
  refine F.ok scRoll (fun vs H Q E h => ?_) (fun cdv A outer s H vs Q E hr h => ?_)
  · obtain ⟨d, l, m, c, n, rfl, _⟩ := h
    rfl
  · obtain ⟨d, l, m, c, n, rfl, ⟨hd, hl, hm, hc⟩, hn, hn2, k⟩ := h
    refine ⟨_, pss_cons (ps_set (i := 2) scRoll.nd rfl (Or.inl rfl) (pe_callTy call_int1 (by rfl) T.int (by decide +kernel) (pa_cons (pv 1) pa_nil)))
      (pss_cons (ps_if (pt_cmpR op_gt (pe_ix ix_list (pv 0) pe_int (fun _ _ => rfl)) pe_int (nomark _))
        (pss_cons (ps_set (i := 3) scRoll.nd rfl (Or.inl rfl) (pe_op op_modN (pe_ix ix_list (pv 0) pe_int (fun _ _ => rfl)) (pv 2)))
        (pss_cons (ps_asg (pe_op op_fdivN (pe_ix ix_list (pv 0) pe_int (fun _ _ => rfl)) (pv 2)) (pg_sub (pv 0) pe_int set_list))
        (pss_one (ps_ret (pe_callTy call_int1 (by rfl) T.int (by decide +kernel) (pa_cons (pv 3) pa_nil)))))) pss_nil)
      (pss_cons (ps_asg (pe_op op_add (pe_ix ix_list (pv 0) pe_int (fun _ _ => rfl)) pe_int) (pg_sub (pv 0) pe_int set_list))
      (pss_cons (ps_set (i := 4) scRoll.nd rfl (Or.inl rfl) (pe_op op_mod (pe_op op_add (pe_ix ix_list (pv 0) pe_int (fun _ _ => rfl)) (pe_op op_mul pe_int (pe_ix ix_list (pv 0) pe_int (fun _ _ => rfl)))) pe_int))
      (pss_cons (ps_set (i := 5) scRoll.nd rfl (Or.inl rfl) (pe_op op_add (pe_op op_mul (pe_op op_mod (pe_op op_mul (pv 4) (pv 4)) pe_int) (pv 4)) (pe_op op_mul pe_int (pe_ix ix_list (pv 0) pe_int (fun _ _ => rfl)))))
      (pss_cons (ps_set (i := 5) scRoll.nd rfl (Or.inl rfl) (pe_op op_mod (pv 5) pe_int))
      (pss_one (ps_ret (pe_callTy call_int1 (by rfl) T.int (by decide +kernel) (pa_cons (pe_op op_modN (pe_op op_fdiv (pv 5) pe_int) (pv 2)) pa_nil))))))))), ?_⟩
    have h1 : atI [V.int l, V.int m, V.int c] 1 = some (.int m) := rfl
    have h2 : ∀ z : Int, atI [V.int l, V.int m, V.int z] 2 = some (.int z) := fun _ => rfl
    have h1' : ∀ z : Int, atI [V.int l, V.int m, V.int z] 1 = some (.int m) := fun _ => rfl
    refine ⟨_, rfl, .inl ⟨_, rfl, ?_⟩⟩
    refine ⟨_, rfl, d, _, 0, _, rfl, rfl, SqL.of hd, rfl, _, _, rfl, rfl, _, rfl, ?_⟩
    refine ite2 (fun hpos => ?_) (fun hpos => ?_)
    · have hpos : 0 < l := of_decide_eq_true hpos
      refine ⟨_, rfl, d, _, 0, _, rfl, rfl, SqL.of hd, rfl, _, rfl, _, _, rfl, rfl, (by omega), ?_⟩
      refine ⟨_, rfl, d, _, 0, _, rfl, rfl, SqL.of hd, rfl, _, rfl, _, _, rfl, rfl, ⟨by omega, by omega⟩, ?_⟩
      refine ⟨_, rfl, d, _, 0, 0, rfl, rfl, hd, rfl, ?_⟩
      refine ⟨_, rfl, .inl ⟨_, rfl, ?_⟩⟩
      refine k _ _ _ ?_ ?_ ?_ hc
      · exact Int.fmod_nonneg (by omega) (by omega)
      · exact Int.fmod_lt_of_pos _ hn
      · exact Int.fdiv_nonneg hl (by omega)
    · refine ⟨_, rfl, d, _, 2, _, rfl, rfl, SqL.of hd, rfl, _, _, rfl, rfl, ?_⟩
      refine ⟨_, rfl, d, _, 2, 2, rfl, rfl, hd, rfl, ?_⟩
      have hd2 : (upd H d (.lst [.int l, .int m, .int (c + 1)])) d = some (.lst [.int l, .int m, .int (c + 1)]) := upd_same
      -- one
      refine ⟨_, rfl, d, _, 1, _, rfl, rfl, SqL.of hd2, rfl, ?_⟩
      refine ⟨_, rfl, d, _, 2, _, rfl, rfl, SqL.of hd2, rfl, _, _, rfl, rfl, .inl ⟨by decide, by decide⟩, _, _, rfl, rfl, _, _, rfl, rfl, (by show (0 : Int) < 2305843009213693951; decide), ?_⟩
      have b1 : ∀ x : Int, 0 ≤ x % 2305843009213693951 ∧ x % 2305843009213693951 < 2305843009213693951 := fun x => by omega
      generalize hx : (m + 1000151 * (c + 1)) % 2305843009213693951 = x1
      have bx := b1 (m + 1000151 * (c + 1))
      rw [hx] at bx
      -- two
      refine ⟨_, rfl, _, rfl, _, _, rfl, rfl, .inl ⟨by omega, by omega⟩, _, _, rfl, rfl, (by show (0 : Int) < 2305843009213693921; decide), ?_⟩
      have b2 : ∀ x : Int, 0 ≤ x % 2305843009213693921 ∧ x % 2305843009213693921 < 2305843009213693921 := fun x => by omega
      have by1 := b2 (x1 * x1)
      generalize hy : (x1 * x1) % 2305843009213693921 = y1 at by1 ⊢
      refine ⟨_, rfl, _, _, rfl, rfl, .inl ⟨by omega, by omega⟩, _, rfl, d, _, 2, _, rfl, rfl, SqL.of hd2, rfl, _, _, rfl, rfl, .inl ⟨by decide, by decide⟩, _, _, rfl, rfl, ?_⟩
      refine ⟨_, rfl, _, _, rfl, rfl, (by show (0 : Int) < 2305843009213693907; decide), ?_⟩
      have b3 : ∀ x : Int, 0 ≤ x % 2305843009213693907 := fun x => by omega
      have bz := b3 (y1 * x1 + 9403 * (c + 1))
      generalize (y1 * x1 + 9403 * (c + 1)) % 2305843009213693907 = z1 at bz ⊢
      refine ⟨_, rfl, _, _, rfl, rfl, ⟨by decide, by decide⟩, _, rfl, _, _, rfl, rfl, (by omega), .inl ⟨_, rfl, ?_⟩⟩
      refine k _ _ _ ?_ ?_ hl (by omega)
      · exact Int.fmod_nonneg (by omega) (by omega)
      · exact Int.fmod_lt_of_pos _ hn
theorem scOneOf : FnScope ["dice", "items"] ["dice", "items"] (defScope sOneOf) := ⟨rfl, rfl, rfl, by decide +kernel, rfl, by decide +kernel, by decide +kernel⟩
theorem ok_oneof {f g : Addr} {fd gd : FuncData} (F : Fun K "_law_one_of" "_law_one_of" sOneOf f fd) (G : Fun K "_law_roll" "_law_roll" sRoll g gd) (bG : Binds K gd ["dice", "total"] []) (gG : mg "_law_roll" = some (.ref g)) (T : TxI mg) :
    FnOk P w K mg base CX0 2 f fd ["dice", "items"] (spOneOf K) := by
  have GR : FnOk P w K mg base CX0 1 g gd ["dice", "total"] spRoll := ok_roll G T
  refine F.ok scOneOf (fun vs H Q E h => ?_) (fun cdv A outer s H vs Q E hr h => ?_)
  · obtain ⟨d, a, xs, rfl, _⟩ := h
    rfl
  · obtain ⟨d, a, xs, rfl, ⟨l, m, c, D⟩, ha, hn, h0, hz, k⟩ := h
    refine ⟨_, pss_one (ps_ret (pe_ix ix_list (pv 1) (pe_call GR hr rfl gG G.kp bG .nil pass0 (pa_cons (pv 0) (pa_cons (pe_callB call_len_seq (by rfl) T.len PySem.boot_len (pa_cons (pv 1) pa_nil)) pa_nil))) (fun _ _ => rfl))), ?_⟩
    refine ⟨_, rfl, _, rfl, _, rfl, a, xs, rfl, .inl ha, d, l, m, c, xs.length, rfl, D, by omega, by omega, fun r l' c' h1 h2 h3 h4 => ?_⟩
    have hlt : r.toNat < xs.length := by omega
    have er : r = (r.toNat : Int) := by omega
    refine ⟨a, xs, r, xs[r.toNat], rfl, rfl, (SqL.turned hn ha), ?_, ?_⟩
    · have q := atI_nat (List.getElem?_eq_getElem hlt)
      rw [← er] at q
      exact q
    · exact k _ _ (List.getElem_mem hlt) ⟨l', m, c', h3, D.2.2.1, h4, rfl⟩
theorem scDice : FnScope ["script", "at", "cell", "great", "left", "mixed"] ["script", "at"] (defScope sDice) := ⟨rfl, rfl, rfl, by decide +kernel, rfl, by decide +kernel, by decide +kernel⟩
theorem ok_dice {f : Addr} {fd : FuncData} (F : Fun K "_law_dice" "_law_dice" sDice f fd) (T : TxI mg) : FnOk P w K mg base CX0 1 f fd ["script", "at"] (spDice K) := by
  refine F.ok scDice (fun vs H Q E h => ?_) (fun cdv A outer s H vs Q E hr h => ?_)
  · obtain ⟨a, ns, i, rfl, _⟩ := h
    rfl
  · obtain ⟨a, ns, i, rfl, ha, hi, hl, k⟩ := h
    refine ⟨_, pss_cons (ps_set (i := 2) scDice.nd rfl (Or.inl rfl) (pe_op op_add (pe_op op_mul pe_int (pv 1)) pe_int))
      (pss_cons (ps_if (pt_cmpR op_lt (pv 1) (pe_callB call_len_seq (by rfl) T.len PySem.boot_len (pa_cons (pv 0) pa_nil)) (nomark _)) (pss_one (ps_set (i := 2) scDice.nd rfl (Or.inl rfl) (pe_ix ix_list (pv 0) (pv 1) (fun _ _ => rfl)))) pss_nil)
      (pss_cons (ps_set (i := 3) scDice.nd rfl (Or.inl rfl) (pe_op op_mod (pe_callTy call_int1 (by rfl) T.int (by decide +kernel) (pa_cons (pe_callB call_abs (by rfl) T.abs (by decide +kernel) (pa_cons (pv 2) pa_nil)) pa_nil)) (pe_op op_powX (pe_op op_pow pe_int pe_int) pe_int)))
      (pss_cons (ps_set (i := 4) scDice.nd rfl (Or.inl rfl) (pe_op op_fdivW (pv 3) (pe_op op_pow pe_int pe_int)))
      (pss_cons (ps_set (i := 5) scDice.nd rfl (Or.inl rfl) (pe_op op_add (pe_op op_add (pe_op op_add (pe_op op_mul (pe_op op_mod (pv 3) pe_int) pe_int) (pe_op op_mul pe_int (pv 1)))
        (pe_op op_mul pe_int (pe_callTy call_int1 (by rfl) T.int (by decide +kernel) (pa_cons (pe_cmpR op_lt (pv 2) pe_int (nomark _)) pa_nil)))) pe_int))
      (pss_one (ps_ret (pe_lst (pa_cons (pv 4) (pa_cons (pe_op op_mod (pv 5) pe_int) (pa_cons pe_int pa_nil)))))))))), ?_⟩
    refine ⟨_, rfl, _, _, rfl, rfl, .inl ⟨by decide, by decide⟩, _, _, rfl, rfl, ?_⟩
    refine ⟨_, rfl, _, rfl, a, _, rfl, .inl ha, _, _, rfl, rfl, _, rfl, ?_⟩
    have pw0 : (0 : Int) < (10 ^ (60 : Int).toNat) ^ (10 : Int).toNat := Int.pow_pos (Int.pow_pos (by decide))
    have pb : (0 ≤ (10 : Int) ∧ (Builtin.Int.intBits (10 ^ (60 : Int).toNat) : Int) * 10 ≤ 2 ^ 27) := ⟨by decide, by decide +kernel⟩
    have p18 : (0 : Int) < 10 ^ (18 : Int).toNat := Int.pow_pos (by decide)
    have p18b : ((10 : Int) ^ (18 : Int).toNat).natAbs.log2 < 9000 := by decide +kernel
    have m1 : ∀ x : Int, -(2 ^ 64) < x % 2147483237 ∧ x % 2147483237 < 2 ^ 64 := fun x => by omega
    refine ite2 (fun hc => ?_) (fun hc => ?_)
    · have hc : i < ((ns.map V.int).length : Int) := of_decide_eq_true hc
      have hlt : i.toNat < ns.length := by rw [List.length_map] at hc; omega
      have er : i = (i.toNat : Int) := by omega
      have q : atI (ns.map V.int) (i.toNat : Int) = some (.int ns[i.toNat]) := atI_nat (by rw [List.getElem?_map, List.getElem?_eq_getElem hlt]; rfl)
      rw [← er] at q
      refine ⟨_, rfl, _, rfl, a, _, i, _, rfl, rfl, ha, q, ?_⟩
      generalize ns[i.toNat] = cell
      refine ⟨_, rfl, _, rfl, .inl ⟨_, rfl, _, _, rfl, rfl, ⟨by decide, by decide, by decide⟩, _, _, rfl, rfl, pb, _, _, rfl, rfl, pw0, ?_⟩⟩
      refine ⟨_, rfl, _, _, rfl, rfl, ⟨by decide, by decide, by decide⟩, _, _, rfl, rfl, ⟨p18, p18b⟩, ?_⟩
      refine ⟨_, rfl, _, _, rfl, rfl, (by show (0 : Int) < 2147483237; decide), _, _, rfl, rfl, .inl ⟨(m1 _).1, (m1 _).2⟩, _, rfl, _, _, rfl, rfl, .inl ⟨by decide, by decide⟩, _, _, rfl, rfl, ?_⟩
      refine ⟨_, rfl, _, _, rfl, rfl, .inr ⟨_, rfl, _, _, rfl, rfl, .inl ⟨by decide, by decide⟩, _, _, rfl, rfl, _, _, rfl, rfl, ?_⟩⟩
      refine ⟨_, rfl, _, rfl, _, _, rfl, rfl, (by show (0 : Int) < 2147483179; decide), (by show 3 ≤ sizeLine; decide), fun p hp => ?_⟩
      exact k p _ _ hp (Int.ediv_nonneg (Int.emod_nonneg _ (by omega)) (by omega)) (Int.emod_nonneg _ (by decide))
    · refine ⟨_, rfl, _, rfl, .inl ⟨_, rfl, _, _, rfl, rfl, ⟨by decide, by decide, by decide⟩, _, _, rfl, rfl, pb, _, _, rfl, rfl, pw0, ?_⟩⟩
      refine ⟨_, rfl, _, _, rfl, rfl, ⟨by decide, by decide, by decide⟩, _, _, rfl, rfl, ⟨p18, p18b⟩, ?_⟩
      refine ⟨_, rfl, _, _, rfl, rfl, (by show (0 : Int) < 2147483237; decide), _, _, rfl, rfl, .inl ⟨(m1 _).1, (m1 _).2⟩, _, rfl, _, _, rfl, rfl, .inl ⟨by decide, by decide⟩, _, _, rfl, rfl, ?_⟩
      refine ⟨_, rfl, _, _, rfl, rfl, .inr ⟨_, rfl, _, _, rfl, rfl, .inl ⟨by decide, by decide⟩, _, _, rfl, rfl, _, _, rfl, rfl, ?_⟩⟩
      refine ⟨_, rfl, _, rfl, _, _, rfl, rfl, (by show (0 : Int) < 2147483179; decide), (by show 3 ≤ sizeLine; decide), fun p hp => ?_⟩
      exact k p _ _ hp (Int.ediv_nonneg (Int.emod_nonneg _ (by omega)) (by omega)) (Int.emod_nonneg _ (by decide))
end
end NV

set_option Elab.async false
set_option linter.all false
set_option maxRecDepth 100000
set_option maxHeartbeats 4000000
/-! # Own exceptions whose __init__ calls super's, over any built-in base -/
namespace PySem
namespace NvE
open PySem.W PySem.Calls PyProof.Rows
/-- the __init__ of a built-in exception class, as super() finds it -/
structure InF (B i : String) : Prop where
  entry : entryFor table i = some Builtin.«BaseException.__init__»
  kind : builtinKind i = some .slot
  row : Manifest.signature? i = some ⟨.positional, "*", B, .self, [⟨"args", .varPos, false⟩]⟩
  star : (B != "*") = true
  plain : plainId i = true
  kf : KxsFacts B i
theorem inF_of {B n i : String} {bm : List Value} (F : ExcBaseFacts B n i bm) (k : KxsFacts B i) : InF B i := ⟨F.initEntry, F.initKind, F.initRow, F.noStar, F.init.plain, k⟩
theorem kf_KeyError : KxsFacts "KeyError" "KeyError.__init__" :=
  ⟨by show builtinType _ = _; rw [builtinType_eq_fast]; kernel_rfl, by first | kernel_rfl | rfl⟩
theorem inF_KeyError : InF "KeyError" "KeyError.__init__" where
  entry := PyProof.Rows.excClass_KeyError.initEntry
  kind := by decide +kernel
  row := by kernel_rfl
  star := by decide
  plain := by decide +kernel
  kf := kf_KeyError
section
variable {prog : Program} {w : World} {M : Model} {A : Around} {E : Value → Shared → Prop} {h : Heap} {g : Array GenState} {d : Drawn} {t : Nat} {os : OsState}
variable {nm q : Str} {C N : Addr} {bs bm : List Value} {hdct : Bool} {sn : List Str} {sub : List Value} {ab : Bool} {col : Option Bool} {dd : Option Addr} {k0 k1 k2 k3 k5 : Option Value} {B newId i : String}
theorem bound_ok (F : InF B i) {e : Addr} {oe : Obj} {rest : List Value} {Q : Unit → Shared → Prop}
    (hC : h.get? C = some (excClassObj nm q C N bs bm hdct sn sub ab col dd k0 k1 k2 k3 k5 newId)) (he : h.get? e = some oe) (hcls : oe.cls = .ref C)
    (hq : Q () ⟨h, g, d, t, os⟩) : wpAny M A (checkBoundCall i ⟨.ref e :: rest, []⟩) Q E ⟨h, g, d, t, os⟩ := by
  have hs := F.star
  simp only [checkBoundCall, F.kind, F.row]
  repeat (first
    | (with_reducible refine wpAny_loadPart_at he ?_; rw [hcls])
    | with_reducible refine wpAny_loadPart_at hC ?_
    | wp_step)
  refine wpAny_onRaise ?_
  have z : ∀ (a b : String) (n : Nat), Bind.check ⟨.positional, "*", B, .self, [⟨"args", .varPos, false⟩]⟩ a b n (List.map (fun x => x.fst) ({ pos := Value.ref e :: rest } : Args).kw) = pure () :=
    fun a b n => check_star_args _ _ _ _ _ _
  rw [z]
  exact wpAny_pure hq
/-- the bound built-in __init__ is called: the args are laid anew -/
theorem call_mw (F : InF B i) {u e t0 : Addr} {rest : List Value} {Q : Value → Shared → Prop}
    (hC : h.get? C = some (excClassObj nm q C N bs bm hdct sn sub ab col dd k0 k1 k2 k3 k5 newId)) (he : h.get? e = some (HandSPX.excO C t0)) (hu : h.get? u = some (kxs_mw i e)) (hz : rest.length ≤ sizeLine)
    (hq : ∀ h' t1, (∀ b o, b ≠ e → h.get? b = some o → h'.get? b = some o) → h'.get? e = some (HandSPX.excO C t1) → Q .none ⟨h', g, d, t, os⟩) :
    wpAny (model prog w) A (call (.ref u) rest) Q E ⟨h, g, d, t, os⟩ := by
  refine wpAny_call (codeAny_of_tree ?_)
  show wpAny _ A.in1 (callAny (.ref u) ⟨rest, []⟩) _ _ _
  simp only [callAny]
  refine wpAny_bind (wpAny_load hu ?_)
  have yes : (Value.type "method-wrapper" == Value.type "method" || Value.type "method-wrapper" == Value.type "builtin_function_or_method" || Value.type "method-wrapper" == Value.type "method-wrapper") = true := by decide
  simp only [kxs_mw, yes, if_true]
  refine KFB.if_so (by decide) ?_
  refine wpAny_bind (bound_ok F hC he rfl ?_)
  refine wpAny_bind (wpAny_pure (wpAny_pure ?_))
  refine ⟨plainId_quiet F.plain _, codeAny_builtin F.entry ?_⟩
  refine exc_init_tree (cls := .ref C) (t0 := t0) (dv := none) (c2 := .none) (c3 := .none) (b4 := .bool false) he hz fun h' k e' _ => ?_
  exact hq h' _ k e'
end
/-! ### the text of such an __init__ -/
/-- what the chain of bases says, as the making asks it -/
structure NewOk (bm : List Value) (B : String) : Prop where
  hasB : bm.contains (.type B) = true
  noA : bm.contains (.type "AttributeError") = false
  noN : bm.contains (.type "NameError") = false
def iArgs (f : String) (p1 p2 : Pos) : Arguments :=
  { posonlyargs := [], args := [{ arg := "self", annotation := none, pos := p1 }, { arg := Str.ofString f, annotation := none, pos := p2 }], vararg := none, kwonlyargs := [], kw_defaults := [], kwarg := none, defaults := [] }
def iBody (f : String) (msg : Str) (j : Nat) (p0 p1 p2 p3 p4 p5 q1 q2 q3 q4 : Pos) : List Stmt :=
  [.Expr (.Call (.Attribute (.Call (.Name "super" p0) [] [] p1) "__init__" p2) [.Constant (.str msg) j p3] [] p4) p5,
   .Assign [.Attribute (.Name "self" q1) (Str.ofString f) q2] (.Name (Str.ofString f) q3) q4]
def iScope (f : String) : Scope :=
  { kind := .function, names := [("self", .local), (Str.ofString f, .local), ("__class__", .free), ("super", .globalImplicit)], isGenerator := false, isCoroutine := false, more := [] }
/-- how super().__init__(msg) is evaluated: a method's call (it hangs on the places alone) -/
def EvOk (env : Env) (msg : Str) (j : Nat) (a0 a1 a2 a3 a4 : Pos) : Prop := ∃ pl : Sem Bool,
  eval (.Call (.Attribute (.Call (.Name "super" a0) [] [] a1) "__init__" a2) [.Constant (.str msg) j a3] [] a4) env = (do
    let ov ← attributeBase (.Call (.Name "super" a0) [] [] a1) "__init__" env (eval (.Call (.Name "super" a0) [] [] a1) env)
    standAt a2.atName
    let (f, first) ← holding [ov] (getMethod ov "__init__" pl)
    callWith a4 f first (backTo a4 (starEach [.Constant (.str msg) j a3] env)) [])
/-- what the written part says of such a class at C, its __init__ at fI -/
structure InitTxt (prog : Program) (K : Frag) (C fI : Addr) (B i B0 newId : String) (f : String) (qual : Str) : Prop where
  fn : ∃ (oc : Value) (od : Option Addr) (doc pm : Value) (an : Option Addr) (cda : Addr) (ct : Value) (cc : Addr) (osl : Array (Option Value)) (msg : Str) (j : Nat) (p1 p2 a0 a1 a2 a3 a4 a5 q1 q2 q3 q4 : Pos),
    K.lookup fI = some ⟨oc, od, .func (ksFn "__init__" qual (iArgs f p1 p2) (iBody f msg j a0 a1 a2 a3 a4 a5 q1 q2 q3 q4) (iScope f) .none .none doc pm an (.ref cda) ct cc), osl⟩ ∧ codeIn K (.ref cda) qual = true ∧
    (∃ (ccl : Value) (cdd : Option Addr) (vs : Array Value) (ccs : Array (Option Value)) (file : Str) (tf : Tok), K.lookup cda = some ⟨ccl, cdd, .fields vs, ccs⟩ ∧ vs[2]? = some (.str file tf) ∧ ((prog.main.file : Str) == file) = true) ∧
    (∃ (cl : Value) (cld : Option Addr) (csl : Array (Option Value)), K.lookup cc = some ⟨cl, cld, .cell (some (.ref C)), csl⟩) ∧ (∀ L a cd c2, EvOk (ksEnv qual (iScope f) L a cd c2) msg j a0 a1 a2 a3 a4)
  cls : ∃ nm q N bs bm sn sub ab col dd k0 k1 k2 k3 k5, K.lookup C = some (excClassObj nm q C N bs bm true sn sub ab col dd k0 k1 k2 k3 k5 newId) ∧ (∀ self, refuseLoop self "__setattr__" (.ref C :: bm) = pure ()) ∧ bm.contains (.type "object") = true ∧ NewOk bm B0
  newF : ∃ i0 bmB, ExcBaseFacts B0 newId i0 bmB
  iC : findIn K (.ref C) "__init__" = some (some (.ref fI))
  tI : typeIn K (.ref fI) = some (.type "function")
  self : mroIn K C (.ref C) = some true
  up : ks_superIn K C C "__init__" = some (some (.builtin i))
  isB : subIn K (.ref C) (.type B) = some true
  stat : nsIn K cStatics "thirdparty.any" = some none
  sa : findIn K (.ref C) "__setattr__" = some (some (.builtin "object.__setattr__"))
  noF : findIn K (.ref C) (Str.ofString f) = some none
  inF : InF B i
  sup : nsIn K mainGlobals "super" = some none
  top : (prog.main.scope.names.lookup ("super" : Str)).isSome = false
  fs : (Str.ofString f == ("self" : Str)) = false
  fsup : (iScope f).names.lookup ("super" : Str) = some .globalImplicit
  fcl : (iScope f).names.lookup ("__class__" : Str) = some .free
  ff : (iScope f).names.lookup (Str.ofString f) = some .local
  fdb : (Str.ofString f == ("__debug__" : Str)) = false
  ncell : ∀ x ∈ (iScope f).names, x.2 ≠ .cell
  bd : ∀ (b : List Stmt) (doc pm ct cv : Value) (an : Option Addr) (cc : Addr) (p1 p2 : Pos) (x v : Value), bindArgs (ksFn "__init__" qual (iArgs f p1 p2) b (iScope f) .none .none doc pm an cv ct cc) ⟨[x, v], []⟩ = pure [(("self" : Str), x), (Str.ofString f, v)]
section
open Builtin Builtin.ObjectAttr
variable {prog : Program} {w : World} {A : Around} {E : Value → Shared → Prop} {R : Result → Shared → Prop} {hp : Heap} {g : Array GenState} {d : Drawn} {t : Nat} {os : OsState}
/-- self.name = v on an exception that has no dict yet, whatever its bases -/
theorem osa_any {K : Frag} {name : Str} {tk : Tok} {v : Value} {x C : Addr} {fv : Array Value} {cd : ClassData}
    (X : K.In hp) (hx : hp.get? x = some { cls := .ref C, data := .fields fv }) (hcd : clsIn K C = some cd) (hp0 : refuseLoop (.ref x) "__setattr__" cd.mro = pure ()) (hob : cd.mro.contains (.type "object") = true) (hne : cd.mro.isEmpty = false)
    (hh : cd.hasDict = true) (ha : findIn K (.ref C) name = some none)
    (hq : ∀ h' tk' dx, (∀ b o, b ≠ x → hp.get? b = some o → h'.get? b = some o) → hp.objs.size ≤ dx → dx ≠ x → h'.get? x = some { cls := .ref C, dict := some dx, data := .fields fv } →
      h'.Ns1 dx (fun y => if y = name then some v else none) → R (.ok (.ret .none)) ⟨h', g, d, tk', os⟩) :
    codeAny (model prog w) A (.call (.builtin "object.__setattr__") ⟨[.ref x, .str name tk, v], []⟩) R ⟨hp, g, d, t, os⟩ := by
  have I : InstAt hp x { cls := .ref C, data := .fields fv } C none := ⟨hx, rfl, rfl, trivial⟩
  have SF := F.store_object
  have hxs : x ≠ hp.objs.size := Nat.ne_of_lt (Heap.lt_size hx)
  have hm0 : mroIn K C (.type "object") = some true := by
    unfold mroIn
    rw [hcd, Option.bind_some, if_neg (by rw [hne]; decide), hob]
  have sub : Looks (model prog w) hp (isInstance (.ref x) (.type "object")) true := I.type.andThen (looks_mroIn X hm0)
  refine codeAny_call_builtin SF.slot.plain SF.entry (@check_slot (model prog w) _ _ ⟨hp, g, d, t, os⟩ "object.__setattr__" "object" "__setattr__" (.ref x) [.str name tk, v] [] _ SF.kind SF.split sub (SF.args (.ref x) (.str name tk) v) ?_)
  have hmr : Looks (model prog w) hp (mroOf (.ref C)) cd.mro := (looks_clsIn X hcd).andThen .now
  have L3 : Looks (model prog w) hp (storeTaker? none) none := .now
  have hcls : Looks (model prog w) hp (classData C) cd := looks_clsIn X hcd
  rw [osa_eq, refuse_eq]
  refine wpAny_bind (wpAny_bind (I.type.at (wpAny_bind (hmr.at ?_))))
  rw [hp0]
  refine wpAny_pure (wpAny_bind (I.type.at (wpAny_bind ((looks_findIn X ha).at (wpAny_bind (L3.at ?_))))))
  show wpAny _ _ (storeInOwnDict (.ref x) (.ref C) (.str name tk) name v false) _ _ _
  obtain ⟨nm, bs, mro, ns, qn, hd, sn, sb, ab, col, del⟩ := cd
  dsimp only at hh
  subst hh
  unfold storeInOwnDict ownDictForStores
  repeat (first
    | with_reducible refine HandSPX.store_in_new ?_ ?_
    | with_reducible refine wpAny_loadPart_at hx ?_
    | with_reducible refine hcls.at ?_
    | wp_step)
  · exact ⟨_, #[], _, (Heap.get?_update_ne _ _ _ _ hxs.symm).trans (Heap.get?_push_at rfl rfl), rfl, fun e he => absurd he (by simp), fun _ => rfl⟩
  · intro h' tk' hn' hs
    have hx₁ : (hp.push { cls := .type "dict", data := .dict #[] }).get? x = some { cls := .ref C, data := .fields fv } := Heap.get?_push_of_some _ hx
    refine hq h' tk' hp.objs.size (fun b o hb ho => ?_) (Nat.le_refl _) hxs.symm ?_ hn'
    · exact (hs.2 b (Nat.ne_of_lt (Heap.lt_size ho))).trans ((Heap.get?_update_ne _ _ _ _ hb).trans (Heap.get?_push_of_some _ ho))
    · exact (hs.2 x hxs).trans (Heap.get?_update_self _ hx₁ rfl)
end
section
variable {prog : Program} {w : World} {A : Around} {E : Value → Shared → Prop} {R : Result → Shared → Prop} {s : Shared} {K : Frag} {C fI : Addr} {B i B0 newId : String} {f : String} {qual : Str} {mg : Str → Option Value}
theorem init_super (T : InitTxt prog K C fI B i B0 newId f qual) {x t0 : Addr} {v : Value} (X : K.In s.heap) (G : s.heap.Ns mainGlobals mg) (BB : ∃ mb, s.heap.Ns builtinsNs mb ∧ ∀ y : Str, y ≠ "__name__" → mb y = bootBuiltins y) (hlim : s.heap.NoLimit)
    (hx : s.heap.get? x = some (HandSPX.excO C t0)) (hnK : K.lookup x = none) (room : A.depth < recursionLimit)
    (hq : ∀ h' tk dx t1, (∀ b o, b ≠ x → s.heap.get? b = some o → h'.get? b = some o) → s.heap.objs.size ≤ dx → dx ≠ x →
      h'.get? x = some { cls := .ref C, dict := some dx, data := .fields #[.ref t1, .none, .none, .none, .bool false, .none] } → h'.Ns1 dx (fun y => if y = Str.ofString f then some v else none) → R (.ok (.ret .none)) { s with heap := h', toks := tk }) :
    codeAny (model prog w) A (.call (.ref fI) ⟨[.ref x, v], []⟩) R s := by
  obtain ⟨oc, od, doc, pm, an, cda, ct, cc, osl, msg, j, p1, p2, a0, a1, a2, a3, a4, a5, q1, q2, q3, q4, lk, hcq, ⟨ccl, cdd, vs, ccs, file, tf, lcd, hvs, hfile⟩, ⟨cl, cld, csl, lcc⟩, hev⟩ := T.fn
  obtain ⟨nm, q, N, bs, bm, sn, sub, ab, col, dd, k0, k1, k2, k3, k5, hC, hpass, hob, _⟩ := T.cls
  have hnx : x ≠ C := fun z => by
    have e := X _ _ hC
    rw [← z, hx] at e
    cases e
  have hcl : clsIn K C = some { name := nm, bases := bs, mro := .ref C :: bm, ns := N, qualname := q, hasDict := true, slotNames := sn, subclasses := sub, abstract := ab, collection := col, hasDel := false } := by
    unfold clsIn
    rw [hC] <;> rfl
  have hself : (iScope f).names.lookup ("self" : Str) = some .local := by
    unfold iScope
    rfl
  have ls : List.lookup ("self" : Str) ([(("self" : Str), Value.ref x), (Str.ofString f, v)].reverse) = some (.ref x) := by
    show List.lookup ("self" : Str) [(Str.ofString f, v), (("self" : Str), Value.ref x)] = _
    have e : (("self" : Str) == Str.ofString f) = false := by
      have z := T.fs
      rw [beq_eq_false_iff_ne] at z ⊢
      exact fun y => z y.symm
    simp [List.lookup, e]
  have lf : List.lookup (Str.ofString f) ([(("self" : Str), Value.ref x), (Str.ofString f, v)].reverse) = some v := by
    show List.lookup (Str.ofString f) [(Str.ofString f, v), (("self" : Str), Value.ref x)] = _
    simp [List.lookup]
  refine ks_codeAny_call_defAt (binds := [(("self" : Str), .ref x), (Str.ofString f, v)]) room (X _ _ lk) rfl hlim (codeRec_of X hcq) rfl (BindsTo.of_eq (T.bd _ _ _ _ _ _ _ _ _ _ _)) T.ncell (fun y hy => ?_) (fun h₁ hns hk₁ => ?_)
  · rcases List.mem_cons.mp hy with e | hy
    · rw [e]
      exact hself
    · rcases List.mem_cons.mp hy with e | hy
      · rw [e]
        exact T.ff
      · cases hy
  · have X₁ : K.In h₁ := X.keeps hk₁
    have hx₁ := hk₁ _ _ hx
    have hC₁ := X₁ _ _ hC
    show _root_.PySem.wpAt (model prog w) (A.deeper (ksEnv qual (iScope f) s.heap.objs.size fI (.ref cda) cc)) (.func (iBody f msg j a0 a1 a2 a3 a4 a5 q1 q2 q3 q4) (ksEnv qual (iScope f) s.heap.objs.size fI (.ref cda) cc))
      (execs (iBody f msg j a0 a1 a2 a3 a4 a5 q1 q2 q3 q4) (ksEnv qual (iScope f) s.heap.objs.size fI (.ref cda) cc)) _ _ _
    obtain ⟨pl, hev⟩ := hev s.heap.objs.size fI (.ref cda) cc
    refine ks_wpAt_execs_cons (ks_wpAt_Expr_any (ks_wpAt_MethodCall (pl := pl) ?_ hev))
    refine ks_wpAt_super_base (env := ksEnv qual (iScope f) s.heap.objs.size fI (.ref cda) cc) T.fsup T.fcl (by decide) rfl (X₁ _ _ lk) rfl rfl rfl (X₁ _ _ lcd) rfl hvs hfile T.top ?_
    obtain ⟨mb, hb, hbb⟩ := BB
    have hsup : mg "super" = none := mg_none_of X G T.sup
    refine ks_loadName_global rfl T.fsup (loadGlobal_builtin (env := ksEnv qual (iScope f) s.heap.objs.size fI (.ref cda) cc) (G.keeps hk₁) hsup (hb.keeps hk₁) ((hbb _ (by decide +kernel)).trans (by decide +kernel)) ⟨rfl, ?_⟩)
    refine wpAny_loadName_free rfl T.fcl rfl ⟨_, X₁ _ _ lcc, rfl⟩ ?_
    refine wpAny_loadName_local rfl hself hns ls ?_
    refine ks_wpAny_isType_cls hC₁ rfl ⟨rfl, ?_⟩
    refine ks_wpAny_call_super hC₁ rfl hx₁ rfl (fun c e => nomatch e) (looks_mroIn X₁ T.self) (fun h₂ e₂ k₂ => ?_)
    have X₂ : K.In h₂ := X₁.keeps k₂
    have hx₂ := k₂ _ _ hx₁
    have I₂ : InstAt h₂ x (HandSPX.excO C t0) C none := ⟨hx₂, rfl, rfl, trivial⟩
    have hm := T.up
    unfold ks_superIn at hm
    rw [hcl] at hm
    refine kxs_getMethod T.inF.kf e₂ (looks_opaque X₂ T.stat) (l₀ := .ref C :: bm) ?_ rfl X₂ hm (I₂.type.andThen (looks_subIn X₂ T.isB)) hnx (by decide) ?_
    · exact (looks_clsIn X₂ hcl).andThen .now
    · have k₃ : ∀ b o, h₂.get? b = some o → (h₂.push (kxs_mw i x)).get? b = some o := fun b o e => Heap.get?_push_of_some _ e
      have hu : (h₂.push (kxs_mw i x)).get? h₂.objs.size = some (kxs_mw i x) := Heap.get?_push_at rfl rfl
      have hC₃ := k₃ _ _ (X₂ _ _ hC)
      have hx₃ := k₃ _ _ hx₂
      refine kxs_callWith (i := i) (x := x) rfl (evalArgs_plain ?_)
      show wpAny _ _ (spliced ((false, eval (.Constant (.str msg) j a3) _) :: backTo a4 (starEach [] _))) _ _ _
      refine Calls.spliced_cons (wpAny_Constant_str (Calls.spliced_nil ⟨hu, ?_⟩))
      refine call_mw T.inF hC₃ hx₃ hu (by show 1 ≤ sizeLine; rw [sizeLine_eq]; omega) (fun h₄ t1 k₄ hx₄ => ?_)
      refine wpAt_of_wpAny (wpAny_execs_cons (plainObj_wpAny_Assign_Attribute ?_))
      have hLx : s.heap.objs.size ≠ x := Nat.ne_of_gt (Heap.lt_size hx)
      have hns₄ : h₄.Ns s.heap.objs.size (fun y => List.lookup y ([(("self" : Str), Value.ref x), (Str.ofString f, v)].reverse)) := by
        obtain ⟨oL, es, ep, hL, r⟩ := hns
        exact ⟨oL, es, ep, k₄ _ _ hLx (k₃ _ _ (k₂ _ _ hL)), r⟩
      have X₄ : K.In h₄ := fun b o e => by
        by_cases hb : b = x
        · rw [hb, hnK] at e
          cases e
        · exact k₄ _ _ hb (k₃ _ _ (X₂ _ _ e))
      refine wpAny_Name (wpAny_loadName_local rfl T.ff hns₄ lf ?_) T.fdb
      refine wpAny_Name (wpAny_loadName_local rfl hself hns₄ ls ?_) (by decide)
      refine set_plain X₄ (ox := HandSPX.excO C t1) (od := none) ⟨hx₄, rfl, rfl, trivial⟩ T.sa ?_
      refine osa_any X₄ hx₄ hcl (hpass _) (by rw [List.contains_cons, hob, Bool.or_true]) rfl rfl T.noF (fun h₅ tk₅ dx k₅ dn dne hx₅ hn₅ => ?_)
      show wpAny _ _ (execs _ _) _ _ _
      refine wpAny_execs_nil ?_
      have z : s.heap.objs.size ≤ h₄.objs.size := Nat.le_of_lt hns₄.lt
      exact hq h₅ tk₅ dx t1 (fun b o hb e => k₅ b o hb (k₄ b o hb (k₃ _ _ (k₂ _ _ (hk₁ b o e))))) (Nat.le_trans z dn) dne hx₅ hn₅
/-- C(v): what is left of the call of such a class -/
structure ExMade (h h' : Heap) (e C d : Addr) (f : String) (v : Value) : Prop where
  keep : ∀ b o, h.get? b = some o → h'.get? b = some o
  new : h.objs.size ≤ e
  obj : ∃ t1 : Addr, h'.get? e = some ({ cls := .ref C, dict := some d, data := .fields #[.ref t1, .none, .none, .none, .bool false, .none] } : Obj)
  dbig : h.objs.size ≤ d
  dne : d ≠ e
  ns : h'.Ns1 d (fun y => if y = Str.ofString f then some v else none)
end
section
variable {prog : Program} {w : World} {M : Model} {A : Around} {E : Value → Shared → Prop} {R : Result → Shared → Prop} {h : Heap} {g : Array GenState} {d : Drawn} {t : Nat} {os : OsState}
variable {nm q : Str} {C N : Addr} {bs bm bmB : List Value} {hdct : Bool} {sn : List Str} {sub : List Value} {ab : Bool} {col : Option Bool} {dd : Option Addr} {k0 k1 k2 k3 k5 : Option Value} {B newId initId : String}
theorem chk_new (F : ExcBaseFacts B newId initId bmB) (O : NewOk bm B) {rest : List Value} {Q : Unit → Shared → Prop}
    (hC : h.get? C = some (excClassObj nm q C N bs bm hdct sn sub ab col dd k0 k1 k2 k3 k5 newId)) (hq : Q () ⟨h, g, d, t, os⟩) :
    wpAny M A (checkBuiltinCall newId ⟨.ref C :: rest, []⟩) Q E ⟨h, g, d, t, os⟩ := by
  have hcont : (Value.ref C :: bm).contains (.type B) = true := by rw [List.contains_cons, O.hasB, Bool.or_true]
  have hs := F.noStar
  simp only [checkBuiltinCall, F.newKind, F.newSplit, F.newRow]
  repeat (first
    | refine wpAny_loadPart_at hC ?_
    | (refine wpAny_isSubtype_exc hC ?_; rw [hcont])
    | refine wpAny_staticBase_exc hC ?_
    | refine wpAny_madeBy_exc hC ?_
    | simp only [bne_self_eq_false, Bool.false_eq_true, if_false]
    | wp_step)
  exact hq
theorem new_any (F : ExcBaseFacts B newId initId bmB) (O : NewOk bm B) {rest : List Value}
    (hC : h.get? C = some (excClassObj nm q C N bs bm hdct sn sub ab col dd k0 k1 k2 k3 k5 newId))
    (hq : R (.ok (.ret (.ref (h.objs.size + 1)))) ⟨(h.push (kdv_tup rest)).push (HandSPX.excO C h.objs.size), g, d, t, os⟩) (hrest : rest.length ≤ sizeLine) :
    codeAny (model prog w) A (.builtin newId ⟨.ref C :: rest, []⟩) R ⟨h, g, d, t, os⟩ := by
  have hends := F.ends
  have hcB : (Value.ref C :: bm).contains (.type B) = true := by rw [List.contains_cons, O.hasB, Bool.or_true]
  have hcA : (Value.ref C :: bm).contains (.type "AttributeError") = false := by rw [List.contains_cons, O.noA]; rfl
  have hcN : (Value.ref C :: bm).contains (.type "NameError") = false := by rw [List.contains_cons, O.noN]; rfl
  refine codeAny_builtinAt F.entry ?_
  unfold Builtin.«BaseException.__new__»
  refine wpAt_bind ?_
  show wpAt _ _ _ (stack >>= _) _ _ _
  refine wpAt_bind (wpAt_stack fun p below => wpAt_of_wpAny ?_)
  wp_walk
  refine wpAt_of_wpAny ?_
  rw [F.owner]
  repeat (first
    | with_reducible refine wpAny_madeHere_exc F.canon hC ?_
    | with_reducible refine wpAny_loadPart_at hC ?_
    | (with_reducible refine wpAny_isSubtype_exc hC ?_; first | rw [hcB] | rw [hcA] | rw [hcN])
    | wp_step)
  show R _ _
  rw [Heap.size_push]
  exact hq
theorem type_any (F : ExcBaseFacts B newId initId bmB) (O : NewOk bm B) {rest : List Value} {fI : Addr} {Q : Fin → Shared → Prop}
    (hC : h.get? C = some (excClassObj nm q C N bs bm hdct sn sub ab col dd k0 k1 k2 k3 k5 newId))
    (hi : Looks (model prog w) h (typeLookup (.ref C) "__init__") (some (.ref fI))) (hb : ∀ self, Looks (model prog w) h (bindSpecial (.ref fI) self) (.ref fI, [self])) (hrest : rest.length ≤ sizeLine)
    (hq : codeAny (model prog w) A (.call (.ref fI) ⟨.ref (h.objs.size + 1) :: rest, []⟩)
      (fun r s' => match r with
        | .ok (.ret v) => v = .none ∧ Q (.done (.ret (.ref (h.objs.size + 1)))) s'
        | .ok _ => False
        | .error e => E e s') ⟨(h.push (kdv_tup rest)).push (HandSPX.excO C h.objs.size), g, d, t, os⟩) :
    wpAny (model prog w) A (Builtin.«type.__call__» ⟨.ref C :: rest, []⟩) Q E ⟨h, g, d, t, os⟩ := by
  repeat (first
    | with_reducible refine wpAny_loadPart_at hC ?_
    | with_reducible refine wpAny_madeBy_exc hC ?_
    | wp_step)
  refine codeAny_call_builtin_code (Code.quiet_builtin _ F.quiet) (chk_new F O hC ?_)
  refine new_any F O hC ?_ hrest
  show wpAny _ _ _ _ _ _
  have k : ∀ b o, h.get? b = some o → ((h.push (kdv_tup rest)).push (HandSPX.excO C h.objs.size)).get? b = some o := fun b o e => Heap.get?_push_of_some _ (Heap.get?_push_of_some _ e)
  have hC₁ := k _ _ hC
  have hget : ((h.push (kdv_tup rest)).push (HandSPX.excO C h.objs.size)).get? (h.objs.size + 1) = some (HandSPX.excO C h.objs.size) := by heap_get
  have hcC : (Value.ref C :: bm).contains (.ref C) = true := by simp
  have i1 := hi.keeps k
  have b1 := (hb (.ref (h.objs.size + 1))).keeps k
  unfold isInstance
  repeat (first
    | with_reducible refine wpAny_loadPart_at hget ?_
    | (with_reducible refine wpAny_isSubtype_exc hC₁ ?_; rw [hcC])
    | wp_step)
  show wpAny _ _ (typeLookup (.ref C) _) _ _ _
  refine i1.at ?_
  refine wpAny_holding (wpAny_bind (b1.at ?_))
  refine wpAny_bind (wpAny_call (codeAny_mono hq fun r s' z => ?_))
  rcases r with e | (v | _ | _ | _) <;> first | exact z | exact z.elim | skip
  obtain ⟨rfl, z⟩ := z
  first
    | exact wpAny_pure (wpAny_pure z)
    | (wp_walk; exact z)
theorem call_any (F : ExcBaseFacts B newId initId bmB) (O : NewOk bm B) {rest : List Value} {fI : Addr}
    (hC : h.get? C = some (excClassObj nm q C N bs bm hdct sn sub ab col dd k0 k1 k2 k3 k5 newId))
    (hi : Looks (model prog w) h (typeLookup (.ref C) "__init__") (some (.ref fI))) (hb : ∀ self, Looks (model prog w) h (bindSpecial (.ref fI) self) (.ref fI, [self])) (hrest : rest.length ≤ sizeLine)
    (hq : codeAny (model prog w) (A.under (.builtin "type.__call__" ⟨.ref C :: rest, []⟩)) (.call (.ref fI) ⟨.ref (h.objs.size + 1) :: rest, []⟩) (InitBack (h.objs.size + 1) R)
      ⟨(h.push (kdv_tup rest)).push (HandSPX.excO C h.objs.size), g, d, t, os⟩) :
    codeAny (model prog w) A (.call (.ref C) ⟨rest, []⟩) R ⟨h, g, d, t, os⟩ := by
  have f1 := tc_lookup
  have f2 := tc_bind (.ref C)
  have hTy : (⟨h, g, d, t, os⟩ : Shared).TypeIs (.ref C) "type" := ⟨_, hC, rfl⟩
  refine codeAny_of_tree ?_
  show wpAny _ _ (callAny (.ref C) _) _ _ _
  repeat (any_goals (first | assumption | with_reducible refine wpAny_loadPart_at hC ?_ | wp_step))
  refine ⟨rfl, ?_⟩
  refine codeAny_call_builtin_at (Code.quiet_builtin _ (by decide +kernel)) entry_typeCall (wpAny_check_type_call_sub hC (type_any F O hC hi hb hrest ?_))
  refine codeAny_mono hq fun r s' z => ?_
  rcases r with e | (v | _ | _ | _) <;> exact z
end
section
variable {prog : Program} {w : World} {A : Around} {R : Result → Shared → Prop} {s : Shared} {K : Frag} {C fI : Addr} {B i B0 newId : String} {f : String} {qual : Str} {mg : Str → Option Value}
theorem one_ok (v : Value) : [v].length ≤ sizeLine := by
  show 1 ≤ sizeLine
  rw [sizeLine_eq]
  omega
theorem made (T : InitTxt prog K C fI B i B0 newId f qual) {v : Value} (X : K.In s.heap) (G : s.heap.Ns mainGlobals mg) (BB : ∃ mb, s.heap.Ns builtinsNs mb ∧ ∀ y : Str, y ≠ "__name__" → mb y = bootBuiltins y) (hlim : s.heap.NoLimit)
    (room : A.depth + 1 < recursionLimit) (hq : ∀ h' tk e d, ExMade s.heap h' e C d f v → R (.ok (.ret (.ref e))) { s with heap := h', toks := tk }) :
    codeAny (model prog w) A (.call (.ref C) ⟨[v], []⟩) R s := by
  obtain ⟨nm, q, N, bs, bm, sn, sub, ab, col, dd, k0, k1, k2, k3, k5, hC, _, _, O⟩ := T.cls
  obtain ⟨i0, bmB, FB⟩ := T.newF
  obtain ⟨hp, g, dr, tk, os⟩ := s
  have k : ∀ b o, hp.get? b = some o → ((hp.push (kdv_tup [v])).push (HandSPX.excO C hp.objs.size)).get? b = some o := fun b o e => Heap.get?_push_of_some _ (Heap.get?_push_of_some _ e)
  have hget : ((hp.push (kdv_tup [v])).push (HandSPX.excO C hp.objs.size)).get? (hp.objs.size + 1) = some (HandSPX.excO C hp.objs.size) := by heap_get
  have hnK : K.lookup (hp.objs.size + 1) = none := by
    cases e : K.lookup (hp.objs.size + 1) with
    | none => rfl
    | some o =>
      have z : hp.get? (hp.objs.size + 1) = some o := X _ _ e
      exact absurd (Nat.lt_of_succ_lt (Heap.lt_size z)) (Nat.lt_irrefl _)
  refine call_any FB O (X _ _ hC) (looks_findIn X T.iC) (fun self => bind_fn X self T.tI) (one_ok v) ?_
  refine init_super (s := ⟨(hp.push (kdv_tup [v])).push (HandSPX.excO C hp.objs.size), g, dr, tk, os⟩) T (X.keeps k) (G.keeps k) (let ⟨mb, h1, h2⟩ := BB; ⟨mb, h1.keeps k, h2⟩) (hlim.keeps k) hget hnK ?_ fun h' tk' dx t1 k' dn dne hx hns => ?_
  · show A.depth + 1 < recursionLimit
    exact room
  · have old : ∀ b o, hp.get? b = some o → h'.get? b = some o := fun b o e => k' b o (Nat.ne_of_lt (Nat.lt_succ_of_lt (Heap.lt_size e))) (k b o e)
    have z : hp.objs.size + 1 + 1 ≤ dx := by
      have q := dn
      rw [Heap.size_push, Heap.size_push] at q
      exact q
    exact ⟨rfl, hq h' tk' (hp.objs.size + 1) dx ⟨old, Nat.le_succ _, ⟨t1, hx⟩, Nat.le_trans (Nat.le_trans (Nat.le_succ _) (Nat.le_succ _)) z, dne, hns⟩⟩
end
end NvE
end PySem

set_option Elab.async false
set_option linter.all false
set_option maxRecDepth 100000
set_option maxHeartbeats 4000000
/-! # Rules over the hand layer: such exceptions raised, held as values, asked for their class and their fields -/
namespace L2
open PySem PySem.Spec PyProof.Rows
theorem relO_one {f : Str} {v : V} {u : Value} (r : RelV v u) (y : Str) : RelO (List.lookup y [(f, v)]) (if y = f then some u else none) := by
  by_cases h : y = f
  · subst h
    rw [if_pos rfl]
    have q : List.lookup y [(y, v)] = some v := by simp [List.lookup]
    rw [q]
    exact r
  · rw [if_neg h]
    have e : (y == f) = false := by simpa using h
    have q : List.lookup y [(f, v)] = none := by simp [List.lookup, e]
    rw [q]
    trivial
section
variable {X : Cx} {C fI : Addr} {B i B0 newId : String} {f : String} {qual : Str}
/-- what the rules ask of the class x at C, whose __init__ keeps its argument in the field f -/
structure KeepC (X : Cx) (x : Str) (C : Addr) (f : String) : Prop where
  tx : ∃ (fI : Addr) (B i B0 newId : String) (qual : Str), PySem.NvE.InitTxt X.prog X.K C fI B i B0 newId f qual
  gC : X.mg x = some (.ref C)
  kC : PySem.W.keepIn X.K (.ref C) = true
  exC : PySem.W.subIn X.K (.ref C) (.type "BaseException") = some true
  tyC : PySem.W.typeIn X.K (.ref C) = some (.type "type")
theorem call_keep {x : Str} {f : String} (T : KeepC X x C f) {pins : List (Addr × Obj)} {σ : St} {H : Hp} {s : Shared} {u : Value} {Q : Value → Shared → Prop} {E : Value → Shared → Prop} (I : Inv X pins σ H s) (room : X.A.depth + 1 < recursionLimit)
    (hq : ∀ h' tk e d, PySem.NvE.ExMade s.heap h' e C d f u → Q (.ref e) { s with heap := h', toks := tk }) : wpAny (model X.prog X.w) X.A (call (.ref C) [u]) Q E s := by
  obtain ⟨fI, B, i, B0, newId, qual, T0⟩ := T.tx
  refine wpAny_call (PySem.NvE.made T0 I.kIn (I.mod.glob.keeps I.bk) (let ⟨mb, h1, h2⟩ := I.mod.blt; ⟨mb, h1.keeps I.bk, h2⟩) I.nolimit room fun h' tk e d M => ?_)
  exact hq h' tk e d M
/-- X(e), to be raised -/
def tMkKeep (C : Addr) (f : String) (ta : TA) : St → Hp → XK → Prop := fun σ H Q => ta σ H fun vs H1 => ∃ v, vs = [v] ∧ ∀ d, H1 d = none → Q (.ref C) (some d) (upd H1 d (.xd [(Str.ofString f, v)]))
theorem pmk_keep {x : Str} {f : String} {a : Expr} {ta : TA} {p pos : Pos} {k : Nat} (T : KeepC X x C f) (hr : Room k X.A) (ha : PA X [a] ta) (hg : Gl X x := by rfl) (hdb : (x == ("__debug__" : Str)) = false := by decide)
    (he : starEach (a :: []) X.env = (false, eval a X.env) :: starEach [] X.env := by rfl) (hpl : (backTo pos (starEach [] X.env)).any (·.1) = false := by rfl) :
    PMk X (.Call (.Name x p) [a] [] pos) (tMkKeep C f ta) := by
  intro pins s σ H Q I h
  refine wpAny_Call_Name_kw (ld_glob I hg T.gC ?_ hdb)
  refine PySem.W.callWith_K (h₀ := X.base) I.ok.mod.kin T.kC (thn (ha.run pos pins s σ H _ I h) fun us s1 hh => ?_) he hpl
  obtain ⟨vs, H1, I1, r1, v, ev, q1⟩ := hh
  subst ev
  refine ⟨I1.kIn, ?_⟩
  cases r1 with
  | cons rv rn =>
    rename_i v' us'
    cases rn
    show wpAny _ _ (call (.ref C) [v']) _ _ _
    refine call_keep T I1 (by have := hr.dp; omega) fun h' tk' e d M => ?_
    obtain ⟨hp, g, dr, tk, os⟩ := s1
    show MkP X pins σ Q (.ref e) ⟨h', g, dr, tk', os⟩
    obtain ⟨t1, hoe⟩ := M.obj
    have hns := M.ns
    obtain ⟨G', g1, g2⟩ := restrict h' fun b => decide (b ≠ e)
    have gk : ∀ b, b ≠ e → G'.get? b = h'.get? b := fun b hb => g1 b (decide_eq_true hb)
    have ge : G'.get? e = none := g2 e (by simp)
    have old : ∀ b o, hp.get? b = some o → G'.get? b = some o := fun b o q => (gk b (Nat.ne_of_lt (Nat.lt_of_lt_of_le (Heap.lt_size q) M.new))).trans (M.keep b o q)
    have ob : ObjOk X.prog X.w (upd H1 d (.xd [(Str.ofString f, v)])) G' d (.xd [(Str.ofString f, v)]) := ⟨_, hns.at (fun o q => (gk d M.dne).trans q), fun y => relO_one rv y⟩
    have J : Inv X pins σ (upd H1 d (.xd [(Str.ofString f, v)])) ⟨G', g, dr, tk', os⟩ := I1.laid (t' := tk') old M.dbig ob
    refine ⟨e, _, _, ⟨G', g, dr, tk', os⟩, _, .ref C, some d, rfl, J, fun b o q => ?_, ge, hoe, ⟨rfl, rfl⟩, rfl, rfl, ?_, rfl, I1.bare, raises_own T.exC T.tyC, q1 d (I1.hok.fresh M.dbig)⟩
    · by_cases hb : b = e
      · have q' : G'.get? b = some o := q
        rw [hb, ge] at q'
        cases q'
      · exact (gk b hb).symm.trans q
    · rw [upd_ne (Ne.symm M.dne)]
      exact I1.hok.fresh M.new
/-- X(e) as a value: a new exception object and its dict -/
def tKeep (C : Addr) (f : String) (ta : TA) : TE := fun σ H Q => ta σ H fun vs H1 => ∃ v, vs = [v] ∧ ∀ a d, H1 a = none → H1 d = none → d ≠ a → Q (.ref a) (upd (upd H1 d (exd d [(Str.ofString f, v)])) a (exo a C (some d)))
theorem pe_keep {x : Str} {f : String} {a : Expr} {ta : TA} {p pos : Pos} {k : Nat} (T : KeepC X x C f) (hr : Room k X.A) (ha : PA X [a] ta) (hg : Gl X x := by rfl) (hdb : (x == ("__debug__" : Str)) = false := by decide)
    (he : starEach (a :: []) X.env = (false, eval a X.env) :: starEach [] X.env := by rfl) (hpl : (backTo pos (starEach [] X.env)).any (·.1) = false := by rfl) :
    PE X (.Call (.Name x p) [a] [] pos) (tKeep C f ta) := by
  refine ⟨fun pins s σ H Q I h => ?_⟩
  refine wpAny_Call_Name_kw (ld_glob I hg T.gC ?_ hdb)
  refine PySem.W.callWith_K (h₀ := X.base) I.ok.mod.kin T.kC (thn (ha.run pos pins s σ H _ I h) fun us s1 hh => ?_) he hpl
  obtain ⟨vs, H1, I1, r1, v, ev, q1⟩ := hh
  subst ev
  refine ⟨I1.kIn, ?_⟩
  cases r1 with
  | cons rv rn =>
    rename_i v' us'
    cases rn
    show wpAny _ _ (call (.ref C) [v']) _ _ _
    refine call_keep T I1 (by have := hr.dp; omega) fun h' tk' e d M => ?_
    obtain ⟨t1, hoe⟩ := M.obj
    have hns := M.ns
    have ne := I1.hok.fresh M.new
    have nd := I1.hok.fresh M.dbig
    have be : ∀ {b : Addr} {o : Obj}, s1.heap.get? b = some o → b ≠ e := fun {b o} q => Nat.ne_of_lt (Nat.lt_of_lt_of_le (Heap.lt_size q) M.new)
    have bd : ∀ {b : Addr} {o : Obj}, s1.heap.get? b = some o → b ≠ d := fun {b o} q => Nat.ne_of_lt (Nat.lt_of_lt_of_le (Heap.lt_size q) M.dbig)
    have U : Un X.fs [] H1 (upd (upd H1 d (exd d [(Str.ofString f, v)])) e (exo e C (some d))) s1.heap h' := {
      keep := fun b o q _ _ _ => M.keep b o q
      slot := fun b o q _ _ _ => ⟨o.slots, M.keep b o q⟩
      free := fun b o q n _ => by
        rw [upd_ne (be q), upd_ne (bd q)]
        exact n
      there := fun b o q _ => ⟨o, M.keep b o q⟩
      tups := fun b xs q => by
        rw [upd_ne (ne_of_none q ne), upd_ne (ne_of_none q nd)]
        exact q
      frzs := fun b o u q => by
        rw [upd_ne (ne_of_none q ne), upd_ne (ne_of_none q nd)]
        exact q
      tbls := fun b ps q => ⟨#[], by
        rw [upd_ne (ne_of_none q ne), upd_ne (ne_of_none q nd), q]
        simp⟩ }
    have ok : HOk X.prog X.w (upd (upd H1 d (exd d [(Str.ofString f, v)])) e (exo e C (some d))) h' := fun b o q => by
      by_cases hb : b = e
      · subst hb
        rw [upd_same] at q
        cases q
        exact exo_ok hoe
      · rw [upd_ne hb] at q
        by_cases hd : b = d
        · subst hd
          rw [upd_same] at q
          cases q
          exact exd_ok hns (relO_one rv)
        · rw [upd_ne hd] at q
          refine (I1.hok b o q).stay (fun c u _ z => M.keep c u z) (fun c z => ?_) (fun c xs z => ?_)
          · rw [upd_ne (ne_of_none z ne), upd_ne (ne_of_none z nd)]
            exact z
          · rw [upd_ne (ne_of_none z ne), upd_ne (ne_of_none z nd)]
            exact z
    exact ⟨.ref e, _, I1.un (t' := tk') U ok, rfl, q1 e d ne nd M.dne⟩
end
end L2

set_option Elab.async false
set_option linter.all false
set_option maxRecDepth 100000
set_option maxHeartbeats 4000000
/-! # isinstance and fields of exceptions that are held as values; except clauses of every form -/
namespace PySem.W
open PySem PySem.Spec PySem.Calls PyProof.Rows
section
variable {prog : Program} {w : World} {A : Around} {E : Value → Shared → Prop} {s : Shared} {K : Frag} {x D : Addr} {ox : Obj} {od : Option Obj}
theorem nv_findData {C : Addr} {name : Str} {a g : Value} (hc : (clsIn K C).isSome = true) (ha : findIn K (.ref C) name = some (some a)) (hg : specialIn K a "__get__" = some (some g)) (ht : takesIn K a = some true) :
    findObj K C od name = some (.bind g a) := by
  obtain ⟨cd, hc⟩ := Option.isSome_iff_exists.mp hc
  unfold findObj
  rw [hc, Option.bind_some, ha, Option.bind_some]
  simp [hg, ht]
/-- e.__class__ of an exception, whether it has a dict or not -/
theorem nv_class {Q : Option Value → Shared → Prop} (T : L2.ExcC K D) (X : K.In s.heap) (I : InstAt s.heap x ox D od) (h : Q (some (.ref D)) { s with toks := s.toks + 1 }) :
    wpAny (model prog w) A (getAttr? (.ref x) "__class__") Q E s := by
  have hcs : (clsIn K D).isSome = true := by
    obtain ⟨cd, hc, _⟩ := any_some T.hd
    rw [hc]
    rfl
  have hf : findObj K D od "__class__" = some (.bind (.builtin "getset_descriptor.__get__") (.builtin "object.__class__")) := nv_findData hcs T.ha T.hn T.ht
  obtain ⟨hp, g, d, t, os⟩ := s
  have L0 := I.type (M := model prog w)
  have L1 := looks_findIn (M := model prog w) X T.hg
  have L2 := looks_findIn (M := model prog w) X T.hk
  have L3 := looks_find (M := model prog w) X I hf
  have sub : Looks (model prog w) hp (isInstance (.ref x) (.type "BaseException")) true := L0.andThen (looks_subIn X T.hs)
  have x0 : (false && onTheHeap (Value.builtin "BaseException.__getattribute__")) = false := rfl
  have x2 : (Value.builtin "BaseException.__getattribute__" == Value.builtin "object.__getattribute__") = false := by decide +kernel
  have x1 : (onTheHeap (Value.ref D) && Value.builtin "BaseException.__getattribute__" == Value.builtin "object.__getattribute__") = false := by
    rw [x2]
    rfl
  unfold getAttr? getAttrBy? getAttrBy
  refine wpAny_bind (wpAny_mkText (wpAny_bind (wpAny_attempt (wpAny_holding (wpAny_bind (L0.at (wpAny_bind (L1.at ?_))))))))
  show wpAny _ _ (if (onTheHeap (Value.ref D) && Value.builtin "BaseException.__getattribute__" == Value.builtin "object.__getattribute__") = true then _ else _) _ _ _
  rw [x1, if_neg Bool.false_ne_true]
  unfold getAttrByItsOwn hookBefore
  refine wpAny_bind ?_
  rw [if_pos (show onTheHeap (Value.ref D) = true from rfl)]
  refine L2.at ?_
  refine wpAny_bind (wpAny_attempt (wpAny_holding ?_))
  unfold callGetattribute
  rw [x0, if_neg Bool.false_ne_true]
  unfold boundAndCalled
  rw [PySem.F.excAttr_ValueError.ga.bind (.ref x)]
  refine wpAny_bind (wpAny_pure ?_)
  show wpAny _ _ (call (.builtin "BaseException.__getattribute__") [.ref x, .str "__class__" t]) _ _ _
  refine wpAny_call (codeAny_call_builtin PySem.F.excAttr_ValueError.ga.plain PySem.F.entry_bexc_ga ?_)
  refine @check_slot (model prog w) _ _ ⟨hp, g, d, t + 1, os⟩ "BaseException.__getattribute__" "BaseException" "__getattribute__" (.ref x) [.str "__class__" t] []
    _ (by decide +kernel) (by decide +kernel) sub (PySem.F.args_bexc_ga (.ref x) (.str "__class__" t)) ?_
  unfold Builtin.«object.__getattribute__»
  refine wpAny_bind (wpAny_of_eq (a := ((Value.ref x : Value), [Value.str "__class__" t])) (by first | rfl | (simp only [slotArgs]; rfl)) ?_)
  refine wpAny_bind (wpAny_pure (wpAny_bind (L0.at (wpAny_bind (L3.at ?_)))))
  show wpAny _ _ (holding [Value.builtin "object.__class__"] (call (.builtin "getset_descriptor.__get__") [.builtin "object.__class__", .ref x, .ref D]) >>= ret) _ _ _
  refine wpAny_bind (wpAny_holding (wpAny_call (class_get (s := ⟨hp, g, d, t + 1, os⟩) (ox := ox) (od := od) X I T.hm ?_)))
  refine wpAny_pure ?_
  show wpAny _ _ (handedOut (.ref D)) _ _ _
  rw [handedOut_of (v := .ref D) rfl]
  first
    | exact wpAny_pure (wpAny_pure h)
    | exact wpAny_pure h
    | exact wpAny_pure (wpAny_bind (wpAny_pure (wpAny_pure h)))
theorem nv_kitx (T : L2.ExcC K D) : KitX K (.ref x) (.ref D) (fun h => ∃ ox od, InstAt h x ox D od) where
  ty := fun _ _ _ ⟨_, _, I⟩ => I.type
  it := fun _ _ X _ => by
    obtain ⟨cdD, hcD, _⟩ := any_some T.hd
    unfold clsIn at hcD
    split at hcD
    · rename_i c' d' cd' sl' ho
      intro A' Q' E' s' k q
      unfold isType loadHead
      exact wpAny_bind (wpAny_loadPart (k _ _ (X _ _ ho)) (wpAny_pure q))
    · cases hcD
  ne := fun h tp dd its n sl X htp => by
    obtain ⟨cdD, hcD, _⟩ := any_some T.hd
    refine Bool.eq_false_iff.mpr fun q => ?_
    have e : D = tp := Value.ref.inj (beq_iff_eq.mp q)
    subst e
    unfold clsIn at hcD
    split at hcD
    · rename_i c' d' cd' sl' ho
      have z := (X _ _ ho).symm.trans htp
      cases z
    · cases hcD
  ca := fun X ⟨_, _, I⟩ k => nv_class T X I k
end
end PySem.W
namespace L2
open PySem PySem.Spec PyProof.Rows
/-- at a stands an exception of the class at C, as a value: without a dict, or with one that keeps fs -/
def ExV (H : Hp) (a C : Addr) : Option (List (Str × V)) → Prop
  | none => H a = some (ExO (.ref C) a)
  | some fs => ∃ d, H a = some (exo a C (some d)) ∧ H d = some (exd d fs)
section
variable {X : Cx} {pins : List (Addr × Obj)} {σ : St} {H : Hp} {s : Shared} {a C : Addr} {fs : Option (List (Str × V))}
theorem exv_inst (I : Inv X pins σ H s) (e : ExV H a C fs) : ∃ ox od, PySem.W.InstAt s.heap a ox C od := by
  cases fs with
  | none =>
    obtain ⟨⟨oe, vs, ho, hz, hd, _⟩, _, _⟩ := I.hok a _ e
    exact ⟨oe, none, ho, hz.1, by unfold PySem.W.notCls; rw [hd] <;> rfl, by rw [hz.2]; trivial⟩
  | some fs =>
    obtain ⟨d, e1, e2⟩ := e
    obtain ⟨t1, ho⟩ := exo_at I.hok e1
    obtain ⟨mA, hn, _⟩ := exd_at I.hok e2
    obtain ⟨od, _, _, hd, _⟩ := hn
    exact ⟨_, some od, ho, rfl, rfl, hd⟩
/-- isinstance(e, c) -/
def rIsV (K : PySem.W.Frag) : List V → Hp → VK → Prop := fun xs H Q => ∃ (a C : Addr) (fs : Option (List (Str × V))) (c : V) (cv : Value) (b : Bool),
  xs = [.ref a, c] ∧ ExV H a C fs ∧ ExcC K C ∧ (∀ u, RelV c u → u = cv) ∧ PySem.W.kitOne K (.ref C) cv = some b ∧ Q (.bl b) H
theorem call_isV : CallR X (.builtin "isinstance") (rIsV X.K) := by
  intro pins s σ H xs us Q I r h
  obtain ⟨a, C, fs, c, cv, b, rfl, ev, T, hcv, e, q⟩ := h
  obtain ⟨u1, u2, rfl, r1, r2⟩ := vals2 r
  obtain rfl : u1 = Value.ref a := r1
  have ec := hcv _ r2
  subst ec
  exact PySem.W.kia_one (PySem.W.nv_kitx T) I.kIn (exv_inst I ev) e (fun z => nomatch z) fun tk => ⟨.bl b, H, I.kept (t' := tk) fun _ _ z => z, rfl, q⟩
/-- e.f, e an exception that is held as a value -/
def tFldE (K : PySem.W.Frag) (n : Str) (te : TE) : TE := fun σ H Q => te σ H fun x H1 => ∃ (a C : Addr) (fs : List (Str × V)) (v : V), x = .ref a ∧ ExV H1 a C (some fs) ∧ XfC K C ∧ PySem.W.findIn K (.ref C) n = some none ∧ fs.lookup n = some v ∧ Q v H1
theorem pe_fldV {e : Expr} {te : TE} {pos : Pos} {n : Str} (he : PE X e te) (hb : attributeBase e n X.env (eval e X.env) = eval e X.env := by rfl) : PE X (.Attribute e n pos) (tFldE X.K n te) := by
  refine ⟨fun pins s σ H Q I h => ?_⟩
  refine attr_of hb (thn (he.run pins s σ H _ I h) fun u s1 hh => ?_)
  obtain ⟨x, H1, I1, rx, a, C, fs, v, ex, ⟨d, e1, e2⟩, T, hno, l, q⟩ := hh
  subst ex
  obtain rfl : u = Value.ref a := rx
  obtain ⟨t1, ho⟩ := exo_at I1.hok e1
  obtain ⟨mA, hns, hr⟩ := exd_at I1.hok e2
  obtain ⟨od, hd, hl⟩ := lookIn_ns hns
  obtain ⟨u, hu, ru⟩ := RelO.some_of (v := v) (o := mA n) (by rw [← l]; exact hr n)
  exact HandSPX.exc_get I1.kIn (od := some od) ⟨ho, rfl, rfl, hd⟩ T.ga T.gg T.exC (PySem.W.findObj_own T.hdC hno rfl (by rw [hl, hu])) (handed_of ru) ⟨v, H1, I1.tok _, ru, q⟩
/-- X(), an own exception class without own __init__ -/
theorem pe_exc00 {C : Addr} {bmB : List Value} {B newId initId : String} {x : Str} {p pos : Pos} (F : ExcBaseFacts B newId initId bmB) (q : PySem.W.excIn X.K C bmB newId = true) (gC : X.mg x = some (.ref C)) (kC : PySem.W.keepIn X.K (.ref C) = true) (hg : Gl X x)
    (hdb : (x == ("__debug__" : Str)) = false := by decide) : PE X (.Call (.Name x p) [] [] pos) (fun _ H Q => ∀ a, H a = none → Q (.ref a) (upd H a (ExO (.ref C) a))) := by
  refine ⟨fun pins s σ H Q I h => ?_⟩
  refine wpAny_Call_Name_kw (ld_glob I hg gC ?_ hdb)
  refine PySem.W.callWith_K0 I.kIn kC ?_
  obtain ⟨bm, N, nm, qn, bs, hdct, sn, sub, ab, col, dd, k0, k1, k2, k3, k5, mN, hC, hN, hni, T⟩ := exc_obj I.kIn q
  refine wpAny_call_exc_subT F T hC hN hni (fun h' a hm => ?_) (by show 0 ≤ sizeLine; omega)
  have hn : H a = none := I.hok.gone hm.new
  obtain ⟨t, ht, _, _⟩ := hm.there
  exact ⟨.ref a, upd H a (ExO (.ref C) a), I.laidN hm.keeps hm.new hn (exO_ok ht ⟨rfl, rfl⟩ rfl rfl rfl (show 4 < 6 by decide)), rfl, h a hn⟩
end
end L2

set_option Elab.async false
set_option linter.all false
set_option maxRecDepth 100000
set_option maxHeartbeats 8000000
/-! # try with several clauses: a class, a class with a name, a tuple of classes -/
namespace PySem.W
open PySem PySem.Spec PySem.Calls PyProof.Rows
section
variable {M : Model} {K : Frag}
theorem nv_exm_tup6 {c1 c2 c3 c4 c5 c6 cls : Value} {tp e : Addr} {b : Bool} {h : Heap} (X : K.In h) (LT : Looks M h (typeOf (.ref e)) cls) (hp : h.get? tp = some { cls := .type "tuple", data := .seq [c1, c2, c3, c4, c5, c6].toArray })
    (hx : exmAny K cls [c1, c2, c3, c4, c5, c6] = some b) : Looks M h (excMatches (.ref e) (.ref tp)) b := by
  intro A Q E s k₀ q
  obtain ⟨hh, g, d, tk, os⟩ := s
  have k : ∀ b o, h.get? b = some o → hh.get? b = some o := k₀
  have LT0 : Looks M h (isInstance (.ref tp) (.type "tuple")) true := ((Looks.ld hp).andThen .now).andThen (Looks.of_pure isSubtype_tuple_tuple)
  obtain ⟨b1, d1, x1, y1, z1⟩ := exmAny_cons hx
  obtain ⟨b2, d2, x2, y2, z2⟩ := exmAny_cons y1
  obtain ⟨b3, d3, x3, y3, z3⟩ := exmAny_cons y2
  obtain ⟨b4, d4, x4, y4, z4⟩ := exmAny_cons y3
  obtain ⟨b5, d5, x5, y5, z5⟩ := exmAny_cons y4
  obtain ⟨b6, d6, x6, y6, z6⟩ := exmAny_cons y5
  obtain ⟨e1, S1⟩ := exm_cls (M := M) X x1
  have e1 := e1.keeps k
  have S1 := S1.keeps k
  obtain ⟨e2, S2⟩ := exm_cls (M := M) X x2
  have e2 := e2.keeps k
  have S2 := S2.keeps k
  obtain ⟨e3, S3⟩ := exm_cls (M := M) X x3
  have e3 := e3.keeps k
  have S3 := S3.keeps k
  obtain ⟨e4, S4⟩ := exm_cls (M := M) X x4
  have e4 := e4.keeps k
  have S4 := S4.keeps k
  obtain ⟨e5, S5⟩ := exm_cls (M := M) X x5
  have e5 := e5.keeps k
  have S5 := S5.keeps k
  obtain ⟨e6, S6⟩ := exm_cls (M := M) X x6
  have e6 := e6.keeps k
  have S6 := S6.keeps k
  have w6 : some false = some d6 := y6
  cases w6
  have LT := LT.keeps k
  have LT0 := LT0.keeps k
  have hp' := k _ _ hp
  subst z1 z2 z3 z4 z5 z6
  unfold excMatches
  refine wpAny_bind (LT0.at ?_)
  dsimp only
  rw [if_pos rfl]
  first
    | refine wpAny_bind (wpAny_seqItems hp' rfl ?_)
    | refine wpAny_bind (wpAny_bind (wpAny_seqItems hp' rfl (wpAny_pure ?_)))
  dsimp only [Option.getD_some, Option.getD]
  cases b1
  · cases b2
    · cases b3
      · cases b4
        · cases b5
          · cases b6 <;> ((repeat (first | simp only [List.forIn_cons, List.forIn_nil, Bool.not_true, Bool.false_eq_true, if_false, if_true] | lk)); exact q)
          · ((repeat (first | simp only [List.forIn_cons, List.forIn_nil, Bool.not_true, Bool.false_eq_true, if_false, if_true] | lk)); exact q)
        · ((repeat (first | simp only [List.forIn_cons, List.forIn_nil, Bool.not_true, Bool.false_eq_true, if_false, if_true] | lk)); exact q)
      · ((repeat (first | simp only [List.forIn_cons, List.forIn_nil, Bool.not_true, Bool.false_eq_true, if_false, if_true] | lk)); exact q)
    · ((repeat (first | simp only [List.forIn_cons, List.forIn_nil, Bool.not_true, Bool.false_eq_true, if_false, if_true] | lk)); exact q)
  · ((repeat (first | simp only [List.forIn_cons, List.forIn_nil, Bool.not_true, Bool.false_eq_true, if_false, if_true] | lk)); exact q)
end
/-- a tuple of that many classes in a clause is asked rightly -/
def TupAsks (K : Frag) (cs : List Value) : Prop := ∀ {M : Model} {cls : Value} {tp e : Addr} {b : Bool} {h : Heap}, K.In h → Looks M h (typeOf (.ref e)) cls → h.get? tp = some { cls := .type "tuple", data := .seq cs.toArray } → exmAny K cls cs = some b → Looks M h (excMatches (.ref e) (.ref tp)) b
theorem tup4 {K : Frag} (a b c d : Value) : TupAsks K [a, b, c, d] := fun X L h e => exm_tup4 X L h e
theorem tup6 {K : Frag} (a b c d e f : Value) : TupAsks K [a, b, c, d, e, f] := fun X L h z => nv_exm_tup6 X L h z
end PySem.W
namespace L2
open PySem PySem.Spec PyProof.Rows
/-- a clause: one class; one class and a name (in the slot i); a tuple of classes -/
inductive Cl where
  | one (c : Value) (ts : Addr → Value → Option Addr → TS)
  | as (i : Nat) (c : Value) (ts : Addr → Value → Option Addr → TS)
  | tup (cs : List Value) (ts : Addr → Value → Option Addr → TS)
/-- where a clause with a name ends, its name is gone -/
def goneD (i : Nat) (D : Ends) : Ends := { nx := fun σ H => D.nx (σ.set i none) H, rt := D.rt, bk := fun σ H => D.bk (σ.set i none) H, ct := fun σ H => D.ct (σ.set i none) H }
def wAny (K : PySem.W.Frag) (Wout : WX) (D : Ends) : List Cl → WX
  | [] => Wout
  | .one c ts :: r => fun cls d σ H => ∃ b, PySem.W.exmOne K cls c = some b ∧ (b = true → ∀ a, H a = none → ts a cls d D σ H) ∧ (b = false → wAny K Wout D r cls d σ H)
  | .as i c ts :: r => fun cls d σ H => ∃ b, PySem.W.exmOne K cls c = some b ∧ (b = true → ∀ a, H a = none → ts a cls d (goneD i D) (σ.set i (some (.ref a))) H) ∧ (b = false → wAny K Wout D r cls d σ H)
  | .tup cs ts :: r => fun cls d σ H => ∃ b, PySem.W.exmAny K cls cs = some b ∧ (b = true → ∀ a, H a = none → ts a cls d D σ H) ∧ (b = false → wAny K Wout D r cls d σ H)
def nmE (l : List (Str × Pos × Value)) : List Expr := l.map fun p => .Name p.1 p.2.1
def SuiteOk (X : Cx) (body : List Stmt) (ts : Addr → Value → Option Addr → TS) : Prop :=
  ∀ (a : Addr) (oe : Obj) (cls : Value) (d : Option Addr) (pn : List (Addr × Obj)), Zc cls d oe → (∃ vs, oe.data = .fields vs) → PSs (X.suite a ((a, oe) :: pn)) body (ts a cls d)
inductive ClsOk (X : Cx) : List ExceptHandler → List Cl → Prop
  | nil : ClsOk X [] []
  | one {x : Str} {c : Value} {ts : Addr → Value → Option Addr → TS} {b₀ : Stmt} {suite : List Stmt} {np p : Pos} {hds : List ExceptHandler} {l : List Cl} (hc : Names X x c) (hs : SuiteOk X (b₀ :: suite) ts) (r : ClsOk X hds l) :
      ClsOk X (.ExceptHandler (some (.Name x np)) none (b₀ :: suite) p :: hds) (.one c ts :: l)
  | as {x n : Str} {i : Nat} {c : Value} {ts : Addr → Value → Option Addr → TS} {b₀ : Stmt} {suite : List Stmt} {np p : Pos} {hds : List ExceptHandler} {l : List Cl} (hN : X.N.Nodup) (hi : X.N[i]? = some n) (hl : X.env.kindOf n = some .local)
      (hc : Names X x c) (hs : SuiteOk X (b₀ :: suite) ts) (r : ClsOk X hds l) : ClsOk X (.ExceptHandler (some (.Name x np)) (some n) (b₀ :: suite) p :: hds) (.as i c ts :: l)
  | tup {cs : List (Str × Pos × Value)} {x1 : Nat} {ts : Addr → Value → Option Addr → TS} {b₀ : Stmt} {suite : List Stmt} {np p : Pos} {hds : List ExceptHandler} {l : List Cl} (hc : ∀ q ∈ cs, Names X q.1 q.2.2) (ha : PySem.W.TupAsks X.K (cs.map (·.2.2)))
      (hz : cs.length ≤ 100) (hs : SuiteOk X (b₀ :: suite) ts) (r : ClsOk X hds l) : ClsOk X (.ExceptHandler (some (.Tuple (nmE cs) x1 np)) none (b₀ :: suite) p :: hds) (.tup (cs.map (·.2.2)) ts :: l)
end L2
namespace L2
open PySem PySem.Spec PyProof.Rows
theorem flying_keep {base : Heap} {l : List Env} {e : Addr} {Z : Obj → Prop} {h h' : Heap} (x : HandSPX.FlyingZ base l e Z h) (k : ∀ b o, h.get? b = some o → h'.get? b = some o) : HandSPX.FlyingZ base l e Z h' := by
  obtain ⟨f1, f2, f3, oe, vs, T, oT, ts, a1, a2, a3, a4, a5, a6, a7, a8, a9⟩ := x
  exact ⟨fun b o q => k b o (f1 b o q), f2, f3.of_keeps fun b o q _ => ⟨o, k b o q, rfl⟩, oe, vs, T, oT, ts, k _ _ a1, a2, a3, a4, a5, a6, k _ _ a7, a8, a9⟩
section
variable {X : Cx} {body : List Stmt} {h₀ : ExceptHandler} {hds : List ExceptHandler} {l : List Cl} {pos : Pos} {tb : WX → TS} {Wout : WX}
theorem each_names {M : Model} {A : Around} {env : Env} {s : Shared} {E : Value → Shared → Prop} {p : Pos} : ∀ {cs : List (Str × Pos × Value)} {Q : List Value → Shared → Prop},
    (∀ q ∈ cs, ∀ {Q : Value → Shared → Prop} {E : Value → Shared → Prop}, Q q.2.2 s → wpAny M A (eval (.Name q.1 q.2.1) env) Q E s) → Q (cs.map (·.2.2)) s → wpAny M A (spliced (backTo p (starEach (nmE cs) env))) Q E s
  | [], Q, _, h => Calls.spliced_nil h
  | q :: cs, Q, t, h => by
    show wpAny _ _ (spliced ((false, eval (.Name q.1 q.2.1) env) :: backTo p (starEach (nmE cs) env))) _ _ _
    refine Calls.spliced_cons (t q List.mem_cons_self ?_)
    exact each_names (fun r hr => t r (List.mem_cons_of_mem _ hr)) h
theorem ps_try_any (hs : X.stack = X.env :: X.outer) (hf : X.env.frame = some X.env.locals) (tk : Takes X Wout)
    (hb : ∀ (W : WX) (pn : List (Addr × Obj)) (xe : Value → Shared → Prop), Takes (X.tr pn xe) W → PassesOwn (model X.prog X.w) X.A X.env xe → PSs (X.tr pn xe) body (tb W))
    (hh : ClsOk X (h₀ :: hds) l) : PS X (.Try body (h₀ :: hds) [] [] pos) (fun D σ H => tb (wAny X.K Wout D l) D σ H) := by
  refine ⟨fun pins s σ H D I h => ?_⟩
  have ok := I.ok
  have hfr : X.A.frames = some (X.env :: X.outer) := by rw [ok.frames, hs]
  refine wpAny_Try_except ?_
  refine wpAny_mono ((hb (wAny X.K Wout D l) (X.pn ++ pins)
    (fun e s₁ => wpAny (model X.prog X.w) X.A (noteFrame e X.env) (fun _ s₂ => wpAny (model X.prog X.w) X.A (setFlight e none) (fun _ s₃ => wpAny (model X.prog X.w) X.A (handleBy e X.env (h₀ :: hds)) (SP X pins D) X.xe s₃) X.xe s₂) X.xe s₁)
    (fun u s' xx => ?_) PassesOwn.looking).run [] s σ H D (I.toTry _) h) (fun f s1 hsp => ?_) (fun e s1 he => he)
  · obtain ⟨a, B, sI, pins', σ', H', cls, d, rfl, J', nb, up, sky, na, os, ag, w⟩ := xx
    have J : Inv X pins σ' H' sI := J'.ofTry ok
    have sky' : Sky B (X.env :: X.outer) a (Zc cls d) X.env.locals s'.heap := by
      rw [← hs]
      exact sky
    show wpAny (model X.prog X.w) X.A (noteFrame (.ref a) X.env) _ _ _
    refine Sky.land Zc.steady hfr hf sky' fun h3 fl3 up3 => ?_
    have go : ∀ {hds' : List ExceptHandler} {l' : List Cl}, ClsOk X hds' l' → ∀ {h3 : Heap}, HandSPX.FlyingZ B (X.env :: X.outer) a (Zc cls d) h3 → sI.heap.UpToSlots h3 → wAny X.K Wout D l' cls d σ' H' →
        wpAny (model X.prog X.w) X.A (handleBy (.ref a) X.env hds') (SP X pins D) X.xe { s' with heap := h3 } := by
      intro hds' l' hk
      have nfr : ∀ {h3 : Heap}, HandSPX.FlyingZ B (X.env :: X.outer) a (Zc cls d) h3 → a ∉ frs (X.env :: X.outer) := fun {h3} fl hm => by
        obtain ⟨oe, vs, e1, _, e3⟩ := fl.there
        obtain ⟨_, o', e', hnf⟩ := fl.2.2.1.mem hm
        rw [e1] at e'
        cases e'
        exact hnf _ e3
      have nL : ∀ {h3 : Heap}, HandSPX.FlyingZ B (X.env :: X.outer) a (Zc cls d) h3 → a ≠ X.env.locals := fun {h3} fl z => nfr fl (List.mem_filterMap.mpr ⟨X.env, List.mem_cons_self, by rw [hf, z]⟩)
      have nF : ∀ {h3 : Heap}, HandSPX.FlyingZ B (X.env :: X.outer) a (Zc cls d) h3 → a ∉ X.fs := fun {h3} fl hm => by
        obtain ⟨e, he, q⟩ := List.mem_filterMap.mp hm
        exact nfr fl (List.mem_filterMap.mpr ⟨e, List.mem_cons_of_mem _ he, q⟩)
      have land : ∀ {h3 : Heap}, HandSPX.FlyingZ B (X.env :: X.outer) a (Zc cls d) h3 → sI.heap.UpToSlots h3 → Inv X pins σ' H' { s' with heap := h3 } := fun {h3} fl u => J.landed nb fl.1 u os ag
      have test : ∀ {h3 : Heap}, HandSPX.FlyingZ B (X.env :: X.outer) a (Zc cls d) h3 → sI.heap.UpToSlots h3 → ∀ {x : Str} {np : Pos} {c : Value}, Names X x c → ∀ {Q : Value → Shared → Prop} {E : Value → Shared → Prop}, Q c { s' with heap := h3 } →
          wpAny (model X.prog X.w) (X.A.mark (some (.ref a))) (eval (.Name x np) X.env) Q E { s' with heap := h3 } := fun {h3} fl u {x np c} hc {Q E} q => by
        obtain ⟨oe3, vs3, he3, hz3, hd3⟩ := fl.there
        have S3 := (land fl u).suite he3 hd3 na (nL fl) (nF fl)
        obtain ⟨hg, hdbg, hm | ⟨hm, hv, hnn⟩⟩ := hc
        · exact ld_glob (X := X.suite a ((a, oe3) :: (X.pn ++ pins))) S3 hg hm q hdbg
        · exact ld_blt (X := X.suite a ((a, oe3) :: (X.pn ++ pins))) S3 hg hm hv q hnn hdbg
      have typ : ∀ {h3 : Heap}, HandSPX.FlyingZ B (X.env :: X.outer) a (Zc cls d) h3 → PySem.W.Looks (model X.prog X.w) h3 (typeOf (.ref a)) cls := fun {h3} fl => by
        obtain ⟨oe3, vs3, he3, hz3, _⟩ := fl.there
        exact fun A Q E s k q => wpAny_typeOf_ref (k _ _ he3) (by rw [hz3.1]; exact q)
      -- a suite without a name
      have plain : ∀ {h3 : Heap}, HandSPX.FlyingZ B (X.env :: X.outer) a (Zc cls d) h3 → sI.heap.UpToSlots h3 → ∀ {b₀ : Stmt} {suite : List Stmt} {ts : Addr → Value → Option Addr → TS}, SuiteOk X (b₀ :: suite) ts → ts a cls d D σ' H' →
          ∀ {R : Flow → Shared → Prop} {E : Value → Shared → Prop}, (∀ f s6, SP X pins D f s6 → R f s6) → wpAny (model X.prog X.w) (X.A.mark (some (.ref a))) (setFlight (.ref a) none) (fun _ s4 => wpAny (model X.prog X.w) (X.A.mark (some (.ref a))) (execs (b₀ :: suite) X.env) R E s4) E { s' with heap := h3 } := fun {h3} fl u {b₀ suite ts} hsu q {R E} hR => by
        refine HandSPX.lands_againZ fl fun h4 fl4 up4 => ?_
        have J4 := land fl4 (u.trans up4)
        obtain ⟨oe4, vs4, he4, hz4, hd4⟩ := fl4.there
        have S4 := J4.suite he4 hd4 na (nL fl4) (nF fl4)
        refine wpAny_mono ((hsu a oe4 cls d (X.pn ++ pins) hz4 ⟨_, hd4⟩).run [] _ _ H' _ S4 q) (fun f s6 hsp => hR f s6 ?_) (fun _ _ z => False.elim z)
        cases f with
        | next =>
          obtain ⟨σ6, H6, S6, q6⟩ := hsp
          exact ⟨_, _, S6.unsuite ok, q6⟩
        | brk =>
          obtain ⟨σ6, H6, S6, q6⟩ := hsp
          exact ⟨_, _, S6.unsuite ok, q6⟩
        | cont =>
          obtain ⟨σ6, H6, S6, q6⟩ := hsp
          exact ⟨_, _, S6.unsuite ok, q6⟩
        | ret u =>
          obtain ⟨v6, σ6, H6, S6, r6, q6⟩ := hsp
          exact ⟨_, _, _, S6.unsuite ok, r6, q6⟩
      induction hk with
      | nil =>
        intro h3 fl3 u w
        refine wpAny_handleBy_nil ?_
        obtain ⟨k1, k2, k3, oe, vs, T, oT, ts', he, hz, hd, h1, hr⟩ := id fl3
        unfold PySem.passOn
        refine wpAny_bind (wpAny_field he hd h1 ?_)
        rw [if_neg (show ¬ ((Value.ref T == Value.none) = true) from by simp)]
        have fin : wpAny (model X.prog X.w) X.A (setFlight (.ref a) X.env.frame) (fun _ s4 => wpAny (model X.prog X.w) X.A (throw (.ref a) : Sem Flow) (SP X pins D) X.xe s4) X.xe { s' with heap := h3 } := by
          rw [hf]
          refine HandSPX.setFlight_upZ fl3 fun h4 hh4 up4 => wpAny_throw (tk _ _ ?_)
          exact ⟨a, B, sI, pins, σ', H', cls, d, rfl, J, nb, u.trans up4, .inr (.inr (by rw [hs]; exact hh4)), na, os, ag, w⟩
        first
          | exact wpAny_bind (wpAny_pure (wpAny_bind fin))
          | exact wpAny_bind fin
      | @one x c ts b₀ suite np p hds2 l2 hc hsu r ih =>
        intro h3 fl3 u w
        obtain ⟨b, hb1, hyes, hno⟩ := w
        refine wpAny_handleBy_cons (codeAny_handlers_test ?_) (by intro q; cases q)
        have LM := PySem.W.exm_one (M := model X.prog X.w) (land fl3 u).kIn (typ fl3) hb1
        refine test fl3 u hc (LM.here ?_)
        cases b with
        | true => exact codeAny_handlers_suite (plain fl3 u hsu (hyes rfl a na) fun f s6 q => q)
        | false => exact ih fl3 u (hno rfl)
      | @tup cs x1 ts b₀ suite np p hds2 l2 hc ha hz hsu r ih =>
        intro h3 fl3 u w
        obtain ⟨b, hb1, hyes, hno⟩ := w
        refine wpAny_handleBy_cons (codeAny_handlers_test ?_) (by intro q; cases q)
        refine wpAny_Tuple_spliced (each_names (fun q hq {_ _} z => test fl3 u (hc q hq) z) ⟨?_, ?_⟩)
        · rw [List.length_map, sizeLine_eq]
          omega
        · have k4 : ∀ b o, h3.get? b = some o → (h3.push { cls := .type "tuple", data := .seq (cs.map (·.2.2)).toArray }).get? b = some o := fun b o e => Heap.get?_push_of_some _ e
          have fl4 := flying_keep fl3 k4
          have u4 : sI.heap.UpToSlots (h3.push { cls := .type "tuple", data := .seq (cs.map (·.2.2)).toArray }) := u.trans fun b o e _ => ⟨o.slots, k4 b o e⟩
          have LM := ha (M := model X.prog X.w) (land fl4 u4).kIn (typ fl4) (Heap.get?_push_at rfl rfl) hb1
          refine LM.here ?_
          cases b with
          | true => exact codeAny_handlers_suite (plain fl4 u4 hsu (hyes rfl a na) fun f s6 q => q)
          | false => exact ih fl4 u4 (hno rfl)
      | @as x n i c ts b₀ suite np p hds2 l2 hN hi hln hc hsu r ih =>
        intro h3 fl3 u w
        obtain ⟨b, hb1, hyes, hno⟩ := w
        refine wpAny_handleBy_cons (codeAny_handlers_test ?_) (by intro q; cases q)
        have LM := PySem.W.exm_one (M := model X.prog X.w) (land fl3 u).kIn (typ fl3) hb1
        refine test fl3 u hc (LM.here ?_)
        cases b with
        | true =>
          refine codeAny_handlers_suite_as ?_
          refine HandSPX.lands_againZ fl3 fun h4 fl4 up4 => ?_
          have J4 := land fl4 (u.trans up4)
          obtain ⟨oe4, vs4, he4, hz4, hd4⟩ := fl4.there
          have S4 := J4.suite he4 hd4 na (nL fl4) (nF fl4)
          refine store_ok (X := X.suite a ((a, oe4) :: (X.pn ++ pins))) (v := .ref a) S4 hN hi (.inl hln) rfl (fun s5 S5 => ?_) (.inr hln)
          refine wpAny_mono ((hsu a oe4 cls d (X.pn ++ pins) hz4 ⟨_, hd4⟩).run [] s5 _ H' _ S5 (hyes rfl a na)) (fun f s6 hsp => ?_) (fun _ _ z => False.elim z)
          have fin : ∀ {σ6 : St} {H6 : Hp} {Q : Shared → Prop}, Inv (X.suite a ((a, oe4) :: (X.pn ++ pins))) [] σ6 H6 s6 → (∀ s7, Inv X pins (σ6.set i none) H6 s7 → Q s7) →
              wpAny (model X.prog X.w) X.A (do bindName X.env n .none; unbindBehindTheSuite X.env n p) (fun _ s7 => Q s7) X.xe s6 := fun {σ6 H6 Q} S6 hq => gone_ok (S6.unsuite ok) hN hi hln hq
          cases f with
          | next =>
            obtain ⟨σ6, H6, S6, q6⟩ := hsp
            exact fin S6 fun s7 J7 => ⟨_, _, J7, q6⟩
          | brk =>
            obtain ⟨σ6, H6, S6, q6⟩ := hsp
            exact fin S6 fun s7 J7 => ⟨_, _, J7, q6⟩
          | cont =>
            obtain ⟨σ6, H6, S6, q6⟩ := hsp
            exact fin S6 fun s7 J7 => ⟨_, _, J7, q6⟩
          | ret u =>
            obtain ⟨v6, σ6, H6, S6, r6, q6⟩ := hsp
            exact fin S6 fun s7 J7 => ⟨_, _, _, J7, r6, q6⟩
        | false => exact ih fl3 u (hno rfl)
    exact go hh fl3 (up.trans up3) w
  · cases f with
    | next =>
      obtain ⟨σ', H', J', q⟩ := hsp
      exact wpAny_execs_nil ⟨σ', H', J'.ofTry ok, q⟩
    | brk =>
      obtain ⟨σ', H', J', q⟩ := hsp
      exact ⟨σ', H', J'.ofTry ok, q⟩
    | cont =>
      obtain ⟨σ', H', J', q⟩ := hsp
      exact ⟨σ', H', J'.ofTry ok, q⟩
    | ret u =>
      obtain ⟨v, σ', H', J', r, q⟩ := hsp
      exact ⟨v, σ', H', J'.ofTry ok, r, q⟩
end
end L2

set_option Elab.async false
set_option linter.all false
set_option maxRecDepth 100000
set_option maxHeartbeats 8000000
/-! # repr of data, where no repr is under way: defs that are promised only there -/
namespace L2
open PySem PySem.Spec PyProof.Rows
mutual
/-- v shows the data d -/
inductive Sh (K : PySem.W.Frag) (H : Hp) : V → PyData → Prop
  | non : Sh K H .non .none
  | bl (b : Bool) : Sh K H (.bl b) (.bool b)
  | int (i : Int) : Sh K H (.int i) (.int i)
  | str (x : Str) : Sh K H (.str x) (.str x)
  | lst {a : Addr} {xs : List V} {ds : List PyData} (h : SqL K H a xs) (n : a ≠ sysModules) (r : ShAll K H xs ds) : Sh K H (.ref a) (.list ds)
  | tup {a : Addr} {xs : List V} {ds : List PyData} (h : SqT K H a xs) (r : ShAll K H xs ds) : Sh K H (.ref a) (.tuple ds)
  | dE {a : Addr} (h : H a = some (.dK [])) : Sh K H (.ref a) (.dict [])
  | dO {a : Addr} {x : Str} {i : Int} (h : H a = some (.dK [(.inr x, .int i)])) : Sh K H (.ref a) (.dict [(.str x, .int i)])
inductive ShAll (K : PySem.W.Frag) (H : Hp) : List V → List PyData → Prop
  | nil : ShAll K H [] []
  | cons {v : V} {vs : List V} {d : PyData} {ds : List PyData} (h : Sh K H v d) (r : ShAll K H vs ds) : ShAll K H (v :: vs) (d :: ds)
end
section
variable {X : Cx} {pins : List (Addr × Obj)} {σ : St} {H : Hp} {s : Shared}
mutual
theorem Sh.reads (I : Inv X pins σ H s) : ∀ (d : PyData) (v : V) (u : Value), Sh X.K H v d → RelV v u → ∃ as, Reads s.heap u d as ∧ sysModules ∉ as
  | .none, _, _, h, r => by
    cases h
    cases r
    exact ⟨_, Reads.none, by simp⟩
  | .bool b, _, _, h, r => by
    cases h
    cases r
    exact ⟨_, Reads.bool b, by simp⟩
  | .int i, _, _, h, r => by
    cases h
    obtain ⟨t, rfl⟩ := r
    exact ⟨_, Reads.int i t, by simp⟩
  | .str x, _, _, h, r => by
    cases h
    obtain ⟨t, rfl⟩ := r
    exact ⟨_, Reads.str x t, by simp⟩
  | .list ds, _, _, h, r => by
    cases h with
    | lst hs n ha =>
      cases r
      obtain ⟨its, rv, ⟨o, m, ho, hc, _, hd⟩, _⟩ := I.list hs
      obtain ⟨as, hr, z⟩ := Sh.readsAll I ds _ its ha rv
      refine ⟨_, Reads.list ho hc hd hr, fun q => ?_⟩
      rcases List.mem_cons.mp q with q | q
      · exact n q.symm
      · exact z q
  | .tuple ds, _, _, h, r => by
    cases h with
    | tup hs ha =>
      cases r
      obtain ⟨its, rv, ⟨o, ho, hc, n, hd⟩, _⟩ := I.tuple hs
      obtain ⟨as, hr, z⟩ := Sh.readsAll I ds _ its ha rv
      exact ⟨_, Reads.tuple ho hc hd hr, z⟩
  | .dict kvs, _, _, h, r => by
    cases h with
    | dE h =>
      cases r
      obtain ⟨_, hm, vs, rel, o, es, ep, ho, hx, hd, _, he, _⟩ := dk_of I.hok h
      cases rel
      have e0 : es.toList = [] := by
        cases q : es.toList with
        | nil => rfl
        | cons a l =>
          rw [q] at he
          cases he
      refine ⟨_, Reads.dict ho hx.1 hd (as := []) (bs := []) ?_ ?_, ?_⟩
      · rw [e0]
        exact ReadsAll.nil
      · rw [e0]
        exact ReadsAll.nil
      · intro q
        rcases List.mem_cons.mp q with z | z
        · rw [← z] at hm
          simp at hm
        · cases z
    | dO h =>
      cases r
      obtain ⟨_, hm, vs, rel, o, es, ep, ho, hx, hd, _, he, _⟩ := dk_of I.hok h
      cases rel with
      | cons r1 r2 =>
        cases r2
        obtain ⟨rk, rv⟩ := r1
        cases q : es.toList with
        | nil =>
          rw [q] at he
          cases he
        | cons a l =>
          rw [q] at he
          cases he with
          | cons k1 k2 k3 =>
            cases k3
            obtain ⟨i, hi⟩ := rv
            rw [← rk] at k1
            have k1 : keyIs (Sum.inr _) a.key = true := k1
            rcases keyIs_shape k1 with ⟨_, _, e, _⟩ | ⟨x', t', e, e2⟩
            · cases e
            · cases e
              refine ⟨_, Reads.dict ho hx.1 hd (as := []) (bs := []) ?_ ?_, ?_⟩
              · rw [q]
                show ReadsAll s.heap [a.key] [PyData.str _] _
                rw [e2]
                exact ReadsAll.cons (Reads.str _ _) ReadsAll.nil
              · rw [q]
                show ReadsAll s.heap [a.val] [PyData.int _] _
                rw [k2, hi]
                exact ReadsAll.cons (Reads.int _ _) ReadsAll.nil
              · intro q
                rcases List.mem_cons.mp q with z | z
                · rw [← z] at hm
                  simp at hm
                · cases z
theorem Sh.readsAll (I : Inv X pins σ H s) : ∀ (ds : List PyData) (vs : List V) (us : List Value), ShAll X.K H vs ds → Vals vs us → ∃ as, ReadsAll s.heap us ds as ∧ sysModules ∉ as
  | [], _, _, h, r => by
    cases h
    cases r
    exact ⟨_, ReadsAll.nil, by simp⟩
  | d :: ds, _, _, h, r => by
    cases h with
    | cons h1 h2 =>
      cases r with
      | cons r1 r2 =>
        obtain ⟨as, q1, z1⟩ := Sh.reads I d _ _ h1 r1
        obtain ⟨bs, q2, z2⟩ := Sh.readsAll I ds _ _ h2 r2
        exact ⟨_, ReadsAll.cons q1 q2, fun q => (List.mem_append.mp q).elim z1 z2⟩
end
/-- repr(x), no repr being under way -/
def rRepr (K : PySem.W.Frag) : List V → Hp → VK → Prop := fun xs H Q => ∃ (x : V) (d : PyData), xs = [x] ∧ Sh K H x d ∧ d.showable = true ∧ d.shown.length ≤ sizeLine ∧ d.depth ≤ 40 ∧ Q (.str d.shown) H
theorem call_repr (hg : X.A.guards = some []) (hu : X.A.units + 64 < cLine) : CallR X (.builtin "repr") (rRepr X.K) := by
  intro pins s σ H xs us Q I r h
  obtain ⟨x, d, rfl, hs, h1, h2, h3, q⟩ := h
  obtain ⟨u, rfl, r1⟩ := vals1 r
  obtain ⟨as, hr, hn⟩ := Sh.reads I d x u hs r1
  cases hr with
  | none => exact PySem.P.repr_of_none ⟨.str _, H, I.tok _, ⟨_, rfl⟩, q⟩
  | bool b => exact PySem.P.repr_of_bool ⟨.str _, H, I.tok _, ⟨_, rfl⟩, q⟩
  | int i t => exact PySem.P.repr_of_int (of_decide_eq_true h1) ⟨.str _, H, I.tok _, ⟨_, rfl⟩, q⟩
  | str y t => exact PySem.P.repr_of_str ⟨.str _, H, I.tok _, ⟨_, rfl⟩, q⟩ h2
  | list a1 a2 a3 a4 => exact repr_of_reads' (h₀ := s.heap) (.list a1 a2 a3 a4) h1 (fun _ => hn) hg (by omega) (fun _ _ e => e) (fun h' u tk k => ⟨.str _, H, I.kept (t' := tk) k, ⟨_, rfl⟩, q⟩) h2
  | tuple a1 a2 a3 a4 => exact repr_of_reads' (h₀ := s.heap) (.tuple a1 a2 a3 a4) h1 (fun _ => hn) hg (by omega) (fun _ _ e => e) (fun h' u tk k => ⟨.str _, H, I.kept (t' := tk) k, ⟨_, rfl⟩, q⟩) h2
  | dict a1 a2 a3 a4 a5 => exact repr_of_reads' (h₀ := s.heap) (.dict a1 a2 a3 a4 a5) h1 (fun _ => hn) hg (by omega) (fun _ _ e => e) (fun h' u tk k => ⟨.str _, H, I.kept (t' := tk) k, ⟨_, rfl⟩, q⟩) h2
/-- a list's display: the new list stands elsewhere than the table of modules -/
def tLstN (t : TA) : TE := fun σ H Q => t σ H fun xs H1 => xs.length ≤ sizeLine ∧ ∀ p, H1 p = none → p ≠ sysModules → Q (.ref p) (upd H1 p (.lst xs))
theorem pe_lstN {es : List Expr} {t : TA} {pos : Pos} (h : PA X es t) : PE X (.List es pos) (tLstN t) := by
  refine ⟨fun pins s σ H Q I hq => ?_⟩
  refine wpAny_List_spliced (thn (h.run pos pins s σ H _ I hq) fun us s1 hh => ?_)
  obtain ⟨xs, H1, I1, r, z, q⟩ := hh
  refine ⟨by rw [← r.length]; exact z, ?_⟩
  have hf : H1 s1.heap.objs.size = none := I1.hok.fresh (Nat.le_refl _)
  have nw : ObjOk X.prog X.w (upd H1 s1.heap.objs.size (.lst xs)) (s1.heap.push { cls := .type "list", data := .seq us.toArray }) s1.heap.objs.size (.lst xs) := ⟨z, us, 0, r, Heap.get?_push_size _ rfl⟩
  exact ⟨.ref s1.heap.objs.size, upd H1 s1.heap.objs.size (.lst xs), I1.laid (t' := s1.toks) (fun b u e => Heap.get?_push_of_some _ e) (Nat.le_refl _) nw, rfl, q _ hf (Nat.ne_of_gt I1.big)⟩
def rRepN : R2 := fun x y H Q => ∃ l k xs, x = .ref l ∧ y = .int k ∧ H l = some (.lst xs) ∧ -(2 ^ 63) ≤ k ∧ k < 2 ^ 63 ∧ xs.length * k.toNat ≤ sizeLine ∧
  ∀ p, H p = none → p ≠ sysModules → Q (.ref p) (upd H p (.lst (List.replicate k.toNat xs).flatten))
theorem op_repN : OpR X (binaryOp .Mult) rRepN := by
  intro pins s σ H x y v u Q I rx ry h
  obtain ⟨l, k, xs, rfl, rfl, hH, h1, h2, hz, q⟩ := h
  cases rx
  obtain ⟨t, rfl⟩ := ry
  obtain ⟨z, its, n, r, hl, e⟩ := I.lstM hH
  have hlen : its.toArray.size * k.toNat ≤ sizeLine := by
    rw [List.size_toArray, ← hl]
    exact hz
  have line : (sizeLine : Nat) ≤ (2 ^ 63 - 1) / 8 := by decide
  have hcap : ¬ its.toArray.size * k.toNat > (2 ^ 63 - 1) / 8 := by omega
  have hfit : ¬ (!Builtin.List.listFitsIndex k) = true := by
    rw [fitsIndex_both h1 h2]
    exact Bool.false_ne_true
  have hlong : ¬ Builtin.List.listTooLong (its.toArray.size * k.toNat) = true := by
    rw [notLongL hlen]
    exact Bool.false_ne_true
  have f0 : ∀ m : Nat, List.foldl (fun x1 x2 => x1 ++ x2) #[] (List.replicate m its.toArray) = (List.replicate m its).flatten.toArray := fun m => by
    have e := foldl_rep its m []
    rw [List.nil_append] at e
    exact e
  have hnew : List.foldl (fun x1 x2 => x1 ++ x2) #[] (List.replicate (if its.toArray.isEmpty = true then 0 else k.toNat) its.toArray) = (List.replicate k.toNat its).flatten.toArray := by
    rw [f0]
    cases its with
    | nil => simp
    | cons a r' => rw [if_neg (by simp)]
  refine wpAny_binaryOp_repeat_ref (T := "list") (U := "int") (by decide) ⟨_, e, rfl⟩ (fun s' => typeIs_int s' k t) noFill_list_mul F.fills_int_mul F.slot_int_rmul repeat_list F.slot_int_index.lookup
    (call_meets F.slot_int_rmul (typeIs_int s k t) F.entry_int_rmul (F.args_int_rmul_2 _ _) (int___rmul___int_list k t l its.toArray n) ⟨e, rfl, ⟨_, e, rfl⟩, ?_⟩)
  refine call_meets F.slot_list_mul ⟨_, e, rfl⟩ F.entry_list_mul (F.args_list_mul_2 _ _) (AutoListH.list___mul___list_int_3 l its.toArray n k t hfit hcap hlong) ⟨e, ?_⟩
  rw [hnew]
  have hz2 : (List.replicate k.toNat xs).flatten.length ≤ sizeLine := by
    rw [PyProof.Rows.lm_len_rep_flat, Nat.mul_comm]
    exact hz
  exact ⟨.ref _, _, I.lnew (t' := s.toks) (r.rep k.toNat) hz2, rfl, q _ I.fresh (Nat.ne_of_gt I.big)⟩
end
mutual
theorem Sh.same {K : PySem.W.Frag} {H H' : Hp} (hs : Same H H') : ∀ (d : PyData) (v : V), Sh K H v d → Sh K H' v d
  | .none, _, h => by
    cases h
    exact .non
  | .bool b, _, h => by
    cases h
    exact .bl b
  | .int i, _, h => by
    cases h
    exact .int i
  | .str x, _, h => by
    cases h
    exact .str x
  | .list ds, _, h => by
    cases h with
    | lst h n r => exact .lst (hs.seq h) n (Sh.sameAll hs ds _ r)
  | .tuple ds, _, h => by
    cases h with
    | tup h r =>
      refine .tup ?_ (Sh.sameAll hs ds _ r)
      rcases h with (h | ⟨o, h⟩) | h
      · exact .inl (.inl (hs _ _ h))
      · exact .inl (.inr ⟨o, hs _ _ h⟩)
      · exact .inr h
  | .dict kvs, _, h => by
    cases h with
    | dE h => exact .dE (hs _ _ h)
    | dO h => exact .dO (hs _ _ h)
theorem Sh.sameAll {K : PySem.W.Frag} {H H' : Hp} (hs : Same H H') : ∀ (ds : List PyData) (vs : List V), ShAll K H vs ds → ShAll K H' vs ds
  | [], _, h => by
    cases h
    exact .nil
  | d :: ds, _, h => by
    cases h with
    | cons h r => exact .cons (Sh.same hs d _ h) (Sh.sameAll hs ds _ r)
end
/-! ### defs that are promised only where no repr is under way -/
structure FnG (P : Program) (w : World) (K : PySem.W.Frag) (mg : Str → Option Value) (base : Heap) (CX : CXT) (k : Nat) (f : Addr) (fd : FuncData) (ps : List Str) (sp : Sp) : Prop where
  len : ∀ vs H Q E, sp vs H Q E → vs.length = ps.length
  run : ∀ (A : Around) (outer : List Env) (s : Shared) (H : Hp) (args : Args) (us : List Value) (vs : List V) (Q : VK) (E : XK), A.guards = some [] → Room k A → Env0 P w K mg base A outer s H →
    BindsTo s fd args (ps.zip us) → Vals vs us → sp vs H Q E → codeAny (model P w) A (.call (.ref f) args) (CR CX outer P w H s Q E) s
section
variable {P : Program} {w : World} {K : PySem.W.Frag} {mg : Str → Option Value} {base : Heap}
theorem Fun.okG {x qual : Str} {st : Stmt} {f : Addr} {fd : FuncData} {N ps : List Str} {k : Nat} {sp : Sp} (F : Fun K x qual st f fd) (S : FnScope N ps (defScope st)) (len : ∀ vs H Q E, sp vs H Q E → vs.length = ps.length)
    (hbody : ∀ (cdv : Value) (A : Around) (outer : List Env) (s : Shared) (H : Hp) (vs : List V) (Q : VK) (E : XK), (A.deeper (PyProof.Rows.envOfC qual (defScope st) s.heap.objs.size f cdv)).guards = some [] →
      Room k (A.deeper (PyProof.Rows.envOfC qual (defScope st) s.heap.objs.size f cdv)) → sp vs H Q E →
      ∃ t, PSs (cxOf CX0 P w K mg base N qual (defScope st) f cdv A outer s H E).nox (defBody st) t ∧ t { nx := fun _ H' => Q .non H', rt := Q } (start N vs) H) : FnG P w K mg base CX0 (k + 1) f fd ps sp := by
  obtain ⟨oc, od, kV, doc, pm, an, cdv, ct, osl, rfl, lk, hcd⟩ := F.ex
  refine ⟨len, fun A outer s H args us vs Q E hg hr e0 hb r hsp => ?_⟩
  have hl := len _ _ _ _ hsp
  have KX : K.In s.heap := e0.mod.kin.keeps fun b o e => (e0.bs b o e).1
  have lim : s.heap.NoLimit := e0.mod.nolimit.keeps fun b o e => (e0.bs b o e).1
  refine codeAny_call_function hr.depth (KX _ _ lk) rfl S.co S.gen rfl (PySem.W.codeRec_of KX hcd) (hb _ _ _ _ ?_)
  refine wpAny_newFunctionEnv_cells S.kind (fun y hy => ?_) fun env he s1 x => ?_
  · obtain ⟨n, v⟩ := y
    rcases S.par n (List.of_mem_zip hy).1 with q | q
    · exact .inl q
    · exact .inr ⟨q, PySem.W.cellsFrom_some _ _ _ (.inl q)⟩
  · subst he
    refine ⟨lim.keeps x.toInCall.keep, codeAny_func ?_⟩
    obtain ⟨t, ht, hq⟩ := hbody cdv A outer s H vs Q E (by first | exact hg | (show A.guards = some []; exact hg)) (hr.deeper _) hsp
    have I : Inv (cxOf CX0 P w K mg base N qual (defScope st) f cdv A outer s H E) [] (start N vs) H s1 := inv_start S hr.hd e0 hl r x
    refine wpAny_mono (ht.nox.run [] s1 (start N vs) H _ I hq) (fun fl s' hs => ?_) fun e s' hs => hs
    cases fl with
    | ret u =>
      obtain ⟨v, σ', H', J, rv, q⟩ := hs
      exact ⟨v, H', J.os, J.bare, J.base, J.hok, rv, q⟩
    | next =>
      obtain ⟨σ', H', J, q⟩ := hs
      exact ⟨V.non, H', J.os, J.bare, J.base, J.hok, rfl, q⟩
    | brk =>
      obtain ⟨_, _, _, q⟩ := hs
      exact False.elim q
    | cont =>
      obtain ⟨_, _, _, q⟩ := hs
      exact False.elim q
end
section
variable {X : Cx} {CX : CXT} {k : Nat} {f : Addr} {fd : FuncData} {ps : List Str} {sp : Sp} {dvs : List V} {ds : List Value} {E : XK} {x : Str} {p pos : Pos} {e : Expr} {es : List Expr} {t : TA}
theorem pe_callG (F : FnG X.prog X.w X.K X.mg X.base CX k f fd ps sp) (hgd : X.A.guards = some []) (hr : Room k X.A) (hg : Gl X x) (hm : X.mg x = some (.ref f)) (hk : PySem.W.keepIn X.K (.ref f) = true) (hb : Binds X.K fd ps ds) (hd : Vals dvs ds) (hx : Passes CX X E)
    (ha : PA X (e :: es) t) (hdb : (x == ("__debug__" : Str)) = false := by decide) (he : starEach (e :: es) X.env = (false, eval e X.env) :: starEach es X.env := by rfl) (hpl : (backTo pos (starEach es X.env)).any (·.1) = false := by rfl) :
    PE X (.Call (.Name x p) (e :: es) [] pos) (tCall sp dvs E t) := by
  refine ⟨fun pins s σ H Q I h => ?_⟩
  refine wpAny_Call_Name_kw (ld_glob I hg hm ?_ hdb)
  refine PySem.W.callWith_K (h₀ := X.base) I.ok.mod.kin hk (thn (ha.run pos pins s σ H _ I h) fun us s1 hh => ?_) he hpl
  obtain ⟨vs, H1, I1, r, q⟩ := hh
  refine ⟨I1.kIn, ?_⟩
  have r2 : Vals (vs ++ dvs) (us ++ ds) := r.append hd
  have hl : (us ++ ds).length = ps.length := by
    rw [← r2.length]
    exact F.len _ _ _ _ q
  refine wpAny_call (codeAny_mono (F.run X.A X.stack s1 H1 ⟨us, []⟩ (us ++ ds) (vs ++ dvs) Q E hgd hr I1.env0 (hb s1 us I1.kIn hl) r2 q) fun r s' hq => ?_)
  cases r with
  | error e => exact hx pins σ H1 s1 e s' I1 hq
  | ok fl =>
    cases fl with
    | ret u => exact I1.after hq
    | next => exact False.elim hq
    | brk => exact False.elim hq
    | cont => exact False.elim hq
end
end L2

set_option Elab.async false
set_option linter.all false
set_option maxRecDepth 100000
set_option maxHeartbeats 8000000
/-! # A law's end, its def promised where no repr is under way -/
namespace L2
open PySem PySem.Spec PyProof.Rows
theorem law_callG {P : Program} {w : World} {K : PySem.W.Frag} {mg mb : Str → Option Value} {CX : CXT} {k : Nat} {fa a : Addr} {fd : FuncData} {x : Str} {sp : Sp} {s₁ : Shared} {vs : List Value} {ns : List Int}
    (KX : K.In s₁.heap) (hns : s₁.heap.Ns mainGlobals mg) (hb : s₁.heap.Ns builtinsNs mb) (hbb : ∀ x : Str, x ≠ "__name__" → mb x = bootBuiltins x) (hlim : s₁.heap.NoLimit) (hg : s₁.gens = #[])
    (ha : s₁.heap.get? a = some { cls := .type "list", data := .seq vs.toArray }) (hi : IntsAre vs ns) (hl : ns.length ≤ sizeLine) (hr : Room k callerA)
    (F : ∀ base : Heap, K.In base → base.Ns mainGlobals mg → FnG P w K mg base CX k fa fd [x] sp) (hbind : ∀ (s : Shared) (u : Value), BindsTo s fd ⟨[u], []⟩ [(x, u)])
    (hsp : ∀ H : Hp, Only H → SqL K H a (ns.map V.int) → sp [.ref a] H (fun v _ => v = .bl true) fun _ _ _ => False) (hCX : ∀ H e s', CX [] H s₁ (fun _ _ _ => False) e s' → False) :
    codeAny (model P w) callerA (.call (.ref fa) ⟨[.ref a], []⟩) (fun r s' => r = .ok (.ret (.bool true)) ∧ OldK s₁.heap s'.heap ∧ s'.os = s₁.os ∧ AllBare s'.gens) s₁ := by
  have rv := vals_ints hi
  have lenV := hi.length
  have core : ∀ H : Hp, Only H → SqL K H a (ns.map V.int) → HOk P w H s₁.heap → (∀ b, H b ≠ none → b = a) → (H a ≠ none → K.lookup a = none) →
      codeAny (model P w) callerA (.call (.ref fa) ⟨[.ref a], []⟩) (fun r s' => r = .ok (.ret (.bool true)) ∧ OldK s₁.heap s'.heap ∧ s'.os = s₁.os ∧ AllBare s'.gens) s₁ := by
    intro H hO hS hok hA hK
    have noA : ∀ {b : Addr} {o : Obj} {es : Array DictEntry} {ep : Nat}, s₁.heap.get? b = some o → o.data = .dict es ep → H b = none := fun {b o es ep} e d => by
      cases q : H b with
      | none => rfl
      | some u =>
        have e' : b = a := hA b (by rw [q]; simp)
        subst e'
        rw [ha] at e
        cases e
        have d' : Data.seq vs.toArray _ = Data.dict es ep := d
        cases d'
    have nsK : ∀ {b : Addr} {m : Str → Option Value}, s₁.heap.Ns b m → (hidT s₁.heap H).Ns b m := fun {b m} ⟨o, es, ep, e, d, r⟩ => ⟨o, es, ep, hidT_get e (noA e d), d, r⟩
    have hKb : K.In (hidT s₁.heap H) := fun b o e => hidT_get (KX b o e) (by
      cases q : H b with
      | none => rfl
      | some u =>
        have e' : b = a := hA b (by rw [q]; simp)
        subst e'
        rw [hK (by rw [q]; simp)] at e
        cases e)
    have hM : Mod K mg (hidT s₁.heap H) := ⟨hKb, nsK hns, ⟨mb, nsK hb, hbb⟩, let ⟨mc, h1, h2⟩ := hlim; ⟨mc, nsK h1, h2⟩⟩
    have e0 : Env0 P w K mg (hidT s₁.heap H) callerA [] s₁ H :=
      ⟨rfl, hM, fun b o e => of_hidT e, Nat.le_of_eq (hidT_size _ _), trivial, fun b hb => absurd (show b ∈ ([] : List Addr) from hb) (by simp), hok, .of_eq hg⟩
    refine codeAny_mono ((F _ hKb (nsK hns)).run callerA [] s₁ H ⟨[.ref a], []⟩ [.ref a] [.ref a] _ _ rfl hr e0 (hbind s₁ (.ref a)) (.cons rfl .nil) (hsp H hO hS)) fun r s' h => ?_
    cases r with
    | error e => exact (hCX H e s' h).elim
    | ok fl =>
      cases fl with
      | next => exact False.elim h
      | brk => exact False.elim h
      | cont => exact False.elim h
      | ret u =>
        obtain ⟨v, H', os, bare, un, hok', r', q⟩ := h
        have q' : v = .bl true := q
        subst q'
        obtain rfl : u = Value.bool true := r'
        refine ⟨rfl, OldK.of_keep fun b o e => ?_, os, bare⟩
        cases q : H b with
        | none => exact un.keep b o e q (by intro z; exact absurd (show b ∈ ([] : List Addr) from z) (by simp)) (by simp)
        | some u =>
          rcases hO b with z | ⟨ob, xs, z⟩
          · rw [q] at z
            cases z
          · have z2 := un.frzs b ob _ z
            obtain ⟨e1, _⟩ := hok b _ z
            obtain ⟨e2, _⟩ := hok' b _ z2
            rw [e] at e1
            cases e1
            exact e2
  cases hk : K.lookup a with
  | some o =>
    have e := KX a o hk
    rw [ha] at e
    cases e
    have z : SqL K (fun _ => none) a (ns.map V.int) := .inr ⟨_, vs.toArray, _, hk, rfl, rfl, rfl, by rw [List.size_toArray, lenV]; exact hl, by simpa using rv⟩
    exact core (fun _ => none) (fun _ => .inl rfl) z (fun b u z => by have z' : (none : Option HO) = some u := z; cases z') (fun b z => absurd rfl z) fun z => absurd rfl z
  | none =>
    have w1 : SqL K (fun b => if b = a then some (.frz { cls := .type "list", data := .seq vs.toArray } (.lst (ns.map V.int))) else none) a (ns.map V.int) :=
      .inl (.inr ⟨{ cls := .type "list", data := .seq vs.toArray }, if_pos rfl⟩)
    refine core _ (fun b => ?_) w1 (fun b u z => ?_) (fun b z => ?_) fun _ => hk
    · by_cases hb : b = a
      · exact .inr ⟨_, _, if_pos hb⟩
      · exact .inl (if_neg hb)
    · by_cases hb : b = a
      · have z' := (if_pos hb).symm.trans z
        cases z'
        subst hb
        exact ⟨ha, by rw [List.length_map]; exact hl, vs, _, rv, ha⟩
      · have z' := (if_neg hb).symm.trans z
        cases z'
    · by_cases hb : b = a
      · exact hb
      · exact absurd (if_neg hb) z
theorem walk_ofG {l : PySem.W.OpenLaw} {n k : Nat} {q : Program} {loose : List Str} {XP : (Str → Option Value) → Heap → Prop} {YP : World → Heap → Prop} {d : DefRec} {K : Params → PySem.W.Frag} {sp : PySem.W.Frag → Sp} {x : Str}
    (hn : l.most = some n) (hn2 : n ≤ sizeLine) (hdf : d.params.defaults = []) (hr : Room k callerA) (hY : ∀ (w : World) (h : Heap), YP w h → (K w.params).In h)
    (F : ∀ (w : World) (mg : Str → Option Value) (fa : Addr) (h : Heap), (K w.params).In h → h.Ns mainGlobals mg → mg d.name = some (.ref fa) →
      ∃ fd : FuncData, (∀ (s : Shared) (u : Value), BindsTo s fd ⟨[u], []⟩ [(x, u)]) ∧ ∀ base : Heap, (K w.params).In base → base.Ns mainGlobals mg → FnG l.prog w (K w.params) mg base CX0 k fa fd [x] (sp (K w.params)))
    (hsp : ∀ (K : PySem.W.Frag) (H : Hp) (a : Addr) (ns : List Int), ns.length ≤ n → Only H → SqL K H a (ns.map V.int) → sp K [.ref a] H (fun v _ => v = .bl true) fun _ _ _ => False) :
    PySem.W.WalkO q loose XP YP l.row.toRowW d [] (fun f vs => PySem.call f vs) := by
  refine Att.attach_call hn hdf fun w s₀ s₁ mg mb fa o pm cd doc a vs ns G Y ho hd hcd hmg hobj hints hlen hg => ?_
  have KX := hY w _ Y
  obtain ⟨fd, hb, hF⟩ := F w mg fa _ KX G.T.g hmg
  exact law_callG KX G.T.g G.T.b G.T.builtins G.T.nolimit hg hobj hints (Nat.le_trans hlen hn2) hr hF hb (fun H hO hS => hsp (K w.params) H a ns hlen hO hS) fun H e s' z => z
end L2

set_option Elab.async false
set_option linter.all false
set_option maxRecDepth 100000
set_option maxHeartbeats 8000000
namespace NV
open PySem L2
/-- text * a number, neither empty -/
def rRepS : R2 := fun x y H Q => ∃ (z : Str) (k : Int), x = .str z ∧ y = .int k ∧ 2 ≤ k ∧ k ≤ 100000 ∧ 0 < z.length ∧ z.length ≤ 100 ∧ ((List.replicate k.toNat z.cps).foldl (· ++ ·) #[]).size ≤ sizeLine ∧
  Q (.str ⟨(List.replicate k.toNat z.cps).foldl (· ++ ·) #[]⟩) H
theorem op_repS {X : Cx} : OpR X (binaryOp .Mult) rRepS := by
  intro pins s σ H x y v u Q I rx ry h
  obtain ⟨z, k, rfl, rfl, h1, h2, h3, h4, h5, q⟩ := h
  obtain ⟨t, rfl⟩ := rx
  obtain ⟨t', rfl⟩ := ry
  have e1 : (k == 1 || z.length == 0) = false := by
    have a : (k == 1) = false := beq_eq_false_iff_ne.mpr (by omega)
    have b : (z.length == 0) = false := beq_eq_false_iff_ne.mpr (by omega)
    rw [a, b]
    rfl
  refine PySem.P.mul_str ?_ (fun _ _ => ?_) (fun _ _ => ?_) ?_
  · have a : ¬ k < -(2 ^ 63 : Int) := by omega
    have b : ¬ k ≥ 2 ^ 63 := by omega
    rw [decide_eq_false a, decide_eq_false b]
    rfl
  · have a : (100 : Int) ≤ (2 ^ 63 - 1) / k := by
      rw [Int.le_ediv_iff_mul_le (by omega)]
      omega
    omega
  · have a : z.length * k.toNat ≤ 100 * 100000 := Nat.mul_le_mul h4 (by omega)
    unfold Builtin.Str.tooLong
    have l : sizeLine = 16777216 := sizeLine_eq
    simp only [decide_eq_false_iff_not]
    omega
  · rw [if_neg (by omega), e1, if_neg Bool.false_ne_true]
    exact ⟨h5, .str _, H, I.tok _, ⟨_, rfl⟩, q⟩
abbrev sValue : Stmt := top 17
theorem scValue : FnScope ["dice", "some"] ["dice"] (defScope sValue) := ⟨rfl, rfl, rfl, by decide +kernel, rfl, by decide +kernel, by decide +kernel⟩
theorem foldl_one (c : Nat) : ∀ (m : Nat) (acc : Array Nat), (List.replicate m #[c]).foldl (· ++ ·) acc = acc ++ (List.replicate m c).toArray
  | 0, acc => by simp
  | m + 1, acc => by
    rw [List.replicate_succ, List.foldl_cons, foldl_one c m (acc ++ #[c]), List.replicate_succ]
    apply Array.toList_inj.mp
    simp
theorem x_cps : ("x" : Str).cps = #[120] := by decide +kernel
theorem xs300 : (⟨(List.replicate (300 : Int).toNat ("x" : Str).cps).foldl (· ++ ·) #[]⟩ : Str) = ⟨(List.replicate 300 120).toArray⟩ := by
  rw [x_cps, foldl_one]
  simp
theorem sh300 : (PyData.shown (.str ⟨(List.replicate (300 : Int).toNat ("x" : Str).cps).foldl (· ++ ·) #[]⟩)).length ≤ 4000 := by
  rw [xs300]
  show (reprText _).length ≤ 4000
  have e := StrLaws.reprText_len ⟨(List.replicate 300 120).toArray⟩ fun c hc => by
    have e := List.eq_of_mem_replicate (show c ∈ List.replicate 300 120 by simpa using hc)
    omega
  have l : (⟨(List.replicate 300 120).toArray⟩ : Str).length = 300 := by
    show (List.replicate 300 120).toArray.size = 300
    simp
  omega
theorem sz300 : ((List.replicate (300 : Int).toNat ("x" : Str).cps).foldl (· ++ ·) #[]).size ≤ sizeLine := by
  rw [x_cps, foldl_one, sizeLine_eq]
  simp
theorem shInt {r : Int} (h0 : 0 ≤ r) (h1 : r < 1000) : (PyData.shown (.int r)).length ≤ 4000 := by
  show (Str.ofString (toString r)).length ≤ 4000
  rw [ofString_length]
  have e := int_text_length_le10 (a := r) (k := 4) (by decide) (by omega)
  omega
theorem showInt {r : Int} (h0 : 0 ≤ r) (h1 : r < 1000) : (PyData.showable (.int r)) = true := by
  refine decide_eq_true ?_
  by_cases h : r.natAbs = 0
  · rw [h]
    decide
  · have e : r.natAbs.log2 < 10 := (Nat.log2_lt h).mpr (show r.natAbs < 2 ^ 10 by omega)
    omega
theorem keep_new {H : Hp} {p b : Addr} {o u : HO} (h : H b = some o) (hp : H p = none) : upd H p u b = some o := by
  rw [upd_ne (ne_of_none h hp)]
  exact h
theorem keep_turn {H : Hp} {d b : Addr} {o u : HO} (h : H b = some o) (hb : b ≠ d) : upd H d u b = some o := by
  rw [upd_ne hb]
  exact h
/-- all but the dice stands as it stood -/
def Still (d : Addr) (H H' : Hp) : Prop := ∀ b o, b ≠ d → H b = some o → H' b = some o
theorem Still.new {d : Addr} {H H1 : Hp} {p : Addr} {u : HO} (s : Still d H H1) (hp : H1 p = none) : Still d H (upd H1 p u) := fun b o hb h => keep_new (s b o hb h) hp
theorem Still.turn {d : Addr} {H H1 H2 : Hp} (s : Still d H H1) (t : Turned H1 H2 d) : Still d H H2 := fun b o hb h => by
  rw [t.ne hb]
  exact s b o hb h
theorem Still.refl (d : Addr) (H : Hp) : Still d H H := fun _ _ _ h => h
/-- what the law draws: data that can be shown -/
def Held (K : PySem.W.Frag) (H : Hp) (v : V) : Prop := ∃ dt : PyData, Sh K H v dt ∧ dt.showable = true ∧ dt.shown.length ≤ 4000 ∧ dt.depth ≤ 10
def spValue (K : PySem.W.Frag) : Sp := fun vs H Q _ => ∃ d : Addr, vs = [.ref d] ∧ Dz H d ∧ ∀ (v : V) (H' : Hp), Dz H' d → Still d H H' → Held K H' v → Q v H'
section
variable {P : Program} {w : World} {K : PySem.W.Frag} {mg : Str → Option Value} {base : Heap}
theorem ok_value {f g1 g2 : Addr} {fd gd1 gd2 : FuncData} (F : Fun K "_law_value" "_law_value" sValue f fd) (G1 : Fun K "_law_one_of" "_law_one_of" sOneOf g1 gd1) (b1 : Binds K gd1 ["dice", "items"] []) (m1 : mg "_law_one_of" = some (.ref g1))
    (G2 : Fun K "_law_roll" "_law_roll" sRoll g2 gd2) (b2 : Binds K gd2 ["dice", "total"] []) (m2 : mg "_law_roll" = some (.ref g2)) (T : TxI mg) : FnOk P w K mg base CX0 3 f fd ["dice"] (spValue K) := by
  have GR : FnOk P w K mg base CX0 1 g2 gd2 ["dice", "total"] spRoll := ok_roll G2 T
  have GO : FnOk P w K mg base CX0 2 g1 gd1 ["dice", "items"] (spOneOf K) := ok_oneof G1 G2 b2 m2 T
  refine F.ok scValue (fun vs H Q E h => ?_) (fun cdv A outer s H vs Q E hr h => ?_)
  · obtain ⟨d, rfl, _⟩ := h
    rfl
  · obtain ⟨d, rfl, Z, k⟩ := h
    have hr1 : Room 1 _ := hr.mono (by decide)
    refine ⟨_, (pss_cons (ps_set (i := 1) scValue.nd rfl (Or.inl rfl) (pe_lst (pa_cons pe_non (pa_cons pe_bl (pa_cons pe_int (pa_cons (pe_un un_neg pe_int) (pa_cons (pe_op op_pow pe_int pe_int) (pa_cons pe_str (pa_cons pe_str (pa_cons pe_str (pa_cons (pe_tup (pa_cons pe_str (pa_cons pe_int pa_nil))) (pa_cons (pe_tup pa_nil) (pa_cons (pe_lstN pa_nil) (pa_cons (pe_lstN (pa_cons pe_str pa_nil)) (pa_cons pe_dnewK (pa_cons (pe_disp (pps_cons pe_str pe_int pps_nil) (by rfl) (by rfl) (fun z => by cases z) (by decide)) (pa_cons (pe_op op_repS pe_str pe_int) (pa_cons (pe_tup (pa_cons (pe_tup pa_nil) pa_nil)) pa_nil))))))))))))))))))
      (pss_one (ps_ret (pe_call GO hr rfl m1 G1.kp b1 .nil pass0 (pa_cons (pv 0) (pa_cons (pe_op op_cat (pv 1) (pe_lst (pa_cons (pe_call GR hr1 rfl m2 G2.kp b2 .nil pass0 (pa_cons (pv 0) (pa_cons pe_int pa_nil))) pa_nil))) pa_nil)))))), ?_⟩
    refine ⟨7, rfl, _, _, rfl, rfl, ⟨by decide, by decide, by decide⟩, ?_⟩
    refine ⟨(by show 2 ≤ sizeLine; decide), fun t1 n1 => ⟨(by show 0 ≤ sizeLine; decide), fun t2 n2 => ⟨(by show 0 ≤ sizeLine; decide), fun l1 n3 z3 => ⟨(by show 1 ≤ sizeLine; decide), fun l2 n4 z4 => ?_⟩⟩⟩⟩
    intro d1 n5
    intro d2 n6
    refine ⟨upd_same, [(.inr "a", .int 1)], rfl, (by decide), ?_⟩
    refine ⟨"x", 300, rfl, rfl, by decide, by decide, by decide, by decide, sz300, ?_⟩
    have sh3 := sh300
    generalize (⟨(List.replicate (300 : Int).toNat ("x" : Str).cps).foldl (· ++ ·) #[]⟩ : Str) = z300 at sh3 ⊢
    refine ⟨(by show 0 ≤ sizeLine; decide), fun t3 n7 => ⟨(by show 1 ≤ sizeLine; decide), fun t4 n8 => ⟨(by show 16 ≤ sizeLine; decide), fun p n9 => ?_⟩⟩⟩
    simp only [upd_upd] at n7 n8 n9 ⊢
    obtain ⟨l, m, c, hd, b1', b2', b3'⟩ := Z
    have em : mergeK [] [((Sum.inr "a" : Key), V.int 1)] = [((Sum.inr "a" : Key), V.int 1)] := rfl
    generalize hX : upd _ p (.lst _) = H9
    have f1 : H9 t1 = some (.tup [.str "a", .int 1]) := by
      rw [← hX]
      repeat (first | exact upd_same | refine keep_new ?_ (by assumption))
    have f2 : H9 t2 = some (.tup []) := by
      rw [← hX]
      repeat (first | exact upd_same | refine keep_new ?_ (by assumption))
    have f3 : H9 l1 = some (.lst []) := by
      rw [← hX]
      repeat (first | exact upd_same | refine keep_new ?_ (by assumption))
    have f4 : H9 l2 = some (.lst [.str "a"]) := by
      rw [← hX]
      repeat (first | exact upd_same | refine keep_new ?_ (by assumption))
    have f5 : H9 d1 = some (.dK []) := by
      rw [← hX]
      repeat (first | exact upd_same | refine keep_new ?_ (by assumption))
    have f6 : H9 d2 = some (.dK [((Sum.inr "a" : Key), V.int 1)]) := by
      rw [← hX, ← em]
      repeat (first | exact upd_same | refine keep_new ?_ (by assumption))
    have f7 : H9 t3 = some (.tup []) := by
      rw [← hX]
      repeat (first | exact upd_same | refine keep_new ?_ (by assumption))
    have f8 : H9 t4 = some (.tup [.ref t3]) := by
      rw [← hX]
      repeat (first | exact upd_same | refine keep_new ?_ (by assumption))
    have f9 : H9 d = some (.lst [.int l, .int m, .int c]) := by
      rw [← hX]
      repeat (first | exact hd | refine keep_new ?_ (by assumption))
    have st : Still d H H9 := by
      rw [← hX]
      repeat (first | exact Still.refl _ _ | refine Still.new ?_ (by assumption))
    have fp : H9 p = some (.lst [.non, .bl true, .int 0, .int (-7), .int (10 ^ (11 : Int).toNat), .str "", .str "a", .str "box", .ref t1, .ref t2, .ref l1, .ref l2, .ref d1, .ref d2, .str z300, .ref t4]) := by
      rw [← hX]
      exact upd_same
    clear n1 n2 n3 n4 n5 n6 n7 n8 n9 hX em
    have neD : ∀ {a : Addr} {o : HO}, H9 a = some o → (∀ xs, o ≠ .lst xs) → a ≠ d := fun e n z => by
      rw [z, f9] at e
      exact n _ (Option.some.inj e).symm
    have l1d : l1 ≠ d := ne_of f3 f9 (by intro z; cases z)
    have l2d : l2 ≠ d := ne_of f4 f9 (by intro z; cases z)
    have pd : p ≠ d := ne_of fp f9 (by intro z; cases z)
    refine ⟨_, rfl, _, rfl, _, rfl, d, l, m, c, 1000, rfl, ⟨f9, b1', b2', b3'⟩, by decide, by decide, fun r l' c' h1 h2 h3 h4 => ?_⟩
    refine ⟨(by show 1 ≤ sizeLine; decide), fun q nq => ?_⟩
    have T1 : Turned H9 (upd H9 d (.lst [.int l', .int m, .int c'])) d := ⟨l', m, c', h3, b2', h4, rfl⟩
    generalize upd H9 d (.lst [.int l', .int m, .int c']) = H10 at nq T1 ⊢
    have g : ∀ {a : Addr} {o : HO}, H9 a = some o → a ≠ d → H10 a = some o := fun e n => by
      rw [T1.ne n]
      exact e
    obtain ⟨l0, m0, c0, hd0, w1, w2, w3⟩ := T1.dz
    refine ⟨p, q, _, _, rfl, rfl, keep_new (g fp pd) nq, upd_same, (by show 17 ≤ sizeLine; decide), fun z nz => ?_⟩
    refine ⟨d, z, _, rfl, ⟨l0, m0, c0, keep_new (keep_new hd0 nq) nz, w1, w2, w3⟩, .inl (.inl upd_same), (ne_of_none (keep_new hd0 nq) nz).symm, (by show 0 < 17; decide), (by show 17 < 1000000; decide), fun v H' hv T2 => ?_⟩
    have g2 : ∀ {a : Addr} {o : HO}, H9 a = some o → a ≠ d → H' a = some o := fun e n => by
      rw [T2.ne n]
      exact keep_new (keep_new (g e n) nq) nz
    refine k v H' T2.dz (((st.turn T1).new nq |>.new nz).turn T2) ?_
    have f1 := g2 f1 (neD f1 (by intro xs z; cases z))
    have f2 := g2 f2 (neD f2 (by intro xs z; cases z))
    have f3 := g2 f3 l1d
    have f4 := g2 f4 l2d
    have f5 := g2 f5 (neD f5 (by intro xs z; cases z))
    have f6 := g2 f6 (neD f6 (by intro xs z; cases z))
    have f7 := g2 f7 (neD f7 (by intro xs z; cases z))
    have f8 := g2 f8 (neD f8 (by intro xs z; cases z))
    simp only [List.cons_append, List.nil_append, List.mem_cons, List.not_mem_nil, or_false] at hv
    rcases hv with rfl | rfl | rfl | rfl | rfl | rfl | rfl | rfl | rfl | rfl | rfl | rfl | rfl | rfl | rfl | rfl | rfl
    · exact ⟨_, .non, rfl, by decide +kernel, by decide +kernel⟩
    · exact ⟨_, .bl true, rfl, by decide +kernel, by decide +kernel⟩
    · exact ⟨_, .int 0, by decide +kernel, by decide +kernel, by decide +kernel⟩
    · exact ⟨_, .int (-7), by decide +kernel, by decide +kernel, by decide +kernel⟩
    · exact ⟨_, .int _, by decide +kernel, by decide +kernel, by decide +kernel⟩
    · exact ⟨_, .str _, rfl, by decide +kernel, by decide +kernel⟩
    · exact ⟨_, .str _, rfl, by decide +kernel, by decide +kernel⟩
    · exact ⟨_, .str _, rfl, by decide +kernel, by decide +kernel⟩
    · exact ⟨_, .tup (SqT.of f1) (.cons (.str _) (.cons (.int 1) .nil)), by decide +kernel, by decide +kernel, by decide +kernel⟩
    · exact ⟨_, .tup (SqT.of f2) .nil, by decide +kernel, by decide +kernel, by decide +kernel⟩
    · exact ⟨_, .lst (SqL.of f3) z3 .nil, by decide +kernel, by decide +kernel, by decide +kernel⟩
    · exact ⟨_, .lst (SqL.of f4) z4 (.cons (.str _) .nil), by decide +kernel, by decide +kernel, by decide +kernel⟩
    · exact ⟨_, .dE f5, by decide +kernel, by decide +kernel, by decide +kernel⟩
    · exact ⟨_, .dO f6, by decide +kernel, by decide +kernel, by decide +kernel⟩
    · exact ⟨_, .str z300, rfl, sh3, Nat.zero_le _⟩
    · exact ⟨_, .tup (SqT.of f8) (.cons (.tup (SqT.of f7) .nil) .nil), by decide +kernel, by decide +kernel, by decide +kernel⟩
    · exact ⟨_, .int r, showInt h1 h2, shInt h1 h2, Nat.zero_le _⟩
end
end NV

set_option Elab.async false
set_option linter.all false
set_option maxRecDepth 100000
set_option maxHeartbeats 8000000
/-! # The classes of the errors, and what an error is of -/
namespace NV
open PySem L2
structure CA where
  (c0 c1 c2 c3 c4 c5 c6 c7 c8 c9 c10 c11 : Addr)
def CA.at (c : CA) : Nat → Addr
  | 0 => c.c0
  | 1 => c.c1
  | 2 => c.c2
  | 3 => c.c3
  | 4 => c.c4
  | 5 => c.c5
  | 6 => c.c6
  | 7 => c.c7
  | 8 => c.c8
  | 9 => c.c9
  | 10 => c.c10
  | _ => c.c11
def nm : Nat → Str
  | 0 => "TurnError"
  | 1 => "InvalidWord"
  | 2 => "InvalidMachine"
  | 3 => "InvalidBox"
  | 4 => "InvalidOperation"
  | 5 => "ParseError"
  | 6 => "UnknownName"
  | 7 => "GoesRound"
  | 8 => "InvalidNumber"
  | 9 => "TooMany"
  | 10 => "NothingToUndo"
  | _ => "Refused"
def fld : Nat → String
  | 5 => "line"
  | 6 => "name"
  | 7 => "turn"
  | 8 => "value"
  | 9 => "limit"
  | 10 => "many"
  | _ => "reason"
/-- is the i-th class the j-th one, or derived from it -/
def sb (i j : Nat) : Bool := decide (i = j) || (decide (j = 0) && decide (i < 6))
/-- is the i-th class derived from the j-th built-in one (ValueError, KeyError, RuntimeError, OverflowError, IndexError, ArithmeticError, LookupError) -/
def sr (i j : Nat) : Bool := match j with
  | 0 => decide (i < 6)
  | 1 => decide (i = 6)
  | 2 => decide (i = 8)
  | 3 => decide (i = 9)
  | 4 => decide (i = 10)
  | 5 => decide (i = 9) || decide (i = 11)
  | _ => decide (i = 6) || decide (i = 7) || decide (i = 10)
def bn : Nat → String
  | 0 => "ValueError"
  | 1 => "KeyError"
  | 2 => "RuntimeError"
  | 3 => "OverflowError"
  | 4 => "IndexError"
  | 5 => "ArithmeticError"
  | _ => "LookupError"
abbrev veT : List Value := [.type "ValueError", .type "Exception", .type "BaseException", .type "object"]
/-- what the top has made of the classes -/
structure TxC (P : Program) (K : PySem.W.Frag) (mg : Str → Option Value) (c : CA) : Prop where
  gc : ∀ i, i < 12 → mg (nm i) = some (.ref (c.at i))
  kc : ∀ i, i < 12 → PySem.W.keepIn K (.ref (c.at i)) = true
  ex : ∀ i, i < 12 → PySem.W.subIn K (.ref (c.at i)) (.type "BaseException") = some true
  ty : ∀ i, i < 12 → PySem.W.typeIn K (.ref (c.at i)) = some (.type "type")
  kk : ∀ i j, i < 12 → j < 12 → PySem.W.kitOne K (.ref (c.at i)) (.ref (c.at j)) = some (sb i j)
  kb : ∀ i j, i < 12 → j < 7 → PySem.W.kitOne K (.ref (c.at i)) (.type (bn j)) = some (sr i j)
  xm : ∀ i j, i < 12 → j < 12 → PySem.W.exmOne K (.ref (c.at i)) (.ref (c.at j)) = some (sb i j)
  pl : ∀ i, i < 5 → PySem.W.excIn K (c.at i) veT "ValueError.__new__" = true
  kp : ∀ i, 5 ≤ i → i < 12 → ∃ (fI : Addr) (B i' B0 newId : String) (qual : Str), PySem.NvE.InitTxt P K (c.at i) fI B i' B0 newId (fld i) qual
  xf : ∀ i, 5 ≤ i → i < 12 → XfC K (c.at i)
  nf : ∀ i, 5 ≤ i → i < 12 → PySem.W.findIn K (.ref (c.at i)) (Str.ofString (fld i)) = some none
  ec : ∀ i, i < 12 → ExcC K (c.at i)
  isi : mg "isinstance" = none
  b0 : mg "ValueError" = none
  b1 : mg "KeyError" = none
  b2 : mg "RuntimeError" = none
  b3 : mg "OverflowError" = none
  b4 : mg "IndexError" = none
  b5 : mg "ArithmeticError" = none
  b6 : mg "LookupError" = none
abbrev sSorts : Stmt := top 18
abbrev sKinds : Stmt := top 19
theorem ExV.new {H : Hp} {a C p : Addr} {u : HO} {fs : Option (List (Str × V))} (e : ExV H a C fs) (hp : H p = none) : ExV (upd H p u) a C fs := by
  cases fs with
  | none => exact keep_new e hp
  | some fs =>
    obtain ⟨d, e1, e2⟩ := e
    exact ⟨d, keep_new e1 hp, keep_new e2 hp⟩
theorem ExV.same {H H' : Hp} {a C : Addr} {fs : Option (List (Str × V))} (e : ExV H a C fs) (s : Same H H') : ExV H' a C fs := by
  cases fs with
  | none => exact s _ _ e
  | some fs =>
    obtain ⟨d, e1, e2⟩ := e
    exact ⟨d, s _ _ e1, s _ _ e2⟩
theorem Same.new {H H1 : Hp} {p : Addr} {u : HO} (s : Same H H1) (hp : H1 p = none) : Same H (upd H1 p u) := fun b o h => keep_new (s b o h) hp
def sorts (i : Nat) : List V := (List.range 7).map fun j => .bl (sr i j)
def kinds (i : Nat) : List V := (List.range 12).map fun j => .bl (sb i j)
def spAsk (c : CA) (ans : Nat → List V) : Sp := fun vs H Q _ => ∃ (a : Addr) (i : Nat) (fs : Option (List (Str × V))), vs = [.ref a] ∧ i < 12 ∧ ExV H a (c.at i) fs ∧ ∀ (p : Addr) (H' : Hp), H p = none → H' p = some (.lst (ans i)) → Same H H' → Q (.ref p) H'
theorem boot_ValueError' : bootBuiltins "ValueError" = some (.type "ValueError") := by decide +kernel
theorem boot_KeyError' : bootBuiltins "KeyError" = some (.type "KeyError") := by decide +kernel
theorem boot_RuntimeError' : bootBuiltins "RuntimeError" = some (.type "RuntimeError") := by decide +kernel
theorem boot_OverflowError' : bootBuiltins "OverflowError" = some (.type "OverflowError") := by decide +kernel
theorem boot_IndexError' : bootBuiltins "IndexError" = some (.type "IndexError") := by decide +kernel
theorem boot_ArithmeticError' : bootBuiltins "ArithmeticError" = some (.type "ArithmeticError") := by decide +kernel
theorem boot_LookupError' : bootBuiltins "LookupError" = some (.type "LookupError") := by decide +kernel
section
variable {P : Program} {w : World} {K : PySem.W.Frag} {mg : Str → Option Value} {base : Heap} {c : CA}
theorem scSorts : FnScope ["e", "found"] ["e"] (defScope sSorts) := ⟨rfl, rfl, rfl, by decide +kernel, rfl, by decide +kernel, by decide +kernel⟩
theorem scKinds : FnScope ["e", "found"] ["e"] (defScope sKinds) := ⟨rfl, rfl, rfl, by decide +kernel, rfl, by decide +kernel, by decide +kernel⟩
theorem ok_sorts {f : Addr} {fd : FuncData} (F : Fun K "_law_sorts" "_law_sorts" sSorts f fd) (T : TxC P K mg c) : FnOk P w K mg base CX0 1 f fd ["e"] (spAsk c sorts) := by
  refine F.ok scSorts (fun vs H Q E h => ?_) (fun cdv A outer s H vs Q E hr h => ?_)
  · obtain ⟨a, i, fs, rfl, _⟩ := h
    rfl
  · obtain ⟨a, i, fs, rfl, hi, ev, k⟩ := h
    refine ⟨_, (pss_cons (ps_set (i := 1) scSorts.nd rfl (Or.inl rfl) (pe_lst (pa_cons (pe_callB call_isV (by rfl) T.isi (by decide +kernel) (pa_cons (pv 0) (pa_cons (pe_bltn (v := .ty "ValueError") rfl T.b0 boot_ValueError' rfl) pa_nil))) (pa_cons (pe_callB call_isV (by rfl) T.isi (by decide +kernel) (pa_cons (pv 0) (pa_cons (pe_bltn (v := .ty "KeyError") rfl T.b1 boot_KeyError' rfl) pa_nil))) (pa_cons (pe_callB call_isV (by rfl) T.isi (by decide +kernel) (pa_cons (pv 0) (pa_cons (pe_bltn (v := .ty "RuntimeError") rfl T.b2 boot_RuntimeError' rfl) pa_nil))) pa_nil)))))
      (pss_cons (ps_set (i := 1) scSorts.nd rfl (Or.inl rfl) (pe_op op_cat (pv 1) (pe_lst (pa_cons (pe_callB call_isV (by rfl) T.isi (by decide +kernel) (pa_cons (pv 0) (pa_cons (pe_bltn (v := .ty "OverflowError") rfl T.b3 boot_OverflowError' rfl) pa_nil))) (pa_cons (pe_callB call_isV (by rfl) T.isi (by decide +kernel) (pa_cons (pv 0) (pa_cons (pe_bltn (v := .ty "IndexError") rfl T.b4 boot_IndexError' rfl) pa_nil))) (pa_cons (pe_callB call_isV (by rfl) T.isi (by decide +kernel) (pa_cons (pv 0) (pa_cons (pe_bltn (v := .ty "ArithmeticError") rfl T.b5 boot_ArithmeticError' rfl) pa_nil))) pa_nil))))))
      (pss_one (ps_ret (pe_op op_cat (pv 1) (pe_lst (pa_cons (pe_callB call_isV (by rfl) T.isi (by decide +kernel) (pa_cons (pv 0) (pa_cons (pe_bltn (v := .ty "LookupError") rfl T.b6 boot_LookupError' rfl) pa_nil))) pa_nil))))))), ?_⟩
    have ss : Same H H := Same.refl H
    refine ⟨_, rfl, a, c.at i, fs, _, _, _, rfl, ev, T.ec i hi, (fun _ r => r), T.kb i 0 hi (by decide), ?_⟩
    refine ⟨_, rfl, a, c.at i, fs, _, _, _, rfl, ev, T.ec i hi, (fun _ r => r), T.kb i 1 hi (by decide), ?_⟩
    refine ⟨_, rfl, a, c.at i, fs, _, _, _, rfl, ev, T.ec i hi, (fun _ r => r), T.kb i 2 hi (by decide), ?_⟩
    refine ⟨(by show 3 ≤ sizeLine; decide), fun p0 n0 => ?_⟩
    have ev : ExV _ a (c.at i) fs := ExV.new (u := .lst [.bl (sr i 0), .bl (sr i 1), .bl (sr i 2)]) ev n0
    have ss := Same.new (u := .lst [.bl (sr i 0), .bl (sr i 1), .bl (sr i 2)]) ss n0
    refine ⟨_, rfl, ?_⟩
    refine ⟨_, rfl, a, c.at i, fs, _, _, _, rfl, ev, T.ec i hi, (fun _ r => r), T.kb i 3 hi (by decide), ?_⟩
    refine ⟨_, rfl, a, c.at i, fs, _, _, _, rfl, ev, T.ec i hi, (fun _ r => r), T.kb i 4 hi (by decide), ?_⟩
    refine ⟨_, rfl, a, c.at i, fs, _, _, _, rfl, ev, T.ec i hi, (fun _ r => r), T.kb i 5 hi (by decide), ?_⟩
    refine ⟨(by show 3 ≤ sizeLine; decide), fun p1 n1 => ?_⟩
    have ev : ExV _ a (c.at i) fs := ExV.new (u := .lst [.bl (sr i 3), .bl (sr i 4), .bl (sr i 5)]) ev n1
    have ss := Same.new (u := .lst [.bl (sr i 3), .bl (sr i 4), .bl (sr i 5)]) ss n1
    refine ⟨p0, p1, [.bl (sr i 0), .bl (sr i 1), .bl (sr i 2)], [.bl (sr i 3), .bl (sr i 4), .bl (sr i 5)], rfl, rfl, keep_new upd_same n1, upd_same, (by show 6 ≤ sizeLine; decide), fun q1 m1 => ?_⟩
    have ev : ExV _ a (c.at i) fs := ExV.new (u := .lst [.bl (sr i 0), .bl (sr i 1), .bl (sr i 2), .bl (sr i 3), .bl (sr i 4), .bl (sr i 5)]) ev m1
    have ss := Same.new (u := .lst [.bl (sr i 0), .bl (sr i 1), .bl (sr i 2), .bl (sr i 3), .bl (sr i 4), .bl (sr i 5)]) ss m1
    refine ⟨_, rfl, ?_⟩
    refine ⟨_, rfl, a, c.at i, fs, _, _, _, rfl, ev, T.ec i hi, (fun _ r => r), T.kb i 6 hi (by decide), ?_⟩
    refine ⟨(by show 1 ≤ sizeLine; decide), fun p2 n2 => ?_⟩
    have ev : ExV _ a (c.at i) fs := ExV.new (u := .lst [.bl (sr i 6)]) ev n2
    have ss := Same.new (u := .lst [.bl (sr i 6)]) ss n2
    refine ⟨q1, p2, [.bl (sr i 0), .bl (sr i 1), .bl (sr i 2), .bl (sr i 3), .bl (sr i 4), .bl (sr i 5)], [.bl (sr i 6)], rfl, rfl, keep_new upd_same n2, upd_same, (by show 7 ≤ sizeLine; decide), fun q2 m2 => ?_⟩
    exact k q2 _ (ss.free m2) upd_same (Same.new ss m2)
theorem ok_kinds {f : Addr} {fd : FuncData} (F : Fun K "_law_kinds" "_law_kinds" sKinds f fd) (T : TxC P K mg c) : FnOk P w K mg base CX0 1 f fd ["e"] (spAsk c kinds) := by
  refine F.ok scKinds (fun vs H Q E h => ?_) (fun cdv A outer s H vs Q E hr h => ?_)
  · obtain ⟨a, i, fs, rfl, _⟩ := h
    rfl
  · obtain ⟨a, i, fs, rfl, hi, ev, k⟩ := h
    refine ⟨_, (pss_cons (ps_set (i := 1) scKinds.nd rfl (Or.inl rfl) (pe_lst (pa_cons (pe_callB call_isV (by rfl) T.isi (by decide +kernel) (pa_cons (pv 0) (pa_cons (pe_glob (v := .ref (c.at 0)) rfl (T.gc 0 (by decide)) rfl) pa_nil))) (pa_cons (pe_callB call_isV (by rfl) T.isi (by decide +kernel) (pa_cons (pv 0) (pa_cons (pe_glob (v := .ref (c.at 1)) rfl (T.gc 1 (by decide)) rfl) pa_nil))) (pa_cons (pe_callB call_isV (by rfl) T.isi (by decide +kernel) (pa_cons (pv 0) (pa_cons (pe_glob (v := .ref (c.at 2)) rfl (T.gc 2 (by decide)) rfl) pa_nil))) pa_nil)))))
      (pss_cons (ps_set (i := 1) scKinds.nd rfl (Or.inl rfl) (pe_op op_cat (pv 1) (pe_lst (pa_cons (pe_callB call_isV (by rfl) T.isi (by decide +kernel) (pa_cons (pv 0) (pa_cons (pe_glob (v := .ref (c.at 3)) rfl (T.gc 3 (by decide)) rfl) pa_nil))) (pa_cons (pe_callB call_isV (by rfl) T.isi (by decide +kernel) (pa_cons (pv 0) (pa_cons (pe_glob (v := .ref (c.at 4)) rfl (T.gc 4 (by decide)) rfl) pa_nil))) (pa_cons (pe_callB call_isV (by rfl) T.isi (by decide +kernel) (pa_cons (pv 0) (pa_cons (pe_glob (v := .ref (c.at 5)) rfl (T.gc 5 (by decide)) rfl) pa_nil))) pa_nil))))))
      (pss_cons (ps_set (i := 1) scKinds.nd rfl (Or.inl rfl) (pe_op op_cat (pv 1) (pe_lst (pa_cons (pe_callB call_isV (by rfl) T.isi (by decide +kernel) (pa_cons (pv 0) (pa_cons (pe_glob (v := .ref (c.at 6)) rfl (T.gc 6 (by decide)) rfl) pa_nil))) (pa_cons (pe_callB call_isV (by rfl) T.isi (by decide +kernel) (pa_cons (pv 0) (pa_cons (pe_glob (v := .ref (c.at 7)) rfl (T.gc 7 (by decide)) rfl) pa_nil))) (pa_cons (pe_callB call_isV (by rfl) T.isi (by decide +kernel) (pa_cons (pv 0) (pa_cons (pe_glob (v := .ref (c.at 8)) rfl (T.gc 8 (by decide)) rfl) pa_nil))) pa_nil))))))
      (pss_one (ps_ret (pe_op op_cat (pv 1) (pe_lst (pa_cons (pe_callB call_isV (by rfl) T.isi (by decide +kernel) (pa_cons (pv 0) (pa_cons (pe_glob (v := .ref (c.at 9)) rfl (T.gc 9 (by decide)) rfl) pa_nil))) (pa_cons (pe_callB call_isV (by rfl) T.isi (by decide +kernel) (pa_cons (pv 0) (pa_cons (pe_glob (v := .ref (c.at 10)) rfl (T.gc 10 (by decide)) rfl) pa_nil))) (pa_cons (pe_callB call_isV (by rfl) T.isi (by decide +kernel) (pa_cons (pv 0) (pa_cons (pe_glob (v := .ref (c.at 11)) rfl (T.gc 11 (by decide)) rfl) pa_nil))) pa_nil)))))))))), ?_⟩
    have ss : Same H H := Same.refl H
    refine ⟨_, rfl, a, c.at i, fs, _, _, _, rfl, ev, T.ec i hi, (fun _ r => r), T.kk i 0 hi (by decide), ?_⟩
    refine ⟨_, rfl, a, c.at i, fs, _, _, _, rfl, ev, T.ec i hi, (fun _ r => r), T.kk i 1 hi (by decide), ?_⟩
    refine ⟨_, rfl, a, c.at i, fs, _, _, _, rfl, ev, T.ec i hi, (fun _ r => r), T.kk i 2 hi (by decide), ?_⟩
    refine ⟨(by show 3 ≤ sizeLine; decide), fun p0 n0 => ?_⟩
    have ev : ExV _ a (c.at i) fs := ExV.new (u := .lst [.bl (sb i 0), .bl (sb i 1), .bl (sb i 2)]) ev n0
    have ss := Same.new (u := .lst [.bl (sb i 0), .bl (sb i 1), .bl (sb i 2)]) ss n0
    refine ⟨_, rfl, ?_⟩
    refine ⟨_, rfl, a, c.at i, fs, _, _, _, rfl, ev, T.ec i hi, (fun _ r => r), T.kk i 3 hi (by decide), ?_⟩
    refine ⟨_, rfl, a, c.at i, fs, _, _, _, rfl, ev, T.ec i hi, (fun _ r => r), T.kk i 4 hi (by decide), ?_⟩
    refine ⟨_, rfl, a, c.at i, fs, _, _, _, rfl, ev, T.ec i hi, (fun _ r => r), T.kk i 5 hi (by decide), ?_⟩
    refine ⟨(by show 3 ≤ sizeLine; decide), fun p1 n1 => ?_⟩
    have ev : ExV _ a (c.at i) fs := ExV.new (u := .lst [.bl (sb i 3), .bl (sb i 4), .bl (sb i 5)]) ev n1
    have ss := Same.new (u := .lst [.bl (sb i 3), .bl (sb i 4), .bl (sb i 5)]) ss n1
    refine ⟨p0, p1, [.bl (sb i 0), .bl (sb i 1), .bl (sb i 2)], [.bl (sb i 3), .bl (sb i 4), .bl (sb i 5)], rfl, rfl, keep_new upd_same n1, upd_same, (by show 6 ≤ sizeLine; decide), fun q1 m1 => ?_⟩
    have ev : ExV _ a (c.at i) fs := ExV.new (u := .lst [.bl (sb i 0), .bl (sb i 1), .bl (sb i 2), .bl (sb i 3), .bl (sb i 4), .bl (sb i 5)]) ev m1
    have ss := Same.new (u := .lst [.bl (sb i 0), .bl (sb i 1), .bl (sb i 2), .bl (sb i 3), .bl (sb i 4), .bl (sb i 5)]) ss m1
    refine ⟨_, rfl, ?_⟩
    refine ⟨_, rfl, a, c.at i, fs, _, _, _, rfl, ev, T.ec i hi, (fun _ r => r), T.kk i 6 hi (by decide), ?_⟩
    refine ⟨_, rfl, a, c.at i, fs, _, _, _, rfl, ev, T.ec i hi, (fun _ r => r), T.kk i 7 hi (by decide), ?_⟩
    refine ⟨_, rfl, a, c.at i, fs, _, _, _, rfl, ev, T.ec i hi, (fun _ r => r), T.kk i 8 hi (by decide), ?_⟩
    refine ⟨(by show 3 ≤ sizeLine; decide), fun p2 n2 => ?_⟩
    have ev : ExV _ a (c.at i) fs := ExV.new (u := .lst [.bl (sb i 6), .bl (sb i 7), .bl (sb i 8)]) ev n2
    have ss := Same.new (u := .lst [.bl (sb i 6), .bl (sb i 7), .bl (sb i 8)]) ss n2
    refine ⟨q1, p2, [.bl (sb i 0), .bl (sb i 1), .bl (sb i 2), .bl (sb i 3), .bl (sb i 4), .bl (sb i 5)], [.bl (sb i 6), .bl (sb i 7), .bl (sb i 8)], rfl, rfl, keep_new upd_same n2, upd_same, (by show 9 ≤ sizeLine; decide), fun q2 m2 => ?_⟩
    have ev : ExV _ a (c.at i) fs := ExV.new (u := .lst [.bl (sb i 0), .bl (sb i 1), .bl (sb i 2), .bl (sb i 3), .bl (sb i 4), .bl (sb i 5), .bl (sb i 6), .bl (sb i 7), .bl (sb i 8)]) ev m2
    have ss := Same.new (u := .lst [.bl (sb i 0), .bl (sb i 1), .bl (sb i 2), .bl (sb i 3), .bl (sb i 4), .bl (sb i 5), .bl (sb i 6), .bl (sb i 7), .bl (sb i 8)]) ss m2
    refine ⟨_, rfl, ?_⟩
    refine ⟨_, rfl, a, c.at i, fs, _, _, _, rfl, ev, T.ec i hi, (fun _ r => r), T.kk i 9 hi (by decide), ?_⟩
    refine ⟨_, rfl, a, c.at i, fs, _, _, _, rfl, ev, T.ec i hi, (fun _ r => r), T.kk i 10 hi (by decide), ?_⟩
    refine ⟨_, rfl, a, c.at i, fs, _, _, _, rfl, ev, T.ec i hi, (fun _ r => r), T.kk i 11 hi (by decide), ?_⟩
    refine ⟨(by show 3 ≤ sizeLine; decide), fun p3 n3 => ?_⟩
    have ev : ExV _ a (c.at i) fs := ExV.new (u := .lst [.bl (sb i 9), .bl (sb i 10), .bl (sb i 11)]) ev n3
    have ss := Same.new (u := .lst [.bl (sb i 9), .bl (sb i 10), .bl (sb i 11)]) ss n3
    refine ⟨q2, p3, [.bl (sb i 0), .bl (sb i 1), .bl (sb i 2), .bl (sb i 3), .bl (sb i 4), .bl (sb i 5), .bl (sb i 6), .bl (sb i 7), .bl (sb i 8)], [.bl (sb i 9), .bl (sb i 10), .bl (sb i 11)], rfl, rfl, keep_new upd_same n3, upd_same, (by show 12 ≤ sizeLine; decide), fun q3 m3 => ?_⟩
    exact k q3 _ (ss.free m3) upd_same (Same.new ss m3)
end
end NV

set_option Elab.async false
set_option linter.all false
set_option maxRecDepth 100000
set_option maxHeartbeats 8000000
/-! # Errors raised and caught -/
namespace NV
open PySem L2
abbrev sRaise : Stmt := top 20
abbrev sCaught : Stmt := top 21
abbrev sByBase : Stmt := top 22
/-- an error of the class i that keeps v leaves -/
def spRaise (c : CA) : Sp := fun vs H Q E => ∃ (i : Nat) (v : V), vs = [.int (i : Int), v] ∧ i < 12 ∧ (i < 5 → E (.ref (c.at i)) none H) ∧ (5 ≤ i → ∀ d, H d = none → E (.ref (c.at i)) (some d) (upd H d (.xd [(Str.ofString (fld i), v)])))
def spCaught : Sp := fun vs H Q _ => ∃ (i : Nat) (v : V), vs = [.int (i : Int), v] ∧ i < 12 ∧ ∀ H' : Hp, Same H H' → Q (if i < 5 then .int (i : Int) else v) H'
def spByBase : Sp := fun vs H Q _ => ∃ (i : Nat) (v : V), vs = [.int (i : Int), v] ∧ i < 12 ∧ ∀ H' : Hp, Same H H' → Q (.bl (decide (i < 6))) H'
theorem lookup_one (x : Str) (v : V) : List.lookup x [(x, v)] = some v := by simp [List.lookup]
section
variable {P : Program} {w : World} {K : PySem.W.Frag} {mg : Str → Option Value} {base : Heap} {c : CA}
theorem keepC (T : TxC P K mg c) {X : Cx} (h1 : X.prog = P) (h2 : X.K = K) (h3 : X.mg = mg) (i : Nat) (h5 : 5 ≤ i) (h12 : i < 12) : KeepC X (nm i) (c.at i) (fld i) := by
  subst h1 h2 h3
  exact ⟨T.kp i h5 h12, T.gc i h12, T.kc i h12, T.ex i h12, T.ty i h12⟩
theorem exm_any4 (T : TxC P K mg c) (i : Nat) (hi : i < 12) : PySem.W.exmAny K (.ref (c.at i)) [.ref (c.at 1), .ref (c.at 2), .ref (c.at 3), .ref (c.at 4)] = some (sb i 1 || (sb i 2 || (sb i 3 || (sb i 4 || false)))) := by
  simp only [PySem.W.exmAny, T.xm i 1 hi (by decide), T.xm i 2 hi (by decide), T.xm i 3 hi (by decide), T.xm i 4 hi (by decide)]
theorem exm_any6 (T : TxC P K mg c) (i : Nat) (hi : i < 12) : PySem.W.exmAny K (.ref (c.at i)) [.ref (c.at 6), .ref (c.at 7), .ref (c.at 8), .ref (c.at 9), .ref (c.at 10), .ref (c.at 11)] =
    some (sb i 6 || (sb i 7 || (sb i 8 || (sb i 9 || (sb i 10 || (sb i 11 || false)))))) := by
  simp only [PySem.W.exmAny, T.xm i 6 hi (by decide), T.xm i 7 hi (by decide), T.xm i 8 hi (by decide), T.xm i 9 hi (by decide), T.xm i 10 hi (by decide), T.xm i 11 hi (by decide)]
theorem scRaise : FnScope ["kind", "held"] ["kind", "held"] (defScope sRaise) := ⟨rfl, rfl, rfl, by decide +kernel, rfl, by decide +kernel, by decide +kernel⟩
theorem scCaught : FnScope ["kind", "held", "e"] ["kind", "held"] (defScope sCaught) := ⟨rfl, rfl, rfl, by decide +kernel, rfl, by decide +kernel, by decide +kernel⟩
theorem scByBase : FnScope ["kind", "held"] ["kind", "held"] (defScope sByBase) := ⟨rfl, rfl, rfl, by decide +kernel, rfl, by decide +kernel, by decide +kernel⟩
theorem ok_raise {f : Addr} {fd : FuncData} (F : Fun K "_law_raise" "_law_raise" sRaise f fd) (T : TxC P K mg c) : FnOk P w K mg base (L2.CX P w) 1 f fd ["kind", "held"] (spRaise c) := by
  refine F.okX scRaise (fun vs H Q E h => ?_) (fun cdv A outer s H vs Q E hr h => ?_)
  · obtain ⟨i, v, rfl, _⟩ := h
    rfl
  · obtain ⟨i, v, rfl, hi, k1, k2⟩ := h
    have tk := takes_of (X := cxOf (L2.CX P w) P w K mg base ["kind", "held"] "_law_raise" (defScope sRaise) f cdv A outer s H E) (E := E) rfl rfl rfl rfl
    refine ⟨_, (pss_cons (ps_if (pt_cmpR op_eq (pv 0) pe_int (nomark _)) (pss_one (ps_raise rfl tk (SkE.pmk_own1 PySem.F.excBase_ValueError (T.pl 1 (by decide)) (T.gc 1 (by decide)) (T.kc 1 (by decide)) (raises_own (T.ex 1 (by decide)) (T.ty 1 (by decide))) rfl (pv 1)))) pss_nil)
      (pss_cons (ps_if (pt_cmpR op_eq (pv 0) pe_int (nomark _)) (pss_one (ps_raise rfl tk (SkE.pmk_own1 PySem.F.excBase_ValueError (T.pl 2 (by decide)) (T.gc 2 (by decide)) (T.kc 2 (by decide)) (raises_own (T.ex 2 (by decide)) (T.ty 2 (by decide))) rfl (pv 1)))) pss_nil)
      (pss_cons (ps_if (pt_cmpR op_eq (pv 0) pe_int (nomark _)) (pss_one (ps_raise rfl tk (SkE.pmk_own1 PySem.F.excBase_ValueError (T.pl 3 (by decide)) (T.gc 3 (by decide)) (T.kc 3 (by decide)) (raises_own (T.ex 3 (by decide)) (T.ty 3 (by decide))) rfl (pv 1)))) pss_nil)
      (pss_cons (ps_if (pt_cmpR op_eq (pv 0) pe_int (nomark _)) (pss_one (ps_raise rfl tk (SkE.pmk_own1 PySem.F.excBase_ValueError (T.pl 4 (by decide)) (T.gc 4 (by decide)) (T.kc 4 (by decide)) (raises_own (T.ex 4 (by decide)) (T.ty 4 (by decide))) rfl (pv 1)))) pss_nil)
      (pss_cons (ps_if (pt_cmpR op_eq (pv 0) pe_int (nomark _)) (pss_one (ps_raise rfl tk (pmk_keep (keepC T rfl rfl rfl 5 (by decide) (by decide)) hr (pa_cons (pv 1) pa_nil)))) pss_nil)
      (pss_cons (ps_if (pt_cmpR op_eq (pv 0) pe_int (nomark _)) (pss_one (ps_raise rfl tk (pmk_keep (keepC T rfl rfl rfl 6 (by decide) (by decide)) hr (pa_cons (pv 1) pa_nil)))) pss_nil)
      (pss_cons (ps_if (pt_cmpR op_eq (pv 0) pe_int (nomark _)) (pss_one (ps_raise rfl tk (pmk_keep (keepC T rfl rfl rfl 7 (by decide) (by decide)) hr (pa_cons (pv 1) pa_nil)))) pss_nil)
      (pss_cons (ps_if (pt_cmpR op_eq (pv 0) pe_int (nomark _)) (pss_one (ps_raise rfl tk (pmk_keep (keepC T rfl rfl rfl 8 (by decide) (by decide)) hr (pa_cons (pv 1) pa_nil)))) pss_nil)
      (pss_cons (ps_if (pt_cmpR op_eq (pv 0) pe_int (nomark _)) (pss_one (ps_raise rfl tk (pmk_keep (keepC T rfl rfl rfl 9 (by decide) (by decide)) hr (pa_cons (pv 1) pa_nil)))) pss_nil)
      (pss_cons (ps_if (pt_cmpR op_eq (pv 0) pe_int (nomark _)) (pss_one (ps_raise rfl tk (pmk_keep (keepC T rfl rfl rfl 10 (by decide) (by decide)) hr (pa_cons (pv 1) pa_nil)))) pss_nil)
      (pss_cons (ps_if (pt_cmpR op_eq (pv 0) pe_int (nomark _)) (pss_one (ps_raise rfl tk (pmk_keep (keepC T rfl rfl rfl 11 (by decide) (by decide)) hr (pa_cons (pv 1) pa_nil)))) pss_nil)
      (pss_one (ps_raise rfl tk (SkE.pmk_own1 PySem.F.excBase_ValueError (T.pl 0 (by decide)) (T.gc 0 (by decide)) (T.kc 0 (by decide)) (raises_own (T.ex 0 (by decide)) (T.ty 0 (by decide))) rfl (pv 1))))))))))))))), ?_⟩
    match i, hi with
    | 0, hi =>
      refine ⟨_, rfl, rfl, _, rfl, iteF ?_⟩
      refine ⟨_, rfl, rfl, _, rfl, iteF ?_⟩
      refine ⟨_, rfl, rfl, _, rfl, iteF ?_⟩
      refine ⟨_, rfl, rfl, _, rfl, iteF ?_⟩
      refine ⟨_, rfl, rfl, _, rfl, iteF ?_⟩
      refine ⟨_, rfl, rfl, _, rfl, iteF ?_⟩
      refine ⟨_, rfl, rfl, _, rfl, iteF ?_⟩
      refine ⟨_, rfl, rfl, _, rfl, iteF ?_⟩
      refine ⟨_, rfl, rfl, _, rfl, iteF ?_⟩
      refine ⟨_, rfl, rfl, _, rfl, iteF ?_⟩
      refine ⟨_, rfl, rfl, _, rfl, iteF ?_⟩
      exact ⟨_, rfl, k1 (by decide)⟩
    | 1, hi =>
      refine ⟨_, rfl, rfl, _, rfl, iteT ?_⟩
      exact ⟨_, rfl, k1 (by decide)⟩
    | 2, hi =>
      refine ⟨_, rfl, rfl, _, rfl, iteF ?_⟩
      refine ⟨_, rfl, rfl, _, rfl, iteT ?_⟩
      exact ⟨_, rfl, k1 (by decide)⟩
    | 3, hi =>
      refine ⟨_, rfl, rfl, _, rfl, iteF ?_⟩
      refine ⟨_, rfl, rfl, _, rfl, iteF ?_⟩
      refine ⟨_, rfl, rfl, _, rfl, iteT ?_⟩
      exact ⟨_, rfl, k1 (by decide)⟩
    | 4, hi =>
      refine ⟨_, rfl, rfl, _, rfl, iteF ?_⟩
      refine ⟨_, rfl, rfl, _, rfl, iteF ?_⟩
      refine ⟨_, rfl, rfl, _, rfl, iteF ?_⟩
      refine ⟨_, rfl, rfl, _, rfl, iteT ?_⟩
      exact ⟨_, rfl, k1 (by decide)⟩
    | 5, hi =>
      refine ⟨_, rfl, rfl, _, rfl, iteF ?_⟩
      refine ⟨_, rfl, rfl, _, rfl, iteF ?_⟩
      refine ⟨_, rfl, rfl, _, rfl, iteF ?_⟩
      refine ⟨_, rfl, rfl, _, rfl, iteF ?_⟩
      refine ⟨_, rfl, rfl, _, rfl, iteT ?_⟩
      exact ⟨_, rfl, _, rfl, fun d hd => k2 (by decide) d hd⟩
    | 6, hi =>
      refine ⟨_, rfl, rfl, _, rfl, iteF ?_⟩
      refine ⟨_, rfl, rfl, _, rfl, iteF ?_⟩
      refine ⟨_, rfl, rfl, _, rfl, iteF ?_⟩
      refine ⟨_, rfl, rfl, _, rfl, iteF ?_⟩
      refine ⟨_, rfl, rfl, _, rfl, iteF ?_⟩
      refine ⟨_, rfl, rfl, _, rfl, iteT ?_⟩
      exact ⟨_, rfl, _, rfl, fun d hd => k2 (by decide) d hd⟩
    | 7, hi =>
      refine ⟨_, rfl, rfl, _, rfl, iteF ?_⟩
      refine ⟨_, rfl, rfl, _, rfl, iteF ?_⟩
      refine ⟨_, rfl, rfl, _, rfl, iteF ?_⟩
      refine ⟨_, rfl, rfl, _, rfl, iteF ?_⟩
      refine ⟨_, rfl, rfl, _, rfl, iteF ?_⟩
      refine ⟨_, rfl, rfl, _, rfl, iteF ?_⟩
      refine ⟨_, rfl, rfl, _, rfl, iteT ?_⟩
      exact ⟨_, rfl, _, rfl, fun d hd => k2 (by decide) d hd⟩
    | 8, hi =>
      refine ⟨_, rfl, rfl, _, rfl, iteF ?_⟩
      refine ⟨_, rfl, rfl, _, rfl, iteF ?_⟩
      refine ⟨_, rfl, rfl, _, rfl, iteF ?_⟩
      refine ⟨_, rfl, rfl, _, rfl, iteF ?_⟩
      refine ⟨_, rfl, rfl, _, rfl, iteF ?_⟩
      refine ⟨_, rfl, rfl, _, rfl, iteF ?_⟩
      refine ⟨_, rfl, rfl, _, rfl, iteF ?_⟩
      refine ⟨_, rfl, rfl, _, rfl, iteT ?_⟩
      exact ⟨_, rfl, _, rfl, fun d hd => k2 (by decide) d hd⟩
    | 9, hi =>
      refine ⟨_, rfl, rfl, _, rfl, iteF ?_⟩
      refine ⟨_, rfl, rfl, _, rfl, iteF ?_⟩
      refine ⟨_, rfl, rfl, _, rfl, iteF ?_⟩
      refine ⟨_, rfl, rfl, _, rfl, iteF ?_⟩
      refine ⟨_, rfl, rfl, _, rfl, iteF ?_⟩
      refine ⟨_, rfl, rfl, _, rfl, iteF ?_⟩
      refine ⟨_, rfl, rfl, _, rfl, iteF ?_⟩
      refine ⟨_, rfl, rfl, _, rfl, iteF ?_⟩
      refine ⟨_, rfl, rfl, _, rfl, iteT ?_⟩
      exact ⟨_, rfl, _, rfl, fun d hd => k2 (by decide) d hd⟩
    | 10, hi =>
      refine ⟨_, rfl, rfl, _, rfl, iteF ?_⟩
      refine ⟨_, rfl, rfl, _, rfl, iteF ?_⟩
      refine ⟨_, rfl, rfl, _, rfl, iteF ?_⟩
      refine ⟨_, rfl, rfl, _, rfl, iteF ?_⟩
      refine ⟨_, rfl, rfl, _, rfl, iteF ?_⟩
      refine ⟨_, rfl, rfl, _, rfl, iteF ?_⟩
      refine ⟨_, rfl, rfl, _, rfl, iteF ?_⟩
      refine ⟨_, rfl, rfl, _, rfl, iteF ?_⟩
      refine ⟨_, rfl, rfl, _, rfl, iteF ?_⟩
      refine ⟨_, rfl, rfl, _, rfl, iteT ?_⟩
      exact ⟨_, rfl, _, rfl, fun d hd => k2 (by decide) d hd⟩
    | 11, hi =>
      refine ⟨_, rfl, rfl, _, rfl, iteF ?_⟩
      refine ⟨_, rfl, rfl, _, rfl, iteF ?_⟩
      refine ⟨_, rfl, rfl, _, rfl, iteF ?_⟩
      refine ⟨_, rfl, rfl, _, rfl, iteF ?_⟩
      refine ⟨_, rfl, rfl, _, rfl, iteF ?_⟩
      refine ⟨_, rfl, rfl, _, rfl, iteF ?_⟩
      refine ⟨_, rfl, rfl, _, rfl, iteF ?_⟩
      refine ⟨_, rfl, rfl, _, rfl, iteF ?_⟩
      refine ⟨_, rfl, rfl, _, rfl, iteF ?_⟩
      refine ⟨_, rfl, rfl, _, rfl, iteF ?_⟩
      refine ⟨_, rfl, rfl, _, rfl, iteT ?_⟩
      exact ⟨_, rfl, _, rfl, fun d hd => k2 (by decide) d hd⟩
    | i + 12, hi => omega
theorem ok_caught {f g : Addr} {fd gd : FuncData} (F : Fun K "_law_caught" "_law_caught" sCaught f fd) (G : Fun K "_law_raise" "_law_raise" sRaise g gd) (bR : Binds K gd ["kind", "held"] []) (gR : mg "_law_raise" = some (.ref g)) (T : TxC P K mg c) :
    FnOk P w K mg base CX0 2 f fd ["kind", "held"] spCaught := by
  have GR : FnOk P w K mg base (L2.CX P w) 1 g gd ["kind", "held"] (spRaise c) := ok_raise G T
  refine F.ok scCaught (fun vs H Q E h => ?_) (fun cdv A outer s H vs Q E hr h => ?_)
  · obtain ⟨i, v, rfl, _⟩ := h
    rfl
  · obtain ⟨i, v, rfl, hi, k⟩ := h
    refine ⟨_, pss_cons (ps_try_any (tb := fun W => tDrop (tCallS (spRaise c) (WE W) (tCons (tVar 0) (tCons (tVar 1) tNil)))) rfl rfl takes0 (fun W pn xe tk _ => pss_one (ps_expr (pe_callS GR hr rfl gR G.kp bR (fun σ => passAt tk σ) (pa_cons (pv 0) (pa_cons (pv 1) pa_nil)))))
      (.as (i := 2) scCaught.nd rfl rfl ⟨rfl, by decide, .inl (T.gc 5 (by decide))⟩ (fun a oe cls d pn hz hf => pss_one (ps_ret (pe_xf (T.xf 5 (by decide) (by decide)) (T.nf 5 (by decide) (by decide)) hz hf (pv 2)))) (.tup (cs := [("InvalidWord", _, .ref (c.at 1)), ("InvalidMachine", _, .ref (c.at 2)), ("InvalidBox", _, .ref (c.at 3)), ("InvalidOperation", _, .ref (c.at 4))]) (List.forall_mem_cons.mpr ⟨⟨rfl, (by show (("InvalidWord" : Str) == ("__debug__" : Str)) = false; decide), .inl (T.gc 1 (by decide))⟩, (List.forall_mem_cons.mpr ⟨⟨rfl, (by show (("InvalidMachine" : Str) == ("__debug__" : Str)) = false; decide), .inl (T.gc 2 (by decide))⟩, (List.forall_mem_cons.mpr ⟨⟨rfl, (by show (("InvalidBox" : Str) == ("__debug__" : Str)) = false; decide), .inl (T.gc 3 (by decide))⟩, (List.forall_mem_cons.mpr ⟨⟨rfl, (by show (("InvalidOperation" : Str) == ("__debug__" : Str)) = false; decide), .inl (T.gc 4 (by decide))⟩, (List.forall_mem_nil _)⟩)⟩)⟩)⟩) (PySem.W.tup4 _ _ _ _) (by show 4 ≤ 100; decide) (fun a oe cls d pn hz hf => pss_one (ps_ret (pv 0))) (.as (i := 2) scCaught.nd rfl rfl ⟨rfl, by decide, .inl (T.gc 6 (by decide))⟩ (fun a oe cls d pn hz hf => pss_one (ps_ret (pe_xf (T.xf 6 (by decide) (by decide)) (T.nf 6 (by decide) (by decide)) hz hf (pv 2)))) (.as (i := 2) scCaught.nd rfl rfl ⟨rfl, by decide, .inl (T.gc 7 (by decide))⟩ (fun a oe cls d pn hz hf => pss_one (ps_ret (pe_xf (T.xf 7 (by decide) (by decide)) (T.nf 7 (by decide) (by decide)) hz hf (pv 2)))) (.as (i := 2) scCaught.nd rfl rfl ⟨rfl, by decide, .inl (T.gc 8 (by decide))⟩ (fun a oe cls d pn hz hf => pss_one (ps_ret (pe_xf (T.xf 8 (by decide) (by decide)) (T.nf 8 (by decide) (by decide)) hz hf (pv 2)))) (.as (i := 2) scCaught.nd rfl rfl ⟨rfl, by decide, .inl (T.gc 9 (by decide))⟩ (fun a oe cls d pn hz hf => pss_one (ps_ret (pe_xf (T.xf 9 (by decide) (by decide)) (T.nf 9 (by decide) (by decide)) hz hf (pv 2)))) (.as (i := 2) scCaught.nd rfl rfl ⟨rfl, by decide, .inl (T.gc 10 (by decide))⟩ (fun a oe cls d pn hz hf => pss_one (ps_ret (pe_xf (T.xf 10 (by decide) (by decide)) (T.nf 10 (by decide) (by decide)) hz hf (pv 2)))) (.as (i := 2) scCaught.nd rfl rfl ⟨rfl, by decide, .inl (T.gc 11 (by decide))⟩ (fun a oe cls d pn hz hf => pss_one (ps_ret (pe_xf (T.xf 11 (by decide) (by decide)) (T.nf 11 (by decide) (by decide)) hz hf (pv 2)))) (.one ⟨rfl, by decide, .inl (T.gc 0 (by decide))⟩ (fun a oe cls d pn hz hf => pss_one (ps_ret (pv 0))) .nil))))))))))
      (pss_one (ps_ret pe_str)), ?_⟩
    refine ⟨_, rfl, _, rfl, i, v, rfl, hi, fun h5 => ?_, fun h5 d hd => ?_⟩
    · have k := k H (Same.refl H)
      rw [if_pos h5] at k
      match i, h5 with
      | 0, h5 =>
        refine ⟨false, T.xm 0 5 (by decide) (by decide), (fun z => nomatch z), fun _ => ?_⟩
        refine ⟨false, exm_any4 T 0 (by decide), (fun z => nomatch z), fun _ => ?_⟩
        refine ⟨false, T.xm 0 6 (by decide) (by decide), (fun z => nomatch z), fun _ => ?_⟩
        refine ⟨false, T.xm 0 7 (by decide) (by decide), (fun z => nomatch z), fun _ => ?_⟩
        refine ⟨false, T.xm 0 8 (by decide) (by decide), (fun z => nomatch z), fun _ => ?_⟩
        refine ⟨false, T.xm 0 9 (by decide) (by decide), (fun z => nomatch z), fun _ => ?_⟩
        refine ⟨false, T.xm 0 10 (by decide) (by decide), (fun z => nomatch z), fun _ => ?_⟩
        refine ⟨false, T.xm 0 11 (by decide) (by decide), (fun z => nomatch z), fun _ => ?_⟩
        refine ⟨true, T.xm 0 0 (by decide) (by decide), fun _ a na => ?_, (fun z => nomatch z)⟩
        exact ⟨_, rfl, k⟩
      | 1, h5 =>
        refine ⟨false, T.xm 1 5 (by decide) (by decide), (fun z => nomatch z), fun _ => ?_⟩
        refine ⟨true, exm_any4 T 1 (by decide), fun _ a na => ?_, (fun z => nomatch z)⟩
        exact ⟨_, rfl, k⟩
      | 2, h5 =>
        refine ⟨false, T.xm 2 5 (by decide) (by decide), (fun z => nomatch z), fun _ => ?_⟩
        refine ⟨true, exm_any4 T 2 (by decide), fun _ a na => ?_, (fun z => nomatch z)⟩
        exact ⟨_, rfl, k⟩
      | 3, h5 =>
        refine ⟨false, T.xm 3 5 (by decide) (by decide), (fun z => nomatch z), fun _ => ?_⟩
        refine ⟨true, exm_any4 T 3 (by decide), fun _ a na => ?_, (fun z => nomatch z)⟩
        exact ⟨_, rfl, k⟩
      | 4, h5 =>
        refine ⟨false, T.xm 4 5 (by decide) (by decide), (fun z => nomatch z), fun _ => ?_⟩
        refine ⟨true, exm_any4 T 4 (by decide), fun _ a na => ?_, (fun z => nomatch z)⟩
        exact ⟨_, rfl, k⟩
      | i + 5, h5 => omega
    · have k := k (upd H d (.xd [(Str.ofString (fld i), v)])) (NV.Same.new (Same.refl H) hd)
      rw [if_neg (by omega)] at k
      match i, hi, h5 with
      | 0, hi, h5 => omega
      | 1, hi, h5 => omega
      | 2, hi, h5 => omega
      | 3, hi, h5 => omega
      | 4, hi, h5 => omega
      | 5, hi, h5 =>
        refine ⟨true, T.xm 5 5 (by decide) (by decide), fun _ a na => ?_, (fun z => nomatch z)⟩
        exact ⟨_, rfl, rfl, rfl, d, _, _, rfl, upd_same, lookup_one _ _, k⟩
      | 6, hi, h5 =>
        refine ⟨false, T.xm 6 5 (by decide) (by decide), (fun z => nomatch z), fun _ => ?_⟩
        refine ⟨false, exm_any4 T 6 (by decide), (fun z => nomatch z), fun _ => ?_⟩
        refine ⟨true, T.xm 6 6 (by decide) (by decide), fun _ a na => ?_, (fun z => nomatch z)⟩
        exact ⟨_, rfl, rfl, rfl, d, _, _, rfl, upd_same, lookup_one _ _, k⟩
      | 7, hi, h5 =>
        refine ⟨false, T.xm 7 5 (by decide) (by decide), (fun z => nomatch z), fun _ => ?_⟩
        refine ⟨false, exm_any4 T 7 (by decide), (fun z => nomatch z), fun _ => ?_⟩
        refine ⟨false, T.xm 7 6 (by decide) (by decide), (fun z => nomatch z), fun _ => ?_⟩
        refine ⟨true, T.xm 7 7 (by decide) (by decide), fun _ a na => ?_, (fun z => nomatch z)⟩
        exact ⟨_, rfl, rfl, rfl, d, _, _, rfl, upd_same, lookup_one _ _, k⟩
      | 8, hi, h5 =>
        refine ⟨false, T.xm 8 5 (by decide) (by decide), (fun z => nomatch z), fun _ => ?_⟩
        refine ⟨false, exm_any4 T 8 (by decide), (fun z => nomatch z), fun _ => ?_⟩
        refine ⟨false, T.xm 8 6 (by decide) (by decide), (fun z => nomatch z), fun _ => ?_⟩
        refine ⟨false, T.xm 8 7 (by decide) (by decide), (fun z => nomatch z), fun _ => ?_⟩
        refine ⟨true, T.xm 8 8 (by decide) (by decide), fun _ a na => ?_, (fun z => nomatch z)⟩
        exact ⟨_, rfl, rfl, rfl, d, _, _, rfl, upd_same, lookup_one _ _, k⟩
      | 9, hi, h5 =>
        refine ⟨false, T.xm 9 5 (by decide) (by decide), (fun z => nomatch z), fun _ => ?_⟩
        refine ⟨false, exm_any4 T 9 (by decide), (fun z => nomatch z), fun _ => ?_⟩
        refine ⟨false, T.xm 9 6 (by decide) (by decide), (fun z => nomatch z), fun _ => ?_⟩
        refine ⟨false, T.xm 9 7 (by decide) (by decide), (fun z => nomatch z), fun _ => ?_⟩
        refine ⟨false, T.xm 9 8 (by decide) (by decide), (fun z => nomatch z), fun _ => ?_⟩
        refine ⟨true, T.xm 9 9 (by decide) (by decide), fun _ a na => ?_, (fun z => nomatch z)⟩
        exact ⟨_, rfl, rfl, rfl, d, _, _, rfl, upd_same, lookup_one _ _, k⟩
      | 10, hi, h5 =>
        refine ⟨false, T.xm 10 5 (by decide) (by decide), (fun z => nomatch z), fun _ => ?_⟩
        refine ⟨false, exm_any4 T 10 (by decide), (fun z => nomatch z), fun _ => ?_⟩
        refine ⟨false, T.xm 10 6 (by decide) (by decide), (fun z => nomatch z), fun _ => ?_⟩
        refine ⟨false, T.xm 10 7 (by decide) (by decide), (fun z => nomatch z), fun _ => ?_⟩
        refine ⟨false, T.xm 10 8 (by decide) (by decide), (fun z => nomatch z), fun _ => ?_⟩
        refine ⟨false, T.xm 10 9 (by decide) (by decide), (fun z => nomatch z), fun _ => ?_⟩
        refine ⟨true, T.xm 10 10 (by decide) (by decide), fun _ a na => ?_, (fun z => nomatch z)⟩
        exact ⟨_, rfl, rfl, rfl, d, _, _, rfl, upd_same, lookup_one _ _, k⟩
      | 11, hi, h5 =>
        refine ⟨false, T.xm 11 5 (by decide) (by decide), (fun z => nomatch z), fun _ => ?_⟩
        refine ⟨false, exm_any4 T 11 (by decide), (fun z => nomatch z), fun _ => ?_⟩
        refine ⟨false, T.xm 11 6 (by decide) (by decide), (fun z => nomatch z), fun _ => ?_⟩
        refine ⟨false, T.xm 11 7 (by decide) (by decide), (fun z => nomatch z), fun _ => ?_⟩
        refine ⟨false, T.xm 11 8 (by decide) (by decide), (fun z => nomatch z), fun _ => ?_⟩
        refine ⟨false, T.xm 11 9 (by decide) (by decide), (fun z => nomatch z), fun _ => ?_⟩
        refine ⟨false, T.xm 11 10 (by decide) (by decide), (fun z => nomatch z), fun _ => ?_⟩
        refine ⟨true, T.xm 11 11 (by decide) (by decide), fun _ a na => ?_, (fun z => nomatch z)⟩
        exact ⟨_, rfl, rfl, rfl, d, _, _, rfl, upd_same, lookup_one _ _, k⟩
      | i + 12, hi, h5 => omega
theorem ok_bybase {f g : Addr} {fd gd : FuncData} (F : Fun K "_law_by_base" "_law_by_base" sByBase f fd) (G : Fun K "_law_raise" "_law_raise" sRaise g gd) (bR : Binds K gd ["kind", "held"] []) (gR : mg "_law_raise" = some (.ref g)) (T : TxC P K mg c) :
    FnOk P w K mg base CX0 2 f fd ["kind", "held"] spByBase := by
  have GR : FnOk P w K mg base (L2.CX P w) 1 g gd ["kind", "held"] (spRaise c) := ok_raise G T
  refine F.ok scByBase (fun vs H Q E h => ?_) (fun cdv A outer s H vs Q E hr h => ?_)
  · obtain ⟨i, v, rfl, _⟩ := h
    rfl
  · obtain ⟨i, v, rfl, hi, k⟩ := h
    refine ⟨_, pss_cons (ps_try_any (tb := fun W => tDrop (tCallS (spRaise c) (WE W) (tCons (tVar 0) (tCons (tVar 1) tNil)))) rfl rfl takes0 (fun W pn xe tk _ => pss_one (ps_expr (pe_callS GR hr rfl gR G.kp bR (fun σ => passAt tk σ) (pa_cons (pv 0) (pa_cons (pv 1) pa_nil)))))
      (.one ⟨rfl, by decide, .inl (T.gc 0 (by decide))⟩ (fun a oe cls d pn hz hf => pss_one (ps_ret pe_bl)) (.tup (cs := [("UnknownName", _, .ref (c.at 6)), ("GoesRound", _, .ref (c.at 7)), ("InvalidNumber", _, .ref (c.at 8)), ("TooMany", _, .ref (c.at 9)), ("NothingToUndo", _, .ref (c.at 10)), ("Refused", _, .ref (c.at 11))]) (List.forall_mem_cons.mpr ⟨⟨rfl, (by show (("UnknownName" : Str) == ("__debug__" : Str)) = false; decide), .inl (T.gc 6 (by decide))⟩, (List.forall_mem_cons.mpr ⟨⟨rfl, (by show (("GoesRound" : Str) == ("__debug__" : Str)) = false; decide), .inl (T.gc 7 (by decide))⟩, (List.forall_mem_cons.mpr ⟨⟨rfl, (by show (("InvalidNumber" : Str) == ("__debug__" : Str)) = false; decide), .inl (T.gc 8 (by decide))⟩, (List.forall_mem_cons.mpr ⟨⟨rfl, (by show (("TooMany" : Str) == ("__debug__" : Str)) = false; decide), .inl (T.gc 9 (by decide))⟩, (List.forall_mem_cons.mpr ⟨⟨rfl, (by show (("NothingToUndo" : Str) == ("__debug__" : Str)) = false; decide), .inl (T.gc 10 (by decide))⟩, (List.forall_mem_cons.mpr ⟨⟨rfl, (by show (("Refused" : Str) == ("__debug__" : Str)) = false; decide), .inl (T.gc 11 (by decide))⟩, (List.forall_mem_nil _)⟩)⟩)⟩)⟩)⟩)⟩) (PySem.W.tup6 _ _ _ _ _ _) (by show 6 ≤ 100; decide) (fun a oe cls d pn hz hf => pss_one (ps_ret pe_bl)) .nil)))
      (pss_one (ps_ret pe_non)), ?_⟩
    have e6 : ∀ i, i < 12 → PySem.W.exmAny K (.ref (c.at i)) [.ref (c.at 6), .ref (c.at 7), .ref (c.at 8), .ref (c.at 9), .ref (c.at 10), .ref (c.at 11)] = some (decide (6 ≤ i)) := fun i hi => by
      rw [exm_any6 T i hi]
      match i, hi with
      | 0, _ => rfl
      | 1, _ => rfl
      | 2, _ => rfl
      | 3, _ => rfl
      | 4, _ => rfl
      | 5, _ => rfl
      | 6, _ => rfl
      | 7, _ => rfl
      | 8, _ => rfl
      | 9, _ => rfl
      | 10, _ => rfl
      | 11, _ => rfl
      | i + 12, hi => omega
    have e0 : ∀ i, i < 12 → PySem.W.exmOne K (.ref (c.at i)) (.ref (c.at 0)) = some (decide (i < 6)) := fun i hi => by
      rw [T.xm i 0 hi (by decide)]
      match i, hi with
      | 0, _ => rfl
      | 1, _ => rfl
      | 2, _ => rfl
      | 3, _ => rfl
      | 4, _ => rfl
      | 5, _ => rfl
      | 6, _ => rfl
      | 7, _ => rfl
      | 8, _ => rfl
      | 9, _ => rfl
      | 10, _ => rfl
      | 11, _ => rfl
      | i + 12, hi => omega
    refine ⟨_, rfl, _, rfl, i, v, rfl, hi, fun h5 => ?_, fun h5 d hd => ?_⟩
    · have k := k H (Same.refl H)
      rw [decide_eq_true (show i < 6 by omega)] at k
      exact ⟨true, (e0 i hi).trans (by rw [decide_eq_true (show i < 6 by omega)]), fun _ a na => k, (fun z => nomatch z)⟩
    · have k := k (upd H d (.xd [(Str.ofString (fld i), v)])) (NV.Same.new (Same.refl H) hd)
      by_cases h6 : i < 6
      · rw [decide_eq_true h6] at k
        exact ⟨true, (e0 i hi).trans (by rw [decide_eq_true h6]), fun _ a na => k, (fun z => nomatch z)⟩
      · rw [decide_eq_false h6] at k
        refine ⟨false, (e0 i hi).trans (by rw [decide_eq_false h6]), (fun z => nomatch z), fun _ => ?_⟩
        exact ⟨true, (e6 i hi).trans (by rw [decide_eq_true (show 6 ≤ i by omega)]), fun _ a na => k, (fun z => nomatch z)⟩
end
end NV

set_option Elab.async false
set_option linter.all false
set_option maxRecDepth 100000
set_option maxHeartbeats 8000000
/-! # One cell of the law -/
namespace NV
open PySem L2
abbrev sRight : Stmt := top 23
abbrev nRight : List Str := ["dice", "held", "made", "bare", "kind", "e", "due", "kept", "spot"]
structure TxR (mg : Str → Option Value) : Prop where
  enum : mg "enumerate" = none
  range : mg "range" = none
  repr : mg "repr" = none
/-- what of the defs stands where: values, sorts, kinds, caught, by base -/
structure DefsR (K : PySem.W.Frag) (mg : Str → Option Value) (c : CA) where
  (fV fO fR fS fK fC fB fX : Addr)
  (dV dO dR dS dK dC dB dX : FuncData)
  V : Fun K "_law_value" "_law_value" sValue fV dV
  bV : Binds K dV ["dice"] []
  mV : mg "_law_value" = some (.ref fV)
  O : Fun K "_law_one_of" "_law_one_of" sOneOf fO dO
  bO : Binds K dO ["dice", "items"] []
  mO : mg "_law_one_of" = some (.ref fO)
  R : Fun K "_law_roll" "_law_roll" sRoll fR dR
  bR : Binds K dR ["dice", "total"] []
  mR : mg "_law_roll" = some (.ref fR)
  S : Fun K "_law_sorts" "_law_sorts" sSorts fS dS
  bS : Binds K dS ["e"] []
  mS : mg "_law_sorts" = some (.ref fS)
  Kd : Fun K "_law_kinds" "_law_kinds" sKinds fK dK
  bK : Binds K dK ["e"] []
  mK : mg "_law_kinds" = some (.ref fK)
  C : Fun K "_law_caught" "_law_caught" sCaught fC dC
  bC : Binds K dC ["kind", "held"] []
  mC : mg "_law_caught" = some (.ref fC)
  B : Fun K "_law_by_base" "_law_by_base" sByBase fB dB
  bB : Binds K dB ["kind", "held"] []
  mB : mg "_law_by_base" = some (.ref fB)
  X : Fun K "_law_raise" "_law_raise" sRaise fX dX
  bX : Binds K dX ["kind", "held"] []
  mX : mg "_law_raise" = some (.ref fX)
theorem free_upd {H : Hp} {d a : Addr} {o : HO} (h : H a = none) (ne : d ≠ a) : upd H d o a = none := by
  rw [upd_ne (Ne.symm ne)]
  exact h
theorem tYes_if {σ : St} {H : Hp} {A B : Hp → Prop} (h : A H) : tYes σ H (fun b H3 => if b = true then A H3 else B H3) := by
  show (if true = true then A H else B H)
  exact h
theorem dp_bls {K : PySem.W.Frag} {H : Hp} {α : Type} (g : α → Bool) : ∀ l : List α, DpAll K H (l.map fun j => V.bl (g j)) (l.map fun j => PyData.bool (g j))
  | [] => .nil
  | _ :: l => .cons (.bl _) (dp_bls g l)
abbrev kindsD (i : Nat) : PyData := .list ((List.range 12).map fun j => .bool (sb i j))
abbrev sortsD (i : Nat) : PyData := .list ((List.range 7).map fun j => .bool (sr i j))
theorem kinds_shaped {i : Nat} (h : i < 12) : SeqAt.shaped (kindsD i) = true := by
  decide +revert
theorem kinds_eqv {i : Nat} (h : i < 12) : (kindsD i).eqv (kindsD i) = true := by
  decide +revert
theorem sorts_shaped {i : Nat} (h : i < 12) : SeqAt.shaped (sortsD i) = true := by
  decide +revert
theorem sorts_eqv {i : Nat} (h : i < 12) : (sortsD i).eqv (sortsD i) = true := by
  decide +revert
theorem dp_kinds {K : PySem.W.Frag} {H : Hp} {p : Addr} {i : Nat} (h : H p = some (.lst (kinds i))) : Dp K H (.ref p) (kindsD i) := .lst (SqL.of h) (dp_bls _ _)
theorem dp_sorts {K : PySem.W.Frag} {H : Hp} {p : Addr} {i : Nat} (h : H p = some (.lst (sorts i))) : Dp K H (.ref p) (sortsD i) := .lst (SqL.of h) (dp_bls _ _)
def seven (x : PyData) : List PyData := [x, x, x, x, x, x, x]
theorem seven_shown {x : PyData} (h : x.shown.length ≤ 4000) : (PyData.list (seven x)).shown.length ≤ sizeLine := by
  have hs : (PyData.list (seven x)).shown = listText [x.shown, x.shown, x.shown, x.shown, x.shown, x.shown, x.shown] := by
    simp only [seven, PyData.shown, PyData.shownAll]
  rw [hs]
  refine Nat.le_trans (listText_len_le _) ?_
  simp only [List.map_cons, List.map_nil, List.sum_cons, List.sum_nil, List.length_cons, List.length_nil]
  refine Nat.le_trans (m := 28100) (by omega) ?_
  show 28100 ≤ 16777216
  decide
theorem seven_showable {x : PyData} (h : x.showable = true) : (PyData.list (seven x)).showable = true := by
  simp only [seven, PyData.showable, PyData.showableAll, h, Bool.and_self]
theorem seven_depth {x : PyData} (h : x.depth ≤ 10) : (PyData.list (seven x)).depth ≤ 40 := by
  simp only [seven, PyData.depth, PyData.depthAll]
  omega
theorem seven_sh {K : PySem.W.Frag} {H : Hp} {v : V} {x : PyData} (h : Sh K H v x) : ShAll K H [v, v, v, v, v, v, v] (seven x) := .cons h (.cons h (.cons h (.cons h (.cons h (.cons h (.cons h .nil))))))
theorem look1 (n : Str) (v : V) : List.lookup n [(n, v)] = some v := by
  rw [List.lookup_cons_self]
theorem int_shown : ∀ i : Nat, i < 12 → (PyData.int i).showable = true ∧ (PyData.int i).shown.length ≤ 4000 ∧ (PyData.int i).depth ≤ 10 := by
  decide +kernel
theorem held_int {K : PySem.W.Frag} {H : Hp} {i : Nat} (h : i < 12) : Held K H (.int i) := ⟨_, .int i, int_shown i h⟩
def fsOf (i : Nat) (v : V) : Option (List (Str × V)) := if i < 5 then none else some [(Str.ofString (fld i), v)]
def spRight : Sp := fun vs H Q _ => ∃ d : Addr, vs = [.ref d] ∧ Dz H d ∧ ∀ H' : Hp, (∀ b o, b ≠ d → H b = some o → H' b = some o) → Q (.bl true) H'
section
variable {P : Program} {w : World} {K : PySem.W.Frag} {mg : Str → Option Value} {base : Heap} {c : CA}
theorem scRight : FnScope nRight ["dice"] (defScope sRight) := ⟨rfl, rfl, rfl, by decide +kernel, rfl, by decide +kernel, by decide +kernel⟩
theorem ok_right {f : Addr} {fd : FuncData} (F : Fun K "_law_right" "_law_right" sRight f fd) (D : DefsR K mg c) (T : TxC P K mg c) (TI : TxI mg) (TT : TxR mg) : FnG P w K mg base CX0 4 f fd ["dice"] spRight := by
  obtain ⟨fV, fO, fR, fS, fK, fC, fB, fX, dV, dO, dR, dS, dK, dC, dB, dX, FV, bV, mV, FO, bO, mO, FR, bR, mR, FS, bS, mS, FK, bK, mK, FC, bC, mC, FB, bB, mB, FX, bX, mX⟩ := D
  have GV : FnOk P w K mg base CX0 3 fV dV ["dice"] (spValue K) := ok_value FV FO bO mO FR bR mR TI
  have GS : FnOk P w K mg base CX0 1 fS dS ["e"] (spAsk c sorts) := ok_sorts FS T
  have GK : FnOk P w K mg base CX0 1 fK dK ["e"] (spAsk c kinds) := ok_kinds FK T
  have GC : FnOk P w K mg base CX0 2 fC dC ["kind", "held"] spCaught := ok_caught FC FX bX mX T
  have GB : FnOk P w K mg base CX0 2 fB dB ["kind", "held"] spByBase := ok_bybase FB FX bX mX T
  refine F.okG scRight (fun vs H Q E h => ?_) (fun cdv A outer s H vs Q E hg hr h => ?_)
  · obtain ⟨d, rfl, _⟩ := h
    rfl
  · obtain ⟨d, rfl, Z, k⟩ := h
    have hr3 : Room 3 _ := hr.mono (by decide)
    have hr2 : Room 2 _ := hr.mono (by decide)
    have hr1 : Room 1 _ := hr.mono (by decide)
    refine ⟨_, (pss_cons (ps_set (i := 1) scRight.nd rfl (Or.inl rfl) (pe_call GV hr3 rfl mV FV.kp bV .nil pass0 (pa_cons (pv 0) pa_nil)))
      (pss_cons (ps_set (i := 2) scRight.nd rfl (Or.inl rfl) (pe_lst (pa_cons (pe_exc1 PySem.F.excBase_ValueError (T.pl 0 (by decide)) (T.gc 0 (by decide)) (T.kc 0 (by decide)) rfl (pv 1)) (pa_cons (pe_exc1 PySem.F.excBase_ValueError (T.pl 1 (by decide)) (T.gc 1 (by decide)) (T.kc 1 (by decide)) rfl (pv 1)) (pa_cons (pe_exc1 PySem.F.excBase_ValueError (T.pl 2 (by decide)) (T.gc 2 (by decide)) (T.kc 2 (by decide)) rfl (pv 1)) (pa_cons (pe_exc1 PySem.F.excBase_ValueError (T.pl 3 (by decide)) (T.gc 3 (by decide)) (T.kc 3 (by decide)) rfl (pv 1)) (pa_cons (pe_exc1 PySem.F.excBase_ValueError (T.pl 4 (by decide)) (T.gc 4 (by decide)) (T.kc 4 (by decide)) rfl (pv 1)) pa_nil)))))))
      (pss_cons (ps_set (i := 3) scRight.nd rfl (Or.inl rfl) (pe_lst (pa_cons (pe_exc00 PySem.F.excBase_ValueError (T.pl 0 (by decide)) (T.gc 0 (by decide)) (T.kc 0 (by decide)) rfl) (pa_cons (pe_exc00 PySem.F.excBase_ValueError (T.pl 1 (by decide)) (T.gc 1 (by decide)) (T.kc 1 (by decide)) rfl) (pa_cons (pe_exc00 PySem.F.excBase_ValueError (T.pl 2 (by decide)) (T.gc 2 (by decide)) (T.kc 2 (by decide)) rfl) (pa_cons (pe_exc00 PySem.F.excBase_ValueError (T.pl 3 (by decide)) (T.gc 3 (by decide)) (T.kc 3 (by decide)) rfl) (pa_cons (pe_exc00 PySem.F.excBase_ValueError (T.pl 4 (by decide)) (T.gc 4 (by decide)) (T.kc 4 (by decide)) rfl) pa_nil)))))))
      (pss_cons (ps_set (i := 2) scRight.nd rfl (Or.inl rfl) (pe_op op_cat (pv 2) (pe_lst (pa_cons (pe_keep (keepC T rfl rfl rfl 5 (by decide) (by decide)) hr (pa_cons (pv 1) pa_nil)) (pa_cons (pe_keep (keepC T rfl rfl rfl 6 (by decide) (by decide)) hr (pa_cons (pv 1) pa_nil)) (pa_cons (pe_keep (keepC T rfl rfl rfl 7 (by decide) (by decide)) hr (pa_cons (pv 1) pa_nil)) (pa_cons (pe_keep (keepC T rfl rfl rfl 8 (by decide) (by decide)) hr (pa_cons (pv 1) pa_nil)) (pa_cons (pe_keep (keepC T rfl rfl rfl 9 (by decide) (by decide)) hr (pa_cons (pv 1) pa_nil)) pa_nil))))))))
      (pss_cons (ps_set (i := 2) scRight.nd rfl (Or.inl rfl) (pe_op op_cat (pv 2) (pe_lst (pa_cons (pe_keep (keepC T rfl rfl rfl 10 (by decide) (by decide)) hr (pa_cons (pv 1) pa_nil)) (pa_cons (pe_keep (keepC T rfl rfl rfl 11 (by decide) (by decide)) hr (pa_cons (pv 1) pa_nil)) pa_nil)))))
      (pss_cons (ps_for PassesOwn.never rfl (pi_enum (by rfl) TT.enum (pa_cons (pv 2) pa_nil)) (pg_tup rfl (pgs_cons (pg_name (i := 4) scRight.nd rfl (Or.inr rfl)) (pgs_cons (pg_name (i := 5) scRight.nd rfl (Or.inl rfl)) pgs_nil)))
        (pss_cons (ps_if (pt_cmpR (op_neD hr.units) (pe_call GK hr1 rfl mK FK.kp bK .nil pass0 (pa_cons (pv 5) pa_nil)) (pe_lc (own := [("spot", 8)]) (g := gName 8) (tt := tYes) rfl scRight.nd (pi_range1 rfl TT.range (pa_cons pe_int pa_nil)) (blkOk_by (N := nRight) (sc := defScope sRight) (by decide +kernel)) (fun _ _ _ _ _ => pg_name (i := 8) scRight.nd rfl (Or.inl rfl)) (fun _ _ _ _ _ => pts_nil) (fun _ _ _ _ _ => (pe_or (pe_cmpR op_eq (pv 8) (pv 4) (nomark _)) (pe_one (pe_and (pe_cmpR op_eq (pv 8) pe_int (nomark _)) (pe_one (pe_cmpR op_lt (pv 4) pe_int (nomark _)))))))) (nomark _)) (pss_one (ps_ret pe_bl)) pss_nil)
        (pss_cons (ps_set (i := 6) scRight.nd rfl (Or.inl rfl) (pe_ifExp (pt_cmpR op_lt (pv 4) pe_int (nomark _)) (pv 4) (pv 1)))
        (pss_one (ps_if (PW.pt (pw_or (pt_cmpR op_ne (pe_callB (call_repr hg hr.units) (by rfl) TT.repr (by decide +kernel) (pa_cons (pe_call GC hr2 rfl mC FC.kp bC .nil pass0 (pa_cons (pv 4) (pa_cons (pv 1) pa_nil))) pa_nil)) (pe_callB (call_repr hg hr.units) (by rfl) TT.repr (by decide +kernel) (pa_cons (pv 6) pa_nil)) (nomark _)) (pw_or1 (pt_cmpR op_ne (pe_call GB hr2 rfl mB FB.kp bB .nil pass0 (pa_cons (pv 4) (pa_cons (pv 1) pa_nil))) (pe_cmpR op_lt (pv 4) pe_int (nomark _)) (nomark _))))) (pss_one (ps_ret pe_bl)) pss_nil)))))
      (pss_cons (ps_for PassesOwn.never rfl (pi_enum (by rfl) TT.enum (pa_cons (pv 3) pa_nil)) (pg_tup rfl (pgs_cons (pg_name (i := 4) scRight.nd rfl (Or.inr rfl)) (pgs_cons (pg_name (i := 5) scRight.nd rfl (Or.inl rfl)) pgs_nil)))
        (pss_one (ps_if (PW.pt (pw_or (pt_cmpR (op_neD hr.units) (pe_call GK hr1 rfl mK FK.kp bK .nil pass0 (pa_cons (pv 5) pa_nil)) (pe_call GK hr1 rfl mK FK.kp bK .nil pass0 (pa_cons (pe_ix ix_list (pv 2) (pv 4) (fun _ _ => rfl)) pa_nil)) (nomark _)) (pw_or1 (pt_cmpR (op_neD hr.units) (pe_call GS hr1 rfl mS FS.kp bS .nil pass0 (pa_cons (pv 5) pa_nil)) (pe_call GS hr1 rfl mS FS.kp bS .nil pass0 (pa_cons (pe_ix ix_list (pv 2) (pv 4) (fun _ _ => rfl)) pa_nil)) (nomark _))))) (pss_one (ps_ret pe_bl)) pss_nil)))
      (pss_cons (ps_set (i := 7) scRight.nd rfl (Or.inl rfl) (pe_lstN (pa_cons (pe_fldV (pe_ix ix_list (pv 2) pe_int (fun _ _ => rfl))) (pa_cons (pe_fldV (pe_ix ix_list (pv 2) pe_int (fun _ _ => rfl))) (pa_cons (pe_fldV (pe_ix ix_list (pv 2) pe_int (fun _ _ => rfl))) (pa_cons (pe_fldV (pe_ix ix_list (pv 2) pe_int (fun _ _ => rfl))) (pa_cons (pe_fldV (pe_ix ix_list (pv 2) pe_int (fun _ _ => rfl))) (pa_cons (pe_fldV (pe_ix ix_list (pv 2) pe_int (fun _ _ => rfl))) (pa_cons (pe_fldV (pe_ix ix_list (pv 2) pe_int (fun _ _ => rfl))) pa_nil)))))))))
      (pss_one (ps_ret (pe_cmpR op_eq (pe_callB (call_repr hg hr.units) (by rfl) TT.repr (by decide +kernel) (pa_cons (pv 7) pa_nil)) (pe_callB (call_repr hg hr.units) (by rfl) TT.repr (by decide +kernel) (pa_cons (pe_op op_repN (pe_lst (pa_cons (pv 1) pa_nil)) pe_int) pa_nil)) (nomark _)))))))))))), ?_⟩
    refine ⟨_, rfl, d, rfl, Z, fun held H1 Z1 st1 hh => ?_⟩
    refine ⟨_, rfl, fun a0 n0 => ⟨_, rfl, fun a1 n1 => ⟨_, rfl, fun a2 n2 => ⟨_, rfl, fun a3 n3 => ⟨_, rfl, fun a4 n4 => ⟨(by show 5 ≤ sizeLine; decide), fun pm nm => ?_⟩⟩⟩⟩⟩⟩
    generalize hX : upd _ pm (.lst _) = H2
    have e0 : ExV H2 a0 (c.at 0) none := by
      show H2 a0 = some _
      rw [← hX]
      repeat (first | exact upd_same | refine keep_new ?_ (by assumption))
    have e1 : ExV H2 a1 (c.at 1) none := by
      show H2 a1 = some _
      rw [← hX]
      repeat (first | exact upd_same | refine keep_new ?_ (by assumption))
    have e2 : ExV H2 a2 (c.at 2) none := by
      show H2 a2 = some _
      rw [← hX]
      repeat (first | exact upd_same | refine keep_new ?_ (by assumption))
    have e3 : ExV H2 a3 (c.at 3) none := by
      show H2 a3 = some _
      rw [← hX]
      repeat (first | exact upd_same | refine keep_new ?_ (by assumption))
    have e4 : ExV H2 a4 (c.at 4) none := by
      show H2 a4 = some _
      rw [← hX]
      repeat (first | exact upd_same | refine keep_new ?_ (by assumption))
    have fm : H2 pm = some (.lst [.ref a0, .ref a1, .ref a2, .ref a3, .ref a4]) := by
      rw [← hX]
      exact upd_same
    have s2 : Same H1 H2 := by
      rw [← hX]
      repeat (first | exact Same.refl _ | refine NV.Same.new ?_ (by assumption))
    clear n0 n1 n2 n3 n4 nm hX
    -- bare
    refine fun b0 n0 => fun b1 n1 => fun b2 n2 => fun b3 n3 => fun b4 n4 => ⟨(by show 5 ≤ sizeLine; decide), fun pb nb => ?_⟩
    generalize hX : upd _ pb (.lst _) = H3
    have g0 : ExV H3 b0 (c.at 0) none := by
      show H3 b0 = some _
      rw [← hX]
      repeat (first | exact upd_same | refine keep_new ?_ (by assumption))
    have g1 : ExV H3 b1 (c.at 1) none := by
      show H3 b1 = some _
      rw [← hX]
      repeat (first | exact upd_same | refine keep_new ?_ (by assumption))
    have g2 : ExV H3 b2 (c.at 2) none := by
      show H3 b2 = some _
      rw [← hX]
      repeat (first | exact upd_same | refine keep_new ?_ (by assumption))
    have g3 : ExV H3 b3 (c.at 3) none := by
      show H3 b3 = some _
      rw [← hX]
      repeat (first | exact upd_same | refine keep_new ?_ (by assumption))
    have g4 : ExV H3 b4 (c.at 4) none := by
      show H3 b4 = some _
      rw [← hX]
      repeat (first | exact upd_same | refine keep_new ?_ (by assumption))
    have fb : H3 pb = some (.lst [.ref b0, .ref b1, .ref b2, .ref b3, .ref b4]) := by
      rw [← hX]
      exact upd_same
    have s3 : Same H2 H3 := by
      rw [← hX]
      repeat (first | exact Same.refl _ | refine NV.Same.new ?_ (by assumption))
    clear n0 n1 n2 n3 n4 nb hX
    -- made, five more
    refine ⟨_, rfl, _, rfl, _, rfl, fun a5 d5 na5 nd5 ne5 => ⟨_, rfl, _, rfl, fun a6 d6 na6 nd6 ne6 => ⟨_, rfl, _, rfl, fun a7 d7 na7 nd7 ne7 => ⟨_, rfl, _, rfl, fun a8 d8 na8 nd8 ne8 => ⟨_, rfl, _, rfl, fun a9 d9 na9 nd9 ne9 => ⟨(by show 5 ≤ sizeLine; decide), fun q1 nq1 => ?_⟩⟩⟩⟩⟩⟩
    refine ⟨pm, q1, [.ref a0, .ref a1, .ref a2, .ref a3, .ref a4], [.ref a5, .ref a6, .ref a7, .ref a8, .ref a9], rfl, rfl, ?_, upd_same, (by show 10 ≤ sizeLine; decide), fun pm2 npm2 => ?_⟩
    · have fm := s3 _ _ fm
      repeat (first | exact fm | refine keep_new ?_ (by assumption) | refine keep_new ?_ (free_upd (by assumption) (by assumption)))
    generalize hX : upd _ pm2 (.lst _) = H4
    have e5 : ExV H4 a5 (c.at 5) (some [(Str.ofString (fld 5), held)]) := by
      refine ⟨d5, ?_, ?_⟩
      · rw [← hX]
        repeat (first | exact upd_same | refine keep_new ?_ (by assumption) | refine keep_new ?_ (free_upd (by assumption) (by assumption)))
      · rw [← hX]
        repeat (first | exact upd_same | refine keep_new ?_ (by assumption) | refine keep_new ?_ (free_upd (by assumption) (by assumption)))
    have e6 : ExV H4 a6 (c.at 6) (some [(Str.ofString (fld 6), held)]) := by
      refine ⟨d6, ?_, ?_⟩
      · rw [← hX]
        repeat (first | exact upd_same | refine keep_new ?_ (by assumption) | refine keep_new ?_ (free_upd (by assumption) (by assumption)))
      · rw [← hX]
        repeat (first | exact upd_same | refine keep_new ?_ (by assumption) | refine keep_new ?_ (free_upd (by assumption) (by assumption)))
    have e7 : ExV H4 a7 (c.at 7) (some [(Str.ofString (fld 7), held)]) := by
      refine ⟨d7, ?_, ?_⟩
      · rw [← hX]
        repeat (first | exact upd_same | refine keep_new ?_ (by assumption) | refine keep_new ?_ (free_upd (by assumption) (by assumption)))
      · rw [← hX]
        repeat (first | exact upd_same | refine keep_new ?_ (by assumption) | refine keep_new ?_ (free_upd (by assumption) (by assumption)))
    have e8 : ExV H4 a8 (c.at 8) (some [(Str.ofString (fld 8), held)]) := by
      refine ⟨d8, ?_, ?_⟩
      · rw [← hX]
        repeat (first | exact upd_same | refine keep_new ?_ (by assumption) | refine keep_new ?_ (free_upd (by assumption) (by assumption)))
      · rw [← hX]
        repeat (first | exact upd_same | refine keep_new ?_ (by assumption) | refine keep_new ?_ (free_upd (by assumption) (by assumption)))
    have e9 : ExV H4 a9 (c.at 9) (some [(Str.ofString (fld 9), held)]) := by
      refine ⟨d9, ?_, ?_⟩
      · rw [← hX]
        repeat (first | exact upd_same | refine keep_new ?_ (by assumption) | refine keep_new ?_ (free_upd (by assumption) (by assumption)))
      · rw [← hX]
        repeat (first | exact upd_same | refine keep_new ?_ (by assumption) | refine keep_new ?_ (free_upd (by assumption) (by assumption)))
    have fm2 : H4 pm2 = some (.lst [.ref a0, .ref a1, .ref a2, .ref a3, .ref a4, .ref a5, .ref a6, .ref a7, .ref a8, .ref a9]) := by
      rw [← hX]
      exact upd_same
    have s4 : Same H3 H4 := by
      rw [← hX]
      repeat (first | exact Same.refl _ | refine NV.Same.new ?_ (by assumption) | refine NV.Same.new ?_ (free_upd (by assumption) (by assumption)))
    clear na5 na6 na7 na8 na9 nd5 nd6 nd7 nd8 nd9 ne5 ne6 ne7 ne8 ne9 nq1 npm2 hX
    refine ⟨_, rfl, _, rfl, _, rfl, fun a10 d10 na10 nd10 ne10 => ⟨_, rfl, _, rfl, fun a11 d11 na11 nd11 ne11 => ⟨(by show 2 ≤ sizeLine; decide), fun q2 nq2 => ?_⟩⟩⟩
    refine ⟨pm2, q2, [.ref a0, .ref a1, .ref a2, .ref a3, .ref a4, .ref a5, .ref a6, .ref a7, .ref a8, .ref a9], [.ref a10, .ref a11], rfl, rfl, ?_, upd_same, (by show 12 ≤ sizeLine; decide), fun pm3 npm3 => ?_⟩
    · repeat (first | exact fm2 | refine keep_new ?_ (by assumption) | refine keep_new ?_ (free_upd (by assumption) (by assumption)))
    generalize hX : upd _ pm3 (.lst _) = H5
    have e10 : ExV H5 a10 (c.at 10) (some [(Str.ofString (fld 10), held)]) := by
      refine ⟨d10, ?_, ?_⟩
      · rw [← hX]
        repeat (first | exact upd_same | refine keep_new ?_ (by assumption) | refine keep_new ?_ (free_upd (by assumption) (by assumption)))
      · rw [← hX]
        repeat (first | exact upd_same | refine keep_new ?_ (by assumption) | refine keep_new ?_ (free_upd (by assumption) (by assumption)))
    have e11 : ExV H5 a11 (c.at 11) (some [(Str.ofString (fld 11), held)]) := by
      refine ⟨d11, ?_, ?_⟩
      · rw [← hX]
        repeat (first | exact upd_same | refine keep_new ?_ (by assumption) | refine keep_new ?_ (free_upd (by assumption) (by assumption)))
      · rw [← hX]
        repeat (first | exact upd_same | refine keep_new ?_ (by assumption) | refine keep_new ?_ (free_upd (by assumption) (by assumption)))
    have fm3 : H5 pm3 = some (.lst [.ref a0, .ref a1, .ref a2, .ref a3, .ref a4, .ref a5, .ref a6, .ref a7, .ref a8, .ref a9, .ref a10, .ref a11]) := by
      rw [← hX]
      exact upd_same
    have s5 : Same H4 H5 := by
      rw [← hX]
      repeat (first | exact Same.refl _ | refine NV.Same.new ?_ (by assumption) | refine NV.Same.new ?_ (free_upd (by assumption) (by assumption)))
    clear na10 na11 nd10 nd11 ne10 ne11 nq2 npm3 hX
    have s45 := s4.trans s5
    have s35 := s3.trans s45
    have s25 := s2.trans s35
    have e0 := ExV.same e0 s35
    have g0 := ExV.same g0 s45
    have e1 := ExV.same e1 s35
    have g1 := ExV.same g1 s45
    have e2 := ExV.same e2 s35
    have g2 := ExV.same g2 s45
    have e3 := ExV.same e3 s35
    have g3 := ExV.same g3 s45
    have e4 := ExV.same e4 s35
    have g4 := ExV.same g4 s45
    have e5 := ExV.same e5 s5
    have e6 := ExV.same e6 s5
    have e7 := ExV.same e7 s5
    have e8 := ExV.same e8 s5
    have e9 := ExV.same e9 s5
    have fb := s45 _ _ fb
    have hh : Held K H5 held := by
      obtain ⟨dt, h1, h2, h3, h4⟩ := hh
      exact ⟨dt, Sh.same s25 _ _ h1, h2, h3, h4⟩
    have st5 : Still d H H5 := fun b o hb h => s25 _ _ (st1 b o hb h)
    have eAt : ∀ i : Nat, i < 12 → ∃ a, ([.ref a0, .ref a1, .ref a2, .ref a3, .ref a4, .ref a5, .ref a6, .ref a7, .ref a8, .ref a9, .ref a10, .ref a11] : List V)[i]? = some (.ref a) ∧ atI ([.ref a0, .ref a1, .ref a2, .ref a3, .ref a4, .ref a5, .ref a6, .ref a7, .ref a8, .ref a9, .ref a10, .ref a11] : List V) (i : Int) = some (.ref a) ∧ ExV H5 a (c.at i) (fsOf i held) := fun i hi => by
      match i, hi with
      | 0, _ => exact ⟨a0, rfl, rfl, e0⟩
      | 1, _ => exact ⟨a1, rfl, rfl, e1⟩
      | 2, _ => exact ⟨a2, rfl, rfl, e2⟩
      | 3, _ => exact ⟨a3, rfl, rfl, e3⟩
      | 4, _ => exact ⟨a4, rfl, rfl, e4⟩
      | 5, _ => exact ⟨a5, rfl, rfl, e5⟩
      | 6, _ => exact ⟨a6, rfl, rfl, e6⟩
      | 7, _ => exact ⟨a7, rfl, rfl, e7⟩
      | 8, _ => exact ⟨a8, rfl, rfl, e8⟩
      | 9, _ => exact ⟨a9, rfl, rfl, e9⟩
      | 10, _ => exact ⟨a10, rfl, rfl, e10⟩
      | 11, _ => exact ⟨a11, rfl, rfl, e11⟩
      | i + 12, hi => omega
    clear s2 s3 s4 s5 s45 s35 s25 fm fm2 Z1 st1
    refine ⟨_, rfl, pm3, _, rfl, SqL.of fm3, for_it (walk_enum (K := K) (a := pm3) (xs := [.ref a0, .ref a1, .ref a2, .ref a3, .ref a4, .ref a5, .ref a6, .ref a7, .ref a8, .ref a9, .ref a10, .ref a11]))
      (fun i σ H' => ∃ k e due : Option V, σ = [some (.ref d), some held, some (.ref pm3), some (.ref pb), k, e, due, none, none] ∧ Same H5 H') ⟨none, none, none, rfl, Same.refl _⟩ (fun i σ H' _ ⟨_, _, _, _, s⟩ => SqL.of (s _ _ fm3)) ?_ ?_⟩
    · rintro i x σ H6 H7 hi ⟨k0, e', due, rfl, s6⟩ ⟨T', x', y, rfl, nT, rfl, hx, hy⟩
      cases hx
      obtain ⟨a, ha, _, ev⟩ := eAt i hi
      have ey : y = .ref a := Option.some.inj (hy.symm.trans ha)
      subst ey
      refine ⟨T', _, rfl, SqT.of upd_same, rfl, _, _, rfl, _, _, rfl, rfl, ?_⟩
      have s7 : Same H5 (upd H6 T' (.tup [.int (i : Nat), .ref a])) := NV.Same.new s6 nT
      refine ⟨_, rfl, a, i, fsOf i held, rfl, hi, ExV.same ev s7, fun p H8 np hp s8 => ?_⟩
      refine ⟨12, rfl, by decide, by decide, fun D nD => lc_range (lo := 0) (n := 12) (fun j H9 => H9 D = some (.lst ((List.range j).map fun t => V.bl (sb i t))) ∧ ∀ b o, b ≠ D → H8 b = some o → H9 b = some o)
        ⟨upd_same, fun b o hb h => keep_new h nD⟩ ?_ ?_⟩
      · rintro j H9 hj ⟨q1, q2⟩
        refine ⟨rfl, tYes_if ?_⟩
        have dj : decide (V.int (0 + (j : Int)) = V.int (i : Int)) = decide (i = j) := by
          by_cases h : i = j
          · subst h
            simp
          · have n : ¬ V.int (0 + (j : Int)) = V.int (i : Int) := fun z => h (by injection z with z; omega)
            rw [decide_eq_false n, decide_eq_false h]
        have d0 : decide (V.int (0 + (j : Int)) = V.int 0) = decide (j = 0) := by
          by_cases h : j = 0
          · subst h
            simp
          · have n : ¬ V.int (0 + (j : Int)) = V.int 0 := fun z => h (by injection z with z; omega)
            rw [decide_eq_false n, decide_eq_false h]
        have d6 : decide ((i : Int) < 6) = decide (i < 6) := by
          by_cases h : i < 6
          · rw [decide_eq_true h, decide_eq_true (by omega)]
          · rw [decide_eq_false h, decide_eq_false (by omega)]
        have fin : ∀ v : Bool, v = sb i j → ∃ acc, H9 D = some (.lst acc) ∧ acc.length < sizeLine ∧ upd H9 D (.lst (acc ++ [V.bl v])) D = some (.lst ((List.range (j + 1)).map fun t => V.bl (sb i t))) ∧
            ∀ b o, b ≠ D → H8 b = some o → upd H9 D (.lst (acc ++ [V.bl v])) b = some o := fun v hv => by
          refine ⟨_, q1, ?_, ?_, fun b o hb h => ?_⟩
          · rw [List.length_map, List.length_range]
            exact Nat.lt_trans hj (by decide)
          · rw [upd_same, List.range_succ, List.map_append, hv]
            rfl
          · rw [upd_ne hb]
            exact q2 b o hb h
        refine ⟨_, rfl, _, rfl, rfl, _, rfl, ?_⟩
        rw [dj]
        refine ite2 (fun h => ?_) (fun h => ?_)
        · exact fin true (by unfold sb; rw [h]; rfl)
        · refine ⟨_, rfl, rfl, _, rfl, ?_⟩
          rw [d0]
          refine ite2 (fun h2 => ?_) (fun h2 => ?_)
          · refine ⟨_, rfl, _, _, rfl, rfl, ?_⟩
            have hv : (fun i j => V.bl (decide (i < j))) (i : Int) 6 = V.bl (decide (i < 6)) := congrArg V.bl d6
            show ∃ acc, _ = _ ∧ _
            rw [hv]
            exact fin (decide (i < 6)) (by unfold sb; rw [Bool.not_eq_true] at h; rw [h, h2]; rfl)
          · exact fin false (by unfold sb; rw [Bool.not_eq_true] at h h2; rw [h, h2]; rfl)
      · rintro H9 ⟨q1, q2⟩
        have s9 : Same H5 H9 := fun b o h => q2 b o (fun z => by
            subst z
            have := s8 _ _ (s7 _ _ h)
            rw [nD] at this
            cases this) (s8 _ _ (s7 _ _ h))
        have hp9 : H9 p = some (.lst (kinds i)) := q2 _ _ (fun z => by
            subst z
            rw [nD] at hp
            cases hp) hp
        refine ⟨_, _, dp_kinds hp9, dp_kinds q1, kinds_shaped hi, kinds_shaped hi, ?_⟩
        rw [kinds_eqv hi]
        refine ⟨_, rfl, iteF ?_⟩
        refine ⟨_, rfl, _, _, rfl, rfl, _, rfl, ?_⟩
        have d6 : decide ((i : Int) < 6) = decide (i < 6) := by
          by_cases h : i < 6
          · rw [decide_eq_true h, decide_eq_true (by omega)]
          · rw [decide_eq_false h, decide_eq_false (by omega)]
        have d5 : decide ((i : Int) < 5) = decide (i < 5) := by
          by_cases h : i < 5
          · rw [decide_eq_true h, decide_eq_true (by omega)]
          · rw [decide_eq_false h, decide_eq_false (by omega)]
        rw [d5]
        have hw : Held K H9 (if i < 5 then V.int i else held) := by
          by_cases h5 : i < 5
          · rw [if_pos h5]
            exact held_int hi
          · rw [if_neg h5]
            obtain ⟨dt, h1, h2, h3, h4⟩ := hh
            exact ⟨dt, Sh.same s9 _ _ h1, h2, h3, h4⟩
        refine ite2 (fun h5 => ?_) (fun h5 => ?_)
        · have h5 := of_decide_eq_true h5
          rw [if_pos h5] at hw
          obtain ⟨dt, h1, h2, h3, h4⟩ := hw
          have h3 : dt.shown.length ≤ sizeLine := Nat.le_trans h3 (by show 4000 ≤ sizeLine; decide)
          have h4 : dt.depth ≤ 40 := Nat.le_trans h4 (by decide)
          refine ⟨_, rfl, _, rfl, _, rfl, i, held, rfl, hi, fun H10 s10 => ?_⟩
          rw [if_pos h5]
          refine ⟨_, dt, rfl, Sh.same s10 _ _ h1, h2, h3, h4, _, rfl, _, dt, rfl, Sh.same s10 _ _ h1, h2, h3, h4, rfl, _, rfl, ?_⟩
          have ne : (!decide (V.str dt.shown = V.str dt.shown)) = false := by
            rw [decide_eq_true rfl]
            rfl
          rw [ne]
          refine iteF ?_
          refine ⟨_, rfl, _, rfl, i, held, rfl, hi, fun H11 s11 => ⟨_, rfl, _, _, rfl, rfl, rfl, _, rfl, ?_⟩⟩
          rw [show (!decide (V.bl (decide (i < 6)) = V.bl (decide ((i : Int) < 6)))) = false from by rw [d6]; rw [decide_eq_true rfl]; rfl]
          refine iteF ?_
          exact ⟨_, _, _, rfl, (s9.trans s10).trans s11⟩
        · have h5 : ¬ i < 5 := fun z => h5 (decide_eq_true z)
          rw [if_neg h5] at hw
          obtain ⟨dt, h1, h2, h3, h4⟩ := hw
          have h3 : dt.shown.length ≤ sizeLine := Nat.le_trans h3 (by show 4000 ≤ sizeLine; decide)
          have h4 : dt.depth ≤ 40 := Nat.le_trans h4 (by decide)
          refine ⟨_, rfl, _, rfl, _, rfl, i, held, rfl, hi, fun H10 s10 => ?_⟩
          rw [if_neg h5]
          refine ⟨_, dt, rfl, Sh.same s10 _ _ h1, h2, h3, h4, _, rfl, _, dt, rfl, Sh.same s10 _ _ h1, h2, h3, h4, rfl, _, rfl, ?_⟩
          have ne : (!decide (V.str dt.shown = V.str dt.shown)) = false := by
            rw [decide_eq_true rfl]
            rfl
          rw [ne]
          refine iteF ?_
          refine ⟨_, rfl, _, rfl, i, held, rfl, hi, fun H11 s11 => ⟨_, rfl, _, _, rfl, rfl, rfl, _, rfl, ?_⟩⟩
          rw [show (!decide (V.bl (decide (i < 6)) = V.bl (decide ((i : Int) < 6)))) = false from by rw [d6]; rw [decide_eq_true rfl]; rfl]
          refine iteF ?_
          exact ⟨_, _, _, rfl, (s9.trans s10).trans s11⟩
    · rintro σ8 H8 ⟨k0, e', due, rfl, s8⟩
      have gAt : ∀ i, i < 5 → ∃ a, ([.ref b0, .ref b1, .ref b2, .ref b3, .ref b4] : List V)[i]? = some (.ref a) ∧ ExV H5 a (c.at i) none := fun i hi => by
        match i, hi with
        | 0, _ => exact ⟨b0, rfl, g0⟩
        | 1, _ => exact ⟨b1, rfl, g1⟩
        | 2, _ => exact ⟨b2, rfl, g2⟩
        | 3, _ => exact ⟨b3, rfl, g3⟩
        | 4, _ => exact ⟨b4, rfl, g4⟩
        | i + 5, hi => omega
      refine ⟨_, rfl, pb, _, rfl, SqL.of (s8 _ _ fb), for_it (walk_enum (K := K) (a := pb) (xs := [.ref b0, .ref b1, .ref b2, .ref b3, .ref b4]))
        (fun i σ H' => ∃ k e due : Option V, σ = [some (.ref d), some held, some (.ref pm3), some (.ref pb), k, e, due, none, none] ∧ Same H5 H') ⟨_, _, _, rfl, s8⟩ (fun i σ H' _ ⟨_, _, _, _, s⟩ => SqL.of (s _ _ fb)) ?_ ?_⟩
      · rintro i x σ H6 H7 hi ⟨k0, e', due, rfl, s6⟩ ⟨T', x', y, rfl, nT, rfl, hx, hy⟩
        cases hx
        have hi5 : i < 5 := hi
        have hi : i < 12 := by omega
        obtain ⟨b, hb, gv⟩ := gAt i hi5
        obtain ⟨a, _, ha, ev⟩ := eAt i hi
        have e5 : fsOf i held = none := if_pos hi5
        rw [e5] at ev
        have ey : y = .ref b := Option.some.inj (hy.symm.trans hb)
        subst ey
        refine ⟨T', _, rfl, SqT.of upd_same, rfl, _, _, rfl, _, _, rfl, rfl, ?_⟩
        have s7 : Same H5 (upd H6 T' (.tup [.int (i : Nat), .ref b])) := NV.Same.new s6 nT
        refine ⟨_, rfl, b, i, none, rfl, hi, ExV.same gv s7, fun p1 H8 np1 hp1 s8 => ?_⟩
        have t8 := s7.trans s8
        refine ⟨_, rfl, _, rfl, _, _, _, _, rfl, rfl, SqL.of (t8 _ _ fm3), ha, a, i, none, rfl, hi, ExV.same ev t8, fun p2 H9 np2 hp2 s9 => ?_⟩
        have t9 := t8.trans s9
        refine ⟨_, _, dp_kinds (s9 _ _ hp1), dp_kinds hp2, kinds_shaped hi, kinds_shaped hi, ?_⟩
        rw [kinds_eqv hi]
        refine ⟨_, rfl, iteF ?_⟩
        refine ⟨_, rfl, b, i, none, rfl, hi, ExV.same gv t9, fun p3 H10 np3 hp3 s10 => ?_⟩
        have t10 := t9.trans s10
        refine ⟨_, rfl, _, rfl, _, _, _, _, rfl, rfl, SqL.of (t10 _ _ fm3), ha, a, i, none, rfl, hi, ExV.same ev t10, fun p4 H11 np4 hp4 s11 => ?_⟩
        refine ⟨_, _, dp_sorts (s11 _ _ hp3), dp_sorts hp4, sorts_shaped hi, sorts_shaped hi, ?_⟩
        rw [sorts_eqv hi]
        refine ⟨_, rfl, iteF ?_⟩
        exact ⟨_, _, _, rfl, t10.trans s11⟩
      · rintro σ9 H9 ⟨k0, e', due, rfl, s9⟩
        refine ⟨_, rfl, _, _, _, _, rfl, rfl, SqL.of (s9 _ _ fm3), rfl, _, _, _, held, rfl, ExV.same e5 s9, T.xf 5 (by decide) (by decide), T.nf 5 (by decide) (by decide), look1 _ _, _, rfl, _, _, _, _, rfl, rfl, SqL.of (s9 _ _ fm3), rfl, _, _, _, held, rfl, ExV.same e6 s9, T.xf 6 (by decide) (by decide), T.nf 6 (by decide) (by decide), look1 _ _, _, rfl, _, _, _, _, rfl, rfl, SqL.of (s9 _ _ fm3), rfl, _, _, _, held, rfl, ExV.same e7 s9, T.xf 7 (by decide) (by decide), T.nf 7 (by decide) (by decide), look1 _ _, _, rfl, _, _, _, _, rfl, rfl, SqL.of (s9 _ _ fm3), rfl, _, _, _, held, rfl, ExV.same e8 s9, T.xf 8 (by decide) (by decide), T.nf 8 (by decide) (by decide), look1 _ _, _, rfl, _, _, _, _, rfl, rfl, SqL.of (s9 _ _ fm3), rfl, _, _, _, held, rfl, ExV.same e9 s9, T.xf 9 (by decide) (by decide), T.nf 9 (by decide) (by decide), look1 _ _, _, rfl, _, _, _, _, rfl, rfl, SqL.of (s9 _ _ fm3), rfl, _, _, _, held, rfl, ExV.same e10 s9, T.xf 10 (by decide) (by decide), T.nf 10 (by decide) (by decide), look1 _ _, _, rfl, _, _, _, _, rfl, rfl, SqL.of (s9 _ _ fm3), rfl, _, _, _, held, rfl, ExV.same e11 s9, T.xf 11 (by decide) (by decide), T.nf 11 (by decide) (by decide), look1 _ _, (by show 7 ≤ sizeLine; decide), fun q3 nq3 nz3 => ?_⟩
        have f3 : (upd H9 q3 (.lst [held, held, held, held, held, held, held])) q3 = some (.lst [held, held, held, held, held, held, held]) := upd_same
        have s10 : Same H5 (upd H9 q3 (.lst [held, held, held, held, held, held, held])) := NV.Same.new s9 nq3
        obtain ⟨dt, h1, h2, h3, h4⟩ := hh
        generalize upd H9 q3 (.lst [held, held, held, held, held, held, held]) = H10 at f3 s10 ⊢
        refine ⟨_, rfl, _, .list (seven dt), rfl, .lst (SqL.of f3) nz3 (seven_sh (Sh.same s10 _ _ h1)), seven_showable h2, seven_shown h3, seven_depth h4, _, rfl, (by show 1 ≤ sizeLine; decide), fun p4 np4 => ?_⟩
        have s11 : Same H5 (upd H10 p4 (.lst [held])) := NV.Same.new s10 np4
        refine ⟨_, _, _, rfl, rfl, upd_same, by decide, by decide, (by show 7 ≤ sizeLine; decide), fun q5 nq5 nz5 => ?_⟩
        have s12 : Same H5 (upd (upd H10 p4 (.lst [held])) q5 (.lst [held, held, held, held, held, held, held])) := NV.Same.new s11 nq5
        refine ⟨_, .list (seven dt), rfl, .lst (SqL.of (xs := [held, held, held, held, held, held, held]) upd_same) nz5 (seven_sh (Sh.same s12 _ _ h1)), seven_showable h2, seven_shown h3, seven_depth h4, rfl, ?_⟩
        show Q (V.bl (decide (V.str _ = V.str _))) _
        rw [decide_eq_true rfl]
        exact k _ fun b o hb h => s12 _ _ (st5 b o hb h)
end
end NV

set_option Elab.async false
set_option linter.all false
set_option maxRecDepth 100000
set_option maxHeartbeats 8000000
/-! # The law itself -/
namespace NV
open PySem L2
abbrev sLaw : Stmt := top 24
abbrev nLaw : List Str := ["script", "at", "made", "told", "first", "due", "e"]
structure TxL (mg : Str → Option Value) : Prop where
  max : mg "max" = none
  min : mg "min" = none
structure DefsL (K : PySem.W.Frag) (mg : Str → Option Value) (c : CA) where
  (fD fG fS : Addr)
  (dD dG dS : FuncData)
  D : Fun K "_law_dice" "_law_dice" sDice fD dD
  bD : Binds K dD ["script", "at"] []
  mD : mg "_law_dice" = some (.ref fD)
  S : Fun K "_law_sorts" "_law_sorts" sSorts fS dS
  bS : Binds K dS ["e"] []
  mS : mg "_law_sorts" = some (.ref fS)
  R : Fun K "_law_right" "_law_right" sRight fG dG
  bR : Binds K dG ["dice"] []
  mR : mg "_law_right" = some (.ref fG)
def nine : Nat → Nat
  | 0 => 0
  | 1 => 3
  | 2 => 5
  | 3 => 6
  | 4 => 7
  | 5 => 8
  | 6 => 9
  | 7 => 10
  | _ => 11
def nineD (j : Nat) : List PyData := (List.range j).map fun t => sortsD (nine t)
/-- the list at D holds the sorts of the first j errors, and does so whatever else is made -/
def NineAt (K : PySem.W.Frag) (D : Addr) (H : Hp) (j : Nat) : Prop := ∃ vs : List V, H D = some (.lst vs) ∧ vs.length = j ∧ ∀ H' : Hp, (∀ b o, b ≠ D → H b = some o → H' b = some o) → DpAll K H' vs (nineD j)
theorem nine0 {K : PySem.W.Frag} {D : Addr} {H : Hp} : NineAt K D (upd H D (.lst [])) 0 := ⟨[], upd_same, rfl, fun _ _ => .nil⟩
theorem dp_snoc {K : PySem.W.Frag} {H : Hp} {v : V} {d : PyData} (h : Dp K H v d) : ∀ (vs : List V) (ds : List PyData), DpAll K H vs ds → DpAll K H (vs ++ [v]) (ds ++ [d])
  | [], _, .nil => .cons h .nil
  | _ :: _, _, .cons h1 h2 => .cons h1 (dp_snoc h _ _ h2)
def dueD : List PyData := [sortsD 0, sortsD 0, sortsD 0, sortsD 6, sortsD 7, sortsD 8, sortsD 9, sortsD 10, sortsD 11]
theorem nine_shaped : SeqAt.shaped (.list (nineD 9)) = true := by decide +kernel
theorem due_shaped : SeqAt.shaped (.list dueD) = true := by decide +kernel
theorem nine_due : (PyData.list (nineD 9)).eqv (.list dueD) = true := by decide +kernel
def spLaw (K : PySem.W.Frag) : Sp := fun vs H Q _ => ∃ (a : Addr) (ns : List Int), vs = [.ref a] ∧ SqL K H a (ns.map V.int) ∧ ns.length ≤ 63 ∧ ∀ H', Q (.bl true) H'
section
variable {P : Program} {w : World} {K : PySem.W.Frag} {mg : Str → Option Value} {base : Heap} {c : CA}
theorem scLaw : FnScope nLaw ["script"] (defScope sLaw) := ⟨rfl, rfl, rfl, by decide +kernel, rfl, by decide +kernel, by decide +kernel⟩
theorem ok_law {f : Addr} {fd : FuncData} (F : Fun K "law" "law" sLaw f fd) (L : DefsL K mg c) (D : DefsR K mg c) (T : TxC P K mg c) (TI : TxI mg) (TR : TxR mg) (TL : TxL mg) : FnG P w K mg base CX0 5 f fd ["script"] (spLaw K) := by
  obtain ⟨fD, fG, fS, dD, dG, dS, FD, bD, mD, FS, bS, mS, FR, bR, mR⟩ := L
  have GD : FnOk P w K mg base CX0 1 fD dD ["script", "at"] (spDice K) := ok_dice FD TI
  have GS : FnOk P w K mg base CX0 1 fS dS ["e"] (spAsk c sorts) := ok_sorts FS T
  have GR : FnG P w K mg base CX0 4 fG dG ["dice"] spRight := ok_right FR D T TI TR
  refine F.okG scLaw (fun vs H Q E h => ?_) (fun cdv A outer s H vs Q E hg hr h => ?_)
  · obtain ⟨a, ns, rfl, _⟩ := h
    rfl
  · obtain ⟨a, ns, rfl, ha, hl, k⟩ := h
    have hr4 : Room 4 _ := hr.mono (by decide)
    have hr1 : Room 1 _ := hr.mono (by decide)
    refine ⟨_, (pss_cons (ps_for PassesOwn.never rfl (pi_range1 rfl TR.range (pa_cons (pe_callB (call_max2 rfl) (by rfl) TL.max (by decide +kernel) (pa_cons pe_int (pa_cons (pe_callB (call_min2 rfl) (by rfl) TL.min (by decide +kernel) (pa_cons pe_int (pa_cons (pe_callB call_len_seq (by rfl) TI.len PySem.boot_len (pa_cons (pv 0) pa_nil)) pa_nil))) pa_nil))) pa_nil)) (pg_name (i := 1) scLaw.nd rfl (Or.inl rfl))
        (pss_one (ps_if (pt_not (pt_val (pe_callG GR hg hr4 rfl mR FR.kp bR .nil pass0 (pa_cons (pe_call GD hr1 rfl mD FD.kp bD .nil pass0 (pa_cons (pv 0) (pa_cons (pv 1) pa_nil))) pa_nil)))) (pss_one (ps_ret pe_bl)) pss_nil)))
      (pss_cons (ps_set (i := 2) scLaw.nd rfl (Or.inl rfl) (pe_lst (pa_cons (pe_exc1 PySem.F.excBase_ValueError (T.pl 0 (by decide)) (T.gc 0 (by decide)) (T.kc 0 (by decide)) rfl pe_str) (pa_cons (pe_exc1 PySem.F.excBase_ValueError (T.pl 3 (by decide)) (T.gc 3 (by decide)) (T.kc 3 (by decide)) rfl pe_str) (pa_cons (pe_keep (keepC T rfl rfl rfl 5 (by decide) (by decide)) hr (pa_cons pe_non pa_nil)) (pa_cons (pe_keep (keepC T rfl rfl rfl 6 (by decide) (by decide)) hr (pa_cons pe_str pa_nil)) (pa_cons (pe_keep (keepC T rfl rfl rfl 7 (by decide) (by decide)) hr (pa_cons (pe_tup (pa_cons pe_str (pa_cons pe_int pa_nil))) pa_nil)) pa_nil)))))))
      (pss_cons (ps_setLc (i := 3) (own := [("e", 6)]) (g := gName 6) (tt := tYes) rfl scLaw.nd rfl rfl (sw_true rfl rfl rfl (by decide +kernel)) (pi_list (pe_op op_cat (pv 2) (pe_lst (pa_cons (pe_keep (keepC T rfl rfl rfl 8 (by decide) (by decide)) hr (pa_cons (pe_un un_neg pe_int) pa_nil)) (pa_cons (pe_keep (keepC T rfl rfl rfl 9 (by decide) (by decide)) hr (pa_cons pe_int pa_nil)) (pa_cons (pe_keep (keepC T rfl rfl rfl 10 (by decide) (by decide)) hr (pa_cons pe_int pa_nil)) (pa_cons (pe_keep (keepC T rfl rfl rfl 11 (by decide) (by decide)) hr (pa_cons pe_str pa_nil)) pa_nil))))))) (blkOk_by (N := nLaw) (sc := defScope sLaw) (by decide +kernel)) (fun _ _ _ _ _ => pg_name (i := 6) scLaw.nd rfl (Or.inl rfl)) (fun _ _ _ _ _ => pts_nil) (fun _ _ _ _ _ => (pe_call GS hr1 rfl mS FS.kp bS .nil pass0 (pa_cons (pv 6) pa_nil))))
      (pss_cons (ps_set (i := 4) scLaw.nd rfl (Or.inl rfl) (pe_op op_cat (pe_lst (pa_cons pe_bl pa_nil)) (pe_op op_repN (pe_lst (pa_cons pe_bl pa_nil)) pe_int)))
      (pss_cons (ps_set (i := 5) scLaw.nd rfl (Or.inl rfl) (pe_lst (pa_cons (pv 4) (pa_cons (pv 4) (pa_cons (pv 4) (pa_cons (pe_lst (pa_cons pe_bl (pa_cons pe_bl (pa_cons pe_bl (pa_cons pe_bl (pa_cons pe_bl (pa_cons pe_bl (pa_cons pe_bl pa_nil)))))))) (pa_cons (pe_op op_cat (pe_op op_repN (pe_lst (pa_cons pe_bl pa_nil)) pe_int) (pe_lst (pa_cons pe_bl pa_nil))) pa_nil)))))))
      (pss_cons (ps_set (i := 5) scLaw.nd rfl (Or.inl rfl) (pe_op op_cat (pv 5) (pe_lst (pa_cons (pe_lst (pa_cons pe_bl (pa_cons pe_bl (pa_cons pe_bl (pa_cons pe_bl (pa_cons pe_bl (pa_cons pe_bl (pa_cons pe_bl pa_nil)))))))) (pa_cons (pe_lst (pa_cons pe_bl (pa_cons pe_bl (pa_cons pe_bl (pa_cons pe_bl (pa_cons pe_bl (pa_cons pe_bl (pa_cons pe_bl pa_nil)))))))) pa_nil)))))
      (pss_cons (ps_set (i := 5) scLaw.nd rfl (Or.inl rfl) (pe_op op_cat (pv 5) (pe_lst (pa_cons (pe_lst (pa_cons pe_bl (pa_cons pe_bl (pa_cons pe_bl (pa_cons pe_bl (pa_cons pe_bl (pa_cons pe_bl (pa_cons pe_bl pa_nil)))))))) (pa_cons (pe_lst (pa_cons pe_bl (pa_cons pe_bl (pa_cons pe_bl (pa_cons pe_bl (pa_cons pe_bl (pa_cons pe_bl (pa_cons pe_bl pa_nil)))))))) pa_nil)))))
      (pss_one (ps_ret (pe_cmpR (op_eqD hr.units) (pv 3) (pv 5) (nomark _))))))))))), ?_⟩
    have lb : ∀ n : Nat, n ≤ 63 → ∀ m : Int, m = (if (if (n : Int) < 8 then (n : Int) else 8) > 1 then (if (n : Int) < 8 then (n : Int) else 8) else 1) → 1 ≤ m ∧ m ≤ 8 := fun n hn m hm => by
      rw [hm]
      by_cases h8 : (n : Int) < 8
      · rw [if_pos h8]
        by_cases h1 : (n : Int) > 1
        · rw [if_pos h1]
          omega
        · rw [if_neg h1]
          omega
      · rw [if_neg h8]
        decide
    refine ⟨_, rfl, a, _, rfl, .inl ha, _, _, rfl, _, _, rfl, ?_⟩
    have ln : (ns.map V.int).length = ns.length := List.length_map _
    rw [ln]
    have lb := lb _ hl _ rfl
    generalize (if (if (ns.length : Int) < 8 then (ns.length : Int) else 8) > 1 then (if (ns.length : Int) < 8 then (ns.length : Int) else 8) else 1) = m at lb ⊢
    refine ⟨m, rfl, by omega, by omega, for_range (lo := 0) (n := m.toNat) (fun i σ H' => ∃ v : Option V, σ = [some (.ref a), v, none, none, none, none, none] ∧ Same H H') ⟨none, rfl, Same.refl _⟩ ?_ ?_⟩
    · rintro i σ H1 hi ⟨v, rfl, s1⟩
      refine ⟨_, rfl, _, rfl, a, ns, _, rfl, s1.seq ha, by omega, hl, fun p l q np l0 q0 => ?_⟩
      have s2 : Same H (upd H1 p (.lst [.int l, .int q, .int 0])) := NV.Same.new s1 np
      refine ⟨p, rfl, ⟨l, q, 0, ?_⟩, fun H2 k2 => ?_⟩
      · exact ⟨upd_same, l0, q0, by decide⟩
      · have s3 : Same H H2 := fun b o h => k2 b o (fun z => by
          subst z
          have := s1 _ _ h
          rw [np] at this
          cases this) (s2 _ _ h)
        exact ⟨true, rfl, iteF ⟨_, rfl, s3⟩⟩
    · rintro σ H1 ⟨v, rfl, s1⟩
      refine fun a0 n0 => fun a3 n3 => ⟨_, rfl, fun a5 d5 na5 nd5 ne5 => ⟨_, rfl, fun a6 d6 na6 nd6 ne6 => ⟨(by show 2 ≤ sizeLine; decide), fun t nt => ⟨_, rfl, fun a7 d7 na7 nd7 ne7 => ⟨(by show 5 ≤ sizeLine; decide), fun pm nm => ?_⟩⟩⟩⟩⟩
      generalize hX : upd _ pm (.lst _) = H2
      have e0 : ExV H2 a0 (c.at 0) none := by
        show H2 a0 = some _
        rw [← hX]
        repeat (first | exact upd_same | refine keep_new ?_ (by assumption) | refine keep_new ?_ (free_upd (by assumption) (by assumption)))
      have e3 : ExV H2 a3 (c.at 3) none := by
        show H2 a3 = some _
        rw [← hX]
        repeat (first | exact upd_same | refine keep_new ?_ (by assumption) | refine keep_new ?_ (free_upd (by assumption) (by assumption)))
      have e5 : ExV H2 a5 (c.at 5) (some [(Str.ofString (fld 5), .non)]) := by
        refine ⟨d5, ?_, ?_⟩
        · rw [← hX]
          repeat (first | exact upd_same | refine keep_new ?_ (by assumption) | refine keep_new ?_ (free_upd (by assumption) (by assumption)))
        · rw [← hX]
          repeat (first | exact upd_same | refine keep_new ?_ (by assumption) | refine keep_new ?_ (free_upd (by assumption) (by assumption)))
      have e6 : ExV H2 a6 (c.at 6) (some [(Str.ofString (fld 6), .str "a")]) := by
        refine ⟨d6, ?_, ?_⟩
        · rw [← hX]
          repeat (first | exact upd_same | refine keep_new ?_ (by assumption) | refine keep_new ?_ (free_upd (by assumption) (by assumption)))
        · rw [← hX]
          repeat (first | exact upd_same | refine keep_new ?_ (by assumption) | refine keep_new ?_ (free_upd (by assumption) (by assumption)))
      have e7 : ExV H2 a7 (c.at 7) (some [(Str.ofString (fld 7), .ref t)]) := by
        refine ⟨d7, ?_, ?_⟩
        · rw [← hX]
          repeat (first | exact upd_same | refine keep_new ?_ (by assumption) | refine keep_new ?_ (free_upd (by assumption) (by assumption)))
        · rw [← hX]
          repeat (first | exact upd_same | refine keep_new ?_ (by assumption) | refine keep_new ?_ (free_upd (by assumption) (by assumption)))
      have fm : H2 pm = some (.lst [.ref a0, .ref a3, .ref a5, .ref a6, .ref a7]) := by
        rw [← hX]
        exact upd_same
      clear n0 n3 na5 na6 na7 nd5 nd6 nd7 ne5 ne6 ne7 nt nm hX
      refine ⟨_, rfl, _, rfl, _, rfl, fun a8 d8 na8 nd8 ne8 => ⟨_, rfl, fun a9 d9 na9 nd9 ne9 => ⟨_, rfl, fun a10 d10 na10 nd10 ne10 => ⟨_, rfl, fun a11 d11 na11 nd11 ne11 => ⟨(by show 4 ≤ sizeLine; decide), fun q nq => ?_⟩⟩⟩⟩⟩
      refine ⟨pm, q, [.ref a0, .ref a3, .ref a5, .ref a6, .ref a7], [.ref a8, .ref a9, .ref a10, .ref a11], rfl, rfl, ?_, upd_same, (by show 9 ≤ sizeLine; decide), fun pm2 npm2 => ?_⟩
      · repeat (first | exact fm | refine keep_new ?_ (by assumption) | refine keep_new ?_ (free_upd (by assumption) (by assumption)))
      generalize hX : upd _ pm2 (.lst _) = H3
      have e8 : ExV H3 a8 (c.at 8) (some [(Str.ofString (fld 8), .int (-1))]) := by
        refine ⟨d8, ?_, ?_⟩
        · rw [← hX]
          repeat (first | exact upd_same | refine keep_new ?_ (by assumption) | refine keep_new ?_ (free_upd (by assumption) (by assumption)))
        · rw [← hX]
          repeat (first | exact upd_same | refine keep_new ?_ (by assumption) | refine keep_new ?_ (free_upd (by assumption) (by assumption)))
      have e9 : ExV H3 a9 (c.at 9) (some [(Str.ofString (fld 9), .int 4)]) := by
        refine ⟨d9, ?_, ?_⟩
        · rw [← hX]
          repeat (first | exact upd_same | refine keep_new ?_ (by assumption) | refine keep_new ?_ (free_upd (by assumption) (by assumption)))
        · rw [← hX]
          repeat (first | exact upd_same | refine keep_new ?_ (by assumption) | refine keep_new ?_ (free_upd (by assumption) (by assumption)))
      have e10 : ExV H3 a10 (c.at 10) (some [(Str.ofString (fld 10), .int 1)]) := by
        refine ⟨d10, ?_, ?_⟩
        · rw [← hX]
          repeat (first | exact upd_same | refine keep_new ?_ (by assumption) | refine keep_new ?_ (free_upd (by assumption) (by assumption)))
        · rw [← hX]
          repeat (first | exact upd_same | refine keep_new ?_ (by assumption) | refine keep_new ?_ (free_upd (by assumption) (by assumption)))
      have e11 : ExV H3 a11 (c.at 11) (some [(Str.ofString (fld 11), .str "left")]) := by
        refine ⟨d11, ?_, ?_⟩
        · rw [← hX]
          repeat (first | exact upd_same | refine keep_new ?_ (by assumption) | refine keep_new ?_ (free_upd (by assumption) (by assumption)))
        · rw [← hX]
          repeat (first | exact upd_same | refine keep_new ?_ (by assumption) | refine keep_new ?_ (free_upd (by assumption) (by assumption)))
      have fm2 : H3 pm2 = some (.lst [.ref a0, .ref a3, .ref a5, .ref a6, .ref a7, .ref a8, .ref a9, .ref a10, .ref a11]) := by
        rw [← hX]
        exact upd_same
      have s3 : Same H2 H3 := by
        rw [← hX]
        repeat (first | exact Same.refl _ | refine NV.Same.new ?_ (by assumption) | refine NV.Same.new ?_ (free_upd (by assumption) (by assumption)))
      clear na8 na9 na10 na11 nd8 nd9 nd10 nd11 ne8 ne9 ne10 ne11 nq npm2 hX
      have e0 := ExV.same e0 s3
      have e3 := ExV.same e3 s3
      have e5 := ExV.same e5 s3
      have e6 := ExV.same e6 s3
      have e7 := ExV.same e7 s3
      have eAt : ∀ (i : Nat) (x : V), ([.ref a0, .ref a3, .ref a5, .ref a6, .ref a7, .ref a8, .ref a9, .ref a10, .ref a11] : List V)[i]? = some x → ∃ (a : Addr) (fs : Option (List (Str × V))), x = .ref a ∧ nine i < 12 ∧ ExV H3 a (c.at (nine i)) fs := fun i x h => by
        match i, h with
        | 0, h => exact ⟨a0, _, (Option.some.inj h).symm, by decide, e0⟩
        | 1, h => exact ⟨a3, _, (Option.some.inj h).symm, by decide, e3⟩
        | 2, h => exact ⟨a5, _, (Option.some.inj h).symm, by decide, e5⟩
        | 3, h => exact ⟨a6, _, (Option.some.inj h).symm, by decide, e6⟩
        | 4, h => exact ⟨a7, _, (Option.some.inj h).symm, by decide, e7⟩
        | 5, h => exact ⟨a8, _, (Option.some.inj h).symm, by decide, e8⟩
        | 6, h => exact ⟨a9, _, (Option.some.inj h).symm, by decide, e9⟩
        | 7, h => exact ⟨a10, _, (Option.some.inj h).symm, by decide, e10⟩
        | 8, h => exact ⟨a11, _, (Option.some.inj h).symm, by decide, e11⟩
        | i + 9, h => cases h
      refine ⟨pm2, rfl, ⟨_, SqL.of fm2⟩, fun D nD => lc_list (K := K) (a := pm2) (xs := [.ref a0, .ref a3, .ref a5, .ref a6, .ref a7, .ref a8, .ref a9, .ref a10, .ref a11]) (fun j H9 => NineAt K D H9 j ∧ ∀ b o, b ≠ D → H3 b = some o → H9 b = some o)
        ⟨nine0, fun b o hb h => keep_new h nD⟩ (fun i H9 _ ⟨_, z⟩ => SqL.of (z _ _ (fun y => by
          subst y
          rw [nD] at fm2
          cases fm2) fm2)) ?_ ?_⟩
      · rintro i x H9 hx ⟨z1, z2⟩
        obtain ⟨a', fs, rfl, hn, ev⟩ := eAt i x hx
        refine ⟨rfl, tYes_if ?_⟩
        have sm : Same H3 H9 := fun b o h => z2 b o (fun y => by
          subst y
          rw [nD] at h
          cases h) h
        obtain ⟨vs, h1, h2, h3⟩ := z1
        refine ⟨_, rfl, a', nine i, fs, rfl, hn, ExV.same ev sm, fun p H10 np hp s10 => ?_⟩
        have i9 : i < 9 := (List.getElem?_eq_some_iff.mp hx).1
        refine ⟨vs, s10 _ _ h1, ?_, ⟨vs ++ [.ref p], upd_same, by rw [List.length_append, h2]; rfl, fun H' k' => ?_⟩, fun b o hb h => by rw [upd_ne hb]; exact s10 _ _ (z2 b o hb h)⟩
        · rw [h2]
          exact Nat.lt_trans i9 (by decide)
        · have npD : p ≠ D := fun y => by
            subst y
            rw [np] at h1
            cases h1
          have en : nineD (i + 1) = nineD i ++ [sortsD (nine i)] := by
            unfold nineD
            rw [List.range_succ, List.map_append]
            rfl
          rw [en]
          exact dp_snoc (dp_sorts (k' p _ npD (by rw [upd_ne npD]; exact hp))) _ _ (h3 H' fun b o hb h => k' b o hb (by rw [upd_ne hb]; exact s10 _ _ h))
      · rintro H9 ⟨⟨vs, h1, h2, h3⟩, z2⟩
        refine ⟨(by show 1 ≤ sizeLine; decide), fun p1 n1 => ⟨(by show 1 ≤ sizeLine; decide), fun p2 n2 => ⟨p2, 6, [.bl false], rfl, rfl, upd_same, by decide, by decide, (by show 6 ≤ sizeLine; decide), fun p3 n3 _ => ?_⟩⟩⟩
        refine ⟨p1, p3, [.bl true], [.bl false, .bl false, .bl false, .bl false, .bl false, .bl false], rfl, rfl, ?_, upd_same, (by show 7 ≤ sizeLine; decide), fun p4 n4 => ?_⟩
        · repeat (first | exact upd_same | assumption | refine keep_new ?_ (by assumption))
        generalize hX : upd _ p4 (.lst _) = H10
        have f4 : H10 p4 = some (.lst (sorts 0)) := by
          rw [← hX]
          exact upd_same
        have s10 : Same H9 H10 := by
          rw [← hX]
          repeat (first | exact Same.refl _ | refine NV.Same.new ?_ (by assumption))
        clear n1 n2 n3 n4 hX
        refine ⟨_, rfl, _, rfl, _, rfl, (by show 7 ≤ sizeLine; decide), fun q1 m1 => ⟨(by show 1 ≤ sizeLine; decide), fun r1 o1 => ⟨r1, 6, [.bl false], rfl, rfl, upd_same, by decide, by decide, (by show 6 ≤ sizeLine; decide), fun r2 o2 _ => ⟨(by show 1 ≤ sizeLine; decide), fun r3 o3 => ?_⟩⟩⟩⟩
        refine ⟨r2, r3, [.bl false, .bl false, .bl false, .bl false, .bl false, .bl false], [.bl true], rfl, rfl, ?_, upd_same, (by show 7 ≤ sizeLine; decide), fun r4 o4 => ⟨(by show 5 ≤ sizeLine; decide), fun d1 nd1 => ?_⟩⟩
        · repeat (first | exact upd_same | assumption | refine keep_new ?_ (by assumption))
        generalize hX : upd _ d1 (.lst _) = H11
        have fq1 : H11 q1 = some (.lst (sorts 6)) := by
          rw [← hX]
          repeat (first | exact upd_same | refine keep_new ?_ (by assumption))
        have fr4 : H11 r4 = some (.lst (sorts 7)) := by
          rw [← hX]
          repeat (first | exact upd_same | refine keep_new ?_ (by assumption))
        have fd1 : H11 d1 = some (.lst [.ref p4, .ref p4, .ref p4, .ref q1, .ref r4]) := by
          rw [← hX]
          exact upd_same
        have s11 : Same H10 H11 := by
          rw [← hX]
          repeat (first | exact Same.refl _ | refine NV.Same.new ?_ (by assumption))
        clear m1 o1 o2 o3 o4 nd1 hX
        have f4 := s11 _ _ f4
        refine ⟨_, rfl, (by show 7 ≤ sizeLine; decide), fun q2 m2 => ⟨(by show 7 ≤ sizeLine; decide), fun q3 m3 => ⟨(by show 2 ≤ sizeLine; decide), fun d2 nd2 => ?_⟩⟩⟩
        refine ⟨d1, d2, [.ref p4, .ref p4, .ref p4, .ref q1, .ref r4], [.ref q2, .ref q3], rfl, rfl, ?_, upd_same, (by show 7 ≤ sizeLine; decide), fun d3 nd3 => ?_⟩
        · repeat (first | exact fd1 | refine keep_new ?_ (by assumption))
        generalize hX : upd _ d3 (.lst _) = H12
        have fq2 : H12 q2 = some (.lst (sorts 8)) := by
          rw [← hX]
          repeat (first | exact upd_same | refine keep_new ?_ (by assumption))
        have fq3 : H12 q3 = some (.lst (sorts 9)) := by
          rw [← hX]
          repeat (first | exact upd_same | refine keep_new ?_ (by assumption))
        have fd3 : H12 d3 = some (.lst [.ref p4, .ref p4, .ref p4, .ref q1, .ref r4, .ref q2, .ref q3]) := by
          rw [← hX]
          exact upd_same
        have s12 : Same H11 H12 := by
          rw [← hX]
          repeat (first | exact Same.refl _ | refine NV.Same.new ?_ (by assumption))
        clear m2 m3 nd2 nd3 hX fd1
        have f4 := s12 _ _ f4
        have fq1 := s12 _ _ fq1
        have fr4 := s12 _ _ fr4
        refine ⟨_, rfl, (by show 7 ≤ sizeLine; decide), fun q4 m4 => ⟨(by show 7 ≤ sizeLine; decide), fun q5 m5 => ⟨(by show 2 ≤ sizeLine; decide), fun d4 nd4 => ?_⟩⟩⟩
        refine ⟨d3, d4, [.ref p4, .ref p4, .ref p4, .ref q1, .ref r4, .ref q2, .ref q3], [.ref q4, .ref q5], rfl, rfl, ?_, upd_same, (by show 9 ≤ sizeLine; decide), fun d5 nd5 => ?_⟩
        · repeat (first | exact fd3 | refine keep_new ?_ (by assumption))
        generalize hX : upd _ d5 (.lst _) = H13
        have fq4 : H13 q4 = some (.lst (sorts 10)) := by
          rw [← hX]
          repeat (first | exact upd_same | refine keep_new ?_ (by assumption))
        have fq5 : H13 q5 = some (.lst (sorts 11)) := by
          rw [← hX]
          repeat (first | exact upd_same | refine keep_new ?_ (by assumption))
        have fd5 : H13 d5 = some (.lst [.ref p4, .ref p4, .ref p4, .ref q1, .ref r4, .ref q2, .ref q3, .ref q4, .ref q5]) := by
          rw [← hX]
          exact upd_same
        have s13 : Same H12 H13 := by
          rw [← hX]
          repeat (first | exact Same.refl _ | refine NV.Same.new ?_ (by assumption))
        clear m4 m5 nd4 nd5 hX fd3
        have f4 := s13 _ _ f4
        have fq1 := s13 _ _ fq1
        have fr4 := s13 _ _ fr4
        have fq2 := s13 _ _ fq2
        have fq3 := s13 _ _ fq3
        have sE : Same H9 H13 := ((s10.trans s11).trans s12).trans s13
        have hT : Dp K H13 (.ref D) (.list (nineD 9)) := .lst (SqL.of (sE _ _ h1)) (h3 H13 fun b o _ h => sE b o h)
        have hDue : Dp K H13 (.ref d5) (.list dueD) := .lst (SqL.of fd5) (.cons (dp_sorts f4) (.cons (dp_sorts f4) (.cons (dp_sorts f4) (.cons (dp_sorts fq1) (.cons (dp_sorts fr4) (.cons (dp_sorts fq2) (.cons (dp_sorts fq3) (.cons (dp_sorts fq4) (.cons (dp_sorts fq5) .nil)))))))))
        refine ⟨_, rfl, _, rfl, _, _, hT, hDue, nine_shaped, due_shaped, ?_⟩
        rw [nine_due]
        exact k _
end
end NV

set_option Elab.async false
set_option linter.all false
set_option maxRecDepth 100000
set_option maxHeartbeats 8000000
/-! # What the top has made, put together -/
namespace NV
open PySem L2
section
variable (K : PySem.W.Frag) (c : CA)
def bKeep : Bool := (List.range 12).all fun i => PySem.W.keepIn K (.ref (c.at i))
def bEx : Bool := (List.range 12).all fun i => decide (PySem.W.subIn K (.ref (c.at i)) (.type "BaseException") = some true)
def bTy : Bool := (List.range 12).all fun i => decide (PySem.W.typeIn K (.ref (c.at i)) = some (.type "type"))
def bKk : Bool := (List.range 12).all fun i => (List.range 12).all fun j => decide (PySem.W.kitOne K (.ref (c.at i)) (.ref (c.at j)) = some (sb i j))
def bKb : Bool := (List.range 12).all fun i => (List.range 7).all fun j => decide (PySem.W.kitOne K (.ref (c.at i)) (.type (bn j)) = some (sr i j))
def bXm : Bool := (List.range 12).all fun i => (List.range 12).all fun j => decide (PySem.W.exmOne K (.ref (c.at i)) (.ref (c.at j)) = some (sb i j))
def bPl : Bool := (List.range 5).all fun i => PySem.W.excIn K (c.at i) veT "ValueError.__new__"
def bXf : Bool := (List.range 12).all fun i => xfB K (c.at i)
def bNf : Bool := (List.range 12).all fun i => decide (PySem.W.findIn K (.ref (c.at i)) (Str.ofString (fld i)) = some none)
def ecB (D : Addr) : Bool := decide (PySem.W.findIn K (.ref D) "__getattribute__" = some (some (.builtin "BaseException.__getattribute__"))) && (decide (PySem.W.findIn K (.ref D) "__getattr__" = some none) && (decide (PySem.W.subIn K (.ref D) (.type "BaseException") = some true) && (PySem.W.hasDictIn K D &&
  (decide (PySem.W.findIn K (.ref D) "__class__" = some (some (.builtin "object.__class__"))) && (decide (PySem.W.specialIn K (.builtin "object.__class__") "__get__" = some (some (.builtin "getset_descriptor.__get__"))) && (decide (PySem.W.takesIn K (.builtin "object.__class__") = some true) && decide (PySem.W.mroIn K D (.type "object") = some true)))))))
def bEc : Bool := (List.range 12).all fun i => ecB K (c.at i)
end
theorem ecB_ok {K : PySem.W.Frag} {D : Addr} (h : ecB K D = true) : ExcC K D := by
  obtain ⟨h1, h⟩ := Bool.and_eq_true_iff.mp h
  obtain ⟨h2, h⟩ := Bool.and_eq_true_iff.mp h
  obtain ⟨h3, h⟩ := Bool.and_eq_true_iff.mp h
  obtain ⟨h4, h⟩ := Bool.and_eq_true_iff.mp h
  obtain ⟨h5, h⟩ := Bool.and_eq_true_iff.mp h
  obtain ⟨h6, h⟩ := Bool.and_eq_true_iff.mp h
  obtain ⟨h7, h8⟩ := Bool.and_eq_true_iff.mp h
  exact ⟨of_decide_eq_true h1, of_decide_eq_true h2, of_decide_eq_true h3, h4, of_decide_eq_true h5, of_decide_eq_true h6, of_decide_eq_true h7, of_decide_eq_true h8⟩
theorem all_at {n : Nat} {p : Nat → Bool} (h : (List.range n).all p = true) {i : Nat} (hi : i < n) : p i = true := List.all_eq_true.mp h i (List.mem_range.mpr hi)
/-- a def of the top: where it stands, what it is -/
structure DefAt (K : PySem.W.Frag) (x : Str) (st : Stmt) : Prop where
  ex : ∃ (f : Addr) (fd : FuncData), Fun K x x st f fd ∧ PySem.W.nsIn K mainGlobals x = some (some (.ref f))
theorem def_mk {K : PySem.W.Frag} {x : Str} {st : Stmt} {f : Addr} {oc : Value} {od an : Option Addr} {osl : Array (Option Value)} {kV doc pm cdv ct : Value} (a : PySem.W.nsIn K mainGlobals x = some (some (.ref f)))
    (l : K.lookup f = some ⟨oc, od, .func (PySem.W.fnOf x x (defArgs st) (defBody st) (defScope st) .none kV doc pm an cdv ct), osl⟩) (c : PySem.W.codeIn K cdv x = true) (k : PySem.W.keepIn K (.ref f) = true) : DefAt K x st := ⟨f, _, fun_mk l c k, a⟩
theorem init_mk {prog : Program} {K : PySem.W.Frag} {C fI : Addr} {B i B0 newId : String} {f : String} {qual : Str}
    {oc : Value} {od : Option Addr} {doc pm : Value} {an : Option Addr} {cda : Addr} {ct : Value} {cc : Addr} {osl : Array (Option Value)} {msg : Str} {j : Nat} {p1 p2 a0 a1 a2 a3 a4 a5 q1 q2 q3 q4 : Pos}
    {ccl : Value} {cdd : Option Addr} {vs : Array Value} {ccs : Array (Option Value)} {file : Str} {tf : Tok} {cl : Value} {cld : Option Addr} {csl : Array (Option Value)}
    {nm q : Str} {N : Addr} {bs bm : List Value} {sn : List Str} {sub : List Value} {ab : Bool} {col : Option Bool} {dd : Option Addr} {k0 k1 k2 k3 k5 : Option Value} {i0 : String} {bmB : List Value}
    (iC : PySem.W.findIn K (.ref C) "__init__" = some (some (.ref fI)))
    (l1 : K.lookup fI = some ⟨oc, od, .func (PySem.W.ksFn "__init__" qual (PySem.NvE.iArgs f p1 p2) (PySem.NvE.iBody f msg j a0 a1 a2 a3 a4 a5 q1 q2 q3 q4) (PySem.NvE.iScope f) .none .none doc pm an (.ref cda) ct cc), osl⟩) (c1 : PySem.W.codeIn K (.ref cda) qual = true)
    (l2 : K.lookup cda = some ⟨ccl, cdd, .fields vs, ccs⟩) (v2 : vs[2]? = some (.str file tf)) (fl : ((prog.main.file : Str) == file) = true) (l3 : K.lookup cc = some ⟨cl, cld, .cell (some (.ref C)), csl⟩)
    (ev : ∀ L a cd c2, PySem.NvE.EvOk (PySem.W.ksEnv qual (PySem.NvE.iScope f) L a cd c2) msg j a0 a1 a2 a3 a4)
    (l4 : K.lookup C = some (excClassObj nm q C N bs bm true sn sub ab col dd k0 k1 k2 k3 k5 newId)) (rl : ∀ self, refuseLoop self "__setattr__" (.ref C :: bm) = pure ()) (ob : bm.contains (.type "object") = true) (nb : PySem.NvE.NewOk bm B0)
    (nf : ExcBaseFacts B0 newId i0 bmB) (tI : PySem.W.typeIn K (.ref fI) = some (.type "function")) (self : PySem.W.mroIn K C (.ref C) = some true) (up : PySem.W.ks_superIn K C C "__init__" = some (some (.builtin i)))
    (isB : PySem.W.subIn K (.ref C) (.type B) = some true) (stat : PySem.W.nsIn K PySem.cStatics "thirdparty.any" = some none) (sa : PySem.W.findIn K (.ref C) "__setattr__" = some (some (.builtin "object.__setattr__"))) (noF : PySem.W.findIn K (.ref C) (Str.ofString f) = some none)
    (inF : PySem.NvE.InF B i) (sup : PySem.W.nsIn K mainGlobals "super" = some none) (top : (prog.main.scope.names.lookup ("super" : Str)).isSome = false)
    (fs : (Str.ofString f == ("self" : Str)) = false) (fsup : (PySem.NvE.iScope f).names.lookup ("super" : Str) = some .globalImplicit) (fcl : (PySem.NvE.iScope f).names.lookup ("__class__" : Str) = some .free) (ff : (PySem.NvE.iScope f).names.lookup (Str.ofString f) = some .local)
    (fdb : (Str.ofString f == ("__debug__" : Str)) = false) (ncell : ∀ x ∈ (PySem.NvE.iScope f).names, x.2 ≠ .cell)
    (bd : ∀ (b : List Stmt) (doc pm ct cv : Value) (an : Option Addr) (cc : Addr) (p1 p2 : Pos) (x v : Value), bindArgs (PySem.W.ksFn "__init__" qual (PySem.NvE.iArgs f p1 p2) b (PySem.NvE.iScope f) .none .none doc pm an cv ct cc) ⟨[x, v], []⟩ = pure [(("self" : Str), x), (Str.ofString f, v)]) :
    PySem.NvE.InitTxt prog K C fI B i B0 newId f qual :=
  ⟨⟨_, _, _, _, _, _, _, _, _, _, _, _, _, _, _, _, _, _, _, _, _, _, _, l1, c1, ⟨_, _, _, _, _, _, l2, v2, fl⟩, ⟨_, _, _, l3⟩, ev⟩, ⟨_, _, _, _, _, _, _, _, _, _, _, _, _, _, _, l4, rl, ob, nb⟩, ⟨_, _, nf⟩, iC, tI, self, up, isB, stat, sa, noF, inF, sup, top, fs, fsup, fcl, ff, fdb, ncell, bd⟩
theorem all_mk {P : Program} {w : World} {K : PySem.W.Frag} {h : Heap} {mg : Str → Option Value} {fa : Addr} (X : K.In h) (G : h.Ns mainGlobals mg) (hfa : mg "law" = some (.ref fa))
    (dDice : DefAt K "_law_dice" sDice)
    (dRoll : DefAt K "_law_roll" sRoll)
    (dOneOf : DefAt K "_law_one_of" sOneOf)
    (dValue : DefAt K "_law_value" sValue)
    (dSorts : DefAt K "_law_sorts" sSorts)
    (dKinds : DefAt K "_law_kinds" sKinds)
    (dRaise : DefAt K "_law_raise" sRaise)
    (dCaught : DefAt K "_law_caught" sCaught)
    (dByBase : DefAt K "_law_by_base" sByBase)
    (dRight : DefAt K "_law_right" sRight)
    (dLaw : DefAt K "law" sLaw)
    {c0 c1 c2 c3 c4 c5 c6 c7 c8 c9 c10 c11 : Addr}
    (g0 : PySem.W.nsIn K mainGlobals "TurnError" = some (some (.ref c0)))
    (g1 : PySem.W.nsIn K mainGlobals "InvalidWord" = some (some (.ref c1)))
    (g2 : PySem.W.nsIn K mainGlobals "InvalidMachine" = some (some (.ref c2)))
    (g3 : PySem.W.nsIn K mainGlobals "InvalidBox" = some (some (.ref c3)))
    (g4 : PySem.W.nsIn K mainGlobals "InvalidOperation" = some (some (.ref c4)))
    (g5 : PySem.W.nsIn K mainGlobals "ParseError" = some (some (.ref c5)))
    (g6 : PySem.W.nsIn K mainGlobals "UnknownName" = some (some (.ref c6)))
    (g7 : PySem.W.nsIn K mainGlobals "GoesRound" = some (some (.ref c7)))
    (g8 : PySem.W.nsIn K mainGlobals "InvalidNumber" = some (some (.ref c8)))
    (g9 : PySem.W.nsIn K mainGlobals "TooMany" = some (some (.ref c9)))
    (g10 : PySem.W.nsIn K mainGlobals "NothingToUndo" = some (some (.ref c10)))
    (g11 : PySem.W.nsIn K mainGlobals "Refused" = some (some (.ref c11)))
    (hKeep : bKeep K ⟨c0, c1, c2, c3, c4, c5, c6, c7, c8, c9, c10, c11⟩ = true)
    (hEx : bEx K ⟨c0, c1, c2, c3, c4, c5, c6, c7, c8, c9, c10, c11⟩ = true)
    (hTy : bTy K ⟨c0, c1, c2, c3, c4, c5, c6, c7, c8, c9, c10, c11⟩ = true)
    (hKk : bKk K ⟨c0, c1, c2, c3, c4, c5, c6, c7, c8, c9, c10, c11⟩ = true)
    (hKb : bKb K ⟨c0, c1, c2, c3, c4, c5, c6, c7, c8, c9, c10, c11⟩ = true)
    (hXm : bXm K ⟨c0, c1, c2, c3, c4, c5, c6, c7, c8, c9, c10, c11⟩ = true)
    (hPl : bPl K ⟨c0, c1, c2, c3, c4, c5, c6, c7, c8, c9, c10, c11⟩ = true)
    (hXf : bXf K ⟨c0, c1, c2, c3, c4, c5, c6, c7, c8, c9, c10, c11⟩ = true)
    (hNf : bNf K ⟨c0, c1, c2, c3, c4, c5, c6, c7, c8, c9, c10, c11⟩ = true)
    (hEc : bEc K ⟨c0, c1, c2, c3, c4, c5, c6, c7, c8, c9, c10, c11⟩ = true)
    {i5 : Addr} (t5 : PySem.NvE.InitTxt P K c5 i5 "ValueError" "ValueError.__init__" "ValueError" "ValueError.__new__" "line" "ParseError.__init__")
    {i6 : Addr} (t6 : PySem.NvE.InitTxt P K c6 i6 "KeyError" "KeyError.__init__" "LookupError" "LookupError.__new__" "name" "UnknownName.__init__")
    {i7 : Addr} (t7 : PySem.NvE.InitTxt P K c7 i7 "LookupError" "LookupError.__init__" "LookupError" "LookupError.__new__" "turn" "GoesRound.__init__")
    {i8 : Addr} (t8 : PySem.NvE.InitTxt P K c8 i8 "RuntimeError" "RuntimeError.__init__" "RuntimeError" "RuntimeError.__new__" "value" "InvalidNumber.__init__")
    {i9 : Addr} (t9 : PySem.NvE.InitTxt P K c9 i9 "OverflowError" "OverflowError.__init__" "OverflowError" "OverflowError.__new__" "limit" "TooMany.__init__")
    {i10 : Addr} (t10 : PySem.NvE.InitTxt P K c10 i10 "IndexError" "IndexError.__init__" "IndexError" "IndexError.__new__" "many" "NothingToUndo.__init__")
    {i11 : Addr} (t11 : PySem.NvE.InitTxt P K c11 i11 "ArithmeticError" "ArithmeticError.__init__" "ArithmeticError" "ArithmeticError.__new__" "reason" "Refused.__init__")
    (z_isinstance : PySem.W.nsIn K mainGlobals "isinstance" = some none)
    (z_ValueError : PySem.W.nsIn K mainGlobals "ValueError" = some none)
    (z_KeyError : PySem.W.nsIn K mainGlobals "KeyError" = some none)
    (z_RuntimeError : PySem.W.nsIn K mainGlobals "RuntimeError" = some none)
    (z_OverflowError : PySem.W.nsIn K mainGlobals "OverflowError" = some none)
    (z_IndexError : PySem.W.nsIn K mainGlobals "IndexError" = some none)
    (z_ArithmeticError : PySem.W.nsIn K mainGlobals "ArithmeticError" = some none)
    (z_LookupError : PySem.W.nsIn K mainGlobals "LookupError" = some none)
    (z_enumerate : PySem.W.nsIn K mainGlobals "enumerate" = some none)
    (z_range : PySem.W.nsIn K mainGlobals "range" = some none)
    (z_repr : PySem.W.nsIn K mainGlobals "repr" = some none)
    (z_max : PySem.W.nsIn K mainGlobals "max" = some none)
    (z_min : PySem.W.nsIn K mainGlobals "min" = some none)
    (z_int : PySem.W.nsIn K mainGlobals "int" = some none)
    (z_abs : PySem.W.nsIn K mainGlobals "abs" = some none)
    (z_len : PySem.W.nsIn K mainGlobals "len" = some none)
    : ∃ fd : FuncData, (∀ (s : Shared) (v : Value), BindsTo s fd ⟨[v], []⟩ [("script", v)]) ∧ ∀ base : Heap, K.In base → base.Ns mainGlobals mg → FnG P w K mg base CX0 5 fa fd ["script"] (spLaw K) := by
  obtain ⟨fDice, dDicep, FDice, aDice⟩ := dDice.ex
  obtain ⟨fRoll, dRollp, FRoll, aRoll⟩ := dRoll.ex
  obtain ⟨fOneOf, dOneOfp, FOneOf, aOneOf⟩ := dOneOf.ex
  obtain ⟨fValue, dValuep, FValue, aValue⟩ := dValue.ex
  obtain ⟨fSorts, dSortsp, FSorts, aSorts⟩ := dSorts.ex
  obtain ⟨fKinds, dKindsp, FKinds, aKinds⟩ := dKinds.ex
  obtain ⟨fRaise, dRaisep, FRaise, aRaise⟩ := dRaise.ex
  obtain ⟨fCaught, dCaughtp, FCaught, aCaught⟩ := dCaught.ex
  obtain ⟨fByBase, dByBasep, FByBase, aByBase⟩ := dByBase.ex
  obtain ⟨fRight, dRightp, FRight, aRight⟩ := dRight.ex
  obtain ⟨fLaw, dLawp, FLaw, aLaw⟩ := dLaw.ex
  have e := hfa.symm.trans (PySem.W.mg_of X G aLaw)
  cases e
  have T : TxC P K mg ⟨c0, c1, c2, c3, c4, c5, c6, c7, c8, c9, c10, c11⟩ :=
    { gc := fun i hi => by
        match i, hi with
        | 0, _ => exact PySem.W.mg_of X G g0
        | 1, _ => exact PySem.W.mg_of X G g1
        | 2, _ => exact PySem.W.mg_of X G g2
        | 3, _ => exact PySem.W.mg_of X G g3
        | 4, _ => exact PySem.W.mg_of X G g4
        | 5, _ => exact PySem.W.mg_of X G g5
        | 6, _ => exact PySem.W.mg_of X G g6
        | 7, _ => exact PySem.W.mg_of X G g7
        | 8, _ => exact PySem.W.mg_of X G g8
        | 9, _ => exact PySem.W.mg_of X G g9
        | 10, _ => exact PySem.W.mg_of X G g10
        | 11, _ => exact PySem.W.mg_of X G g11
        | i + 12, hi => omega
      kc := fun i hi => all_at hKeep hi
      ex := fun i hi => of_decide_eq_true (all_at hEx hi)
      ty := fun i hi => of_decide_eq_true (all_at hTy hi)
      kk := fun i j hi hj => of_decide_eq_true (all_at (all_at hKk hi) hj)
      kb := fun i j hi hj => of_decide_eq_true (all_at (all_at hKb hi) hj)
      xm := fun i j hi hj => of_decide_eq_true (all_at (all_at hXm hi) hj)
      pl := fun i hi => all_at hPl hi
      kp := fun i h5 hi => by
        match i, h5, hi with
        | 5, _, _ => exact ⟨_, _, _, _, _, _, t5⟩
        | 6, _, _ => exact ⟨_, _, _, _, _, _, t6⟩
        | 7, _, _ => exact ⟨_, _, _, _, _, _, t7⟩
        | 8, _, _ => exact ⟨_, _, _, _, _, _, t8⟩
        | 9, _, _ => exact ⟨_, _, _, _, _, _, t9⟩
        | 10, _, _ => exact ⟨_, _, _, _, _, _, t10⟩
        | 11, _, _ => exact ⟨_, _, _, _, _, _, t11⟩
        | 0, h5, _ => omega
        | 1, h5, _ => omega
        | 2, h5, _ => omega
        | 3, h5, _ => omega
        | 4, h5, _ => omega
        | i + 12, _, hi => omega
      xf := fun i _ hi => xfB_ok (all_at hXf hi)
      nf := fun i _ hi => of_decide_eq_true (all_at hNf hi)
      ec := fun i hi => ecB_ok (all_at hEc hi)
      isi := PySem.W.mg_none_of X G z_isinstance
      b0 := PySem.W.mg_none_of X G z_ValueError
      b1 := PySem.W.mg_none_of X G z_KeyError
      b2 := PySem.W.mg_none_of X G z_RuntimeError
      b3 := PySem.W.mg_none_of X G z_OverflowError
      b4 := PySem.W.mg_none_of X G z_IndexError
      b5 := PySem.W.mg_none_of X G z_ArithmeticError
      b6 := PySem.W.mg_none_of X G z_LookupError }
  have TI : TxI mg := ⟨PySem.W.mg_none_of X G z_int, PySem.W.mg_none_of X G z_abs, PySem.W.mg_none_of X G z_len⟩
  have TR : TxR mg := ⟨PySem.W.mg_none_of X G z_enumerate, PySem.W.mg_none_of X G z_range, PySem.W.mg_none_of X G z_repr⟩
  have TL : TxL mg := ⟨PySem.W.mg_none_of X G z_max, PySem.W.mg_none_of X G z_min⟩
  have bDice := FDice.binds (ps := ["script", "at"]) fun _ _ _ _ _ _ us hl => match us, hl with | [_, _], _ => rfl
  have bRoll := FRoll.binds (ps := ["dice", "total"]) fun _ _ _ _ _ _ us hl => match us, hl with | [_, _], _ => rfl
  have bOneOf := FOneOf.binds (ps := ["dice", "items"]) fun _ _ _ _ _ _ us hl => match us, hl with | [_, _], _ => rfl
  have bValue := FValue.binds (ps := ["dice"]) fun _ _ _ _ _ _ us hl => match us, hl with | [_], _ => rfl
  have bSorts := FSorts.binds (ps := ["e"]) fun _ _ _ _ _ _ us hl => match us, hl with | [_], _ => rfl
  have bKinds := FKinds.binds (ps := ["e"]) fun _ _ _ _ _ _ us hl => match us, hl with | [_], _ => rfl
  have bRaise := FRaise.binds (ps := ["kind", "held"]) fun _ _ _ _ _ _ us hl => match us, hl with | [_, _], _ => rfl
  have bCaught := FCaught.binds (ps := ["kind", "held"]) fun _ _ _ _ _ _ us hl => match us, hl with | [_, _], _ => rfl
  have bByBase := FByBase.binds (ps := ["kind", "held"]) fun _ _ _ _ _ _ us hl => match us, hl with | [_, _], _ => rfl
  have bRight := FRight.binds (ps := ["dice"]) fun _ _ _ _ _ _ us hl => match us, hl with | [_], _ => rfl
  have D : DefsR K mg ⟨c0, c1, c2, c3, c4, c5, c6, c7, c8, c9, c10, c11⟩ := ⟨fValue, fOneOf, fRoll, fSorts, fKinds, fCaught, fByBase, fRaise, dValuep, dOneOfp, dRollp, dSortsp, dKindsp, dCaughtp, dByBasep, dRaisep, FValue, bValue, PySem.W.mg_of X G aValue, FOneOf, bOneOf, PySem.W.mg_of X G aOneOf, FRoll, bRoll, PySem.W.mg_of X G aRoll, FSorts, bSorts, PySem.W.mg_of X G aSorts, FKinds, bKinds, PySem.W.mg_of X G aKinds, FCaught, bCaught, PySem.W.mg_of X G aCaught, FByBase, bByBase, PySem.W.mg_of X G aByBase, FRaise, bRaise, PySem.W.mg_of X G aRaise⟩
  have L : DefsL K mg ⟨c0, c1, c2, c3, c4, c5, c6, c7, c8, c9, c10, c11⟩ := ⟨fDice, fRight, fSorts, dDicep, dRightp, dSortsp, FDice, bDice, PySem.W.mg_of X G aDice, FSorts, bSorts, PySem.W.mg_of X G aSorts, FRight, bRight, PySem.W.mg_of X G aRight⟩
  obtain ⟨oc, od, kV, doc, pm, an, cdv, ct, osl, el, lk, hcd⟩ := FLaw.ex
  subst el
  exact ⟨_, fun s v => .of_eq rfl, fun base _ _ => ok_law FLaw L D T TI TR TL⟩
end NV

set_option Elab.async false
set_option linter.all false
set_option maxRecDepth 100000
open PySem PySem.W PyProof.Rows
set_option maxHeartbeats 0 in
theorem PySem.Challenge.cw_neverturns_k00_errors_and_what_they_keep_holds : PySem.Challenge.rw_neverturns_k00_errors_and_what_they_keep.Holds := by
  w_on; o_law; k_head; (case hw => w_witness2)
  k_fill
  refine L2.walk_ofG (l := PySem.Challenge.rw_neverturns_k00_errors_and_what_they_keep) (n := 63) (k := 5) (x := "script") (sp := NV.spLaw) rfl (by decide) rfl ⟨rfl, by decide, by decide⟩ (fun w h Y => PySem.W.kIn_of Y) ?F ?S
  case S =>
    intro K H a ns hl hO hS
    exact ⟨a, ns, rfl, hS, hl, fun _ => rfl⟩
  case F =>
    intro w mg fa h KX G hmg
    refine' NV.all_mk KX G hmg ?nvdDice ?nvdRoll ?nvdOneOf ?nvdValue ?nvdSorts ?nvdKinds ?nvdRaise ?nvdCaught ?nvdByBase ?nvdRight ?nvdLaw ?nvg0 ?nvg1 ?nvg2 ?nvg3 ?nvg4 ?nvg5 ?nvg6 ?nvg7 ?nvg8 ?nvg9 ?nvg10 ?nvg11 ?nvhKeep ?nvhEx ?nvhTy ?nvhKk ?nvhKb ?nvhXm ?nvhPl ?nvhXf ?nvhNf ?nvhEc ?nvt5 ?nvt6 ?nvt7 ?nvt8 ?nvt9 ?nvt10 ?nvt11 ?nvz_isinstance ?nvz_ValueError ?nvz_KeyError ?nvz_RuntimeError ?nvz_OverflowError ?nvz_IndexError ?nvz_ArithmeticError ?nvz_LookupError ?nvz_enumerate ?nvz_range ?nvz_repr ?nvz_max ?nvz_min ?nvz_int ?nvz_abs ?nvz_len
    case nvdDice => (refine' NV.def_mk ?a ?l ?c ?k; (case a => k_is); (case l => k_is); (case c => k_is); (case k => k_is))
    case nvdRoll => (refine' NV.def_mk ?a ?l ?c ?k; (case a => k_is); (case l => k_is); (case c => k_is); (case k => k_is))
    case nvdOneOf => (refine' NV.def_mk ?a ?l ?c ?k; (case a => k_is); (case l => k_is); (case c => k_is); (case k => k_is))
    case nvdValue => (refine' NV.def_mk ?a ?l ?c ?k; (case a => k_is); (case l => k_is); (case c => k_is); (case k => k_is))
    case nvdSorts => (refine' NV.def_mk ?a ?l ?c ?k; (case a => k_is); (case l => k_is); (case c => k_is); (case k => k_is))
    case nvdKinds => (refine' NV.def_mk ?a ?l ?c ?k; (case a => k_is); (case l => k_is); (case c => k_is); (case k => k_is))
    case nvdRaise => (refine' NV.def_mk ?a ?l ?c ?k; (case a => k_is); (case l => k_is); (case c => k_is); (case k => k_is))
    case nvdCaught => (refine' NV.def_mk ?a ?l ?c ?k; (case a => k_is); (case l => k_is); (case c => k_is); (case k => k_is))
    case nvdByBase => (refine' NV.def_mk ?a ?l ?c ?k; (case a => k_is); (case l => k_is); (case c => k_is); (case k => k_is))
    case nvdRight => (refine' NV.def_mk ?a ?l ?c ?k; (case a => k_is); (case l => k_is); (case c => k_is); (case k => k_is))
    case nvdLaw => (refine' NV.def_mk ?a ?l ?c ?k; (case a => k_is); (case l => k_is); (case c => k_is); (case k => k_is))
    case nvg0 => k_is
    case nvg1 => k_is
    case nvg2 => k_is
    case nvg3 => k_is
    case nvg4 => k_is
    case nvg5 => k_is
    case nvg6 => k_is
    case nvg7 => k_is
    case nvg8 => k_is
    case nvg9 => k_is
    case nvg10 => k_is
    case nvg11 => k_is
    case nvz_isinstance => k_is
    case nvz_ValueError => k_is
    case nvz_KeyError => k_is
    case nvz_RuntimeError => k_is
    case nvz_OverflowError => k_is
    case nvz_IndexError => k_is
    case nvz_ArithmeticError => k_is
    case nvz_LookupError => k_is
    case nvz_enumerate => k_is
    case nvz_range => k_is
    case nvz_repr => k_is
    case nvz_max => k_is
    case nvz_min => k_is
    case nvz_int => k_is
    case nvz_abs => k_is
    case nvz_len => k_is
    case nvhKeep => kernel_rfl
    case nvhEx => kernel_rfl
    case nvhTy => kernel_rfl
    case nvhKk => kernel_rfl
    case nvhKb => kernel_rfl
    case nvhXm => kernel_rfl
    case nvhPl => kernel_rfl
    case nvhXf => kernel_rfl
    case nvhNf => kernel_rfl
    case nvhEc => kernel_rfl
    case nvt5 =>
      refine' NV.init_mk ?nvic ?nvl1 ?nvc1 ?nvl2 ?nvv2 ?nvfl ?nvl3 ?nvev ?nvl4 ?nvrl ?nvob ?nvnb PySem.F.excBase_ValueError ?nvti ?nvself ?nvup ?nvisb ?nvstat ?nvsa ?nvnof (PySem.NvE.inF_of PySem.F.excBase_ValueError PySem.W.kxs_ValueError) ?nvsup (by decide +kernel) (by decide +kernel) (by decide +kernel) (by decide +kernel) (by decide +kernel) (by decide +kernel) (by decide +kernel) (fun _ _ _ _ _ _ _ _ _ _ _ => rfl)
      case nvic => k_is
      case nvl1 => k_is
      case nvc1 => k_is
      case nvl2 => k_is
      case nvv2 => rfl
      case nvfl => decide +kernel
      case nvl3 => k_is
      case nvev => exact fun _ _ _ _ => ⟨_, rfl⟩
      case nvl4 => k_is
      case nvrl => exact fun _ => rfl
      case nvob => decide +kernel
      case nvnb => exact ⟨by decide +kernel, by decide +kernel, by decide +kernel⟩
      case nvti => k_is
      case nvself => k_is
      case nvup => kernel_rfl
      case nvisb => k_is
      case nvstat => k_is
      case nvsa => k_is
      case nvnof => k_is
      case nvsup => k_is
    case nvt6 =>
      refine' NV.init_mk ?nvic ?nvl1 ?nvc1 ?nvl2 ?nvv2 ?nvfl ?nvl3 ?nvev ?nvl4 ?nvrl ?nvob ?nvnb PySem.F.excBase_LookupError ?nvti ?nvself ?nvup ?nvisb ?nvstat ?nvsa ?nvnof (PySem.NvE.inF_KeyError) ?nvsup (by decide +kernel) (by decide +kernel) (by decide +kernel) (by decide +kernel) (by decide +kernel) (by decide +kernel) (by decide +kernel) (fun _ _ _ _ _ _ _ _ _ _ _ => rfl)
      case nvic => k_is
      case nvl1 => k_is
      case nvc1 => k_is
      case nvl2 => k_is
      case nvv2 => rfl
      case nvfl => decide +kernel
      case nvl3 => k_is
      case nvev => exact fun _ _ _ _ => ⟨_, rfl⟩
      case nvl4 => k_is
      case nvrl => exact fun _ => rfl
      case nvob => decide +kernel
      case nvnb => exact ⟨by decide +kernel, by decide +kernel, by decide +kernel⟩
      case nvti => k_is
      case nvself => k_is
      case nvup => kernel_rfl
      case nvisb => k_is
      case nvstat => k_is
      case nvsa => k_is
      case nvnof => k_is
      case nvsup => k_is
    case nvt7 =>
      refine' NV.init_mk ?nvic ?nvl1 ?nvc1 ?nvl2 ?nvv2 ?nvfl ?nvl3 ?nvev ?nvl4 ?nvrl ?nvob ?nvnb PySem.F.excBase_LookupError ?nvti ?nvself ?nvup ?nvisb ?nvstat ?nvsa ?nvnof (PySem.NvE.inF_of PySem.F.excBase_LookupError PySem.W.kxs_LookupError) ?nvsup (by decide +kernel) (by decide +kernel) (by decide +kernel) (by decide +kernel) (by decide +kernel) (by decide +kernel) (by decide +kernel) (fun _ _ _ _ _ _ _ _ _ _ _ => rfl)
      case nvic => k_is
      case nvl1 => k_is
      case nvc1 => k_is
      case nvl2 => k_is
      case nvv2 => rfl
      case nvfl => decide +kernel
      case nvl3 => k_is
      case nvev => exact fun _ _ _ _ => ⟨_, rfl⟩
      case nvl4 => k_is
      case nvrl => exact fun _ => rfl
      case nvob => decide +kernel
      case nvnb => exact ⟨by decide +kernel, by decide +kernel, by decide +kernel⟩
      case nvti => k_is
      case nvself => k_is
      case nvup => kernel_rfl
      case nvisb => k_is
      case nvstat => k_is
      case nvsa => k_is
      case nvnof => k_is
      case nvsup => k_is
    case nvt8 =>
      refine' NV.init_mk ?nvic ?nvl1 ?nvc1 ?nvl2 ?nvv2 ?nvfl ?nvl3 ?nvev ?nvl4 ?nvrl ?nvob ?nvnb PySem.F.excBase_RuntimeError ?nvti ?nvself ?nvup ?nvisb ?nvstat ?nvsa ?nvnof (PySem.NvE.inF_of PySem.F.excBase_RuntimeError PySem.W.kxs_RuntimeError) ?nvsup (by decide +kernel) (by decide +kernel) (by decide +kernel) (by decide +kernel) (by decide +kernel) (by decide +kernel) (by decide +kernel) (fun _ _ _ _ _ _ _ _ _ _ _ => rfl)
      case nvic => k_is
      case nvl1 => k_is
      case nvc1 => k_is
      case nvl2 => k_is
      case nvv2 => rfl
      case nvfl => decide +kernel
      case nvl3 => k_is
      case nvev => exact fun _ _ _ _ => ⟨_, rfl⟩
      case nvl4 => k_is
      case nvrl => exact fun _ => rfl
      case nvob => decide +kernel
      case nvnb => exact ⟨by decide +kernel, by decide +kernel, by decide +kernel⟩
      case nvti => k_is
      case nvself => k_is
      case nvup => kernel_rfl
      case nvisb => k_is
      case nvstat => k_is
      case nvsa => k_is
      case nvnof => k_is
      case nvsup => k_is
    case nvt9 =>
      refine' NV.init_mk ?nvic ?nvl1 ?nvc1 ?nvl2 ?nvv2 ?nvfl ?nvl3 ?nvev ?nvl4 ?nvrl ?nvob ?nvnb PySem.F.excBase_OverflowError ?nvti ?nvself ?nvup ?nvisb ?nvstat ?nvsa ?nvnof (PySem.NvE.inF_of PySem.F.excBase_OverflowError PySem.W.kxs_OverflowError) ?nvsup (by decide +kernel) (by decide +kernel) (by decide +kernel) (by decide +kernel) (by decide +kernel) (by decide +kernel) (by decide +kernel) (fun _ _ _ _ _ _ _ _ _ _ _ => rfl)
      case nvic => k_is
      case nvl1 => k_is
      case nvc1 => k_is
      case nvl2 => k_is
      case nvv2 => rfl
      case nvfl => decide +kernel
      case nvl3 => k_is
      case nvev => exact fun _ _ _ _ => ⟨_, rfl⟩
      case nvl4 => k_is
      case nvrl => exact fun _ => rfl
      case nvob => decide +kernel
      case nvnb => exact ⟨by decide +kernel, by decide +kernel, by decide +kernel⟩
      case nvti => k_is
      case nvself => k_is
      case nvup => kernel_rfl
      case nvisb => k_is
      case nvstat => k_is
      case nvsa => k_is
      case nvnof => k_is
      case nvsup => k_is
    case nvt10 =>
      refine' NV.init_mk ?nvic ?nvl1 ?nvc1 ?nvl2 ?nvv2 ?nvfl ?nvl3 ?nvev ?nvl4 ?nvrl ?nvob ?nvnb PySem.F.excBase_IndexError ?nvti ?nvself ?nvup ?nvisb ?nvstat ?nvsa ?nvnof (PySem.NvE.inF_of PySem.F.excBase_IndexError PySem.W.kxs_IndexError) ?nvsup (by decide +kernel) (by decide +kernel) (by decide +kernel) (by decide +kernel) (by decide +kernel) (by decide +kernel) (by decide +kernel) (fun _ _ _ _ _ _ _ _ _ _ _ => rfl)
      case nvic => k_is
      case nvl1 => k_is
      case nvc1 => k_is
      case nvl2 => k_is
      case nvv2 => rfl
      case nvfl => decide +kernel
      case nvl3 => k_is
      case nvev => exact fun _ _ _ _ => ⟨_, rfl⟩
      case nvl4 => k_is
      case nvrl => exact fun _ => rfl
      case nvob => decide +kernel
      case nvnb => exact ⟨by decide +kernel, by decide +kernel, by decide +kernel⟩
      case nvti => k_is
      case nvself => k_is
      case nvup => kernel_rfl
      case nvisb => k_is
      case nvstat => k_is
      case nvsa => k_is
      case nvnof => k_is
      case nvsup => k_is
    case nvt11 =>
      refine' NV.init_mk ?nvic ?nvl1 ?nvc1 ?nvl2 ?nvv2 ?nvfl ?nvl3 ?nvev ?nvl4 ?nvrl ?nvob ?nvnb PySem.F.excBase_ArithmeticError ?nvti ?nvself ?nvup ?nvisb ?nvstat ?nvsa ?nvnof (PySem.NvE.inF_of PySem.F.excBase_ArithmeticError PySem.W.kxs_ArithmeticError) ?nvsup (by decide +kernel) (by decide +kernel) (by decide +kernel) (by decide +kernel) (by decide +kernel) (by decide +kernel) (by decide +kernel) (fun _ _ _ _ _ _ _ _ _ _ _ => rfl)
      case nvic => k_is
      case nvl1 => k_is
      case nvc1 => k_is
      case nvl2 => k_is
      case nvv2 => rfl
      case nvfl => decide +kernel
      case nvl3 => k_is
      case nvev => exact fun _ _ _ _ => ⟨_, rfl⟩
      case nvl4 => k_is
      case nvrl => exact fun _ => rfl
      case nvob => decide +kernel
      case nvnb => exact ⟨by decide +kernel, by decide +kernel, by decide +kernel⟩
      case nvti => k_is
      case nvself => k_is
      case nvup => kernel_rfl
      case nvisb => k_is
      case nvstat => k_is
      case nvsa => k_is
      case nvnof => k_is
      case nvsup => k_is
