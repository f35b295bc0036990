import PyProof.Rows.All
import Wide.All
import OpenK.AllK
import Wide.FinOn
import HandS.ForMost
import HandS.Exc
import HandS.Wide
import PyProof.Rows.ListStrD
import HandS.Conv
import HandS.Walk
import HandS.Dict
import HandS.IsInst
import HandS.Text
import HandS.Zip
import KE.GoesNew
import KE.GoesMore
import HandS.Iter
import HandS.TupAny
import HandS.Replace
import HandS.ExcOwn
import HandS.WordsExc
import HandS.Codes
import KE.KExcSuper
import HandS.ExcInit
import HandS.ExcValue
import HandS.ExcIs
import HandS.ExcField
import KE.KDictDisplayH
import HandS.Base
import HandS.Call
import HandS.List
import HandS.DictComp
import HandS.DictTup
import KE.KFmtOwn
import HandS.DictEq
import HandS.Defaults
import HandS.Property
import HandS.Words
import HandS.TryOnly
import HandS.ForExc
import HandS.RaiseMore
import HandS.Style
import HandS.TupLen
import HandS.Zip0
import KE.KDictZip
import HandS.WordsDict
import PyProof.EqAt
import PyProof.EqKinds
import PyProof.TupleCall
import KE.KLam
import HandS.Lambda
import HandS.Nested
import PyProof.CodeObj
import HandS.FStr
import HandS.Star
import HandS.TupMul
import HandS.Ends
import HandS.EndTab
import PySem.Challenge.RW_neverturns_k68_whole_boxes_by_force
set_option Elab.async false
set_option maxRecDepth 100000
set_option maxHeartbeats 4000000
/-! # The dice of the law -/
namespace M3
open PySem L2
def top (i : Nat) : Stmt := PySem.Challenge.pw_neverturns_k68_whole_boxes_by_force.main.body.getD i (.Pass ⟨0, 0, 0, 0⟩)
abbrev sDice : Stmt := top 50
abbrev sRoll : Stmt := top 51
abbrev sOneOf : Stmt := top 52
/-- dice that stand at d: what is left of a great cell, the mixed number, how many were drawn -/
def DiceAt (H : Hp) (d : Addr) (l m c : Int) : Prop := H d = some (.lst [.int l, .int m, .int c]) ∧ 0 ≤ l ∧ 0 ≤ m ∧ 0 ≤ c
/-- what a def leaves: the dice turned, all else as it was -/
def But (H H' : Hp) (d : Addr) : Prop := ∀ b o, b ≠ d → H b = some o → H' b = some o
def spRoll : Sp := fun vs H Q _ => ∃ (d : Addr) (l m c n : Int), vs = [.ref d, .int n] ∧ DiceAt H d l m c ∧ 0 < n ∧ n < 1073741824 ∧
  ∀ (r l' c' : Int), 0 ≤ r → r < n → 0 ≤ l' → 0 ≤ c' → Q (.int r) (upd H d (.lst [.int l', .int m, .int c']))
/-- the dice at d are turned, nothing else -/
def Turned (H H' : Hp) (d : Addr) : Prop := ∃ l m c : Int, 0 ≤ l ∧ 0 ≤ m ∧ 0 ≤ c ∧ H' = upd H d (.lst [.int l, .int m, .int c])
def Dz (H : Hp) (d : Addr) : Prop := ∃ l m c : Int, DiceAt H d l m c
theorem Turned.dz {H H' : Hp} {d : Addr} (t : Turned H H' d) : Dz H' d := by
  obtain ⟨l, m, c, h1, h2, h3, rfl⟩ := t
  exact ⟨l, m, c, upd_same, h1, h2, h3⟩
theorem Turned.ne {H H' : Hp} {d b : Addr} (t : Turned H H' d) (h : b ≠ d) : H' b = H b := by
  obtain ⟨l, m, c, h1, h2, h3, rfl⟩ := t
  exact upd_ne h
theorem Turned.trans {H H1 H2 : Hp} {d : Addr} (t : Turned H H1 d) (u : Turned H1 H2 d) : Turned H H2 d := by
  obtain ⟨l, m, c, h1, h2, h3, rfl⟩ := t
  obtain ⟨l', m', c', g1, g2, g3, rfl⟩ := u
  exact ⟨l', m', c', g1, g2, g3, upd_upd⟩
theorem SqL.turned {K : PySem.W.Frag} {H : Hp} {d a : Addr} {o : HO} {xs : List V} (hn : a ≠ d) (h : SqL K H a xs) : SqL K (upd H d o) a xs := by
  rcases h with (h | ⟨u, h⟩) | h
  · exact .inl (.inl (by rw [upd_ne hn]; exact h))
  · exact .inl (.inr ⟨u, by rw [upd_ne hn]; exact h⟩)
  · exact .inr h
def spOneOf (K : PySem.W.Frag) : Sp := fun vs H Q _ => ∃ (d a : Addr) (xs : List V), vs = [.ref d, .ref a] ∧ Dz H d ∧ SqL K H a xs ∧ a ≠ d ∧ 0 < xs.length ∧ xs.length < 1000000 ∧
  ∀ (v : V) (H' : Hp), v ∈ xs → Turned H H' d → Q v H'
def spDice (K : PySem.W.Frag) : Sp := fun vs H Q _ => ∃ (a : Addr) (ns : List Int) (i : Int), vs = [.ref a, .int i] ∧ SqL K H a (ns.map V.int) ∧ 0 ≤ i ∧ ns.length ≤ 63 ∧
  ∀ (p : Addr) (l m : Int), H p = none → 0 ≤ l → 0 ≤ m → Q (.ref p) (upd H p (.lst [.int l, .int m, .int 0]))
theorem op_powX {X : Cx} : OpR X (binaryOp .Pow) (rI (fun i j => 0 ≤ j ∧ (Builtin.Int.intBits i : Int) * j ≤ 2 ^ 27) fun i j => .int (i ^ j.toNat)) := opI fun _ _ _ _ _ _ _ hc q => PyProof.Rows.pow_int hc.1 hc.2 q
structure TxI (mg : Str → Option Value) : Prop where
  int : mg "int" = none
  abs : mg "abs" = none
  len : mg "len" = none
section
variable {P : Program} {w : World} {K : PySem.W.Frag} {mg : Str → Option Value} {base : Heap}
theorem scRoll : FnScope ["dice", "total", "number", "drawn", "one", "two"] ["dice", "total"] (defScope sRoll) := ⟨rfl, rfl, rfl, by decide +kernel, rfl, by decide +kernel, by decide +kernel⟩
theorem ok_roll {f : Addr} {fd : FuncData} (F : Fun K "_law_roll" "_law_roll" sRoll f fd) (T : TxI mg) : FnOk P w K mg base CX0 1 f fd ["dice", "total"] spRoll := by
  refine F.ok scRoll (fun vs H Q E h => ?_) (fun cdv A outer s H vs Q E hr h => ?_)
  · obtain ⟨d, l, m, c, n, rfl, _⟩ := h
    rfl
  · obtain ⟨d, l, m, c, n, rfl, ⟨hd, hl, hm, hc⟩, hn, hn2, k⟩ := h
    refine ⟨_, pss_cons (ps_set (i := 2) scRoll.nd rfl (Or.inl rfl) (pe_callTy call_int1 (by rfl) T.int (by decide +kernel) (pa_cons (pv 1) pa_nil)))
      (pss_cons (ps_if (pt_cmpR op_gt (pe_ix ix_list (pv 0) pe_int (fun _ _ => rfl)) pe_int (nomark _))
        (pss_cons (ps_set (i := 3) scRoll.nd rfl (Or.inl rfl) (pe_op op_modN (pe_ix ix_list (pv 0) pe_int (fun _ _ => rfl)) (pv 2)))
        (pss_cons (ps_asg (pe_op op_fdivN (pe_ix ix_list (pv 0) pe_int (fun _ _ => rfl)) (pv 2)) (pg_sub (pv 0) pe_int set_list))
        (pss_one (ps_ret (pe_callTy call_int1 (by rfl) T.int (by decide +kernel) (pa_cons (pv 3) pa_nil)))))) pss_nil)
      (pss_cons (ps_asg (pe_op op_add (pe_ix ix_list (pv 0) pe_int (fun _ _ => rfl)) pe_int) (pg_sub (pv 0) pe_int set_list))
      (pss_cons (ps_set (i := 4) scRoll.nd rfl (Or.inl rfl) (pe_op op_mod (pe_op op_add (pe_ix ix_list (pv 0) pe_int (fun _ _ => rfl)) (pe_op op_mul pe_int (pe_ix ix_list (pv 0) pe_int (fun _ _ => rfl)))) pe_int))
      (pss_cons (ps_set (i := 5) scRoll.nd rfl (Or.inl rfl) (pe_op op_add (pe_op op_mul (pe_op op_mod (pe_op op_mul (pv 4) (pv 4)) pe_int) (pv 4)) (pe_op op_mul pe_int (pe_ix ix_list (pv 0) pe_int (fun _ _ => rfl)))))
      (pss_cons (ps_set (i := 5) scRoll.nd rfl (Or.inl rfl) (pe_op op_mod (pv 5) pe_int))
      (pss_one (ps_ret (pe_callTy call_int1 (by rfl) T.int (by decide +kernel) (pa_cons (pe_op op_modN (pe_op op_fdiv (pv 5) pe_int) (pv 2)) pa_nil))))))))), ?_⟩
    have h1 : atI [V.int l, V.int m, V.int c] 1 = some (.int m) := rfl
    have h2 : ∀ z : Int, atI [V.int l, V.int m, V.int z] 2 = some (.int z) := fun _ => rfl
    have h1' : ∀ z : Int, atI [V.int l, V.int m, V.int z] 1 = some (.int m) := fun _ => rfl
    refine ⟨_, rfl, .inl ⟨_, rfl, ?_⟩⟩
    refine ⟨_, rfl, d, _, 0, _, rfl, rfl, SqL.of hd, rfl, _, _, rfl, rfl, _, rfl, ?_⟩
    refine ite2 (fun hpos => ?_) (fun hpos => ?_)
    · have hpos : 0 < l := of_decide_eq_true hpos
      refine ⟨_, rfl, d, _, 0, _, rfl, rfl, SqL.of hd, rfl, _, rfl, _, _, rfl, rfl, (by omega), ?_⟩
      refine ⟨_, rfl, d, _, 0, _, rfl, rfl, SqL.of hd, rfl, _, rfl, _, _, rfl, rfl, ⟨by omega, by omega⟩, ?_⟩
      refine ⟨_, rfl, d, _, 0, 0, rfl, rfl, hd, rfl, ?_⟩
      refine ⟨_, rfl, .inl ⟨_, rfl, ?_⟩⟩
      refine k _ _ _ ?_ ?_ ?_ hc
      · exact Int.fmod_nonneg (by omega) (by omega)
      · exact Int.fmod_lt_of_pos _ hn
      · exact Int.fdiv_nonneg hl (by omega)
    · refine ⟨_, rfl, d, _, 2, _, rfl, rfl, SqL.of hd, rfl, _, _, rfl, rfl, ?_⟩
      refine ⟨_, rfl, d, _, 2, 2, rfl, rfl, hd, rfl, ?_⟩
      have hd2 : (upd H d (.lst [.int l, .int m, .int (c + 1)])) d = some (.lst [.int l, .int m, .int (c + 1)]) := upd_same
      -- one
      refine ⟨_, rfl, d, _, 1, _, rfl, rfl, SqL.of hd2, rfl, ?_⟩
      refine ⟨_, rfl, d, _, 2, _, rfl, rfl, SqL.of hd2, rfl, _, _, rfl, rfl, .inl ⟨by decide, by decide⟩, _, _, rfl, rfl, _, _, rfl, rfl, (by show (0 : Int) < 2305843009213693951; decide), ?_⟩
      have b1 : ∀ x : Int, 0 ≤ x % 2305843009213693951 ∧ x % 2305843009213693951 < 2305843009213693951 := fun x => by omega
      generalize hx : (m + 1000151 * (c + 1)) % 2305843009213693951 = x1
      have bx := b1 (m + 1000151 * (c + 1))
      rw [hx] at bx
      -- two
      refine ⟨_, rfl, _, rfl, _, _, rfl, rfl, .inl ⟨by omega, by omega⟩, _, _, rfl, rfl, (by show (0 : Int) < 2305843009213693921; decide), ?_⟩
      have b2 : ∀ x : Int, 0 ≤ x % 2305843009213693921 ∧ x % 2305843009213693921 < 2305843009213693921 := fun x => by omega
      have by1 := b2 (x1 * x1)
      generalize hy : (x1 * x1) % 2305843009213693921 = y1 at by1 ⊢
      refine ⟨_, rfl, _, _, rfl, rfl, .inl ⟨by omega, by omega⟩, _, rfl, d, _, 2, _, rfl, rfl, SqL.of hd2, rfl, _, _, rfl, rfl, .inl ⟨by decide, by decide⟩, _, _, rfl, rfl, ?_⟩
      refine ⟨_, rfl, _, _, rfl, rfl, (by show (0 : Int) < 2305843009213693907; decide), ?_⟩
      have b3 : ∀ x : Int, 0 ≤ x % 2305843009213693907 := fun x => by omega
      have bz := b3 (y1 * x1 + 9403 * (c + 1))
      generalize (y1 * x1 + 9403 * (c + 1)) % 2305843009213693907 = z1 at bz ⊢
      refine ⟨_, rfl, _, _, rfl, rfl, ⟨by decide, by decide⟩, _, rfl, _, _, rfl, rfl, (by omega), .inl ⟨_, rfl, ?_⟩⟩
      refine k _ _ _ ?_ ?_ hl (by omega)
      · exact Int.fmod_nonneg (by omega) (by omega)
      · exact Int.fmod_lt_of_pos _ hn
theorem scOneOf : FnScope ["dice", "items"] ["dice", "items"] (defScope sOneOf) := ⟨rfl, rfl, rfl, by decide +kernel, rfl, by decide +kernel, by decide +kernel⟩
theorem ok_oneof {f g : Addr} {fd gd : FuncData} (F : Fun K "_law_one_of" "_law_one_of" sOneOf f fd) (G : Fun K "_law_roll" "_law_roll" sRoll g gd) (bG : Binds K gd ["dice", "total"] []) (gG : mg "_law_roll" = some (.ref g)) (T : TxI mg) :
    FnOk P w K mg base CX0 2 f fd ["dice", "items"] (spOneOf K) := by
  have GR : FnOk P w K mg base CX0 1 g gd ["dice", "total"] spRoll := ok_roll G T
  refine F.ok scOneOf (fun vs H Q E h => ?_) (fun cdv A outer s H vs Q E hr h => ?_)
  · obtain ⟨d, a, xs, rfl, _⟩ := h
    rfl
  · obtain ⟨d, a, xs, rfl, ⟨l, m, c, D⟩, ha, hn, h0, hz, k⟩ := h
    refine ⟨_, pss_one (ps_ret (pe_ix ix_list (pv 1) (pe_call GR hr rfl gG G.kp bG .nil pass0 (pa_cons (pv 0) (pa_cons (pe_callB call_len_seq (by rfl) T.len PySem.boot_len (pa_cons (pv 1) pa_nil)) pa_nil))) (fun _ _ => rfl))), ?_⟩
    refine ⟨_, rfl, _, rfl, _, rfl, a, xs, rfl, .inl ha, d, l, m, c, xs.length, rfl, D, by omega, by omega, fun r l' c' h1 h2 h3 h4 => ?_⟩
    have hlt : r.toNat < xs.length := by omega
    have er : r = (r.toNat : Int) := by omega
    refine ⟨a, xs, r, xs[r.toNat], rfl, rfl, (SqL.turned hn ha), ?_, ?_⟩
    · have q := atI_nat (List.getElem?_eq_getElem hlt)
      rw [← er] at q
      exact q
    · exact k _ _ (List.getElem_mem hlt) ⟨l', m, c', h3, D.2.2.1, h4, rfl⟩
theorem scDice : FnScope ["script", "at", "cell", "great", "left", "mixed"] ["script", "at"] (defScope sDice) := ⟨rfl, rfl, rfl, by decide +kernel, rfl, by decide +kernel, by decide +kernel⟩
theorem ok_dice {f : Addr} {fd : FuncData} (F : Fun K "_law_dice" "_law_dice" sDice f fd) (T : TxI mg) : FnOk P w K mg base CX0 1 f fd ["script", "at"] (spDice K) := by
  refine F.ok scDice (fun vs H Q E h => ?_) (fun cdv A outer s H vs Q E hr h => ?_)
  · obtain ⟨a, ns, i, rfl, _⟩ := h
    rfl
  · obtain ⟨a, ns, i, rfl, ha, hi, hl, k⟩ := h
    refine ⟨_, pss_cons (ps_set (i := 2) scDice.nd rfl (Or.inl rfl) (pe_op op_add (pe_op op_mul pe_int (pv 1)) pe_int))
      (pss_cons (ps_if (pt_cmpR op_lt (pv 1) (pe_callB call_len_seq (by rfl) T.len PySem.boot_len (pa_cons (pv 0) pa_nil)) (nomark _)) (pss_one (ps_set (i := 2) scDice.nd rfl (Or.inl rfl) (pe_ix ix_list (pv 0) (pv 1) (fun _ _ => rfl)))) pss_nil)
      (pss_cons (ps_set (i := 3) scDice.nd rfl (Or.inl rfl) (pe_op op_mod (pe_callTy call_int1 (by rfl) T.int (by decide +kernel) (pa_cons (pe_callB call_abs (by rfl) T.abs (by decide +kernel) (pa_cons (pv 2) pa_nil)) pa_nil)) (pe_op op_powX (pe_op op_pow pe_int pe_int) pe_int)))
      (pss_cons (ps_set (i := 4) scDice.nd rfl (Or.inl rfl) (pe_op op_fdivW (pv 3) (pe_op op_pow pe_int pe_int)))
      (pss_cons (ps_set (i := 5) scDice.nd rfl (Or.inl rfl) (pe_op op_add (pe_op op_add (pe_op op_add (pe_op op_mul (pe_op op_mod (pv 3) pe_int) pe_int) (pe_op op_mul pe_int (pv 1)))
        (pe_op op_mul pe_int (pe_callTy call_int1 (by rfl) T.int (by decide +kernel) (pa_cons (pe_cmpR op_lt (pv 2) pe_int (nomark _)) pa_nil)))) pe_int))
      (pss_one (ps_ret (pe_lst (pa_cons (pv 4) (pa_cons (pe_op op_mod (pv 5) pe_int) (pa_cons pe_int pa_nil)))))))))), ?_⟩
    refine ⟨_, rfl, _, _, rfl, rfl, .inl ⟨by decide, by decide⟩, _, _, rfl, rfl, ?_⟩
    refine ⟨_, rfl, _, rfl, a, _, rfl, .inl ha, _, _, rfl, rfl, _, rfl, ?_⟩
    have pw0 : (0 : Int) < (10 ^ (60 : Int).toNat) ^ (10 : Int).toNat := Int.pow_pos (Int.pow_pos (by decide))
    have pb : (0 ≤ (10 : Int) ∧ (Builtin.Int.intBits (10 ^ (60 : Int).toNat) : Int) * 10 ≤ 2 ^ 27) := ⟨by decide, by decide +kernel⟩
    have p18 : (0 : Int) < 10 ^ (18 : Int).toNat := Int.pow_pos (by decide)
    have p18b : ((10 : Int) ^ (18 : Int).toNat).natAbs.log2 < 9000 := by decide +kernel
    have m1 : ∀ x : Int, -(2 ^ 64) < x % 2147483237 ∧ x % 2147483237 < 2 ^ 64 := fun x => by omega
    refine ite2 (fun hc => ?_) (fun hc => ?_)
    · have hc : i < ((ns.map V.int).length : Int) := of_decide_eq_true hc
      have hlt : i.toNat < ns.length := by rw [List.length_map] at hc; omega
      have er : i = (i.toNat : Int) := by omega
      have q : atI (ns.map V.int) (i.toNat : Int) = some (.int ns[i.toNat]) := atI_nat (by rw [List.getElem?_map, List.getElem?_eq_getElem hlt]; rfl)
      rw [← er] at q
      refine ⟨_, rfl, _, rfl, a, _, i, _, rfl, rfl, ha, q, ?_⟩
      generalize ns[i.toNat] = cell
      refine ⟨_, rfl, _, rfl, .inl ⟨_, rfl, _, _, rfl, rfl, ⟨by decide, by decide, by decide⟩, _, _, rfl, rfl, pb, _, _, rfl, rfl, pw0, ?_⟩⟩
      refine ⟨_, rfl, _, _, rfl, rfl, ⟨by decide, by decide, by decide⟩, _, _, rfl, rfl, ⟨p18, p18b⟩, ?_⟩
      refine ⟨_, rfl, _, _, rfl, rfl, (by show (0 : Int) < 2147483237; decide), _, _, rfl, rfl, .inl ⟨(m1 _).1, (m1 _).2⟩, _, rfl, _, _, rfl, rfl, .inl ⟨by decide, by decide⟩, _, _, rfl, rfl, ?_⟩
      refine ⟨_, rfl, _, _, rfl, rfl, .inr ⟨_, rfl, _, _, rfl, rfl, .inl ⟨by decide, by decide⟩, _, _, rfl, rfl, _, _, rfl, rfl, ?_⟩⟩
      refine ⟨_, rfl, _, rfl, _, _, rfl, rfl, (by show (0 : Int) < 2147483179; decide), (by show 3 ≤ sizeLine; decide), fun p hp => ?_⟩
      exact k p _ _ hp (Int.ediv_nonneg (Int.emod_nonneg _ (by omega)) (by omega)) (Int.emod_nonneg _ (by decide))
    · refine ⟨_, rfl, _, rfl, .inl ⟨_, rfl, _, _, rfl, rfl, ⟨by decide, by decide, by decide⟩, _, _, rfl, rfl, pb, _, _, rfl, rfl, pw0, ?_⟩⟩
      refine ⟨_, rfl, _, _, rfl, rfl, ⟨by decide, by decide, by decide⟩, _, _, rfl, rfl, ⟨p18, p18b⟩, ?_⟩
      refine ⟨_, rfl, _, _, rfl, rfl, (by show (0 : Int) < 2147483237; decide), _, _, rfl, rfl, .inl ⟨(m1 _).1, (m1 _).2⟩, _, rfl, _, _, rfl, rfl, .inl ⟨by decide, by decide⟩, _, _, rfl, rfl, ?_⟩
      refine ⟨_, rfl, _, _, rfl, rfl, .inr ⟨_, rfl, _, _, rfl, rfl, .inl ⟨by decide, by decide⟩, _, _, rfl, rfl, _, _, rfl, rfl, ?_⟩⟩
      refine ⟨_, rfl, _, rfl, _, _, rfl, rfl, (by show (0 : Int) < 2147483179; decide), (by show 3 ≤ sizeLine; decide), fun p hp => ?_⟩
      exact k p _ _ hp (Int.ediv_nonneg (Int.emod_nonneg _ (by omega)) (by omega)) (Int.emod_nonneg _ (by decide))
end
end M3

set_option Elab.async false
set_option linter.all false
set_option maxRecDepth 100000
set_option maxHeartbeats 8000000
/-! # Drawn orders, letters, words -/
namespace M3
open PySem L2
theorem keep_new {H : Hp} {p b : Addr} {o u : HO} (h : H b = some o) (hp : H p = none) : upd H p u b = some o := by
  rw [upd_ne (ne_of_none h hp)]
  exact h
/-- all but the dice stands as it stood -/
def Still (d : Addr) (H H' : Hp) : Prop := ∀ b o, b ≠ d → H b = some o → H' b = some o
theorem Still.new {d : Addr} {H H1 : Hp} {p : Addr} {u : HO} (s : Still d H H1) (hp : H1 p = none) : Still d H (upd H1 p u) := fun b o hb h => keep_new (s b o hb h) hp
theorem Still.turn {d : Addr} {H H1 H2 : Hp} (s : Still d H H1) (t : Turned H1 H2 d) : Still d H H2 := fun b o hb h => by
  rw [t.ne hb]
  exact s b o hb h
theorem Still.refl (d : Addr) (H : Hp) : Still d H H := fun _ _ _ h => h
theorem Still.trans {d : Addr} {H H1 H2 : Hp} (s : Still d H H1) (t : Still d H1 H2) : Still d H H2 := fun b o hb h => t b o hb (s b o hb h)
/-- what is made behind H changes nothing of H -/
theorem Still.at_new {d q : Addr} {H H1 : Hp} {u : HO} (s : Still d H H1) (hq : H q = none) : Still d H (upd H1 q u) := fun b o hb h => by
  rw [upd_ne (ne_of_none h hq)]
  exact s b o hb h
theorem Dz.new {H : Hp} {d p : Addr} {u : HO} (z : Dz H d) (hp : H p = none) : Dz (upd H p u) d := by
  obtain ⟨l, m, c, h, r⟩ := z
  exact ⟨l, m, c, keep_new h hp, r⟩
theorem Dz.ne {H : Hp} {d p : Addr} {u : HO} (z : Dz H d) (hp : p ≠ d) : Dz (upd H p u) d := by
  obtain ⟨l, m, c, h, r⟩ := z
  exact ⟨l, m, c, by rw [upd_ne hp.symm]; exact h, r⟩
structure TxM (mg : Str → Option Value) : Prop where
  list : mg "list" = none
  sorted : mg "sorted" = none
  range : mg "range" = none
  tuple : mg "tuple" = none
  len : mg "len" = none
/-- the facts of the dice's defs -/
structure DefsD (K : PySem.W.Frag) (mg : Str → Option Value) where
  (fR fO : Addr)
  (dR dO : FuncData)
  R : Fun K "_law_roll" "_law_roll" sRoll fR dR
  bR : Binds K dR ["dice", "total"] []
  mR : mg "_law_roll" = some (.ref fR)
  O : Fun K "_law_one_of" "_law_one_of" sOneOf fO dO
  bO : Binds K dO ["dice", "items"] []
  mO : mg "_law_one_of" = some (.ref fO)
abbrev sMixed : Stmt := top 53
theorem dp_strs {K : PySem.W.Frag} {H : Hp} : ∀ ss : List Str, DpAll K H (ss.map V.str) (ss.map PyData.str)
  | [] => .nil
  | _ :: ss => .cons (.str _) (dp_strs ss)
theorem strs_lay : ∀ ss : List Str, (∀ z ∈ ss, PyData.strOk z = true) → PyData.canLayAll0 (ss.map PyData.str) = true
  | [], _ => by rfl
  | x :: l, hk => by
    have h := strs_lay l fun z hz => hk z (List.mem_cons_of_mem _ hz)
    have h0 := hk x List.mem_cons_self
    simp only [List.map_cons, PyData.canLayAll0, PyData.canLay0, h, h0, Bool.and_self]
theorem strs_depth : ∀ ss : List Str, PyData.depthAll (ss.map PyData.str) = 0
  | [] => by rfl
  | _ :: l => by
    have h := strs_depth l
    simp only [List.map_cons, PyData.depthAll, PyData.depth, h, Nat.max_self]
theorem strs_shaped (ss : List Str) (hk : ∀ z ∈ ss, PyData.strOk z = true) : SeqAt.shaped (.list (ss.map PyData.str)) = true := by
  unfold SeqAt.shaped
  have h1 : (PyData.list (ss.map PyData.str)).canLay0 = true := by
    have h := strs_lay ss hk
    simp only [PyData.canLay0, h]
  have h2 : (PyData.list (ss.map PyData.str)).depth = 1 := by
    have h := strs_depth ss
    simp only [PyData.depth, h]
  rw [h1, h2]
  rfl
theorem map_erase {α β : Type} (g : α → β) : ∀ (l : List α) (i : Nat), (l.map g).eraseIdx i = (l.eraseIdx i).map g
  | [], _ => rfl
  | _ :: _, 0 => rfl
  | x :: l, i + 1 => by
    show g x :: (l.map g).eraseIdx i = g x :: (l.eraseIdx i).map g
    rw [map_erase g l i]
theorem erase_perm {α : Type} : ∀ (l : List α) (i : Nat) (h : i < l.length), (l[i] :: l.eraseIdx i).Perm l
  | _ :: _, 0, _ => List.Perm.refl _
  | x :: l, i + 1, h => by
    have h' : i < l.length := Nat.lt_of_succ_lt_succ h
    have p := erase_perm l i h'
    show (l[i] :: x :: l.eraseIdx i).Perm (x :: l)
    exact (List.Perm.swap x l[i] _).trans (p.cons x)
theorem seqIx {n k : Nat} (h : k < n) : seqIndex? (k : Int) n = some k := by
  unfold seqIndex?
  have a : ¬ (k : Int) < 0 := by omega
  have b : (0 : Int) ≤ k ∧ (k : Int) < n := by omega
  simp only [if_neg a]
  rw [decide_eq_true b.1, decide_eq_true b.2]
  rfl
theorem strs_eqv_nil (ss : List Str) : (PyData.list (ss.map PyData.str)).eqv (.list []) = ss.isEmpty := by
  cases ss with
  | nil => rfl
  | cons a l => simp [PyData.eqv, PyData.eqvAll]
def spMixed (K : PySem.W.Frag) : Sp := fun vs H Q _ => ∃ (d a : Addr) (ss : List Str), vs = [.ref d, .ref a] ∧ Dz H d ∧ SqL K H a (ss.map V.str) ∧ ss.length ≤ 100 ∧ (∀ z ∈ ss, PyData.strOk z = true) ∧
  ∀ (ys : List Str) (p : Addr) (H' : Hp), ys.Perm ss → H p = none → H' p = some (.lst (ys.map V.str)) → Dz H' d → Still d H H' → Q (.ref p) H'
section
variable {P : Program} {w : World} {K : PySem.W.Frag} {mg : Str → Option Value} {base : Heap}
theorem scMixed : FnScope ["dice", "items", "left", "found"] ["dice", "items"] (defScope sMixed) := ⟨rfl, rfl, rfl, by decide +kernel, rfl, by decide +kernel, by decide +kernel⟩
theorem ok_mixed {f : Addr} {fd : FuncData} (F : Fun K "_law_mixed" "_law_mixed" sMixed f fd) (D : DefsD K mg) (T : TxI mg) (M : TxM mg) : FnOk P w K mg base CX0 2 f fd ["dice", "items"] (spMixed K) := by
  have GR : FnOk P w K mg base CX0 1 D.fR D.dR ["dice", "total"] spRoll := ok_roll D.R T
  refine F.ok scMixed (fun vs H Q E h => ?_) (fun cdv A outer s H vs Q E hr h => ?_)
  · obtain ⟨d, a, ss, rfl, _⟩ := h
    rfl
  · obtain ⟨d, a, ss, rfl, Z, ha, hl, hok, k⟩ := h
    have hr1 : Room 1 _ := hr.mono (by decide)
    refine ⟨_, pss_cons (ps_par (i := 2) (j := 3) (by rfl) scMixed.nd rfl rfl (by decide) rfl rfl (pa_cons (pe_callTy call_list_of (by rfl) M.list (by decide +kernel) (pa_cons (pv 1) pa_nil)) (pa_cons (pe_lst pa_nil) pa_nil)) (by rfl))
      (pss_cons (ps_while PassesOwn.never (pt_cmpR (op_neD hr.units) (pv 2) (pe_lst pa_nil) (nomark _))
        (pss_one (ps_expr (pe_bm PySem.F.plainAttrs_list PySem.F.slot_list_append PySem.F.type_list_append mt_append (pv 3)
          (pa_cons (pe_bm PySem.F.plainAttrs_list PySem.F.slot_list_pop PySem.F.type_list_pop mt_popAt (pv 2) (pa_cons (pe_call GR hr1 rfl D.mR D.R.kp D.bR .nil pass0 (pa_cons (pv 0) (pa_cons (pe_callB call_len_seq (by rfl) T.len PySem.boot_len (pa_cons (pv 2) pa_nil)) pa_nil))) pa_nil)) pa_nil)))))
      (pss_one (ps_ret (pv 3)))), ?_⟩
    refine ⟨_, rfl, a, _, rfl, .inl ha, fun l nl => ⟨(by show 0 ≤ sizeLine; decide), fun f nf => ?_⟩⟩
    have ne_a : ∀ {H' : Hp} {b : Addr}, H' b = none → ∀ {o : HO}, H' d = some o → b ≠ d := fun n _ h z => by
      subst z
      rw [n] at h
      cases h
    obtain ⟨dl, dm, dc, hd, w1, w2, w3⟩ := id Z
    have ld : l ≠ d := ne_a nl hd
    have hd1 : (upd H l (.lst (ss.map V.str))) d = some (.lst [.int dl, .int dm, .int dc]) := keep_new hd nl
    have fd' : f ≠ d := ne_a nf hd1
    have lf : l ≠ f := fun z => by
      subst z
      rw [upd_same] at nf
      cases nf
    have nf0 : H f = none := by
      rw [upd_ne (Ne.symm lf)] at nf
      exact nf
    refine ⟨_, _, rfl, ?_⟩
    refine while_by (fun σ H' => σ = [some (.ref d), some (.ref a), some (.ref l), some (.ref f)] ∧ ∃ ls fs : List Str, H' l = some (.lst (ls.map V.str)) ∧ H' f = some (.lst (fs.map V.str)) ∧ (fs ++ ls).Perm ss ∧ Dz H' d ∧ Still d H H')
      (fun σ H' => match H' l with | some (.lst xs) => xs.length | _ => 0) ⟨rfl, ss, [], by rw [upd_ne lf]; exact upd_same, upd_same, List.Perm.refl _, (Z.new nl).new nf, ((Still.refl d H).new nl).new nf⟩ ?_ ?_
    · rintro σ H1 ⟨rfl, ls, fs, h1, h2, h3, h4, h5⟩
      refine ⟨_, rfl, (by show 0 ≤ sizeLine; decide), fun p np => ?_⟩
      refine ⟨_, _, .lst (SqL.of (keep_new h1 np)) (dp_strs ls), .lst (SqL.of upd_same) .nil, strs_shaped ls (fun z hz => hok z (h3.subset (List.mem_append_right _ hz))), by decide, ?_⟩
      rw [strs_eqv_nil]
      refine ⟨_, rfl, ?_⟩
      cases ls with
      | nil =>
        refine iteF ?_
        rw [List.append_nil] at h3
        exact ⟨_, rfl, k fs f _ h3 nf0 (keep_new h2 np) (h4.new np) (h5.new np)⟩
      | cons z ls =>
        refine iteT ?_
        have g1 : (upd H1 p (.lst [])) l = some (.lst ((z :: ls).map V.str)) := keep_new h1 np
        have g2 : (upd H1 p (.lst [])) f = some (.lst (fs.map V.str)) := keep_new h2 np
        have g4 : Dz (upd H1 p (.lst [])) d := h4.new np
        have g5 : Still d H (upd H1 p (.lst [])) := h5.new np
        generalize upd H1 p (.lst []) = H2 at g1 g2 g4 g5 ⊢
        obtain ⟨l0, m0, c0, D0⟩ := g4
        have hlen : (z :: ls).length ≤ 100 := by
          have := h3.length_eq
          rw [List.length_append] at this
          omega
        refine ⟨_, rfl, .inl ⟨rfl, _, SqL.of g2⟩, _, rfl, .inl ⟨rfl, _, SqL.of g1⟩, _, rfl, _, rfl, l, _, rfl, .inl (SqL.of g1), d, l0, m0, c0, _, rfl, D0, ?_, ?_, fun r l' c' r0 rn q0 q1 => ?_⟩
        · rw [List.length_map]
          show (0 : Int) < ((ls.length + 1 : Nat) : Int)
          omega
        · rw [List.length_map]
          omega
        · rw [List.length_map] at rn
          have rl : r.toNat < (z :: ls).length := by omega
          have er : r = (r.toNat : Int) := by omega
          have TT : Turned H2 (upd H2 d (.lst [.int l', .int m0, .int c'])) d := ⟨l', m0, c', q0, D0.2.2.1, q1, rfl⟩
          have k1 : (upd H2 d (.lst [.int l', .int m0, .int c'])) l = some (.lst ((z :: ls).map V.str)) := by
            rw [upd_ne ld]
            exact g1
          have k2 : (upd H2 d (.lst [.int l', .int m0, .int c'])) f = some (.lst (fs.map V.str)) := by
            rw [upd_ne fd']
            exact g2
          have k4 := TT.dz
          have k5 := g5.turn TT
          generalize upd H2 d (.lst [.int l', .int m0, .int c']) = H3 at k1 k2 k4 k5 ⊢
          refine ⟨l, _, r, r.toNat, .str ((z :: ls)[r.toNat]), rfl, rfl, k1, by omega, by omega, ?_, ?_, ?_⟩
          · rw [List.length_map, er]
            exact seqIx rl
          · rw [List.getElem?_map, List.getElem?_eq_getElem rl]
            rfl
          · refine ⟨f, _, _, rfl, rfl, by rw [upd_ne (Ne.symm lf)]; exact k2, ?_, ?_⟩
            · rw [List.length_map]
              have := h3.length_eq
              rw [List.length_append] at this
              exact Nat.lt_of_le_of_lt (show fs.length ≤ 100 by omega) (by decide)
            · refine ⟨⟨rfl, (z :: ls).eraseIdx r.toNat, fs ++ [(z :: ls)[r.toNat]], ?_, ?_, ?_, ?_, ?_⟩, ?_⟩
              · rw [upd_ne lf, upd_same, map_erase]
              · rw [upd_same, List.map_append]
                rfl
              · refine List.Perm.trans ?_ h3
                rw [List.append_assoc]
                refine List.Perm.append_left fs ?_
                exact (erase_perm (z :: ls) r.toNat rl)
              · exact (k4.ne ld).ne fd'
              · exact (k5.at_new nl).at_new nf0
              · show (match (upd _ f _) l with | some (.lst xs) => xs.length | _ => 0) < (match H1 l with | some (.lst xs) => xs.length | _ => 0)
                rw [h1, upd_ne lf, upd_same]
                show (((z :: ls).map V.str).eraseIdx r.toNat).length < ((z :: ls).map V.str).length
                rw [List.length_eraseIdx, List.length_map, if_pos rl]
                show ls.length + 1 - 1 < ls.length + 1
                omega
    · rintro σ H1 Q1 Q2 hq ⟨x, hx, hz, hh⟩
      refine ⟨x, hx, hz, fun p np => ?_⟩
      obtain ⟨d1, d2, q1, q2, q3, q4, k1, q5, q6⟩ := hh p np
      exact ⟨d1, d2, q1, q2, q3, q4, k1, q5, hq _ _ q6⟩
end
end M3

set_option Elab.async false
set_option linter.all false
set_option maxRecDepth 100000
set_option maxHeartbeats 8000000
/-! # Drawn sets of letters, drawn words -/
namespace M3
open PySem L2
/-- list(a text): its signs -/
theorem call_listS {X : Cx} (hc : X.calm = true) : CallR X (.type "list") (fun xs H Q => ∃ x : Str, xs = [.str x] ∧ x.length ≤ sizeLine ∧ ∀ l, H l = none → Q (.ref l) (upd H l (.lst ((PyProof.Rows.signs x).map V.str)))) := by
  intro pins s σ H xs us Q I r h
  obtain ⟨x, rfl, hz, q⟩ := h
  obtain ⟨u, rfl, rx⟩ := vals1 r
  obtain ⟨t, rfl⟩ := rx
  refine call_list_str (I.ok.hd hc) x t (hn := hz) fun h' tk acc' c' hk hS hacc => ?_
  refine ⟨.ref s.heap.objs.size, _, I.laid (t' := tk) hk (Nat.le_refl _) (show ObjOk X.prog X.w _ h' _ (.lst ((PyProof.Rows.signs x).map V.str)) from ⟨?_, acc'.toList, c', ?_, by simpa using hS⟩), rfl, q _ (I.hok.fresh (Nat.le_refl _))⟩
  · rw [List.length_map]
    unfold PyProof.Rows.signs
    rw [List.length_map]
    exact hz
  · have hl : acc'.toList.length = x.cps.toList.length := by
      have := hacc.1
      simpa using this
    refine vals_of_at ?_ fun j y v h1 h2 => ?_
    · unfold PyProof.Rows.signs
      rw [List.length_map, List.length_map, hl]
    · obtain ⟨c, u, e1, e2⟩ := hacc.2 j v (by simpa using h2)
      unfold PyProof.Rows.signs at h1
      rw [List.getElem?_map, List.getElem?_map] at h1
      have e3 : x.cps.toList[j]? = some c := by simpa using e1
      rw [e3] at h1
      cases h1
      exact ⟨u, e2⟩
abbrev sLetters : Stmt := top 54
theorem scLetters : FnScope ["dice", "total"] ["dice", "total"] (defScope sLetters) := ⟨rfl, rfl, rfl, by decide +kernel, rfl, by decide +kernel, by decide +kernel⟩
/-- a set of letters that is drawn: ascending signs of abckxz -/
def IsSet (w : Str) (n : Nat) : Prop := ∃ cs : List Nat, w = ⟨cs.toArray⟩ ∧ cs.length = n ∧ cs.Pairwise (· < ·) ∧ ∀ c ∈ cs, c ∈ [97, 98, 99, 107, 120, 122]
abbrev six : List Nat := [97, 98, 99, 107, 120, 122]
theorem signs_six : PyProof.Rows.signs "abckxz" = six.map fun c => (⟨#[c]⟩ : Str) := by decide +kernel
theorem six_lt : ∀ a ∈ six, ∀ b ∈ six, a ≠ b → PyProof.Rows.sortedS [(⟨#[a]⟩ : Str), ⟨#[b]⟩] = true → a < b := by decide +kernel
theorem six_join : ∀ a ∈ six, ∀ b ∈ six, Txt.join "" [(⟨#[a]⟩ : Str), ⟨#[b]⟩] = ⟨#[a, b]⟩ := by decide +kernel
theorem six_join1 : ∀ a ∈ six, Txt.join "" [(⟨#[a]⟩ : Str)] = ⟨#[a]⟩ := by decide +kernel
theorem six_ok : ∀ z ∈ PyProof.Rows.signs "abckxz", PyData.strOk z = true := by
  rw [signs_six]
  decide +kernel
theorem six_nodup : (PyProof.Rows.signs "abckxz").Nodup := by
  rw [signs_six]
  decide +kernel
theorem set_of {ys zs : List Str} {n : Nat} (h1 : 1 ≤ n) (h2 : n ≤ 2) (perm : ys.Perm (PyProof.Rows.signs "abckxz")) (pz : zs.Perm (ys.take n)) (so : PyProof.Rows.sortedS zs = true) : IsSet (Txt.join "" zs) n ∧ (zs.map (·.length)).sum ≤ 2 := by
  have hn : ys.Nodup := perm.nodup_iff.mpr six_nodup
  have hz : zs.Nodup := pz.nodup_iff.mpr (hn.sublist (List.take_sublist n ys))
  have ly : ys.length = 6 := by
    rw [perm.length_eq, signs_six]
    rfl
  have lz : zs.length = n := by
    rw [pz.length_eq, List.length_take, ly]
    omega
  have hm : ∀ z ∈ zs, ∃ a ∈ six, z = (⟨#[a]⟩ : Str) := fun z h => by
    have h' := perm.subset (List.mem_of_mem_take (pz.subset h))
    rw [signs_six] at h'
    obtain ⟨a, ha, e⟩ := List.mem_map.mp h'
    exact ⟨a, ha, e.symm⟩
  match zs, lz, hz, hm, so with
  | [], lz, _, _, _ =>
    have lz : 0 = n := lz
    omega
  | [z], lz, _, hm, _ =>
    obtain ⟨a, ha, e⟩ := hm z List.mem_cons_self
    subst e
    have lz : 1 = n := lz
    refine ⟨⟨[a], six_join1 a ha, lz, List.pairwise_singleton _ _, fun c hc => ?_⟩, by show 1 + 0 ≤ 2; decide⟩
    rw [List.mem_singleton.mp hc]
    exact ha
  | [x, y], lz, hz, hm, so =>
    obtain ⟨a, ha, e⟩ := hm x List.mem_cons_self
    obtain ⟨b, hb, e'⟩ := hm y (List.mem_cons_of_mem _ List.mem_cons_self)
    subst e e'
    have lz : 2 = n := lz
    have ne : a ≠ b := fun q => by
      subst q
      simp at hz
    have lt := six_lt a ha b hb ne so
    refine ⟨⟨[a, b], six_join a ha b hb, lz, ?_, fun c hc => ?_⟩, by show 1 + (1 + 0) ≤ 2; decide⟩
    · simp [lt]
    · rcases List.mem_cons.mp hc with q | q
      · rw [q]
        exact ha
      · rw [List.mem_singleton.mp q]
        exact hb
  | _ :: _ :: _ :: l, lz, _, _, _ =>
    have lz : l.length + 3 = n := lz
    omega
theorem cut_take {ss : List Str} {n : Nat} (h : n ≤ ss.length) : cutV (ss.map V.str) none (some (n : Int)) = (ss.take n).map V.str := by
  unfold cutV
  rw [HT.sIx_none, HT.sIx_nat, List.length_map, List.drop_zero, Nat.sub_zero, Nat.min_eq_left h, List.map_take]
def spLetters : Sp := fun vs H Q _ => ∃ (d : Addr) (n : Nat), vs = [.ref d, .int n] ∧ Dz H d ∧ 1 ≤ n ∧ n ≤ 2 ∧ ∀ (x : Str) (H' : Hp), IsSet x n → Dz H' d → Still d H H' → Q (.str x) H'
section
variable {P : Program} {w : World} {K : PySem.W.Frag} {mg : Str → Option Value} {base : Heap}
theorem ok_letters {f g : Addr} {fd gd : FuncData} (F : Fun K "_law_letters" "_law_letters" sLetters f fd) (FM : Fun K "_law_mixed" "_law_mixed" sMixed g gd) (bM : Binds K gd ["dice", "items"] []) (mM : mg "_law_mixed" = some (.ref g)) (D : DefsD K mg) (T : TxI mg) (M : TxM mg) :
    FnOk P w K mg base CX0 3 f fd ["dice", "total"] spLetters := by
  have GM : FnOk P w K mg base CX0 2 g gd ["dice", "items"] (spMixed K) := ok_mixed FM D T M
  refine F.ok scLetters (fun vs H Q E h => ?_) (fun cdv A outer s H vs Q E hr h => ?_)
  · obtain ⟨d, n, rfl, _⟩ := h
    rfl
  · obtain ⟨d, n, rfl, Z, h1, h2, k⟩ := h
    have hr2 : Room 2 _ := hr.mono (by decide)
    refine ⟨_, pss_one (ps_ret (pe_join pe_str (pe_callB cr_sortedS (by rfl) M.sorted (by decide +kernel) (pa_cons (pe_slice sl_list (pe_call GM hr2 rfl mM FM.kp bM .nil pass0 (pa_cons (pv 0) (pa_cons (pe_callTy (call_listS rfl) (by rfl) M.list (by decide +kernel) (pa_cons pe_str pa_nil)) pa_nil))) po_none (po_some (pv 1))) pa_nil)))), ?_⟩
    refine ⟨⟨_, rfl⟩, _, rfl, "abckxz", rfl, by decide, fun l nl => ?_⟩
    refine ⟨d, l, _, rfl, Z.new nl, SqL.of upd_same, by decide +kernel, six_ok, fun ys p H' perm np hp Z' st => ?_⟩
    refine ⟨_, rfl, _, rfl, p, _, rfl, SqL.of hp, fun p2 np2 => ?_⟩
    have ly : ys.length = 6 := by
      rw [perm.length_eq, signs_six]
      rfl
    rw [cut_take (by omega)]
    refine ⟨p2, ys.take n, rfl, SqL.of upd_same, ?_, fun zs p3 pz so np3 => ?_⟩
    · rw [List.length_take]
      omega
    · obtain ⟨s1, s2⟩ := set_of h1 h2 perm pz so
      refine ⟨"", p3, zs, rfl, rfl, .inl (SqL.of upd_same), ?_, ?_⟩
      · have e : ("" : Str).length = 0 := by decide +kernel
        rw [e]
        omega
      · exact k _ _ s1 ((Z'.new np2).new np3) (((((Still.refl d H).new nl).trans st).new np2).new np3)
end
end M3

set_option Elab.async false
set_option linter.all false
set_option maxRecDepth 100000
set_option maxHeartbeats 8000000
/-! # Drawn words -/
namespace M3
open PySem L2
theorem join_flat (zs : List Str) : Txt.join "" zs = ⟨(zs.flatMap fun z => z.cps.toList).toArray⟩ := by
  have e0 : ("" : Str).cps = #[] := by decide +kernel
  have go : ∀ (ps : List Str) (acc : Array Nat), ps.foldl (fun acc p => acc ++ ("" : Str).cps ++ p.cps) acc = acc ++ (ps.flatMap fun z => z.cps.toList).toArray := by
    intro ps
    induction ps with
    | nil =>
      intro acc
      simp
    | cons p ps ih =>
      intro acc
      rw [List.foldl_cons, ih, e0]
      apply Array.toList_inj.mp
      simp
  cases zs with
  | nil => decide +kernel
  | cons z zs =>
    show (⟨(zs.foldl (fun acc p => acc ++ ("" : Str).cps ++ p.cps) z.cps)⟩ : Str) = _
    rw [go]
    congr 1
    apply Array.toList_inj.mp
    simp
/-- a word of the letters x -/
def IsW (x : Str) (w : Str) : Prop := ∀ c ∈ w.cps.toList, c ∈ x.cps.toList
theorem join_word {x : Str} {zs : List Str} (h : ∀ z ∈ zs, ∃ c ∈ x.cps.toList, z = (⟨#[c]⟩ : Str)) : IsW x (Txt.join "" zs) ∧ (Txt.join "" zs).length = zs.length ∧ (zs.map (·.length)).sum = zs.length := by
  rw [join_flat]
  refine ⟨fun c hc => ?_, ?_, ?_⟩
  · have hc : c ∈ zs.flatMap fun z => z.cps.toList := by simpa using hc
    obtain ⟨z, hz, q⟩ := List.mem_flatMap.mp hc
    obtain ⟨a, ha, e⟩ := h z hz
    rw [e] at q
    have q : c ∈ [a] := q
    rw [List.mem_singleton.mp q]
    exact ha
  · show (zs.flatMap fun z => z.cps.toList).toArray.size = zs.length
    rw [List.size_toArray]
    induction zs with
    | nil => rfl
    | cons z zs ih =>
      obtain ⟨a, _, e⟩ := h z List.mem_cons_self
      rw [List.flatMap_cons, List.length_append, ih fun y hy => h y (List.mem_cons_of_mem _ hy), e, List.length_cons]
      show 1 + zs.length = zs.length + 1
      omega
  · induction zs with
    | nil => rfl
    | cons z zs ih =>
      obtain ⟨a, _, e⟩ := h z List.mem_cons_self
      rw [List.map_cons, List.sum_cons, ih fun y hy => h y (List.mem_cons_of_mem _ hy), e, List.length_cons]
      show 1 + zs.length = zs.length + 1
      omega
theorem tYes_if {σ : St} {H : Hp} {A B : Hp → Prop} (h : A H) : tYes σ H (fun b H3 => if b = true then A H3 else B H3) := by
  show (if true = true then A H else B H)
  exact h
theorem Still.free {d b : Addr} {H H1 : Hp} (s : Still d H H1) (z : Dz H1 d) (h : H1 b = none) : H b = none := by
  cases e : H b with
  | none => rfl
  | some o =>
    have nb : b ≠ d := fun q => by
      subst q
      obtain ⟨l, m, c, q, _⟩ := z
      rw [h] at q
      cases q
    rw [s b o nb e] at h
    cases h
theorem Dz.not {d b : Addr} {H : Hp} (z : Dz H d) (h : H b = none) : b ≠ d := fun q => by
  subst q
  obtain ⟨l, m, c, q, _⟩ := z
  rw [h] at q
  cases q
section
variable {P : Program} {w : World} {K : PySem.W.Frag} {mg : Str → Option Value} {base : Heap}
end
end M3

set_option Elab.async false
set_option linter.all false
set_option maxRecDepth 100000
set_option maxHeartbeats 8000000
/-! # Drawn ways to lead -/
namespace M3
open PySem L2
abbrev nAction : List Str := ["dice", "size", "sort", "spot", "by", "found", "one", "other", "place"]
def nts (xs : List Nat) : List V := xs.map fun (x : Nat) => V.int (x : Int)
theorem nts_length (xs : List Nat) : (nts xs).length = xs.length := List.length_map _
theorem nts_append (xs : List Nat) (x : Nat) : some (HO.lst (nts xs ++ [V.int x])) = some (HO.lst (nts (xs ++ [x]))) := by
  unfold nts
  rw [List.map_append]
  rfl
theorem nts_eq (xs : List Nat) : some (HO.lst (nts xs)) = some (HO.lst ((xs.map Int.ofNat).map V.int)) := by
  unfold nts
  rw [List.map_map]
  rfl
theorem nts_eq' (xs : List Nat) : nts xs = (xs.map Int.ofNat).map V.int := by
  unfold nts
  rw [List.map_map]
  rfl
theorem ixNat {n k : Nat} (h : k < n) : ixN n (k : Int) = some k := by
  unfold ixN
  rw [if_pos (by omega), if_pos (by omega)]
  rfl
theorem rgV_nats (n : Nat) : rgV 0 (n : Int) = nts (List.range n) := by
  unfold rgV nts
  have e : ((n : Int) - 0).toNat = n := by omega
  rw [e]
  exact List.map_congr_left fun i _ => by rw [Int.zero_add]
theorem nats_perm {ys : List Int} {xs : List Nat} (p : ys.Perm (xs.map Int.ofNat)) : ∃ zs : List Nat, ys = zs.map Int.ofNat ∧ zs.Perm xs := by
  refine ⟨ys.map Int.toNat, ?_, ?_⟩
  · have h : ∀ y ∈ ys, Int.ofNat y.toNat = y := fun y hy => by
      obtain ⟨x, _, e⟩ := List.mem_map.mp (p.subset hy)
      rw [← e]
      rfl
    rw [List.map_map]
    exact ((List.map_congr_left h).trans (List.map_id ys)).symm
  · have q := p.map Int.toNat
    rw [List.map_map] at q
    have e : xs.map (Int.toNat ∘ Int.ofNat) = xs := (List.map_congr_left (fun x _ => rfl)).trans (List.map_id xs)
    rw [e] at q
    exact q
/-- a number is drawn -/
def spDraw : Sp := fun vs H Q _ => ∃ (d : Addr) (n : Nat), vs = [.ref d, .int n] ∧ Dz H d ∧ 0 < n ∧ n < 1073741824 ∧ ∀ (x : Nat) (H' : Hp), x < n → Dz H' d → Still d H H' → Q (.int x) H'
def spAction : Sp := fun vs H Q _ => ∃ (d : Addr) (n : Nat) (i : Int), vs = [.ref d, .int n, .int i] ∧ Dz H d ∧ 0 < n ∧ n ≤ 10 ∧
  ∀ (xs : List Nat) (p : Addr) (H' : Hp), xs.length = n → (∀ x ∈ xs, x < n) → H p = none → H' p = some (.lst (nts xs)) → Dz H' d → Still d H H' → Q (.ref p) H'
section
variable {P : Program} {w : World} {K : PySem.W.Frag} {mg : Str → Option Value} {base : Heap}
theorem ok_draw {f : Addr} {fd : FuncData} (F : Fun K "_law_roll" "_law_roll" sRoll f fd) (T : TxI mg) : FnOk P w K mg base CX0 1 f fd ["dice", "total"] spDraw := by
  refine (ok_roll F T).imp fun vs H Q E h => ?_
  obtain ⟨d, n, rfl, ⟨l, m, c, D⟩, h1, h2, k⟩ := h
  refine ⟨d, l, m, c, n, rfl, D, by omega, by omega, fun r l' c' r0 rn q0 q1 => ?_⟩
  have TT : Turned H (upd H d (.lst [.int l', .int m, .int c'])) d := ⟨l', m, c', q0, D.2.2.1, q1, rfl⟩
  have er : r = (r.toNat : Int) := by omega
  rw [er]
  exact k r.toNat _ (by omega) TT.dz ((Still.refl d H).turn TT)
end
end M3

set_option Elab.async false
set_option linter.all false
set_option maxRecDepth 100000
set_option maxHeartbeats 8000000
/-! # Drawn tables -/
namespace M3
open PySem L2
abbrev nTable : List Str := ["dice", "letters", "size", "sorts", "rows", "letter", "row", "place"]
/-- lists of numbers, one for each; none of them stands at d or C -/
def RowsL (d C : Addr) (H : Hp) (vs : List V) (rs : List (List Nat)) : Prop := vs.length = rs.length ∧ ∀ (i : Nat) (r : List Nat), rs[i]? = some r → ∃ a : Addr, vs[i]? = some (V.ref a) ∧ a ≠ d ∧ a ≠ C ∧ H a = some (HO.lst (nts r))
/-- tuples of numbers, one for each -/
def RowsT (d C : Addr) (H : Hp) (vs : List V) (rs : List (List Nat)) : Prop := vs.length = rs.length ∧ ∀ (i : Nat) (r : List Nat), rs[i]? = some r → ∃ a : Addr, vs[i]? = some (V.ref a) ∧ a ≠ d ∧ a ≠ C ∧ H a = some (.tup (nts r))
theorem RowsL.to {d C : Addr} {H H' : Hp} {vs : List V} {rs : List (List Nat)} (R : RowsL d C H vs rs) (k : ∀ b o, b ≠ d → b ≠ C → H b = some o → H' b = some o) : RowsL d C H' vs rs :=
  ⟨R.1, fun i r h => by
    obtain ⟨a, h1, h2, h3, h4⟩ := R.2 i r h
    exact ⟨a, h1, h2, h3, k _ _ h2 h3 h4⟩⟩
theorem RowsT.to {d C : Addr} {H H' : Hp} {vs : List V} {rs : List (List Nat)} (R : RowsT d C H vs rs) (k : ∀ b o, b ≠ d → b ≠ C → H b = some o → H' b = some o) : RowsT d C H' vs rs :=
  ⟨R.1, fun i r h => by
    obtain ⟨a, h1, h2, h3, h4⟩ := R.2 i r h
    exact ⟨a, h1, h2, h3, k _ _ h2 h3 h4⟩⟩
theorem snoc_at {α : Type} {xs : List α} {x y : α} {i : Nat} (h : (xs ++ [x])[i]? = some y) : xs[i]? = some y ∨ (i = xs.length ∧ y = x) := by
  by_cases hi : i < xs.length
  · rw [List.getElem?_append_left hi] at h
    exact .inl h
  · rw [List.getElem?_append_right (by omega)] at h
    by_cases e : i - xs.length = 0
    · rw [e] at h
      exact .inr ⟨by omega, (Option.some.inj h).symm⟩
    · have : 1 ≤ i - xs.length := by omega
      rw [List.getElem?_eq_none (by simpa using this)] at h
      cases h
theorem RowsL.snoc {d C a : Addr} {H : Hp} {vs : List V} {rs : List (List Nat)} {r : List Nat} (R : RowsL d C H vs rs) (hd : a ≠ d) (hC : a ≠ C) (h : H a = some (.lst (nts r))) : RowsL d C H (vs ++ [.ref a]) (rs ++ [r]) := by
  refine ⟨by rw [List.length_append, List.length_append, R.1]; rfl, fun i r' hr => ?_⟩
  rcases snoc_at hr with q | ⟨e, q⟩
  · obtain ⟨b, h1, h2⟩ := R.2 i r' q
    exact ⟨b, by rw [List.getElem?_append_left (List.getElem?_eq_some_iff.mp h1).1]; exact h1, h2⟩
  · subst q
    refine ⟨a, ?_, hd, hC, h⟩
    rw [e, ← R.1, List.getElem?_append_right (Nat.le_refl _), Nat.sub_self]
    rfl
theorem RowsT.snoc {d C a : Addr} {H : Hp} {vs : List V} {rs : List (List Nat)} {r : List Nat} (R : RowsT d C H vs rs) (hd : a ≠ d) (hC : a ≠ C) (h : H a = some (.tup (nts r))) : RowsT d C H (vs ++ [.ref a]) (rs ++ [r]) := by
  refine ⟨by rw [List.length_append, List.length_append, R.1]; rfl, fun i r' hr => ?_⟩
  rcases snoc_at hr with q | ⟨e, q⟩
  · obtain ⟨b, h1, h2⟩ := R.2 i r' q
    exact ⟨b, by rw [List.getElem?_append_left (List.getElem?_eq_some_iff.mp h1).1]; exact h1, h2⟩
  · subst q
    refine ⟨a, ?_, hd, hC, h⟩
    rw [e, ← R.1, List.getElem?_append_right (Nat.le_refl _), Nat.sub_self]
    rfl
/-- a table of so many states, so many letters -/
def IsTab (t : List (List Nat)) (n m : Nat) : Prop := t.length = n ∧ ∀ r ∈ t, r.length = m ∧ ∀ z ∈ r, z < n
theorem sq_still {K : PySem.W.Frag} {d a : Addr} {H H' : Hp} {xs : List V} (s : Still d H H') (n : a ≠ d) (h : SqL K H a xs) : SqL K H' a xs := by
  rcases h with (h | ⟨o, h⟩) | h
  · exact .inl (.inl (s _ _ n h))
  · exact .inl (.inr ⟨o, s _ _ n h⟩)
  · exact .inr h
def rTupOf (K : PySem.W.Frag) : List V → Hp → VK → Prop := fun xs H Q => ∃ p ys, xs = [V.ref p] ∧ ((SqL K H p ys ∧ ∀ l, H l = none → Q (.ref l) (upd H l (.tup ys))) ∨ (SqT K H p ys ∧ Q (.ref p) H))
/-- tuple([row[place] for row in rows]) -/
def tPick (K : PySem.W.Frag) : TE := tCB (rTupOf K) (tCons (tLc (iList K (tVar 4)) (gName 6) tYes (tOp (rIxL K) (tVar 6) (tVar 7)) [6]) tNil)
def col (rs : List (List Nat)) (s : Nat) : List Nat := rs.map fun r => r.getD s 0
theorem nts_at {r : List Nat} {j : Nat} (h : j < r.length) : atI (nts r) (j : Int) = some (.int (r.getD j 0)) := by
  refine atI_nat ?_
  unfold nts
  rw [List.getElem?_map, List.getElem?_eq_getElem h]
  simp [List.getD, List.getElem?_eq_getElem h]
theorem take_snoc {α : Type} {l : List α} {i : Nat} {x : α} (h : l[i]? = some x) : l.take (i + 1) = l.take i ++ [x] := by
  rw [List.take_succ, h]
  rfl
def spTable (K : PySem.W.Frag) : Sp := fun vs H Q _ => ∃ (d a : Addr) (x : Str) (n : Nat) (ss : List Int), vs = [.ref d, .str x, .int n, .ref a] ∧ Dz H d ∧ 0 < n ∧ n ≤ 10 ∧ x.length ≤ 10 ∧ SqL K H a (ss.map V.int) ∧ a ≠ d ∧ 0 < ss.length ∧ ss.length < 1000 ∧
  ∀ (t : List (List Nat)) (us : List V) (p : Addr) (H' : Hp), IsTab t n x.length → H p = none → p ≠ d → H' p = some (.lst us) → RowsT d p H' us t → Dz H' d → Still d H H' → Q (.ref p) H'
section
variable {P : Program} {w : World} {K : PySem.W.Frag} {mg : Str → Option Value} {base : Heap}
theorem ok_one {f : Addr} {fd : FuncData} (D : DefsD K mg) (T : TxI mg) : FnOk P w K mg base CX0 2 D.fO D.dO ["dice", "items"] (spOneOf K) := ok_oneof D.O D.R D.bR D.mR T
end
end M3

set_option Elab.async false
set_option linter.all false
set_option maxRecDepth 100000
set_option maxHeartbeats 8000000
/-! # Drawn machines, plain: a dict of letters, table, ends -/
namespace M3
open PySem L2
theorem RowsT.both {d C : Addr} {H : Hp} {vs : List V} {rs : List (List Nat)} (R : RowsT d C H vs rs) : RowsT d d H vs rs := ⟨R.1, fun i r h => by
  obtain ⟨a, h1, h2, _, h4⟩ := R.2 i r h
  exact ⟨a, h1, h2, h2, h4⟩⟩
section
variable {P : Program} {w : World} {K : PySem.W.Frag} {mg : Str → Option Value} {base : Heap}
end
end M3

set_option Elab.async false
set_option linter.all false
set_option maxRecDepth 100000
set_option maxHeartbeats 8000000
/-! # Numbers between, words -/
namespace M3
open PySem L2
abbrev sBetween : Stmt := top 11
abbrev sIsWord : Stmt := top 12
abbrev sHasOnly : Stmt := top 13
structure TxW (mg : Str → Option Value) : Prop where
  isi : mg "isinstance" = none
  bool : mg "bool" = none
  int : mg "int" = none
  str : mg "str" = none
  tuple : mg "tuple" = none
  all : mg "all" = none
  alpha : ∃ t, mg "ALPHABET" = some (.str "abcdefghijklmnopqrstuvwxyz" t)
theorem boot_bool' : bootBuiltins "bool" = some (.type "bool") := by decide +kernel
theorem boot_int' : bootBuiltins "int" = some (.type "int") := by decide +kernel
theorem boot_str' : bootBuiltins "str" = some (.type "str") := by decide +kernel
theorem boot_tuple' : bootBuiltins "tuple" = some (.type "tuple") := by decide +kernel
theorem scBetween : FnScope ["value", "low", "high"] ["value", "low", "high"] (defScope sBetween) := ⟨rfl, rfl, rfl, by decide +kernel, rfl, by decide +kernel, by decide +kernel⟩
theorem scIsWord : FnScope ["value"] ["value"] (defScope sIsWord) := ⟨rfl, rfl, rfl, by decide +kernel, rfl, by decide +kernel, by decide +kernel⟩
theorem scHasOnly : FnScope ["word", "letters", "letter"] ["word", "letters"] (defScope sHasOnly) := ⟨rfl, rfl, rfl, by decide +kernel, rfl, by decide +kernel, by decide +kernel⟩
/-- is it an integer between: what kind of value it is decides first -/
def spBetween (K : PySem.W.Frag) : Sp := fun vs H Q _ => ∃ (v : V) (lo hi : Int) (t : Value) (bb bi : Bool), vs = [v, .int lo, .int hi] ∧ TyX K H v t ∧ PySem.W.kitOne K t (.type "bool") = some bb ∧ PySem.W.kitOne K t (.type "int") = some bi ∧
  (bb = true → Q (.bl false) H) ∧ (bb = false → bi = false → Q (.bl false) H) ∧ (bb = false → bi = true → ∃ i : Int, v = .int i ∧ Q (.bl (decide (lo ≤ i) && decide (i ≤ hi))) H)
def only (x y : Str) : Bool := x.cps.toList.all fun c => decide (c ∈ y.cps.toList)
def spHasOnly : Sp := fun vs H Q _ => ∃ x y : Str, vs = [.str x, .str y] ∧ x.length ≤ 1000000 ∧ ∀ H' : Hp, Same H H' → Q (.bl (only x y)) H'
def spIsWord (K : PySem.W.Frag) : Sp := fun vs H Q _ => ∃ (v : V) (t : Value) (b : Bool), vs = [v] ∧ TyX K H v t ∧ PySem.W.kitOne K t (.type "str") = some b ∧
  (b = false → Q (.bl false) H) ∧ (b = true → ∃ x : Str, v = .str x ∧ x.length ≤ 1000000 ∧ ∀ H' : Hp, Same H H' → Q (.bl (only x "abcdefghijklmnopqrstuvwxyz")) H')
theorem Same.new {H H1 : Hp} {p : Addr} {u : HO} (s : Same H H1) (hp : H1 p = none) : Same H (upd H1 p u) := fun b o h => keep_new (s b o h) hp
section
variable {P : Program} {w : World} {K : PySem.W.Frag} {mg : Str → Option Value} {base : Heap}
theorem ok_between {f : Addr} {fd : FuncData} (F : Fun K "is_between" "is_between" sBetween f fd) (W : TxW mg) : FnOk P w K mg base CX0 1 f fd ["value", "low", "high"] (spBetween K) := by
  refine F.ok scBetween (fun vs H Q E h => ?_) (fun cdv A outer s H vs Q E hr h => ?_)
  · obtain ⟨v, lo, hi, t, bb, bi, rfl, _⟩ := h
    rfl
  · obtain ⟨v, lo, hi, t, bb, bi, rfl, ty, k1, k2, q1, q2, q3⟩ := h
    refine ⟨_, pss_cons (ps_if (PW.pt (pw_or (pt_val (pe_callB call_isi (by rfl) W.isi (by decide +kernel) (pa_cons (pv 0) (pa_cons (pe_bltn (v := .ty "bool") rfl W.bool boot_bool' rfl) pa_nil)))) (pw_or1 (pt_not (pt_val (pe_callB call_isi (by rfl) W.isi (by decide +kernel) (pa_cons (pv 0) (pa_cons (pe_bltn (v := .ty "int") rfl W.int boot_int' rfl) pa_nil)))))))) (pss_one (ps_ret pe_bl)) pss_nil)
      (pss_one (ps_ret (pe_chain op_le op_le (pv 1) (pv 0) (pv 2)))), ?_⟩
    refine ⟨_, rfl, v, .ty "bool", t, .type "bool", bb, rfl, .ty _, ty, k1, _, rfl, ?_⟩
    cases bb with
    | true => exact iteT (iteT (q1 rfl))
    | false =>
      refine iteF ?_
      refine ⟨_, rfl, v, .ty "int", t, .type "int", bi, rfl, .ty _, ty, k2, _, rfl, ?_⟩
      cases bi with
      | false => exact iteT (q2 rfl rfl)
      | true =>
        obtain ⟨i, rfl, q⟩ := q3 rfl rfl
        refine iteF ?_
        refine ⟨_, rfl, _, rfl, _, _, rfl, rfl, _, rfl, ?_⟩
        by_cases h1 : lo ≤ i
        · rw [decide_eq_true h1] at q ⊢
          exact iteT ⟨_, rfl, _, _, rfl, rfl, q⟩
        · rw [decide_eq_false h1] at q ⊢
          exact iteF q
theorem ok_hasonly {f : Addr} {fd : FuncData} (F : Fun K "has_only" "has_only" sHasOnly f fd) (W : TxW mg) : FnOk P w K mg base CX0 1 f fd ["word", "letters"] spHasOnly := by
  refine F.ok scHasOnly (fun vs H Q E h => ?_) (fun cdv A outer s H vs Q E hr h => ?_)
  · obtain ⟨x, y, rfl, _⟩ := h
    rfl
  · obtain ⟨x, y, rfl, hx, k⟩ := h
    refine ⟨_, pss_one (ps_ret (pe_callB (cr_all rfl) (by rfl) W.all (by decide +kernel) (pa_cons (pe_lc (own := [("letter", 2)]) (g := gName 2) (tt := tYes) rfl scHasOnly.nd (pi_str (pv 0)) (blkOk_by (N := ["word", "letters", "letter"]) (sc := defScope sHasOnly) (by decide +kernel)) (fun _ _ _ _ _ => pg_name (i := 2) scHasOnly.nd rfl (Or.inl rfl)) (fun _ _ _ _ _ => pts_nil)
      (fun _ _ _ _ _ => pe_cmpR op_in_sign (pv 2) (pv 1) rfl)) pa_nil))), ?_⟩
    refine ⟨_, rfl, x, rfl, fun C nC => ?_⟩
    refine lc_it walk_str (fun j H9 => H9 C = some (.lst (((x.cps.toList.take j).map fun c => decide (c ∈ y.cps.toList)).map V.bl)) ∧ ∀ b o, b ≠ C → H b = some o → H9 b = some o)
      ⟨upd_same, fun b o hb h => keep_new h nC⟩ (fun _ _ _ _ => trivial) ?_ ?_
    · rintro i v H9 H9' hi ⟨h1, h2⟩ ⟨rfl, c, hc, rfl⟩
      refine ⟨rfl, tYes_if ?_⟩
      have hc' : x.cps.toList[i]? = some c := by simpa using hc
      refine ⟨_, rfl, _, rfl, c, y, rfl, rfl, _, h1, ?_, ?_, fun b o hb h => by rw [upd_ne hb]; exact h2 b o hb h⟩
      · rw [List.length_map, List.length_map, List.length_take]
        have : x.cps.toList.length = x.length := by simp [Str.length]
        have l : sizeLine = 16777216 := sizeLine_eq
        omega
      · rw [upd_same, take_snoc hc', List.map_append, List.map_append]
        rfl
    · rintro H9 ⟨h1, h2⟩
      have et : x.cps.toList.take x.cps.size = x.cps.toList := List.take_of_length_le (by simp)
      rw [et] at h1
      refine ⟨C, _, rfl, SqL.of h1, ?_⟩
      have e : (x.cps.toList.map fun c => decide (c ∈ y.cps.toList)).all id = only x y := by
        unfold only
        rw [List.all_map]
        rfl
      rw [e]
      exact k _ fun b o h => h2 b o (fun z => by rw [z, nC] at h; cases h) h
theorem ok_isword {f g : Addr} {fd gd : FuncData} (F : Fun K "is_word" "is_word" sIsWord f fd) (G : Fun K "has_only" "has_only" sHasOnly g gd) (bG : Binds K gd ["word", "letters"] []) (mG : mg "has_only" = some (.ref g)) (W : TxW mg) : FnOk P w K mg base CX0 2 f fd ["value"] (spIsWord K) := by
  have GH : FnOk P w K mg base CX0 1 g gd ["word", "letters"] spHasOnly := ok_hasonly G W
  obtain ⟨ta, al⟩ := W.alpha
  refine F.ok scIsWord (fun vs H Q E h => ?_) (fun cdv A outer s H vs Q E hr h => ?_)
  · obtain ⟨v, t, b, rfl, _⟩ := h
    rfl
  · obtain ⟨v, t, b, rfl, ty, k1, q1, q2⟩ := h
    refine ⟨_, pss_cons (ps_if (pt_not (pt_val (pe_callB call_isi (by rfl) W.isi (by decide +kernel) (pa_cons (pv 0) (pa_cons (pe_bltn (v := .ty "str") rfl W.str boot_str' rfl) pa_nil))))) (pss_one (ps_ret pe_bl)) pss_nil)
      (pss_one (ps_ret (pe_call GH hr rfl mG G.kp bG .nil pass0 (pa_cons (pv 0) (pa_cons (pe_glob (v := .str "abcdefghijklmnopqrstuvwxyz") rfl al ⟨_, rfl⟩) pa_nil))))), ?_⟩
    refine ⟨_, rfl, v, .ty "str", t, .type "str", b, rfl, .ty _, ty, k1, _, rfl, ?_⟩
    cases b with
    | false => exact iteT (q1 rfl)
    | true =>
      obtain ⟨x, rfl, hx, q⟩ := q2 rfl
      refine iteF ?_
      exact ⟨_, rfl, x, _, rfl, hx, q⟩
end
end M3

set_option Elab.async false
set_option linter.all false
set_option maxRecDepth 100000
set_option maxHeartbeats 8000000
/-! # zip of two texts -/
namespace NvZ
open PySem PySem.Spec PyProof.Rows L2
def ItzS (x y : Str) : It := ⟨fun i _ => i < min x.cps.size y.cps.size,
  fun i H v H' => ∃ (T : Addr) (a b : Nat), v = .ref T ∧ H T = none ∧ H' = upd H T (.tup [.str ⟨#[a]⟩, .str ⟨#[b]⟩]) ∧ x.cps[i]? = some a ∧ y.cps[i]? = some b,
  fun i _ => i = min x.cps.size y.cps.size⟩
theorem turn_zipS {P : Program} {w : World} {K : PySem.W.Frag} {elts : List Expr} {kk : Nat} {tpos : Pos} {x y : Str} {t1 t2 : Tok} {z TI TO i1 i2 : Addr} (S : ZipSep2 z TI TO i1 i2 [i1] [i2]) :
    Turn P w K (.Tuple elts kk tpos) (ItzS x y) (z :: TI :: TO :: ([i1] ++ [i2])) z (fun i h => IsZip h z TI TO .none ∧ IsTupOf2 h TI (.ref i1) (.ref i2) ∧ (∃ a1 a2, IsTupOf2 h TO a1 a2) ∧ h.IsStrIter i1 (strIterType x) x t1 i ∧ h.IsStrIter i2 (strIterType y) y t2 i) where
  mem := by simp
  obj := fun i h st c hc => by
    obtain ⟨hz, hTI, ⟨a1, a2, hTO⟩, ⟨o1, e1, _, d1⟩, ⟨o2, e2, _, d2⟩⟩ := st
    have e' : c = z ∨ c = TI ∨ c = TO ∨ c = i1 ∨ c = i2 := by simpa using hc
    rcases e' with q | q | q | q | q
    · rw [q]; exact ⟨_, hz, fun v q => nomatch q⟩
    · rw [q]; exact ⟨_, hTI, fun v q => nomatch q⟩
    · rw [q]; exact ⟨_, hTO, fun v q => nomatch q⟩
    · rw [q]; exact ⟨o1, e1, fun v q => by rw [d1] at q; cases q⟩
    · rw [q]; exact ⟨o2, e2, fun v q => by rw [d2] at q; cases q⟩
  keep := fun i h h' st k => by
    obtain ⟨hz, hTI, ⟨a1, a2, hTO⟩, ⟨o1, e1, r1⟩, ⟨o2, e2, r2⟩⟩ := st
    exact ⟨k z (by simp) _ hz, k TI (by simp) _ hTI, ⟨a1, a2, k TO (by simp) _ hTO⟩, ⟨o1, k i1 (by simp) _ e1, r1⟩, ⟨o2, k i2 (by simp) _ e2, r2⟩⟩
  item := by
    intro X hP hw hK hc i pins s σ H E I hf st hg
    subst hP hw hK
    have hh : X.A.in1.handled = none := I.ok.hd hc
    have G := GoesN.zip2 (elts := elts) (x1 := kk) (pos := tpos) S (Draws.text (prog := X.prog) (w := X.w) (A := X.A.in1) hh i1 x t1) (Draws.text (prog := X.prog) (w := X.w) (A := X.A.in1) hh i2 y t2)
    have live : ∀ b ∈ (z :: TI :: TO :: ([i1] ++ [i2])), b < s.heap.objs.size := fun b hb => by
      obtain ⟨hz, hTI, ⟨a1, a2, hTO⟩, ⟨o1, e1, _⟩, ⟨o2, e2, _⟩⟩ := id st
      have e' : b = z ∨ b = TI ∨ b = TO ∨ b = i1 ∨ b = i2 := by simpa using hb
      rcases e' with q | q | q | q | q
      · rw [q]; exact Heap.lt_size hz
      · rw [q]; exact Heap.lt_size hTI
      · rw [q]; exact Heap.lt_size hTO
      · rw [q]; exact Heap.lt_size e1
      · rw [q]; exact Heap.lt_size e2
    refine G.goes i s (fun u s2 => ∃ v H', Inv X pins σ H' s2 ∧ RelV v u ∧ (ItzS x y).yld i H v H' ∧ _ ∧ ∀ b ∈ _, H' b = none) E hg st fun v h' tk hY st' hk htk => ?_
    obtain ⟨T, vx, vy, rfl, hT, ⟨c1, u1, hx, rfl⟩, ⟨c2, u2, hy, rfl⟩, hIs⟩ := hY
    have new : ObjOk X.prog X.w (upd H T (.tup [.str ⟨#[c1]⟩, .str ⟨#[c2]⟩])) h' T (.tup [.str ⟨#[c1]⟩, .str ⟨#[c2]⟩]) :=
      ⟨by show 2 ≤ sizeLine; decide, [.str ⟨#[c1]⟩ u1, .str ⟨#[c2]⟩ u2], .cons ⟨u1, rfl⟩ (.cons ⟨u2, rfl⟩ .nil), hIs⟩
    have I1 : Inv X pins σ (upd H T (.tup [.str ⟨#[c1]⟩, .str ⟨#[c2]⟩])) { s with heap := h', toks := tk } :=
      I.turnedNew (t' := tk) (ch := [z, TO, i1, i2]) hk (fun b hb => hf b (by
        have e' : b = z ∨ b = TO ∨ b = i1 ∨ b = i2 := by simpa using hb
        rcases e' with q | q | q | q <;> rw [q] <;> simp)) hT new
    refine ⟨.ref T, _, I1, rfl, ⟨T, c1, c2, rfl, I.hok.fresh hT, rfl, hx, hy⟩, st', fun b hb => ?_⟩
    rw [upd_ne (Nat.ne_of_lt (Nat.lt_of_lt_of_le (live b hb) hT))]
    exact (hf b hb).1
  done := by
    intro X hP hw hK hc i pins s σ H E I hf st hg
    subst hP hw hK
    have hh : X.A.in1.handled = none := I.ok.hd hc
    have G := GoesN.zip2 (elts := elts) (x1 := kk) (pos := tpos) S (Draws.text (prog := X.prog) (w := X.w) (A := X.A.in1) hh i1 x t1) (Draws.text (prog := X.prog) (w := X.w) (A := X.A.in1) hh i2 y t2)
    have hg : i = min x.cps.size y.cps.size := hg
    subst hg
    refine G.stops s (fun s1 => Inv X pins σ H s1) E st fun h' tk hk htk => ?_
    exact I.turnedL (t' := tk) (ch := [z, TO, i1, i2]) hk fun b hb => hf b (by
      have e' : b = z ∨ b = TO ∨ b = i1 ∨ b = i2 := by simpa using hb
      rcases e' with q | q | q | q <;> rw [q] <;> simp)
  self := fun A i s Q E st h => wpAny_pyIter_zip st.1 h
def iZipS (ta : TA) : TI := fun σ H R => ta σ H fun vs H1 => ∃ x y : Str, vs = [.str x, .str y] ∧ R (ItzS x y) H1
theorem pi_zipS {X : Cx} {e e2 : Expr} {ta : TA} {p pos tpos : Pos} {elts : List Expr} {kk : Nat} (hg : Gl X "zip") (hm : X.mg "zip" = none) (ha : PA X [e, e2] ta)
    (hs : starEach [e, e2] X.env = (false, eval e X.env) :: starEach [e2] X.env := by rfl) (hpl : (backTo pos (starEach [e2] X.env)).any (·.1) = false := by rfl) :
    PI X (.Tuple elts kk tpos) (.Call (.Name "zip" p) [e, e2] [] pos) (iZipS ta) := by
  refine ⟨fun pins s σ H R I h => ?_⟩
  refine Call_ (ld_blt I hg hm PyProof.Rows.boot_zip (PyProof.Rows.callWith_type1 (thn (ha.run pos pins s σ H _ I h) fun us s1 ⟨vs, H1, I1, r1, q1⟩ => ?_) hs hpl))
  obtain ⟨x, y, ex, q⟩ := q1
  subst ex
  obtain ⟨u1, u2, rfl, ⟨t1, rfl⟩, ⟨t2, rfl⟩⟩ := vals2 r1
  refine zip_begins2 (begins_text x t1) (begins_text y t2) trivial trivial fun h' hz hTI hTO h1 h2 hsz hk => wpAny_pyIter_zip hz ?_
  have I2 : Inv X pins σ H1 { s1 with heap := h' } := I1.kept (t' := s1.toks) hk
  refine ⟨s1.heap.objs.size + 4, _, _, _, H1, rfl, I2, turn_zipS (t1 := t1) (t2 := t2) (zip_sep2 (N := s1.heap.objs.size) (fp1 := []) (fp2 := []) (fun b hb => by cases hb) (fun b hb => by cases hb)), ⟨hz, hTI, ⟨_, _, hTO⟩, ⟨_, h1, rfl, rfl⟩, ⟨_, h2, rfl, rfl⟩⟩, fun c hcm => ?_, q⟩
  have e' : c = s1.heap.objs.size + 4 ∨ c = s1.heap.objs.size + 2 ∨ c = s1.heap.objs.size + 3 ∨ c = s1.heap.objs.size ∨ c = s1.heap.objs.size + 1 := by simpa using hcm
  have hle : s1.heap.objs.size ≤ c := by
    rcases e' with z | z | z | z | z
    · rw [z]; exact Nat.le_add_right _ _
    · rw [z]; exact Nat.le_add_right _ _
    · rw [z]; exact Nat.le_add_right _ _
    · rw [z]; exact Nat.le_refl _
    · rw [z]; exact Nat.le_add_right _ _
  exact I1.fpOk hle (I1.hok.fresh hle)
theorem walk_zipS {x y : Str} : Walk (ItzS x y) (min x.cps.size y.cps.size) (fun _ => True) (fun i H v H' => ∃ (T : Addr) (a b : Nat), v = .ref T ∧ H T = none ∧ H' = upd H T (.tup [.str ⟨#[a]⟩, .str ⟨#[b]⟩]) ∧ x.cps[i]? = some a ∧ y.cps[i]? = some b) :=
  ⟨fun _ _ hi _ => hi, fun _ _ => rfl, fun _ _ _ _ _ _ y => y⟩
end NvZ

set_option Elab.async false
set_option linter.all false
set_option maxRecDepth 100000
set_option maxHeartbeats 8000000
/-! # Sets of letters -/
namespace M3
open PySem L2
abbrev sIsLetters : Stmt := top 14
abbrev nIsLetters : List Str := ["value", "low", "high"]
theorem scIsLetters : FnScope nIsLetters ["value"] (defScope sIsLetters) := ⟨rfl, rfl, rfl, by decide +kernel, rfl, by decide +kernel, by decide +kernel⟩
structure TxZ (mg : Str → Option Value) : Prop where
  zip : mg "zip" = none
  len : mg "len" = none
  maxL : ∃ t, mg "MAX_LETTERS" = some (.int 2 t)
/-- each sign is ahead of the next one -/
def ups (x : Str) : List Bool := (x.cps.toList.zip (x.cps.toList.drop 1)).map fun p => decide ([p.1] < [p.2])
def isLet (x : Str) : Bool := only x "abcdefghijklmnopqrstuvwxyz" && (decide (1 ≤ x.length) && (decide (x.length ≤ 2) && (ups x).all id))
def spIsLetters (K : PySem.W.Frag) : Sp := fun vs H Q _ => ∃ (v : V) (t : Value) (b : Bool), vs = [v] ∧ TyX K H v t ∧ PySem.W.kitOne K t (.type "str") = some b ∧
  (b = false → Q (.bl false) H) ∧ (b = true → ∃ x : Str, v = .str x ∧ x.length ≤ 1000000 ∧ ∀ H' : Hp, Same H H' → Q (.bl (isLet x)) H')
theorem cut1 (x : Str) : cutS x (some 1) none = ⟨(x.cps.toList.drop 1).toArray⟩ := by
  unfold cutS
  have e : HT.sIx x.length 0 (some ((1 : Nat) : Int)) = min 1 x.length := HT.sIx_nat _ _ _
  have e' : HT.sIx x.length 0 (some 1) = min 1 x.length := e
  rw [e', HT.sIx_none]
  have l : x.cps.toList.length = x.length := by simp [Str.length]
  congr 2
  by_cases h : x.length = 0
  · have z : x.cps.toList = [] := List.eq_nil_of_length_eq_zero (by omega)
    rw [z]
    simp
  · have m : min 1 x.length = 1 := by omega
    rw [m]
    exact List.take_of_length_le (by rw [List.length_drop]; omega)
theorem zip_at {α : Type} {l : List α} {i : Nat} {a b : α} (h1 : l[i]? = some a) (h2 : (l.drop 1)[i]? = some b) : (l.zip (l.drop 1))[i]? = some (a, b) := by
  rw [List.getElem?_zip_eq_some]
  exact ⟨h1, h2⟩
section
variable {P : Program} {w : World} {K : PySem.W.Frag} {mg : Str → Option Value} {base : Heap}
/-- the facts of the defs of words -/
structure DefsW (K : PySem.W.Frag) (mg : Str → Option Value) where
  (fB fW fO : Addr)
  (dB dW dO : FuncData)
  B : Fun K "is_between" "is_between" sBetween fB dB
  bB : Binds K dB ["value", "low", "high"] []
  mB : mg "is_between" = some (.ref fB)
  W : Fun K "is_word" "is_word" sIsWord fW dW
  bW : Binds K dW ["value"] []
  mW : mg "is_word" = some (.ref fW)
  O : Fun K "has_only" "has_only" sHasOnly fO dO
  bO : Binds K dO ["word", "letters"] []
  mO : mg "has_only" = some (.ref fO)
theorem ok_isletters {f : Addr} {fd : FuncData} (F : Fun K "is_letters" "is_letters" sIsLetters f fd) (D : DefsW K mg) (W : TxW mg) (Zx : TxZ mg) : FnOk P w K mg base CX0 3 f fd ["value"] (spIsLetters K) := by
  have GW : FnOk P w K mg base CX0 2 D.fW D.dW ["value"] (spIsWord K) := ok_isword D.W D.O D.bO D.mO W
  obtain ⟨tm, ml⟩ := Zx.maxL
  refine F.ok scIsLetters (fun vs H Q E h => ?_) (fun cdv A outer s H vs Q E hr h => ?_)
  · obtain ⟨v, t, b, rfl, _⟩ := h
    rfl
  · obtain ⟨v, t, b, rfl, ty, k1, q1, q2⟩ := h
    have hr2 : Room 2 _ := hr.mono (by decide)
    refine ⟨_, pss_cons (ps_if (PW.pt (pw_or (pt_not (pt_val (pe_call GW hr2 rfl D.mW D.W.kp D.bW .nil pass0 (pa_cons (pv 0) pa_nil)))) (pw_or1 (pt_not (pt_chain op_le op_le pe_int (pe_callB call_len_str (by rfl) Zx.len PySem.boot_len (pa_cons (pv 0) pa_nil)) (pe_glob (v := .int 2) rfl ml ⟨_, rfl⟩)))))) (pss_one (ps_ret pe_bl)) pss_nil)
      (pss_one (ps_ret (pe_callB (cr_all rfl) (by rfl) W.all (by decide +kernel) (pa_cons (pe_lc (own := [("low", 1), ("high", 2)]) (g := gTup K 2 (gCons (gName 1) (gCons (gName 2) gNil))) (tt := tYes) rfl scIsLetters.nd (NvZ.pi_zipS rfl Zx.zip (pa_cons (pv 0) (pa_cons (pe_slice sl_str (pv 0) (po_some pe_int) po_none) pa_nil))) (blkOk_by (N := nIsLetters) (sc := defScope sIsLetters) (by decide +kernel))
        (fun _ _ _ _ _ => pg_tup rfl (pgs_cons (pg_name (i := 1) scIsLetters.nd rfl (Or.inl rfl)) (pgs_cons (pg_name (i := 2) scIsLetters.nd rfl (Or.inl rfl)) pgs_nil))) (fun _ _ _ _ _ => pts_nil) (fun _ _ _ _ _ => pe_cmpR op_lt_str (pv 1) (pv 2) (nomark _))) pa_nil)))), ?_⟩
    refine ⟨_, rfl, v, t, b, rfl, ty, k1, fun e => ⟨_, rfl, ?_⟩, fun e => ?_⟩
    · exact iteT (iteT (q1 e))
    · obtain ⟨x, rfl, hx, q⟩ := q2 e
      refine ⟨x, rfl, hx, fun H1 s1 => ?_⟩
      unfold isLet at q
      refine ⟨_, rfl, ?_⟩
      cases h1 : only x "abcdefghijklmnopqrstuvwxyz" with
      | false =>
        rw [h1] at q
        exact iteT (iteT (q H1 s1))
      | true =>
        rw [h1] at q
        refine iteF ?_
        have hz : x.length ≤ sizeLine := Nat.le_trans hx (by rw [sizeLine_eq]; decide)
        refine ⟨_, rfl, x, rfl, hz, _, _, rfl, rfl, _, rfl, ?_⟩
        have e1 : decide ((1 : Int) ≤ (x.length : Int)) = decide (1 ≤ x.length) := by
          by_cases h : 1 ≤ x.length
          · rw [decide_eq_true h, decide_eq_true (by omega)]
          · rw [decide_eq_false h, decide_eq_false (by omega)]
        have e2 : decide ((x.length : Int) ≤ 2) = decide (x.length ≤ 2) := by
          by_cases h : x.length ≤ 2
          · rw [decide_eq_true h, decide_eq_true (by omega)]
          · rw [decide_eq_false h, decide_eq_false (by omega)]
        rw [e1]
        cases h2 : decide (1 ≤ x.length) with
        | false =>
          rw [h2] at q
          exact iteF ⟨_, rfl, iteT (q H1 s1)⟩
        | true =>
          rw [h2] at q
          refine iteT ⟨_, _, rfl, rfl, _, rfl, ?_⟩
          rw [e2]
          cases h3 : decide (x.length ≤ 2) with
          | false =>
            rw [h3] at q
            exact iteT (q H1 s1)
          | true =>
            rw [h3] at q
            refine iteF ?_
            refine ⟨_, rfl, _, rfl, 1, rfl, x, rfl, hz, x, _, rfl, ?_⟩
            rw [cut1]
            intro C nC
            have lu : (ups x).length = min x.cps.size (⟨(x.cps.toList.drop 1).toArray⟩ : Str).cps.size := by
              unfold ups
              rw [List.length_map, List.length_zip]
              simp
            refine lc_it NvZ.walk_zipS (fun j H9 => H9 C = some (.lst (((ups x).take j).map V.bl)) ∧ ∀ b o, b ≠ C → H1 b = some o → H9 b = some o)
              ⟨upd_same, fun b o hb h => keep_new h nC⟩ (fun _ _ _ _ => trivial) ?_ ?_
            · rintro i v H9 H9' hi ⟨h1, h2⟩ ⟨T', a, b, rfl, nT, rfl, ha, hb⟩
              refine ⟨T', _, rfl, SqT.of upd_same, rfl, _, _, rfl, _, _, rfl, rfl, rfl, tYes_if ?_⟩
              have hu : (ups x)[i]? = some (decide ([a] < [b])) := by
                unfold ups
                rw [List.getElem?_map, zip_at (l := x.cps.toList) (by simpa using ha) (by simpa using hb)]
                rfl
              refine ⟨_, rfl, _, rfl, _, _, rfl, rfl, _, keep_new h1 nT, ?_, ?_, fun b' o hb' h => by rw [upd_ne hb']; exact keep_new (h2 b' o hb' h) nT⟩
              · rw [List.length_map, List.length_take]
                have : (ups x).length ≤ x.cps.size := by rw [lu]; exact Nat.min_le_left _ _
                have l : sizeLine = 16777216 := sizeLine_eq
                have : x.cps.size ≤ 1000000 := hx
                omega
              · rw [upd_same, take_snoc hu, List.map_append]
                rfl
            · rintro H9 ⟨h1, h2⟩
              rw [← lu, List.take_length] at h1
              refine ⟨C, _, rfl, SqL.of h1, q H9 fun b o h => h2 b o (fun z => ?_) (s1 _ _ h)⟩
              rw [z] at h
              have := s1 _ _ h
              rw [nC] at this
              cases this
end
end M3

set_option Elab.async false
set_option linter.all false
set_option maxRecDepth 100000
set_option maxHeartbeats 8000000
/-! # Lines, tables, choices -/
namespace M3
open PySem L2
abbrev sIsTable : Stmt := top 18
abbrev sIsLine : Stmt := top 19
abbrev nIsTable : List Str := ["value", "width", "most", "line"]
abbrev nIsLine : List Str := ["value", "width", "size", "goal"]
theorem scIsTable : FnScope nIsTable ["value", "width", "most"] (defScope sIsTable) := ⟨rfl, rfl, rfl, by decide +kernel, rfl, by decide +kernel, by decide +kernel⟩
theorem scIsLine : FnScope nIsLine ["value", "width", "size"] (defScope sIsLine) := ⟨rfl, rfl, rfl, by decide +kernel, rfl, by decide +kernel, by decide +kernel⟩
theorem ty_tup {K : PySem.W.Frag} {H : Hp} {a : Addr} {xs : List V} (h : SqT K H a xs) : TyX K H (.ref a) (.type "tuple") := by
  rcases h with (h | ⟨o, h⟩) | ⟨o, _, _, h, c, _⟩
  · exact .base (.tup h)
  · exact .fTuple h
  · exact .kTuple h c
theorem sqt_same {K : PySem.W.Frag} {a : Addr} {H H' : Hp} {xs : List V} (s : Same H H') (h : SqT K H a xs) : SqT K H' a xs := by
  rcases h with (h | ⟨o, h⟩) | h
  · exact .inl (.inl (s _ _ h))
  · exact .inl (.inr ⟨o, s _ _ h⟩)
  · exact .inr h
def inside (n i : Int) : Bool := decide (0 ≤ i) && decide (i ≤ n - 1)
/-- a tuple of integers is handed in -/
def spIsLine (K : PySem.W.Frag) : Sp := fun vs H Q _ => ∃ (a : Addr) (xs : List Int) (w n : Int), vs = [.ref a, .int w, .int n] ∧ SqT K H a (xs.map V.int) ∧ xs.length ≤ 1000000 ∧ ∀ H' : Hp, Same H H' → Q (.bl (decide ((xs.length : Int) = w) && xs.all (inside n))) H'
section
variable {P : Program} {w : World} {K : PySem.W.Frag} {mg : Str → Option Value} {base : Heap}
theorem kit_tup : PySem.W.kitOne K (.type "tuple") (.type "tuple") = some true := kit_ty (by decide +kernel)
theorem kit_int_bool : PySem.W.kitOne K (.type "int") (.type "bool") = some false := kit_ty (by decide +kernel)
theorem kit_int_int : PySem.W.kitOne K (.type "int") (.type "int") = some true := kit_ty (by decide +kernel)
theorem ok_isline {f : Addr} {fd : FuncData} (F : Fun K "is_line" "is_line" sIsLine f fd) (D : DefsW K mg) (W : TxW mg) (Zx : TxZ mg) : FnOk P w K mg base CX0 2 f fd ["value", "width", "size"] (spIsLine K) := by
  have GB : FnOk P w K mg base CX0 1 D.fB D.dB ["value", "low", "high"] (spBetween K) := ok_between D.B W
  refine F.ok scIsLine (fun vs H Q E h => ?_) (fun cdv A outer s H vs Q E hr h => ?_)
  · obtain ⟨a, xs, w', n, rfl, _⟩ := h
    rfl
  · obtain ⟨a, xs, w', n, rfl, ha, hx, k⟩ := h
    refine ⟨_, pss_cons (ps_if (PW.pt (pw_or (pt_not (pt_val (pe_callB call_isi (by rfl) W.isi (by decide +kernel) (pa_cons (pv 0) (pa_cons (pe_bltn (v := .ty "tuple") rfl W.tuple boot_tuple' rfl) pa_nil))))) (pw_or1 (pt_cmpR op_ne (pe_callB call_len_seq (by rfl) Zx.len PySem.boot_len (pa_cons (pv 0) pa_nil)) (pv 1) (nomark _))))) (pss_one (ps_ret pe_bl)) pss_nil)
      (pss_one (ps_ret (pe_callB (cr_all rfl) (by rfl) W.all (by decide +kernel) (pa_cons (pe_lc (own := [("goal", 3)]) (g := gName 3) (tt := tYes) rfl scIsLine.nd (pi_tup (pv 0)) (blkOk_by (N := nIsLine) (sc := defScope sIsLine) (by decide +kernel)) (fun _ _ _ _ _ => pg_name (i := 3) scIsLine.nd rfl (Or.inl rfl)) (fun _ _ _ _ _ => pts_nil)
        (fun _ _ _ _ _ => pe_call GB hr rfl D.mB D.B.kp D.bB .nil pass0 (pa_cons (pv 3) (pa_cons pe_int (pa_cons (pe_op op_sub (pv 2) pe_int) pa_nil))))) pa_nil)))), ?_⟩
    refine ⟨_, rfl, .ref a, .ty "tuple", _, .type "tuple", true, rfl, .ty _, ty_tup ha, kit_tup, _, rfl, ?_⟩
    refine iteF ?_
    refine ⟨_, rfl, a, _, rfl, .inr ha, _, rfl, rfl, _, rfl, ?_⟩
    have e1 : (!decide (V.int ((xs.map V.int).length : Int) = V.int w')) = !decide ((xs.length : Int) = w') := by
      rw [List.length_map]
      by_cases h : (xs.length : Int) = w'
      · rw [decide_eq_true h, decide_eq_true (by rw [h])]
      · rw [decide_eq_false h, decide_eq_false (fun z => h (by injection z))]
    rw [e1]
    cases h1 : decide ((xs.length : Int) = w') with
    | false =>
      rw [h1] at k
      exact iteT (k H (Same.refl H))
    | true =>
      rw [h1] at k
      refine iteF ?_
      refine ⟨_, rfl, a, rfl, ⟨_, ha⟩, fun C nC => ?_⟩
      refine lc_it (walk_tup (K := K) (a := a) (xs := xs.map V.int)) (fun j H9 => H9 C = some (.lst (((xs.take j).map (inside n)).map V.bl)) ∧ Same H H9 ∧ H C = none)
        ⟨upd_same, Same.new (Same.refl H) nC, nC⟩ (fun i H9 _ ⟨_, z, _⟩ => sqt_same z ha) ?_ ?_
      · rintro i v H9 H9' hi ⟨q1, q2, _⟩ ⟨rfl, hv⟩
        refine ⟨rfl, tYes_if ?_⟩
        rw [List.getElem?_map] at hv
        cases e : xs[i]? with
        | none =>
          rw [e] at hv
          cases hv
        | some y =>
          rw [e] at hv
          cases hv
          refine ⟨_, rfl, _, rfl, _, _, rfl, rfl, .int y, 0, n - 1, .type "int", false, true, rfl, .base (.int y), kit_int_bool, kit_int_int, (fun z => by cases z), (fun _ z => by cases z), fun _ _ => ⟨y, rfl, ?_⟩⟩
          refine ⟨_, q1, ?_, ?_, fun b o h => ?_, nC⟩
          · rw [List.length_map, List.length_map, List.length_take]
            have l : sizeLine = 16777216 := sizeLine_eq
            omega
          · rw [upd_same, take_snoc e, List.map_append, List.map_append]
            rfl
          · rw [upd_ne (fun z => by rw [z, nC] at h; cases h)]
            exact q2 b o h
      · rintro H9 ⟨q1, q2, _⟩
        have et : xs.take (xs.map V.int).length = xs := by
          rw [List.length_map]
          exact List.take_length
        rw [et] at q1
        refine ⟨C, _, rfl, SqL.of q1, ?_⟩
        rw [List.all_map]
        exact k H9 q2
end
end M3

set_option Elab.async false
set_option linter.all false
set_option maxRecDepth 100000
set_option maxHeartbeats 8000000
/-! # Tables judged -/
namespace M3
open PySem L2
/-- tuples of integers stand at these addresses -/
def Lines (K : PySem.W.Frag) (H : Hp) (us : List V) (t : List (List Int)) : Prop := us.length = t.length ∧ ∀ (i : Nat) (r : List Int), t[i]? = some r → ∃ b : Addr, us[i]? = some (V.ref b) ∧ SqT K H b (r.map V.int) ∧ r.length ≤ 1000
theorem Lines.same {K : PySem.W.Frag} {H H' : Hp} {us : List V} {t : List (List Int)} (h : Lines K H us t) (s : Same H H') : Lines K H' us t := ⟨h.1, fun i r e => by
  obtain ⟨b, h1, h2, h3⟩ := h.2 i r e
  exact ⟨b, h1, sqt_same s h2, h3⟩⟩
def tabOk (t : List (List Int)) (w m : Int) : Bool := decide (1 ≤ (t.length : Int)) && (decide ((t.length : Int) ≤ m) && t.all fun r => decide ((r.length : Int) = w) && r.all (inside t.length))
def spIsTable (K : PySem.W.Frag) : Sp := fun vs H Q _ => ∃ (a : Addr) (us : List V) (t : List (List Int)) (w m : Int), vs = [.ref a, .int w, .int m] ∧ SqT K H a us ∧ Lines K H us t ∧ t.length ≤ 1000000 ∧ ∀ H' : Hp, Same H H' → Q (.bl (tabOk t w m)) H'
section
variable {P : Program} {w : World} {K : PySem.W.Frag} {mg : Str → Option Value} {base : Heap}
theorem ok_istable {f g : Addr} {fd gd : FuncData} (F : Fun K "is_table" "is_table" sIsTable f fd) (G : Fun K "is_line" "is_line" sIsLine g gd) (bG : Binds K gd ["value", "width", "size"] []) (mG : mg "is_line" = some (.ref g)) (D : DefsW K mg) (W : TxW mg) (Zx : TxZ mg) :
    FnOk P w K mg base CX0 3 f fd ["value", "width", "most"] (spIsTable K) := by
  have GL : FnOk P w K mg base CX0 2 g gd ["value", "width", "size"] (spIsLine K) := ok_isline G D W Zx
  refine F.ok scIsTable (fun vs H Q E h => ?_) (fun cdv A outer s H vs Q E hr h => ?_)
  · obtain ⟨a, us, t, w', m, rfl, _⟩ := h
    rfl
  · obtain ⟨a, us, t, w', m, rfl, ha, hL, ht, k⟩ := h
    refine ⟨_, pss_cons (ps_if (PW.pt (pw_or (pt_not (pt_val (pe_callB call_isi (by rfl) W.isi (by decide +kernel) (pa_cons (pv 0) (pa_cons (pe_bltn (v := .ty "tuple") rfl W.tuple boot_tuple' rfl) pa_nil))))) (pw_or1 (pt_not (pt_chain op_le op_le pe_int (pe_callB call_len_seq (by rfl) Zx.len PySem.boot_len (pa_cons (pv 0) pa_nil)) (pv 2)))))) (pss_one (ps_ret pe_bl)) pss_nil)
      (pss_one (ps_ret (pe_callB (cr_all rfl) (by rfl) W.all (by decide +kernel) (pa_cons (pe_lc (own := [("line", 3)]) (g := gName 3) (tt := tYes) (te := tCall (spIsLine K) [] E0 (tCons (tVar 3) (tCons (tVar 1) (tCons (tCB (fun xs H Q => ∃ p ys, xs = [V.ref p] ∧ (SqL K H p ys ∨ SqT K H p ys) ∧ Q (V.int ys.length) H) (tCons (tVar 0) tNil)) tNil)))) rfl scIsTable.nd (pi_tup (pv 0)) (blkOk_by (N := nIsTable) (sc := defScope sIsTable) (by decide +kernel)) (fun _ _ _ _ _ => pg_name (i := 3) scIsTable.nd rfl (Or.inl rfl)) (fun _ _ _ _ _ => pts_nil)
        (fun _ _ _ _ _ => pe_call GL hr rfl mG G.kp bG .nil pass0 (pa_cons (pv 3) (pa_cons (pv 1) (pa_cons (pe_callB call_len_seq (by rfl) Zx.len PySem.boot_len (pa_cons (pv 0) pa_nil)) pa_nil))))) pa_nil)))), ?_⟩
    have lu : us.length = t.length := hL.1
    refine ⟨_, rfl, .ref a, .ty "tuple", _, .type "tuple", true, rfl, .ty _, ty_tup ha, kit_tup, _, rfl, ?_⟩
    refine iteF ?_
    refine ⟨_, rfl, a, _, rfl, .inr ha, _, _, rfl, rfl, _, rfl, ?_⟩
    rw [lu]
    unfold tabOk at k
    cases h1 : decide (1 ≤ (t.length : Int)) with
    | false =>
      rw [h1] at k
      exact iteF ⟨_, rfl, iteT (k H (Same.refl H))⟩
    | true =>
      rw [h1] at k
      refine iteT ⟨_, rfl, _, _, rfl, rfl, _, rfl, ?_⟩
      cases h2 : decide ((t.length : Int) ≤ m) with
      | false =>
        rw [h2] at k
        exact iteT (k H (Same.refl H))
      | true =>
        rw [h2] at k
        refine iteF ?_
        refine ⟨_, rfl, a, rfl, ⟨_, ha⟩, fun C nC => ?_⟩
        refine lc_it (walk_tup (K := K) (a := a) (xs := us)) (fun j H9 => H9 C = some (.lst (((t.take j).map fun r => decide ((r.length : Int) = w') && r.all (inside t.length)).map V.bl)) ∧ Same H H9)
          ⟨upd_same, Same.new (Same.refl H) nC⟩ (fun i H9 _ ⟨_, z⟩ => sqt_same z ha) ?_ ?_
        · rintro i v H9 H9' hi ⟨q1, q2⟩ ⟨rfl, hv⟩
          refine ⟨rfl, tYes_if ?_⟩
          have hi' : i < t.length := by rw [← lu]; exact hi
          obtain ⟨b, b1, b2, b3⟩ := hL.2 i t[i] (List.getElem?_eq_getElem hi')
          have ev : v = .ref b := Option.some.inj (hv.symm.trans b1)
          subst ev
          refine ⟨_, rfl, _, rfl, _, rfl, a, us, rfl, .inr (sqt_same q2 ha), b, t[i], w', (us.length : Int), rfl, sqt_same q2 b2, Nat.le_trans b3 (by decide), fun H3 s3 => ?_⟩
          rw [lu]
          refine ⟨_, s3 _ _ q1, ?_, ?_, fun b' o h => ?_⟩
          · rw [List.length_map, List.length_map, List.length_take]
            have l : sizeLine = 16777216 := sizeLine_eq
            omega
          · rw [upd_same, take_snoc (List.getElem?_eq_getElem hi'), List.map_append, List.map_append]
            rfl
          · rw [upd_ne (fun z => by rw [z, nC] at h; cases h)]
            exact s3 _ _ (q2 b' o h)
        · rintro H9 ⟨q1, q2⟩
          have et : t.take us.length = t := by
            rw [lu]
            exact List.take_length
          rw [et] at q1
          refine ⟨C, _, rfl, SqL.of q1, ?_⟩
          rw [List.all_map]
          exact k H9 q2
end
end M3

set_option Elab.async false
set_option linter.all false
set_option maxRecDepth 100000
set_option maxHeartbeats 8000000
/-! # Choices judged -/
namespace M3
open PySem L2
theorem walk_zT {K : PySem.W.Frag} {a b : Addr} {xs ys : List V} {n : Nat} (hn : n = min xs.length ys.length) :
    Walk (RZ.ItzT K a b) n (fun H => SqT K H a xs ∧ SqT K H b ys) (YPair (fun i => xs[i]?) (fun i => ys[i]?)) where
  goes := fun i H hi q => by
    have h1 : i < xs.length := by omega
    have h2 : i < ys.length := by omega
    refine ⟨xs, ys, _, _, q.1, q.2, List.getElem?_eq_getElem h1, List.getElem?_eq_getElem h2⟩
  stops := fun H q => by
    refine ⟨xs, ys, q.1, q.2, ?_⟩
    omega
  yields := fun i H v H' hi q y => by
    obtain ⟨T, c, e, h1, h2, h3, h4, h5⟩ := y
    exact ⟨T, c, e, h1, h2, h3, h4 xs q.1, h5 ys q.2⟩
def climbs (xs : List Int) : List Bool := (xs.zip (xs.drop 1)).map fun p => decide (p.1 < p.2)
def choiceOk (xs : List Int) (n : Int) : Bool := xs.all (inside n) && (climbs xs).all id
section
variable {P : Program} {w : World} {K : PySem.W.Frag} {mg : Str → Option Value} {base : Heap}
end
end M3

set_option Elab.async false
set_option linter.all false
set_option maxRecDepth 100000
set_option maxHeartbeats 8000000
/-! # Leading words -/
namespace M3
open PySem L2
abbrev sLed : Stmt := top 21
abbrev nLawLed : List Str := ["table", "letters", "word", "start", "place", "letter"]
abbrev nLed : List Str := ["table", "letters", "start", "word", "now", "letter"]
theorem scLed : FnScope nLed ["table", "letters", "start", "word"] (defScope sLed) := ⟨rfl, rfl, rfl, by decide +kernel, rfl, by decide +kernel, by decide +kernel⟩
/-- tuples of numbers stand at these addresses -/
def Tups (K : PySem.W.Frag) (H : Hp) (us : List V) (t : List (List Nat)) : Prop := us.length = t.length ∧ ∀ (i : Nat) (r : List Nat), t[i]? = some r → ∃ b : Addr, us[i]? = some (V.ref b) ∧ SqT K H b (nts r)
def step (t : List (List Nat)) (x : Str) (q c : Nat) : Nat := (t.getD q []).getD (x.cps.toList.idxOf c) 0
/-- to which state a word leads -/
def goes (t : List (List Nat)) (x : Str) (q : Nat) (cs : List Nat) : Nat := cs.foldl (step t x) q
theorem step_lt {t : List (List Nat)} {x : Str} {n m : Nat} (h : IsTab t n m) (hm : x.cps.toList.length = m) {q c : Nat} (hq : q < n) (hc : c ∈ x.cps.toList) : step t x q c < n := by
  obtain ⟨h1, h2⟩ := h
  have hq' : q < t.length := by omega
  obtain ⟨l1, l2⟩ := h2 t[q] (List.getElem_mem hq')
  have hi : x.cps.toList.idxOf c < t[q].length := by
    rw [l1, ← hm]
    exact List.idxOf_lt_length_of_mem hc
  unfold step
  have e : t.getD q [] = t[q] := by simp [List.getD, List.getElem?_eq_getElem hq']
  rw [e]
  have e2 : t[q].getD (x.cps.toList.idxOf c) 0 = t[q][x.cps.toList.idxOf c] := by simp [List.getD, List.getElem?_eq_getElem hi]
  rw [e2]
  exact l2 _ (List.getElem_mem hi)
theorem goes_lt {t : List (List Nat)} {x : Str} {n m : Nat} (h : IsTab t n m) (hm : x.cps.toList.length = m) : ∀ (cs : List Nat) (q : Nat), q < n → (∀ c ∈ cs, c ∈ x.cps.toList) → goes t x q cs < n
  | [], _, hq, _ => hq
  | c :: cs, q, hq, hc => goes_lt h hm cs (step t x q c) (step_lt h hm hq (hc c List.mem_cons_self)) fun d hd => hc d (List.mem_cons_of_mem _ hd)
theorem occ1 : ∀ a ∈ six, Builtin.Str.occurrences ⟨#[a]⟩ ⟨#[a]⟩ 0 1 1 = [0] := by decide +kernel
theorem occ2 : ∀ a ∈ six, ∀ b ∈ six, a < b → Builtin.Str.occurrences ⟨#[a, b]⟩ ⟨#[a]⟩ 0 2 1 = [0] ∧ Builtin.Str.occurrences ⟨#[a, b]⟩ ⟨#[b]⟩ 0 2 1 = [1] := by decide +kernel
theorem set_occ {x : Str} {n c : Nat} (h : IsSet x n) (h2 : n ≤ 2) (hc : c ∈ x.cps.toList) : Builtin.Str.occurrences x ⟨#[c]⟩ 0 x.length 1 = [x.cps.toList.idxOf c] := by
  obtain ⟨cs, rfl, hl, hp, hm⟩ := h
  match cs, hl, hp, hm with
  | [], _, _, _ => cases hc
  | [a], _, _, hm =>
    have e : c = a := List.mem_singleton.mp hc
    subst e
    have ei : List.idxOf c [c] = 0 := by simp
    show Builtin.Str.occurrences ⟨#[c]⟩ ⟨#[c]⟩ 0 1 1 = [List.idxOf c [c]]
    rw [ei]
    exact occ1 c (hm c List.mem_cons_self)
  | [a, b], _, hp, hm =>
    have lt : a < b := by simpa using hp
    obtain ⟨o1, o2⟩ := occ2 a (hm a List.mem_cons_self) b (hm b (List.mem_cons_of_mem _ List.mem_cons_self)) lt
    rcases List.mem_cons.mp hc with e | e
    · subst e
      have ei : List.idxOf c [c, b] = 0 := by simp
      show Builtin.Str.occurrences ⟨#[c, b]⟩ ⟨#[c]⟩ 0 2 1 = [List.idxOf c [c, b]]
      rw [ei]
      exact o1
    · have e : c = b := List.mem_singleton.mp e
      subst e
      have ei : List.idxOf c [a, c] = 1 := by
        have nb : (a == c) = false := beq_eq_false_iff_ne.mpr (by omega)
        simp [List.idxOf_cons, nb]
      show Builtin.Str.occurrences ⟨#[a, c]⟩ ⟨#[c]⟩ 0 2 1 = [List.idxOf c [a, c]]
      rw [ei]
      exact o2
  | _ :: _ :: _ :: l, hl, _, _ =>
    have hl : l.length + 3 = n := hl
    omega
def spLawLed (K : PySem.W.Frag) : Sp := fun vs H Q _ => ∃ (a : Addr) (x y : Str) (q n m : Nat) (t : List (List Nat)) (us : List V), vs = [.ref a, .str x, .str y, .int q] ∧ SqL K H a us ∧ Tups K H us t ∧ IsTab t n m ∧ IsSet x m ∧ m ≤ 2 ∧ IsW x y ∧ q < n ∧
  Q (.int (goes t x q y.cps.toList : Nat)) H
def spLed (K : PySem.W.Frag) : Sp := fun vs H Q _ => ∃ (a : Addr) (x y : Str) (q n m : Nat) (t : List (List Nat)) (us : List V), vs = [.ref a, .str x, .int q, .str y] ∧ SqT K H a us ∧ Tups K H us t ∧ IsTab t n m ∧ IsSet x m ∧ m ≤ 2 ∧ IsW x y ∧ q < n ∧
  Q (.int (goes t x q y.cps.toList : Nat)) H
theorem goes_snoc {t : List (List Nat)} {x : Str} {q c : Nat} {cs : List Nat} : goes t x q (cs ++ [c]) = step t x (goes t x q cs) c := by
  unfold goes
  rw [List.foldl_append]
  rfl
section
variable {P : Program} {w : World} {K : PySem.W.Frag} {mg : Str → Option Value} {base : Heap}
theorem ok_led {f : Addr} {fd : FuncData} (F : Fun K "led" "led" sLed f fd) : FnOk P w K mg base CX0 1 f fd ["table", "letters", "start", "word"] (spLed K) := by
  refine F.ok scLed (fun vs H Q E h => ?_) (fun cdv A outer s H vs Q E hr h => ?_)
  · obtain ⟨a, x, y, q, n, m, t, us, rfl, _⟩ := h
    rfl
  · obtain ⟨a, x, y, q, n, m, t, us, rfl, ha, hT, tab, st, m2, hw, hq, k⟩ := h
    refine ⟨_, pss_cons (ps_set (i := 4) scLed.nd rfl (Or.inl rfl) (pv 2))
      (pss_cons (ps_for PassesOwn.never rfl (pi_str (pv 3)) (pg_name (i := 5) scLed.nd rfl (Or.inl rfl))
        (pss_one (ps_set (i := 4) scLed.nd rfl (Or.inl rfl) (pe_ix ix_tup (pe_ix ix_tup (pv 0) (pv 4) (fun _ _ => rfl)) (pe_bm PySem.F.plainAttrs_str PySem.F.slot_str_index PySem.F.type_str_index mt_sindex (pv 1) (pa_cons (pv 5) pa_nil)) (fun _ _ => rfl)))))
      (pss_one (ps_ret (pv 4)))), ?_⟩
    have hm : x.cps.toList.length = m := by
      obtain ⟨cs, e, hl, _⟩ := st
      rw [e]
      simpa using hl
    refine ⟨_, rfl, _, rfl, y, rfl, for_it walk_str (fun i σ H' => H' = H ∧ ∃ l : Option V, σ = [some (.ref a), some (.str x), some (.int q), some (.str y), some (.int ((goes t x q (y.cps.toList.take i) : Nat) : Int)), l]) ⟨rfl, none, rfl⟩ (fun _ _ _ _ _ => trivial) ?_ ?_⟩
    · rintro i v σ H1 H2 hi ⟨rfl, l, rfl⟩ ⟨rfl, c, hc, rfl⟩
      have hc' : y.cps.toList[i]? = some c := by simpa using hc
      have cx : c ∈ x.cps.toList := hw c (List.mem_of_getElem? hc')
      have hq2 : goes t x q (y.cps.toList.take i) < n := goes_lt tab hm _ _ hq fun d hd => hw d (List.mem_of_mem_take hd)
      have eg : goes t x q (y.cps.toList.take (i + 1)) = step t x (goes t x q (y.cps.toList.take i)) c := by
        rw [take_snoc hc', goes_snoc]
      generalize goes t x q (y.cps.toList.take i) = p at hq2 eg ⊢
      have hp : p < t.length := by rw [tab.1]; exact hq2
      obtain ⟨b, b1, b2⟩ := hT.2 p t[p] (List.getElem?_eq_getElem hp)
      have hi2 : x.cps.toList.idxOf c < t[p].length := by
        rw [(tab.2 t[p] (List.getElem_mem hp)).1, ← hm]
        exact List.idxOf_lt_length_of_mem cx
      refine ⟨_, rfl, _, rfl, a, us, (p : Int), .ref b, rfl, rfl, ha, atI_nat b1, ?_⟩
      have es : step t x p c = t[p].getD (x.cps.toList.idxOf c) 0 := by
        unfold step
        have e : t.getD p [] = t[p] := by simp [List.getD, List.getElem?_eq_getElem hp]
        rw [e]
      rw [es] at eg
      refine ⟨_, rfl, rfl, _, rfl, x, ⟨#[c]⟩, x.cps.toList.idxOf c, [], rfl, rfl, set_occ st m2 cx, b, nts t[p], _, _, rfl, rfl, b2, nts_at hi2, ?_⟩
      rw [eg]
      exact ⟨rfl, some (.str ⟨#[c]⟩), rfl⟩
    · rintro σ H1 ⟨rfl, l, rfl⟩
      refine ⟨_, rfl, ?_⟩
      have et : y.cps.toList.take y.cps.size = y.cps.toList := List.take_of_length_le (by simp)
      rw [et]
      exact k
end
end M3

set_option Elab.async false
set_option linter.all false
set_option maxRecDepth 100000
set_option maxHeartbeats 8000000
/-! # Machines made -/
namespace M3
open PySem L2
theorem set_let1 : ∀ a ∈ six, isLet ⟨#[a]⟩ = true := by decide +kernel
theorem set_let2 : ∀ a ∈ six, ∀ b ∈ six, a < b → isLet ⟨#[a, b]⟩ = true := by decide +kernel
theorem set_let {x : Str} {n : Nat} (h : IsSet x n) (h1 : 1 ≤ n) (h2 : n ≤ 2) : isLet x = true := by
  obtain ⟨cs, rfl, hl, hp, hm⟩ := h
  match cs, hl, hp, hm with
  | [], hl, _, _ =>
    have hl : 0 = n := hl
    omega
  | [a], _, _, hm => exact set_let1 a (hm a List.mem_cons_self)
  | [a, b], _, hp, hm => exact set_let2 a (hm a List.mem_cons_self) b (hm b (List.mem_cons_of_mem _ List.mem_cons_self)) (by simpa using hp)
  | _ :: _ :: _ :: l, hl, _, _ =>
    have hl : l.length + 3 = n := hl
    omega
def asInt (t : List (List Nat)) : List (List Int) := t.map fun r => r.map Int.ofNat
theorem inside_nat {n i : Nat} (h : i < n) : inside n (Int.ofNat i) = true := by
  unfold inside
  have a : (0 : Int) ≤ Int.ofNat i := Int.natCast_nonneg i
  have b : Int.ofNat i ≤ (n : Int) - 1 := by
    show ((i : Nat) : Int) ≤ (n : Int) - 1
    omega
  rw [decide_eq_true a, decide_eq_true b]
  rfl
theorem tab_ok {t : List (List Nat)} {n m : Nat} (h : IsTab t n m) (h1 : 1 ≤ n) (h4 : n ≤ 4) : tabOk (asInt t) (m : Int) 4 = true := by
  obtain ⟨e, h⟩ := h
  have le : (asInt t).length = n := by
    unfold asInt
    rw [List.length_map, e]
  unfold tabOk
  rw [le, decide_eq_true (show (1 : Int) ≤ (n : Int) by omega), decide_eq_true (show (n : Int) ≤ 4 by omega)]
  have q : ((asInt t).all fun r => decide ((r.length : Int) = (m : Int)) && r.all (inside (n : Int))) = true := by
    rw [List.all_eq_true]
    intro r hr
    unfold asInt at hr
    obtain ⟨r0, hr0, rfl⟩ := List.mem_map.mp hr
    obtain ⟨l1, l2⟩ := h r0 hr0
    rw [List.length_map, l1, decide_eq_true rfl, Bool.true_and, List.all_eq_true]
    intro i hi
    obtain ⟨j, hj, rfl⟩ := List.mem_map.mp hi
    exact inside_nat (l2 j hj)
  rw [q]
  rfl
theorem climbs_up : ∀ es : List Nat, es.Pairwise (· < ·) → (climbs (es.map Int.ofNat)).all id = true
  | [], _ => rfl
  | [_], _ => rfl
  | a :: b :: l, h => by
    have h' := List.pairwise_cons.mp h
    have ih := climbs_up (b :: l) h'.2
    have lt : (a : Int) < (b : Int) := by
      have := h'.1 b List.mem_cons_self
      omega
    show (decide ((a : Int) < (b : Int)) && (climbs ((b :: l).map Int.ofNat)).all id) = true
    rw [decide_eq_true lt, ih]
    rfl
theorem choice_ok {es : List Nat} {n : Nat} (h : es.Pairwise (· < ·)) (hl : ∀ e ∈ es, e < n) : choiceOk (es.map Int.ofNat) (n : Int) = true := by
  unfold choiceOk
  rw [climbs_up es h, Bool.and_true, List.all_eq_true]
  intro i hi
  obtain ⟨j, hj, rfl⟩ := List.mem_map.mp hi
  exact inside_nat (hl j hj)
theorem tups_lines {K : PySem.W.Frag} {H : Hp} {us : List V} {t : List (List Nat)} {n m : Nat} (h : Tups K H us t) (tb : IsTab t n m) (hm : m ≤ 1000) : Lines K H us (asInt t) := by
  refine ⟨by unfold asInt; rw [List.length_map]; exact h.1, fun i r e => ?_⟩
  unfold asInt at e
  rw [List.getElem?_map] at e
  cases e0 : t[i]? with
  | none =>
    rw [e0] at e
    cases e
  | some r0 =>
    rw [e0] at e
    cases e
    obtain ⟨b, b1, b2⟩ := h.2 i r0 e0
    refine ⟨b, b1, by rw [← nts_eq']; exact b2, ?_⟩
    rw [List.length_map, (tb.2 r0 (List.mem_of_getElem? e0)).1]
    exact hm
end M3

set_option Elab.async false
set_option linter.all false
set_option maxRecDepth 100000
set_option maxHeartbeats 8000000
/-! # Machine.__init__ -/
namespace M3
open PySem L2
section
variable {P : Program} {w : World} {K : PySem.W.Frag} {mg : Str → Option Value} {base : Heap}
theorem kit_str : PySem.W.kitOne K (.type "str") (.type "str") = some true := kit_ty (by decide +kernel)
theorem set_len {x : Str} {m : Nat} (h : IsSet x m) : x.length = m := by
  obtain ⟨cs, rfl, hl, _⟩ := h
  simpa [Str.length] using hl
theorem asc_len {es : List Nat} : ∀ {n : Nat}, es.Pairwise (· < ·) → (∀ e ∈ es, e < n) → es.length ≤ n := by
  induction es with
  | nil => intro n _ _; exact Nat.zero_le _
  | cons a l ih =>
    intro n hp hl
    have hp' := List.pairwise_cons.mp hp
    have ha := hl a List.mem_cons_self
    have hm : ∀ (k : Nat) (l : List Nat), l.Pairwise (· < ·) → (∀ e ∈ l, k < e) → (∀ e ∈ l, e < n) → k < n → l.length + k + 1 ≤ n := by
      intro k l
      induction l generalizing k with
      | nil => intro _ _ _ h; simp; omega
      | cons b l ih2 =>
        intro q1 q2 q3 q4
        have q1' := List.pairwise_cons.mp q1
        have := ih2 b q1'.2 q1'.1 (fun e he => q3 e (List.mem_cons_of_mem _ he)) (q3 b List.mem_cons_self)
        have kb := q2 b List.mem_cons_self
        simp
        omega
    have := hm a l hp'.2 hp'.1 (fun e he => hl e (List.mem_cons_of_mem _ he)) ha
    simp
    omega
end
end M3

set_option Elab.async false
set_option linter.all false
set_option maxRecDepth 100000
set_option maxHeartbeats 8000000
/-! # A plain machine made one -/
namespace M3
open PySem L2
/-- tuples that stand as such -/
theorem tups_of {K : PySem.W.Frag} {d C : Addr} {H : Hp} {us : List V} {t : List (List Nat)} (h : RowsT d C H us t) : Tups K H us t := ⟨h.1, fun i r e => by
  obtain ⟨b, b1, _, _, b4⟩ := h.2 i r e
  exact ⟨b, b1, SqT.of b4⟩⟩
theorem Tups.same {K : PySem.W.Frag} {H H' : Hp} {us : List V} {t : List (List Nat)} (h : Tups K H us t) (s : Same H H') : Tups K H' us t := ⟨h.1, fun i r e => by
  obtain ⟨b, b1, b2⟩ := h.2 i r e
  exact ⟨b, b1, sqt_same s b2⟩⟩
section
variable {P : Program} {w : World} {K : PySem.W.Frag} {mg : Str → Option Value} {base : Heap}
end
end M3

set_option Elab.async false
set_option linter.all false
set_option maxRecDepth 100000
set_option maxHeartbeats 8000000
/-! # Numbers in lists -/
namespace M3
open PySem L2
theorem inV_nts (q : Nat) : ∀ es : List Nat, inV (.int q) (nts es) = decide (q ∈ es)
  | [] => by rfl
  | e :: es => by
    have ih := inV_nts q es
    show (((e : Int) == (q : Int)) || inV (.int q) (nts es)) = decide (q ∈ e :: es)
    rw [ih]
    by_cases h : q = e
    · subst h
      simp
    · have a : ((e : Int) == (q : Int)) = false := beq_eq_false_iff_ne.mpr (by omega)
      rw [a, Bool.false_or]
      by_cases hm : q ∈ es
      · rw [decide_eq_true hm, decide_eq_true (List.mem_cons_of_mem _ hm)]
      · rw [decide_eq_false hm, decide_eq_false (fun z => by
          rcases List.mem_cons.mp z with z | z
          · exact h z
          · exact hm z)]
theorem flat_nts : ∀ es : List Nat, (nts es).all flatV = true
  | [] => by rfl
  | _ :: es => by
    have ih := flat_nts es
    show (true && (nts es).all flatV) = true
    rw [ih]
    rfl
end M3

set_option Elab.async false
set_option linter.all false
set_option maxRecDepth 100000
set_option maxHeartbeats 8000000
/-! # Words repeated -/
namespace M3
open PySem L2
/-- the state behind k turns of the word -/
def iter (t : List (List Nat)) (x y : Str) (q0 : Nat) : Nat → Nat
  | 0 => q0
  | k + 1 => goes t x (iter t x y q0 k) y.cps.toList
theorem iter_lt {t : List (List Nat)} {x y : Str} {q0 : Nat} {m : Nat} (tb : IsTab t t.length m) (hm : x.cps.toList.length = m) (t1 : q0 < t.length) (hw : IsW x y) : ∀ k, iter t x y q0 k < t.length
  | 0 => t1
  | k + 1 => goes_lt tb hm _ _ (iter_lt tb hm t1 hw k) hw
theorem iter_shift {t : List (List Nat)} {x y : Str} {q0 : Nat} {i c : Nat} (h : iter t x y q0 (i + c) = iter t x y q0 i) : ∀ k, i ≤ k → iter t x y q0 (k + c) = iter t x y q0 k := by
  intro k hk
  obtain ⟨r, rfl⟩ := Nat.exists_eq_add_of_le hk
  induction r with
  | zero => exact h
  | succ r ih =>
    have e : i + (r + 1) + c = (i + r + c) + 1 := by omega
    rw [e]
    show goes t x (iter t x y q0 (i + r + c)) y.cps.toList = goes t x (iter t x y q0 (i + r)) y.cps.toList
    rw [ih (by omega)]
theorem iter_times {t : List (List Nat)} {x y : Str} {q0 : Nat} {i c : Nat} (h : ∀ k, i ≤ k → iter t x y q0 (k + c) = iter t x y q0 k) : ∀ r k, i ≤ k → iter t x y q0 (k + c * r) = iter t x y q0 k
  | 0, k, _ => rfl
  | r + 1, k, hk => by
    have e : k + c * (r + 1) = (k + c * r) + c := by rw [Nat.mul_succ]; omega
    rw [e, h _ (by omega)]
    exact iter_times h r k hk
theorem pigeon {f : Nat → Nat} (h : ∀ k, f k < 4) : ∃ i j, i < j ∧ j ≤ 4 ∧ f i = f j := by
  have h0 := h 0
  have h1 := h 1
  have h2 := h 2
  have h3 := h 3
  have h4 := h 4
  by_cases a1 : f 0 = f 1
  · exact ⟨0, 1, by omega, by omega, a1⟩
  by_cases a2 : f 0 = f 2
  · exact ⟨0, 2, by omega, by omega, a2⟩
  by_cases a3 : f 0 = f 3
  · exact ⟨0, 3, by omega, by omega, a3⟩
  by_cases a4 : f 0 = f 4
  · exact ⟨0, 4, by omega, by omega, a4⟩
  by_cases b2 : f 1 = f 2
  · exact ⟨1, 2, by omega, by omega, b2⟩
  by_cases b3 : f 1 = f 3
  · exact ⟨1, 3, by omega, by omega, b3⟩
  by_cases b4 : f 1 = f 4
  · exact ⟨1, 4, by omega, by omega, b4⟩
  by_cases c3 : f 2 = f 3
  · exact ⟨2, 3, by omega, by omega, c3⟩
  by_cases c4 : f 2 = f 4
  · exact ⟨2, 4, by omega, by omega, c4⟩
  by_cases d4 : f 3 = f 4
  · exact ⟨3, 4, by omega, by omega, d4⟩
  omega
/-- behind six turns the states come again after twelve -/
theorem iter_12 {t : List (List Nat)} {x y : Str} {q0 : Nat} (h : ∀ k, iter t x y q0 k < 4) : ∀ k, 6 ≤ k → iter t x y q0 (k + 12) = iter t x y q0 k := by
  obtain ⟨i, j, ij, j4, e⟩ := pigeon h
  have e' : iter t x y q0 (i + (j - i)) = iter t x y q0 i := by
    have z : i + (j - i) = j := by omega
    rw [z, e]
  have s := iter_times (iter_shift e')
  intro k hk
  have c : ∃ r, 12 = (j - i) * r := by
    have : j - i = 1 ∨ j - i = 2 ∨ j - i = 3 ∨ j - i = 4 := by omega
    rcases this with q | q | q | q
    · exact ⟨12, by omega⟩
    · exact ⟨6, by omega⟩
    · exact ⟨4, by omega⟩
    · exact ⟨3, by omega⟩
  obtain ⟨r, hr⟩ := c
  have q := s r k (by omega)
  rw [← hr] at q
  exact q
theorem iter_mod {t : List (List Nat)} {x y : Str} {q0 : Nat} (h : ∀ k, iter t x y q0 k < 4) (k : Nat) (hk : 6 ≤ k) : iter t x y q0 (6 + (k - 6) % 12) = iter t x y q0 k := by
  have q := iter_times (i := 6) (c := 12) (iter_12 h) ((k - 6) / 12) (6 + (k - 6) % 12) (by omega)
  have e : 6 + (k - 6) % 12 + 12 * ((k - 6) / 12) = k := by omega
  rw [e] at q
  exact q.symm
def iters (t : List (List Nat)) (x y : Str) (q0 n : Nat) : List Nat := (List.range n).map (iter t x y q0)
theorem iters_at {t : List (List Nat)} {x y : Str} {q0 : Nat} {n k : Nat} (h : k < n) : atI (nts (iters t x y q0 n)) (k : Int) = some (.int ((iter t x y q0 k : Nat) : Int)) := by
  refine atI_nat ?_
  unfold nts iters
  rw [List.map_map, List.getElem?_map, List.getElem?_range h]
  rfl
theorem iters_last {t : List (List Nat)} {x y : Str} {q0 : Nat} {n : Nat} : atI (nts (iters t x y q0 (n + 1))) (-1) = some (.int ((iter t x y q0 n : Nat) : Int)) := by
  have l : (nts (iters t x y q0 (n + 1))).length = n + 1 := by
    rw [nts_length]
    unfold iters
    rw [List.length_map, List.length_range]
  have q := iters_at (t := t) (x := x) (y := y) (q0 := q0) (n := n + 1) (k := n) (by omega)
  unfold atI at q ⊢
  rw [l] at q ⊢
  have e1 : ixN (n + 1) (-1) = some n := by
    unfold ixN
    rw [if_neg (by omega), if_pos (by omega)]
    congr 1
    omega
  have e2 : ixN (n + 1) (n : Int) = some n := ixNat (by omega)
  rw [e2] at q
  rw [e1]
  exact q
end M3

set_option Elab.async false
set_option linter.all false
set_option maxRecDepth 100000
set_option maxHeartbeats 8000000
/-! # led_often: the states of a repeated word, until one comes again -/
namespace M3
open PySem L2
abbrev sOften : Stmt := top 22
abbrev nOften : List Str := ["table", "letters", "start", "word", "times", "trail", "first_at", "goal", "back"]
theorem scOften : FnScope nOften ["table", "letters", "start", "word", "times"] (defScope sOften) := ⟨rfl, rfl, rfl, by decide +kernel, rfl, by decide +kernel, by decide +kernel⟩
/-- where each state of the trail stands -/
structure At (t : List (List Nat)) (x y : Str) (q0 j : Nat) (kvs : List (Key × V)) : Prop where
  yes : ∀ i, i < j → valV kvs (.inl ((iter t x y q0 i : Nat) : Int)) = some (.int (i : Nat))
  only : ∀ (q : Int) (v : V), valV kvs (.inl q) = some v → ∃ i : Nat, i < j ∧ q = ((iter t x y q0 i : Nat) : Int) ∧ v = .int (i : Nat)
  len : kvs.length ≤ j
theorem At.le {t : List (List Nat)} {x y : Str} {q0 : Nat} {j : Nat} {kvs : List (Key × V)} (h : At t x y q0 j kvs) (l : ∀ k, iter t x y q0 k < 4) : j ≤ 4 := by
  obtain ⟨a, b, ab, b4, e⟩ := pigeon l
  by_cases hj : j ≤ 4
  · exact hj
  · have h1 := h.yes a (by omega)
    have h2 := h.yes b (by omega)
    rw [e, h2] at h1
    have q : V.int (b : Nat) = V.int (a : Nat) := Option.some.inj h1
    have q' : ((b : Nat) : Int) = ((a : Nat) : Int) := by injection q
    omega
theorem At.one {t : List (List Nat)} {x y : Str} {q0 : Nat} : At t x y q0 1 [(.inl (q0 : Int), .int 0)] := by
  refine ⟨fun i hi => ?_, fun q v h => ?_, Nat.le_refl _⟩
  · have e : i = 0 := by omega
    subst e
    exact valV_pos rfl
  · by_cases e : q = (q0 : Int)
    · subst e
      rw [valV_pos rfl] at h
      exact ⟨0, by omega, rfl, (Option.some.inj h).symm⟩
    · rw [valV_neg (fun z => e (by injection z with z; exact z.symm)), valV_nil] at h
      cases h
theorem At.put {t : List (List Nat)} {x y : Str} {q0 : Nat} {j : Nat} {kvs : List (Key × V)} (h : At t x y q0 j kvs) (n : valV kvs (.inl ((iter t x y q0 j : Nat) : Int)) = none) : At t x y q0 (j + 1) (putK kvs (.inl ((iter t x y q0 j : Nat) : Int)) (.int (j : Nat))) := by
  refine ⟨fun i hi => ?_, fun q v e => ?_, ?_⟩
  · rw [valV_put]
    by_cases c : (Sum.inl ((iter t x y q0 i : Nat) : Int) : Key) = Sum.inl ((iter t x y q0 j : Nat) : Int)
    · rw [if_pos c]
      by_cases ij : i = j
      · rw [ij]
      · have q := h.yes i (by omega)
        rw [c, n] at q
        cases q
    · rw [if_neg c]
      refine h.yes i ?_
      by_cases ij : i = j
      · rw [ij] at c
        exact absurd rfl c
      · omega
  · rw [valV_put] at e
    by_cases c : (Sum.inl q : Key) = Sum.inl ((iter t x y q0 j : Nat) : Int)
    · rw [if_pos c] at e
      exact ⟨j, by omega, by injection c, (Option.some.inj e).symm⟩
    · rw [if_neg c] at e
      obtain ⟨i, h1, h2, h3⟩ := h.only q v e
      exact ⟨i, by omega, h2, h3⟩
  · rw [putK_new _ n, List.length_append]
    show kvs.length + 1 ≤ j + 1
    have := h.len
    omega
theorem iter_back {t : List (List Nat)} {x y : Str} {q0 : Nat} {i j : Nat} (ij : i < j) (h : iter t x y q0 j = iter t x y q0 i) (k : Nat) (hk : j ≤ k) : iter t x y q0 (i + (k - i) % (j - i)) = iter t x y q0 k := by
  have e' : iter t x y q0 (i + (j - i)) = iter t x y q0 i := by
    have z : i + (j - i) = j := by omega
    rw [z, h]
  have s := iter_times (iter_shift e') ((k - i) / (j - i)) (i + (k - i) % (j - i)) (by omega)
  have d := Nat.mod_add_div (k - i) (j - i)
  have e : i + (k - i) % (j - i) + (j - i) * ((k - i) / (j - i)) = k := by omega
  rw [e] at s
  exact s.symm
def spOften (K : PySem.W.Frag) : Sp := fun vs H Q _ => ∃ (a : Addr) (x y : Str) (m k q0 : Nat) (t : List (List Nat)) (us : List V), vs = [.ref a, .str x, .int (q0 : Nat), .str y, .int k] ∧ SqT K H a us ∧ Tups K H us t ∧ IsTab t t.length m ∧ IsSet x m ∧ m ≤ 2 ∧ IsW x y ∧ q0 < t.length ∧ t.length ≤ 4 ∧
  ∀ H' : Hp, Same H H' → Q (.int ((iter t x y q0 k : Nat) : Int)) H'
section
variable {P : Program} {w : World} {K : PySem.W.Frag} {mg : Str → Option Value} {base : Heap}
theorem ok_often {f g : Addr} {fd gd : FuncData} (F : Fun K "led_often" "led_often" sOften f fd) (G : Fun K "led" "led" sLed g gd) (bG : Binds K gd ["table", "letters", "start", "word"] []) (mG : mg "led" = some (.ref g)) (T : TxI mg) : FnOk P w K mg base CX0 2 f fd ["table", "letters", "start", "word", "times"] (spOften K) := by
  have GL : FnOk P w K mg base CX0 1 g gd ["table", "letters", "start", "word"] (spLed K) := ok_led G
  refine F.ok scOften (fun vs H Q E h => ?_) (fun cdv A outer s H vs Q E hr h => ?_)
  · obtain ⟨a, x, y, m, k, q0, t, us, rfl, _⟩ := h
    rfl
  · obtain ⟨a, x, y, m, n, q0, t, us, rfl, ha, hT, tb, hx, m2, hw, t1, t4, k⟩ := h
    have hu := hu_of hr
    have hm : x.cps.toList.length = m := by
      have := set_len hx
      simpa [Str.length] using this
    have il := iter_lt tb hm t1 hw
    have i4 : ∀ k, iter t x y q0 k < 4 := fun k => Nat.lt_of_lt_of_le (il k) t4
    refine ⟨_, pss_cons (ps_set (i := 5) scOften.nd rfl (Or.inl rfl) (pe_lst (pa_cons (pv 2) pa_nil)))
      (pss_cons (ps_set (i := 6) scOften.nd rfl (Or.inl rfl) (pe_disp (pps_cons (pv 2) pe_int pps_nil) (by rfl) (by rfl) (fun z => by cases z) (by decide)))
      (pss_cons (ps_while PassesOwn.never (pt_cmpR op_le (pe_callB call_len_seq (by rfl) T.len PySem.boot_len (pa_cons (pv 5) pa_nil)) (pv 4) (nomark _))
        (pss_cons (ps_set (i := 7) scOften.nd rfl (Or.inl rfl) (pe_call GL hr rfl mG G.kp bG .nil pass0 (pa_cons (pv 0) (pa_cons (pv 1) (pa_cons (pe_ix ix_list (pv 5) (pe_un un_neg pe_int) (fun _ _ => rfl)) (pa_cons (pv 3) pa_nil))))))
        (pss_cons (ps_if (pt_cmp (pc_din hu (pv 7) (pv 6))) (pss_cons (ps_set (i := 8) scOften.nd rfl (Or.inl rfl) (pe_dget hu (pv 6) (pv 7) (fun _ _ => rfl)))
          (pss_one (ps_ret (pe_ix ix_list (pv 5) (pe_op op_add (pv 8) (pe_op op_mod (pe_op op_sub (pv 4) (pv 8)) (pe_op op_sub (pe_callB call_len_seq (by rfl) T.len PySem.boot_len (pa_cons (pv 5) pa_nil)) (pv 8)))) (fun _ _ => rfl))))) pss_nil)
        (pss_cons (ps_dput hu (pv 6) (pv 7) (pe_callB call_len_seq (by rfl) T.len PySem.boot_len (pa_cons (pv 5) pa_nil)) rfl)
        (pss_one (ps_expr (pe_bm PySem.F.plainAttrs_list PySem.F.slot_list_append PySem.F.type_list_append mt_append (pv 5) (pa_cons (pv 7) pa_nil))))))))
      (pss_one (ps_ret (pe_ix ix_list (pv 5) (pv 4) (fun _ _ => rfl)))))), ?_⟩
    refine ⟨_, rfl, (by show 1 ≤ sizeLine; decide), fun l nl => ?_⟩
    intro f nf
    refine ⟨_, rfl, upd_same, [(.inl (q0 : Int), .int 0)], rfl, (by show 1 ≤ 15; decide), ?_⟩
    rw [upd_upd]
    have lf : l ≠ f := fun z => by
      rw [← z, upd_same] at nf
      cases nf
    have nf0 : H f = none := by
      rw [upd_ne (Ne.symm lf)] at nf
      exact nf
    have neL : ∀ {b : Addr} {o : HO}, H b = some o → b ≠ l := fun h z => by rw [z, nl] at h; cases h
    have neF : ∀ {b : Addr} {o : HO}, H b = some o → b ≠ f := fun h z => by rw [z, nf0] at h; cases h
    have lenI : ∀ j, (nts (iters t x y q0 j)).length = j := fun j => by
      rw [nts_length]
      unfold iters
      rw [List.length_map, List.length_range]
    refine while_by (fun σ H' => ∃ (j : Nat) (v1 v2 : Option V) (kvs : List (Key × V)), σ = [some (.ref a), some (.str x), some (.int (q0 : Nat)), some (.str y), some (.int n), some (.ref l), some (.ref f), v1, v2] ∧ H' l = some (.lst (nts (iters t x y q0 (j + 1)))) ∧ H' f = some (.dK kvs) ∧ At t x y q0 (j + 1) kvs ∧ j ≤ n ∧ Same H H')
      (fun σ H' => match H' l with | some (.lst xs) => n + 1 - xs.length | _ => 0)
      ⟨0, none, none, _, rfl, by rw [upd_ne lf]; exact upd_same, upd_same, At.one, Nat.zero_le _, Same.new (Same.new (Same.refl H) nl) (by rw [upd_ne (Ne.symm lf)]; exact nf0)⟩ ?_ ?_
    · rintro σ H1 ⟨j, v1, v2, kvs, rfl, h1, h2, A, jn, s1⟩
      refine ⟨_, rfl, l, _, rfl, .inl (SqL.of h1), _, rfl, _, _, rfl, rfl, _, rfl, ?_⟩
      rw [lenI]
      refine ite2 (fun hle => ?_) (fun hle => ?_)
      · have hle : j + 1 ≤ n := by
          have := of_decide_eq_true hle
          omega
        refine ⟨_, rfl, _, rfl, _, rfl, _, rfl, l, _, -1, _, rfl, rfl, SqL.of h1, iters_last, _, rfl, a, x, y, iter t x y q0 j, t.length, m, t, us, rfl, sqt_same s1 ha, hT.same s1, tb, hx, m2, hw, il j, ?_⟩
        refine ⟨_, rfl, _, rfl, f, _, rfl, DGet.k (k := Sum.inl ((iter t x y q0 (j + 1) : Nat) : Int)) h2, _, rfl, ?_⟩
        have j4 := A.le i4
        cases e : valV kvs (Sum.inl ((iter t x y q0 (j + 1) : Nat) : Int) : Key) with
        | some v =>
          refine iteT ?_
          obtain ⟨i, ij, eq, rfl⟩ := A.only _ _ e
          have eq' : iter t x y q0 (j + 1) = iter t x y q0 i := by omega
          have G : DGet H1 f (.int ((iter t x y q0 (j + 1) : Nat) : Int)) (some (.int (i : Nat))) := by
            have g := DGet.k (k := Sum.inl ((iter t x y q0 (j + 1) : Nat) : Int)) h2
            rw [e] at g
            exact g
          refine ⟨_, rfl, _, rfl, f, _, rfl, G, ?_⟩
          have e1 : (i : Int) + ((n : Int) - (i : Int)) % ((j + 1 : Nat) - (i : Int)) = ((i + (n - i) % (j + 1 - i) : Nat) : Int) := by
            have c1 : (n : Int) - (i : Int) = ((n - i : Nat) : Int) := by omega
            have c2 : ((j + 1 : Nat) : Int) - (i : Int) = ((j + 1 - i : Nat) : Int) := by omega
            rw [c1, c2, ← Int.natCast_emod, ← Int.natCast_add]
          refine ⟨_, rfl, _, rfl, _, rfl, _, rfl, _, _, rfl, rfl, _, rfl, l, _, rfl, .inl (SqL.of h1), _, rfl, _, _, rfl, rfl, ?_⟩
          have lt : i + (n - i) % (j + 1 - i) < j + 1 := by
            have := Nat.mod_lt (n - i) (show 0 < j + 1 - i by omega)
            omega
          refine ⟨_, _, rfl, rfl, ?_, _, _, rfl, rfl, l, _, ((i + (n - i) % (j + 1 - i) : Nat) : Int), _, rfl, congrArg V.int ?_, SqL.of h1, iters_at lt, ?_⟩
          · show (0 : Int) < ((nts (iters t x y q0 (j + 1))).length : Int) - (i : Int)
            rw [lenI]
            omega
          · rw [lenI]
            exact e1
          · rw [iter_back ij eq' n hle]
            exact k H1 s1
        | none =>
          refine iteF ?_
          have A' := A.put e
          refine ⟨_, rfl, l, _, rfl, .inl (SqL.of h1), _, rfl, _, rfl, f, _, rfl, DPut.k (k := Sum.inl ((iter t x y q0 (j + 1) : Nat) : Int)) h2 (Nat.lt_of_le_of_lt (Nat.le_trans A.len j4) (by decide)), ?_⟩
          rw [lenI]
          have g1 : (upd H1 f (.dK (putK kvs (Sum.inl ((iter t x y q0 (j + 1) : Nat) : Int)) (.int ((j + 1 : Nat) : Int))))) l = some (.lst (nts (iters t x y q0 (j + 1)))) := by
            rw [upd_ne lf]
            exact h1
          refine ⟨_, rfl, .inl ⟨rfl, _, SqL.of g1⟩, _, rfl, l, _, _, rfl, rfl, g1, ?_, ⟨j + 1, _, _, _, rfl, ?_, ?_, A', hle, fun b' o h => ?_⟩, ?_⟩
          · rw [lenI]
            exact Nat.lt_of_le_of_lt j4 (by decide)
          · rw [upd_same]
            unfold nts iters
            rw [List.range_succ (n := j + 1), List.map_append, List.map_append]
            rfl
          · rw [upd_ne (Ne.symm lf)]
            exact upd_same
          · rw [upd_ne (neL h), upd_ne (neF h)]
            exact s1 _ _ h
          · show (match (upd _ l _) l with | some (.lst xs) => n + 1 - xs.length | _ => 0) < (match H1 l with | some (.lst xs) => n + 1 - xs.length | _ => 0)
            rw [h1, upd_same]
            show n + 1 - (nts (iters t x y q0 (j + 1)) ++ [V.int ((iter t x y q0 (j + 1) : Nat) : Int)]).length < n + 1 - (nts (iters t x y q0 (j + 1))).length
            rw [List.length_append, lenI]
            show n + 1 - (j + 1 + 1) < n + 1 - (j + 1)
            omega
      · have hle : ¬ j + 1 ≤ n := fun z => hle (decide_eq_true (by omega))
        have e : n = j := by omega
        exact ⟨_, rfl, _, rfl, l, _, _, _, rfl, rfl, SqL.of h1, iters_at (by omega), k H1 s1⟩
    · rintro σ H1 Q1 Q2 hq ⟨v1, hv1, p, ys, hp, hs, v2, hv2, i1, i2, c1, c2, b, hb, hh⟩
      exact ⟨v1, hv1, p, ys, hp, hs, v2, hv2, i1, i2, c1, c2, b, hb, hq _ _ hh⟩
end
end M3

set_option Elab.async false
set_option linter.all false
set_option maxRecDepth 100000
set_option maxHeartbeats 8000000
/-! # The methods of a machine: in, len, after, the fields -/
namespace M3
open PySem L2
theorem only_in {x y : Str} (h : only y x = true) : IsW x y := fun c hc => by
  unfold only at h
  exact of_decide_eq_true (List.all_eq_true.mp h c hc)
section
variable {P : Program} {w : World} {K : PySem.W.Frag} {mg : Str → Option Value} {base : Heap} {C : Addr}
end
end M3

set_option Elab.async false
set_option linter.all false
set_option maxRecDepth 100000
set_option maxHeartbeats 4000000
/-! # Own exceptions whose __init__ calls super's, over any built-in base -/
namespace PySem
namespace NvE
open PySem.W PySem.Calls PyProof.Rows
/-- the __init__ of a built-in exception class, as super() finds it -/
structure InF (B i : String) : Prop where
  entry : entryFor table i = some Builtin.«BaseException.__init__»
  kind : builtinKind i = some .slot
  row : Manifest.signature? i = some ⟨.positional, "*", B, .self, [⟨"args", .varPos, false⟩]⟩
  star : (B != "*") = true
  plain : plainId i = true
  kf : KxsFacts B i
theorem inF_of {B n i : String} {bm : List Value} (F : ExcBaseFacts B n i bm) (k : KxsFacts B i) : InF B i := ⟨F.initEntry, F.initKind, F.initRow, F.noStar, F.init.plain, k⟩
theorem kf_KeyError : KxsFacts "KeyError" "KeyError.__init__" :=
  ⟨by show builtinType _ = _; rw [builtinType_eq_fast]; kernel_rfl, by first | kernel_rfl | rfl⟩
theorem inF_KeyError : InF "KeyError" "KeyError.__init__" where
  entry := PyProof.Rows.excClass_KeyError.initEntry
  kind := by decide +kernel
  row := by kernel_rfl
  star := by decide
  plain := by decide +kernel
  kf := kf_KeyError
section
variable {prog : Program} {w : World} {M : Model} {A : Around} {E : Value → Shared → Prop} {h : Heap} {g : Array GenState} {d : Drawn} {t : Nat} {os : OsState}
variable {nm q : Str} {C N : Addr} {bs bm : List Value} {hdct : Bool} {sn : List Str} {sub : List Value} {ab : Bool} {col : Option Bool} {dd : Option Addr} {k0 k1 k2 k3 k5 : Option Value} {B newId i : String}
theorem bound_ok (F : InF B i) {e : Addr} {oe : Obj} {rest : List Value} {Q : Unit → Shared → Prop}
    (hC : h.get? C = some (excClassObj nm q C N bs bm hdct sn sub ab col dd k0 k1 k2 k3 k5 newId)) (he : h.get? e = some oe) (hcls : oe.cls = .ref C)
    (hq : Q () ⟨h, g, d, t, os⟩) : wpAny M A (checkBoundCall i ⟨.ref e :: rest, []⟩) Q E ⟨h, g, d, t, os⟩ := by
  have hs := F.star
  simp only [checkBoundCall, F.kind, F.row]
  repeat (first
    | (with_reducible refine wpAny_loadPart_at he ?_; rw [hcls])
    | with_reducible refine wpAny_loadPart_at hC ?_
    | wp_step)
  refine wpAny_onRaise ?_
  have z : ∀ (a b : String) (n : Nat), Bind.check ⟨.positional, "*", B, .self, [⟨"args", .varPos, false⟩]⟩ a b n (List.map (fun x => x.fst) ({ pos := Value.ref e :: rest } : Args).kw) = pure () :=
    fun a b n => check_star_args _ _ _ _ _ _
  rw [z]
  exact wpAny_pure hq
/-- the bound built-in __init__ is called: the args are laid anew -/
theorem call_mw (F : InF B i) {u e t0 : Addr} {rest : List Value} {Q : Value → Shared → Prop}
    (hC : h.get? C = some (excClassObj nm q C N bs bm hdct sn sub ab col dd k0 k1 k2 k3 k5 newId)) (he : h.get? e = some (HandSPX.excO C t0)) (hu : h.get? u = some (kxs_mw i e)) (hz : rest.length ≤ sizeLine)
    (hq : ∀ h' t1, (∀ b o, b ≠ e → h.get? b = some o → h'.get? b = some o) → h'.get? e = some (HandSPX.excO C t1) → Q .none ⟨h', g, d, t, os⟩) :
    wpAny (model prog w) A (call (.ref u) rest) Q E ⟨h, g, d, t, os⟩ := by
  refine wpAny_call (codeAny_of_tree ?_)
  show wpAny _ A.in1 (callAny (.ref u) ⟨rest, []⟩) _ _ _
  simp only [callAny]
  refine wpAny_bind (wpAny_load hu ?_)
  have yes : (Value.type "method-wrapper" == Value.type "method" || Value.type "method-wrapper" == Value.type "builtin_function_or_method" || Value.type "method-wrapper" == Value.type "method-wrapper") = true := by decide
  simp only [kxs_mw, yes, if_true]
  refine KFB.if_so (by decide) ?_
  refine wpAny_bind (bound_ok F hC he rfl ?_)
  refine wpAny_bind (wpAny_pure (wpAny_pure ?_))
  refine ⟨plainId_quiet F.plain _, codeAny_builtin F.entry ?_⟩
  refine exc_init_tree (cls := .ref C) (t0 := t0) (dv := none) (c2 := .none) (c3 := .none) (b4 := .bool false) he hz fun h' k e' _ => ?_
  exact hq h' _ k e'
end
/-! ### the text of such an __init__ -/
/-- what the chain of bases says, as the making asks it -/
structure NewOk (bm : List Value) (B : String) : Prop where
  hasB : bm.contains (.type B) = true
  noA : bm.contains (.type "AttributeError") = false
  noN : bm.contains (.type "NameError") = false
def iArgs (f : String) (p1 p2 : Pos) : Arguments :=
  { posonlyargs := [], args := [{ arg := "self", annotation := none, pos := p1 }, { arg := Str.ofString f, annotation := none, pos := p2 }], vararg := none, kwonlyargs := [], kw_defaults := [], kwarg := none, defaults := [] }
def iBody (f : String) (msg : Str) (j : Nat) (p0 p1 p2 p3 p4 p5 q1 q2 q3 q4 : Pos) : List Stmt :=
  [.Expr (.Call (.Attribute (.Call (.Name "super" p0) [] [] p1) "__init__" p2) [.Constant (.str msg) j p3] [] p4) p5,
   .Assign [.Attribute (.Name "self" q1) (Str.ofString f) q2] (.Name (Str.ofString f) q3) q4]
def iScope (f : String) : Scope :=
  { kind := .function, names := [("self", .local), (Str.ofString f, .local), ("__class__", .free), ("super", .globalImplicit)], isGenerator := false, isCoroutine := false, more := [] }
/-- how super().__init__(msg) is evaluated: a method's call (it hangs on the places alone) -/
def EvOk (env : Env) (msg : Str) (j : Nat) (a0 a1 a2 a3 a4 : Pos) : Prop := ∃ pl : Sem Bool,
  eval (.Call (.Attribute (.Call (.Name "super" a0) [] [] a1) "__init__" a2) [.Constant (.str msg) j a3] [] a4) env = (do
    let ov ← attributeBase (.Call (.Name "super" a0) [] [] a1) "__init__" env (eval (.Call (.Name "super" a0) [] [] a1) env)
    standAt a2.atName
    let (f, first) ← holding [ov] (getMethod ov "__init__" pl)
    callWith a4 f first (backTo a4 (starEach [.Constant (.str msg) j a3] env)) [])
/-- what the written part says of such a class at C, its __init__ at fI -/
structure InitTxt (prog : Program) (K : Frag) (C fI : Addr) (B i B0 newId : String) (f : String) (qual : Str) : Prop where
  fn : ∃ (oc : Value) (od : Option Addr) (doc pm : Value) (an : Option Addr) (cda : Addr) (ct : Value) (cc : Addr) (osl : Array (Option Value)) (msg : Str) (j : Nat) (p1 p2 a0 a1 a2 a3 a4 a5 q1 q2 q3 q4 : Pos),
    K.lookup fI = some ⟨oc, od, .func (ksFn "__init__" qual (iArgs f p1 p2) (iBody f msg j a0 a1 a2 a3 a4 a5 q1 q2 q3 q4) (iScope f) .none .none doc pm an (.ref cda) ct cc), osl⟩ ∧ codeIn K (.ref cda) qual = true ∧
    (∃ (ccl : Value) (cdd : Option Addr) (vs : Array Value) (ccs : Array (Option Value)) (file : Str) (tf : Tok), K.lookup cda = some ⟨ccl, cdd, .fields vs, ccs⟩ ∧ vs[2]? = some (.str file tf) ∧ ((prog.main.file : Str) == file) = true) ∧
    (∃ (cl : Value) (cld : Option Addr) (csl : Array (Option Value)), K.lookup cc = some ⟨cl, cld, .cell (some (.ref C)), csl⟩) ∧ (∀ L a cd c2, EvOk (ksEnv qual (iScope f) L a cd c2) msg j a0 a1 a2 a3 a4)
  cls : ∃ nm q N bs bm sn sub ab col dd k0 k1 k2 k3 k5, K.lookup C = some (excClassObj nm q C N bs bm true sn sub ab col dd k0 k1 k2 k3 k5 newId) ∧ (∀ self, refuseLoop self "__setattr__" (.ref C :: bm) = pure ()) ∧ bm.contains (.type "object") = true ∧ NewOk bm B0
  newF : ∃ i0 bmB, ExcBaseFacts B0 newId i0 bmB
  iC : findIn K (.ref C) "__init__" = some (some (.ref fI))
  tI : typeIn K (.ref fI) = some (.type "function")
  self : mroIn K C (.ref C) = some true
  up : ks_superIn K C C "__init__" = some (some (.builtin i))
  isB : subIn K (.ref C) (.type B) = some true
  stat : nsIn K cStatics "thirdparty.any" = some none
  sa : findIn K (.ref C) "__setattr__" = some (some (.builtin "object.__setattr__"))
  noF : findIn K (.ref C) (Str.ofString f) = some none
  inF : InF B i
  sup : nsIn K mainGlobals "super" = some none
  top : (prog.main.scope.names.lookup ("super" : Str)).isSome = false
  fs : (Str.ofString f == ("self" : Str)) = false
  fsup : (iScope f).names.lookup ("super" : Str) = some .globalImplicit
  fcl : (iScope f).names.lookup ("__class__" : Str) = some .free
  ff : (iScope f).names.lookup (Str.ofString f) = some .local
  fdb : (Str.ofString f == ("__debug__" : Str)) = false
  ncell : ∀ x ∈ (iScope f).names, x.2 ≠ .cell
  bd : ∀ (b : List Stmt) (doc pm ct cv : Value) (an : Option Addr) (cc : Addr) (p1 p2 : Pos) (x v : Value), bindArgs (ksFn "__init__" qual (iArgs f p1 p2) b (iScope f) .none .none doc pm an cv ct cc) ⟨[x, v], []⟩ = pure [(("self" : Str), x), (Str.ofString f, v)]
section
open Builtin Builtin.ObjectAttr
variable {prog : Program} {w : World} {A : Around} {E : Value → Shared → Prop} {R : Result → Shared → Prop} {hp : Heap} {g : Array GenState} {d : Drawn} {t : Nat} {os : OsState}
/-- self.name = v on an exception that has no dict yet, whatever its bases -/
theorem osa_any {K : Frag} {name : Str} {tk : Tok} {v : Value} {x C : Addr} {fv : Array Value} {cd : ClassData}
    (X : K.In hp) (hx : hp.get? x = some { cls := .ref C, data := .fields fv }) (hcd : clsIn K C = some cd) (hp0 : refuseLoop (.ref x) "__setattr__" cd.mro = pure ()) (hob : cd.mro.contains (.type "object") = true) (hne : cd.mro.isEmpty = false)
    (hh : cd.hasDict = true) (ha : findIn K (.ref C) name = some none)
    (hq : ∀ h' tk' dx, (∀ b o, b ≠ x → hp.get? b = some o → h'.get? b = some o) → hp.objs.size ≤ dx → dx ≠ x → h'.get? x = some { cls := .ref C, dict := some dx, data := .fields fv } →
      h'.Ns1 dx (fun y => if y = name then some v else none) → R (.ok (.ret .none)) ⟨h', g, d, tk', os⟩) :
    codeAny (model prog w) A (.call (.builtin "object.__setattr__") ⟨[.ref x, .str name tk, v], []⟩) R ⟨hp, g, d, t, os⟩ := by
  have I : InstAt hp x { cls := .ref C, data := .fields fv } C none := ⟨hx, rfl, rfl, trivial⟩
  have SF := F.store_object
  have hxs : x ≠ hp.objs.size := Nat.ne_of_lt (Heap.lt_size hx)
  have hm0 : mroIn K C (.type "object") = some true := by
    unfold mroIn
    rw [hcd, Option.bind_some, if_neg (by rw [hne]; decide), hob]
  have sub : Looks (model prog w) hp (isInstance (.ref x) (.type "object")) true := I.type.andThen (looks_mroIn X hm0)
  refine codeAny_call_builtin SF.slot.plain SF.entry (@check_slot (model prog w) _ _ ⟨hp, g, d, t, os⟩ "object.__setattr__" "object" "__setattr__" (.ref x) [.str name tk, v] [] _ SF.kind SF.split sub (SF.args (.ref x) (.str name tk) v) ?_)
  have hmr : Looks (model prog w) hp (mroOf (.ref C)) cd.mro := (looks_clsIn X hcd).andThen .now
  have L3 : Looks (model prog w) hp (storeTaker? none) none := .now
  have hcls : Looks (model prog w) hp (classData C) cd := looks_clsIn X hcd
  rw [osa_eq, refuse_eq]
  refine wpAny_bind (wpAny_bind (I.type.at (wpAny_bind (hmr.at ?_))))
  rw [hp0]
  refine wpAny_pure (wpAny_bind (I.type.at (wpAny_bind ((looks_findIn X ha).at (wpAny_bind (L3.at ?_))))))
  show wpAny _ _ (storeInOwnDict (.ref x) (.ref C) (.str name tk) name v false) _ _ _
  obtain ⟨nm, bs, mro, ns, qn, hd, sn, sb, ab, col, del⟩ := cd
  dsimp only at hh
  subst hh
  unfold storeInOwnDict ownDictForStores
  repeat (first
    | with_reducible refine HandSPX.store_in_new ?_ ?_
    | with_reducible refine wpAny_loadPart_at hx ?_
    | with_reducible refine hcls.at ?_
    | wp_step)
  · exact ⟨_, #[], _, (Heap.get?_update_ne _ _ _ _ hxs.symm).trans (Heap.get?_push_at rfl rfl), rfl, fun e he => absurd he (by simp), fun _ => rfl⟩
  · intro h' tk' hn' hs
    have hx₁ : (hp.push { cls := .type "dict", data := .dict #[] }).get? x = some { cls := .ref C, data := .fields fv } := Heap.get?_push_of_some _ hx
    refine hq h' tk' hp.objs.size (fun b o hb ho => ?_) (Nat.le_refl _) hxs.symm ?_ hn'
    · exact (hs.2 b (Nat.ne_of_lt (Heap.lt_size ho))).trans ((Heap.get?_update_ne _ _ _ _ hb).trans (Heap.get?_push_of_some _ ho))
    · exact (hs.2 x hxs).trans (Heap.get?_update_self _ hx₁ rfl)
end
section
variable {prog : Program} {w : World} {A : Around} {E : Value → Shared → Prop} {R : Result → Shared → Prop} {s : Shared} {K : Frag} {C fI : Addr} {B i B0 newId : String} {f : String} {qual : Str} {mg : Str → Option Value}
theorem init_super (T : InitTxt prog K C fI B i B0 newId f qual) {x t0 : Addr} {v : Value} (X : K.In s.heap) (G : s.heap.Ns mainGlobals mg) (BB : ∃ mb, s.heap.Ns builtinsNs mb ∧ ∀ y : Str, y ≠ "__name__" → mb y = bootBuiltins y) (hlim : s.heap.NoLimit)
    (hx : s.heap.get? x = some (HandSPX.excO C t0)) (hnK : K.lookup x = none) (room : A.depth < recursionLimit)
    (hq : ∀ h' tk dx t1, (∀ b o, b ≠ x → s.heap.get? b = some o → h'.get? b = some o) → s.heap.objs.size ≤ dx → dx ≠ x →
      h'.get? x = some { cls := .ref C, dict := some dx, data := .fields #[.ref t1, .none, .none, .none, .bool false, .none] } → h'.Ns1 dx (fun y => if y = Str.ofString f then some v else none) → R (.ok (.ret .none)) { s with heap := h', toks := tk }) :
    codeAny (model prog w) A (.call (.ref fI) ⟨[.ref x, v], []⟩) R s := by
  obtain ⟨oc, od, doc, pm, an, cda, ct, cc, osl, msg, j, p1, p2, a0, a1, a2, a3, a4, a5, q1, q2, q3, q4, lk, hcq, ⟨ccl, cdd, vs, ccs, file, tf, lcd, hvs, hfile⟩, ⟨cl, cld, csl, lcc⟩, hev⟩ := T.fn
  obtain ⟨nm, q, N, bs, bm, sn, sub, ab, col, dd, k0, k1, k2, k3, k5, hC, hpass, hob, _⟩ := T.cls
  have hnx : x ≠ C := fun z => by
    have e := X _ _ hC
    rw [← z, hx] at e
    cases e
  have hcl : clsIn K C = some { name := nm, bases := bs, mro := .ref C :: bm, ns := N, qualname := q, hasDict := true, slotNames := sn, subclasses := sub, abstract := ab, collection := col, hasDel := false } := by
    unfold clsIn
    rw [hC] <;> rfl
  have hself : (iScope f).names.lookup ("self" : Str) = some .local := by
    unfold iScope
    rfl
  have ls : List.lookup ("self" : Str) ([(("self" : Str), Value.ref x), (Str.ofString f, v)].reverse) = some (.ref x) := by
    show List.lookup ("self" : Str) [(Str.ofString f, v), (("self" : Str), Value.ref x)] = _
    have e : (("self" : Str) == Str.ofString f) = false := by
      have z := T.fs
      rw [beq_eq_false_iff_ne] at z ⊢
      exact fun y => z y.symm
    simp [List.lookup, e]
  have lf : List.lookup (Str.ofString f) ([(("self" : Str), Value.ref x), (Str.ofString f, v)].reverse) = some v := by
    show List.lookup (Str.ofString f) [(Str.ofString f, v), (("self" : Str), Value.ref x)] = _
    simp [List.lookup]
  refine ks_codeAny_call_defAt (binds := [(("self" : Str), .ref x), (Str.ofString f, v)]) room (X _ _ lk) rfl hlim (codeRec_of X hcq) rfl (BindsTo.of_eq (T.bd _ _ _ _ _ _ _ _ _ _ _)) T.ncell (fun y hy => ?_) (fun h₁ hns hk₁ => ?_)
  · rcases List.mem_cons.mp hy with e | hy
    · rw [e]
      exact hself
    · rcases List.mem_cons.mp hy with e | hy
      · rw [e]
        exact T.ff
      · cases hy
  · have X₁ : K.In h₁ := X.keeps hk₁
    have hx₁ := hk₁ _ _ hx
    have hC₁ := X₁ _ _ hC
    show _root_.PySem.wpAt (model prog w) (A.deeper (ksEnv qual (iScope f) s.heap.objs.size fI (.ref cda) cc)) (.func (iBody f msg j a0 a1 a2 a3 a4 a5 q1 q2 q3 q4) (ksEnv qual (iScope f) s.heap.objs.size fI (.ref cda) cc))
      (execs (iBody f msg j a0 a1 a2 a3 a4 a5 q1 q2 q3 q4) (ksEnv qual (iScope f) s.heap.objs.size fI (.ref cda) cc)) _ _ _
    obtain ⟨pl, hev⟩ := hev s.heap.objs.size fI (.ref cda) cc
    refine ks_wpAt_execs_cons (ks_wpAt_Expr_any (ks_wpAt_MethodCall (pl := pl) ?_ hev))
    refine ks_wpAt_super_base (env := ksEnv qual (iScope f) s.heap.objs.size fI (.ref cda) cc) T.fsup T.fcl (by decide) rfl (X₁ _ _ lk) rfl rfl rfl (X₁ _ _ lcd) rfl hvs hfile T.top ?_
    obtain ⟨mb, hb, hbb⟩ := BB
    have hsup : mg "super" = none := mg_none_of X G T.sup
    refine ks_loadName_global rfl T.fsup (loadGlobal_builtin (env := ksEnv qual (iScope f) s.heap.objs.size fI (.ref cda) cc) (G.keeps hk₁) hsup (hb.keeps hk₁) ((hbb _ (by decide +kernel)).trans (by decide +kernel)) ⟨rfl, ?_⟩)
    refine wpAny_loadName_free rfl T.fcl rfl ⟨_, X₁ _ _ lcc, rfl⟩ ?_
    refine wpAny_loadName_local rfl hself hns ls ?_
    refine ks_wpAny_isType_cls hC₁ rfl ⟨rfl, ?_⟩
    refine ks_wpAny_call_super hC₁ rfl hx₁ rfl (fun c e => nomatch e) (looks_mroIn X₁ T.self) (fun h₂ e₂ k₂ => ?_)
    have X₂ : K.In h₂ := X₁.keeps k₂
    have hx₂ := k₂ _ _ hx₁
    have I₂ : InstAt h₂ x (HandSPX.excO C t0) C none := ⟨hx₂, rfl, rfl, trivial⟩
    have hm := T.up
    unfold ks_superIn at hm
    rw [hcl] at hm
    refine kxs_getMethod T.inF.kf e₂ (looks_opaque X₂ T.stat) (l₀ := .ref C :: bm) ?_ rfl X₂ hm (I₂.type.andThen (looks_subIn X₂ T.isB)) hnx (by decide) ?_
    · exact (looks_clsIn X₂ hcl).andThen .now
    · have k₃ : ∀ b o, h₂.get? b = some o → (h₂.push (kxs_mw i x)).get? b = some o := fun b o e => Heap.get?_push_of_some _ e
      have hu : (h₂.push (kxs_mw i x)).get? h₂.objs.size = some (kxs_mw i x) := Heap.get?_push_at rfl rfl
      have hC₃ := k₃ _ _ (X₂ _ _ hC)
      have hx₃ := k₃ _ _ hx₂
      refine kxs_callWith (i := i) (x := x) rfl (evalArgs_plain ?_)
      show wpAny _ _ (spliced ((false, eval (.Constant (.str msg) j a3) _) :: backTo a4 (starEach [] _))) _ _ _
      refine Calls.spliced_cons (wpAny_Constant_str (Calls.spliced_nil ⟨hu, ?_⟩))
      refine call_mw T.inF hC₃ hx₃ hu (by show 1 ≤ sizeLine; rw [sizeLine_eq]; omega) (fun h₄ t1 k₄ hx₄ => ?_)
      refine wpAt_of_wpAny (wpAny_execs_cons (plainObj_wpAny_Assign_Attribute ?_))
      have hLx : s.heap.objs.size ≠ x := Nat.ne_of_gt (Heap.lt_size hx)
      have hns₄ : h₄.Ns s.heap.objs.size (fun y => List.lookup y ([(("self" : Str), Value.ref x), (Str.ofString f, v)].reverse)) := by
        obtain ⟨oL, es, ep, hL, r⟩ := hns
        exact ⟨oL, es, ep, k₄ _ _ hLx (k₃ _ _ (k₂ _ _ hL)), r⟩
      have X₄ : K.In h₄ := fun b o e => by
        by_cases hb : b = x
        · rw [hb, hnK] at e
          cases e
        · exact k₄ _ _ hb (k₃ _ _ (X₂ _ _ e))
      refine wpAny_Name (wpAny_loadName_local rfl T.ff hns₄ lf ?_) T.fdb
      refine wpAny_Name (wpAny_loadName_local rfl hself hns₄ ls ?_) (by decide)
      refine set_plain X₄ (ox := HandSPX.excO C t1) (od := none) ⟨hx₄, rfl, rfl, trivial⟩ T.sa ?_
      refine osa_any X₄ hx₄ hcl (hpass _) (by rw [List.contains_cons, hob, Bool.or_true]) rfl rfl T.noF (fun h₅ tk₅ dx k₅ dn dne hx₅ hn₅ => ?_)
      show wpAny _ _ (execs _ _) _ _ _
      refine wpAny_execs_nil ?_
      have z : s.heap.objs.size ≤ h₄.objs.size := Nat.le_of_lt hns₄.lt
      exact hq h₅ tk₅ dx t1 (fun b o hb e => k₅ b o hb (k₄ b o hb (k₃ _ _ (k₂ _ _ (hk₁ b o e))))) (Nat.le_trans z dn) dne hx₅ hn₅
/-- C(v): what is left of the call of such a class -/
structure ExMade (h h' : Heap) (e C d : Addr) (f : String) (v : Value) : Prop where
  keep : ∀ b o, h.get? b = some o → h'.get? b = some o
  new : h.objs.size ≤ e
  obj : ∃ t1 : Addr, h'.get? e = some ({ cls := .ref C, dict := some d, data := .fields #[.ref t1, .none, .none, .none, .bool false, .none] } : Obj)
  dbig : h.objs.size ≤ d
  dne : d ≠ e
  ns : h'.Ns1 d (fun y => if y = Str.ofString f then some v else none)
end
section
variable {prog : Program} {w : World} {M : Model} {A : Around} {E : Value → Shared → Prop} {R : Result → Shared → Prop} {h : Heap} {g : Array GenState} {d : Drawn} {t : Nat} {os : OsState}
variable {nm q : Str} {C N : Addr} {bs bm bmB : List Value} {hdct : Bool} {sn : List Str} {sub : List Value} {ab : Bool} {col : Option Bool} {dd : Option Addr} {k0 k1 k2 k3 k5 : Option Value} {B newId initId : String}
theorem chk_new (F : ExcBaseFacts B newId initId bmB) (O : NewOk bm B) {rest : List Value} {Q : Unit → Shared → Prop}
    (hC : h.get? C = some (excClassObj nm q C N bs bm hdct sn sub ab col dd k0 k1 k2 k3 k5 newId)) (hq : Q () ⟨h, g, d, t, os⟩) :
    wpAny M A (checkBuiltinCall newId ⟨.ref C :: rest, []⟩) Q E ⟨h, g, d, t, os⟩ := by
  have hcont : (Value.ref C :: bm).contains (.type B) = true := by rw [List.contains_cons, O.hasB, Bool.or_true]
  have hs := F.noStar
  simp only [checkBuiltinCall, F.newKind, F.newSplit, F.newRow]
  repeat (first
    | refine wpAny_loadPart_at hC ?_
    | (refine wpAny_isSubtype_exc hC ?_; rw [hcont])
    | refine wpAny_staticBase_exc hC ?_
    | refine wpAny_madeBy_exc hC ?_
    | simp only [bne_self_eq_false, Bool.false_eq_true, if_false]
    | wp_step)
  exact hq
theorem new_any (F : ExcBaseFacts B newId initId bmB) (O : NewOk bm B) {rest : List Value}
    (hC : h.get? C = some (excClassObj nm q C N bs bm hdct sn sub ab col dd k0 k1 k2 k3 k5 newId))
    (hq : R (.ok (.ret (.ref (h.objs.size + 1)))) ⟨(h.push (kdv_tup rest)).push (HandSPX.excO C h.objs.size), g, d, t, os⟩) (hrest : rest.length ≤ sizeLine) :
    codeAny (model prog w) A (.builtin newId ⟨.ref C :: rest, []⟩) R ⟨h, g, d, t, os⟩ := by
  have hends := F.ends
  have hcB : (Value.ref C :: bm).contains (.type B) = true := by rw [List.contains_cons, O.hasB, Bool.or_true]
  have hcA : (Value.ref C :: bm).contains (.type "AttributeError") = false := by rw [List.contains_cons, O.noA]; rfl
  have hcN : (Value.ref C :: bm).contains (.type "NameError") = false := by rw [List.contains_cons, O.noN]; rfl
  refine codeAny_builtinAt F.entry ?_
  unfold Builtin.«BaseException.__new__»
  refine wpAt_bind ?_
  show wpAt _ _ _ (stack >>= _) _ _ _
  refine wpAt_bind (wpAt_stack fun p below => wpAt_of_wpAny ?_)
  wp_walk
  refine wpAt_of_wpAny ?_
  rw [F.owner]
  repeat (first
    | with_reducible refine wpAny_madeHere_exc F.canon hC ?_
    | with_reducible refine wpAny_loadPart_at hC ?_
    | (with_reducible refine wpAny_isSubtype_exc hC ?_; first | rw [hcB] | rw [hcA] | rw [hcN])
    | wp_step)
  show R _ _
  rw [Heap.size_push]
  exact hq
theorem type_any (F : ExcBaseFacts B newId initId bmB) (O : NewOk bm B) {rest : List Value} {fI : Addr} {Q : Fin → Shared → Prop}
    (hC : h.get? C = some (excClassObj nm q C N bs bm hdct sn sub ab col dd k0 k1 k2 k3 k5 newId))
    (hi : Looks (model prog w) h (typeLookup (.ref C) "__init__") (some (.ref fI))) (hb : ∀ self, Looks (model prog w) h (bindSpecial (.ref fI) self) (.ref fI, [self])) (hrest : rest.length ≤ sizeLine)
    (hq : codeAny (model prog w) A (.call (.ref fI) ⟨.ref (h.objs.size + 1) :: rest, []⟩)
      (fun r s' => match r with
        | .ok (.ret v) => v = .none ∧ Q (.done (.ret (.ref (h.objs.size + 1)))) s'
        | .ok _ => False
        | .error e => E e s') ⟨(h.push (kdv_tup rest)).push (HandSPX.excO C h.objs.size), g, d, t, os⟩) :
    wpAny (model prog w) A (Builtin.«type.__call__» ⟨.ref C :: rest, []⟩) Q E ⟨h, g, d, t, os⟩ := by
  repeat (first
    | with_reducible refine wpAny_loadPart_at hC ?_
    | with_reducible refine wpAny_madeBy_exc hC ?_
    | wp_step)
  refine codeAny_call_builtin_code (Code.quiet_builtin _ F.quiet) (chk_new F O hC ?_)
  refine new_any F O hC ?_ hrest
  show wpAny _ _ _ _ _ _
  have k : ∀ b o, h.get? b = some o → ((h.push (kdv_tup rest)).push (HandSPX.excO C h.objs.size)).get? b = some o := fun b o e => Heap.get?_push_of_some _ (Heap.get?_push_of_some _ e)
  have hC₁ := k _ _ hC
  have hget : ((h.push (kdv_tup rest)).push (HandSPX.excO C h.objs.size)).get? (h.objs.size + 1) = some (HandSPX.excO C h.objs.size) := by heap_get
  have hcC : (Value.ref C :: bm).contains (.ref C) = true := by simp
  have i1 := hi.keeps k
  have b1 := (hb (.ref (h.objs.size + 1))).keeps k
  unfold isInstance
  repeat (first
    | with_reducible refine wpAny_loadPart_at hget ?_
    | (with_reducible refine wpAny_isSubtype_exc hC₁ ?_; rw [hcC])
    | wp_step)
  show wpAny _ _ (typeLookup (.ref C) _) _ _ _
  refine i1.at ?_
  refine wpAny_holding (wpAny_bind (b1.at ?_))
  refine wpAny_bind (wpAny_call (codeAny_mono hq fun r s' z => ?_))
  rcases r with e | (v | _ | _ | _) <;> first | exact z | exact z.elim | skip
  obtain ⟨rfl, z⟩ := z
  first
    | exact wpAny_pure (wpAny_pure z)
    | (wp_walk; exact z)
theorem call_any (F : ExcBaseFacts B newId initId bmB) (O : NewOk bm B) {rest : List Value} {fI : Addr}
    (hC : h.get? C = some (excClassObj nm q C N bs bm hdct sn sub ab col dd k0 k1 k2 k3 k5 newId))
    (hi : Looks (model prog w) h (typeLookup (.ref C) "__init__") (some (.ref fI))) (hb : ∀ self, Looks (model prog w) h (bindSpecial (.ref fI) self) (.ref fI, [self])) (hrest : rest.length ≤ sizeLine)
    (hq : codeAny (model prog w) (A.under (.builtin "type.__call__" ⟨.ref C :: rest, []⟩)) (.call (.ref fI) ⟨.ref (h.objs.size + 1) :: rest, []⟩) (InitBack (h.objs.size + 1) R)
      ⟨(h.push (kdv_tup rest)).push (HandSPX.excO C h.objs.size), g, d, t, os⟩) :
    codeAny (model prog w) A (.call (.ref C) ⟨rest, []⟩) R ⟨h, g, d, t, os⟩ := by
  have f1 := tc_lookup
  have f2 := tc_bind (.ref C)
  have hTy : (⟨h, g, d, t, os⟩ : Shared).TypeIs (.ref C) "type" := ⟨_, hC, rfl⟩
  refine codeAny_of_tree ?_
  show wpAny _ _ (callAny (.ref C) _) _ _ _
  repeat (any_goals (first | assumption | with_reducible refine wpAny_loadPart_at hC ?_ | wp_step))
  refine ⟨rfl, ?_⟩
  refine codeAny_call_builtin_at (Code.quiet_builtin _ (by decide +kernel)) entry_typeCall (wpAny_check_type_call_sub hC (type_any F O hC hi hb hrest ?_))
  refine codeAny_mono hq fun r s' z => ?_
  rcases r with e | (v | _ | _ | _) <;> exact z
end
section
variable {prog : Program} {w : World} {A : Around} {R : Result → Shared → Prop} {s : Shared} {K : Frag} {C fI : Addr} {B i B0 newId : String} {f : String} {qual : Str} {mg : Str → Option Value}
theorem one_ok (v : Value) : [v].length ≤ sizeLine := by
  show 1 ≤ sizeLine
  rw [sizeLine_eq]
  omega
theorem made (T : InitTxt prog K C fI B i B0 newId f qual) {v : Value} (X : K.In s.heap) (G : s.heap.Ns mainGlobals mg) (BB : ∃ mb, s.heap.Ns builtinsNs mb ∧ ∀ y : Str, y ≠ "__name__" → mb y = bootBuiltins y) (hlim : s.heap.NoLimit)
    (room : A.depth + 1 < recursionLimit) (hq : ∀ h' tk e d, ExMade s.heap h' e C d f v → R (.ok (.ret (.ref e))) { s with heap := h', toks := tk }) :
    codeAny (model prog w) A (.call (.ref C) ⟨[v], []⟩) R s := by
  obtain ⟨nm, q, N, bs, bm, sn, sub, ab, col, dd, k0, k1, k2, k3, k5, hC, _, _, O⟩ := T.cls
  obtain ⟨i0, bmB, FB⟩ := T.newF
  obtain ⟨hp, g, dr, tk, os⟩ := s
  have k : ∀ b o, hp.get? b = some o → ((hp.push (kdv_tup [v])).push (HandSPX.excO C hp.objs.size)).get? b = some o := fun b o e => Heap.get?_push_of_some _ (Heap.get?_push_of_some _ e)
  have hget : ((hp.push (kdv_tup [v])).push (HandSPX.excO C hp.objs.size)).get? (hp.objs.size + 1) = some (HandSPX.excO C hp.objs.size) := by heap_get
  have hnK : K.lookup (hp.objs.size + 1) = none := by
    cases e : K.lookup (hp.objs.size + 1) with
    | none => rfl
    | some o =>
      have z : hp.get? (hp.objs.size + 1) = some o := X _ _ e
      exact absurd (Nat.lt_of_succ_lt (Heap.lt_size z)) (Nat.lt_irrefl _)
  refine call_any FB O (X _ _ hC) (looks_findIn X T.iC) (fun self => bind_fn X self T.tI) (one_ok v) ?_
  refine init_super (s := ⟨(hp.push (kdv_tup [v])).push (HandSPX.excO C hp.objs.size), g, dr, tk, os⟩) T (X.keeps k) (G.keeps k) (let ⟨mb, h1, h2⟩ := BB; ⟨mb, h1.keeps k, h2⟩) (hlim.keeps k) hget hnK ?_ fun h' tk' dx t1 k' dn dne hx hns => ?_
  · show A.depth + 1 < recursionLimit
    exact room
  · have old : ∀ b o, hp.get? b = some o → h'.get? b = some o := fun b o e => k' b o (Nat.ne_of_lt (Nat.lt_succ_of_lt (Heap.lt_size e))) (k b o e)
    have z : hp.objs.size + 1 + 1 ≤ dx := by
      have q := dn
      rw [Heap.size_push, Heap.size_push] at q
      exact q
    exact ⟨rfl, hq h' tk' (hp.objs.size + 1) dx ⟨old, Nat.le_succ _, ⟨t1, hx⟩, Nat.le_trans (Nat.le_trans (Nat.le_succ _) (Nat.le_succ _)) z, dne, hns⟩⟩
end
end NvE
end PySem

set_option Elab.async false
set_option linter.all false
set_option maxRecDepth 100000
set_option maxHeartbeats 4000000
/-! # Rules over the hand layer: such exceptions raised, held as values, asked for their class and their fields -/
namespace L2
open PySem PySem.Spec PyProof.Rows
theorem relO_one {f : Str} {v : V} {u : Value} (r : RelV v u) (y : Str) : RelO (List.lookup y [(f, v)]) (if y = f then some u else none) := by
  by_cases h : y = f
  · subst h
    rw [if_pos rfl]
    have q : List.lookup y [(y, v)] = some v := by simp [List.lookup]
    rw [q]
    exact r
  · rw [if_neg h]
    have e : (y == f) = false := by simpa using h
    have q : List.lookup y [(f, v)] = none := by simp [List.lookup, e]
    rw [q]
    trivial
section
variable {X : Cx} {C fI : Addr} {B i B0 newId : String} {f : String} {qual : Str}
/-- what the rules ask of the class x at C, whose __init__ keeps its argument in the field f -/
structure KeepC (X : Cx) (x : Str) (C : Addr) (f : String) : Prop where
  tx : ∃ (fI : Addr) (B i B0 newId : String) (qual : Str), PySem.NvE.InitTxt X.prog X.K C fI B i B0 newId f qual
  gC : X.mg x = some (.ref C)
  kC : PySem.W.keepIn X.K (.ref C) = true
  exC : PySem.W.subIn X.K (.ref C) (.type "BaseException") = some true
  tyC : PySem.W.typeIn X.K (.ref C) = some (.type "type")
theorem call_keep {x : Str} {f : String} (T : KeepC X x C f) {pins : List (Addr × Obj)} {σ : St} {H : Hp} {s : Shared} {u : Value} {Q : Value → Shared → Prop} {E : Value → Shared → Prop} (I : Inv X pins σ H s) (room : X.A.depth + 1 < recursionLimit)
    (hq : ∀ h' tk e d, PySem.NvE.ExMade s.heap h' e C d f u → Q (.ref e) { s with heap := h', toks := tk }) : wpAny (model X.prog X.w) X.A (call (.ref C) [u]) Q E s := by
  obtain ⟨fI, B, i, B0, newId, qual, T0⟩ := T.tx
  refine wpAny_call (PySem.NvE.made T0 I.kIn (I.mod.glob.keeps I.bk) (let ⟨mb, h1, h2⟩ := I.mod.blt; ⟨mb, h1.keeps I.bk, h2⟩) I.nolimit room fun h' tk e d M => ?_)
  exact hq h' tk e d M
/-- X(e), to be raised -/
def tMkKeep (C : Addr) (f : String) (ta : TA) : St → Hp → XK → Prop := fun σ H Q => ta σ H fun vs H1 => ∃ v, vs = [v] ∧ ∀ d, H1 d = none → Q (.ref C) (some d) (upd H1 d (.xd [(Str.ofString f, v)]))
theorem pmk_keep {x : Str} {f : String} {a : Expr} {ta : TA} {p pos : Pos} {k : Nat} (T : KeepC X x C f) (hr : Room k X.A) (ha : PA X [a] ta) (hg : Gl X x := by rfl) (hdb : (x == ("__debug__" : Str)) = false := by decide)
    (he : starEach (a :: []) X.env = (false, eval a X.env) :: starEach [] X.env := by rfl) (hpl : (backTo pos (starEach [] X.env)).any (·.1) = false := by rfl) :
    PMk X (.Call (.Name x p) [a] [] pos) (tMkKeep C f ta) := by
  intro pins s σ H Q I h
  refine wpAny_Call_Name_kw (ld_glob I hg T.gC ?_ hdb)
  refine PySem.W.callWith_K (h₀ := X.base) I.ok.mod.kin T.kC (thn (ha.run pos pins s σ H _ I h) fun us s1 hh => ?_) he hpl
  obtain ⟨vs, H1, I1, r1, v, ev, q1⟩ := hh
  subst ev
  refine ⟨I1.kIn, ?_⟩
  cases r1 with
  | cons rv rn =>
    rename_i v' us'
    cases rn
    show wpAny _ _ (call (.ref C) [v']) _ _ _
    refine call_keep T I1 (by have := hr.dp; omega) fun h' tk' e d M => ?_
    obtain ⟨hp, g, dr, tk, os⟩ := s1
    show MkP X pins σ Q (.ref e) ⟨h', g, dr, tk', os⟩
    obtain ⟨t1, hoe⟩ := M.obj
    have hns := M.ns
    obtain ⟨G', g1, g2⟩ := restrict h' fun b => decide (b ≠ e)
    have gk : ∀ b, b ≠ e → G'.get? b = h'.get? b := fun b hb => g1 b (decide_eq_true hb)
    have ge : G'.get? e = none := g2 e (by simp)
    have old : ∀ b o, hp.get? b = some o → G'.get? b = some o := fun b o q => (gk b (Nat.ne_of_lt (Nat.lt_of_lt_of_le (Heap.lt_size q) M.new))).trans (M.keep b o q)
    have ob : ObjOk X.prog X.w (upd H1 d (.xd [(Str.ofString f, v)])) G' d (.xd [(Str.ofString f, v)]) := ⟨_, hns.at (fun o q => (gk d M.dne).trans q), fun y => relO_one rv y⟩
    have J : Inv X pins σ (upd H1 d (.xd [(Str.ofString f, v)])) ⟨G', g, dr, tk', os⟩ := I1.laid (t' := tk') old M.dbig ob
    refine ⟨e, _, _, ⟨G', g, dr, tk', os⟩, _, .ref C, some d, rfl, J, fun b o q => ?_, ge, hoe, ⟨rfl, rfl⟩, rfl, rfl, ?_, rfl, I1.bare, raises_own T.exC T.tyC, q1 d (I1.hok.fresh M.dbig)⟩
    · by_cases hb : b = e
      · have q' : G'.get? b = some o := q
        rw [hb, ge] at q'
        cases q'
      · exact (gk b hb).symm.trans q
    · rw [upd_ne (Ne.symm M.dne)]
      exact I1.hok.fresh M.new
/-- X(e) as a value: a new exception object and its dict -/
def tKeep (C : Addr) (f : String) (ta : TA) : TE := fun σ H Q => ta σ H fun vs H1 => ∃ v, vs = [v] ∧ ∀ a d, H1 a = none → H1 d = none → d ≠ a → Q (.ref a) (upd (upd H1 d (exd d [(Str.ofString f, v)])) a (exo a C (some d)))
theorem pe_keep {x : Str} {f : String} {a : Expr} {ta : TA} {p pos : Pos} {k : Nat} (T : KeepC X x C f) (hr : Room k X.A) (ha : PA X [a] ta) (hg : Gl X x := by rfl) (hdb : (x == ("__debug__" : Str)) = false := by decide)
    (he : starEach (a :: []) X.env = (false, eval a X.env) :: starEach [] X.env := by rfl) (hpl : (backTo pos (starEach [] X.env)).any (·.1) = false := by rfl) :
    PE X (.Call (.Name x p) [a] [] pos) (tKeep C f ta) := by
  refine ⟨fun pins s σ H Q I h => ?_⟩
  refine wpAny_Call_Name_kw (ld_glob I hg T.gC ?_ hdb)
  refine PySem.W.callWith_K (h₀ := X.base) I.ok.mod.kin T.kC (thn (ha.run pos pins s σ H _ I h) fun us s1 hh => ?_) he hpl
  obtain ⟨vs, H1, I1, r1, v, ev, q1⟩ := hh
  subst ev
  refine ⟨I1.kIn, ?_⟩
  cases r1 with
  | cons rv rn =>
    rename_i v' us'
    cases rn
    show wpAny _ _ (call (.ref C) [v']) _ _ _
    refine call_keep T I1 (by have := hr.dp; omega) fun h' tk' e d M => ?_
    obtain ⟨t1, hoe⟩ := M.obj
    have hns := M.ns
    have ne := I1.hok.fresh M.new
    have nd := I1.hok.fresh M.dbig
    have be : ∀ {b : Addr} {o : Obj}, s1.heap.get? b = some o → b ≠ e := fun {b o} q => Nat.ne_of_lt (Nat.lt_of_lt_of_le (Heap.lt_size q) M.new)
    have bd : ∀ {b : Addr} {o : Obj}, s1.heap.get? b = some o → b ≠ d := fun {b o} q => Nat.ne_of_lt (Nat.lt_of_lt_of_le (Heap.lt_size q) M.dbig)
    have U : Un X.fs [] H1 (upd (upd H1 d (exd d [(Str.ofString f, v)])) e (exo e C (some d))) s1.heap h' := {
      keep := fun b o q _ _ _ => M.keep b o q
      slot := fun b o q _ _ _ => ⟨o.slots, M.keep b o q⟩
      free := fun b o q n _ => by
        rw [upd_ne (be q), upd_ne (bd q)]
        exact n
      there := fun b o q _ => ⟨o, M.keep b o q⟩
      tups := fun b xs q => by
        rw [upd_ne (ne_of_none q ne), upd_ne (ne_of_none q nd)]
        exact q
      frzs := fun b o u q => by
        rw [upd_ne (ne_of_none q ne), upd_ne (ne_of_none q nd)]
        exact q
      tbls := fun b ps q => ⟨#[], by
        rw [upd_ne (ne_of_none q ne), upd_ne (ne_of_none q nd), q]
        simp⟩ }
    have ok : HOk X.prog X.w (upd (upd H1 d (exd d [(Str.ofString f, v)])) e (exo e C (some d))) h' := fun b o q => by
      by_cases hb : b = e
      · subst hb
        rw [upd_same] at q
        cases q
        exact exo_ok hoe
      · rw [upd_ne hb] at q
        by_cases hd : b = d
        · subst hd
          rw [upd_same] at q
          cases q
          exact exd_ok hns (relO_one rv)
        · rw [upd_ne hd] at q
          refine (I1.hok b o q).stay (fun c u _ z => M.keep c u z) (fun c z => ?_) (fun c xs z => ?_)
          · rw [upd_ne (ne_of_none z ne), upd_ne (ne_of_none z nd)]
            exact z
          · rw [upd_ne (ne_of_none z ne), upd_ne (ne_of_none z nd)]
            exact z
    exact ⟨.ref e, _, I1.un (t' := tk') U ok, rfl, q1 e d ne nd M.dne⟩
end
end L2

set_option Elab.async false
set_option linter.all false
set_option maxRecDepth 100000
set_option maxHeartbeats 8000000
/-! # check_word, Machine.after -/
namespace M3
open PySem L2
abbrev sCheck : Stmt := top 15
abbrev sOnlyC : Stmt := top 16
theorem scCheck : FnScope ["value"] ["value"] (defScope sCheck) := ⟨rfl, rfl, rfl, by decide +kernel, rfl, by decide +kernel, by decide +kernel⟩
theorem scOnlyC : FnScope ["word", "letters"] ["word", "letters"] (defScope sOnlyC) := ⟨rfl, rfl, rfl, by decide +kernel, rfl, by decide +kernel, by decide +kernel⟩
/-- an own error of the package over TurnError, raised: its facts -/
structure TxR (K : PySem.W.Frag) (mg : Str → Option Value) (nm : Str) (c : Addr) : Prop where
  x : PySem.W.excIn K c [.type "ValueError", .type "Exception", .type "BaseException", .type "object"] "ValueError.__new__" = true
  g : mg nm = some (.ref c)
  k : PySem.W.keepIn K (.ref c) = true
  b : PySem.W.subIn K (.ref c) (.type "BaseException") = some true
  t : PySem.W.typeIn K (.ref c) = some (.type "type")
/-- InvalidNumber, raised: it keeps what it takes -/
structure TxN (P : Program) (K : PySem.W.Frag) (mg : Str → Option Value) (c : Addr) : Prop where
  tx : ∃ (fI : Addr) (B i B0 newId : String) (qual : Str), PySem.NvE.InitTxt P K c fI B i B0 newId "value" qual
  g : mg "InvalidNumber" = some (.ref c)
  k : PySem.W.keepIn K (.ref c) = true
  b : PySem.W.subIn K (.ref c) (.type "BaseException") = some true
  t : PySem.W.typeIn K (.ref c) = some (.type "type")
theorem keepN {P : Program} {K : PySem.W.Frag} {mg : Str → Option Value} {c : Addr} (T : TxN P K mg c) {X : Cx} (h1 : X.prog = P) (h2 : X.K = K) (h3 : X.mg = mg) : KeepC X "InvalidNumber" c "value" := by
  subst h1 h2 h3
  exact ⟨T.tx, T.g, T.k, T.b, T.t⟩
def spCheck : Sp := fun vs H Q _ => ∃ y : Str, vs = [.str y] ∧ y.length ≤ 1000000 ∧ only y "abcdefghijklmnopqrstuvwxyz" = true ∧ ∀ H' : Hp, Same H H' → Q .non H'
def spOnlyC : Sp := fun vs H Q _ => ∃ y x : Str, vs = [.str y, .str x] ∧ y.length ≤ 1000000 ∧ only y x = true ∧ ∀ H' : Hp, Same H H' → Q .non H'
section
variable {P : Program} {w : World} {K : PySem.W.Frag} {mg : Str → Option Value} {base : Heap} {C : Addr}
theorem ok_check {f c : Addr} {fd : FuncData} (F : Fun K "check_word" "check_word" sCheck f fd) (DW : DefsW K mg) (W : TxW mg) (TE : TxR K mg "InvalidWord" c) : FnOk P w K mg base CX0 3 f fd ["value"] spCheck := by
  have GW : FnOk P w K mg base CX0 2 DW.fW DW.dW ["value"] (spIsWord K) := ok_isword DW.W DW.O DW.bO DW.mO W
  refine F.ok scCheck (fun vs H Q E h => ?_) (fun cdv A outer s H vs Q E hr h => ?_)
  · obtain ⟨y, rfl, _⟩ := h
    rfl
  · obtain ⟨y, rfl, hy, ho, k⟩ := h
    refine ⟨_, pss_one (ps_if (pt_not (pt_val (pe_call GW hr rfl DW.mW DW.W.kp DW.bW .nil pass0 (pa_cons (pv 0) pa_nil)))) (pss_one (ps_raise rfl takes0 (pmk_own PySem.F.excBase_ValueError TE.x TE.g TE.k (raises_own TE.b TE.t) rfl))) pss_nil), ?_⟩
    refine ⟨_, rfl, .str y, .type "str", true, rfl, .base (.str y), kit_str, (fun z => by cases z), fun _ => ⟨y, rfl, hy, fun H1 s1 => ⟨_, rfl, ?_⟩⟩⟩
    rw [ho]
    exact iteF (k H1 s1)
theorem ok_onlyc {f c : Addr} {fd : FuncData} (F : Fun K "check_only" "check_only" sOnlyC f fd) (DW : DefsW K mg) (W : TxW mg) (TO : TxR K mg "InvalidOperation" c) : FnOk P w K mg base CX0 2 f fd ["word", "letters"] spOnlyC := by
  have GO : FnOk P w K mg base CX0 1 DW.fO DW.dO ["word", "letters"] spHasOnly := ok_hasonly DW.O W
  refine F.ok scOnlyC (fun vs H Q E h => ?_) (fun cdv A outer s H vs Q E hr h => ?_)
  · obtain ⟨y, x, rfl, _⟩ := h
    rfl
  · obtain ⟨y, x, rfl, hy, ho, k⟩ := h
    refine ⟨_, pss_one (ps_if (pt_not (pt_val (pe_call GO hr rfl DW.mO DW.O.kp DW.bO .nil pass0 (pa_cons (pv 0) (pa_cons (pv 1) pa_nil))))) (pss_one (ps_raise rfl takes0 (pmk_own PySem.F.excBase_ValueError TO.x TO.g TO.k (raises_own TO.b TO.t) rfl))) pss_nil), ?_⟩
    refine ⟨_, rfl, _, rfl, y, x, rfl, hy, fun H1 s1 => ⟨_, rfl, ?_⟩⟩
    rw [ho]
    exact iteF (k H1 s1)
theorem only_of {x y : Str} (h : IsW x y) : only y x = true := by
  unfold only
  rw [List.all_eq_true]
  intro c hc
  exact decide_eq_true (h c hc)
end
end M3

set_option Elab.async false
set_option linter.all false
set_option maxRecDepth 100000
set_option maxHeartbeats 8000000
/-! # Actions: one behind the other, of no letter, one letter further -/
namespace M3
open PySem L2
abbrev sComposed : Stmt := top 33
abbrev sUnmoved : Stmt := top 34
abbrev sLedOn : Stmt := top 35
abbrev nComposed : List Str := ["first", "second", "state"]
abbrev nLedOn : List Str := ["table", "states", "column", "state"]
theorem scComposed : FnScope nComposed ["first", "second"] (defScope sComposed) := ⟨rfl, rfl, rfl, by decide +kernel, rfl, by decide +kernel, by decide +kernel⟩
theorem scUnmoved : FnScope ["table"] ["table"] (defScope sUnmoved) := ⟨rfl, rfl, rfl, by decide +kernel, rfl, by decide +kernel, by decide +kernel⟩
theorem scLedOn : FnScope nLedOn ["table", "states", "column"] (defScope sLedOn) := ⟨rfl, rfl, rfl, by decide +kernel, rfl, by decide +kernel, by decide +kernel⟩
/-- one action behind another one -/
def comp (fs gs : List Nat) : List Nat := fs.map fun q => gs.getD q 0
/-- a letter further, by its column -/
def ledon (t : List (List Nat)) (fs : List Nat) (c : Nat) : List Nat := fs.map fun q => (t.getD q []).getD c 0
def spComposed (K : PySem.W.Frag) : Sp := fun vs H Q _ => ∃ (a b : Addr) (fs gs : List Nat), vs = [.ref a, .ref b] ∧ SqT K H a (nts fs) ∧ SqT K H b (nts gs) ∧ (∀ q ∈ fs, q < gs.length) ∧ fs.length ≤ 1000 ∧
  ∀ (p : Addr) (H' : Hp), H p = none → H' p = some (.tup (nts (comp fs gs))) → Same H H' → Q (.ref p) H'
def spUnmoved (K : PySem.W.Frag) : Sp := fun vs H Q _ => ∃ (a : Addr) (us : List V), vs = [.ref a] ∧ SqT K H a us ∧ us.length ≤ 1000 ∧
  ∀ (p : Addr) (H' : Hp), H p = none → H' p = some (.tup (nts (List.range us.length))) → Same H H' → Q (.ref p) H'
def spLedOn (K : PySem.W.Frag) : Sp := fun vs H Q _ => ∃ (a b : Addr) (us : List V) (t : List (List Nat)) (fs : List Nat) (c m : Nat), vs = [.ref a, .ref b, .int c] ∧ SqT K H a us ∧ Tups K H us t ∧ IsTab t t.length m ∧ SqT K H b (nts fs) ∧ (∀ q ∈ fs, q < t.length) ∧ fs.length ≤ 1000 ∧ c < m ∧
  ∀ (p : Addr) (H' : Hp), H p = none → H' p = some (.tup (nts (ledon t fs c))) → Same H H' → Q (.ref p) H'
section
variable {P : Program} {w : World} {K : PySem.W.Frag} {mg : Str → Option Value} {base : Heap}
theorem map_take_snoc {α β : Type} {f : α → β} {l : List α} {i : Nat} (h : i < l.length) : (l.take (i + 1)).map f = (l.take i).map f ++ [f l[i]] := by
  rw [take_snoc (List.getElem?_eq_getElem h), List.map_append]
  rfl
theorem nts_at' {r : List Nat} {j : Nat} (h : j < r.length) : atI (nts r) (j : Int) = some (.int (r.getD j 0)) := nts_at h
theorem ok_composed {f : Addr} {fd : FuncData} (F : Fun K "composed" "composed" sComposed f fd) (M : TxM mg) : FnOk P w K mg base CX0 1 f fd ["first", "second"] (spComposed K) := by
  refine F.ok scComposed (fun vs H Q E h => ?_) (fun cdv A outer s H vs Q E hr h => ?_)
  · obtain ⟨a, b, fs, gs, rfl, _⟩ := h
    rfl
  · obtain ⟨a, b, fs, gs, rfl, ha, hb, hq, hl, k⟩ := h
    refine ⟨_, pss_one (ps_ret (pe_callTy call_tuple_of (by rfl) M.tuple (by decide +kernel) (pa_cons (pe_lc (own := [("state", 2)]) (g := gName 2) (tt := tYes) (te := tOp (rIxT K) (tVar 1) (tVar 2)) rfl scComposed.nd (pi_tup (pv 0)) (blkOk_by (N := nComposed) (sc := defScope sComposed) (by decide +kernel)) (fun _ _ _ _ _ => pg_name (i := 2) scComposed.nd rfl (Or.inl rfl)) (fun _ _ _ _ _ => pts_nil)
      (fun _ _ _ _ _ => pe_ix ix_tup (pv 1) (pv 2) (fun _ _ => rfl))) pa_nil))), ?_⟩
    refine ⟨_, rfl, a, rfl, ⟨_, ha⟩, fun D nD => ?_⟩
    have sm : ∀ {H9 : Hp}, (∀ b' o, b' ≠ D → H b' = some o → H9 b' = some o) → Same H H9 := fun z b' o h => z b' o (fun q => by rw [q, nD] at h; cases h) h
    refine lc_tup (K := K) (a := a) (xs := nts fs) (fun j H9 => H9 D = some (.lst (nts (comp (fs.take j) gs))) ∧ ∀ b' o, b' ≠ D → H b' = some o → H9 b' = some o)
      ⟨upd_same, fun b' o hb' h => keep_new h nD⟩ (fun i H9 _ ⟨_, z⟩ => sqt_same (sm z) ha) ?_ ?_
    · rintro i v H9 hv ⟨q1, q2⟩
      have hi : i < fs.length := by
        have := (List.getElem?_eq_some_iff.mp hv).1
        rw [nts_length] at this
        exact this
      unfold nts at hv
      rw [List.getElem?_map, List.getElem?_eq_getElem hi] at hv
      cases hv
      refine ⟨rfl, tYes_if ?_⟩
      have hlt := hq fs[i] (List.getElem_mem hi)
      refine ⟨_, rfl, _, rfl, b, nts gs, _, _, rfl, rfl, sqt_same (sm q2) hb, nts_at hlt, _, q1, ?_, ?_, fun b' o hb' h => by rw [upd_ne hb']; exact q2 b' o hb' h⟩
      · unfold comp
        rw [nts_length, List.length_map, List.length_take]
        exact Nat.lt_of_le_of_lt (show _ ≤ 1000 by omega) (by decide)
      · rw [upd_same]
        unfold comp nts
        rw [map_take_snoc hi, List.map_append]
        rfl
    · rintro H9 ⟨q1, q2⟩
      have et : fs.take (nts fs).length = fs := by
        rw [nts_length]
        exact List.take_length
      rw [et] at q1
      refine ⟨D, _, rfl, .inl ⟨SqL.of q1, fun l hl9 => ?_⟩⟩
      have s9 := sm q2
      have hl0 : H l = none := by
        cases e : H l with
        | none => rfl
        | some o =>
          have := s9 _ _ e
          rw [hl9] at this
          cases this
      exact k l _ hl0 upd_same (Same.new s9 hl9)
theorem ok_unmoved {f : Addr} {fd : FuncData} (F : Fun K "unmoved" "unmoved" sUnmoved f fd) (M : TxM mg) : FnOk P w K mg base CX0 1 f fd ["table"] (spUnmoved K) := by
  refine F.ok scUnmoved (fun vs H Q E h => ?_) (fun cdv A outer s H vs Q E hr h => ?_)
  · obtain ⟨a, us, rfl, _⟩ := h
    rfl
  · obtain ⟨a, us, rfl, ha, hl, k⟩ := h
    refine ⟨_, pss_one (ps_ret (pe_tupRg rfl rfl M.tuple (prg_1 rfl M.range (pe_callB call_len_seq (by rfl) M.len PySem.boot_len (pa_cons (pv 0) pa_nil))))), ?_⟩
    refine ⟨_, rfl, a, us, rfl, .inr ha, _, rfl, .of_le (by decide) (by omega) (by decide) (by omega), fun p np => ?_⟩
    rw [rgV_nats]
    exact k p _ np upd_same (Same.new (Same.refl H) np)
theorem ok_ledon {f : Addr} {fd : FuncData} (F : Fun K "led_on" "led_on" sLedOn f fd) (M : TxM mg) : FnOk P w K mg base CX0 1 f fd ["table", "states", "column"] (spLedOn K) := by
  refine F.ok scLedOn (fun vs H Q E h => ?_) (fun cdv A outer s H vs Q E hr h => ?_)
  · obtain ⟨a, b, us, t, fs, c, m, rfl, _⟩ := h
    rfl
  · obtain ⟨a, b, us, t, fs, c, m, rfl, ha, hT, tb, hb, hq, hl, hc, k⟩ := h
    refine ⟨_, pss_one (ps_ret (pe_callTy call_tuple_of (by rfl) M.tuple (by decide +kernel) (pa_cons (pe_lc (own := [("state", 3)]) (g := gName 3) (tt := tYes) (te := tOp (rIxT K) (tOp (rIxT K) (tVar 0) (tVar 3)) (tVar 2)) rfl scLedOn.nd (pi_tup (pv 1)) (blkOk_by (N := nLedOn) (sc := defScope sLedOn) (by decide +kernel)) (fun _ _ _ _ _ => pg_name (i := 3) scLedOn.nd rfl (Or.inl rfl)) (fun _ _ _ _ _ => pts_nil)
      (fun _ _ _ _ _ => pe_ix ix_tup (pe_ix ix_tup (pv 0) (pv 3) (fun _ _ => rfl)) (pv 2) (fun _ _ => rfl))) pa_nil))), ?_⟩
    refine ⟨_, rfl, b, rfl, ⟨_, hb⟩, fun D nD => ?_⟩
    have sm : ∀ {H9 : Hp}, (∀ b' o, b' ≠ D → H b' = some o → H9 b' = some o) → Same H H9 := fun z b' o h => z b' o (fun q => by rw [q, nD] at h; cases h) h
    refine lc_tup (K := K) (a := b) (xs := nts fs) (fun j H9 => H9 D = some (.lst (nts (ledon t (fs.take j) c))) ∧ ∀ b' o, b' ≠ D → H b' = some o → H9 b' = some o)
      ⟨upd_same, fun b' o hb' h => keep_new h nD⟩ (fun i H9 _ ⟨_, z⟩ => sqt_same (sm z) hb) ?_ ?_
    · rintro i v H9 hv ⟨q1, q2⟩
      have hi : i < fs.length := by
        have := (List.getElem?_eq_some_iff.mp hv).1
        rw [nts_length] at this
        exact this
      unfold nts at hv
      rw [List.getElem?_map, List.getElem?_eq_getElem hi] at hv
      cases hv
      refine ⟨rfl, tYes_if ?_⟩
      have hp := hq fs[i] (List.getElem_mem hi)
      obtain ⟨b', b1, b2⟩ := hT.2 fs[i] t[fs[i]] (List.getElem?_eq_getElem hp)
      have s9 := sm q2
      have hc2 : c < t[fs[i]].length := by
        rw [(tb.2 _ (List.getElem_mem hp)).1]
        exact hc
      have ed : t.getD fs[i] [] = t[fs[i]] := by simp [List.getD, List.getElem?_eq_getElem hp]
      refine ⟨_, rfl, _, rfl, a, us, _, .ref b', rfl, rfl, sqt_same s9 ha, atI_nat b1, _, rfl, b', nts t[fs[i]], _, _, rfl, rfl, sqt_same s9 b2, nts_at hc2, _, q1, ?_, ?_, fun b'' o hb' h => by rw [upd_ne hb']; exact q2 b'' o hb' h⟩
      · unfold ledon
        rw [nts_length, List.length_map, List.length_take]
        exact Nat.lt_of_le_of_lt (show _ ≤ 1000 by omega) (by decide)
      · rw [upd_same]
        unfold ledon nts
        rw [map_take_snoc hi, List.map_append, ed]
        rfl
    · rintro H9 ⟨q1, q2⟩
      have et : fs.take (nts fs).length = fs := by
        rw [nts_length]
        exact List.take_length
      rw [et] at q1
      refine ⟨D, _, rfl, .inl ⟨SqL.of q1, fun l hl9 => ?_⟩⟩
      have s9 := sm q2
      have hl0 : H l = none := by
        cases e : H l with
        | none => rfl
        | some o =>
          have := s9 _ _ e
          rw [hl9] at this
          cases this
      exact k l _ hl0 upd_same (Same.new s9 hl9)
end
end M3

set_option Elab.async false
set_option linter.all false
set_option maxRecDepth 100000
set_option maxHeartbeats 8000000
/-! # {t: v}, a display of one pair whose key is a tuple -/
namespace NvQ
open PySem PySem.Spec PyProof.Rows L2
def tDisp1 (tk tv : TE) : TE := fun σ H Q => ∀ p, H p = none → tPairs [(tk, tv)] σ (upd H p (.dT [])) fun ps H2 => ∃ (b : Addr) (k : List Key) (v : V), ps = [(.ref b, v)] ∧ H2 p = some (.dT []) ∧ H2 b = some (.tup (k.map kV)) ∧ Q (.ref p) (upd H2 p (.dT [(k, v)]))
theorem pe_disp1 {X : Cx} {pos : Pos} {ek ev : Expr} {tk tv : TE} (hu : X.A.units < cLine) (hk : PE X ek tk) (hv : PE X ev tv) : PE X (.Dict [some ek] [ev] pos) (tDisp1 tk tv) := by
  refine ⟨fun pins s σ H Q I q => ?_⟩
  have hn := I.hok.fresh (Nat.le_refl s.heap.objs.size)
  have I1 := I.laid (a := s.heap.objs.size) (o := .dT []) (h' := s.heap.push { cls := .type "dict", data := .dict #[] }) (t' := s.toks) (fun _ _ q => Heap.get?_push_of_some _ q) (Nat.le_refl _) (dt_empty s.heap I.big)
  have P : PPs X pos [some ek] [ev] [(tk, tv)] := pps_cons hk hv pps_nil
  have hl := pairTrees_length [some ek] [ev] X.env pos rfl rfl
  have hp0 : pairTrees [some ek] [ev] X.env pos ≠ [] := fun z => by
    rw [z] at hl
    cases hl
  have hlt : (pairTrees [some ek] [ev] X.env pos).length = 1 := hl
  rw [arm_eval_Dict, zip_pairTrees [some ek] [ev] X.env pos rfl rfl, dictDisplay_pairs _ hp0 (by rw [hlt]; decide)]
  refine wpAny_bind (wpAny_standAt (wpAny_bind (wpAny_subDictH (knd := tupleKind (mixKind X.prog X.w)) (Q := fun d s' => wpAny (model X.prog X.w) X.A (pure (Value.ref d)) (EP X pins σ Q) X.xe s') hu (by rw [hlt]; decide) ?_)))
  refine thn (P.run pins _ σ _ _ I1 (q _ hn)) fun ws s2 ⟨ps, H2, I2, rel, b, k, v, ep, e, eb, q2⟩ => ?_
  subst ep
  cases rel with
  | @cons pp qq pps qqs hpq t =>
    cases t
    obtain ⟨kk, vv⟩ := qq
    obtain ⟨r1, r2⟩ := hpq
    cases (show kk = Value.ref b from r1)
    obtain ⟨z, hd, xs, rx, dd⟩ := dt_of I2.hok e
    have rx0 : xs = [] := by
      cases rx
      rfl
    subst rx0
    refine ⟨[(k, b, vv)], ⟨rfl, rfl, key_of I2.hok eb, True.intro⟩, dd, fun h' tk' dd' hs => wpAny_pure ⟨.ref s.heap.objs.size, _, ?_, rfl, q2⟩⟩
    have dd2 : h'.DictOfH (tupleKind (mixKind X.prog X.w)) s.heap.objs.size [(k, b, vv)] := dd'
    obtain ⟨o, es, ep, ho, h2, h3, h4, _, h5⟩ := dd2
    refine d_write I2 (by rw [e]; exact True.intro) hs ⟨o, ho⟩ ⟨(by show 1 ≤ sizeLine; decide), hd, [(k, b, vv)], .cons ⟨rfl, ?_, r2⟩ .nil, o, es, ep, ho, h2, h3, h4, h5⟩
    show upd H2 s.heap.objs.size (.dT [(k, v)]) b = some (.tup (k.map kV))
    rw [upd_ne (ne_of eb e (fun z => nomatch z))]
    exact eb
end NvQ

set_option Elab.async false
set_option linter.all false
set_option maxRecDepth 100000
set_option maxHeartbeats 8000000
/-! # The action of a word -/
namespace M3
open PySem L2
/-- where the letters lead each state -/
def act (t : List (List Nat)) (x : Str) (cs : List Nat) : List Nat := (List.range t.length).map fun q => goes t x q cs
theorem act_nil {t : List (List Nat)} {x : Str} : act t x [] = List.range t.length := by
  unfold act
  rw [show (fun q => goes t x q []) = id from rfl, List.map_id]
theorem act_snoc {t : List (List Nat)} {x : Str} {cs : List Nat} {c : Nat} : act t x (cs ++ [c]) = ledon t (act t x cs) (x.cps.toList.idxOf c) := by
  unfold act ledon
  rw [List.map_map]
  refine List.map_congr_left fun q _ => ?_
  rw [goes_snoc]
  rfl
theorem act_lt {t : List (List Nat)} {x : Str} {m : Nat} (tb : IsTab t t.length m) (hm : x.cps.toList.length = m) {cs : List Nat} (hw : ∀ c ∈ cs, c ∈ x.cps.toList) : ∀ z ∈ act t x cs, z < t.length := by
  intro z hz
  unfold act at hz
  obtain ⟨q, hq, rfl⟩ := List.mem_map.mp hz
  exact goes_lt tb hm _ _ (List.mem_range.mp hq) hw
theorem ledon_lt {t : List (List Nat)} {m c : Nat} (tb : IsTab t t.length m) (hc : c < m) {fs : List Nat} (hf : ∀ z ∈ fs, z < t.length) : ∀ z ∈ ledon t fs c, z < t.length := by
  intro z hz
  unfold ledon at hz
  obtain ⟨q, hq, rfl⟩ := List.mem_map.mp hz
  have hp := hf q hq
  have ed : t.getD q [] = t[q] := by simp [List.getD, List.getElem?_eq_getElem hp]
  obtain ⟨e1, e2⟩ := tb.2 t[q] (List.getElem_mem hp)
  rw [ed]
  have hc2 : c < t[q].length := by rw [e1]; exact hc
  have eg : t[q].getD c 0 = t[q][c] := by simp [List.getD, List.getElem?_eq_getElem hc2]
  rw [eg]
  exact e2 _ (List.getElem_mem hc2)
/-- a tuple of numbers as a key -/
def key (fs : List Nat) : List Key := fs.map fun q => (Sum.inl ((q : Nat) : Int) : Key)
theorem key_tup (fs : List Nat) : (key fs).map kV = nts fs := by
  unfold key nts
  rw [List.map_map]
  rfl
theorem key_inj {fs gs : List Nat} (h : key fs = key gs) : fs = gs := by
  induction fs generalizing gs with
  | nil =>
    cases gs with
    | nil => rfl
    | cons g gs => cases h
  | cons f fs ih =>
    cases gs with
    | nil => cases h
    | cons g gs =>
      have h : (Sum.inl ((f : Nat) : Int) : Key) :: key fs = Sum.inl ((g : Nat) : Int) :: key gs := h
      injection h with h1 h2
      injection h1 with h1
      have e : f = g := by omega
      rw [e, ih h2]
/-- actions that stand as tuples -/
def RowsA (H : Hp) (us : List V) (F : List (List Nat)) : Prop := us.length = F.length ∧ ∀ (i : Nat) (r : List Nat), F[i]? = some r → ∃ b : Addr, us[i]? = some (.ref b) ∧ H b = some (.tup (nts r))
theorem RowsA.to {H H' : Hp} {us : List V} {F : List (List Nat)} (h : RowsA H us F) (k : ∀ b ys, H b = some (.tup ys) → H' b = some (.tup ys)) : RowsA H' us F := ⟨h.1, fun i r e => by
  obtain ⟨b, b1, b2⟩ := h.2 i r e
  exact ⟨b, b1, k _ _ b2⟩⟩
theorem RowsA.snoc {H : Hp} {us : List V} {F : List (List Nat)} {b : Addr} {r : List Nat} (h : RowsA H us F) (hb : H b = some (.tup (nts r))) : RowsA H (us ++ [.ref b]) (F ++ [r]) := by
  refine ⟨by rw [List.length_append, List.length_append, h.1]; rfl, fun i r' e => ?_⟩
  rcases snoc_at e with e | ⟨rfl, rfl⟩
  · obtain ⟨b', b1, b2⟩ := h.2 i r' e
    refine ⟨b', ?_, b2⟩
    rw [List.getElem?_append_left (List.getElem?_eq_some_iff.mp b1).1]
    exact b1
  · refine ⟨b, ?_, hb⟩
    rw [← h.1, List.getElem?_append_right (Nat.le_refl _), Nat.sub_self]
    rfl
/-- the dict that numbers the found actions -/
structure NumsA (kvs : List (List Key × V)) (F : List (List Nat)) : Prop where
  only : ∀ (k : List Key) (v : V), valV kvs k = some v → ∃ i r, F[i]? = some r ∧ k = key r ∧ v = .int ((i : Nat) : Int)
  len : kvs.length ≤ F.length
theorem putT_len {kvs : List (List Key × V)} {k : List Key} {v : V} : (putK kvs k v).length ≤ kvs.length + 1 := by
  unfold putK
  split
  · rw [List.length_map]
    omega
  · rw [List.length_append]
    exact Nat.le_refl _
theorem NumsA.put {kvs : List (List Key × V)} {F : List (List Nat)} {r : List Nat} (h : NumsA kvs F) : NumsA (putK kvs (key r) (.int ((F.length : Nat) : Int))) (F ++ [r]) := by
  refine ⟨fun k v e => ?_, ?_⟩
  · rw [valV_put] at e
    by_cases c : k = key r
    · rw [if_pos c] at e
      refine ⟨F.length, r, ?_, c, (Option.some.inj e).symm⟩
      rw [List.getElem?_append_right (Nat.le_refl _), Nat.sub_self]
      rfl
    · rw [if_neg c] at e
      obtain ⟨i, r', h1, h2, h3⟩ := h.only k v e
      refine ⟨i, r', ?_, h2, h3⟩
      rw [List.getElem?_append_left (List.getElem?_eq_some_iff.mp h1).1]
      exact h1
  · have := putT_len (kvs := kvs) (k := key r) (v := V.int ((F.length : Nat) : Int))
    have := h.len
    rw [List.length_append]
    show _ ≤ F.length + 1
    omega
theorem at_app {α : Type} {F : List α} {i : Nat} {r : α} (h : F[i]? = some r) (s : α) : (F ++ [s])[i]? = some r := by
  rw [List.getElem?_append_left (List.getElem?_eq_some_iff.mp h).1]
  exact h
section
variable {P : Program} {w : World} {K : PySem.W.Frag} {mg : Str → Option Value} {base : Heap}
end
end M3

set_option Elab.async false
set_option linter.all false
set_option maxRecDepth 100000
set_option maxHeartbeats 8000000
/-! # Places by their first words, and what a lean table is: on lists -/
namespace M3
open PySem L2
/-- one place further by one letter, if it is new -/
def addF (q : Nat) (w : Str) (c : Nat) (F : List (Nat × Str)) : List (Nat × Str) := if q ∈ F.map Prod.fst then F else F ++ [(q, w ++ ⟨#[c]⟩)]
/-- .. by the first letters, so many -/
def rowF (r : List Nat) (x : Str) (w : Str) (F : List (Nat × Str)) : Nat → List (Nat × Str)
  | 0 => F
  | j + 1 => addF (r.getD j 0) w (x.cps.toList.getD j 0) (rowF r x w F j)
/-- one found place after the other -/
def frsL (t : List (List Nat)) (x : Str) : Nat → Nat → List (Nat × Str) → List (Nat × Str)
  | 0, _, F => F
  | n + 1, i, F => match F[i]? with
    | none => F
    | some z => frsL t x n (i + 1) (rowF (t.getD z.1 []) x z.2 F x.cps.size)
/-- the places to which words lead, with their first words -/
def frs (t : List (List Nat)) (x : Str) : List (Nat × Str) := frsL t x 100000 0 [(0, "")]
def ordF (t : List (List Nat)) (x : Str) : List Nat := (frs t x).map Prod.fst
def leanT (t : List (List Nat)) (x : Str) : List (List Nat) := (ordF t x).map fun p => (t.getD p []).map fun q => (ordF t x).idxOf q
theorem addF_pre {q c : Nat} {w : Str} {F : List (Nat × Str)} : F <+: addF q w c F := by
  unfold addF
  split
  · exact List.prefix_refl _
  · exact List.prefix_append _ _
theorem rowF_pre {r : List Nat} {x w : Str} {F : List (Nat × Str)} : ∀ n, F <+: rowF r x w F n
  | 0 => List.prefix_refl _
  | n + 1 => (rowF_pre n).trans addF_pre
theorem addF_mem {q c : Nat} {w : Str} {F : List (Nat × Str)} : q ∈ (addF q w c F).map Prod.fst := by
  unfold addF
  split
  · assumption
  · simp
theorem addF_old {q c : Nat} {w : Str} {F : List (Nat × Str)} (h : q ∈ F.map Prod.fst) : addF q w c F = F := if_pos h
theorem addF_new {q c : Nat} {w : Str} {F : List (Nat × Str)} (h : q ∉ F.map Prod.fst) : addF q w c F = F ++ [(q, w ++ ⟨#[c]⟩)] := if_neg h
theorem pre_mem {F G : List (Nat × Str)} (h : F <+: G) {q : Nat} (hq : q ∈ F.map Prod.fst) : q ∈ G.map Prod.fst := (h.map Prod.fst).subset hq
theorem rowF_mem {r : List Nat} {x w : Str} {F : List (Nat × Str)} : ∀ {n j : Nat}, j < n → r.getD j 0 ∈ (rowF r x w F n).map Prod.fst
  | n + 1, j, h => by
    by_cases e : j = n
    · subst e
      exact addF_mem
    · exact pre_mem addF_pre (rowF_mem (show j < n by omega))
theorem addF_nodup {q c : Nat} {w : Str} {F : List (Nat × Str)} (h : (F.map Prod.fst).Nodup) : ((addF q w c F).map Prod.fst).Nodup := by
  unfold addF
  split
  · exact h
  · rename_i n
    rw [List.map_append, List.nodup_append]
    refine ⟨h, by simp, fun y hy z hz e => ?_⟩
    have hz : z ∈ [q] := hz
    rw [List.mem_singleton.mp hz] at e
    rw [e] at hy
    exact n hy
theorem rowF_nodup {r : List Nat} {x w : Str} {F : List (Nat × Str)} (h : (F.map Prod.fst).Nodup) : ∀ n, ((rowF r x w F n).map Prod.fst).Nodup
  | 0 => h
  | n + 1 => addF_nodup (rowF_nodup h n)
theorem addF_lt {q c k : Nat} {w : Str} {F : List (Nat × Str)} (hq : q < k) (h : ∀ p ∈ F.map Prod.fst, p < k) : ∀ p ∈ (addF q w c F).map Prod.fst, p < k := by
  unfold addF
  split
  · exact h
  · intro p hp
    rw [List.map_append] at hp
    rcases List.mem_append.mp hp with hp | hp
    · exact h p hp
    · have hp : p ∈ [q] := hp
      rw [List.mem_singleton.mp hp]
      exact hq
theorem getD_mem_lt {r : List Nat} {k j : Nat} (h : ∀ z ∈ r, z < k) (hj : j < r.length) : r.getD j 0 < k := by
  rw [List.getD_eq_getElem?_getD, List.getElem?_eq_getElem hj]
  exact h _ (List.getElem_mem hj)
theorem rowF_lt {r : List Nat} {x w : Str} {F : List (Nat × Str)} {k : Nat} (hr : ∀ z ∈ r, z < k) (h : ∀ p ∈ F.map Prod.fst, p < k) : ∀ n, n ≤ r.length → ∀ p ∈ (rowF r x w F n).map Prod.fst, p < k
  | 0, _ => h
  | n + 1, hn => addF_lt (getD_mem_lt hr (by omega)) (rowF_lt hr h n (by omega))
theorem nodup_lt_len {l : List Nat} {k : Nat} (nd : l.Nodup) (h : ∀ p ∈ l, p < k) : l.length ≤ k := by
  have s : l ⊆ List.range k := fun p hp => List.mem_range.mpr (h p hp)
  have := List.Nodup.length_le_of_subset nd s
  rwa [List.length_range] at this
/-- so many of the found places are looked at: their next ones are found -/
def Seen (t : List (List Nat)) (m i : Nat) (F : List (Nat × Str)) : Prop := ∀ (k : Nat) (z : Nat × Str), k < i → F[k]? = some z → ∀ j, j < m → (t.getD z.1 []).getD j 0 ∈ F.map Prod.fst
theorem pre_at {F G : List (Nat × Str)} (h : F <+: G) {i : Nat} {z : Nat × Str} (e : F[i]? = some z) : G[i]? = some z := by
  obtain ⟨R, rfl⟩ := h
  rw [List.getElem?_append_left (List.getElem?_eq_some_iff.mp e).1]
  exact e
theorem row_tab {t : List (List Nat)} {m q : Nat} (tb : IsTab t t.length m) (hq : q < t.length) : (t.getD q []).length = m ∧ ∀ z ∈ t.getD q [], z < t.length := by
  have e : t.getD q [] = t[q] := by simp [List.getD, List.getElem?_eq_getElem hq]
  rw [e]
  exact tb.2 _ (List.getElem_mem hq)
/-- what holds of the places found so far -/
structure FF (t : List (List Nat)) (m i : Nat) (F : List (Nat × Str)) : Prop where
  nd : (F.map Prod.fst).Nodup
  lt : ∀ p ∈ F.map Prod.fst, p < t.length
  sn : Seen t m i F
theorem FF.step {t : List (List Nat)} {x : Str} {m i : Nat} {F : List (Nat × Str)} {z : Nat × Str} (tb : IsTab t t.length m) (hm : x.cps.size = m) (h : FF t m i F) (e : F[i]? = some z) : FF t m (i + 1) (rowF (t.getD z.1 []) x z.2 F x.cps.size) := by
  have hz : z.1 < t.length := h.lt _ (List.mem_map.mpr ⟨z, List.mem_of_getElem? e, rfl⟩)
  obtain ⟨l1, l2⟩ := row_tab tb hz
  refine ⟨rowF_nodup h.nd _, rowF_lt l2 h.lt _ (by omega), fun k y hk ey j hj => ?_⟩
  by_cases q : k = i
  · subst q
    have ez := pre_at (rowF_pre (r := t.getD z.1 []) (x := x) (w := z.2) x.cps.size) e
    rw [ez] at ey
    cases ey
    exact rowF_mem (by omega)
  · have hl : k < F.length := by
      have := (List.getElem?_eq_some_iff.mp e).1
      omega
    have ek := List.getElem?_eq_getElem hl
    have ek2 := pre_at (rowF_pre (r := t.getD z.1 []) (x := x) (w := z.2) x.cps.size) ek
    rw [ek2] at ey
    cases ey
    exact pre_mem (rowF_pre _) (h.sn k _ (by omega) ek j hj)
theorem FF.len {t : List (List Nat)} {m i : Nat} {F : List (Nat × Str)} (h : FF t m i F) : F.length ≤ t.length := by
  have := nodup_lt_len h.nd h.lt
  rwa [List.length_map] at this
theorem frsL_end {t : List (List Nat)} {x : Str} {m : Nat} (tb : IsTab t t.length m) (hm : x.cps.size = m) : ∀ (n i : Nat) (F : List (Nat × Str)), FF t m i F → t.length ≤ n + i → F <+: frsL t x n i F ∧ FF t m (frsL t x n i F).length (frsL t x n i F)
  | 0, i, F, h, hn => by
    have := h.len
    exact ⟨List.prefix_refl _, h.nd, h.lt, fun k z hk e => h.sn k z (by
      have hk : k < F.length := hk
      omega) e⟩
  | n + 1, i, F, h, hn => by
    unfold frsL
    cases e : F[i]? with
    | none =>
      have := List.getElem?_eq_none_iff.mp e
      exact ⟨List.prefix_refl _, h.nd, h.lt, fun k z hk e => h.sn k z (by
        have hk : k < F.length := hk
        omega) e⟩
    | some z =>
      obtain ⟨a, b⟩ := frsL_end tb hm n (i + 1) _ (h.step tb hm e) (by omega)
      exact ⟨(rowF_pre _).trans a, b⟩
theorem FF.start {t : List (List Nat)} {m : Nat} (h : 1 ≤ t.length) : FF t m 0 [(0, "")] := ⟨by simp, fun p hp => by
  have hp : p ∈ [0] := hp
  rw [List.mem_singleton.mp hp]
  omega, fun k z hk => by omega⟩
section
variable {t : List (List Nat)} {x : Str} {m : Nat}
theorem frs_ff (tb : IsTab t t.length m) (hm : x.cps.size = m) (h1 : 1 ≤ t.length) (h2 : t.length ≤ 100000) : [(0, ("" : Str))] <+: frs t x ∧ FF t m (frs t x).length (frs t x) := frsL_end tb hm _ _ _ (FF.start h1) (by omega)
theorem ord_closed (tb : IsTab t t.length m) (hm : x.cps.size = m) (h1 : 1 ≤ t.length) (h2 : t.length ≤ 100000) {q j : Nat} (hq : q ∈ ordF t x) (hj : j < m) : (t.getD q []).getD j 0 ∈ ordF t x := by
  obtain ⟨z, hz, rfl⟩ := List.mem_map.mp hq
  obtain ⟨k, hk, e⟩ := List.getElem_of_mem hz
  exact (frs_ff tb hm h1 h2).2.sn k z hk (by rw [List.getElem?_eq_getElem hk, e]) j hj
theorem ord_zero (tb : IsTab t t.length m) (hm : x.cps.size = m) (h1 : 1 ≤ t.length) (h2 : t.length ≤ 100000) : (ordF t x)[0]? = some 0 := by
  unfold ordF
  rw [List.getElem?_map, pre_at (frs_ff tb hm h1 h2).1 (show ([((0 : Nat), ("" : Str))] : List (Nat × Str))[0]? = some ((0 : Nat), ("" : Str)) from rfl)]
  rfl
theorem idx_at {l : List Nat} (nd : l.Nodup) {i q : Nat} (h : l[i]? = some q) : l.idxOf q = i := by
  obtain ⟨hi, e⟩ := List.getElem?_eq_some_iff.mp h
  have hq : l.idxOf q < l.length := List.idxOf_lt_length_of_mem (List.mem_of_getElem? h)
  have e2 : l[l.idxOf q] = q := List.getElem_idxOf hq
  exact (List.getElem_inj nd).mp (e2.trans e.symm)
theorem lean_row (tb : IsTab t t.length m) (hm : x.cps.size = m) (h1 : 1 ≤ t.length) (h2 : t.length ≤ 100000) {q : Nat} (hq : q ∈ ordF t x) : (leanT t x).getD ((ordF t x).idxOf q) [] = (t.getD q []).map fun p => (ordF t x).idxOf p := by
  have hl : (ordF t x).idxOf q < (ordF t x).length := List.idxOf_lt_length_of_mem hq
  unfold leanT
  rw [List.getD_eq_getElem?_getD, List.getElem?_map, List.getElem?_eq_getElem hl, List.getElem_idxOf hl]
  rfl
/-- the same places under other numbers -/
def renF (o : List Nat) (F : List (Nat × Str)) : List (Nat × Str) := F.map fun z => (o.idxOf z.1, z.2)
theorem idx_inj {l : List Nat} {p q : Nat} (hp : p ∈ l) (hq : q ∈ l) (e : l.idxOf p = l.idxOf q) : p = q := by
  have a : l[l.idxOf p]'(List.idxOf_lt_length_of_mem hp) = p := List.getElem_idxOf _
  have b : l[l.idxOf q]'(List.idxOf_lt_length_of_mem hq) = q := List.getElem_idxOf _
  have c : l[l.idxOf p]? = some p := by rw [List.getElem?_eq_getElem (List.idxOf_lt_length_of_mem hp), a]
  have d : l[l.idxOf q]? = some q := by rw [List.getElem?_eq_getElem (List.idxOf_lt_length_of_mem hq), b]
  rw [e, d] at c
  exact (Option.some.inj c).symm
theorem ren_mem {o : List Nat} {F : List (Nat × Str)} (hF : ∀ p ∈ F.map Prod.fst, p ∈ o) {q : Nat} (hq : q ∈ o) : o.idxOf q ∈ (renF o F).map Prod.fst ↔ q ∈ F.map Prod.fst := by
  constructor
  · intro h
    obtain ⟨z, hz, e⟩ := List.mem_map.mp h
    obtain ⟨y, hy, rfl⟩ := List.mem_map.mp hz
    have yo := hF _ (List.mem_map.mpr ⟨y, hy, rfl⟩)
    rw [← idx_inj yo hq e]
    exact List.mem_map.mpr ⟨y, hy, rfl⟩
  · intro h
    obtain ⟨z, hz, rfl⟩ := List.mem_map.mp h
    exact List.mem_map.mpr ⟨_, List.mem_map.mpr ⟨z, hz, rfl⟩, rfl⟩
theorem ren_add {o : List Nat} {F : List (Nat × Str)} {q c : Nat} {w : Str} (hF : ∀ p ∈ F.map Prod.fst, p ∈ o) (hq : q ∈ o) : addF (o.idxOf q) w c (renF o F) = renF o (addF q w c F) := by
  by_cases h : q ∈ F.map Prod.fst
  · rw [addF_old h, addF_old ((ren_mem hF hq).mpr h)]
  · rw [addF_new h, addF_new fun z => h ((ren_mem hF hq).mp z)]
    unfold renF
    rw [List.map_append]
    rfl
theorem ren_row {o : List Nat} {F : List (Nat × Str)} {r : List Nat} {w : Str} (hF : ∀ p ∈ F.map Prod.fst, p ∈ o) (hr : ∀ j, j < r.length → r.getD j 0 ∈ o) : ∀ n, n ≤ r.length → (∀ p ∈ (rowF r x w F n).map Prod.fst, p ∈ o) ∧ rowF (r.map fun p => o.idxOf p) x w (renF o F) n = renF o (rowF r x w F n)
  | 0, _ => ⟨hF, rfl⟩
  | n + 1, hn => by
    obtain ⟨a, b⟩ := ren_row hF hr n (by omega)
    have hq := hr n (by omega)
    refine ⟨fun p hp => ?_, ?_⟩
    · have hp : p ∈ (addF (r.getD n 0) w (x.cps.toList.getD n 0) (rowF r x w F n)).map Prod.fst := hp
      unfold addF at hp
      split at hp
      · exact a p hp
      · rw [List.map_append] at hp
        rcases List.mem_append.mp hp with hp | hp
        · exact a p hp
        · have hp : p ∈ [r.getD n 0] := hp
          rw [List.mem_singleton.mp hp]
          exact hq
    · show addF ((r.map fun p => o.idxOf p).getD n 0) w _ (rowF (r.map fun p => o.idxOf p) x w (renF o F) n) = renF o (addF (r.getD n 0) w _ (rowF r x w F n))
      rw [b, ← ren_add a hq]
      congr 1
      have hn' : n < r.length := by omega
      rw [List.getD_eq_getElem?_getD, List.getD_eq_getElem?_getD, List.getElem?_map, List.getElem?_eq_getElem hn']
      rfl
theorem ren_frs (tb : IsTab t t.length m) (hm : x.cps.size = m) (h1 : 1 ≤ t.length) (h2 : t.length ≤ 100000) : ∀ (n i : Nat) (F : List (Nat × Str)), (∀ p ∈ F.map Prod.fst, p ∈ ordF t x) → frsL (leanT t x) x n i (renF (ordF t x) F) = renF (ordF t x) (frsL t x n i F)
  | 0, _, _, _ => rfl
  | n + 1, i, F, hF => by
    unfold frsL
    have er : (renF (ordF t x) F)[i]? = (F[i]?).map fun z => ((ordF t x).idxOf z.1, z.2) := by
      unfold renF
      rw [List.getElem?_map]
    rw [er]
    cases e : F[i]? with
    | none => rfl
    | some z =>
      have hz : z.1 ∈ ordF t x := hF _ (List.mem_map.mpr ⟨z, List.mem_of_getElem? e, rfl⟩)
      have lz : z.1 < t.length := (frs_ff tb hm h1 h2).2.lt _ hz
      have lr := (row_tab tb lz).1
      obtain ⟨a, b⟩ := ren_row (x := x) (w := z.2) hF (r := t.getD z.1 []) (fun j hj => ord_closed tb hm h1 h2 hz (by omega)) x.cps.size (by omega)
      show frsL (leanT t x) x n (i + 1) (rowF ((leanT t x).getD ((ordF t x).idxOf z.1) []) x z.2 (renF (ordF t x) F) x.cps.size) = renF (ordF t x) (frsL t x n (i + 1) (rowF (t.getD z.1 []) x z.2 F x.cps.size))
      rw [lean_row tb hm h1 h2 hz, b]
      exact ren_frs tb hm h1 h2 n (i + 1) _ a
theorem idx_all {l : List Nat} (nd : l.Nodup) : l.map (fun q => l.idxOf q) = List.range l.length := by
  refine List.ext_getElem? fun i => ?_
  rw [List.getElem?_map]
  by_cases h : i < l.length
  · rw [List.getElem?_eq_getElem h, List.getElem?_range h]
    exact congrArg some (idx_at nd (List.getElem?_eq_getElem h))
  · rw [List.getElem?_eq_none (by omega), List.getElem?_eq_none (by rw [List.length_range]; omega)]
    rfl
theorem lean_len : (leanT t x).length = (ordF t x).length := List.length_map _
theorem lean_frs (tb : IsTab t t.length m) (hm : x.cps.size = m) (h1 : 1 ≤ t.length) (h2 : t.length ≤ 100000) : frs (leanT t x) x = renF (ordF t x) (frs t x) := by
  have z0 := ord_zero tb hm h1 h2
  have h := ren_frs tb hm h1 h2 100000 0 [((0 : Nat), ("" : Str))] (fun p hp => by
    have hp : p ∈ [0] := hp
    rw [List.mem_singleton.mp hp]
    exact List.mem_of_getElem? z0)
  have e : renF (ordF t x) [((0 : Nat), ("" : Str))] = [((0 : Nat), ("" : Str))] := by
    show [((ordF t x).idxOf 0, ("" : Str))] = _
    have e0 : (ordF t x).idxOf 0 = 0 := idx_at (frs_ff tb hm h1 h2).2.nd z0
    rw [e0]
  rw [e] at h
  exact h
theorem lean_ord (tb : IsTab t t.length m) (hm : x.cps.size = m) (h1 : 1 ≤ t.length) (h2 : t.length ≤ 100000) : ordF (leanT t x) x = List.range (ordF t x).length := by
  show (frs (leanT t x) x).map Prod.fst = _
  rw [lean_frs tb hm h1 h2]
  have e := idx_all (l := ordF t x) (frs_ff tb hm h1 h2).2.nd
  rw [← e]
  show ((frs t x).map fun z => ((ordF t x).idxOf z.1, z.2)).map Prod.fst = ((frs t x).map Prod.fst).map fun q => (ordF t x).idxOf q
  rw [List.map_map, List.map_map]
  rfl
theorem lean_tab (tb : IsTab t t.length m) (hm : x.cps.size = m) (h1 : 1 ≤ t.length) (h2 : t.length ≤ 100000) : IsTab (leanT t x) (leanT t x).length m ∧ 1 ≤ (leanT t x).length ∧ (leanT t x).length ≤ t.length := by
  have ff := (frs_ff tb hm h1 h2).2
  refine ⟨⟨rfl, fun r hr => ?_⟩, ?_, ?_⟩
  · obtain ⟨p, hp, rfl⟩ := List.mem_map.mp hr
    have lr := row_tab tb (ff.lt _ hp)
    refine ⟨by rw [List.length_map]; exact lr.1, fun z hz => ?_⟩
    obtain ⟨q, hq, rfl⟩ := List.mem_map.mp hz
    rw [lean_len]
    refine List.idxOf_lt_length_of_mem ?_
    obtain ⟨k, hk, e⟩ := List.getElem_of_mem hq
    have := ord_closed tb hm h1 h2 hp (j := k) (by omega)
    rw [List.getD_eq_getElem?_getD, List.getElem?_eq_getElem hk, e] at this
    exact this
  · rw [lean_len]
    have := (List.getElem?_eq_some_iff.mp (ord_zero tb hm h1 h2)).1
    omega
  · rw [lean_len]
    exact nodup_lt_len ff.nd ff.lt
theorem lean_lean (tb : IsTab t t.length m) (hm : x.cps.size = m) (h1 : 1 ≤ t.length) (h2 : t.length ≤ 100000) : leanT (leanT t x) x = leanT t x := by
  obtain ⟨tl, l1, l2⟩ := lean_tab tb hm h1 h2
  have eo := lean_ord tb hm h1 h2
  show (ordF (leanT t x) x).map (fun p => ((leanT t x).getD p []).map fun q => (ordF (leanT t x) x).idxOf q) = _
  rw [eo, ← lean_len]
  refine List.ext_getElem? fun i => ?_
  rw [List.getElem?_map]
  by_cases h : i < (leanT t x).length
  · rw [List.getElem?_range h, List.getElem?_eq_getElem h]
    show some (((leanT t x).getD i []).map fun q => (List.range (leanT t x).length).idxOf q) = _
    have e : (leanT t x).getD i [] = (leanT t x)[i] := by rw [List.getD_eq_getElem?_getD, List.getElem?_eq_getElem h]; rfl
    rw [e]
    refine congrArg some ?_
    have hr := (tl.2 _ (List.getElem_mem h)).2
    have : ∀ q ∈ (leanT t x)[i], (List.range (leanT t x).length).idxOf q = q := fun q hq => idx_at List.nodup_range (List.getElem?_range (hr q hq))
    rw [List.map_congr_left this]
    exact List.map_id _
  · rw [List.getElem?_eq_none (by rw [List.length_range]; omega), List.getElem?_eq_none (by omega)]
    rfl
theorem lean_goes (tb : IsTab t t.length m) (hm : x.cps.size = m) (h1 : 1 ≤ t.length) (h2 : t.length ≤ 100000) : ∀ (cs : List Nat) (q : Nat), q ∈ ordF t x → (∀ c ∈ cs, c ∈ x.cps.toList) → goes t x q cs ∈ ordF t x ∧ goes (leanT t x) x ((ordF t x).idxOf q) cs = (ordF t x).idxOf (goes t x q cs)
  | [], q, hq, _ => ⟨hq, rfl⟩
  | c :: cs, q, hq, hc => by
    have lz : q < t.length := (frs_ff tb hm h1 h2).2.lt _ hq
    have lr := (row_tab tb lz).1
    have hi : x.cps.toList.idxOf c < m := by
      have := List.idxOf_lt_length_of_mem (hc c List.mem_cons_self)
      have e : x.cps.toList.length = x.cps.size := by simp
      omega
    have hs : step t x q c ∈ ordF t x := ord_closed tb hm h1 h2 hq hi
    have es : step (leanT t x) x ((ordF t x).idxOf q) c = (ordF t x).idxOf (step t x q c) := by
      unfold step
      rw [lean_row tb hm h1 h2 hq]
      have hi2 : x.cps.toList.idxOf c < (t.getD q []).length := by omega
      rw [List.getD_eq_getElem?_getD, List.getElem?_map, List.getElem?_eq_getElem hi2]
      show (ordF t x).idxOf (t.getD q [])[x.cps.toList.idxOf c] = (ordF t x).idxOf ((t.getD q []).getD (x.cps.toList.idxOf c) 0)
      congr 1
      rw [List.getD_eq_getElem?_getD (l := t.getD q []), List.getElem?_eq_getElem hi2]
      rfl
    obtain ⟨a, b⟩ := lean_goes tb hm h1 h2 cs (step t x q c) hs fun d hd => hc d (List.mem_cons_of_mem _ hd)
    refine ⟨a, ?_⟩
    show goes (leanT t x) x (step (leanT t x) x ((ordF t x).idxOf q) c) cs = _
    rw [es]
    exact b
end
end M3

set_option Elab.async false
set_option linter.all false
set_option maxRecDepth 100000
set_option maxHeartbeats 8000000
/-! # Machine.__eq__ as a def -/
namespace M3
open PySem L2
def dN (es : List Nat) : PyData := .tuple (es.map fun n => .int ((n : Nat) : Int))
def dT (t : List (List Nat)) : PyData := .tuple (t.map dN)
def dM (x : Str) (t : List (List Nat)) (es : List Nat) : PyData := .tuple [.str x, dT t, dN es]
theorem eqv_nats : ∀ a b : List Nat, PyData.eqvAll (a.map fun n => .int ((n : Nat) : Int)) (b.map fun n => .int ((n : Nat) : Int)) = decide (a = b)
  | [], [] => by simp [PyData.eqvAll]
  | [], _ :: _ => by simp [PyData.eqvAll]
  | _ :: _, [] => by simp [PyData.eqvAll]
  | x :: a, y :: b => by
    have ih := eqv_nats a b
    simp only [List.map_cons, PyData.eqvAll, PyData.eqv, ih]
    by_cases h : x = y
    · subst h
      by_cases h2 : a = b
      · subst h2
        simp
      · simp [h2]
    · have n : ¬ ((x : Int) = (y : Int)) := fun z => h (by omega)
      simp [h, n]
theorem eqv_dN (a b : List Nat) : (dN a).eqv (dN b) = decide (a = b) := by
  unfold dN
  rw [PyData.eqv]
  exact eqv_nats a b
theorem eqv_tabs : ∀ a b : List (List Nat), PyData.eqvAll (a.map dN) (b.map dN) = decide (a = b)
  | [], [] => by simp [PyData.eqvAll]
  | [], _ :: _ => by simp [PyData.eqvAll]
  | _ :: _, [] => by simp [PyData.eqvAll]
  | x :: a, y :: b => by
    have ih := eqv_tabs a b
    simp only [List.map_cons, PyData.eqvAll, eqv_dN, ih]
    by_cases h : x = y
    · subst h
      by_cases h2 : a = b
      · subst h2
        simp
      · simp [h2]
    · simp [h]
theorem eqv_dM (x y : Str) (t s : List (List Nat)) (a b : List Nat) : (dM x t a).eqv (dM y s b) = (decide (x = y) && (decide (t = s) && decide (a = b))) := by
  unfold dM
  rw [PyData.eqv]
  simp only [PyData.eqvAll, eqv_dN]
  have e : (dT t).eqv (dT s) = decide (t = s) := by
    unfold dT
    rw [PyData.eqv]
    exact eqv_tabs t s
  rw [e]
  simp only [PyData.eqv, Bool.and_true]
  congr 1
theorem dp_nats {K : PySem.W.Frag} {H : Hp} : ∀ es : List Nat, DpAll K H (nts es) (es.map fun n => .int ((n : Nat) : Int))
  | [] => .nil
  | _ :: es => .cons (.int _) (dp_nats es)
theorem dp_rows {K : PySem.W.Frag} {H : Hp} : ∀ (t : List (List Nat)) (us : List V), Tups K H us t → DpAll K H us (t.map dN)
  | [], us, h => by
    have e : us = [] := List.eq_nil_of_length_eq_zero h.1
    subst e
    exact .nil
  | r :: t, us, h => by
    obtain ⟨b, b1, b2⟩ := h.2 0 r rfl
    match us, h, b1 with
    | u :: us, h, b1 =>
      have e : u = .ref b := Option.some.inj b1
      subst e
      have l : us.length = t.length := by
        have := h.1
        simpa using this
      exact .cons (.tup b2 (dp_nats r)) (dp_rows t us ⟨l, fun i r' hr => h.2 (i + 1) r' hr⟩)
theorem lay_nats : ∀ es : List Nat, PyData.canLayAll0 (es.map fun n => .int ((n : Nat) : Int)) = true
  | [] => by rfl
  | _ :: es => by
    have ih := lay_nats es
    simp only [List.map_cons, PyData.canLayAll0, PyData.canLay0, ih, Bool.and_self]
theorem lay_dN (es : List Nat) : (dN es).canLay0 = true := by
  unfold dN
  simp only [PyData.canLay0, lay_nats]
theorem lay_rows : ∀ t : List (List Nat), PyData.canLayAll0 (t.map dN) = true
  | [] => by rfl
  | _ :: t => by
    have ih := lay_rows t
    simp only [List.map_cons, PyData.canLayAll0, lay_dN, ih, Bool.and_self]
theorem dep_nats : ∀ es : List Nat, PyData.depthAll (es.map fun n => .int ((n : Nat) : Int)) = 0
  | [] => by rfl
  | _ :: es => by
    have ih := dep_nats es
    simp only [List.map_cons, PyData.depthAll, PyData.depth, ih, Nat.max_self]
theorem dep_dN (es : List Nat) : (dN es).depth = 1 := by
  unfold dN
  simp only [PyData.depth, dep_nats]
theorem dep_rows : ∀ t : List (List Nat), PyData.depthAll (t.map dN) ≤ 1
  | [] => by simp [PyData.depthAll]
  | _ :: t => by
    have ih := dep_rows t
    simp only [List.map_cons, PyData.depthAll, dep_dN]
    omega
theorem set_ok {x : Str} {m : Nat} (h : IsSet x m) : PyData.strOk x = true := by
  obtain ⟨cs, rfl, _, _, hm⟩ := h
  show (cs.toArray.all fun c => decide (c < 1114112)) = true
  rw [List.all_toArray, List.all_eq_true]
  intro c hc
  have := hm c hc
  refine decide_eq_true ?_
  simp only [List.mem_cons, List.not_mem_nil, or_false] at this
  omega
theorem shaped_dM {x : Str} {t : List (List Nat)} {es : List Nat} {m : Nat} (h : IsSet x m) : SeqAt.shaped (dM x t es) = true := by
  unfold SeqAt.shaped
  have h1 : (dM x t es).canLay0 = true := by
    unfold dM dT
    simp only [PyData.canLay0, PyData.canLayAll0, lay_rows, lay_dN, set_ok h, Bool.and_self]
  have h2 : (dM x t es).depth ≤ 64 := by
    have r := dep_rows t
    unfold dM dT
    simp only [PyData.depth, PyData.depthAll, dep_dN]
    omega
  rw [h1, decide_eq_true h2]
  rfl
section
variable {P : Program} {w : World} {K : PySem.W.Frag} {mg : Str → Option Value} {base : Heap} {C : Addr}
end
end M3

set_option Elab.async false
set_option linter.all false
set_option maxRecDepth 100000
set_option maxHeartbeats 8000000
/-! # Which states are reached -/
namespace M3
open PySem L2
abbrev sReached : Stmt := top 23
abbrev nReached : List Str := ["table", "found", "seen", "at", "goal"]
theorem scReached : FnScope nReached ["table"] (defScope sReached) := ⟨rfl, rfl, rfl, by decide +kernel, rfl, by decide +kernel, by decide +kernel⟩
/-- numbers below n, none twice: at most n of them -/
theorem nodup_le {n : Nat} : ∀ {fs : List Nat}, fs.Nodup → (∀ z ∈ fs, z < n) → fs.length ≤ n := by
  induction n with
  | zero =>
    intro fs _ h
    match fs, h with
    | [], _ => exact Nat.le_refl _
    | z :: l, h => exact absurd (h z List.mem_cons_self) (Nat.not_lt_zero _)
  | succ n ih =>
    intro fs nd h
    have e := ih (fs := fs.filter fun z => !decide (z = n)) (nd.sublist List.filter_sublist) fun z hz => by
      have h1 := h z (List.mem_filter.mp hz).1
      have h2 : ¬ z = n := by simpa using (List.mem_filter.mp hz).2
      omega
    have l : fs.length ≤ (fs.filter fun z => !decide (z = n)).length + 1 := by
      clear e h ih
      induction fs with
      | nil => exact Nat.zero_le _
      | cons z l ih =>
        have nd' := List.nodup_cons.mp nd
        by_cases hz : z = n
        · have f : (l.filter fun z => !decide (z = n)) = l := by
            rw [List.filter_eq_self]
            intro w hw
            have : ¬ w = n := fun q => nd'.1 (by rw [hz, ← q]; exact hw)
            simp [this]
          simp [List.filter_cons, hz, f]
        · have := ih nd'.2
          simp [List.filter_cons, hz]
          omega
    omega
/-- the dict tells just what was found -/
def SeenIs (kvs : List (Key × V)) (fs : List Nat) : Prop := ∀ q : Nat, (valV kvs (.inl (q : Int))).isSome = decide (q ∈ fs)
theorem SeenIs.put {kvs : List (Key × V)} {fs : List Nat} {g : Nat} (h : SeenIs kvs fs) : SeenIs (putK kvs (.inl (g : Int)) (.bl true)) (fs ++ [g]) := fun q => by
  rw [valV_put]
  by_cases e : q = g
  · subst e
    rw [if_pos rfl]
    simp
  · rw [if_neg (fun z => e (by injection z with z; omega)), h q]
    by_cases m : q ∈ fs
    · simp [m]
    · simp [m, e]
def spReached (K : PySem.W.Frag) : Sp := fun vs H Q _ => ∃ (a : Addr) (us : List V) (t : List (List Nat)) (m : Nat), vs = [.ref a] ∧ SqT K H a us ∧ Tups K H us t ∧ IsTab t t.length m ∧ 1 ≤ t.length ∧ t.length ≤ 1000 ∧
  ∀ (l : Addr) (fs : List Nat) (H' : Hp), (∀ z ∈ fs, z < t.length) → fs.length ≤ t.length → H l = none → H' l = some (.lst (nts fs)) → Same H H' → Q (.ref l) H'
section
variable {P : Program} {w : World} {K : PySem.W.Frag} {mg : Str → Option Value} {base : Heap}
theorem ok_reached {f : Addr} {fd : FuncData} (F : Fun K "reached" "reached" sReached f fd) (T : TxI mg) : FnOk P w K mg base CX0 1 f fd ["table"] (spReached K) := by
  refine F.ok scReached (fun vs H Q E h => ?_) (fun cdv A outer s H vs Q E hr h => ?_)
  · obtain ⟨a, us, t, m, rfl, _⟩ := h
    rfl
  · obtain ⟨a, us, t, m, rfl, ha, hT, tb, t1, tk, k⟩ := h
    have hu := hu_of hr
    refine ⟨_, pss_cons (ps_set (i := 1) scReached.nd rfl (Or.inl rfl) (pe_lst (pa_cons pe_int pa_nil)))
      (pss_cons (ps_set (i := 2) scReached.nd rfl (Or.inl rfl) (pe_disp (pps_cons pe_int pe_bl pps_nil) (by rfl) (by rfl) (fun z => by cases z) (by decide)))
      (pss_cons (ps_set (i := 3) scReached.nd rfl (Or.inl rfl) pe_int)
      (pss_cons (ps_while PassesOwn.never (pt_cmpR op_lt (pv 3) (pe_callB call_len_seq (by rfl) T.len PySem.boot_len (pa_cons (pv 1) pa_nil)) (nomark _))
        (pss_cons (ps_for PassesOwn.never rfl (pi_tup (pe_ix ix_tup (pv 0) (pe_ix ix_list (pv 1) (pv 3) (fun _ _ => rfl)) (fun _ _ => rfl))) (pg_name (i := 4) scReached.nd rfl (Or.inl rfl))
          (pss_one (ps_if (pt_cmp (pc_dnotin hu (pv 4) (pv 2))) (pss_cons (ps_dput hu (pv 2) (pv 4) pe_bl rfl) (pss_one (ps_expr (pe_bm PySem.F.plainAttrs_list PySem.F.slot_list_append PySem.F.type_list_append mt_append (pv 1) (pa_cons (pv 4) pa_nil))))) pss_nil)))
        (pss_one (ps_aug (i := 3) scReached.nd rfl (.inl rfl) pe_int ip_add))))
      (pss_one (ps_ret (pv 1)))))), ?_⟩
    refine ⟨(by show 1 ≤ sizeLine; decide), fun l nl => ?_⟩
    intro f' nf
    refine ⟨upd_same, [(.inl 0, .bl true)], rfl, (by show 1 ≤ 15; decide), ?_⟩
    rw [upd_upd]
    have lf : l ≠ f' := fun z => by
      rw [← z, upd_same] at nf
      cases nf
    have nf0 : H f' = none := by
      rw [upd_ne (Ne.symm lf)] at nf
      exact nf
    have neL : ∀ {b : Addr} {o : HO}, H b = some o → b ≠ l := fun h z => by rw [z, nl] at h; cases h
    have neF : ∀ {b : Addr} {o : HO}, H b = some o → b ≠ f' := fun h z => by rw [z, nf0] at h; cases h
    have s0 : SeenIs [((.inl 0 : Key), V.bl true)] [0] := fun q => by
      by_cases e : q = 0
      · subst e
        have z : valV [((.inl 0 : Key), V.bl true)] (.inl ((0 : Nat) : Int)) = some (.bl true) := valV_pos rfl
        rw [z]
        rfl
      · rw [valV_neg (fun z => e (by injection z with z; omega)), valV_nil]
        simp [e]
    refine while_by (fun σ H' => ∃ (at' : Nat) (g : Option V) (fs : List Nat) (kvs : List (Key × V)), σ = [some (.ref a), some (.ref l), some (.ref f'), some (.int at'), g] ∧ H' l = some (.lst (nts fs)) ∧ H' f' = some (.dK kvs) ∧ SeenIs kvs fs ∧ kvs.length ≤ fs.length ∧ fs.Nodup ∧ (∀ z ∈ fs, z < t.length) ∧ at' ≤ fs.length ∧ Same H H')
      (fun σ H' => match σ with | [_, _, _, some (.int i), _] => t.length - i.toNat | _ => 0)
      ⟨0, none, [0], _, rfl, by rw [upd_ne lf]; exact upd_same, upd_same, s0, Nat.le_refl _, by simp, (fun z hz => by rw [List.mem_singleton.mp hz]; exact t1), Nat.zero_le _, Same.new (Same.new (Same.refl H) nl) (by rw [upd_ne (Ne.symm lf)]; exact nf0)⟩ ?_ ?_
    · rintro σ H1 ⟨at', g, fs, kvs, rfl, h1, h2, h3, h4, h5, h6, h7, s1⟩
      refine ⟨_, rfl, _, rfl, l, _, rfl, .inl (SqL.of h1), _, _, rfl, rfl, _, rfl, ?_⟩
      rw [nts_length]
      refine ite2 (fun hle => ?_) (fun hle => ?_)
      · have hlt : at' < fs.length := by
          have := of_decide_eq_true hle
          omega
        have q := h6 fs[at'] (List.getElem_mem hlt)
        obtain ⟨b, b1, b2⟩ := hT.2 fs[at'] t[fs[at']] (List.getElem?_eq_getElem q)
        obtain ⟨_, rz⟩ := tb.2 t[fs[at']] (List.getElem_mem q)
        generalize t[fs[at']] = r at b2 rz
        have ei : atI (nts fs) (at' : Int) = some (.int ((fs[at'] : Nat) : Int)) := by
          have e := nts_at hlt
          rw [e]
          simp [List.getD, List.getElem?_eq_getElem hlt]
        refine ⟨_, rfl, _, rfl, _, rfl, l, _, _, _, rfl, rfl, SqL.of h1, ei, a, us, _, .ref b, rfl, rfl, sqt_same s1 ha, atI_nat b1, ?_⟩
        refine ⟨b, rfl, ⟨_, sqt_same s1 b2⟩, for_it (walk_tup (K := K) (a := b) (xs := nts r)) (fun j σ H' => ∃ (g : Option V) (fs' : List Nat) (kvs' : List (Key × V)), σ = [some (.ref a), some (.ref l), some (.ref f'), some (.int at'), g] ∧ H' l = some (.lst (nts fs')) ∧ H' f' = some (.dK kvs') ∧ SeenIs kvs' fs' ∧ kvs'.length ≤ fs'.length ∧ fs'.Nodup ∧ (∀ z ∈ fs', z < t.length) ∧ at' < fs'.length ∧ Same H H')
          ⟨g, fs, kvs, rfl, h1, h2, h3, h4, h5, h6, hlt, s1⟩ (fun j σ H' _ ⟨_, _, _, _, _, _, _, _, _, _, _, z⟩ => sqt_same z b2) ?_ ?_⟩
        · rintro j v σ H2 H3 hj ⟨g', fs', kvs', rfl, p1, p2, p3, p4, p5, p6, p7, p8⟩ ⟨rfl, hv⟩
          unfold nts at hv
          rw [List.getElem?_map] at hv
          cases er : r[j]? with
          | none =>
            rw [er] at hv
            cases hv
          | some z =>
            rw [er] at hv
            cases hv
            have zn := rz z (List.mem_of_getElem? er)
            have fl := nodup_le p5 p6
            refine ⟨_, rfl, _, rfl, f', _, rfl, DGet.k (k := Sum.inl ((z : Nat) : Int)) p2, _, rfl, ?_⟩
            have sz := p3 z
            cases e : valV kvs' (Sum.inl ((z : Nat) : Int) : Key) with
            | none =>
              rw [e] at sz
              have nz : z ∉ fs' := fun q => by
                rw [decide_eq_true q] at sz
                cases sz
              refine iteT ?_
              refine ⟨_, rfl, _, rfl, f', _, rfl, DPut.k (k := Sum.inl ((z : Nat) : Int)) p2 (Nat.lt_of_le_of_lt (show kvs'.length ≤ 1000 by omega) (by decide)), ?_⟩
              have g1 : (upd H3 f' (.dK (putK kvs' (Sum.inl ((z : Nat) : Int)) (.bl true)))) l = some (.lst (nts fs')) := by
                rw [upd_ne lf]
                exact p1
              refine ⟨_, rfl, .inl ⟨rfl, _, SqL.of g1⟩, _, rfl, l, _, _, rfl, rfl, g1, ?_, some (.int ((z : Nat) : Int)), fs' ++ [z], _, rfl, ?_, ?_, p3.put, ?_, ?_, fun y hy => ?_, ?_, fun b' o h => ?_⟩
              · rw [nts_length]
                exact Nat.lt_of_le_of_lt (show fs'.length ≤ 1000 by omega) (by decide)
              · rw [upd_same, nts_append]
              · rw [upd_ne (Ne.symm lf)]
                exact upd_same
              · rw [putK_new _ e, List.length_append, List.length_append]
                show kvs'.length + 1 ≤ fs'.length + 1
                omega
              · rw [List.nodup_append]
                refine ⟨p5, by simp, fun y hy w hw q => nz ?_⟩
                rw [List.mem_singleton.mp hw] at q
                rw [← q]
                exact hy
              · rcases List.mem_append.mp hy with q | q
                · exact p6 y q
                · rw [List.mem_singleton.mp q]
                  exact zn
              · rw [List.length_append]
                omega
              · rw [upd_ne (neL h), upd_ne (neF h)]
                exact p8 _ _ h
            | some v =>
              refine iteF ?_
              exact ⟨some (.int ((z : Nat) : Int)), fs', kvs', rfl, p1, p2, p3, p4, p5, p6, p7, p8⟩
        · rintro σ H2 ⟨g', fs', kvs', rfl, p1, p2, p3, p4, p5, p6, p7, p8⟩
          have fl := nodup_le p5 p6
          refine ⟨_, rfl, _, _, rfl, rfl, ⟨at' + 1, g', fs', kvs', rfl, p1, p2, p3, p4, p5, p6, p7, p8⟩, ?_⟩
          show t.length - (at' + 1) < t.length - at'
          omega
      · exact ⟨_, rfl, k l fs H1 h6 (nodup_le h5 h6) nl h1 s1⟩
    · rintro σ H1 Q1 Q2 hq h
      obtain ⟨v1, hv1, v2, hv2, p, ys, hp, hs, i1, i2, c1, c2, b, hb, hh⟩ := h
      exact ⟨v1, hv1, v2, hv2, p, ys, hp, hs, i1, i2, c1, c2, b, hb, hq _ _ hh⟩
end
end M3

set_option Elab.async false
set_option linter.all false
set_option maxRecDepth 100000
set_option maxHeartbeats 8000000
/-! # Which states are reached, just in which order -/
namespace M3
open PySem L2
theorem frsL_stop {t : List (List Nat)} {x : Str} {i : Nat} {F : List (Nat × Str)} (h : F.length ≤ i) : ∀ n, frsL t x n i F = F
  | 0 => rfl
  | n + 1 => by
    unfold frsL
    rw [List.getElem?_eq_none h]
theorem frsL_go {t : List (List Nat)} {x : Str} {n i : Nat} {F : List (Nat × Str)} {z : Nat × Str} (e : F[i]? = some z) : frsL t x (n + 1) i F = frsL t x n (i + 1) (rowF (t.getD z.1 []) x z.2 F x.cps.size) := by
  show (match F[i]? with
    | none => F
    | some z => frsL t x n (i + 1) (rowF (t.getD z.1 []) x z.2 F x.cps.size)) = _
  rw [e]
/-- so far, with this place to be looked at next -/
structure Way (t : List (List Nat)) (x : Str) (m i : Nat) (F : List (Nat × Str)) : Prop where
  ff : FF t m i F
  eq : frsL t x (100000 - i) i F = frs t x
theorem Way.next {t : List (List Nat)} {x : Str} {m i : Nat} {F : List (Nat × Str)} {z : Nat × Str} (h : Way t x m i F) (tb : IsTab t t.length m) (hm : x.cps.size = m) (tk : t.length ≤ 1000) (e : F[i]? = some z) : Way t x m (i + 1) (rowF (t.getD z.1 []) x z.2 F x.cps.size) := by
  refine ⟨h.ff.step tb hm e, ?_⟩
  have l := h.ff.len
  have hi := (List.getElem?_eq_some_iff.mp e).1
  rw [← h.eq, show 100000 - i = (100000 - (i + 1)) + 1 by omega, frsL_go e]
theorem Way.stop {t : List (List Nat)} {x : Str} {m i : Nat} {F : List (Nat × Str)} (h : Way t x m i F) (e : F.length ≤ i) : F = frs t x := by
  rw [← h.eq, frsL_stop e]
theorem Way.start {t : List (List Nat)} {x : Str} {m : Nat} (h : 1 ≤ t.length) : Way t x m 0 [(0, "")] := ⟨FF.start h, rfl⟩
theorem row_at {t : List (List Nat)} {q : Nat} (hq : q < t.length) : t[q]? = some (t.getD q []) := by
  rw [List.getD_eq_getElem?_getD, List.getElem?_eq_getElem hq]
  rfl
theorem addF_len {q c : Nat} {w : Str} {F : List (Nat × Str)} : F.length ≤ (addF q w c F).length := by
  unfold addF
  split
  · exact Nat.le_refl _
  · rw [List.length_append]
    omega
theorem rowF_len {r : List Nat} {x w : Str} {F : List (Nat × Str)} : ∀ n, F.length ≤ (rowF r x w F n).length
  | 0 => Nat.le_refl _
  | n + 1 => Nat.le_trans (rowF_len n) addF_len
theorem nts_get {r : List Nat} {j : Nat} {v : V} (h : (nts r)[j]? = some v) : j < r.length ∧ v = .int ((r.getD j 0 : Nat) : Int) := by
  unfold nts at h
  rw [List.getElem?_map] at h
  cases e : r[j]? with
  | none =>
    rw [e] at h
    cases h
  | some z =>
    rw [e] at h
    cases h
    refine ⟨(List.getElem?_eq_some_iff.mp e).1, ?_⟩
    rw [List.getD_eq_getElem?_getD, e]
    rfl
def spReachedE (K : PySem.W.Frag) : Sp := fun vs H Q _ => ∃ (a : Addr) (us : List V) (t : List (List Nat)) (m : Nat) (x : Str), vs = [.ref a] ∧ SqT K H a us ∧ Tups K H us t ∧ IsTab t t.length m ∧ 1 ≤ t.length ∧ t.length ≤ 1000 ∧ x.cps.size = m ∧
  ∀ (l : Addr) (H' : Hp), H l = none → H' l = some (.lst (nts (ordF t x))) → Same H H' → Q (.ref l) H'
section
variable {P : Program} {w : World} {K : PySem.W.Frag} {mg : Str → Option Value} {base : Heap}
theorem ok_reachedE {f : Addr} {fd : FuncData} (F : Fun K "reached" "reached" sReached f fd) (T : TxI mg) : FnOk P w K mg base CX0 1 f fd ["table"] (spReachedE K) := by
  refine F.ok scReached (fun vs H Q E h => ?_) (fun cdv A outer s H vs Q E hr h => ?_)
  · obtain ⟨a, us, t, m, x, rfl, _⟩ := h
    rfl
  · obtain ⟨a, us, t, m, x, rfl, ha, hT, tb, t1, tk, hm, k⟩ := h
    have hu := hu_of hr
    refine ⟨_, pss_cons (ps_set (i := 1) scReached.nd rfl (Or.inl rfl) (pe_lst (pa_cons pe_int pa_nil)))
      (pss_cons (ps_set (i := 2) scReached.nd rfl (Or.inl rfl) (pe_disp (pps_cons pe_int pe_bl pps_nil) (by rfl) (by rfl) (fun z => by cases z) (by decide)))
      (pss_cons (ps_set (i := 3) scReached.nd rfl (Or.inl rfl) pe_int)
      (pss_cons (ps_while PassesOwn.never (pt_cmpR op_lt (pv 3) (pe_callB call_len_seq (by rfl) T.len PySem.boot_len (pa_cons (pv 1) pa_nil)) (nomark _))
        (pss_cons (ps_for PassesOwn.never rfl (pi_tup (pe_ix ix_tup (pv 0) (pe_ix ix_list (pv 1) (pv 3) (fun _ _ => rfl)) (fun _ _ => rfl))) (pg_name (i := 4) scReached.nd rfl (Or.inl rfl))
          (pss_one (ps_if (pt_cmp (pc_dnotin hu (pv 4) (pv 2))) (pss_cons (ps_dput hu (pv 2) (pv 4) pe_bl rfl) (pss_one (ps_expr (pe_bm PySem.F.plainAttrs_list PySem.F.slot_list_append PySem.F.type_list_append mt_append (pv 1) (pa_cons (pv 4) pa_nil))))) pss_nil)))
        (pss_one (ps_aug (i := 3) scReached.nd rfl (.inl rfl) pe_int ip_add))))
      (pss_one (ps_ret (pv 1)))))), ?_⟩
    refine ⟨(by show 1 ≤ sizeLine; decide), fun l nl => ?_⟩
    intro f' nf
    refine ⟨upd_same, [(.inl 0, .bl true)], rfl, (by show 1 ≤ 15; decide), ?_⟩
    rw [upd_upd]
    have lf : l ≠ f' := fun z => by
      rw [← z, upd_same] at nf
      cases nf
    have nf0 : H f' = none := by
      rw [upd_ne (Ne.symm lf)] at nf
      exact nf
    have neL : ∀ {b : Addr} {o : HO}, H b = some o → b ≠ l := fun h z => by rw [z, nl] at h; cases h
    have neF : ∀ {b : Addr} {o : HO}, H b = some o → b ≠ f' := fun h z => by rw [z, nf0] at h; cases h
    have s0 : SeenIs [((.inl 0 : Key), V.bl true)] [0] := fun q => by
      by_cases e : q = 0
      · subst e
        have z : valV [((.inl 0 : Key), V.bl true)] (.inl ((0 : Nat) : Int)) = some (.bl true) := valV_pos rfl
        rw [z]
        rfl
      · rw [valV_neg (fun z => e (by injection z with z; omega)), valV_nil]
        simp [e]
    refine while_by (fun σ H' => ∃ (at' : Nat) (g : Option V) (F : List (Nat × Str)) (kvs : List (Key × V)), σ = [some (.ref a), some (.ref l), some (.ref f'), some (.int at'), g] ∧ H' l = some (.lst (nts (F.map Prod.fst))) ∧ H' f' = some (.dK kvs) ∧ SeenIs kvs (F.map Prod.fst) ∧ kvs.length ≤ F.length ∧ Way t x m at' F ∧ at' ≤ F.length ∧ Same H H')
      (fun σ H' => match σ with | [_, _, _, some (.int i), _] => t.length - i.toNat | _ => 0)
      ⟨0, none, [(0, "")], _, rfl, by rw [upd_ne lf]; exact upd_same, upd_same, s0, Nat.le_refl _, Way.start t1, Nat.zero_le _, Same.new (Same.new (Same.refl H) nl) (by rw [upd_ne (Ne.symm lf)]; exact nf0)⟩ ?_ ?_
    · rintro σ H1 ⟨at', g, F, kvs, rfl, h1, h2, h3, h4, hw, h7, s1⟩
      have fl := hw.ff.len
      refine ⟨_, rfl, _, rfl, l, _, rfl, .inl (SqL.of h1), _, _, rfl, rfl, _, rfl, ?_⟩
      rw [nts_length, List.length_map]
      refine ite2 (fun hle => ?_) (fun hle => ?_)
      · have hlt : at' < F.length := by
          have := of_decide_eq_true hle
          omega
        have hz : F[at']? = some F[at'] := List.getElem?_eq_getElem hlt
        have q := hw.ff.lt _ (List.mem_map.mpr ⟨_, List.getElem_mem hlt, rfl⟩)
        generalize F[at'] = z at hz q
        obtain ⟨b, b1, b2⟩ := hT.2 z.1 _ (row_at q)
        obtain ⟨rl, rz⟩ := row_tab tb q
        have ei : atI (nts (F.map Prod.fst)) (at' : Int) = some (.int ((z.1 : Nat) : Int)) := by
          have e := nts_at (r := F.map Prod.fst) (j := at') (by rw [List.length_map]; exact hlt)
          rw [e, List.getD_eq_getElem?_getD, List.getElem?_map, hz]
          rfl
        have hnext := hw.next tb hm tk hz
        refine ⟨_, rfl, _, rfl, _, rfl, l, _, _, _, rfl, rfl, SqL.of h1, ei, a, us, _, .ref b, rfl, rfl, sqt_same s1 ha, atI_nat b1, ?_⟩
        generalize hr0 : t.getD z.1 [] = r at b2 rl rz hnext
        refine ⟨b, rfl, ⟨_, sqt_same s1 b2⟩, for_it (walk_tup (K := K) (a := b) (xs := nts r)) (fun j σ H' => ∃ (g : Option V) (kvs' : List (Key × V)), σ = [some (.ref a), some (.ref l), some (.ref f'), some (.int at'), g] ∧ H' l = some (.lst (nts ((rowF r x z.2 F j).map Prod.fst))) ∧ H' f' = some (.dK kvs') ∧ SeenIs kvs' ((rowF r x z.2 F j).map Prod.fst) ∧ kvs'.length ≤ (rowF r x z.2 F j).length ∧ Same H H')
          ⟨g, kvs, rfl, h1, h2, h3, h4, s1⟩ (fun j σ H' _ ⟨_, _, _, _, _, _, _, z⟩ => sqt_same z b2) ?_ ?_⟩
        · rintro j v σ H2 H3 hj ⟨g', kvs', rfl, p1, p2, p3, p4, p8⟩ ⟨rfl, hv⟩
          obtain ⟨jr, rfl⟩ := nts_get hv
          have fl2 : (rowF r x z.2 F j).length ≤ t.length := by
            have := nodup_lt_len (rowF_nodup (r := r) (x := x) (w := z.2) hw.ff.nd j) (rowF_lt rz hw.ff.lt j (by omega))
            rwa [List.length_map] at this
          refine ⟨_, rfl, _, rfl, f', _, rfl, DGet.k (k := Sum.inl ((r.getD j 0 : Nat) : Int)) p2, _, rfl, ?_⟩
          have sz := p3 (r.getD j 0)
          have er : rowF r x z.2 F (j + 1) = addF (r.getD j 0) z.2 (x.cps.toList.getD j 0) (rowF r x z.2 F j) := rfl
          rw [er]
          generalize rowF r x z.2 F j = G at p1 p3 p4 fl2 sz ⊢
          generalize r.getD j 0 = y at sz ⊢
          cases e : valV kvs' (Sum.inl ((y : Nat) : Int) : Key) with
          | none =>
            rw [e] at sz
            have nz : y ∉ G.map Prod.fst := fun q => by
              rw [decide_eq_true q] at sz
              cases sz
            rw [addF_new nz]
            refine iteT ?_
            refine ⟨_, rfl, _, rfl, f', _, rfl, DPut.k (k := Sum.inl ((y : Nat) : Int)) p2 (Nat.lt_of_le_of_lt (show kvs'.length ≤ 1000 by omega) (by decide)), ?_⟩
            have g1 : (upd H3 f' (.dK (putK kvs' (Sum.inl ((y : Nat) : Int)) (.bl true)))) l = some (.lst (nts (G.map Prod.fst))) := by
              rw [upd_ne lf]
              exact p1
            refine ⟨_, rfl, .inl ⟨rfl, _, SqL.of g1⟩, _, rfl, l, _, _, rfl, rfl, g1, ?_, some (.int ((y : Nat) : Int)), putK kvs' (Sum.inl ((y : Nat) : Int)) (.bl true), rfl, ?_, ?_, ?_, ?_, fun b' o h => ?_⟩
            · rw [nts_length, List.length_map]
              exact Nat.lt_of_le_of_lt (show G.length ≤ 1000 by omega) (by decide)
            · rw [upd_same, List.map_append, nts_append]
              rfl
            · rw [upd_ne (Ne.symm lf)]
              exact upd_same
            · rw [List.map_append]
              exact p3.put
            · rw [putK_new _ e, List.length_append, List.length_append]
              show kvs'.length + 1 ≤ G.length + 1
              omega
            · rw [upd_ne (neL h), upd_ne (neF h)]
              exact p8 _ _ h
          | some v =>
            rw [e] at sz
            have yz : y ∈ G.map Prod.fst := of_decide_eq_true sz.symm
            rw [addF_old yz]
            refine iteF ?_
            exact ⟨some (.int ((y : Nat) : Int)), kvs', rfl, p1, p2, p3, p4, p8⟩
        · rintro σ H2 ⟨g', kvs', rfl, p1, p2, p3, p4, p8⟩
          rw [nts_length, rl, ← hm] at p1 p3 p4
          have := rowF_len (r := r) (x := x) (w := z.2) (F := F) x.cps.size
          refine ⟨_, rfl, _, _, rfl, rfl, ⟨at' + 1, g', _, kvs', rfl, p1, p2, p3, p4, hnext, by omega, p8⟩, ?_⟩
          show t.length - (at' + 1) < t.length - at'
          omega
      · have hge : F.length ≤ at' := by
          by_cases q : F.length ≤ at'
          · exact q
          · exact absurd (decide_eq_true (show ((at' : Nat) : Int) < ((F.length : Nat) : Int) by omega)) hle
        have := hw.stop hge
        subst this
        exact ⟨_, rfl, k l H1 nl h1 s1⟩
    · rintro σ H1 Q1 Q2 hq h
      obtain ⟨v1, hv1, v2, hv2, p, ys, hp, hs, i1, i2, c1, c2, b, hb, hh⟩ := h
      exact ⟨v1, hv1, v2, hv2, p, ys, hp, hs, i1, i2, c1, c2, b, hb, hq _ _ hh⟩
end
end M3

set_option Elab.async false
set_option linter.all false
set_option maxRecDepth 100000
set_option maxHeartbeats 8000000
/-! # Ends marked; is a machine empty, is it full -/
namespace M3
open PySem L2
abbrev sMarked : Stmt := top 20
theorem scMarked : FnScope ["states", "state"] ["states"] (defScope sMarked) := ⟨rfl, rfl, rfl, by decide +kernel, rfl, by decide +kernel, by decide +kernel⟩
def spMarked (K : PySem.W.Frag) : Sp := fun vs H Q _ => ∃ (b : Addr) (es : List Nat), vs = [.ref b] ∧ SqT K H b (nts es) ∧ es.length ≤ 1000 ∧
  ∀ (D : Addr) (kvs : List (Key × V)) (H' : Hp), H D = none → H' D = some (.dK kvs) → SeenIs kvs es → Same H H' → Q (.ref D) H'
section
variable {P : Program} {w : World} {K : PySem.W.Frag} {mg : Str → Option Value} {base : Heap} {C : Addr}
theorem putK_len {kvs : List (Key × V)} {k : Key} {v : V} : (putK kvs k v).length ≤ kvs.length + 1 := by
  unfold putK
  split
  · rw [List.length_map]
    omega
  · rw [List.length_append]
    exact Nat.le_refl _
theorem ok_marked {f : Addr} {fd : FuncData} (F : Fun K "marked" "marked" sMarked f fd) : FnOk P w K mg base CX0 1 f fd ["states"] (spMarked K) := by
  refine F.ok scMarked (fun vs H Q E h => ?_) (fun cdv A outer s H vs Q E hr h => ?_)
  · obtain ⟨b, es, rfl, _⟩ := h
    rfl
  · obtain ⟨b, es, rfl, hb, he, k⟩ := h
    refine ⟨_, pss_one (ps_ret (pe_dc (own := [("state", 1)]) (g := gName 1) (tt := tYes) rfl scMarked.nd (pi_tup (pv 0)) (blkOk_by (N := ["states", "state"]) (sc := defScope sMarked) (by decide +kernel)) (fun _ _ _ _ _ => pg_name (i := 1) scMarked.nd rfl (Or.inl rfl)) (fun _ _ _ _ _ => pts_nil) (fun _ _ _ _ _ => pv 1) (fun _ _ _ _ _ => pe_bl))), ?_⟩
    refine ⟨_, rfl, b, rfl, ⟨_, hb⟩, fun D nD => ?_⟩
    have sm : ∀ {H9 : Hp}, (∀ b' o, b' ≠ D → H b' = some o → H9 b' = some o) → Same H H9 := fun z b' o h => z b' o (fun q => by rw [q, nD] at h; cases h) h
    refine dc_tup (K := K) (a := b) (xs := nts es) (fun j H9 => ∃ kvs : List (Key × V), H9 D = some (.dK kvs) ∧ SeenIs kvs (es.take j) ∧ kvs.length ≤ j ∧ ∀ b' o, b' ≠ D → H b' = some o → H9 b' = some o) ?_ ?_ ?_ ?_
    · exact ⟨[], upd_same, fun q => by rfl, Nat.le_refl _, fun b' o hb' h => keep_new h nD⟩
    · rintro i H9 _ ⟨kvs, _, _, _, z⟩
      exact sqt_same (sm z) hb
    · rintro i v H9 hv ⟨kvs, p1, p2, p3, p4⟩
      have hi : i < es.length := by
        have := (List.getElem?_eq_some_iff.mp hv).1
        rw [nts_length] at this
        exact this
      unfold nts at hv
      rw [List.getElem?_map, List.getElem?_eq_getElem hi] at hv
      cases hv
      refine ⟨rfl, tYes_if ?_⟩
      refine ⟨_, rfl, kvs, .inl ((es[i] : Nat) : Int), rfl, p1, Nat.lt_of_le_of_lt (show kvs.length ≤ 1000 by omega) (by decide), _, upd_same, ?_, ?_, fun b' o hb' h => by rw [upd_ne hb']; exact p4 b' o hb' h⟩
      · rw [take_snoc (List.getElem?_eq_getElem hi)]
        exact p2.put
      · have := putK_len (kvs := kvs) (k := (.inl ((es[i] : Nat) : Int) : Key)) (v := V.bl true)
        omega
    · rintro H9 ⟨kvs, p1, p2, p3, p4⟩
      have et : es.take (nts es).length = es := by
        rw [nts_length]
        exact List.take_length
      rw [et] at p2
      exact k D kvs H9 nD p1 p2 (sm p4)
def spEndMarks (K : PySem.W.Frag) : Sp := fun vs H Q _ => ∃ (a b : Addr) (us : List V) (t : List (List Nat)) (es : List Nat) (m : Nat), vs = [.ref a, .ref b] ∧ SqT K H a us ∧ Tups K H us t ∧ IsTab t t.length m ∧ 1 ≤ t.length ∧ t.length ≤ 1000 ∧ SqT K H b (nts es) ∧ es.length ≤ 1000 ∧
  ∀ (l : Addr) (fs : List Nat) (H' : Hp), (∀ z ∈ fs, z < t.length) → H' l = some (.lst ((fs.map fun q => decide (q ∈ es)).map V.bl)) → Same H H' → Q (.ref l) H'
end
end M3

set_option Elab.async false
set_option linter.all false
set_option maxRecDepth 100000
set_option maxHeartbeats 8000000
/-! # enumerate of a text -/
namespace NvY
open PySem PySem.Spec PyProof.Rows L2
def IteS (x : Str) : It := ⟨fun i _ => i < x.cps.size,
  fun i H v H' => ∃ (T : Addr) (a : Nat), v = .ref T ∧ H T = none ∧ H' = upd H T (.tup [.int (i : Nat), .str ⟨#[a]⟩]) ∧ x.cps[i]? = some a,
  fun i _ => i = x.cps.size⟩
theorem turn_enumS {P : Program} {w : World} {K : PySem.W.Frag} {elts : List Expr} {kk : Nat} {tpos : Pos} {x : Str} {t1 : Tok} {e it : Addr} (hne : e ≠ it) :
    Turn P w K (.Tuple elts kk tpos) (IteS x) (e :: [it]) e (fun i h => (∃ old, IsEnum h e it ((0 : Int) + (i : Int)) old) ∧ h.IsStrIter it (strIterType x) x t1 i) where
  mem := by simp
  obj := fun i h st c hc => by
    obtain ⟨⟨old, he⟩, ⟨o1, e1, _, d1⟩⟩ := st
    have e' : c = e ∨ c = it := by simpa using hc
    rcases e' with q | q
    · rw [q]; exact ⟨_, he, fun v q => nomatch q⟩
    · rw [q]; exact ⟨o1, e1, fun v q => by rw [d1] at q; cases q⟩
  keep := fun i h h' st k => by
    obtain ⟨⟨old, he⟩, ⟨o1, e1, r1⟩⟩ := st
    exact ⟨⟨old, k e (by simp) _ he⟩, ⟨o1, k it (by simp) _ e1, r1⟩⟩
  item := by
    intro X hP hw hK hc i pins s σ H E I hf st hg
    subst hP hw hK
    have hh : X.A.in1.handled = none := I.ok.hd hc
    have G := GoesN.enumFrom (elts := elts) (x1 := kk) (pos := tpos) 0 (Draws.text (prog := X.prog) (w := X.w) (A := X.A.in1) hh it x t1) e hne (by simpa using hne) (by simp)
    have live : ∀ b ∈ (e :: [it]), b < s.heap.objs.size := fun b hb => by
      obtain ⟨⟨old, he⟩, ⟨o1, e1, _⟩⟩ := id st
      have e' : b = e ∨ b = it := by simpa using hb
      rcases e' with q | q
      · rw [q]; exact Heap.lt_size he
      · rw [q]; exact Heap.lt_size e1
    refine G.goes i s (fun u s2 => ∃ v H', Inv X pins σ H' s2 ∧ RelV v u ∧ (IteS x).yld i H v H' ∧ _ ∧ ∀ b ∈ _, H' b = none) E hg st fun v h' tk hY st' hk htk => ?_
    obtain ⟨T, t, vx, rfl, hT, ⟨c1, u1, hx, rfl⟩, hIs⟩ := hY
    have hIs2 : IsTup h' T #[.int ((i : Nat) : Int) t, .str ⟨#[c1]⟩ u1] := by
      have z : (0 : Int) + (i : Int) = (i : Int) := Int.zero_add _
      rw [z] at hIs
      exact hIs
    have new : ObjOk X.prog X.w (upd H T (.tup [.int (i : Nat), .str ⟨#[c1]⟩])) h' T (.tup [.int (i : Nat), .str ⟨#[c1]⟩]) :=
      ⟨by show 2 ≤ sizeLine; decide, [.int (i : Nat) t, .str ⟨#[c1]⟩ u1], .cons ⟨t, rfl⟩ (.cons ⟨u1, rfl⟩ .nil), hIs2⟩
    have I1 : Inv X pins σ (upd H T (.tup [.int (i : Nat), .str ⟨#[c1]⟩])) { s with heap := h', toks := tk } :=
      I.turnedNew (t' := tk) (ch := [e, it]) hk (fun b hb => hf b (by
        have e' : b = e ∨ b = it := by simpa using hb
        rcases e' with q | q <;> rw [q] <;> simp)) hT new
    refine ⟨.ref T, _, I1, rfl, ⟨T, c1, rfl, I.hok.fresh hT, rfl, hx⟩, st', fun b hb => ?_⟩
    rw [upd_ne (Nat.ne_of_lt (Nat.lt_of_lt_of_le (live b hb) hT))]
    exact (hf b hb).1
  done := by
    intro X hP hw hK hc i pins s σ H E I hf st hg
    subst hP hw hK
    have hh : X.A.in1.handled = none := I.ok.hd hc
    have G := GoesN.enumFrom (elts := elts) (x1 := kk) (pos := tpos) 0 (Draws.text (prog := X.prog) (w := X.w) (A := X.A.in1) hh it x t1) e hne (by simpa using hne) (by simp)
    have hg : i = x.cps.size := hg
    subst hg
    refine G.stops s (fun s1 => Inv X pins σ H s1) E st fun h' tk hk htk => ?_
    exact I.turnedL (t' := tk) (ch := [e, it]) hk fun b hb => hf b (by
      have e' : b = e ∨ b = it := by simpa using hb
      rcases e' with q | q <;> rw [q] <;> simp)
  self := fun A i s Q E st h => let ⟨⟨_, he⟩, _⟩ := st; wpAny_pyIter_enum he h
def iEnumS (ta : TA) : TI := fun σ H R => ta σ H fun vs H1 => ∃ x : Str, vs = [.str x] ∧ R (IteS x) H1
theorem pi_enumS {X : Cx} {e : Expr} {ta : TA} {p pos tpos : Pos} {elts : List Expr} {kk : Nat} (hg : Gl X "enumerate") (hm : X.mg "enumerate" = none) (ha : PA X [e] ta) (hs : starEach [e] X.env = [(false, eval e X.env)] := by rfl) :
    PI X (.Tuple elts kk tpos) (.Call (.Name "enumerate" p) [e] [] pos) (iEnumS ta) := by
  refine ⟨fun pins s σ H R I h => ?_⟩
  refine Call_ (ld_blt I hg hm boot_enumerate (PyProof.Rows.callWith_type1 (thn (ha.run pos pins s σ H _ I h) fun us s1 ⟨vs, H1, I1, r1, q1⟩ => ?_) hs rfl))
  obtain ⟨x, ex, q⟩ := q1
  subst ex
  obtain ⟨u1, rfl, t1, rfl⟩ := vals1 r1
  refine call_enumerate_str fun h' he hit hsz hk => wpAny_pyIter_enum he ?_
  have I2 : Inv X pins σ H1 { s1 with heap := h' } := I1.kept (t' := s1.toks) hk
  refine ⟨s1.heap.objs.size + 1, _, _, _, H1, rfl, I2, turn_enumS (x := x) (t1 := t1) (e := s1.heap.objs.size + 1) (it := s1.heap.objs.size) (Nat.succ_ne_self _), ⟨⟨.none, he⟩, hit⟩, fun b hb => ?_, q⟩
  have e' : b = s1.heap.objs.size + 1 ∨ b = s1.heap.objs.size := by simpa using hb
  have hle : s1.heap.objs.size ≤ b := by
    rcases e' with z | z
    · rw [z]; exact Nat.le_add_right _ _
    · rw [z]; exact Nat.le_refl _
  exact I1.fpOk hle (I1.hok.fresh hle)
theorem walk_enumS {x : Str} : Walk (IteS x) x.cps.size (fun _ => True) (fun i H v H' => ∃ (T : Addr) (a : Nat), v = .ref T ∧ H T = none ∧ H' = upd H T (.tup [.int (i : Nat), .str ⟨#[a]⟩]) ∧ x.cps[i]? = some a) :=
  ⟨fun _ _ hi _ => hi, fun _ _ => rfl, fun _ _ _ _ _ _ y => y⟩
end NvY

set_option Elab.async false
set_option linter.all false
set_option maxRecDepth 100000
set_option maxHeartbeats 8000000
/-! # The actions of all words, with words for them -/
namespace M3
open PySem L2
abbrev sActWords : Stmt := top 37
abbrev nAW : List Str := ["table", "letters", "most", "words", "found", "at", "column", "letter", "goal"]
theorem scAW : FnScope nAW ["table", "letters", "most"] (defScope sActWords) := ⟨rfl, rfl, rfl, by decide +kernel, rfl, by decide +kernel, by decide +kernel⟩
/-- the dict of the found actions and their words -/
structure WordsA (t : List (List Nat)) (x : Str) (kvs : List (List Key × V)) (F : List (List Nat)) : Prop where
  has : ∀ (i : Nat) (r : List Nat), F[i]? = some r → ∃ w : Str, valV kvs (key r) = some (.str w) ∧ IsW x w ∧ r = act t x w.cps.toList ∧ w.length ≤ i
  len : kvs.length ≤ F.length
theorem snoc_cps (w : Str) (c : Nat) : (w ++ (⟨#[c]⟩ : Str)).cps.toList = w.cps.toList ++ [c] := by
  show (w.cps ++ #[c]).toList = _
  simp
theorem WordsA.put {t : List (List Nat)} {x : Str} {kvs : List (List Key × V)} {F : List (List Nat)} {r s : List Nat} {w : Str} {c i : Nat} (h : WordsA t x kvs F) (n : valV kvs (key s) = none) (hw : IsW x w) (er : r = act t x w.cps.toList) (hc : c ∈ x.cps.toList) (es : s = ledon t r (x.cps.toList.idxOf c)) (l : w.length ≤ i) (hi : i < F.length) :
    WordsA t x (putK kvs (key s) (.str (w ++ ⟨#[c]⟩))) (F ++ [s]) := by
  have sn := snoc_cps w c
  refine ⟨fun j r' e => ?_, ?_⟩
  · rcases snoc_at e with e | ⟨rfl, rfl⟩
    · obtain ⟨w', h1, h2, h3, h4⟩ := h.has j r' e
      refine ⟨w', ?_, h2, h3, h4⟩
      rw [valV_put]
      by_cases q : key r' = key s
      · rw [q, n] at h1
        cases h1
      · rw [if_neg q]
        exact h1
    · refine ⟨w ++ ⟨#[c]⟩, by rw [valV_put, if_pos rfl], fun d hd => ?_, by rw [sn, act_snoc, es, er], ?_⟩
      · rw [sn] at hd
        rcases List.mem_append.mp hd with q | q
        · exact hw d q
        · rw [List.mem_singleton.mp q]
          exact hc
      · show (w.cps ++ #[c]).size ≤ F.length
        have : w.cps.size ≤ i := l
        simp
        omega
  · have := putT_len (kvs := kvs) (k := key s) (v := V.str (w ++ ⟨#[c]⟩))
    have := h.len
    rw [List.length_append]
    show _ ≤ F.length + 1
    omega
theorem set_ix {x : Str} {m j c : Nat} (h : IsSet x m) (h2 : m ≤ 2) (e : x.cps.toList[j]? = some c) : x.cps.toList.idxOf c = j := by
  obtain ⟨cs, rfl, hl, hp, _⟩ := h
  have e : cs[j]? = some c := e
  show cs.idxOf c = j
  match cs, hl, hp, j, e with
  | [a], _, _, 0, e =>
    cases e
    simp
  | [a, b], _, _, 0, e =>
    cases e
    simp
  | [a, b], _, hp, 1, e =>
    cases e
    have ab : a < c := by simpa using hp
    have n : (a == c) = false := beq_eq_false_iff_ne.mpr (by omega)
    simp [List.idxOf_cons, n]
  | _ :: _ :: _ :: l, hl, _, _, _ =>
    have hl : l.length + 3 = m := hl
    omega
def spActWords (K : PySem.W.Frag) : Sp := fun vs H Q _ => ∃ (a : Addr) (x : Str) (us : List V) (t : List (List Nat)) (m mo : Nat), vs = [.ref a, .str x, .int mo] ∧ SqT K H a us ∧ Tups K H us t ∧ IsTab t t.length m ∧ IsSet x m ∧ m ≤ 2 ∧ t.length ≤ 1000 ∧ mo ≤ 1000 ∧
  ∀ (D : Addr) (kW : List (List Key × V)) (Fs : List (List Nat)) (H' : Hp), H' D = some (.dT kW) → WordsA t x kW Fs → kW.length ≤ 2000 → Fs.Nodup → (∀ r ∈ Fs, (∀ z ∈ r, z < t.length) ∧ r.length = t.length) → Same H H' → Q (.ref D) H'
section
variable {P : Program} {w : World} {K : PySem.W.Frag} {mg : Str → Option Value} {base : Heap}
theorem ok_actwords {f g g2 : Addr} {fd gd gd2 : FuncData} (F : Fun K "action_words" "action_words" sActWords f fd) (G : Fun K "unmoved" "unmoved" sUnmoved g gd) (bG : Binds K gd ["table"] []) (mG : mg "unmoved" = some (.ref g)) (G2 : Fun K "led_on" "led_on" sLedOn g2 gd2) (b2 : Binds K gd2 ["table", "states", "column"] []) (m2 : mg "led_on" = some (.ref g2)) (M : TxM mg) (hE : mg "enumerate" = none) :
    FnOk P w K mg base CX0 2 f fd ["table", "letters", "most"] (spActWords K) := by
  have GU : FnOk P w K mg base CX0 1 g gd ["table"] (spUnmoved K) := ok_unmoved G M
  have GL : FnOk P w K mg base CX0 1 g2 gd2 ["table", "states", "column"] (spLedOn K) := ok_ledon G2 M
  refine F.ok scAW (fun vs H Q E h => ?_) (fun cdv A outer s H vs Q E hr h => ?_)
  · obtain ⟨a, x, us, t, m, mo, rfl, _⟩ := h
    rfl
  · obtain ⟨a, x, us, t, m, mo, rfl, ha, hT, tb, st, hm2, tl, hmo, k⟩ := h
    have hu := hu_of hr
    have hu0 : (A.deeper (PyProof.Rows.envOfC "action_words" (defScope sActWords) s.heap.objs.size f cdv)).units < cLine := Nat.lt_of_succ_lt hu
    refine ⟨_, pss_cons (ps_set (i := 3) scAW.nd rfl (Or.inl rfl) (NvQ.pe_disp1 hu0 (pe_call GU hr rfl mG G.kp bG .nil pass0 (pa_cons (pv 0) pa_nil)) pe_str))
      (pss_cons (ps_set (i := 4) scAW.nd rfl (Or.inl rfl) (pe_lst (pa_cons (pe_call GU hr rfl mG G.kp bG .nil pass0 (pa_cons (pv 0) pa_nil)) pa_nil)))
      (pss_cons (ps_set (i := 5) scAW.nd rfl (Or.inl rfl) pe_int)
      (pss_cons (ps_while PassesOwn.never (pt_chain op_lt op_le (pv 5) (pe_callB call_len_seq (by rfl) M.len PySem.boot_len (pa_cons (pv 4) pa_nil)) (pv 2))
        (pss_cons (ps_for PassesOwn.never rfl (NvY.pi_enumS rfl hE (pa_cons (pv 1) pa_nil)) (pg_tup rfl (pgs_cons (pg_name (i := 6) scAW.nd rfl (Or.inl rfl)) (pgs_cons (pg_name (i := 7) scAW.nd rfl (Or.inl rfl)) pgs_nil)))
          (pss_cons (ps_set (i := 8) scAW.nd rfl (Or.inl rfl) (pe_call GL hr rfl m2 G2.kp b2 .nil pass0 (pa_cons (pv 0) (pa_cons (pe_ix ix_list (pv 4) (pv 5) (fun _ _ => rfl)) (pa_cons (pv 6) pa_nil)))))
          (pss_one (ps_if (pt_cmp (pc_dnotin hu (pv 8) (pv 3)))
            (pss_cons (ps_dput hu (pv 3) (pv 8) (pe_op op_add_str (pe_dget hu (pv 3) (pe_ix ix_list (pv 4) (pv 5) (fun _ _ => rfl)) (fun _ _ => rfl)) (pv 7)) rfl)
            (pss_one (ps_expr (pe_bm PySem.F.plainAttrs_list PySem.F.slot_list_append PySem.F.type_list_append mt_append (pv 4) (pa_cons (pv 8) pa_nil))))) pss_nil))))
        (pss_one (ps_aug (i := 5) scAW.nd rfl (.inl rfl) pe_int ip_add))))
      (pss_one (ps_ret (pv 3)))))), ?_⟩
    have lu : us.length = t.length := hT.1
    have hm : x.cps.toList.length = m := by
      have := set_len st
      simpa [Str.length] using this
    have free : ∀ {H9 : Hp} {q : Addr}, Same H H9 → H9 q = none → H q = none := fun {H9 q} sx hq => by
      cases e : H q with
      | none => rfl
      | some o =>
        have := sx _ _ e
        rw [hq] at this
        cases this
    intro LW nLW
    have s0 : Same H (upd H LW (.dT [])) := Same.new (Same.refl H) nLW
    refine ⟨_, rfl, a, us, rfl, sqt_same s0 ha, by omega, fun p0 H1 np h1 s1 => ?_⟩
    rw [lu] at h1
    have hW1 : H1 LW = some (.dT []) := s1 _ _ upd_same
    have pW : p0 ≠ LW := ne_of h1 hW1 (fun z => by cases z)
    refine ⟨p0, key (List.range t.length), .str "", rfl, hW1, by rw [key_tup]; exact h1, ?_⟩
    have hW2 : (upd H1 LW (.dT [(key (List.range t.length), .str "")])) LW = some (.dT [(key (List.range t.length), .str "")]) := upd_same
    have sx : Same H (upd H1 LW (.dT [(key (List.range t.length), .str "")])) := fun b o h => by
      rw [upd_ne (ne_of_none h nLW)]
      exact (s0.trans s1) _ _ h
    generalize upd H1 LW (.dT [(key (List.range t.length), .str "")]) = H2 at hW2 sx ⊢
    clear h1 hW1 pW s1 np
    refine ⟨_, rfl, a, us, rfl, sqt_same sx ha, by omega, fun p1 H3 np h3 s3 => ⟨(by show 1 ≤ sizeLine; decide), fun LF nLF => ?_⟩⟩
    rw [lu] at h3
    have fLF : H LF = none := free (sx.trans s3) nLF
    have hF4 : (upd H3 LF (.lst [.ref p1])) LF = some (.lst [.ref p1]) := upd_same
    have hp4 : (upd H3 LF (.lst [.ref p1])) p1 = some (.tup (nts (List.range t.length))) := keep_new h3 nLF
    have hW4 : (upd H3 LF (.lst [.ref p1])) LW = some (.dT [(key (List.range t.length), .str "")]) := keep_new (s3 _ _ hW2) nLF
    have s4 : Same H (upd H3 LF (.lst [.ref p1])) := Same.new (sx.trans s3) nLF
    generalize upd H3 LF (.lst [.ref p1]) = H4 at hF4 hp4 hW4 s4 ⊢
    clear h3 s3 nLF np hW2 sx
    have FW : LF ≠ LW := ne_of hF4 hW4 (fun z => by cases z)
    refine while_by (fun σ H' => ∃ (us' : List V) (Fs : List (List Nat)) (kW : List (List Key × V)) (at' : Nat) (v1 v2 v3 : Option V), σ = [some (.ref a), some (.str x), some (.int (mo : Nat)), some (.ref LW), some (.ref LF), some (.int (at' : Nat)), v1, v2, v3] ∧
        H' LF = some (.lst us') ∧ H' LW = some (.dT kW) ∧ RowsA H' us' Fs ∧ WordsA t x kW Fs ∧ (∀ r ∈ Fs, (∀ z ∈ r, z < t.length) ∧ r.length = t.length) ∧ Fs.length ≤ mo + 2 ∧ Fs.Nodup ∧ Same H H')
      (fun σ H' => match σ with | [_, _, _, _, _, some (.int i), _, _, _] => mo + 1 - i.toNat | _ => 0)
      ⟨[.ref p1], [List.range t.length], _, 0, none, none, none, rfl, hF4, hW4, ?_, ?_, ?_, (by show 1 ≤ mo + 2; omega), (by simp), s4⟩ ?_ ?_
    · exact ⟨rfl, fun i r e => by
        match i, e with
        | 0, e => exact ⟨p1, rfl, by cases e; exact hp4⟩⟩
    · refine ⟨fun i r e => ?_, Nat.le_refl _⟩
      match i, e with
      | 0, e =>
        cases e
        have e0 : ("" : Str).cps.toList = [] := by decide +kernel
        refine ⟨"", valV_pos rfl, fun c hc => ?_, by rw [e0, act_nil], by decide +kernel⟩
        rw [e0] at hc
        cases hc
    · intro r hr'
      rw [List.mem_singleton.mp hr']
      exact ⟨fun z hz => List.mem_range.mp hz, List.length_range⟩
    · rintro σ H5 ⟨us', Fs, kW, at', v1, v2, v3, rfl, hF, hW, RA, WA, wf, lf, nd, sH⟩
      refine ⟨_, rfl, _, rfl, LF, us', rfl, .inl (SqL.of hF), _, _, rfl, rfl, _, rfl, ?_⟩
      rw [RA.1]
      have stop : kW.length ≤ 2000 := by have := WA.len; omega
      refine ite2 (fun h1 => ?_) (fun h1 => ?_)
      · refine ⟨_, rfl, _, _, rfl, rfl, _, rfl, ?_⟩
        have h1 : at' < Fs.length := by
          have := of_decide_eq_true h1
          omega
        refine ite2 (fun h2 => ?_) (fun h2 => ?_)
        · have h2 : Fs.length ≤ mo := by
            have := of_decide_eq_true h2
            omega
          refine ⟨_, rfl, x, rfl, for_it NvY.walk_enumS (fun j σ H' => ∃ (us' : List V) (Fs : List (List Nat)) (kW : List (List Key × V)) (v1 v2 v3 : Option V), σ = [some (.ref a), some (.str x), some (.int (mo : Nat)), some (.ref LW), some (.ref LF), some (.int (at' : Nat)), v1, v2, v3] ∧
              H' LF = some (.lst us') ∧ H' LW = some (.dT kW) ∧ RowsA H' us' Fs ∧ WordsA t x kW Fs ∧ (∀ r ∈ Fs, (∀ z ∈ r, z < t.length) ∧ r.length = t.length) ∧ Fs.length ≤ mo + j ∧ at' < Fs.length ∧ Fs.Nodup ∧ Same H H')
            ⟨us', Fs, kW, v1, v2, v3, rfl, hF, hW, RA, WA, wf, by omega, h1, nd, sH⟩ (fun _ _ _ _ _ => trivial) ?_ ?_⟩
          · rintro j v σ H6 H7 hj ⟨us', Fs, kW, v1, v2, v3, rfl, hF, hW, RA, WA, wf, lf, la, nd, sH⟩ ⟨T, c, rfl, nT, rfl, hc⟩
            have hc' : x.cps.toList[j]? = some c := by simpa using hc
            have cx : c ∈ x.cps.toList := List.mem_of_getElem? hc'
            have jm : j < m := by
              have : x.cps.toList.length = m := hm
              have e : x.cps.toList.length = x.cps.size := by simp
              omega
            have ej : x.cps.toList.idxOf c = j := set_ix st hm2 hc'
            obtain ⟨bq, b1, b2'⟩ := RA.2 at' _ (List.getElem?_eq_getElem la)
            obtain ⟨w1, w2⟩ := wf _ (List.getElem_mem la)
            obtain ⟨wd, d1, d2, d3, d4⟩ := WA.has at' _ (List.getElem?_eq_getElem la)
            generalize Fs[at'] = r at b2' w1 w2 d1 d3
            refine ⟨T, _, rfl, SqT.of upd_same, rfl, _, _, rfl, _, _, rfl, rfl, ?_⟩
            have hF := keep_new (u := .tup [.int (j : Nat), .str ⟨#[c]⟩]) hF nT
            have hW := keep_new (u := .tup [.int (j : Nat), .str ⟨#[c]⟩]) hW nT
            have b2' := keep_new (u := .tup [.int (j : Nat), .str ⟨#[c]⟩]) b2' nT
            have RA := RA.to (H' := upd H6 T (.tup [.int (j : Nat), .str ⟨#[c]⟩])) (fun b ys h => keep_new h nT)
            have sH : Same H (upd H6 T (.tup [.int (j : Nat), .str ⟨#[c]⟩])) := Same.new sH nT
            generalize upd H6 T (.tup [.int (j : Nat), .str ⟨#[c]⟩]) = H8 at hF hW b2' RA sH ⊢
            refine ⟨_, rfl, _, rfl, _, rfl, LF, us', _, _, rfl, rfl, SqL.of hF, atI_nat b1, _, rfl, a, bq, us, t, r, j, m, rfl, sqt_same sH ha, hT.same sH, tb, SqT.of b2', w1, by omega, jm, fun g H9 ng hg sg => ?_⟩
            have hF := sg _ _ hF
            have hW := sg _ _ hW
            have RA := RA.to (H' := H9) (fun b ys h => sg _ _ h)
            have sH := sH.trans sg
            have lw := ledon_lt tb jm w1
            have ll : (ledon t r j).length = t.length := by
              unfold ledon
              rw [List.length_map, w2]
            have hg' : H9 g = some (.tup ((key (ledon t r j)).map kV)) := by rw [key_tup]; exact hg
            refine ⟨_, rfl, _, rfl, LW, _, rfl, DGet.t (k := key (ledon t r j)) hW hg', _, rfl, ?_⟩
            have sz : (100000 : Nat) < sizeLine := by decide
            cases e : valV kW (key (ledon t r j)) with
            | some v =>
              refine iteF ?_
              exact ⟨us', Fs, kW, _, _, _, rfl, hF, hW, RA, WA, wf, by omega, la, nd, sH⟩
            | none =>
              refine iteT ?_
              obtain ⟨bq', e1, e2⟩ := RA.2 at' _ (List.getElem?_eq_getElem la)
              have bb : bq' = bq := by
                rw [b1] at e1
                exact (V.ref.inj (Option.some.inj e1)).symm
              subst bb
              have b3 := sg _ _ b2'
              have G : DGet H9 LW (.ref bq') (some (.str wd)) := by
                have q := DGet.t (k := key r) hW (by rw [key_tup]; exact b3)
                rw [d1] at q
                exact q
              have wl : wd.length + (⟨#[c]⟩ : Str).length ≤ sizeLine := by
                have : (⟨#[c]⟩ : Str).length = 1 := rfl
                omega
              refine ⟨_, rfl, _, rfl, _, rfl, LF, us', _, _, rfl, rfl, SqL.of hF, atI_nat b1, LW, _, rfl, G, _, rfl, wd, ⟨#[c]⟩, rfl, rfl, wl, _, rfl, _, rfl, LW, _, rfl, DPut.t hW hg' (by have := WA.len; omega), ?_⟩
              have gF : g ≠ LF := ne_of hg hF (fun z => by cases z)
              have gW : g ≠ LW := ne_of hg hW (fun z => by cases z)
              have FW : LF ≠ LW := ne_of hF hW (fun z => by cases z)
              have WA2 := WA.put (c := c) e d2 d3 cx (by rw [ej]) d4 la
              have hFa : (upd H9 LW (.dT (putK kW (key (ledon t r j)) (.str (wd ++ ⟨#[c]⟩))))) LF = some (.lst us') := by rw [upd_ne FW]; exact hF
              have lF : us'.length = Fs.length := RA.1
              refine ⟨_, rfl, .inl ⟨rfl, _, SqL.of hFa⟩, _, rfl, LF, us', .ref g, rfl, rfl, hFa, (by omega), ?_⟩
              refine ⟨us' ++ [.ref g], Fs ++ [ledon t r j], putK kW (key (ledon t r j)) (.str (wd ++ ⟨#[c]⟩)), _, _, _, rfl, upd_same, ?_, ?_, WA2, ?_, ?_, ?_, ?_, ?_⟩
              · rw [upd_ne (Ne.symm FW)]
                exact upd_same
              · refine (RA.to fun b ys h => ?_).snoc ?_
                · rw [upd_ne (ne_of h hF (fun z => by cases z)), upd_ne (ne_of h hW (fun z => by cases z))]
                  exact h
                · rw [upd_ne gF, upd_ne gW]
                  exact hg
              · intro r' hr2
                rcases List.mem_append.mp hr2 with q | q
                · exact wf r' q
                · rw [List.mem_singleton.mp q]
                  exact ⟨lw, ll⟩
              · rw [List.length_append]
                show Fs.length + 1 ≤ _
                omega
              · rw [List.length_append]
                omega
              · rw [List.nodup_append]
                refine ⟨nd, by simp, fun y hy z hz q => ?_⟩
                rw [List.mem_singleton.mp hz] at q
                obtain ⟨i', hi', ei'⟩ := List.getElem_of_mem hy
                obtain ⟨w', h1', _⟩ := WA.has i' y (by rw [List.getElem?_eq_getElem hi', ei'])
                rw [q, e] at h1'
                cases h1'
              · intro b o h
                rw [upd_ne (ne_of_none h fLF), upd_ne (ne_of_none h nLW)]
                exact sH _ _ h
          · rintro σ H6 ⟨us', Fs, kW, v1, v2, v3, rfl, hF, hW, RA, WA, wf, lf, la, nd, sH⟩
            have xs2 : x.cps.size ≤ 2 := by
              have e : x.cps.toList.length = x.cps.size := by simp
              omega
            refine ⟨_, rfl, _, _, rfl, rfl, ⟨us', Fs, kW, at' + 1, v1, v2, v3, rfl, hF, hW, RA, WA, wf, by omega, nd, sH⟩, ?_⟩
            show mo + 1 - (at' + 1) < mo + 1 - at'
            omega
        · exact ⟨_, rfl, k LW kW Fs H5 hW WA stop nd wf sH⟩
      · exact ⟨_, rfl, iteF ⟨_, rfl, k LW kW Fs H5 hW WA stop nd wf sH⟩⟩
    · rintro σ H1 Q1 Q2 hq h
      obtain ⟨v1, hv1, v2, hv2, p, ys, hp, hs, i1, i2, c1, c2, b, hb, hh⟩ := h
      refine ⟨v1, hv1, v2, hv2, p, ys, hp, hs, i1, i2, c1, c2, b, hb, ?_⟩
      cases b with
      | true =>
        obtain ⟨v3, hv3, j1, j2, d1, d2, b2, hb2, hh⟩ := hh
        exact ⟨v3, hv3, j1, j2, d1, d2, b2, hb2, hq _ _ hh⟩
      | false =>
        obtain ⟨b2, hb2, hh⟩ := hh
        exact ⟨b2, hb2, hq _ _ hh⟩
end
end M3

set_option Elab.async false
set_option linter.all false
set_option maxRecDepth 100000
set_option maxHeartbeats 8000000
/-! # The actions of all words: just what action_words gives, by a function on lists -/
namespace M3
open PySem L2
/-- one action further by one letter, if it is new -/
def addA (t : List (List Nat)) (r : List Nat) (w : Str) (j c : Nat) (F : List (List Nat × Str)) : List (List Nat × Str) :=
  if ledon t r j ∈ F.map Prod.fst then F else F ++ [(ledon t r j, w ++ ⟨#[c]⟩)]
/-- .. by the first letters, so many -/
def rowA (t : List (List Nat)) (x : Str) (r : List Nat) (w : Str) (F : List (List Nat × Str)) : Nat → List (List Nat × Str)
  | 0 => F
  | j + 1 => addA t r w j (x.cps.toList.getD j 0) (rowA t x r w F j)
/-- one found action after the other -/
def bfsL (t : List (List Nat)) (x : Str) (mo : Nat) : Nat → Nat → List (List Nat × Str) → List (List Nat × Str)
  | 0, _, F => F
  | n + 1, i, F => match F[i]? with
    | none => F
    | some z => if F.length ≤ mo then bfsL t x mo n (i + 1) (rowA t x z.1 z.2 F x.cps.size) else F
/-- the actions in the order of their words, with these -/
def bfs (t : List (List Nat)) (x : Str) (mo : Nat) : List (List Nat × Str) := bfsL t x mo (mo + 1) 0 [(List.range t.length, "")]
def ents (F : List (List Nat × Str)) : List (List Key × V) := F.map fun z => (key z.1, V.str z.2)
theorem ents_none {s : List Nat} : ∀ {F : List (List Nat × Str)}, s ∉ F.map Prod.fst → valV (ents F) (key s) = none
  | [], _ => valV_nil
  | z :: F, h => by
    have h1 : ¬ key z.1 = key s := fun e => h (by rw [← key_inj e]; exact List.mem_cons_self)
    show valV ((key z.1, V.str z.2) :: ents F) (key s) = none
    rw [valV_neg h1]
    exact ents_none fun h2 => h (List.mem_cons_of_mem _ h2)
theorem ents_some {s : List Nat} : ∀ {F : List (List Nat × Str)}, s ∈ F.map Prod.fst → ∃ w, valV (ents F) (key s) = some (.str w)
  | z :: F, h => by
    by_cases h1 : key z.1 = key s
    · exact ⟨z.2, valV_pos h1⟩
    · show ∃ w, valV ((key z.1, V.str z.2) :: ents F) (key s) = some (.str w)
      rw [valV_neg h1]
      rcases List.mem_cons.mp h with h2 | h2
      · rw [h2] at h1
        exact absurd rfl h1
      · exact ents_some h2
theorem ents_at {F : List (List Nat × Str)} (nd : (F.map Prod.fst).Nodup) : ∀ {i : Nat} {z : List Nat × Str}, F[i]? = some z → valV (ents F) (key z.1) = some (.str z.2) := by
  induction F with
  | nil =>
    intro i z h
    cases h
  | cons y F ih =>
    intro i z h
    have nd' : y.1 ∉ F.map Prod.fst ∧ (F.map Prod.fst).Nodup := List.nodup_cons.mp nd
    cases i with
    | zero =>
      cases h
      exact valV_pos rfl
    | succ i =>
      have h : F[i]? = some z := h
      have ne : ¬ key y.1 = key z.1 := fun e => nd'.1 (by
        rw [key_inj e]
        exact List.mem_map.mpr ⟨z, List.mem_of_getElem? h, rfl⟩)
      show valV ((key y.1, V.str y.2) :: ents F) (key z.1) = _
      rw [valV_neg ne]
      exact ih nd'.2 h
theorem put_new {s : List Nat} {w : Str} {F : List (List Nat × Str)} (h : s ∉ F.map Prod.fst) : putK (ents F) (key s) (.str w) = ents (F ++ [(s, w)]) := by
  rw [putK_new _ (ents_none h)]
  unfold ents
  rw [List.map_append]
  rfl
theorem addA_old {t : List (List Nat)} {r : List Nat} {w : Str} {j c : Nat} {F : List (List Nat × Str)} (h : ledon t r j ∈ F.map Prod.fst) : addA t r w j c F = F := if_pos h
theorem addA_new {t : List (List Nat)} {r : List Nat} {w : Str} {j c : Nat} {F : List (List Nat × Str)} (h : ledon t r j ∉ F.map Prod.fst) : addA t r w j c F = F ++ [(ledon t r j, w ++ ⟨#[c]⟩)] := if_neg h
theorem addA_at {t : List (List Nat)} {r : List Nat} {w : Str} {j c i : Nat} {z : List Nat × Str} {F : List (List Nat × Str)} (h : F[i]? = some z) : (addA t r w j c F)[i]? = some z := by
  unfold addA
  split
  · exact h
  · exact at_app h _
theorem rowA_at {t : List (List Nat)} {x : Str} {r : List Nat} {w : Str} {i : Nat} {z : List Nat × Str} {F : List (List Nat × Str)} (h : F[i]? = some z) : ∀ n, (rowA t x r w F n)[i]? = some z
  | 0 => h
  | n + 1 => addA_at (rowA_at h n)
theorem addA_nodup {t : List (List Nat)} {r : List Nat} {w : Str} {j c : Nat} {F : List (List Nat × Str)} (h : (F.map Prod.fst).Nodup) : ((addA t r w j c F).map Prod.fst).Nodup := by
  unfold addA
  split
  · exact h
  · rename_i n
    rw [List.map_append, List.nodup_append]
    refine ⟨h, by simp, fun y hy z hz q => ?_⟩
    have hz : z ∈ [ledon t r j] := hz
    rw [List.mem_singleton.mp hz] at q
    rw [q] at hy
    exact n hy
theorem rowA_nodup {t : List (List Nat)} {x : Str} {r : List Nat} {w : Str} {F : List (List Nat × Str)} (h : (F.map Prod.fst).Nodup) : ∀ n, ((rowA t x r w F n).map Prod.fst).Nodup
  | 0 => h
  | n + 1 => addA_nodup (rowA_nodup h n)
theorem addA_len {t : List (List Nat)} {r : List Nat} {w : Str} {j c : Nat} {F : List (List Nat × Str)} : (addA t r w j c F).length ≤ F.length + 1 := by
  unfold addA
  split
  · omega
  · rw [List.length_append]
    exact Nat.le_refl _
theorem rowA_len {t : List (List Nat)} {x : Str} {r : List Nat} {w : Str} {F : List (List Nat × Str)} : ∀ n, (rowA t x r w F n).length ≤ F.length + n
  | 0 => Nat.le_refl _
  | n + 1 => by
    have := rowA_len (t := t) (x := x) (r := r) (w := w) (F := F) n
    have h := addA_len (t := t) (r := r) (w := w) (j := n) (c := x.cps.toList.getD n 0) (F := rowA t x r w F n)
    show (addA t r w n (x.cps.toList.getD n 0) (rowA t x r w F n)).length ≤ _
    omega
/-- what is kept of each found action: lines of states, short words of the letters -/
def FoundA (t : List (List Nat)) (x : Str) (F : List (List Nat × Str)) : Prop := ∀ (i : Nat) (z : List Nat × Str), F[i]? = some z → (∀ q ∈ z.1, q < t.length) ∧ z.1.length = t.length ∧ IsW x z.2 ∧ z.1 = act t x z.2.cps.toList ∧ z.2.length ≤ i
theorem addA_found {t : List (List Nat)} {x : Str} {m : Nat} (tb : IsTab t t.length m) {F : List (List Nat × Str)} {i j c : Nat} {z : List Nat × Str} (h : FoundA t x F) (hz : F[i]? = some z) {G : List (List Nat × Str)} (hG : FoundA t x G) (hi : i < G.length) (hj : j < m) (hc : c ∈ x.cps.toList) (ej : x.cps.toList.idxOf c = j) : FoundA t x (addA t z.1 z.2 j c G) := by
  unfold addA
  split
  · exact hG
  · intro k y hy
    obtain ⟨z1, z2, z3, z4, z5⟩ := h i z hz
    rcases snoc_at hy with hy | ⟨rfl, rfl⟩
    · exact hG k y hy
    · have sn := snoc_cps z.2 c
      refine ⟨ledon_lt tb hj z1, ?_, fun d hd => ?_, ?_, ?_⟩
      · show (ledon t z.1 j).length = _
        unfold ledon
        rw [List.length_map, z2]
      · have hd : d ∈ (z.2 ++ (⟨#[c]⟩ : Str)).cps.toList := hd
        rw [sn] at hd
        rcases List.mem_append.mp hd with q | q
        · exact z3 d q
        · rw [List.mem_singleton.mp q]
          exact hc
      · show ledon t z.1 j = act t x (z.2 ++ (⟨#[c]⟩ : Str)).cps.toList
        rw [sn, act_snoc, ej, ← z4]
      · show (z.2.cps ++ #[c]).size ≤ G.length
        have : z.2.cps.size ≤ i := z5
        simp
        omega
def spActWordsE (K : PySem.W.Frag) : Sp := fun vs H Q _ => ∃ (a : Addr) (x : Str) (us : List V) (t : List (List Nat)) (m mo : Nat), vs = [.ref a, .str x, .int mo] ∧ SqT K H a us ∧ Tups K H us t ∧ IsTab t t.length m ∧ IsSet x m ∧ m ≤ 2 ∧ t.length ≤ 1000 ∧ mo ≤ 1000 ∧
  ∀ (D : Addr) (H' : Hp), H' D = some (.dT (ents (bfs t x mo))) → Same H H' → Q (.ref D) H'
theorem getD_some' {l : List Nat} {q v : Nat} (h : l[q]? = some v) : l.getD q 0 = v := by
  rw [List.getD_eq_getElem?_getD, h]
  rfl
theorem bfsL_stop {t : List (List Nat)} {x : Str} {mo i : Nat} {F : List (List Nat × Str)} (h : F.length ≤ i ∨ mo < F.length) : ∀ n, bfsL t x mo n i F = F
  | 0 => rfl
  | n + 1 => by
    show (match F[i]? with
      | none => F
      | some z => if F.length ≤ mo then bfsL t x mo n (i + 1) (rowA t x z.1 z.2 F x.cps.size) else F) = F
    rcases h with h | h
    · rw [List.getElem?_eq_none h]
    · split
      · rfl
      · exact if_neg (by omega)
section
variable {P : Program} {w : World} {K : PySem.W.Frag} {mg : Str → Option Value} {base : Heap}
theorem ok_actwordsE {f g g2 : Addr} {fd gd gd2 : FuncData} (F : Fun K "action_words" "action_words" sActWords f fd) (G : Fun K "unmoved" "unmoved" sUnmoved g gd) (bG : Binds K gd ["table"] []) (mG : mg "unmoved" = some (.ref g)) (G2 : Fun K "led_on" "led_on" sLedOn g2 gd2) (b2 : Binds K gd2 ["table", "states", "column"] []) (m2 : mg "led_on" = some (.ref g2)) (M : TxM mg) (hE : mg "enumerate" = none) :
    FnOk P w K mg base CX0 2 f fd ["table", "letters", "most"] (spActWordsE K) := by
  have GU : FnOk P w K mg base CX0 1 g gd ["table"] (spUnmoved K) := ok_unmoved G M
  have GL : FnOk P w K mg base CX0 1 g2 gd2 ["table", "states", "column"] (spLedOn K) := ok_ledon G2 M
  refine F.ok scAW (fun vs H Q E h => ?_) (fun cdv A outer s H vs Q E hr h => ?_)
  · obtain ⟨a, x, us, t, m, mo, rfl, _⟩ := h
    rfl
  · obtain ⟨a, x, us, t, m, mo, rfl, ha, hT, tb, st, hm2, tl, hmo, k⟩ := h
    have hu := hu_of hr
    have hu0 : (A.deeper (PyProof.Rows.envOfC "action_words" (defScope sActWords) s.heap.objs.size f cdv)).units < cLine := Nat.lt_of_succ_lt hu
    refine ⟨_, pss_cons (ps_set (i := 3) scAW.nd rfl (Or.inl rfl) (NvQ.pe_disp1 hu0 (pe_call GU hr rfl mG G.kp bG .nil pass0 (pa_cons (pv 0) pa_nil)) pe_str))
      (pss_cons (ps_set (i := 4) scAW.nd rfl (Or.inl rfl) (pe_lst (pa_cons (pe_call GU hr rfl mG G.kp bG .nil pass0 (pa_cons (pv 0) pa_nil)) pa_nil)))
      (pss_cons (ps_set (i := 5) scAW.nd rfl (Or.inl rfl) pe_int)
      (pss_cons (ps_while PassesOwn.never (pt_chain op_lt op_le (pv 5) (pe_callB call_len_seq (by rfl) M.len PySem.boot_len (pa_cons (pv 4) pa_nil)) (pv 2))
        (pss_cons (ps_for PassesOwn.never rfl (NvY.pi_enumS rfl hE (pa_cons (pv 1) pa_nil)) (pg_tup rfl (pgs_cons (pg_name (i := 6) scAW.nd rfl (Or.inl rfl)) (pgs_cons (pg_name (i := 7) scAW.nd rfl (Or.inl rfl)) pgs_nil)))
          (pss_cons (ps_set (i := 8) scAW.nd rfl (Or.inl rfl) (pe_call GL hr rfl m2 G2.kp b2 .nil pass0 (pa_cons (pv 0) (pa_cons (pe_ix ix_list (pv 4) (pv 5) (fun _ _ => rfl)) (pa_cons (pv 6) pa_nil)))))
          (pss_one (ps_if (pt_cmp (pc_dnotin hu (pv 8) (pv 3)))
            (pss_cons (ps_dput hu (pv 3) (pv 8) (pe_op op_add_str (pe_dget hu (pv 3) (pe_ix ix_list (pv 4) (pv 5) (fun _ _ => rfl)) (fun _ _ => rfl)) (pv 7)) rfl)
            (pss_one (ps_expr (pe_bm PySem.F.plainAttrs_list PySem.F.slot_list_append PySem.F.type_list_append mt_append (pv 4) (pa_cons (pv 8) pa_nil))))) pss_nil))))
        (pss_one (ps_aug (i := 5) scAW.nd rfl (.inl rfl) pe_int ip_add))))
      (pss_one (ps_ret (pv 3)))))), ?_⟩
    have lu : us.length = t.length := hT.1
    have hm : x.cps.toList.length = m := by
      have := set_len st
      simpa [Str.length] using this
    have free : ∀ {H9 : Hp} {q : Addr}, Same H H9 → H9 q = none → H q = none := fun {H9 q} sx hq => by
      cases e : H q with
      | none => rfl
      | some o =>
        have := sx _ _ e
        rw [hq] at this
        cases this
    intro LW nLW
    have s0 : Same H (upd H LW (.dT [])) := Same.new (Same.refl H) nLW
    refine ⟨_, rfl, a, us, rfl, sqt_same s0 ha, by omega, fun p0 H1 np h1 s1 => ?_⟩
    rw [lu] at h1
    have hW1 : H1 LW = some (.dT []) := s1 _ _ upd_same
    have pW : p0 ≠ LW := ne_of h1 hW1 (fun z => by cases z)
    refine ⟨p0, key (List.range t.length), .str "", rfl, hW1, by rw [key_tup]; exact h1, ?_⟩
    have hW2 : (upd H1 LW (.dT [(key (List.range t.length), .str "")])) LW = some (.dT [(key (List.range t.length), .str "")]) := upd_same
    have sx : Same H (upd H1 LW (.dT [(key (List.range t.length), .str "")])) := fun b o h => by
      rw [upd_ne (ne_of_none h nLW)]
      exact (s0.trans s1) _ _ h
    generalize upd H1 LW (.dT [(key (List.range t.length), .str "")]) = H2 at hW2 sx ⊢
    clear h1 hW1 pW s1 np
    refine ⟨_, rfl, a, us, rfl, sqt_same sx ha, by omega, fun p1 H3 np h3 s3 => ⟨(by show 1 ≤ sizeLine; decide), fun LF nLF => ?_⟩⟩
    rw [lu] at h3
    have fLF : H LF = none := free (sx.trans s3) nLF
    have hF4 : (upd H3 LF (.lst [.ref p1])) LF = some (.lst [.ref p1]) := upd_same
    have hp4 : (upd H3 LF (.lst [.ref p1])) p1 = some (.tup (nts (List.range t.length))) := keep_new h3 nLF
    have hW4 : (upd H3 LF (.lst [.ref p1])) LW = some (.dT [(key (List.range t.length), .str "")]) := keep_new (s3 _ _ hW2) nLF
    have s4 : Same H (upd H3 LF (.lst [.ref p1])) := Same.new (sx.trans s3) nLF
    generalize upd H3 LF (.lst [.ref p1]) = H4 at hF4 hp4 hW4 s4 ⊢
    clear h3 s3 nLF np hW2 sx
    have FW : LF ≠ LW := ne_of hF4 hW4 (fun z => by cases z)
    refine while_by (fun σ H' => ∃ (us' : List V) (F : List (List Nat × Str)) (at' : Nat) (v1 v2 v3 : Option V), σ = [some (.ref a), some (.str x), some (.int (mo : Nat)), some (.ref LW), some (.ref LF), some (.int (at' : Nat)), v1, v2, v3] ∧
        H' LF = some (.lst us') ∧ H' LW = some (.dT (ents F)) ∧ RowsA H' us' (F.map Prod.fst) ∧ FoundA t x F ∧ (F.map Prod.fst).Nodup ∧ F.length ≤ mo + 2 ∧ bfsL t x mo (mo + 1 - at') at' F = bfs t x mo ∧ Same H H')
      (fun σ H' => match σ with | [_, _, _, _, _, some (.int i), _, _, _] => mo + 1 - i.toNat | _ => 0)
      ⟨[.ref p1], [(List.range t.length, "")], 0, none, none, none, rfl, hF4, hW4, ?_, ?_, by simp, (by show 1 ≤ mo + 2; omega), rfl, s4⟩ ?_ ?_
    · exact ⟨rfl, fun i r e => by
        match i, e with
        | 0, e => exact ⟨p1, rfl, by cases e; exact hp4⟩⟩
    · intro i z e
      match i, e with
      | 0, e =>
        cases e
        have e0 : ("" : Str).cps.toList = [] := by decide +kernel
        refine ⟨fun q hq => List.mem_range.mp hq, List.length_range, fun c hc => ?_, by rw [e0, act_nil], (show ("" : Str).length ≤ 0 by decide +kernel)⟩
        rw [e0] at hc
        cases hc
    · rintro σ H5 ⟨us', F, at', v1, v2, v3, rfl, hF, hW, RA, FA, nd, lf, bf, sH⟩
      refine ⟨_, rfl, _, rfl, LF, us', rfl, .inl (SqL.of hF), _, _, rfl, rfl, _, rfl, ?_⟩
      have lus : us'.length = F.length := by rw [RA.1, List.length_map]
      rw [lus]
      refine ite2 (fun h1 => ?_) (fun h1 => ?_)
      · refine ⟨_, rfl, _, _, rfl, rfl, _, rfl, ?_⟩
        have h1 : at' < F.length := by
          have := of_decide_eq_true h1
          omega
        refine ite2 (fun h2 => ?_) (fun h2 => ?_)
        · have h2 : F.length ≤ mo := by
            have := of_decide_eq_true h2
            omega
          have hz : F[at']? = some F[at'] := List.getElem?_eq_getElem h1
          generalize F[at'] = z at hz
          have bf2 : bfsL t x mo (mo + 1 - (at' + 1)) (at' + 1) (rowA t x z.1 z.2 F x.cps.size) = bfs t x mo := by
            rw [← bf, show mo + 1 - at' = (mo + 1 - (at' + 1)) + 1 by omega]
            show _ = (match F[at']? with
              | none => F
              | some z => if F.length ≤ mo then bfsL t x mo (mo + 1 - (at' + 1)) (at' + 1) (rowA t x z.1 z.2 F x.cps.size) else F)
            rw [hz]
            exact (if_pos h2).symm
          refine ⟨_, rfl, x, rfl, for_it NvY.walk_enumS (fun j σ H' => ∃ (us' : List V) (v1 v2 v3 : Option V), σ = [some (.ref a), some (.str x), some (.int (mo : Nat)), some (.ref LW), some (.ref LF), some (.int (at' : Nat)), v1, v2, v3] ∧
              H' LF = some (.lst us') ∧ H' LW = some (.dT (ents (rowA t x z.1 z.2 F j))) ∧ RowsA H' us' ((rowA t x z.1 z.2 F j).map Prod.fst) ∧ FoundA t x (rowA t x z.1 z.2 F j) ∧ Same H H')
            ⟨us', v1, v2, v3, rfl, hF, hW, RA, FA, sH⟩ (fun _ _ _ _ _ => trivial) ?_ ?_⟩
          · rintro j v σ H6 H7 hj ⟨us', v1, v2, v3, rfl, hF, hW, RA, FA2, sH⟩ ⟨T, c, rfl, nT, rfl, hc⟩
            have hc' : x.cps.toList[j]? = some c := by simpa using hc
            have cx : c ∈ x.cps.toList := List.mem_of_getElem? hc'
            have ec : x.cps.toList.getD j 0 = c := getD_some' hc'
            have jm : j < m := by
              have : x.cps.toList.length = m := hm
              have e : x.cps.toList.length = x.cps.size := by simp
              omega
            have ej : x.cps.toList.idxOf c = j := set_ix st hm2 hc'
            have gz : (rowA t x z.1 z.2 F j)[at']? = some z := rowA_at hz j
            have ndj := rowA_nodup (x := x) (r := z.1) (w := z.2) (t := t) nd j
            have lj := rowA_len (x := x) (r := z.1) (w := z.2) (t := t) (F := F) j
            have rw1 : rowA t x z.1 z.2 F (j + 1) = addA t z.1 z.2 j c (rowA t x z.1 z.2 F j) := by
              show addA t z.1 z.2 j (x.cps.toList.getD j 0) _ = _
              rw [ec]
            rw [rw1]
            have FA3 := addA_found tb FA hz FA2 (List.getElem?_eq_some_iff.mp gz).1 jm cx ej
            generalize rowA t x z.1 z.2 F j = G at hW RA FA2 gz ndj lj FA3 ⊢
            have gm : (G.map Prod.fst)[at']? = some z.1 := by
              rw [List.getElem?_map, gz]
              rfl
            obtain ⟨bq, b1, b2'⟩ := RA.2 at' _ gm
            obtain ⟨w1, w2, d2, d3, d4⟩ := FA2 at' z gz
            have d1 := ents_at ndj gz
            refine ⟨T, _, rfl, SqT.of upd_same, rfl, _, _, rfl, _, _, rfl, rfl, ?_⟩
            have hF := keep_new (u := .tup [.int (j : Nat), .str ⟨#[c]⟩]) hF nT
            have hW := keep_new (u := .tup [.int (j : Nat), .str ⟨#[c]⟩]) hW nT
            have b2' := keep_new (u := .tup [.int (j : Nat), .str ⟨#[c]⟩]) b2' nT
            have RA := RA.to (H' := upd H6 T (.tup [.int (j : Nat), .str ⟨#[c]⟩])) (fun b ys h => keep_new h nT)
            have sH : Same H (upd H6 T (.tup [.int (j : Nat), .str ⟨#[c]⟩])) := Same.new sH nT
            generalize upd H6 T (.tup [.int (j : Nat), .str ⟨#[c]⟩]) = H8 at hF hW b2' RA sH ⊢
            refine ⟨_, rfl, _, rfl, _, rfl, LF, us', _, _, rfl, rfl, SqL.of hF, atI_nat b1, _, rfl, a, bq, us, t, z.1, j, m, rfl, sqt_same sH ha, hT.same sH, tb, SqT.of b2', w1, by omega, jm, fun g H9 ng hg sg => ?_⟩
            have hF := sg _ _ hF
            have hW := sg _ _ hW
            have RA := RA.to (H' := H9) (fun b ys h => sg _ _ h)
            have sH := sH.trans sg
            have hg' : H9 g = some (.tup ((key (ledon t z.1 j)).map kV)) := by rw [key_tup]; exact hg
            refine ⟨_, rfl, _, rfl, LW, _, rfl, DGet.t (k := key (ledon t z.1 j)) hW hg', _, rfl, ?_⟩
            have sz : (100000 : Nat) < sizeLine := by decide
            by_cases mem : ledon t z.1 j ∈ G.map Prod.fst
            · obtain ⟨wv, ev⟩ := ents_some mem
              rw [ev]
              refine iteF ?_
              rw [addA_old mem] at FA3 ⊢
              exact ⟨us', _, _, _, rfl, hF, hW, RA, FA2, sH⟩
            · rw [ents_none mem]
              refine iteT ?_
              rw [addA_new mem] at FA3 ⊢
              obtain ⟨bq', e1, e2⟩ := RA.2 at' _ gm
              have bb : bq' = bq := by
                rw [b1] at e1
                exact (V.ref.inj (Option.some.inj e1)).symm
              subst bb
              have b3 := sg _ _ b2'
              have GD : DGet H9 LW (.ref bq') (some (.str z.2)) := by
                have q := DGet.t (k := key z.1) hW (by rw [key_tup]; exact b3)
                rw [d1] at q
                exact q
              have wl : z.2.length + (⟨#[c]⟩ : Str).length ≤ sizeLine := by
                have : (⟨#[c]⟩ : Str).length = 1 := rfl
                have : at' < G.length := (List.getElem?_eq_some_iff.mp gz).1
                omega
              have le : (ents G).length = G.length := List.length_map _
              refine ⟨_, rfl, _, rfl, _, rfl, LF, us', _, _, rfl, rfl, SqL.of hF, atI_nat b1, LW, _, rfl, GD, _, rfl, z.2, ⟨#[c]⟩, rfl, rfl, wl, _, rfl, _, rfl, LW, _, rfl, DPut.t hW hg' (by omega), ?_⟩
              rw [put_new mem]
              have gF : g ≠ LF := ne_of hg hF (fun z => by cases z)
              have gW : g ≠ LW := ne_of hg hW (fun z => by cases z)
              have FW : LF ≠ LW := ne_of hF hW (fun z => by cases z)
              have hFa : (upd H9 LW (.dT (ents (G ++ [(ledon t z.1 j, z.2 ++ ⟨#[c]⟩)])))) LF = some (.lst us') := by rw [upd_ne FW]; exact hF
              have lF : us'.length = G.length := by rw [RA.1, List.length_map]
              refine ⟨_, rfl, .inl ⟨rfl, _, SqL.of hFa⟩, _, rfl, LF, us', .ref g, rfl, rfl, hFa, (by omega), ?_⟩
              refine ⟨us' ++ [.ref g], _, _, _, rfl, upd_same, ?_, ?_, FA3, ?_⟩
              · rw [upd_ne (Ne.symm FW)]
                exact upd_same
              · rw [List.map_append]
                refine (RA.to fun b ys h => ?_).snoc ?_
                · rw [upd_ne (ne_of h hF (fun z => by cases z)), upd_ne (ne_of h hW (fun z => by cases z))]
                  exact h
                · rw [upd_ne gF, upd_ne gW]
                  exact hg
              · intro b o h
                rw [upd_ne (ne_of_none h fLF), upd_ne (ne_of_none h nLW)]
                exact sH _ _ h
          · rintro σ H6 ⟨us', v1, v2, v3, rfl, hF, hW, RA, FA2, sH⟩
            have xs2 : x.cps.size ≤ 2 := by
              have e : x.cps.toList.length = x.cps.size := by simp
              omega
            have lj := rowA_len (x := x) (r := z.1) (w := z.2) (t := t) (F := F) x.cps.size
            refine ⟨_, rfl, _, _, rfl, rfl, ⟨us', _, at' + 1, v1, v2, v3, rfl, hF, hW, RA, FA2, rowA_nodup nd _, by omega, bf2, sH⟩, ?_⟩
            show mo + 1 - (at' + 1) < mo + 1 - at'
            omega
        · have h2 : mo < F.length := by
            by_cases q : mo < F.length
            · exact q
            · exact absurd (decide_eq_true (show ((F.length : Nat) : Int) ≤ ((mo : Nat) : Int) by omega)) h2
          rw [bfsL_stop (.inr h2)] at bf
          rw [bf] at hW
          exact ⟨_, rfl, k LW H5 hW sH⟩
      · have h1 : F.length ≤ at' := by
          by_cases q : F.length ≤ at'
          · exact q
          · exact absurd (decide_eq_true (show ((at' : Nat) : Int) < ((F.length : Nat) : Int) by omega)) h1
        rw [bfsL_stop (.inl h1)] at bf
        rw [bf] at hW
        exact ⟨_, rfl, iteF ⟨_, rfl, k LW H5 hW sH⟩⟩
    · rintro σ H1 Q1 Q2 hq h
      obtain ⟨v1, hv1, v2, hv2, p, ys, hp, hs, i1, i2, c1, c2, b, hb, hh⟩ := h
      refine ⟨v1, hv1, v2, hv2, p, ys, hp, hs, i1, i2, c1, c2, b, hb, ?_⟩
      cases b with
      | true =>
        obtain ⟨v3, hv3, j1, j2, d1, d2, b2, hb2, hh⟩ := hh
        exact ⟨v3, hv3, j1, j2, d1, d2, b2, hb2, hq _ _ hh⟩
      | false =>
        obtain ⟨b2, hb2, hh⟩ := hh
        exact ⟨b2, hb2, hq _ _ hh⟩
end
end M3

set_option Elab.async false
set_option linter.all false
set_option maxRecDepth 100000
set_option maxHeartbeats 8000000
/-! # All actions are found -/
namespace M3
open PySem L2
theorem addA_mem {t : List (List Nat)} {r : List Nat} {w : Str} {j c : Nat} {F : List (List Nat × Str)} {s : List Nat} (h : s ∈ F.map Prod.fst) : s ∈ (addA t r w j c F).map Prod.fst := by
  unfold addA
  split
  · exact h
  · rw [List.map_append]
    exact List.mem_append_left _ h
theorem addA_has {t : List (List Nat)} {r : List Nat} {w : Str} {j c : Nat} {F : List (List Nat × Str)} : ledon t r j ∈ (addA t r w j c F).map Prod.fst := by
  by_cases h : ledon t r j ∈ F.map Prod.fst
  · exact addA_mem h
  · rw [addA_new h, List.map_append]
    exact List.mem_append_right _ List.mem_cons_self
theorem rowA_mem {t : List (List Nat)} {x : Str} {r : List Nat} {w : Str} {F : List (List Nat × Str)} {s : List Nat} (h : s ∈ F.map Prod.fst) : ∀ n, s ∈ (rowA t x r w F n).map Prod.fst
  | 0 => h
  | n + 1 => addA_mem (rowA_mem h n)
theorem rowA_has {t : List (List Nat)} {x : Str} {r : List Nat} {w : Str} {F : List (List Nat × Str)} {j : Nat} : ∀ n, j < n → ledon t r j ∈ (rowA t x r w F n).map Prod.fst
  | 0, h => absurd h (Nat.not_lt_zero _)
  | n + 1, h => by
    by_cases c : j = n
    · subst c
      exact addA_has
    · exact addA_mem (rowA_has n (by omega))
/-- what stands is a beginning of what stands later -/
theorem addA_pre {t : List (List Nat)} {r : List Nat} {w : Str} {j c : Nat} {F : List (List Nat × Str)} {i : Nat} {z : List Nat × Str} (h : (addA t r w j c F)[i]? = some z) (hi : i < F.length) : F[i]? = some z := by
  have := addA_at (t := t) (r := r) (w := w) (j := j) (c := c) (List.getElem?_eq_getElem hi)
  rw [this] at h
  rw [List.getElem?_eq_getElem hi]
  exact h
/-- the first actions have all their followers -/
def ClosedA (t : List (List Nat)) (x : Str) (n : Nat) (F : List (List Nat × Str)) : Prop := ∀ (i : Nat) (z : List Nat × Str), i < n → F[i]? = some z → ∀ j, j < x.cps.size → ledon t z.1 j ∈ F.map Prod.fst
theorem bfsL_closed {t : List (List Nat)} {x : Str} {mo : Nat} : ∀ (n i : Nat) (F : List (List Nat × Str)), mo + 1 ≤ n + i → ClosedA t x i F → (bfsL t x mo n i F).length ≤ mo → ClosedA t x (bfsL t x mo n i F).length (bfsL t x mo n i F)
  | 0, i, F, h, c, l => fun k z hk hz => c k z (by have l : F.length ≤ mo := l; have hk : k < F.length := hk; omega) hz
  | n + 1, i, F, h, c, l => by
    by_cases h1 : F.length ≤ i
    · rw [bfsL_stop (.inl h1)]
      exact fun k z hk hz => c k z (by omega) hz
    · by_cases h2 : mo < F.length
      · rw [bfsL_stop (.inr h2)] at l
        omega
      · have hz : F[i]? = some F[i] := List.getElem?_eq_getElem (by omega)
        generalize F[i] = z at hz
        have e : bfsL t x mo (n + 1) i F = bfsL t x mo n (i + 1) (rowA t x z.1 z.2 F x.cps.size) := by
          show (match F[i]? with
            | none => F
            | some z => if F.length ≤ mo then bfsL t x mo n (i + 1) (rowA t x z.1 z.2 F x.cps.size) else F) = _
          rw [hz]
          exact if_pos (by omega)
        rw [e] at l ⊢
        refine bfsL_closed n (i + 1) _ (by omega) (fun k y hk hy j hj => ?_) l
        by_cases ki : k = i
        · rw [ki, rowA_at hz] at hy
          cases hy
          exact rowA_has _ hj
        · have kF : F[k]? = some F[k] := List.getElem?_eq_getElem (by omega)
          rw [rowA_at kF] at hy
          cases hy
          exact rowA_mem (c k _ (by omega) kF j hj) _
theorem bfsL_at {t : List (List Nat)} {x : Str} {mo : Nat} : ∀ (n i : Nat) (F : List (List Nat × Str)) {k : Nat} {z : List Nat × Str}, F[k]? = some z → (bfsL t x mo n i F)[k]? = some z
  | 0, i, F, k, z, h => h
  | n + 1, i, F, k, z, h => by
    show (match F[i]? with
      | none => F
      | some z => if F.length ≤ mo then bfsL t x mo n (i + 1) (rowA t x z.1 z.2 F x.cps.size) else F)[k]? = some z
    split
    · exact h
    · split
      · exact bfsL_at n (i + 1) _ (rowA_at h _)
      · exact h
theorem bfs_closed {t : List (List Nat)} {x : Str} {mo : Nat} (l : (bfs t x mo).length ≤ mo) : ClosedA t x (bfs t x mo).length (bfs t x mo) :=
  bfsL_closed _ _ _ (by omega) (fun i z h => absurd h (Nat.not_lt_zero _)) l
/-- every word has an action that was found, if they are not too many -/
theorem bfs_all {t : List (List Nat)} {x : Str} {mo m : Nat} (st : IsSet x m) (hm2 : m ≤ 2) (l : (bfs t x mo).length ≤ mo) : ∀ (n : Nat) (w : List Nat), w.length = n → (∀ c ∈ w, c ∈ x.cps.toList) → act t x w ∈ (bfs t x mo).map Prod.fst
  | 0, w, hn, _ => by
    rw [List.eq_nil_of_length_eq_zero hn, act_nil]
    have h : (bfs t x mo)[0]? = some (List.range t.length, ("" : Str)) := bfsL_at _ _ _ rfl
    exact List.mem_map.mpr ⟨_, List.mem_of_getElem? h, rfl⟩
  | n + 1, w, hn, hw => by
    have ne : w ≠ [] := fun e => by rw [e] at hn; cases hn
    have ew := List.dropLast_concat_getLast ne
    have ih := bfs_all st hm2 l n w.dropLast (by rw [List.length_dropLast]; omega) (fun c hc => hw c ((List.dropLast_sublist w).subset hc))
    rw [← ew, act_snoc]
    obtain ⟨z, hz, ez⟩ := List.mem_map.mp ih
    obtain ⟨i, hi, ei⟩ := List.getElem_of_mem hz
    have cx := hw _ (List.getLast_mem ne)
    have hj : x.cps.toList.idxOf (w.getLast ne) < x.cps.size := by
      have := List.idxOf_lt_length_of_mem cx
      simpa using this
    rw [← ez]
    exact bfs_closed l i z hi (by rw [List.getElem?_eq_getElem hi, ei]) _ hj
end M3

set_option Elab.async false
set_option linter.all false
set_option maxRecDepth 100000
set_option maxHeartbeats 8000000
/-! # The word of an action is the first one -/
namespace M3
open PySem L2
/-- the order of words: shorter ones first, then by letters -/
def lessW (a b : List Nat) : Prop := a.length < b.length ∨ (a.length = b.length ∧ a < b)
theorem lessW_trans {a b c : List Nat} (h : lessW a b) (k : lessW b c) : lessW a c := by
  rcases h with h | ⟨h1, h2⟩ <;> rcases k with k | ⟨k1, k2⟩
  · exact .inl (by omega)
  · exact .inl (by omega)
  · exact .inl (by omega)
  · exact .inr ⟨by omega, List.lt_trans h2 k2⟩
theorem lt_snoc : ∀ {a b : List Nat} (c d : Nat), a.length = b.length → a < b → a ++ [c] < b ++ [d]
  | [], [], c, d, _, h => absurd h (by simp)
  | x :: a, y :: b, c, d, hl, h => by
    have hl : a.length = b.length := by simpa using hl
    rw [List.cons_lt_cons_iff] at h
    show x :: (a ++ [c]) < y :: (b ++ [d])
    rw [List.cons_lt_cons_iff]
    rcases h with h | ⟨h1, h2⟩
    · exact .inl h
    · exact .inr ⟨h1, lt_snoc c d hl h2⟩
theorem lt_same : ∀ {a : List Nat} {c d : Nat}, c < d → a ++ [c] < a ++ [d]
  | [], c, d, h => by
    show [c] < [d]
    rw [List.cons_lt_cons_iff]
    exact .inl h
  | x :: a, c, d, h => by
    show x :: (a ++ [c]) < x :: (a ++ [d])
    rw [List.cons_lt_cons_iff]
    exact .inr ⟨rfl, lt_same h⟩
theorem lessW_snoc {a b : List Nat} {c d : Nat} (h : lessW a b) : lessW (a ++ [c]) (b ++ [d]) := by
  rcases h with h | ⟨h1, h2⟩
  · refine .inl ?_
    rw [List.length_append, List.length_append]
    show a.length + 1 < b.length + 1
    omega
  · refine .inr ⟨by rw [List.length_append, List.length_append, h1]; rfl, lt_snoc c d h1 h2⟩
theorem lessW_same {a : List Nat} {c d : Nat} (h : c < d) : lessW (a ++ [c]) (a ++ [d]) := .inr ⟨by simp, lt_same h⟩
theorem lessW_one {a : List Nat} {c : Nat} : lessW a (a ++ [c]) := .inl (by simp)
theorem lessW_irrefl {a : List Nat} (h : lessW a a) : False := by
  rcases h with h | ⟨_, h⟩
  · omega
  · exact List.lt_irrefl a h
theorem lessW_le {a b c d : List Nat} (h : a = b ∨ lessW a b) (k : b = c ∨ lessW b c) : a = c ∨ lessW a c := by
  rcases h with rfl | h <;> rcases k with rfl | k
  · exact .inl rfl
  · exact .inr k
  · exact .inr h
  · exact .inr (lessW_trans h k)
/-- the word of a found action -/
def codes (z : List Nat × Str) : List Nat := z.2.cps.toList
def OrdA (F : List (List Nat × Str)) : Prop := ∀ (a b : Nat) (y z : List Nat × Str), a < b → F[a]? = some y → F[b]? = some z → lessW (codes y) (codes z)
def Asc (x : Str) : Prop := ∀ (i j c d : Nat), i < j → x.cps.toList[i]? = some c → x.cps.toList[j]? = some d → c < d
theorem asc_of {x : Str} {m : Nat} (h : IsSet x m) : Asc x := by
  obtain ⟨cs, rfl, _, hp, _⟩ := h
  intro i j c d ij hi hj
  have hi : cs[i]? = some c := hi
  have hj : cs[j]? = some d := hj
  obtain ⟨i1, i2⟩ := List.getElem?_eq_some_iff.mp hi
  obtain ⟨j1, j2⟩ := List.getElem?_eq_some_iff.mp hj
  rw [← i2, ← j2]
  exact List.pairwise_iff_getElem.mp hp i j i1 j1 ij
/-- the followers of the first i actions are found by words that are not behind theirs -/
structure StageA (t : List (List Nat)) (x : Str) (i : Nat) (F : List (List Nat × Str)) : Prop where
  ord : OrdA F
  bnd : ∀ u, F[i]? = some u → ∀ z ∈ F, ∀ c ∈ x.cps.toList, lessW (codes z) (codes u ++ [c])
  best : ∀ (k : Nat) (u : List Nat × Str), k < i → F[k]? = some u → ∀ (j c : Nat), x.cps.toList[j]? = some c → ∃ y ∈ F, y.1 = ledon t u.1 j ∧ (codes y = codes u ++ [c] ∨ lessW (codes y) (codes u ++ [c]))
structure RowP (t : List (List Nat)) (x : Str) (u : List Nat × Str) (F : List (List Nat × Str)) (n : Nat) (G : List (List Nat × Str)) : Prop where
  ord : OrdA G
  old : ∀ z ∈ G, z ∈ F ∨ ∃ j c, j < n ∧ x.cps.toList[j]? = some c ∧ codes z = codes u ++ [c]
  best : ∀ (j c : Nat), j < n → x.cps.toList[j]? = some c → ∃ y ∈ G, y.1 = ledon t u.1 j ∧ (codes y = codes u ++ [c] ∨ lessW (codes y) (codes u ++ [c]))
theorem row_p {t : List (List Nat)} {x : Str} (asc : Asc x) {i : Nat} {F : List (List Nat × Str)} {u : List Nat × Str} (S : StageA t x i F) (hu : F[i]? = some u) : ∀ n, n ≤ x.cps.size → RowP t x u F n (rowA t x u.1 u.2 F n)
  | 0, _ => ⟨S.ord, fun z hz => .inl hz, fun j c h => absurd h (Nat.not_lt_zero _)⟩
  | n + 1, hn => by
    have R := row_p asc S hu n (by omega)
    have hx : n < x.cps.toList.length := by
      rw [Array.length_toList]
      omega
    have hc : x.cps.toList[n]? = some x.cps.toList[n] := List.getElem?_eq_getElem hx
    have hcm : x.cps.toList[n] ∈ x.cps.toList := List.getElem_mem hx
    generalize hcc : x.cps.toList[n] = c at hc hcm
    have ec : x.cps.toList.getD n 0 = c := getD_some' hc
    have lt : ∀ z ∈ rowA t x u.1 u.2 F n, lessW (codes z) (codes u ++ [c]) := fun z hz => by
      rcases R.old z hz with h | ⟨j, d, hj, hd, e⟩
      · exact S.bnd u hu z h c hcm
      · rw [e]
        exact lessW_same (asc j n d c hj hd hc)
    show RowP t x u F (n + 1) (addA t u.1 u.2 n (x.cps.toList.getD n 0) (rowA t x u.1 u.2 F n))
    rw [ec]
    by_cases mem : ledon t u.1 n ∈ (rowA t x u.1 u.2 F n).map Prod.fst
    · rw [addA_old mem]
      refine ⟨R.ord, fun z hz => ?_, fun j d hj hd => ?_⟩
      · rcases R.old z hz with h | ⟨j, d, hj, hd, e⟩
        · exact .inl h
        · exact .inr ⟨j, d, by omega, hd, e⟩
      · by_cases q : j = n
        · subst q
          rw [hc] at hd
          cases hd
          obtain ⟨y, hy, ey⟩ := List.mem_map.mp mem
          exact ⟨y, hy, ey, .inr (lt y hy)⟩
        · exact R.best j d (by omega) hd
    · rw [addA_new mem]
      have sn : codes (ledon t u.1 n, u.2 ++ ⟨#[c]⟩) = codes u ++ [c] := snoc_cps u.2 c
      refine ⟨fun a b y z ab ha hb => ?_, fun z hz => ?_, fun j d hj hd => ?_⟩
      · rcases snoc_at hb with hb | ⟨rfl, rfl⟩
        · rcases snoc_at ha with ha | ⟨rfl, rfl⟩
          · exact R.ord a b y z ab ha hb
          · have := (List.getElem?_eq_some_iff.mp hb).1
            omega
        · rcases snoc_at ha with ha | ⟨rfl, rfl⟩
          · rw [sn]
            exact lt y (List.mem_of_getElem? ha)
          · omega
      · rcases List.mem_append.mp hz with h | h
        · rcases R.old z h with h | ⟨j, d, hj, hd, e⟩
          · exact .inl h
          · exact .inr ⟨j, d, by omega, hd, e⟩
        · rw [List.mem_singleton.mp h]
          exact .inr ⟨n, c, by omega, hc, sn⟩
      · by_cases q : j = n
        · subst q
          rw [hc] at hd
          cases hd
          exact ⟨_, List.mem_append_right _ List.mem_cons_self, rfl, .inl sn⟩
        · obtain ⟨y, hy, e1, e2⟩ := R.best j d (by omega) hd
          exact ⟨y, List.mem_append_left _ hy, e1, e2⟩
theorem row_stage {t : List (List Nat)} {x : Str} (asc : Asc x) {i : Nat} {F : List (List Nat × Str)} {u : List Nat × Str} (S : StageA t x i F) (hu : F[i]? = some u) : StageA t x (i + 1) (rowA t x u.1 u.2 F x.cps.size) := by
  have R := row_p asc S hu x.cps.size (Nat.le_refl _)
  have iF : i < F.length := (List.getElem?_eq_some_iff.mp hu).1
  have up : ∀ z ∈ F, z ∈ rowA t x u.1 u.2 F x.cps.size := fun z hz => by
    obtain ⟨k, hk, ek⟩ := List.getElem_of_mem hz
    exact List.mem_of_getElem? (rowA_at (by rw [List.getElem?_eq_getElem hk, ek]) _)
  refine ⟨R.ord, fun v hv z hz c hc => ?_, fun k v hk hv j c hj => ?_⟩
  · have uv : lessW (codes u) (codes v) := R.ord i (i + 1) u v (by omega) (rowA_at hu _) hv
    rcases R.old z hz with h | ⟨j, d, _, hd, e⟩
    · exact lessW_trans (S.bnd u hu z h c hc) (lessW_snoc uv)
    · rw [e]
      exact lessW_snoc uv
  · by_cases q : k = i
    · subst q
      rw [rowA_at hu] at hv
      cases hv
      refine R.best j c ?_ hj
      have := (List.getElem?_eq_some_iff.mp hj).1
      rw [Array.length_toList] at this
      exact this
    · have kF : F[k]? = some F[k] := List.getElem?_eq_getElem (by omega)
      rw [rowA_at kF] at hv
      cases hv
      obtain ⟨y, hy, e1, e2⟩ := S.best k _ (by omega) kF j c hj
      exact ⟨y, up y hy, e1, e2⟩
theorem stage_more {t : List (List Nat)} {x : Str} {i k : Nat} {F : List (List Nat × Str)} (S : StageA t x i F) (h : F.length ≤ i) (hk : F.length ≤ k) : StageA t x k F :=
  ⟨S.ord, fun u hu => (by rw [List.getElem?_eq_none hk] at hu; cases hu), fun a u ha hu => S.best a u (by have := (List.getElem?_eq_some_iff.mp hu).1; omega) hu⟩
theorem bfsL_stage {t : List (List Nat)} {x : Str} (asc : Asc x) {mo : Nat} : ∀ (n i : Nat) (F : List (List Nat × Str)), mo + 1 ≤ n + i → StageA t x i F → (bfsL t x mo n i F).length ≤ mo → StageA t x (bfsL t x mo n i F).length (bfsL t x mo n i F)
  | 0, i, F, h, S, l => stage_more S (by have l : F.length ≤ mo := l; omega) (Nat.le_refl _)
  | n + 1, i, F, h, S, l => by
    by_cases h1 : F.length ≤ i
    · rw [bfsL_stop (.inl h1)]
      exact stage_more S h1 (Nat.le_refl _)
    · by_cases h2 : mo < F.length
      · rw [bfsL_stop (.inr h2)] at l
        omega
      · have hz : F[i]? = some F[i] := List.getElem?_eq_getElem (by omega)
        generalize F[i] = z at hz
        have e : bfsL t x mo (n + 1) i F = bfsL t x mo n (i + 1) (rowA t x z.1 z.2 F x.cps.size) := by
          show (match F[i]? with
            | none => F
            | some z => if F.length ≤ mo then bfsL t x mo n (i + 1) (rowA t x z.1 z.2 F x.cps.size) else F) = _
          rw [hz]
          exact if_pos (by omega)
        rw [e] at l ⊢
        exact bfsL_stage asc n (i + 1) _ (by omega) (row_stage asc S hz) l
theorem bfs_stage {t : List (List Nat)} {x : Str} (asc : Asc x) {mo : Nat} (l : (bfs t x mo).length ≤ mo) : StageA t x (bfs t x mo).length (bfs t x mo) := by
  refine bfsL_stage asc _ _ _ (by omega) ⟨fun a b y z ab ha hb => ?_, fun u hu z hz c hc => ?_, fun k u hk => absurd hk (Nat.not_lt_zero _)⟩ l
  · have h1 := (List.getElem?_eq_some_iff.mp hb).1
    have h1 : b < 1 := h1
    omega
  · cases hu
    rw [List.mem_singleton.mp hz]
    exact lessW_one
/-- the word that is told with an action is the first one of all that have it -/
theorem bfs_first {t : List (List Nat)} {x : Str} {mo m : Nat} (st : IsSet x m) (l : (bfs t x mo).length ≤ mo) : ∀ (n : Nat) (w : List Nat), w.length = n → (∀ c ∈ w, c ∈ x.cps.toList) → ∃ y ∈ bfs t x mo, y.1 = act t x w ∧ (codes y = w ∨ lessW (codes y) w)
  | 0, w, hn, _ => by
    have h : (bfs t x mo)[0]? = some (List.range t.length, ("" : Str)) := bfsL_at _ _ _ rfl
    have e0 : ("" : Str).cps.toList = [] := by decide +kernel
    rw [List.eq_nil_of_length_eq_zero hn, act_nil]
    exact ⟨_, List.mem_of_getElem? h, rfl, .inl e0⟩
  | n + 1, w, hn, hw => by
    have ne : w ≠ [] := fun e => by rw [e] at hn; cases hn
    have ew := List.dropLast_concat_getLast ne
    obtain ⟨y, hy, e1, e2⟩ := bfs_first st l n w.dropLast (by rw [List.length_dropLast]; omega) (fun c hc => hw c ((List.dropLast_sublist w).subset hc))
    obtain ⟨i, hi, ei⟩ := List.getElem_of_mem hy
    have cx := hw _ (List.getLast_mem ne)
    have hj : x.cps.toList[x.cps.toList.idxOf (w.getLast ne)]? = some (w.getLast ne) := by
      rw [List.getElem?_eq_getElem (List.idxOf_lt_length_of_mem cx), List.getElem_idxOf]
    obtain ⟨z, hz, f1, f2⟩ := (bfs_stage (asc_of st) l).best i y hi (by rw [List.getElem?_eq_getElem hi, ei]) _ _ hj
    refine ⟨z, hz, ?_, ?_⟩
    · rw [← ew, act_snoc, f1, e1]
    · rw [← ew]
      refine lessW_le (d := []) f2 ?_
      rcases e2 with e2 | e2
      · exact .inl (by rw [e2])
      · exact .inr (lessW_snoc e2)
end M3

set_option Elab.async false
set_option linter.all false
set_option maxRecDepth 100000
set_option maxHeartbeats 8000000
/-! # enumerate of a tuple -/
namespace PySem
open Sem (wp)
open AutoSeq1 (wpAny_loadPart')
theorem nvt_meets (l : Addr) (items : Array Value) (n : Nat) (dct : Option Addr) (sl : Array (Option Value)) :
    Meets (Builtin.«enumerate.__new__» ⟨[.type "enumerate", .ref l], []⟩) (fun _ R s => s.heap.get? l = some { cls := .type "tuple", dict := dct, data := .seq items n, slots := sl } ∧
      R (.ok (.ret (.ref (s.heap.push { cls := .type "tuple_iterator", data := .fields #[.ref l, .int 0 0] }).objs.size)))
        { s with heap := (s.heap.push { cls := .type "tuple_iterator", data := .fields #[.ref l, .int 0 0] }).push { cls := .type "enumerate", data := .fields #[.none, .bool false, .ref s.heap.objs.size, rawInt 0, .none, .none] } }) :=
  .of_wp fun prog w A R s h => by
    obtain ⟨hp, g, d, tk, os⟩ := s; obtain ⟨hl, h⟩ := h
    have hsub := sub_enumerate
    have hL : Heap.IsTuple (Shared.heap ⟨hp, g, d, tk, os⟩) l items := ⟨_, hl, rfl, n, rfl⟩
    wp_walk using wpAny_loadPart' hl
    refine wpAny_stack_any fun st => wpAny_pure ?_
    split
    · rename_i c _ _ _ _ _
      cases (c == Value.type "enumerate")
      · wp_walk using wpAny_loadPart' hl, wpAny_pyIter_tuple hL
        exact ⟨_, rfl, h⟩
      · wp_walk using wpAny_loadPart' hl, wpAny_pyIter_tuple hL
        exact ⟨_, rfl, h⟩
    · wp_walk using wpAny_loadPart' hl, wpAny_pyIter_tuple hL
      exact ⟨_, rfl, h⟩
section
variable {prog : Program} {w : World} {A : Around} {E : Value → Shared → Prop} {s : Shared}
theorem nvt_call {l : Addr} {items : Array Value} {Q : Value → Shared → Prop} (hL : s.heap.IsTuple l items)
    (h : ∀ h', IsEnum h' (s.heap.objs.size + 1) s.heap.objs.size 0 .none → h'.IsTupleIter s.heap.objs.size l 0 → h'.objs.size = s.heap.objs.size + 2 →
      (∀ b o, s.heap.get? b = some o → h'.get? b = some o) → Q (.ref (s.heap.objs.size + 1)) { s with heap := h' }) :
    wpAny (model prog w) A (call (.type "enumerate") [.ref l]) Q E s := by
  obtain ⟨⟨c, dct, dt, sl⟩, hl, hc, n, hd⟩ := hL
  replace hc : c = .type "tuple" := hc
  replace hd : dt = .seq items n := hd
  subst hc hd
  refine callType_new F.called_enumerate (by decide) (F.typeCall_enumerate_1 _) (F.newCall_enumerate_1 _) (fun obj => F.args_object_init_2 obj _) F.entry_enumerate_new
    (nvt_meets l items n dct sl) ⟨hl, ?_⟩
  have hz : (s.heap.push { cls := .type "tuple_iterator", data := .fields #[.ref l, .int 0 0] }).objs.size = s.heap.objs.size + 1 := Heap.size_push ..
  show _ ∧ _
  rw [hz]
  have he : IsEnum ((s.heap.push { cls := .type "tuple_iterator", data := .fields #[.ref l, .int 0 0] }).push
      { cls := .type "enumerate", data := .fields #[.none, .bool false, .ref s.heap.objs.size, rawInt 0, .none, .none] }) (s.heap.objs.size + 1) s.heap.objs.size 0 .none := by
    have := Heap.get?_push_size (s.heap.push { cls := .type "tuple_iterator", data := .fields #[.ref l, .int 0 0] })
      (o := { cls := .type "enumerate", data := .fields #[.none, .bool false, .ref s.heap.objs.size, rawInt 0, .none, .none] }) rfl
    rw [hz] at this; exact this
  refine ⟨⟨_, he, rfl⟩, h _ he ⟨_, Heap.get?_push_of_some _ (Heap.get?_push_size _ rfl), rfl, rfl⟩ (by rw [Heap.size_push, hz]) fun b o x => Heap.get?_push_of_some _ (Heap.get?_push_of_some _ x)⟩
end
end PySem
namespace NvT
open PySem PySem.Spec PyProof.Rows L2
def IteT (K : PySem.W.Frag) (a : Addr) : It :=
  ⟨fun i H => ∃ (xs : List V) (x : V), SqT K H a xs ∧ xs[i]? = some x, fun i H v H' => ∃ T x, v = .ref T ∧ H T = none ∧ H' = upd H T (.tup [.int (i : Nat), x]) ∧ ∀ xs, SqT K H a xs → xs[i]? = some x, fun i H => ∃ xs : List V, SqT K H a xs ∧ xs.length = i⟩
theorem turn_enumT {P : Program} {w : World} {K : PySem.W.Frag} {elts : List Expr} {kk : Nat} {tpos : Pos} {a e it : Addr} (hne : e ≠ it) (hai : a ≠ it) (hae : a ≠ e) :
    Turn P w K (.Tuple elts kk tpos) (IteT K a) [e, it] e (fun i h => (∃ old, IsEnum h e it ((0 : Int) + (i : Int)) old) ∧ h.IsTupleIter it a i) where
  mem := by simp
  obj := fun i h st b hb => by
    obtain ⟨⟨old, he⟩, ⟨o, ho, hc, hd⟩⟩ := st
    have e' : b = e ∨ b = it := by simpa using hb
    rcases e' with z | z
    · rw [z]; exact ⟨_, he, fun v q => nomatch q⟩
    · rw [z]; exact ⟨o, ho, fun v q => by rw [hd] at q; cases q⟩
  keep := fun i h h' st k => let ⟨⟨old, he⟩, hi⟩ := st; ⟨⟨old, k e (by simp) _ he⟩, hi.at fun o q => k it (by simp) o q⟩
  item := by
    intro X hP hw hK hc i pins s σ H E I hf st hg
    subst hP hw hK
    have hh : X.A.in1.handled = none := I.ok.hd hc
    obtain ⟨xs, x, hq, hx⟩ := hg
    obtain ⟨its, rv, p, hz⟩ := I.tuple hq
    obtain ⟨u, hu, ru⟩ := rv.get hx
    have li : i < its.toArray.size := by
      have := (List.getElem?_eq_some_iff.mp hu).1
      simpa using this
    have G := GoesN.enumFrom (elts := elts) (x1 := kk) (pos := tpos) 0 (Draws.tuple (prog := X.prog) (w := X.w) (A := X.A.in1) hh it a hai its.toArray) e hne (by simp [hne, Ne.symm hae]) (by simp)
    have live : ∀ b ∈ [e, it], b < s.heap.objs.size := fun b hb => by
      obtain ⟨⟨old, he⟩, ⟨o1, e1, _⟩⟩ := id st
      have e' : b = e ∨ b = it := by simpa using hb
      rcases e' with q | q
      · rw [q]; exact Heap.lt_size he
      · rw [q]; exact Heap.lt_size e1
    refine G.goes i s (fun u s2 => ∃ v H', Inv X pins σ H' s2 ∧ RelV v u ∧ (IteT X.K a).yld i H v H' ∧ _ ∧ ∀ b ∈ _, H' b = none) E li ⟨st.1, st.2, p⟩ fun v h' tk hY st' hk htk => ?_
    obtain ⟨T, t, vx, rfl, hT, hx2, hIs⟩ := hY
    have hx2 : its.toArray[i]? = some vx := hx2
    have evx : vx = u := by
      have e : its.toArray[i]? = some u := by simpa using hu
      rw [e] at hx2
      exact (Option.some.inj hx2).symm
    subst evx
    have hIs2 : IsTup h' T #[.int ((i : Nat) : Int) t, vx] := by
      have z : (0 : Int) + (i : Int) = (i : Int) := Int.zero_add _
      rw [z] at hIs
      exact hIs
    have new : ObjOk X.prog X.w (upd H T (.tup [.int (i : Nat), x])) h' T (.tup [.int (i : Nat), x]) :=
      ⟨by show 2 ≤ sizeLine; decide, [.int (i : Nat) t, vx], .cons ⟨t, rfl⟩ (.cons ru .nil), hIs2⟩
    have I1 : Inv X pins σ (upd H T (.tup [.int (i : Nat), x])) { s with heap := h', toks := tk } :=
      I.turnedNew (t' := tk) (ch := [e, it]) hk (fun b hb => hf b (by
        have e' : b = e ∨ b = it := by simpa using hb
        rcases e' with q | q <;> rw [q] <;> simp)) hT new
    refine ⟨.ref T, _, I1, rfl, ⟨T, x, rfl, I.hok.fresh hT, rfl, fun ys hy => by rw [I.tuple_inj hy hq]; exact hx⟩, ⟨st'.1, st'.2.1⟩, fun b hb => ?_⟩
    rw [upd_ne (Nat.ne_of_lt (Nat.lt_of_lt_of_le (live b hb) hT))]
    exact (hf b hb).1
  done := by
    intro X hP hw hK hc i pins s σ H E I hf st hg
    subst hP hw hK
    have hh : X.A.in1.handled = none := I.ok.hd hc
    obtain ⟨xs, hq, hx⟩ := hg
    obtain ⟨its, rv, p, hz⟩ := I.tuple hq
    have hl := rv.length
    have G := GoesN.enumFrom (elts := elts) (x1 := kk) (pos := tpos) 0 (Draws.tuple (prog := X.prog) (w := X.w) (A := X.A.in1) hh it a hai its.toArray) e hne (by simp [hne, Ne.symm hae]) (by simp)
    have ei : i = its.toArray.size := by simp; omega
    subst ei
    refine G.stops s (fun s1 => Inv X pins σ H s1) E ⟨st.1, st.2, p⟩ fun h' tk hk htk => ?_
    exact I.turnedL (t' := tk) (ch := [e, it]) hk fun b hb => hf b (by
      have e' : b = e ∨ b = it := by simpa using hb
      rcases e' with q | q <;> rw [q] <;> simp)
  self := fun A i s Q E st h => let ⟨⟨_, he⟩, _⟩ := st; wpAny_pyIter_enum he h
def iEnumT (K : PySem.W.Frag) (ta : TA) : TI := fun σ H R => ta σ H fun vs H1 => ∃ a xs, vs = [.ref a] ∧ SqT K H1 a xs ∧ R (IteT K a) H1
theorem pi_enumT {X : Cx} {e : Expr} {ta : TA} {p pos tpos : Pos} {elts : List Expr} {kk : Nat} (hg : Gl X "enumerate") (hm : X.mg "enumerate" = none) (ha : PA X [e] ta) (hs : starEach [e] X.env = [(false, eval e X.env)] := by rfl) :
    PI X (.Tuple elts kk tpos) (.Call (.Name "enumerate" p) [e] [] pos) (iEnumT X.K ta) := by
  refine ⟨fun pins s σ H R I h => ?_⟩
  refine Call_ (ld_blt I hg hm boot_enumerate (PyProof.Rows.callWith_type1 (thn (ha.run pos pins s σ H _ I h) fun us s1 ⟨vs, H1, I1, r1, q1⟩ => ?_) hs rfl))
  obtain ⟨a, xs, ex, hq, q⟩ := q1
  subst ex
  cases r1 with
  | cons r rr =>
    cases rr
    cases r
    obtain ⟨its, rv, p', hz⟩ := I1.tuple hq
    have hal : a < s1.heap.objs.size := by
      obtain ⟨o, ho, _⟩ := p'
      exact Heap.lt_size ho
    refine nvt_call (items := its.toArray) p' fun h' he hit hsz hk => wpAny_pyIter_enum he ?_
    have I2 : Inv X pins σ H1 { s1 with heap := h' } := I1.kept (t' := s1.toks) hk
    refine ⟨s1.heap.objs.size + 1, [s1.heap.objs.size + 1, s1.heap.objs.size], _, _, H1, rfl, I2, turn_enumT (a := a) (e := s1.heap.objs.size + 1) (it := s1.heap.objs.size) (Nat.succ_ne_self _) (Nat.ne_of_lt hal) (Nat.ne_of_lt (Nat.lt_succ_of_lt hal)), ⟨⟨.none, he⟩, hit⟩, fun b hb => ?_, q⟩
    have e' : b = s1.heap.objs.size + 1 ∨ b = s1.heap.objs.size := by simpa using hb
    have hle : s1.heap.objs.size ≤ b := by
      rcases e' with z | z
      · rw [z]; exact Nat.le_add_right _ _
      · rw [z]; exact Nat.le_refl _
    exact I1.fpOk hle (I1.hok.fresh hle)
theorem walk_enumT {K : PySem.W.Frag} {a : Addr} {xs : List V} : Walk (IteT K a) xs.length (fun H => SqT K H a xs) (YPair (fun i => some (.int (i : Nat))) (fun i => xs[i]?)) where
  goes := fun i H hi q => ⟨xs, _, q, List.getElem?_eq_getElem hi⟩
  stops := fun H q => ⟨xs, q, rfl⟩
  yields := fun i H v H' hi q y => by
    obtain ⟨T, x, e, h1, h2, h3⟩ := y
    exact ⟨T, .int (i : Nat), x, e, h1, h2, rfl, h3 xs q⟩
end NvT

set_option Elab.async false
set_option linter.all false
set_option maxRecDepth 100000
set_option maxHeartbeats 8000000
/-! # for k, v in d.items(), the keys tuples -/
namespace NvU
open PySem PySem.Spec PyProof.Rows L2
/-- the pairs, each a new tuple of the key's own tuple and the value -/
def ItiT (d : Addr) (o : Obj) (kvs : List (List Key × V)) : It :=
  ⟨fun i H => H d = some (.frz o (.dT kvs)) ∧ i < kvs.length, fun i H x H' => ∃ (T q : Addr) (k : List Key) (v : V), kvs[i]? = some (k, v) ∧ x = .ref T ∧ H q = some (.tup (k.map kV)) ∧ H T = none ∧ H' = upd H T (.tup [.ref q, v]), fun i H => H d = some (.frz o (.dT kvs)) ∧ kvs.length ≤ i⟩
theorem frzT2 {X : Cx} {pins : List (Addr × Obj)} {σ : L2.St} {H : Hp} {s : Shared} {d : Addr} {o : Obj} {kvs : List (List Key × V)} (I : Inv X pins σ H s) (h : H d = some (.frz o (.dT kvs))) :
    (d == sysModules) = false ∧ s.heap.get? d = some o ∧ o.ExactDict ∧ ∃ (es : Array DictEntry) (ep : Nat), o.data = .dict es ep ∧ es.size = kvs.length ∧
      ∀ (i : Nat) (k : List Key) (v : V), kvs[i]? = some (k, v) → ∃ (en : DictEntry) (q : Addr), es[i]? = some en ∧ en.key = .ref q ∧ H q = some (.tup (k.map kV)) ∧ RelV v en.val := by
  obtain ⟨hd, z, hs, xs, pr, o', es, ep, ho, hx, hdt, he, _⟩ := I.hok d _ h
  rw [hd] at ho
  cases ho
  refine ⟨hs, hd, hx, es, ep, hdt, ?_, fun i k v e => ?_⟩
  · have l1 : es.size = xs.length := size_of_entries he
    have l2 : kvs.length = xs.length := Paired.length pr
    omega
  · obtain ⟨b, hb, e1, e2, e3⟩ := paired_get pr e
    have q := entry_at he i
    rw [hb] at q
    exact ⟨_, b.2.1, q, rfl, e2, e3⟩
section
variable {P : Program} {w : World} {K : PySem.W.Frag} {d : Addr} {o : Obj} {es : Array DictEntry} {ep : Nat}
theorem turn_itemsT {kvs : List (List Key × V)} {elts : List Expr} {kk : Nat} {tpos : Pos} (it : Addr) (hod : o.data = .dict es ep) :
    Turn P w K (.Tuple elts kk tpos) (ItiT d o kvs) [it] it (fun i h => ∃ ok ov, IsItemIter h it d i kvs.length ep ok ov) where
  mem := by simp
  obj := fun i h st b hb => by
    have e : b = it := by simpa using hb
    subst e
    obtain ⟨ok, ov, e⟩ := st
    exact ⟨_, e, fun v z => nomatch z⟩
  keep := fun i h h' st k => let ⟨ok, ov, e⟩ := st; ⟨ok, ov, k it (by simp) _ e⟩
  item := by
    intro X hP hw hK hc i pins s σ H E I hf st hg
    subst hP hw hK
    obtain ⟨hd, hi⟩ := hg
    obtain ⟨hs, hgd, hx, es', ep', hdt, hsz, ent⟩ := frzT2 I hd
    obtain ⟨rfl, rfl⟩ := dict_ep hod hdt
    obtain ⟨⟨k, v⟩, hkv⟩ : ∃ p, kvs[i]? = some p := ⟨kvs[i], List.getElem?_eq_getElem hi⟩
    obtain ⟨en, q, hen, hkey, hq, rv⟩ := ent i k v hkv
    obtain ⟨ok, ov, he⟩ := st
    rw [← hsz] at he hi
    have een : es'[i] = en := by
      rw [Array.getElem?_eq_getElem hi] at hen
      exact Option.some.inj hen
    have hlt : it < s.heap.objs.size := Heap.lt_size he
    refine DT.nextI he ⟨o, hgd, hx, hdt⟩ hi fun h' ho hT hz hk => ?_
    rw [een, hkey] at ho hT
    refine ⟨_, rfl, wpAny_letOwnedTupleGo_items (s := { s with heap := h' }) ho fun h'' he' sb => ?_⟩
    have hT2 : h''.get? s.heap.objs.size = some { cls := .type "tuple", data := .seq #[.ref q, en.val] } := (sb.2 _ (Nat.ne_of_gt hlt)).trans hT
    have new : ObjOk X.prog X.w (upd H s.heap.objs.size (.tup [.ref q, v])) h'' s.heap.objs.size (.tup [.ref q, v]) :=
      ⟨by show 2 ≤ sizeLine; decide, [.ref q, en.val], .cons rfl (.cons rv .nil), ⟨_, hT2, rfl, _, rfl⟩⟩
    have I1 : Inv X pins σ (upd H s.heap.objs.size (.tup [.ref q, v])) { s with heap := h'' } :=
      I.turnedNew (t' := s.toks) (ch := [it]) (fun b ob hb e => (sb.2 b (by simpa using hb)).trans (hk b ob (by simpa using hb) e)) hf (Nat.le_refl _) new
    refine ⟨.ref s.heap.objs.size, _, I1, rfl, ⟨_, q, k, v, hkv, rfl, hq, I.hok.fresh (Nat.le_refl _), rfl⟩, ⟨.ref q, en.val, (by rw [← hsz]; exact he')⟩, fun b hb => ?_⟩
    have e : b = it := by simpa using hb
    rw [e, upd_ne (Nat.ne_of_lt hlt)]
    exact (hf it (by simp)).1
  done := by
    intro X hP hw hK hc i pins s σ H E I hf st hg
    subst hP hw hK
    obtain ⟨hd, hi⟩ := hg
    obtain ⟨f0, f1, f2, f3, f4, f5⟩ := hf it (by simp)
    obtain ⟨hs, hgd, hx, es', ep', hdt, hsz, ent⟩ := frzT2 I hd
    obtain ⟨rfl, rfl⟩ := dict_ep hod hdt
    obtain ⟨ok, ov, he⟩ := st
    rw [← hsz] at he
    exact DT.endI (I.ok.hd hc) he ⟨o, hgd, hx, hdt⟩ (by omega) fun h' eb => ⟨rfl, I.turned (t' := s.toks) (fun b o hb e => eb b o hb e) f0 f1 f3 f4 f5⟩
  self := fun A i s Q E st h => let ⟨_, _, e⟩ := st; PySem.W.kcp_self e h
end
def iItemsT (td : TE) : TI := fun σ H R => td σ H fun x H1 => ∃ d o kvs, x = .ref d ∧ H1 d = some (.frz o (.dT kvs)) ∧ R (ItiT d o kvs) H1
theorem pi_itemsT {X : Cx} {e : Expr} {td : TE} {apos cpos : Pos} {elts : List Expr} {kk : Nat} {tpos : Pos} (he : PE X e td) (hbase : attributeBase e "items" X.env (eval e X.env) = eval e X.env := by rfl) (hline : (apos.endLine == cpos.line) = true := by rfl) :
    PI X (.Tuple elts kk tpos) (.Call (.Attribute e "items" apos) [] [] cpos) (iItemsT td) := by
  refine ⟨fun pins s σ H R I h => ?_⟩
  refine wpAny_Call_method (T := "dict") (id := "dict.items") hbase rfl hline F.plainAttrs_dict F.slot_dict_items F.type_dict_items (thn (he.run pins s σ H _ I h) fun u s1 ⟨x, H1, I1, rx, d, o, kvs, ex, hd, q⟩ => ?_)
  subst ex
  obtain rfl : u = Value.ref d := rx
  obtain ⟨hs, hgd, hx, es, ep, hdt, hsz, ent⟩ := frzT2 I1 hd
  have raw : DT.Raw s1.heap d es ep := ⟨o, hgd, hx, hdt⟩
  refine ⟨raw.typeIs, fun a e => (by cases e; exact ⟨o, hgd, hx.2.1⟩), ?_⟩
  have I2 : Inv X pins σ H1 { s1 with heap := s1.heap.push { cls := .type "dict_items", data := .fields #[.ref d] } } := I1.kept (t' := s1.toks) fun b ob q => Heap.get?_push_of_some _ q
  have fin : wpAny (model X.prog X.w) X.A (pyIter (.ref s1.heap.objs.size)) (PIE X pins σ (.Tuple elts kk tpos) R) X.xe { s1 with heap := s1.heap.push { cls := .type "dict_items", data := .fields #[.ref d] } } := by
    refine DT.iterI (d := d) (es := es) (ep := ep) ⟨_, Heap.get?_push_size _ rfl, rfl, rfl⟩ (raw.push _) (pi_one (tk := s1.toks) I2 _ (turn_itemsT _ hdt) ⟨.none, .none, ?_⟩ q)
    rw [← hsz]
    exact Heap.get?_push_size _ rfl
  show wpAny _ _ (callWith cpos (.builtin "dict.items") [.ref d] [] []) _ X.xe s1
  exact method_meetsIn F.slot_dict_items F.entry_dict_items rfl (PySem.evalArgs_none ⟨rfl, raw.typeIs, F.args_dict_items_1 _, _, DT.meetsItems (es := es) (ep := ep) hs, ⟨raw, fin⟩⟩)
theorem walk_itemsT {d : Addr} {o : Obj} {kvs : List (List Key × V)} : Walk (ItiT d o kvs) kvs.length (fun H => H d = some (.frz o (.dT kvs))) (fun i H x H' => ∃ (T q : Addr) (k : List Key) (v : V), kvs[i]? = some (k, v) ∧ x = .ref T ∧ H q = some (.tup (k.map kV)) ∧ H T = none ∧ H' = upd H T (.tup [.ref q, v])) :=
  ⟨fun _ _ hi q => ⟨q, hi⟩, fun _ q => ⟨q, Nat.le_refl _⟩, fun _ _ _ _ _ _ y => y⟩
end NvU

set_option Elab.async false
set_option linter.all false
set_option maxRecDepth 100000
set_option maxHeartbeats 8000000
/-! # Turns of actions: comes_back, turned_state, turn_among -/
namespace M3
open PySem L2
abbrev sComes : Stmt := top 40
abbrev sTurned : Stmt := top 39
abbrev sAmong : Stmt := top 41
abbrev nComes : List Str := ["action", "state", "now", "_"]
abbrev nTurned : List Str := ["action", "state", "goal"]
abbrev nAmong : List Str := ["words", "action", "word", "state"]
theorem scComes : FnScope nComes ["action", "state"] (defScope sComes) := ⟨rfl, rfl, rfl, by decide +kernel, rfl, by decide +kernel, by decide +kernel⟩
theorem scTurned : FnScope nTurned ["action"] (defScope sTurned) := ⟨rfl, rfl, rfl, by decide +kernel, rfl, by decide +kernel, by decide +kernel⟩
theorem scAmong : FnScope nAmong ["words"] (defScope sAmong) := ⟨rfl, rfl, rfl, by decide +kernel, rfl, by decide +kernel, by decide +kernel⟩
/-- where an action, so often, leads a state -/
def its (g : List Nat) (q : Nat) : Nat → Nat
  | 0 => q
  | k + 1 => g.getD (its g q k) 0
theorem its_lt {g : List Nat} {q : Nat} (w : ∀ z ∈ g, z < g.length) (hq : q < g.length) : ∀ k, its g q k < g.length
  | 0 => hq
  | k + 1 => by
    have h := its_lt w hq k
    show g.getD (its g q k) 0 < g.length
    have e : g.getD (its g q k) 0 = g[its g q k] := by simp [List.getD, List.getElem?_eq_getElem h]
    rw [e]
    exact w _ (List.getElem_mem h)
def comesB (g : List Nat) (q : Nat) : Bool := (List.range g.length).any fun k => decide (its g q (k + 1) = q)
def turnedB (g : List Nat) (q : Nat) : Bool := decide (g.getD q 0 ≠ q) && comesB g q
def turned (g : List Nat) : Option Nat := (List.range g.length).find? (turnedB g)
def among (F : List (List Nat × Str)) : Option (Str × Nat) := F.findSome? fun z => (turned z.1).map fun q => (z.2, q)
def optV : Option Nat → V
  | none => .non
  | some q => .int (q : Nat)
def spComes (K : PySem.W.Frag) : Sp := fun vs H Q _ => ∃ (a : Addr) (g : List Nat) (q : Nat), vs = [.ref a, .int (q : Nat)] ∧ SqT K H a (nts g) ∧ (∀ z ∈ g, z < g.length) ∧ q < g.length ∧ Q (.bl (comesB g q)) H
def spTurned (K : PySem.W.Frag) : Sp := fun vs H Q _ => ∃ (a : Addr) (g : List Nat), vs = [.ref a] ∧ SqT K H a (nts g) ∧ (∀ z ∈ g, z < g.length) ∧ ∀ H' : Hp, Same H H' → Q (optV (turned g)) H'
def spAmong : Sp := fun vs H Q _ => ∃ (D : Addr) (F : List (List Nat × Str)), vs = [.ref D] ∧ H D = some (.dT (ents F)) ∧ (∀ z ∈ F, ∀ q ∈ z.1, q < z.1.length) ∧
  (among F = none → ∀ H' : Hp, Same H H' → Q .non H') ∧ ∀ (y : Str) (q : Nat), among F = some (y, q) → ∀ (p : Addr) (H' : Hp), H' p = some (.tup [.str y, .int (q : Nat)]) → Same H H' → Q (.ref p) H'
section
variable {P : Program} {w : World} {K : PySem.W.Frag} {mg : Str → Option Value} {base : Heap}
theorem ok_comes {f : Addr} {fd : FuncData} (F : Fun K "comes_back" "comes_back" sComes f fd) : FnOk P w K mg base CX0 1 f fd ["action", "state"] (spComes K) := by
  refine F.ok scComes (fun vs H Q E h => ?_) (fun cdv A outer s H vs Q E hr h => ?_)
  · obtain ⟨a, g, q, rfl, _⟩ := h
    rfl
  · obtain ⟨a, g, q, rfl, ha, wf, hq, k⟩ := h
    refine ⟨_, pss_cons (ps_set (i := 2) scComes.nd rfl (Or.inl rfl) (pv 1))
      (pss_cons (ps_for PassesOwn.never rfl (pi_tup (pv 0)) (pg_name (i := 3) scComes.nd rfl (Or.inl rfl))
        (pss_cons (ps_set (i := 2) scComes.nd rfl (Or.inl rfl) (pe_ix ix_tup (pv 0) (pv 2) (fun _ _ => rfl)))
        (pss_one (ps_if (pt_cmpR op_eq (pv 2) (pv 1) (nomark _)) (pss_one (ps_ret pe_bl)) pss_nil))))
      (pss_one (ps_ret pe_bl))), ?_⟩
    refine ⟨_, rfl, _, rfl, a, rfl, ⟨_, ha⟩, ?_⟩
    have ln : (nts g).length = g.length := nts_length g
    refine for_it (walk_tup (K := K) (a := a) (xs := nts g)) (fun i σ H' => ∃ v, σ = [some (.ref a), some (.int (q : Nat)), some (.int (its g q i : Nat)), v] ∧ H' = H ∧ ∀ j, j < i → its g q (j + 1) ≠ q) ⟨_, rfl, rfl, fun j hj => absurd hj (Nat.not_lt_zero _)⟩ (fun i σ H' _ h => ?_) ?_ ?_
    · obtain ⟨v, _, rfl, _⟩ := h
      exact ha
    · rintro i x σ H1 H2 hi ⟨v, rfl, rfl, no⟩ y
      obtain ⟨rfl, _⟩ := y
      rw [ln] at hi
      have il := its_lt wf hq i
      refine ⟨_, rfl, _, rfl, a, _, _, _, rfl, rfl, ha, nts_at' il, ?_⟩
      refine ⟨_, rfl, _, rfl, rfl, _, rfl, ?_⟩
      by_cases c : its g q (i + 1) = q
      · have c' : (V.int ((g.getD (its g q i) 0 : Nat) : Int)) = V.int ((q : Nat) : Int) := congrArg V.int (congrArg Int.ofNat c)
        rw [decide_eq_true c']
        refine iteT ?_
        have e : comesB g q = true := by
          unfold comesB
          rw [List.any_eq_true]
          exact ⟨i, List.mem_range.mpr hi, decide_eq_true c⟩
        rw [e] at k
        exact k
      · have c' : ¬ (V.int ((g.getD (its g q i) 0 : Nat) : Int)) = V.int ((q : Nat) : Int) := fun z => c (by
          injection z with z
          exact Int.ofNat.inj z)
        rw [decide_eq_false c']
        refine iteF ?_
        refine ⟨_, rfl, rfl, fun j hj => ?_⟩
        by_cases e : j = i
        · rw [e]
          exact c
        · exact no j (by omega)
    · rintro σ H1 ⟨v, rfl, rfl, no⟩
      have e : comesB g q = false := by
        unfold comesB
        rw [List.any_eq_false]
        intro j hj
        rw [decide_eq_true_eq]
        exact no j (by rw [ln]; exact List.mem_range.mp hj)
      rw [e] at k
      exact k
theorem find_none {p : Nat → Bool} {n : Nat} (h : ∀ j, j < n → p j = false) : (List.range n).find? p = none := by
  rw [List.find?_eq_none]
  intro j hj z
  rw [h j (List.mem_range.mp hj)] at z
  cases z
theorem find_at {p : Nat → Bool} {n i : Nat} (h : ∀ j, j < i → p j = false) (hi : i < n) (t : p i = true) : (List.range n).find? p = some i := by
  induction n with
  | zero => exact absurd hi (Nat.not_lt_zero _)
  | succ n ih =>
    rw [List.range_succ, List.find?_append]
    by_cases c : i < n
    · rw [ih c]
      rfl
    · have e : i = n := by omega
      subst e
      rw [find_none h]
      simp [List.find?, t]
theorem ok_turned {f g1 : Addr} {fd gd : FuncData} (F : Fun K "turned_state" "turned_state" sTurned f fd) (G : Fun K "comes_back" "comes_back" sComes g1 gd) (bG : Binds K gd ["action", "state"] []) (mG : mg "comes_back" = some (.ref g1)) (hE : mg "enumerate" = none) :
    FnOk P w K mg base CX0 2 f fd ["action"] (spTurned K) := by
  have GC : FnOk P w K mg base CX0 1 g1 gd ["action", "state"] (spComes K) := ok_comes G
  refine F.ok scTurned (fun vs H Q E h => ?_) (fun cdv A outer s H vs Q E hr h => ?_)
  · obtain ⟨a, g, rfl, _⟩ := h
    rfl
  · obtain ⟨a, g, rfl, ha, wf, k⟩ := h
    refine ⟨_, pss_cons (ps_for PassesOwn.never rfl (NvT.pi_enumT rfl hE (pa_cons (pv 0) pa_nil)) (pg_tup rfl (pgs_cons (pg_name (i := 1) scTurned.nd rfl (Or.inl rfl)) (pgs_cons (pg_name (i := 2) scTurned.nd rfl (Or.inl rfl)) pgs_nil)))
        (pss_one (ps_if (PW.pt (pw_and (pt_cmpR op_ne (pv 2) (pv 1) (nomark _)) (pw_and1 (pt_val (pe_call GC hr rfl mG G.kp bG .nil pass0 (pa_cons (pv 0) (pa_cons (pv 1) pa_nil))))))) (pss_one (ps_ret (pv 1))) pss_nil)))
      (pss_one (ps_ret pe_non)), ?_⟩
    have ln : (nts g).length = g.length := nts_length g
    refine ⟨_, rfl, a, nts g, rfl, ha, for_it (NvT.walk_enumT (K := K) (a := a) (xs := nts g)) (fun i σ H' => ∃ v1 v2, σ = [some (.ref a), v1, v2] ∧ Same H H' ∧ ∀ j, j < i → turnedB g j = false) ⟨_, _, rfl, Same.refl H, fun j hj => absurd hj (Nat.not_lt_zero _)⟩ (fun i σ H' _ h => ?_) ?_ ?_⟩
    · obtain ⟨v1, v2, _, s1, _⟩ := h
      exact sqt_same s1 ha
    · rintro i x σ H1 H2 hi ⟨v1, v2, rfl, s1, no⟩ ⟨T, x1, x2, rfl, nT, rfl, e1, e2⟩
      rw [ln] at hi
      cases e1
      have e2 : (nts g)[i]? = some x2 := e2
      have ei : (nts g)[i]? = some (.int ((g.getD i 0 : Nat) : Int)) := by
        unfold nts
        rw [List.getElem?_map, List.getElem?_eq_getElem hi]
        simp [List.getD, List.getElem?_eq_getElem hi]
      rw [ei] at e2
      cases e2
      have s2 := Same.new (u := .tup [.int (i : Nat), .int ((g.getD i 0 : Nat) : Int)]) s1 nT
      refine ⟨T, _, rfl, SqT.of upd_same, rfl, _, _, rfl, _, _, rfl, rfl, ?_⟩
      generalize upd H1 T (.tup [.int (i : Nat), .int ((g.getD i 0 : Nat) : Int)]) = H3 at s2 ⊢
      refine ⟨_, rfl, _, rfl, rfl, _, rfl, ?_⟩
      by_cases c : g.getD i 0 = i
      · have c' : (V.int ((g.getD i 0 : Nat) : Int)) = V.int ((i : Nat) : Int) := congrArg V.int (congrArg Int.ofNat c)
        rw [decide_eq_true c']
        refine iteF (iteF ?_)
        refine ⟨_, _, rfl, s2, fun j hj => ?_⟩
        by_cases e : j = i
        · rw [e]
          unfold turnedB
          rw [decide_eq_false (fun z => z c)]
          rfl
        · exact no j (by omega)
      · have c' : ¬ (V.int ((g.getD i 0 : Nat) : Int)) = V.int ((i : Nat) : Int) := fun z => c (by
          injection z with z
          exact Int.ofNat.inj z)
        rw [decide_eq_false c']
        refine iteT ?_
        refine ⟨_, rfl, _, rfl, a, g, i, rfl, sqt_same s2 ha, wf, hi, _, rfl, ?_⟩
        have et : turnedB g i = comesB g i := by
          unfold turnedB
          rw [decide_eq_true c, Bool.true_and]
        cases b : comesB g i with
        | true =>
          refine iteT ?_
          have q : turned g = some i := find_at no hi (et.trans b)
          rw [q] at k
          exact ⟨_, rfl, k H3 s2⟩
        | false =>
          refine iteF ?_
          refine ⟨_, _, rfl, s2, fun j hj => ?_⟩
          by_cases e : j = i
          · rw [e, et, b]
          · exact no j (by omega)
    · rintro σ H1 ⟨v1, v2, rfl, s1, no⟩
      rw [ln] at no
      have q : turned g = none := find_none no
      rw [q] at k
      exact k H1 s1
theorem keep_frz {H H' : Hp} {d : Addr} {o u : HO} (h : H d = some u) (s : Same (upd H d o) H') : Same H (upd H' d u) := fun b v e => by
  by_cases c : b = d
  · rw [c, upd_same]
    rw [c, h] at e
    exact e
  · rw [upd_ne c]
    exact s _ _ (by rw [upd_ne c]; exact e)
theorem ok_among {f g1 : Addr} {fd gd : FuncData} (F : Fun K "turn_among" "turn_among" sAmong f fd) (GT : FnOk P w K mg base CX0 2 g1 gd ["action"] (spTurned K)) (kp : PySem.W.keepIn K (.ref g1) = true) (bG : Binds K gd ["action"] []) (mG : mg "turned_state" = some (.ref g1)) :
    FnOk P w K mg base CX0 3 f fd ["words"] spAmong := by
  refine F.ok scAmong (fun vs H Q E h => ?_) (fun cdv A outer s H vs Q E hr h => ?_)
  · obtain ⟨D, F, rfl, _⟩ := h
    rfl
  · obtain ⟨D, F, rfl, hD, wf, kN, kS⟩ := h
    refine ⟨_, pss_cons (ps_lock (ps_for PassesOwn.never rfl (NvU.pi_itemsT (pv 0)) (pg_tup rfl (pgs_cons (pg_name (i := 1) scAmong.nd rfl (Or.inl rfl)) (pgs_cons (pg_name (i := 2) scAmong.nd rfl (Or.inl rfl)) pgs_nil)))
        (pss_cons (ps_set (i := 3) scAmong.nd rfl (Or.inl rfl) (pe_call GT hr rfl mG kp bG .nil pass0 (pa_cons (pv 1) pa_nil)))
        (pss_one (ps_if (pt_cmpR op_notN (pv 3) pe_non (nomark _)) (pss_one (ps_ret (pe_tup (pa_cons (pv 2) (pa_cons (pv 3) pa_nil))))) pss_nil)))))
      (pss_one (ps_ret pe_non)), ?_⟩
    refine ⟨D, _, hD, trivial, fun od => ?_⟩
    have lE : (ents F).length = F.length := List.length_map _
    refine ⟨_, rfl, D, od, ents F, rfl, upd_same, for_it (NvU.walk_itemsT (d := D) (o := od) (kvs := ents F)) (fun i σ H' => ∃ v1 v2 v3, σ = [some (.ref D), v1, v2, v3] ∧ Same (upd H D (.frz od (.dT (ents F)))) H' ∧ (F.take i).findSome? (fun z => (turned z.1).map fun q => (z.2, q)) = none) ⟨_, _, _, rfl, Same.refl _, by rw [List.take_zero]; rfl⟩ (fun i σ H' _ h => ?_) ?_ ?_⟩
    · obtain ⟨v1, v2, v3, _, s1, _⟩ := h
      exact s1 _ _ upd_same
    · rintro i x σ H1 H2 hi ⟨v1, v2, v3, rfl, s1, no⟩ ⟨T, q, kk, v, hk, rfl, hq, nT, rfl⟩
      rw [lE] at hi
      have hz : F[i]? = some F[i] := List.getElem?_eq_getElem hi
      generalize F[i] = z at hz
      have ek : (kk, v) = (key z.1, V.str z.2) := by
        unfold ents at hk
        rw [List.getElem?_map, hz] at hk
        exact (Option.some.inj hk).symm
      cases ek
      rw [key_tup] at hq
      have s2 := Same.new (u := .tup [.ref q, .str z.2]) s1 nT
      have hq2 := keep_new (u := .tup [.ref q, .str z.2]) hq nT
      refine ⟨T, _, rfl, SqT.of upd_same, rfl, _, _, rfl, _, _, rfl, rfl, ?_⟩
      generalize upd H1 T (.tup [.ref q, .str z.2]) = H3 at s2 hq2 ⊢
      refine ⟨_, rfl, q, z.1, rfl, SqT.of hq2, wf z (List.mem_of_getElem? hz), fun H4 s4 => ?_⟩
      have s5 := s2.trans s4
      have et : (F.take (i + 1)).findSome? (fun z => (turned z.1).map fun q => (z.2, q)) = (turned z.1).map fun q => (z.2, q) := by
        rw [take_snoc hz, List.findSome?_append, no]
        simp
      refine ⟨_, rfl, rfl, _, rfl, ?_⟩
      cases ht : turned z.1 with
      | none =>
        refine iteF ?_
        rw [ht] at et
        exact ⟨_, _, _, rfl, s5, et⟩
      | some r =>
        refine iteT ?_
        have hA : among F = some (z.2, r) := by
          unfold among
          rw [← List.take_append_drop (i + 1) F, List.findSome?_append, et, ht]
          rfl
        refine ⟨_, rfl, _, rfl, (by show 2 ≤ sizeLine; decide), fun p np => ?_⟩
        have s6 := Same.new (u := .tup [.str z.2, .int (r : Nat)]) s5 np
        refine ⟨s6 _ _ upd_same, kS z.2 r hA p _ ?_ (keep_frz hD s6)⟩
        rw [upd_ne (ne_of (o := .tup [.str z.2, .int (r : Nat)]) upd_same (s6 _ _ upd_same) (fun z => by cases z))]
        exact upd_same
    · rintro σ H1 ⟨v1, v2, v3, rfl, s1, no⟩
      rw [lE, List.take_of_length_le (Nat.le_refl _)] at no
      exact ⟨s1 _ _ upd_same, kN no _ (keep_frz hD s1)⟩
end
end M3

set_option Elab.async false
set_option linter.all false
set_option maxRecDepth 100000
set_option maxHeartbeats 8000000
/-! # An own class's __contains__, __len__, __str__, asked from outside -/
namespace NvO
open PySem PySem.Spec PyProof.Rows L2
variable {X : Cx} {k : Nat} {f C : Addr} {fd : FuncData} {sp : Sp} {pa pb : Str}
/-- the frame that the walk's rules ask for -/
theorem fr_of {pins : List (Addr × Obj)} {σ : L2.St} {H : Hp} {s : Shared} (I : Inv X pins σ H s) : ∃ m, Fr X.base X.env.locals s.heap m := by
  obtain ⟨m, hn, _⟩ := I.loc
  exact ⟨m, hn, I.bk, Nat.le_trans I.ok.bsz I.ok.above⟩
theorem inst_of {pins : List (Addr × Obj)} {σ : L2.St} {H : Hp} {s : Shared} {a dx : Addr} {fs : List (Str × V)} (I : Inv X pins σ H s) (ha : H a = some (.ins C dx fs)) : ∃ (ox : Obj) (od : Option Obj), PySem.W.InstAt s.heap a ox C od := by
  obtain ⟨mA, O, _⟩ := ins_get I.hok ha
  obtain ⟨od, J, _⟩ := O.look
  exact ⟨_, od, J⟩
/-- v in o, o of a class with its own __contains__ that gives True or False -/
theorem op_inO (F : FnOk X.prog X.w X.K X.mg X.base CX0 k f fd [pa, pb] sp) (hr : Room k X.A) (hb : Binds X.K fd [pa, pb] []) (hx : Passes CX0 X E0) (hs : PySem.W.findIn X.K (.ref C) "__contains__" = some (some (.ref f))) (hf : PySem.W.isFn X.K (.ref f) = true) :
    OpR X (compareOp .In) (fun x y H Q => ∃ (a dx : Addr) (fs : List (Str × V)), y = .ref a ∧ H a = some (.ins C dx fs) ∧ sp [.ref a, x] H (fun v H' => ∃ b, v = .bl b ∧ Q (.bl b) H') E0) := by
  intro pins s σ H x y v u Q I rx ry h
  obtain ⟨a, dx, fs, rfl, ha, h⟩ := h
  cases ry
  obtain ⟨m, Fm⟩ := fr_of I
  obtain ⟨ox, od, J⟩ := inst_of I ha
  refine PySem.W.in_K Fm I.ok.mod.kin J hs hf (wpAny_mono (run_fn F hr hb .nil hx I (.cons (show RelV (.ref a) (.ref a) from rfl) (.cons rx .nil)) h) (fun r s' hq => ?_) fun _ _ z => z)
  obtain ⟨z, H', I', rz, b, rfl, q⟩ := hq
  cases rz
  exact wpAny_truthy_bool ⟨.bl b, H', I', rfl, q⟩
/-- a def runs below the body, with the same frames -/
theorem run_at {A' : Around} {pins : List (Addr × Obj)} {σ : L2.St} {H : Hp} {s : Shared} {Q : VK} {us : List Value} {vs : List V} {ps : List Str} (fr : A'.frames = some X.stack) (F : FnOk X.prog X.w X.K X.mg X.base CX0 k f fd ps sp) (hr : Room k A') (hb : Binds X.K fd ps []) (hx : Passes CX0 X E0)
    (I : Inv X pins σ H s) (r : Vals vs us) (h : sp vs H Q E0) : wpAny (model X.prog X.w) A' (call (.ref f) us) (EP X pins σ Q) X.xe s := by
  have e0 : Env0 X.prog X.w X.K X.mg X.base A' X.stack s H := by
    obtain ⟨_, a2, a3, a4, a5, a6, a7, a8⟩ := I.env0
    exact ⟨fr, a2, a3, a4, a5, a6, a7, a8⟩
  have hl : us.length = ps.length := by
    rw [← r.length]
    exact F.len _ _ _ _ h
  have b := hb s us I.kIn (by rw [List.append_nil]; exact hl)
  rw [List.append_nil] at b
  refine wpAny_call (codeAny_mono (F.run A' X.stack s H ⟨us, []⟩ us vs Q E0 hr e0 b r h) fun z s' hq => ?_)
  cases z with
  | error e => exact hx pins σ H s e s' I hq
  | ok fl =>
    cases fl with
    | ret u => exact I.after hq
    | next => exact hq.elim
    | brk => exact hq.elim
    | cont => exact hq.elim
/-- len(o), o of a class with its own __len__ -/
theorem call_lenO (F : FnOk X.prog X.w X.K X.mg X.base CX0 k f fd [pa] sp) (hr : Room (k + 1) X.A) (hb : Binds X.K fd [pa] []) (hx : Passes CX0 X E0) (hs : PySem.W.findIn X.K (.ref C) "__len__" = some (some (.ref f))) (hf : PySem.W.isFn X.K (.ref f) = true) :
    CallR X (.builtin "len") (fun xs H Q => ∃ (a dx : Addr) (fs : List (Str × V)), xs = [.ref a] ∧ H a = some (.ins C dx fs) ∧ sp [.ref a] H (fun v H' => ∃ n : Int, v = .int n ∧ 0 ≤ n ∧ n < 2 ^ 63 ∧ Q (.int n) H') E0) := by
  intro pins s σ H xs us Q I r h
  obtain ⟨a, dx, fs, rfl, ha, h⟩ := h
  obtain ⟨u, rfl, ru⟩ := vals1 r
  cases ru
  obtain ⟨m, Fm⟩ := fr_of I
  obtain ⟨ox, od, J⟩ := inst_of I ha
  refine PySem.W.len_K Fm I.ok.mod.kin J hs hf (wpAny_mono (run_at (A' := X.A.in1) I.ok.frames F hr.in1 hb hx I (.cons (show RelV (.ref a) (.ref a) from rfl) .nil) h) (fun z s' hq => ?_) fun _ _ z => z)
  obtain ⟨v, H', I', rz, n, rfl, n0, n1, q⟩ := hq
  obtain ⟨t, rfl⟩ := rz
  exact ⟨⟨n0, n1⟩, .int n, H', I'.tok _, ⟨_, rfl⟩, q⟩
/-- o == v, o of a class with its own __eq__ that gives True or False -/
theorem op_eqO (F : FnOk X.prog X.w X.K X.mg X.base CX0 k f fd [pa, pb] sp) (hr : Room k X.A) (hb : Binds X.K fd [pa, pb] []) (hx : Passes CX0 X E0) (hs : PySem.W.findIn X.K (.ref C) "__eq__" = some (some (.ref f))) (hf : PySem.W.isFn X.K (.ref f) = true) :
    OpR X (compareOp .Eq) (fun x y H Q => ∃ (a dx : Addr) (fs : List (Str × V)) (tb : Value), x = .ref a ∧ H a = some (.ins C dx fs) ∧ TyX X.K H y tb ∧ PySem.W.notFirst X.K C tb = true ∧ sp [.ref a, y] H (fun v H' => ∃ b, v = .bl b ∧ Q (.bl b) H') E0) := by
  intro pins s σ H x y v u Q I rx ry h
  obtain ⟨a, dx, fs, tb, rfl, ha, ty, nf, h⟩ := h
  cases rx
  obtain ⟨m, Fm⟩ := fr_of I
  obtain ⟨ox, od, J⟩ := inst_of I ha
  obtain ⟨Pz, Z, p, _⟩ := kit_of I ry ty
  have hu : X.A.units < cLine := by
    have := hr.un
    omega
  show wpAny _ _ (richCompare .Eq _ _) _ _ _
  refine PySem.W.cmp_K (op := .Eq) hu Fm I.ok.mod.kin J (Z.ty _ _ I.kIn p) nf hs hf (wpAny_mono (run_fn F hr hb .nil hx I (.cons (show RelV (.ref a) (.ref a) from rfl) (.cons ry .nil)) h) (fun r s' hq => ?_) fun _ _ z => z)
  obtain ⟨z, H', I', rz, b, rfl, q⟩ := hq
  cases rz
  exact ⟨.bl b, H', I', rfl, q⟩
end NvO

set_option Elab.async false
set_option linter.all false
set_option maxRecDepth 100000
set_option maxHeartbeats 8000000
/-! # str(o), o != v by own __str__, __eq__; == of dicts of data, both answers; a method called with keywords -/
namespace NvO
open PySem PySem.Spec PyProof.Rows L2 PySem.W
section
variable {X : Cx} {k : Nat} {f C : Addr} {fd : FuncData} {sp : Sp} {pa pb : Str}
open Builtin Builtin.Str in
/-- str(o), o of a class with its own __str__ -/
theorem call_strO (F : FnOk X.prog X.w X.K X.mg X.base CX0 k f fd [pa] sp) (hr : Room (k + 2) X.A) (hb : Binds X.K fd [pa] []) (hx : Passes CX0 X E0) (hs : PySem.W.findIn X.K (.ref C) "__str__" = some (some (.ref f))) (hf : PySem.W.isFn X.K (.ref f) = true) :
    CallR X (.type "str") (fun xs H Q => ∃ (a dx : Addr) (fs : List (Str × V)), xs = [.ref a] ∧ H a = some (.ins C dx fs) ∧ sp [.ref a] H (fun v H' => ∃ y : Str, v = .str y ∧ Q (.str y) H') E0) := by
  intro pins s σ H xs us Q I r h
  obtain ⟨a, dx, fs, rfl, ha, h⟩ := h
  obtain ⟨u, rfl, ru⟩ := vals1 r
  cases ru
  obtain ⟨ox, od, J⟩ := inst_of I ha
  have hu : X.A.in1.in1.units < cLine := by
    have := hr.un
    show X.A.units + 1 + 1 < cLine
    omega
  refine callType_codes (T := "str") (Bi := Builtin.«object.__init__») (Q₁ := fun r s₁ => ∃ y u, r = .str y u ∧ EP X pins σ Q r s₁) PySem.F.called_str (PySem.F.typeCall_str_1 _) PySem.F.entry_object_init ?_ ?_
  · refine codeAny_of_tree ?_
    show wpAny _ X.A.in1.in1 (do checkBuiltinCall "str.__new__" ⟨[.type "str", .ref a], []⟩; again (.builtin "str.__new__" ⟨[.type "str", .ref a], []⟩)) _ _ s
    refine wpAny_bind (wpAny_of_eq (PySem.F.newCall_str_1 _) (wpAny_pure ⟨plainId_quiet (by decide +kernel) _, codeAny_builtin PySem.F.entry_str_new ?_⟩))
    rw [Around.under_plainId (by decide +kernel) _]
    rw [str_new_tree]
    refine wpAny_bind (wpAny_pure ?_)
    refine wpAny_bind (wpAny_of_eq isSubtype_str_str ?_)
    have key : wpAny (model X.prog X.w) X.A.in1.in1 (PySem.Builtin.Str.strOf (.ref a)) (fun r s₁ => ∃ y u, r = .str y u ∧ EP X pins σ Q r s₁) X.xe s := by
      unfold PySem.Builtin.Str.strOf
      rw [show isExactStr (.ref a) = false from rfl]
      refine wpAny_bind (m := cRoomFor _ _) (wpAny_cRoomFor hu ?_)
      refine wpAny_bind (m := callSpecial? (.ref a) (Str.ofString "__str__")) (special_fn I.kIn J hs (beq_iff_eq.mp hf) (wpAny_mono (run_at (A' := X.A.in1.in1) I.ok.frames F hr.in1.in1 hb hx I (.cons (show RelV (.ref a) (.ref a) from rfl) .nil) h) (fun z s' hq => ?_) fun _ _ y => y))
      obtain ⟨v, H', I', rz, y, rfl, q⟩ := hq
      obtain ⟨t, rfl⟩ := rz
      exact wpAny_pure ⟨_, _, rfl, .str y, H', I', ⟨_, rfl⟩, q⟩
    exact wpAny_bind (wpAny_mono key (fun r s₁ hr => wpAny_pure hr) fun _ _ y => y)
  · rintro obj s₁ ⟨y, u, rfl, hq⟩
    exact ⟨typeIs_str _ _ _, PySem.F.args_object_init_2 _ _, object_init_meets PySem.F.called_str.init.lookup PySem.F.called_str.made (by decide) X.prog X.w X.A.in1 _ s₁ ⟨typeIs_str _ _ _, rfl, hq⟩⟩
/-- a built-in slot found at an instance's class, called -/
theorem ifBound_B {prog : Program} {w : World} {A : Around} {E : Value → Shared → Prop} {s : Shared} {K : Frag} {x C : Addr} {ox : Obj} {od : Option Obj} {name : Str} {id : String} {M : Model} {args : List Value} {Q : Option Value → Shared → Prop}
    (X : K.In s.heap) (I : InstAt s.heap x ox C od) (hs : findIn K (.ref C) name = some (some (.builtin id))) (hb : ∀ self, bindSpecial (.builtin id) self = pure (.builtin id, [self]))
    (h : wpAny M A (call (.builtin id) (.ref x :: args)) (fun v => Q (some v)) E s) : wpAny M A (callSpecialIfBound? (.ref x) name args) Q E s := by
  simp only [callSpecialIfBound?, bindSpecialIfBound?]
  refine wpAny_holding (wpAny_bind (wpAny_bind (wpAny_bind (I.type.here ((looks_findIn X hs).here ?_)))))
  refine wpAny_bind (wpAny_askSetting (wpAny_ite ?_))
  have fin : wpAny M A (call (.builtin id) ([.ref x] ++ args) >>= fun v => pure (some v)) Q E s := wpAny_bind (wpAny_mono h (fun v s' h' => wpAny_pure h') fun _ _ h' => h')
  split
  · exact wpAny_bind ((Looks.of_pure (hb _)).here (wpAny_pure (by exact fin)))
  · exact wpAny_tryCatch (wpAny_bind ((Looks.of_pure (hb _)).here (wpAny_pure (by exact fin))))
open Builtin in
/-- o != v, o of a class with its own __eq__ that gives True or False, and without __ne__ -/
theorem op_neO (F : FnOk X.prog X.w X.K X.mg X.base CX0 k f fd [pa, pb] sp) (hr : Room (k + 1) X.A) (hb : Binds X.K fd [pa, pb] []) (hx : Passes CX0 X E0) (hn : PySem.W.findIn X.K (.ref C) "__ne__" = some (some (.builtin "object.__ne__"))) (hm : PySem.W.mroIn X.K C (.type "object") = some true) (hs : PySem.W.findIn X.K (.ref C) "__eq__" = some (some (.ref f))) (hf : PySem.W.isFn X.K (.ref f) = true) :
    OpR X (compareOp .NotEq) (fun x y H Q => ∃ (a dx : Addr) (fs : List (Str × V)) (tb : Value), x = .ref a ∧ H a = some (.ins C dx fs) ∧ TyX X.K H y tb ∧ PySem.W.notFirst X.K C tb = true ∧ sp [.ref a, y] H (fun v H' => ∃ b, v = .bl b ∧ Q (.bl (!b)) H') E0) := by
  intro pins s σ H x y v u Q I rx ry h
  obtain ⟨a, dx, fs, tb, rfl, ha, ty, nf, h⟩ := h
  cases rx
  obtain ⟨ox, od, J⟩ := inst_of I ha
  obtain ⟨Pz, Z, p, _⟩ := kit_of I ry ty
  have hu : X.A.units < cLine := by
    have := hr.un
    omega
  have hu1 : X.A.in1.units < cLine := by
    have := hr.un
    show X.A.units + 1 < cLine
    omega
  have KX := I.kIn
  have one : wpAny (model X.prog X.w) X.A (tryCompare (.ref a) "__ne__" u) (fun r s' => ∃ v, r = some v ∧ EP X pins σ Q v s') X.xe s := by
    unfold tryCompare
    refine wpAny_bind (ifBound_B (prog := X.prog) (w := X.w) KX J hn PySem.F.slot_object_ne.bind (wpAny_call (codeAny_call_builtin PySem.F.slot_object_ne.plain PySem.F.entry_object_ne (check_slot (i := "object.__ne__") (owner := "object") (n := "__ne__") (by decide +kernel) (by decide +kernel) (J.type.andThen (looks_mroIn KX hm)) (PySem.F.args_object_ne_2 _ _) ?_))))
    unfold Builtin.«object.__ne__»
    refine wpAny_bind (m := slotArgs "__ne__" 1 _) (wpAny_pure ?_)
    refine wpAny_bind (m := cRoomFor _ _) (wpAny_cRoomFor hu1 ?_)
    refine wpAny_bind (m := callSpecialIfBound? (.ref a) (Str.ofString "__eq__") _) (ifBound_K KX J hs hf (wpAny_mono (run_at (A' := X.A.in1) I.ok.frames F hr.in1 hb hx I (.cons (show RelV (.ref a) (.ref a) from rfl) (.cons ry .nil)) h) (fun r s' hq => ?_) fun _ _ y => y))
    obtain ⟨z, H', I', rz, b, rfl, q⟩ := hq
    cases rz
    refine wpAny_bind (m := truthy (.bool b)) (wpAny_truthy_bool ?_)
    exact wpAny_pure (wpAny_pure ⟨_, rfl, .bl (!b), H', I', rfl, q⟩)
  show wpAny _ _ (richCompare .NotEq _ _) _ _ _
  unfold richCompare
  simp only [oneThing_ref]
  refine wpAny_holding (wpAny_bind (wpAny_cRoomFor hu ?_))
  refine wpAny_bind (J.type.here (wpAny_bind ((Z.ty _ _ KX p).here ?_)))
  split
  · rename_i q
    have e : subIn X.K tb (.ref C) = some false := by
      rcases Bool.or_eq_true_iff.mp nf with e | e
      · rw [beq_iff_eq.mp e] at q; simp at q
      · exact beq_iff_eq.mp e
    refine wpAny_bind ((looks_subIn KX e).here ?_)
    simp only [Bool.false_eq_true, if_false]
    refine wpAny_bind (wpAny_mono one (fun r s' z => ?_) fun _ _ e => e)
    obtain ⟨v, rfl, hq⟩ := z
    exact wpAny_pure hq
  · refine wpAny_bind (wpAny_pure ?_)
    simp only [Bool.false_eq_true, if_false]
    refine wpAny_bind (wpAny_mono one (fun r s' z => ?_) fun _ _ e => e)
    obtain ⟨v, rfl, hq⟩ := z
    exact wpAny_pure hq
end
/-- entry by entry: what the other dict holds there is data, and the two are compared -/
inductive HitsD (K : PySem.W.Frag) (H : Hp) (ls : List (Key × V)) : List (Key × V) → Bool → Prop where
  | nil : HitsD K H ls [] true
  | cons {k : Key} {v u : V} {d e : PyData} {r : List (Key × V)} {b : Bool} (hv : valV ls k = some u) (h1 : Dp K H v d) (h2 : Dp K H u e) (s1 : SeqAt.shaped d = true) (s2 : SeqAt.shaped e = true) (t : HitsD K H ls r b) : HitsD K H ls ((k, v) :: r) (PyData.eqv d e && b)
section
variable {X : Cx} {pins : List (Addr × Obj)} {σ : L2.St} {H : Hp} {s : Shared}
theorem hitsD_run (I : Inv X pins σ H s) {A : Around} (hu : A.units + 64 < cLine) {ls : List (Key × V)} {vb : List (Key × Value)} (rb : KV ls vb) {ks : List (Key × V)} {va : List (Key × Value)} {b : Bool}
    (ra : KV ks va) (h : HitsD X.K H ls ks b) : PySem.W.KeqHitsP X.prog X.w A s vb va b := by
  unfold KV at ra
  induction ra generalizing b with
  | nil =>
    cases h
    exact .nil
  | @cons p q ps qs hpq t ih =>
    obtain ⟨h1, h2⟩ := hpq
    cases h with
    | cons hv d1 d2 s1 s2 tl =>
      rename_i k v u d e b'
      have rr : RelO (some u) (valueAt vb k) := by rw [← hv]; exact rb.val k
      obtain ⟨y, hy, ry⟩ := rr.some_of
      obtain ⟨key, w⟩ := q
      have h1' : k = key := h1
      rw [h1'] at hy
      obtain ⟨as, r1⟩ := Dp.reads I d v w d1 h2
      obtain ⟨bs, r2⟩ := Dp.reads I e u y d2 ry
      exact .hit hy (SeqAt.EqAt.eqP (SeqAt.eqAt_reads d e A s w y as bs r1 r2 (SeqAt.canLay_of_shaped s1) (SeqAt.canLay_of_shaped s2) (SeqAt.room_of_shaped s1 hu))) (ih tl)
theorem op_eqDd {X : Cx} (hu : X.A.units + 65 < cLine) : OpR X (compareOp .Eq) (fun x y H Q => ∃ (a b : Addr) (ks ls : List (Key × V)) (r : Bool), x = .ref a ∧ y = .ref b ∧ H a = some (.dK ks) ∧ H b = some (.dK ls) ∧ ks.length = ls.length ∧ HitsD X.K H ls ks r ∧ Q (.bl r) H) := by
  intro pins s σ H x y v u Q I rx ry h
  obtain ⟨a, b, ks, ls, r, rfl, rfl, ha, hb, hl, hp, q⟩ := h
  cases (show v = Value.ref a from rx)
  cases (show u = Value.ref b from ry)
  obtain ⟨_, ya, va, ra, da⟩ := (show ObjOk X.prog X.w H s.heap a (.dK ks) from I.hok a _ ha)
  obtain ⟨_, yb, vb, rb, db⟩ := (show ObjOk X.prog X.w H s.heap b (.dK ls) from I.hok b _ hb)
  refine PySem.W.rcP_dicts (knd := mixKind X.prog X.w) (r := r) ya yb da db (by omega) (fun _ => hitsD_run I (A := X.A.in1) (by show X.A.units + 1 + 64 < cLine; omega) rb ra hp) _ _ ?_
  have e : va.length = vb.length := by rw [← ra.length, ← rb.length]; exact hl
  rw [show (va.length == vb.length && r) = r from by rw [e]; simp]
  exact ⟨.bl r, H, I, rfl, q⟩
end
/-! ## o.m(e, .., k = v, ..) -/
def tMethN (C : Addr) (m : Str) (n j : Nat) (sp : Sp) (gV : List V → List V → List V) (E : XK) (ta : TE) (t tk : TA) : TE := fun σ H Q => ta σ H fun x H0 => ∃ a dx fs, x = .ref a ∧ H0 a = some (.ins C dx fs) ∧ fs.lookup m = none ∧ t σ H0 fun vs H1 => tk σ H1 fun zs H2 => vs.length = n ∧ zs.length = j ∧ sp (gV (x :: vs) zs) H2 Q E
section
variable {X : Cx} {CX : CXT} {k n : Nat} {C f : Addr} {fd : FuncData} {ps ks : List Str} {sp : Sp} {E : XK} {m : Str} {apos pos : Pos} {o e : Expr} {es : List Expr} {kws : List Keyword} {ta : TE} {t tk : TA} {g : List Value → List Value → List Value} {gV : List V → List V → List V}
theorem pe_methN {pl : Sem Bool} (he : PE X o ta) (c : Cls X.K C) (hm : Meth X.K C m f) (F : FnOk X.prog X.w X.K X.mg X.base CX k f fd ps sp) (hr : Room k X.A) (hb : KBn X.K fd ps (n + 1) ks g gV) (hx : Passes CX X E) (ha : PA X (e :: es) t) (hkw : PK X kws tk)
    (hall : (backToKw pos (keywordEach kws X.env)).all (·.1.isSome) = true := by rfl) (hks : (backToKw pos (keywordEach kws X.env)).filterMap (·.1) = ks := by rfl)
    (hst : starEach (e :: es) X.env = (false, eval e X.env) :: starEach es X.env := by rfl)
    (hpl : ((backTo pos (starEach (e :: es) X.env)).any (·.1) || (backToKw pos (keywordEach kws X.env)).any (·.1.isNone)) = false := by rfl)
    (ht : eval (.Call (.Attribute o m apos) (e :: es) kws pos) X.env = (do
      let ov ← eval o X.env
      standAt apos.atName
      let (f, first) ← holding [ov] (getMethod ov m pl)
      callWith pos f first (backTo pos (starEach (e :: es) X.env)) (backToKw pos (keywordEach kws X.env))) := by rfl) :
    PE X (.Call (.Attribute o m apos) (e :: es) kws pos) (tMethN C m n ks.length sp gV E ta t tk) := by
  refine ⟨fun pins s σ H Q I h => ?_⟩
  refine PySem.W.methodCall_KW (pl := pl) (thn (he.run pins s σ H _ I h) fun u s1 ⟨x, H1, I1, rx, a, dx, fs, ex, ea, l, q⟩ => ?_) ht
  subst ex
  obtain rfl : u = Value.ref a := rx
  refine getmeth_ok I1 ea c hm l ?_
  refine PySem.W.callWith_KW (first := [.ref a]) (h₀ := X.base) I.ok.mod.kin hm.kp hall (thn (ha.run pos pins s1 σ H1 _ I1 q) fun us s2 ⟨vs, H2, I2, r, q2⟩ => ?_) hpl hst
  refine thn (hkw.run pos pins s2 σ H2 _ I2 q2) fun ws s3 ⟨zs, H3, I3, rz, l1, l2, q3⟩ => ⟨I3.kIn, ?_⟩
  rw [hks]
  exact run_fnN (us := .ref a :: us) (vs := .ref a :: vs) F hr hb hx I3 (.cons rfl r) rz (congrArg Nat.succ l1) l2 q3
end
end NvO

set_option Elab.async false
set_option linter.all false
set_option maxRecDepth 100000
set_option maxHeartbeats 8000000
/-! # An own error with an __init__ of its own: from what stands in K (no law's own; of K0g) -/
namespace NvI
open PySem L2
theorem init_mk {prog : Program} {K : PySem.W.Frag} {C fI : Addr} {B i B0 newId : String} {f : String} {qual : Str}
    {oc : Value} {od : Option Addr} {doc pm : Value} {an : Option Addr} {cda : Addr} {ct : Value} {cc : Addr} {osl : Array (Option Value)} {msg : Str} {j : Nat} {p1 p2 a0 a1 a2 a3 a4 a5 q1 q2 q3 q4 : Pos}
    {ccl : Value} {cdd : Option Addr} {vs : Array Value} {ccs : Array (Option Value)} {file : Str} {tf : Tok} {cl : Value} {cld : Option Addr} {csl : Array (Option Value)}
    {nm q : Str} {N : Addr} {bs bm : List Value} {sn : List Str} {sub : List Value} {ab : Bool} {col : Option Bool} {dd : Option Addr} {k0 k1 k2 k3 k5 : Option Value} {i0 : String} {bmB : List Value}
    (iC : PySem.W.findIn K (.ref C) "__init__" = some (some (.ref fI)))
    (l1 : K.lookup fI = some ⟨oc, od, .func (PySem.W.ksFn "__init__" qual (PySem.NvE.iArgs f p1 p2) (PySem.NvE.iBody f msg j a0 a1 a2 a3 a4 a5 q1 q2 q3 q4) (PySem.NvE.iScope f) .none .none doc pm an (.ref cda) ct cc), osl⟩) (c1 : PySem.W.codeIn K (.ref cda) qual = true)
    (l2 : K.lookup cda = some ⟨ccl, cdd, .fields vs, ccs⟩) (v2 : vs[2]? = some (.str file tf)) (fl : ((prog.main.file : Str) == file) = true) (l3 : K.lookup cc = some ⟨cl, cld, .cell (some (.ref C)), csl⟩)
    (ev : ∀ L a cd c2, PySem.NvE.EvOk (PySem.W.ksEnv qual (PySem.NvE.iScope f) L a cd c2) msg j a0 a1 a2 a3 a4)
    (l4 : K.lookup C = some (excClassObj nm q C N bs bm true sn sub ab col dd k0 k1 k2 k3 k5 newId)) (rl : ∀ self, refuseLoop self "__setattr__" (.ref C :: bm) = pure ()) (ob : bm.contains (.type "object") = true) (nb : PySem.NvE.NewOk bm B0)
    (nf : ExcBaseFacts B0 newId i0 bmB) (tI : PySem.W.typeIn K (.ref fI) = some (.type "function")) (self : PySem.W.mroIn K C (.ref C) = some true) (up : PySem.W.ks_superIn K C C "__init__" = some (some (.builtin i)))
    (isB : PySem.W.subIn K (.ref C) (.type B) = some true) (stat : PySem.W.nsIn K PySem.cStatics "thirdparty.any" = some none) (sa : PySem.W.findIn K (.ref C) "__setattr__" = some (some (.builtin "object.__setattr__"))) (noF : PySem.W.findIn K (.ref C) (Str.ofString f) = some none)
    (inF : PySem.NvE.InF B i) (sup : PySem.W.nsIn K mainGlobals "super" = some none) (top : (prog.main.scope.names.lookup ("super" : Str)).isSome = false)
    (fs : (Str.ofString f == ("self" : Str)) = false) (fsup : (PySem.NvE.iScope f).names.lookup ("super" : Str) = some .globalImplicit) (fcl : (PySem.NvE.iScope f).names.lookup ("__class__" : Str) = some .free) (ff : (PySem.NvE.iScope f).names.lookup (Str.ofString f) = some .local)
    (fdb : (Str.ofString f == ("__debug__" : Str)) = false) (ncell : ∀ x ∈ (PySem.NvE.iScope f).names, x.2 ≠ .cell)
    (bd : ∀ (b : List Stmt) (doc pm ct cv : Value) (an : Option Addr) (cc : Addr) (p1 p2 : Pos) (x v : Value), bindArgs (PySem.W.ksFn "__init__" qual (PySem.NvE.iArgs f p1 p2) b (PySem.NvE.iScope f) .none .none doc pm an cv ct cc) ⟨[x, v], []⟩ = pure [(("self" : Str), x), (Str.ofString f, v)]) :
    PySem.NvE.InitTxt prog K C fI B i B0 newId f qual :=
  ⟨⟨_, _, _, _, _, _, _, _, _, _, _, _, _, _, _, _, _, _, _, _, _, _, _, l1, c1, ⟨_, _, _, _, _, _, l2, v2, fl⟩, ⟨_, _, _, l3⟩, ev⟩, ⟨_, _, _, _, _, _, _, _, _, _, _, _, _, _, _, l4, rl, ob, nb⟩, ⟨_, _, nf⟩, iC, tI, self, up, isB, stat, sa, noF, inF, sup, top, fs, fsup, fcl, ff, fdb, ncell, bd⟩
end NvI

set_option Elab.async false
set_option linter.all false
set_option maxRecDepth 100000
set_option maxHeartbeats 8000000
/-! # What later defs ask of the others -/
namespace M3
open PySem L2
/-- a def of the top that keeps a promise -/
structure FnC (P : Program) (w : World) (K : PySem.W.Frag) (mg : Str → Option Value) (base : Heap) (k : Nat) (x : Str) (ps : List Str) (sp : Sp) where
  f : Addr
  fd : FuncData
  G : FnOk P w K mg base CX0 k f fd ps sp
  b : Binds K fd ps []
  m : mg x = some (.ref f)
  kp : PySem.W.keepIn K (.ref f) = true
/-- .. that may raise -/
structure FnX (P : Program) (w : World) (K : PySem.W.Frag) (mg : Str → Option Value) (base : Heap) (k : Nat) (x : Str) (ps : List Str) (sp : Sp) where
  f : Addr
  fd : FuncData
  G : FnOk P w K mg base (L2.CX P w) k f fd ps sp
  b : Binds K fd ps []
  m : mg x = some (.ref f)
  kp : PySem.W.keepIn K (.ref f) = true
/-- a method of the class at C that keeps a promise; ds: its defaults -/
structure MtC (P : Program) (w : World) (K : PySem.W.Frag) (mg : Str → Option Value) (base : Heap) (C : Addr) (k : Nat) (x : Str) (ps : List Str) (dvs : List V) (sp : Sp) where
  f : Addr
  fd : FuncData
  ds : List Value
  G : FnOk P w K mg base CX0 k f fd ps sp
  v : Vals dvs ds
  b : Binds K fd ps ds
  m : Meth K C x f
/-- a property of the class at C whose getter keeps a promise -/
structure PrC (P : Program) (w : World) (K : PySem.W.Frag) (mg : Str → Option Value) (base : Heap) (C : Addr) (k : Nat) (x : Str) (sp : Sp) where
  (pa g : Addr)
  fd : FuncData
  hp : PropOf K C x pa g
  G : FnOk P w K mg base CX0 k g fd ["self"] sp
  b : Binds K fd ["self"] []
/-- the class of machines, seen from outside -/
structure TxO (K : PySem.W.Frag) (C : Addr) : Prop where
  ks : PySem.W.kitOne K (.ref C) (.type "str") = some false
  ha : PySem.W.findIn K (.ref C) "__class__" = some (some (.builtin "object.__class__"))
  hn : PySem.W.specialIn K (.builtin "object.__class__") "__get__" = some (some (.builtin "getset_descriptor.__get__"))
  tk : PySem.W.takesIn K (.builtin "object.__class__") = some true
  hm : PySem.W.mroIn K C (.type "object") = some true
  kc : PySem.W.kitOne K (.ref C) (.ref C) = some true
/-- an own error that keeps what it takes -/
structure TxA (P : Program) (K : PySem.W.Frag) (mg : Str → Option Value) (nm : Str) (fld : String) (c : Addr) : Prop where
  tx : ∃ (fI : Addr) (B i B0 newId : String) (qual : Str), PySem.NvE.InitTxt P K c fI B i B0 newId fld qual
  g : mg nm = some (.ref c)
  k : PySem.W.keepIn K (.ref c) = true
  b : PySem.W.subIn K (.ref c) (.type "BaseException") = some true
  t : PySem.W.typeIn K (.ref c) = some (.type "type")
  x : PySem.W.exmOne K (.ref c) (.ref c) = some true
theorem TxA.keeps {P : Program} {K : PySem.W.Frag} {mg : Str → Option Value} {nm : Str} {fld : String} {c : Addr} (T : TxA P K mg nm fld c) {X : Cx} (h1 : X.prog = P) (h2 : X.K = K) (h3 : X.mg = mg) : KeepC X nm c fld := by
  subst h1 h2 h3
  exact ⟨T.tx, T.g, T.k, T.b, T.t⟩
theorem let1 : ∀ a ∈ six, only ⟨#[a]⟩ "abcdefghijklmnopqrstuvwxyz" = true := by decide +kernel
theorem only_all {x : Str} {n : Nat} (h : IsSet x n) {y : Str} (hw : IsW x y) : only y "abcdefghijklmnopqrstuvwxyz" = true := by
  obtain ⟨cs, rfl, hl, hp, hm⟩ := h
  unfold only
  rw [List.all_eq_true]
  intro c hc
  have h1 := hm c (by simpa using hw c hc)
  have h2 := let1 c h1
  unfold only at h2
  rw [List.all_eq_true] at h2
  exact h2 c (by simp)
theorem ne_not {v u : V} (h : v = u) : (!decide (v = u)) = false := by
  rw [decide_eq_true h]
  rfl
theorem same_still {d : Addr} {H H' : Hp} (s : Same H H') : Still d H H' := fun b o _ h => s b o h
theorem same_dz {d : Addr} {H H' : Hp} (s : Same H H') (z : Dz H d) : Dz H' d := by
  obtain ⟨l, m, c, e, h⟩ := z
  exact ⟨l, m, c, s _ _ e, h⟩
theorem sqt_still {K : PySem.W.Frag} {d a : Addr} {H H' : Hp} {xs : List V} (s : Still d H H') (z : Dz H d) (h : SqT K H a xs) : SqT K H' a xs := by
  obtain ⟨l, m, c, e, _⟩ := z
  rcases h with (h | ⟨u, h⟩) | h
  · exact .inl (.inl (s _ _ (fun q => by rw [q, e] at h; cases h) h))
  · exact .inl (.inr ⟨u, s _ _ (fun q => by rw [q, e] at h; cases h) h⟩)
  · exact .inr h
theorem free_of {H H' : Hp} {q : Addr} (s : Same H H') (h : H' q = none) : H q = none := by
  cases e : H q with
  | none => rfl
  | some o =>
    have := s _ _ e
    rw [h] at this
    cases this
end M3

set_option Elab.async false
set_option linter.all false
set_option maxRecDepth 100000
set_option maxHeartbeats 8000000
/-! # C(e, ..) whose __init__ may raise, within a try -/
namespace NvX
open PySem PySem.Spec PyProof.Rows L2
def tMakeS (C : Addr) (sp : Sp) (E : L2.St → XK) (t : TA) : TE := fun σ H Q => t σ H fun vs H1 => ∀ x dx, H1 x = none → H1 dx = none → dx ≠ x →
  sp (.ref x :: vs) (upd (upd H1 dx (.own x)) x (.ins C dx [])) (fun v H2 => v = .non ∧ Q (.ref x) H2) (E σ)
section
variable {X : Cx} {CX : CXT} {k : Nat} {f C : Addr} {fd : FuncData} {ps : List Str} {sp : Sp} {E : L2.St → XK} {x : Str} {p pos : Pos} {e : Expr} {es : List Expr} {t : TA}
theorem run_makeS {pins : List (Addr × Obj)} {σ : L2.St} {H : Hp} {s : Shared} {Q : VK} {us : List Value} {vs : List V} (M : Mk X.K C f) (F : FnOk X.prog X.w X.K X.mg X.base CX k f fd ps sp) (hr : Room (k + 1) X.A) (hb : Binds X.K fd ps [])
    (hx : PassesAt CX X σ (E σ)) (I : Inv X pins σ H s) (r : Vals vs us)
    (h : ∀ x dx, H x = none → H dx = none → dx ≠ x → sp (.ref x :: vs) (upd (upd H dx (.own x)) x (.ins C dx [])) (fun v H2 => v = .non ∧ Q (.ref x) H2) (E σ)) :
    wpAny (model X.prog X.w) X.A (call (.ref C) us) (EP X pins σ Q) X.xe s := by
  have hq := h (s.heap.objs.size + 1) s.heap.objs.size (I.hok.fresh (Nat.le_succ _)) (I.hok.fresh (Nat.le_refl _)) (Nat.ne_of_lt (Nat.lt_succ_self _))
  have I2 := Inv.made (C := C) I
  have r2 : Vals (V.ref (s.heap.objs.size + 1) :: vs) (Value.ref (s.heap.objs.size + 1) :: us) := .cons rfl r
  have hl : (Value.ref (s.heap.objs.size + 1) :: us ++ []).length = ps.length := by
    have e := r2.length
    rw [F.len _ _ _ _ hq] at e
    rw [List.append_nil]
    exact e.symm
  have hb2 := hb _ (Value.ref (s.heap.objs.size + 1) :: us) I2.kIn hl
  rw [List.append_nil] at hb2
  refine wpAny_call (make_map (f := f) I.kIn M.makes M.init (beq_iff_eq.mp M.fn) (codeAny_mono (F.run _ X.stack _ _ ⟨Value.ref (s.heap.objs.size + 1) :: us, []⟩ (Value.ref (s.heap.objs.size + 1) :: us) _ _ (E σ) (hr.make C us [])
    (I2.env0.make C us []) hb2 r2 hq) fun r s' hq' => ?_))
  cases r with
  | error e => exact hx pins _ _ e s' I2 hq'
  | ok fl =>
    cases fl with
    | ret u =>
      obtain ⟨v, H', I3, rv, ev, q3⟩ := I2.after hq'
      subst ev
      exact ⟨rv, ⟨V.ref (s.heap.objs.size + 1), H', I3, rfl, q3⟩⟩
    | next => exact False.elim hq'
    | brk => exact False.elim hq'
    | cont => exact False.elim hq'
theorem pe_makeS (M : Mk X.K C f) (F : FnOk X.prog X.w X.K X.mg X.base CX k f fd ps sp) (hr : Room (k + 1) X.A) (hg : Gl X x) (hm : X.mg x = some (.ref C)) (hb : Binds X.K fd ps []) (hx : ∀ σ, PassesAt CX X σ (E σ))
    (ha : PA X (e :: es) t) (hdb : (x == ("__debug__" : Str)) = false := by decide) (he : starEach (e :: es) X.env = (false, eval e X.env) :: starEach es X.env := by rfl) (hpl : (backTo pos (starEach es X.env)).any (·.1) = false := by rfl) :
    PE X (.Call (.Name x p) (e :: es) [] pos) (tMakeS C sp E t) := by
  refine ⟨fun pins s σ H Q I h => ?_⟩
  refine wpAny_Call_Name_kw (ld_glob I hg hm ?_ hdb)
  refine PySem.W.callWith_K (h₀ := X.base) I.ok.mod.kin M.kp (thn (ha.run pos pins s σ H _ I h) fun us s1 ⟨vs, H1, I1, r, q⟩ => ⟨I1.kIn, ?_⟩) he hpl
  exact run_makeS M F hr hb (hx σ) I1 r q
end
end NvX

set_option Elab.async false
set_option linter.all false
set_option maxRecDepth 100000
set_option maxHeartbeats 8000000
/-! # Boxes: __init__, __len__, check_place, place -/
namespace M3
open PySem L2
abbrev sBoxInit : Stmt := inClass (top 45) 0
abbrev sBoxLen : Stmt := inClass (top 45) 13
abbrev sPlace : Stmt := inClass (top 45) 6
abbrev sCheckP : Stmt := top 48
theorem scBoxInit : FnScope ["self", "letters", "table", "turn"] ["self", "letters", "table"] (defScope sBoxInit) := ⟨rfl, rfl, rfl, by decide +kernel, rfl, by decide +kernel, by decide +kernel⟩
theorem scBoxLen : FnScope ["self"] ["self"] (defScope sBoxLen) := ⟨rfl, rfl, rfl, by decide +kernel, rfl, by decide +kernel, by decide +kernel⟩
theorem scPlace : FnScope ["self", "word", "start", "times"] ["self", "word", "start", "times"] (defScope sPlace) := ⟨rfl, rfl, rfl, by decide +kernel, rfl, by decide +kernel, by decide +kernel⟩
theorem scCheckP : FnScope ["box", "value"] ["box", "value"] (defScope sCheckP) := ⟨rfl, rfl, rfl, by decide +kernel, rfl, by decide +kernel, by decide +kernel⟩
/-- the attributes of a box, in the order in which they are stored -/
def flB (x : Str) (a : Addr) : List (Str × V) := putF "_table" (.ref a) (putF "_letters" (.str x) [])
theorem kb3 : ¬ (("_letters" : Str) = "_table") := by decide +kernel
theorem flb_l {x : Str} {a : Addr} : (flB x a).lookup ("_letters" : Str) = some (.str x) := by
  unfold flB
  rw [lookup_putF, if_neg kb3, lookup_putF, if_pos rfl]
theorem flb_t {x : Str} {a : Addr} : (flB x a).lookup ("_table" : Str) = some (.ref a) := by
  unfold flB
  rw [lookup_putF, if_pos rfl]
theorem kbp1 : ¬ (("place" : Str) = "_table") := by decide +kernel
theorem kbp2 : ¬ (("place" : Str) = "_letters") := by decide +kernel
theorem flb_place {x : Str} {a : Addr} : (flB x a).lookup ("place" : Str) = none := by
  unfold flB
  rw [lookup_putF, if_neg kbp1, lookup_putF, if_neg kbp2]
  rfl
structure TxB (K : PySem.W.Frag) (mg : Str → Option Value) (C : Addr) : Prop where
  cl : Cls K C
  nL : NoAttr K C "_letters"
  nT : NoAttr K C "_table"
  mP : ∃ t, mg "MAX_PLACES" = some (.int 4 t)
  mA : ∃ t, mg "ALL_ACTIONS" = some (.int 256 t)
  mT : ∃ t, mg "MAX_TIMES" = some (.int 100000000000 t)
/-- what is right of a box's letters and table -/
structure RightB (x : Str) (t : List (List Nat)) (m : Nat) : Prop where
  st : IsSet x m
  m1 : 1 ≤ m
  m2 : m ≤ 2
  tb : IsTab t t.length m
  t1 : 1 ≤ t.length
  t4 : t.length ≤ 4
structure BoxAt (K : PySem.W.Frag) (C : Addr) (H : Hp) (p : Addr) (x : Str) (t : List (List Nat)) : Prop where
  ex : ∃ (dx a : Addr) (us : List V), H p = some (.ins C dx (flB x a)) ∧ SqT K H a us ∧ Tups K H us t
theorem BoxAt.same {K : PySem.W.Frag} {C p : Addr} {H H' : Hp} {x : Str} {t : List (List Nat)} (h : BoxAt K C H p x t) (s : Same H H') : BoxAt K C H' p x t := by
  obtain ⟨dx, a, us, h1, h2, h3⟩ := h
  exact ⟨dx, a, us, s _ _ h1, sqt_same s h2, h3.same s⟩
/-- an action is a way to lead -/
theorem rowA_found {t : List (List Nat)} {x : Str} {m : Nat} (tb : IsTab t t.length m) (st : IsSet x m) (hm2 : m ≤ 2) {F : List (List Nat × Str)} (h : FoundA t x F) {i : Nat} {z : List Nat × Str} (hz : F[i]? = some z) : ∀ n, n ≤ x.cps.size → FoundA t x (rowA t x z.1 z.2 F n)
  | 0, _ => h
  | n + 1, hn => by
    have ih := rowA_found tb st hm2 h hz n (by omega)
    have hx : n < x.cps.toList.length := by
      rw [Array.length_toList]
      omega
    have hc : x.cps.toList[n]? = some x.cps.toList[n] := List.getElem?_eq_getElem hx
    have hcm : x.cps.toList[n] ∈ x.cps.toList := List.getElem_mem hx
    generalize x.cps.toList[n] = c at hc hcm
    have ec : x.cps.toList.getD n 0 = c := getD_some' hc
    have lm : x.cps.toList.length = m := by
      have := set_len st
      simpa [Str.length] using this
    show FoundA t x (addA t z.1 z.2 n (x.cps.toList.getD n 0) (rowA t x z.1 z.2 F n))
    rw [ec]
    exact addA_found tb h hz ih (List.getElem?_eq_some_iff.mp (rowA_at hz n)).1 (by omega) hcm (set_ix st hm2 hc)
theorem bfsL_found {t : List (List Nat)} {x : Str} {m mo : Nat} (tb : IsTab t t.length m) (st : IsSet x m) (hm2 : m ≤ 2) : ∀ (n i : Nat) (F : List (List Nat × Str)), FoundA t x F → FoundA t x (bfsL t x mo n i F)
  | 0, _, _, h => h
  | n + 1, i, F, h => by
    show FoundA t x (match F[i]? with
      | none => F
      | some z => if F.length ≤ mo then bfsL t x mo n (i + 1) (rowA t x z.1 z.2 F x.cps.size) else F)
    cases hz : F[i]? with
    | none => exact h
    | some z =>
      show FoundA t x (if F.length ≤ mo then bfsL t x mo n (i + 1) (rowA t x z.1 z.2 F x.cps.size) else F)
      split
      · exact bfsL_found tb st hm2 n (i + 1) _ (rowA_found tb st hm2 h hz _ (Nat.le_refl _))
      · exact h
theorem bfs_found {t : List (List Nat)} {x : Str} {m mo : Nat} (tb : IsTab t t.length m) (st : IsSet x m) (hm2 : m ≤ 2) : FoundA t x (bfs t x mo) := by
  refine bfsL_found tb st hm2 _ _ _ fun i z e => ?_
  match i, e with
  | 0, e =>
    cases e
    have e0 : ("" : Str).cps.toList = [] := by decide +kernel
    refine ⟨fun q hq => List.mem_range.mp hq, List.length_range, fun c hc => ?_, by rw [e0, act_nil], (show ("" : Str).length ≤ 0 by decide +kernel)⟩
    rw [e0] at hc
    cases hc
theorem found_wf {t : List (List Nat)} {x : Str} {F : List (List Nat × Str)} (h : FoundA t x F) : ∀ z ∈ F, ∀ q ∈ z.1, q < z.1.length := fun z hz q hq => by
  obtain ⟨i, hi, ei⟩ := List.getElem_of_mem hz
  obtain ⟨h1, h2, _⟩ := h i z (by rw [List.getElem?_eq_getElem hi, ei])
  rw [h2]
  exact h1 q hq
def spBoxInit (K : PySem.W.Frag) (C cG : Addr) : Sp := fun vs H Q E => ∃ (p dx a : Addr) (x : Str) (us : List V) (t : List (List Nat)) (m : Nat), vs = [.ref p, .str x, .ref a] ∧ H p = some (.ins C dx []) ∧
  RightB x t m ∧ SqT K H a us ∧ Tups K H us t ∧
  (among (bfs t x 256) = none → ∀ H' : Hp, H' p = some (.ins C dx (flB x a)) → (∀ c o, c ≠ p → H c = some o → H' c = some o) → Q .non H') ∧
  (∀ (y : Str) (q : Nat), among (bfs t x 256) = some (y, q) → ∀ (d T : Addr) (H' : Hp), H' d = some (.xd [("turn", .ref T)]) → H' T = some (.tup [.str y, .int (q : Nat)]) → Same H H' → E (.ref cG) (some d) H')
def spBoxLen (K : PySem.W.Frag) (C : Addr) : Sp := fun vs H Q _ => ∃ (p : Addr) (x : Str) (t : List (List Nat)), vs = [.ref p] ∧ BoxAt K C H p x t ∧ Q (.int (t.length : Nat)) H
def spCheckP (K : PySem.W.Frag) (C : Addr) : Sp := fun vs H Q _ => ∃ (p : Addr) (x : Str) (t : List (List Nat)) (q : Nat), vs = [.ref p, .int (q : Nat)] ∧ BoxAt K C H p x t ∧ q < t.length ∧ t.length ≤ 1000 ∧ ∀ H' : Hp, Same H H' → Q .non H'
def spPlace (K : PySem.W.Frag) (C : Addr) : Sp := fun vs H Q _ => ∃ (p : Addr) (x y : Str) (t : List (List Nat)) (m q k : Nat), vs = [.ref p, .str y, .int (q : Nat), .int (k : Nat)] ∧ BoxAt K C H p x t ∧ RightB x t m ∧ IsW x y ∧ y.length ≤ 1000000 ∧ q < t.length ∧ k ≤ 100000000000 ∧
  ∀ H' : Hp, Same H H' → Q (.int ((iter t x y q k : Nat) : Int)) H'
section
variable {P : Program} {w : World} {K : PySem.W.Frag} {mg : Str → Option Value} {base : Heap} {C cG : Addr}
theorem ok_boxlen {f : Addr} {fd : FuncData} (F : Fun K "__len__" "Box.__len__" sBoxLen f fd) (Zx : TxZ mg) (TB : TxB K mg C) : FnOk P w K mg base CX0 1 f fd ["self"] (spBoxLen K C) := by
  refine F.ok scBoxLen (fun vs H Q E h => ?_) (fun cdv A outer s H vs Q E hr h => ?_)
  · obtain ⟨p, x, t, rfl, _⟩ := h
    rfl
  · obtain ⟨p, x, t, rfl, ⟨dx, a, us, h1, h2, h3⟩, k⟩ := h
    refine ⟨_, pss_one (ps_ret (pe_callB call_len_seq (by rfl) Zx.len PySem.boot_len (pa_cons (pe_fld (pv 0) rfl) pa_nil))), ?_⟩
    refine ⟨_, rfl, p, C, dx, _, _, rfl, h1, TB.cl, TB.nT, flb_t, a, us, rfl, .inr h2, ?_⟩
    rw [h3.1]
    exact k
theorem ok_boxinit {f cB : Addr} {fd : FuncData} (F : Fun K "__init__" "Box.__init__" sBoxInit f fd) (cL : FnC P w K mg base 3 "is_letters" ["value"] (spIsLetters K)) (cT : FnC P w K mg base 3 "is_table" ["value", "width", "most"] (spIsTable K))
    (cW : FnC P w K mg base 2 "action_words" ["table", "letters", "most"] (spActWordsE K)) (cA : FnC P w K mg base 3 "turn_among" ["words"] spAmong) (Zx : TxZ mg) (TB : TxB K mg C) (TE : TxR K mg "InvalidBox" cB) (TG : TxA P K mg "GoesRound" "turn" cG) :
    FnOk P w K mg base (L2.CX P w) 4 f fd ["self", "letters", "table"] (spBoxInit K C cG) := by
  obtain ⟨tp, mp⟩ := TB.mP
  obtain ⟨ta, ma⟩ := TB.mA
  refine F.okX scBoxInit (fun vs H Q E h => ?_) (fun cdv A outer s H vs Q E hr h => ?_)
  · obtain ⟨p, dx, a, x, us, t, m, rfl, _⟩ := h
    rfl
  · obtain ⟨p, dx, a, x, us, t, m, rfl, hp, R, ha, hT, kN, kS⟩ := h
    have hr2 : Room 2 _ := hr.mono (by decide)
    have tk := takes_of (X := cxOf (L2.CX P w) P w K mg base ["self", "letters", "table", "turn"] "Box.__init__" (defScope sBoxInit) f cdv A outer s H E) (E := E) rfl rfl rfl rfl
    refine ⟨_, pss_cons (ps_if (pt_not (pt_val (pe_call cL.G hr rfl cL.m cL.kp cL.b .nil pass0 (pa_cons (pv 1) pa_nil)))) (pss_one (ps_raise rfl tk (pmk_own PySem.F.excBase_ValueError TE.x TE.g TE.k (raises_own TE.b TE.t) rfl))) pss_nil)
      (pss_cons (ps_if (pt_not (pt_val (pe_call cT.G hr rfl cT.m cT.kp cT.b .nil pass0 (pa_cons (pv 2) (pa_cons (pe_callB call_len_str (by rfl) Zx.len PySem.boot_len (pa_cons (pv 1) pa_nil)) (pa_cons (pe_glob (v := .int 4) rfl mp ⟨_, rfl⟩) pa_nil)))))) (pss_one (ps_raise rfl tk (pmk_own PySem.F.excBase_ValueError TE.x TE.g TE.k (raises_own TE.b TE.t) rfl))) pss_nil)
      (pss_cons (ps_set (i := 3) scBoxInit.nd rfl (Or.inl rfl) (pe_call cA.G hr rfl cA.m cA.kp cA.b .nil pass0 (pa_cons (pe_call cW.G hr2 rfl cW.m cW.kp cW.b .nil pass0 (pa_cons (pv 2) (pa_cons (pv 1) (pa_cons (pe_glob (v := .int 256) rfl ma ⟨_, rfl⟩) pa_nil)))) pa_nil)))
      (pss_cons (ps_if (pt_cmpR op_notN (pv 3) pe_non (nomark _)) (pss_one (ps_raise rfl tk (pmk_keep (TG.keeps rfl rfl rfl) hr (pa_cons (pv 3) pa_nil)))) pss_nil)
      (pss_cons (ps_fld (pv 0) (pv 1) rfl) (pss_one (ps_fld (pv 0) (pv 2) rfl)))))), ?_⟩
    have lx := set_len R.st
    have m2 := R.m2
    refine ⟨_, rfl, .str x, .type "str", true, rfl, .base (.str x), kit_str, (fun z => by cases z), fun _ => ⟨x, rfl, by omega, fun H1 s1 => ⟨_, rfl, ?_⟩⟩⟩
    rw [set_let R.st R.m1 R.m2]
    refine iteF ?_
    refine ⟨_, rfl, _, rfl, x, rfl, Nat.le_trans (show x.length ≤ 2 by omega) (by decide), a, us, asInt t, (x.length : Int), 4, rfl, sqt_same s1 ha, (tups_lines hT R.tb (by omega)).same s1, ?_, fun H2 s2 => ⟨_, rfl, ?_⟩⟩
    · unfold asInt
      rw [List.length_map]
      have := R.t4
      omega
    rw [lx, tab_ok R.tb R.t1 R.t4]
    refine iteF ?_
    have s12 := s1.trans s2
    have FA := bfs_found (mo := 256) R.tb R.st R.m2
    refine ⟨_, rfl, _, rfl, a, x, us, t, m, 256, rfl, sqt_same s12 ha, hT.same s12, R.tb, R.st, R.m2, (by have := R.t4; omega), by decide, fun D H3 hD s3 => ?_⟩
    have s13 := s12.trans s3
    refine ⟨D, bfs t x 256, rfl, hD, found_wf FA, fun e H4 s4 => ?_, fun y q e T H4 hT4 s4 => ?_⟩
    · refine ⟨_, rfl, rfl, _, rfl, iteF ?_⟩
      have s14 := s13.trans s4
      have hp4 := s14 _ _ hp
      refine ⟨_, rfl, _, rfl, p, C, dx, [], rfl, hp4, TB.cl, TB.nL, (by show 0 < 1000; decide), ?_⟩
      refine ⟨_, rfl, _, rfl, p, C, dx, _, rfl, upd_same, TB.cl, TB.nT, (by show 1 < 1000; decide), ?_⟩
      refine kN e _ upd_same fun c' o hc h => ?_
      rw [upd_ne hc, upd_ne hc]
      exact s14 _ _ h
    · refine ⟨_, rfl, rfl, _, rfl, iteT ?_⟩
      have s14 := s13.trans s4
      refine ⟨_, rfl, _, rfl, fun d hd => ?_⟩
      exact kS y q e d T _ upd_same (keep_new hT4 hd) (Same.new s14 hd)
theorem ok_checkp {f cN fL : Addr} {fd dL : FuncData} (F : Fun K "check_place" "check_place" sCheckP f fd) (cB : FnC P w K mg base 1 "is_between" ["value", "low", "high"] (spBetween K)) (GL : FnOk P w K mg base CX0 1 fL dL ["self"] (spBoxLen K C)) (bL : Binds K dL ["self"] []) (mL : Meth K C "__len__" fL) (M : TxM mg) (TN : TxN P K mg cN) :
    FnOk P w K mg base CX0 3 f fd ["box", "value"] (spCheckP K C) := by
  refine F.ok scCheckP (fun vs H Q E h => ?_) (fun cdv A outer s H vs Q E hr h => ?_)
  · obtain ⟨p, x, t, q, rfl, _⟩ := h
    rfl
  · obtain ⟨p, x, t, q, rfl, B, hq, tl, k⟩ := h
    have hr1 : Room 1 _ := hr.mono (by decide)
    refine ⟨_, pss_one (ps_if (pt_not (pt_val (pe_call cB.G hr1 rfl cB.m cB.kp cB.b .nil pass0 (pa_cons (pv 1) (pa_cons pe_int (pa_cons (pe_op op_sub (pe_callB (NvO.call_lenO GL hr bL pass0 mL.at_ mL.fn) (by rfl) M.len PySem.boot_len (pa_cons (pv 0) pa_nil)) pe_int) pa_nil)))))) (pss_one (ps_raise rfl takes0 (pmk_keep (keepN TN rfl rfl rfl) hr (pa_cons (pv 1) pa_nil)))) pss_nil), ?_⟩
    obtain ⟨dx, a, us, i1, i2, i3⟩ := id B
    refine ⟨_, rfl, _, rfl, p, dx, _, rfl, i1, p, x, t, rfl, B, ((t.length : Nat) : Int), rfl, by omega, by omega, _, _, rfl, rfl, ?_⟩
    refine ⟨.int (q : Nat), 0, ((t.length : Nat) : Int) - 1, .type "int", false, true, rfl, .base (.int _), kit_int_bool, kit_int_int, (fun z => by cases z), (fun _ z => by cases z), fun _ _ => ⟨(q : Nat), rfl, _, rfl, ?_⟩⟩
    have e : (decide ((0 : Int) ≤ ((q : Nat) : Int)) && decide (((q : Nat) : Int) ≤ ((t.length : Nat) : Int) - 1)) = true := by
      rw [decide_eq_true (show (0 : Int) ≤ ((q : Nat) : Int) by omega), decide_eq_true (show ((q : Nat) : Int) ≤ ((t.length : Nat) : Int) - 1 by omega)]
      rfl
    rw [e]
    exact iteF (k H (Same.refl H))
theorem ok_place {f cN : Addr} {fd : FuncData} (F : C8.Fun K "place" "Box.place" sPlace f fd) (cC : FnC P w K mg base 3 "check_word" ["value"] spCheck) (cP : FnC P w K mg base 3 "check_place" ["box", "value"] (spCheckP K C)) (cB : FnC P w K mg base 1 "is_between" ["value", "low", "high"] (spBetween K))
    (cO : FnC P w K mg base 2 "check_only" ["word", "letters"] spOnlyC) (cL : FnC P w K mg base 2 "led_often" ["table", "letters", "start", "word", "times"] (spOften K)) (TB : TxB K mg C) (TN : TxN P K mg cN) : FnOk P w K mg base CX0 4 f fd ["self", "word", "start", "times"] (spPlace K C) := by
  obtain ⟨tm, hm⟩ := TB.mT
  refine C8.fn0 F scPlace (fun vs H Q E h => ?_) (fun cdv A outer s H vs Q E hr h => ?_)
  · obtain ⟨p, x, y, t, m, q, k, rfl, _⟩ := h
    rfl
  · obtain ⟨p, x, y, t, m, q, n, rfl, B, R, hw, hy, hq, hn, k⟩ := h
    have hr2 : Room 2 _ := hr.mono (by decide)
    have hr1 : Room 1 _ := hr.mono (by decide)
    refine ⟨_, pss_cons (ps_expr (pe_call cC.G hr rfl cC.m cC.kp cC.b .nil pass0 (pa_cons (pv 1) pa_nil)))
      (pss_cons (ps_expr (pe_call cP.G hr rfl cP.m cP.kp cP.b .nil pass0 (pa_cons (pv 0) (pa_cons (pv 2) pa_nil))))
      (pss_cons (ps_if (pt_not (pt_val (pe_call cB.G hr1 rfl cB.m cB.kp cB.b .nil pass0 (pa_cons (pv 3) (pa_cons pe_int (pa_cons (pe_glob (v := .int 100000000000) rfl hm ⟨_, rfl⟩) pa_nil)))))) (pss_one (ps_raise rfl takes0 (pmk_keep (keepN TN rfl rfl rfl) hr (pa_cons (pv 3) pa_nil)))) pss_nil)
      (pss_cons (ps_expr (pe_call cO.G hr2 rfl cO.m cO.kp cO.b .nil pass0 (pa_cons (pv 1) (pa_cons (pe_fld (pv 0) rfl) pa_nil))))
      (pss_one (ps_ret (pe_call cL.G hr2 rfl cL.m cL.kp cL.b .nil pass0 (pa_cons (pe_fld (pv 0) rfl) (pa_cons (pe_fld (pv 0) rfl) (pa_cons (pv 2) (pa_cons (pv 1) (pa_cons (pv 3) pa_nil))))))))))), ?_⟩
    refine ⟨_, rfl, y, rfl, hy, only_all R.st hw, fun H1 s1 => ?_⟩
    refine ⟨_, rfl, _, rfl, p, x, t, q, rfl, B.same s1, hq, (by have := R.t4; omega), fun H2 s2 => ?_⟩
    have s12 := s1.trans s2
    refine ⟨_, rfl, .int (n : Nat), 0, 100000000000, .type "int", false, true, rfl, .base (.int _), kit_int_bool, kit_int_int, (fun z => by cases z), (fun _ z => by cases z), fun _ _ => ⟨(n : Nat), rfl, _, rfl, ?_⟩⟩
    have e : (decide ((0 : Int) ≤ ((n : Nat) : Int)) && decide (((n : Nat) : Int) ≤ 100000000000)) = true := by
      rw [decide_eq_true (show (0 : Int) ≤ ((n : Nat) : Int) by omega), decide_eq_true (show ((n : Nat) : Int) ≤ 100000000000 by omega)]
      rfl
    rw [e]
    refine iteF ?_
    obtain ⟨dx, a, us, i1, i2, i3⟩ := B.same s12
    refine ⟨_, rfl, _, rfl, p, C, dx, _, _, rfl, i1, TB.cl, TB.nL, flb_l, y, x, rfl, hy, only_of hw, fun H3 s3 => ?_⟩
    refine ⟨_, rfl, p, C, dx, _, _, rfl, s3 _ _ i1, TB.cl, TB.nT, flb_t, _, rfl, p, C, dx, _, _, rfl, s3 _ _ i1, TB.cl, TB.nL, flb_l, _, rfl, _, rfl, _, rfl, a, x, y, m, n, q, t, us, rfl, sqt_same s3 i2, i3.same s3, R.tb, R.st, R.m2, hw, hq, R.t4, fun H4 s4 => ?_⟩
    exact k H4 ((s12.trans s3).trans s4)
end
end M3

set_option Elab.async false
set_option linter.all false
set_option maxRecDepth 100000
set_option maxHeartbeats 8000000
/-! # zip of a text and a list -/
namespace NvL
open PySem PySem.Spec PyProof.Rows L2
def ItzSL (K : PySem.W.Frag) (x : Str) (b : Addr) : It := ⟨fun i H => ∃ ys : List V, SqL K H b ys ∧ i < min x.cps.size ys.length,
  fun i H v H' => ∃ (T : Addr) (a : Nat) (y : V), v = .ref T ∧ H T = none ∧ H' = upd H T (.tup [.str ⟨#[a]⟩, y]) ∧ x.cps[i]? = some a ∧ ∀ ys : List V, SqL K H b ys → ys[i]? = some y,
  fun i H => ∃ ys : List V, SqL K H b ys ∧ i = min x.cps.size ys.length⟩
theorem turn_zipSL {P : Program} {w : World} {K : PySem.W.Frag} {elts : List Expr} {kk : Nat} {tpos : Pos} {x : Str} {t1 : Tok} {b z TI TO i1 i2 : Addr} (S : ZipSep2 z TI TO i1 i2 [i1] [i2, b]) (hne : b ≠ i2) :
    Turn P w K (.Tuple elts kk tpos) (ItzSL K x b) (z :: TI :: TO :: ([i1] ++ [i2])) z (fun i h => IsZip h z TI TO .none ∧ IsTupOf2 h TI (.ref i1) (.ref i2) ∧ (∃ a1 a2, IsTupOf2 h TO a1 a2) ∧ h.IsStrIter i1 (strIterType x) x t1 i ∧ h.IsListIter i2 b i) where
  mem := by simp
  obj := fun i h st c hc => by
    obtain ⟨hz, hTI, ⟨a1, a2, hTO⟩, ⟨o1, e1, _, d1⟩, ⟨o2, e2, _, d2⟩⟩ := st
    have e' : c = z ∨ c = TI ∨ c = TO ∨ c = i1 ∨ c = i2 := by simpa using hc
    rcases e' with q | q | q | q | q
    · rw [q]; exact ⟨_, hz, fun v q => nomatch q⟩
    · rw [q]; exact ⟨_, hTI, fun v q => nomatch q⟩
    · rw [q]; exact ⟨_, hTO, fun v q => nomatch q⟩
    · rw [q]; exact ⟨o1, e1, fun v q => by rw [d1] at q; cases q⟩
    · rw [q]; exact ⟨o2, e2, fun v q => by rw [d2] at q; cases q⟩
  keep := fun i h h' st k => by
    obtain ⟨hz, hTI, ⟨a1, a2, hTO⟩, ⟨o1, e1, r1⟩, h2⟩ := st
    exact ⟨k z (by simp) _ hz, k TI (by simp) _ hTI, ⟨a1, a2, k TO (by simp) _ hTO⟩, ⟨o1, k i1 (by simp) _ e1, r1⟩, h2.at fun o q => k i2 (by simp) o q⟩
  item := by
    intro X hP hw hK hc i pins s σ H E I hf st hg
    subst hP hw hK
    have hh : X.A.in1.handled = none := I.ok.hd hc
    obtain ⟨ys, hq, hlt⟩ := hg
    obtain ⟨its, rv, p, _⟩ := I.list hq
    have ly := rv.length
    have iy : i < ys.length := by omega
    obtain ⟨u, hu, ru⟩ := rv.get (List.getElem?_eq_getElem iy)
    have G := GoesN.zip2 (elts := elts) (x1 := kk) (pos := tpos) S (Draws.text (prog := X.prog) (w := X.w) (A := X.A.in1) hh i1 x t1) (Draws.list (prog := X.prog) (w := X.w) (A := X.A.in1) hh i2 b hne its.toArray)
    obtain ⟨hz, hTI, hTO, h1, h2⟩ := st
    have live : ∀ b ∈ (z :: TI :: TO :: ([i1] ++ [i2])), b < s.heap.objs.size := fun b hb => by
      obtain ⟨a1, a2, hTO⟩ := hTO
      obtain ⟨o1, e1, _⟩ := h1
      obtain ⟨o2, e2, _⟩ := h2
      have e' : b = z ∨ b = TI ∨ b = TO ∨ b = i1 ∨ b = i2 := by simpa using hb
      rcases e' with q | q | q | q | q
      · rw [q]; exact Heap.lt_size hz
      · rw [q]; exact Heap.lt_size hTI
      · rw [q]; exact Heap.lt_size hTO
      · rw [q]; exact Heap.lt_size e1
      · rw [q]; exact Heap.lt_size e2
    refine G.goes i s (fun u s2 => ∃ v H', Inv X pins σ H' s2 ∧ RelV v u ∧ (ItzSL X.K x b).yld i H v H' ∧ _ ∧ ∀ b ∈ _, H' b = none) E (by simpa [← ly] using hlt) ⟨hz, hTI, hTO, h1, ⟨h2, p.isList⟩⟩ fun v h' tk hY st' hk htk => ?_
    obtain ⟨T, vx, vy, rfl, hT, ⟨c1, u1, hx, rfl⟩, hy, hIs⟩ := hY
    have hy : its.toArray[i]? = some vy := hy
    have evy : vy = u := by
      have e : its.toArray[i]? = some u := by simpa using hu
      rw [e] at hy
      exact (Option.some.inj hy).symm
    subst evy
    have new : ObjOk X.prog X.w (upd H T (.tup [.str ⟨#[c1]⟩, ys[i]])) h' T (.tup [.str ⟨#[c1]⟩, ys[i]]) :=
      ⟨by show 2 ≤ sizeLine; decide, [.str ⟨#[c1]⟩ u1, vy], .cons ⟨u1, rfl⟩ (.cons ru .nil), hIs⟩
    have I1 : Inv X pins σ (upd H T (.tup [.str ⟨#[c1]⟩, ys[i]])) { s with heap := h', toks := tk } :=
      I.turnedNew (t' := tk) (ch := [z, TO, i1, i2]) hk (fun b hb => hf b (by
        have e' : b = z ∨ b = TO ∨ b = i1 ∨ b = i2 := by simpa using hb
        rcases e' with q | q | q | q <;> rw [q] <;> simp)) hT new
    refine ⟨.ref T, _, I1, rfl, ⟨T, c1, ys[i], rfl, I.hok.fresh hT, rfl, hx, fun l hl => by rw [I.list_inj hl hq]; exact List.getElem?_eq_getElem iy⟩, ⟨st'.1, st'.2.1, st'.2.2.1, st'.2.2.2.1, st'.2.2.2.2.1⟩, fun b hb => ?_⟩
    rw [upd_ne (Nat.ne_of_lt (Nat.lt_of_lt_of_le (live b hb) hT))]
    exact (hf b hb).1
  done := by
    intro X hP hw hK hc i pins s σ H E I hf st hg
    subst hP hw hK
    have hh : X.A.in1.handled = none := I.ok.hd hc
    obtain ⟨ys, hq, hlt⟩ := hg
    obtain ⟨its, rv, p, _⟩ := I.list hq
    have ly := rv.length
    have G := GoesN.zip2 (elts := elts) (x1 := kk) (pos := tpos) S (Draws.text (prog := X.prog) (w := X.w) (A := X.A.in1) hh i1 x t1) (Draws.list (prog := X.prog) (w := X.w) (A := X.A.in1) hh i2 b hne its.toArray)
    obtain ⟨hz, hTI, hTO, h1, h2⟩ := st
    have ei : i = min x.cps.size its.toArray.size := by simpa [← ly] using hlt
    subst ei
    refine G.stops s (fun s1 => Inv X pins σ H s1) E ⟨hz, hTI, hTO, h1, ⟨h2, p.isList⟩⟩ fun h' tk hk htk => ?_
    exact I.turnedL (t' := tk) (ch := [z, TO, i1, i2]) hk fun b hb => hf b (by
      have e' : b = z ∨ b = TO ∨ b = i1 ∨ b = i2 := by simpa using hb
      rcases e' with q | q | q | q <;> rw [q] <;> simp)
  self := fun A i s Q E st h => wpAny_pyIter_zip st.1 h
def iZipSL (K : PySem.W.Frag) (ta : TA) : TI := fun σ H R => ta σ H fun vs H1 => ∃ (x : Str) (b : Addr) (ys : List V), vs = [.str x, .ref b] ∧ SqL K H1 b ys ∧ R (ItzSL K x b) H1
theorem pi_zipSL {X : Cx} {e e2 : Expr} {ta : TA} {p pos tpos : Pos} {elts : List Expr} {kk : Nat} (hg : Gl X "zip") (hm : X.mg "zip" = none) (ha : PA X [e, e2] ta)
    (hs : starEach [e, e2] X.env = (false, eval e X.env) :: starEach [e2] X.env := by rfl) (hpl : (backTo pos (starEach [e2] X.env)).any (·.1) = false := by rfl) :
    PI X (.Tuple elts kk tpos) (.Call (.Name "zip" p) [e, e2] [] pos) (iZipSL X.K ta) := by
  refine ⟨fun pins s σ H R I h => ?_⟩
  refine Call_ (ld_blt I hg hm PyProof.Rows.boot_zip (PyProof.Rows.callWith_type1 (thn (ha.run pos pins s σ H _ I h) fun us s1 ⟨vs, H1, I1, r1, q1⟩ => ?_) hs hpl))
  obtain ⟨x, b, ys, ex, hq, q⟩ := q1
  subst ex
  obtain ⟨u1, u2, rfl, ⟨t1, rfl⟩, r2⟩ := vals2 r1
  cases r2
  obtain ⟨its, rv, p1, _⟩ := I1.list hq
  have lb : b < s1.heap.objs.size := p1.lt
  refine zip_begins2 (begins_text x t1) (begins_list b its.toArray) trivial p1.isList fun h' hz hTI hTO h1 h2 hsz hk => wpAny_pyIter_zip hz ?_
  have I2 : Inv X pins σ H1 { s1 with heap := h' } := I1.kept (t' := s1.toks) hk
  refine ⟨s1.heap.objs.size + 4, _, _, _, H1, rfl, I2, turn_zipSL (t1 := t1) (zip_sep2 (N := s1.heap.objs.size) (fp1 := []) (fp2 := [b]) (fun b hb => by cases hb) (fun c hc => by rw [List.mem_singleton.mp hc]; exact lb)) (Nat.ne_of_lt (Nat.lt_succ_of_lt lb)), ⟨hz, hTI, ⟨_, _, hTO⟩, ⟨_, h1, rfl, rfl⟩, ⟨_, h2, rfl, rfl⟩⟩, fun c hcm => ?_, q⟩
  have e' : c = s1.heap.objs.size + 4 ∨ c = s1.heap.objs.size + 2 ∨ c = s1.heap.objs.size + 3 ∨ c = s1.heap.objs.size ∨ c = s1.heap.objs.size + 1 := by simpa using hcm
  have hle : s1.heap.objs.size ≤ c := by
    rcases e' with z | z | z | z | z
    · rw [z]; exact Nat.le_add_right _ _
    · rw [z]; exact Nat.le_add_right _ _
    · rw [z]; exact Nat.le_add_right _ _
    · rw [z]; exact Nat.le_refl _
    · rw [z]; exact Nat.le_add_right _ _
  exact I1.fpOk hle (I1.hok.fresh hle)
theorem walk_zipSL {K : PySem.W.Frag} {x : Str} {b : Addr} {ys : List V} : Walk (ItzSL K x b) (min x.cps.size ys.length) (fun H => SqL K H b ys) (fun i H v H' => ∃ (T : Addr) (a : Nat) (y : V), v = .ref T ∧ H T = none ∧ H' = upd H T (.tup [.str ⟨#[a]⟩, y]) ∧ x.cps[i]? = some a ∧ ys[i]? = some y) :=
  ⟨fun _ _ hi g => ⟨ys, g, hi⟩, fun _ g => ⟨ys, g, rfl⟩, fun _ _ _ _ _ g h => by
    obtain ⟨T, a, y, h1, h2, h3, h4, h5⟩ := h
    exact ⟨T, a, y, h1, h2, h3, h4, h5 ys g⟩⟩
end NvL

set_option Elab.async false
set_option linter.all false
set_option maxRecDepth 100000
set_option maxHeartbeats 8000000
/-! # _law_actions -/
namespace M3
open PySem L2
abbrev sLawActs : Stmt := top 56
abbrev nLA : List Str := ["table", "letters", "most", "steps", "first", "found", "order", "at", "letter", "step", "later", "row", "place"]
theorem scLA : FnScope nLA ["table", "letters", "most"] (defScope sLawActs) := ⟨rfl, rfl, rfl, by decide +kernel, rfl, by decide +kernel, by decide +kernel⟩
def spLawActs (K : PySem.W.Frag) : Sp := fun vs H Q _ => ∃ (a : Addr) (x : Str) (us : List V) (t : List (List Nat)) (m mo : Nat), vs = [.ref a, .str x, .int (mo : Nat)] ∧ SqL K H a us ∧ Tups K H us t ∧ IsTab t t.length m ∧ IsSet x m ∧ m ≤ 2 ∧ t.length ≤ 10 ∧ mo ≤ 1000 ∧
  ((bfs t x mo).length ≤ mo → ∀ (D : Addr) (H' : Hp), H' D = some (.dT (ents (bfs t x mo))) → H D = none → Same H H' → Q (.ref D) H') ∧ (mo < (bfs t x mo).length → ∀ H' : Hp, Same H H' → Q .non H')
theorem col_getD {t : List (List Nat)} {j p : Nat} (h : p < t.length) : (col t j).getD p 0 = (t.getD p []).getD j 0 := by
  unfold col
  simp [List.getD, List.getElem?_eq_getElem h]
def tInner (K : PySem.W.Frag) : TE := tLc (iList K (tVar 0)) (gName 11) tYes (tOp (rIxT K) (tVar 11) (tVar 7)) [11]
section
variable {P : Program} {w : World} {K : PySem.W.Frag} {mg : Str → Option Value} {base : Heap}
theorem ok_lawacts {f : Addr} {fd : FuncData} (F : Fun K "_law_actions" "_law_actions" sLawActs f fd) (M : TxM mg) (hZ : mg "zip" = none) : FnOk P w K mg base CX0 1 f fd ["table", "letters", "most"] (spLawActs K) := by
  refine F.ok scLA (fun vs H Q E h => ?_) (fun cdv A outer s H vs Q E hr h => ?_)
  · obtain ⟨a, x, us, t, m, mo, rfl, _⟩ := h
    rfl
  · obtain ⟨a, x, us, t, m, mo, rfl, ha, hT, tb, st, hm2, tl, hmo, k1, k2⟩ := h
    have hu := hu_of hr
    have hu0 : (A.deeper (PyProof.Rows.envOfC "_law_actions" (defScope sLawActs) s.heap.objs.size f cdv)).units < cLine := Nat.lt_of_succ_lt hu
    refine ⟨_, pss_cons (ps_setLc (i := 3) (own := [("at", 7)]) (g := gName 7) (tt := tYes) (te := tInner K) rfl scLA.nd rfl rfl (by rfl) (pi_range1 rfl M.range (pa_cons (pe_callB call_len_str (by rfl) M.len PySem.boot_len (pa_cons (pv 1) pa_nil)) pa_nil)) (blkOk_by (N := nLA) (sc := defScope sLawActs) (by decide +kernel)) (fun _ _ _ _ _ => pg_name (i := 7) scLA.nd rfl (Or.inr rfl)) (fun _ _ _ _ _ => pts_nil)
        (fun _ _ _ _ _ => pe_lc (own := [("row", 11)]) (wi := iList K (tVar 0)) (g := gName 11) (tt := tYes) (te := tOp (rIxT K) (tVar 11) (tVar 7)) rfl scLA.nd (pi_list (pv 0)) (by exact blkOk_by (N := nLA) (sc := ⟨.function, [(".0", .local), ("at", .cell), ("table", .cell)], false, false, []⟩) (scope := ⟨.function, [(".0", .local), ("row", .local), ("at", .free)], false, false, []⟩) (own := [("row", 11)]) (by decide +kernel)) (fun _ _ _ _ _ => pg_name (i := 11) scLA.nd rfl (Or.inl rfl)) (fun _ _ _ _ _ => pts_nil)
          (fun _ _ _ _ _ => pe_ix ix_tup (pv 11) (pv 7) (fun _ _ => rfl))))
      (pss_cons (ps_set (i := 4) scLA.nd rfl (Or.inl rfl) (pe_tupRg rfl rfl M.tuple (prg_1 rfl M.range (pe_callB call_len_seq (by rfl) M.len PySem.boot_len (pa_cons (pv 0) pa_nil)))))
      (pss_cons (ps_par3 (i := 5) (j := 6) (l := 7) rfl scLA.nd rfl rfl rfl (by decide) (by decide) (by decide) rfl rfl rfl (pa_cons (NvQ.pe_disp1 hu0 (pv 4) pe_str) (pa_cons (pe_lst (pa_cons (pv 4) pa_nil)) (pa_cons pe_int pa_nil))) rfl)
      (pss_cons (ps_while PassesOwn.never (PW.pt (pw_and (pt_cmpR op_lt (pv 7) (pe_callB call_len_seq (by rfl) M.len PySem.boot_len (pa_cons (pv 6) pa_nil)) (nomark _)) (pw_and1 (pt_cmpR op_le (pe_callB call_len_seq (by rfl) M.len PySem.boot_len (pa_cons (pv 6) pa_nil)) (pv 2) (nomark _)))))
        (pss_cons (ps_for PassesOwn.never rfl (NvL.pi_zipSL rfl hZ (pa_cons (pv 1) (pa_cons (pv 3) pa_nil))) (pg_tup rfl (pgs_cons (pg_name (i := 8) scLA.nd rfl (Or.inl rfl)) (pgs_cons (pg_name (i := 9) scLA.nd rfl (Or.inr rfl)) pgs_nil)))
          (pss_cons (ps_set (i := 10) scLA.nd rfl (Or.inl rfl) (pe_callTy call_tuple_of (by rfl) M.tuple (by decide +kernel) (pa_cons (pe_lc (own := [("place", 12)]) (g := gName 12) (tt := tYes) (te := tOp (rIxL K) (tVar 9) (tVar 12)) rfl scLA.nd (pi_tup (pe_ix ix_list (pv 6) (pv 7) (fun _ _ => rfl))) (blkOk_by (N := nLA) (sc := defScope sLawActs) (by decide +kernel)) (fun _ _ _ _ _ => pg_name (i := 12) scLA.nd rfl (Or.inl rfl)) (fun _ _ _ _ _ => pts_nil)
              (fun _ _ _ _ _ => pe_ix ix_list (pv 9) (pv 12) (fun _ _ => rfl))) pa_nil)))
          (pss_one (ps_if (pt_cmp (pc_dnotin hu (pv 10) (pv 5)))
            (pss_cons (ps_dput hu (pv 5) (pv 10) (pe_op op_add_str (pe_dget hu (pv 5) (pe_ix ix_list (pv 6) (pv 7) (fun _ _ => rfl)) (fun _ _ => rfl)) (pv 8)) rfl)
            (pss_one (ps_expr (pe_bm PySem.F.plainAttrs_list PySem.F.slot_list_append PySem.F.type_list_append mt_append (pv 6) (pa_cons (pv 10) pa_nil))))) pss_nil))))
        (pss_one (ps_set (i := 7) scLA.nd rfl (Or.inl rfl) (pe_op op_add (pv 7) pe_int)))))
      (pss_one (ps_ret (pe_ifExp (pt_cmpR op_le (pe_callB call_len_dT (by rfl) M.len PySem.boot_len (pa_cons (pv 5) pa_nil)) (pv 2) (nomark _)) (pv 5) pe_non)))))), ?_⟩
    have lu : us.length = t.length := hT.1
    have hm : x.cps.toList.length = m := by
      have := set_len st
      simpa [Str.length] using this
    have lx := set_len st
    have free : ∀ {H9 : Hp} {q : Addr}, Same H H9 → H9 q = none → H q = none := fun {H9 q} sx hq => free_of sx hq
    refine ⟨_, rfl, x, rfl, Nat.le_trans (show x.length ≤ 2 by omega) (by decide), ?_⟩
    rw [lx]
    refine ⟨_, rfl, by omega, by omega, fun G nG => ?_⟩
    have sm : ∀ {H9 : Hp}, (∀ b' o, b' ≠ G → H b' = some o → H9 b' = some o) → Same H H9 := fun z b' o h => z b' o (fun q => by rw [q, nG] at h; cases h) h
    refine lc_range (lo := 0) (n := ((m : Nat) : Int).toNat) (fun j H9 => ∃ us9 : List V, H9 G = some (.lst us9) ∧ RowsL G G H9 us9 ((List.range j).map (col t)) ∧ ∀ b o, b ≠ G → H b = some o → H9 b = some o)
      ⟨[], upd_same, ⟨rfl, fun i r h => by cases h⟩, fun b o hb h => keep_new h nG⟩ ?_ ?_
    · rintro j H9 hj ⟨us9, u1, u2, u3⟩
      have hj : j < m := by omega
      have s9 := sm u3
      refine ⟨rfl, tYes_if ?_⟩
      refine ⟨_, rfl, a, rfl, ⟨_, s9.seq ha⟩, fun S nS => ?_⟩
      have sm2 : ∀ {H10 : Hp}, (∀ b' o, b' ≠ S → H9 b' = some o → H10 b' = some o) → Same H9 H10 := fun z b' o h => z b' o (fun q => by rw [q, nS] at h; cases h) h
      refine lc_list (K := K) (a := a) (xs := us) (fun i H10 => H10 S = some (.lst (nts (col (t.take i) j))) ∧ ∀ b o, b ≠ S → H9 b = some o → H10 b = some o)
        ⟨upd_same, fun b o hb h => keep_new h nS⟩ (fun i H10 _ ⟨_, z⟩ => (sm2 z).seq (s9.seq ha)) ?_ ?_
      · rintro i v H10 hv ⟨w1, w2⟩
        have hi : i < t.length := by
          rw [← lu]
          exact (List.getElem?_eq_some_iff.mp hv).1
        obtain ⟨b, b1, b2⟩ := hT.2 i t[i] (List.getElem?_eq_getElem hi)
        have ev : v = .ref b := Option.some.inj (hv.symm.trans b1)
        subst ev
        refine ⟨rfl, tYes_if ?_⟩
        obtain ⟨ln, _⟩ := tb.2 t[i] (List.getElem_mem hi)
        have ej : (0 : Int) + (j : Int) = (j : Int) := Int.zero_add _
        refine ⟨_, rfl, _, rfl, b, nts t[i], 0 + (j : Int), .int ((t[i].getD j 0 : Nat) : Int), rfl, rfl, sqt_same (sm2 w2) (sqt_same s9 b2), by rw [ej]; exact nts_at (by omega), ?_⟩
        refine ⟨_, w1, ?_, ?_, fun b' o hb' h' => by rw [upd_ne hb']; exact w2 b' o hb' h'⟩
        · rw [nts_length]
          unfold col
          rw [List.length_map, List.length_take]
          exact Nat.lt_of_le_of_lt (Nat.le_trans (Nat.min_le_right _ _) tl) (by decide)
        · rw [upd_same, nts_append]
          unfold col
          rw [take_snoc (List.getElem?_eq_getElem hi), List.map_append]
          rfl
      · rintro H10 ⟨w1, w2⟩
        have et : t.take us.length = t := by
          rw [lu]
          exact List.take_length
        rw [et] at w1
        have SG : S ≠ G := fun z => by
          rw [z, u1] at nS
          cases nS
        refine ⟨us9, w2 _ _ (Ne.symm SG) u1, ?_, us9 ++ [.ref S], upd_same, ?_, fun b o hb h => ?_⟩
        · rw [u2.1, List.length_map, List.length_range]
          exact Nat.lt_of_lt_of_le hj (Nat.le_trans hm2 (by decide))
        · rw [List.range_succ, List.map_append]
          refine ((u2.to fun b o _ _ h => (sm2 w2) b o h).snoc SG SG w1).to fun b o _ h2 h => ?_
          rw [upd_ne h2]
          exact h
        · rw [upd_ne hb]
          exact (sm2 w2) b o (u3 b o hb h)
    · rintro H1 ⟨us9, u1, u2, u3⟩
      have em : ((m : Nat) : Int).toNat = m := by omega
      rw [em] at u2
      have s1 := sm u3
      refine ⟨_, rfl, a, us, rfl, .inl (s1.seq ha), _, rfl, .of_le (by decide) (by omega) (by decide) (by omega), fun p0 np => ?_⟩
      rw [lu, rgV_nats]
      have hp2 : (upd H1 p0 (.tup (nts (List.range t.length)))) p0 = some (.tup (nts (List.range t.length))) := upd_same
      have s2 : Same H1 (upd H1 p0 (.tup (nts (List.range t.length)))) := Same.new (Same.refl H1) np
      generalize upd H1 p0 (.tup (nts (List.range t.length))) = H2 at hp2 s2 ⊢
      have g2 := s2 _ _ u1
      have r2 := u2.to (H' := H2) fun b o _ _ h => s2 b o h
      have t2 := s1.trans s2
      clear s2 u1 u2 u3 s1 np
      intro LW nLW
      have nLW0 : H LW = none := free t2 nLW
      have pW : p0 ≠ LW := ne_of_none hp2 nLW
      refine ⟨_, rfl, p0, key (List.range t.length), .str "", rfl, upd_same, (by rw [key_tup, upd_ne pW]; exact hp2), ?_⟩
      rw [upd_upd]
      have hW3 : (upd H2 LW (.dT [(key (List.range t.length), .str "")])) LW = some (.dT [(key (List.range t.length), .str "")]) := upd_same
      have s3 : Same H2 (upd H2 LW (.dT [(key (List.range t.length), .str "")])) := Same.new (Same.refl H2) nLW
      generalize upd H2 LW (.dT [(key (List.range t.length), .str "")]) = H3 at hW3 s3 ⊢
      refine ⟨_, rfl, (by show 1 ≤ sizeLine; decide), fun LF nLF => ⟨_, _, _, rfl, ?_⟩⟩
      have nLF0 : H LF = none := free (t2.trans s3) nLF
      have hF4 : (upd H3 LF (.lst [.ref p0])) LF = some (.lst [.ref p0]) := upd_same
      have s4 : Same H3 (upd H3 LF (.lst [.ref p0])) := Same.new (Same.refl H3) nLF
      generalize upd H3 LF (.lst [.ref p0]) = H4 at hF4 s4 ⊢
      have hW4 := s4 _ _ hW3
      have hp4 := s4 _ _ (s3 _ _ hp2)
      have g4 := s4 _ _ (s3 _ _ g2)
      have r4 : RowsL LF LW H4 us9 ((List.range m).map (col t)) := ⟨r2.1, fun i r h => by
        obtain ⟨b, b1, b2, b3, b4⟩ := r2.2 i r h
        exact ⟨b, b1, ne_of_none (s3 _ _ b4) nLF, ne_of_none b4 nLW, s4 _ _ (s3 _ _ b4)⟩⟩
      have t4 := (t2.trans s3).trans s4
      have GF : G ≠ LF := ne_of_none (s3 _ _ g2) nLF
      have GW : G ≠ LW := ne_of_none g2 nLW
      have FW : LF ≠ LW := ne_of hF4 hW4 (fun z => by cases z)
      clear s4 s3 nLF nLW pW hW3 hp2 g2 r2 t2
      refine while_by (fun σ H' => ∃ (us' : List V) (F : List (List Nat × Str)) (at' : Nat) (v1 v2 v3 : Option V), σ = [some (.ref a), some (.str x), some (.int (mo : Nat)), some (.ref G), some (.ref p0), some (.ref LW), some (.ref LF), some (.int (at' : Nat)), v1, v2, v3, none, none] ∧
          H' LF = some (.lst us') ∧ H' LW = some (.dT (ents F)) ∧ RowsA H' us' (F.map Prod.fst) ∧ FoundA t x F ∧ (F.map Prod.fst).Nodup ∧ F.length ≤ mo + 2 ∧ bfsL t x mo (mo + 1 - at') at' F = bfs t x mo ∧ ∀ b o, b ≠ LF → b ≠ LW → H4 b = some o → H' b = some o)
        (fun σ H' => match σ with | [_, _, _, _, _, _, _, some (.int i), _, _, _, _, _] => mo + 1 - i.toNat | _ => 0)
        ⟨[.ref p0], [(List.range t.length, "")], 0, none, none, none, rfl, hF4, hW4, ?_, ?_, by simp, (by show 1 ≤ mo + 2; omega), rfl, fun b o _ _ h => h⟩ ?_ ?_
      · exact ⟨rfl, fun i r e => by
          match i, e with
          | 0, e => exact ⟨p0, rfl, by cases e; exact hp4⟩⟩
      · intro i z e
        match i, e with
        | 0, e =>
          cases e
          have e0 : ("" : Str).cps.toList = [] := by decide +kernel
          refine ⟨fun q hq => List.mem_range.mp hq, List.length_range, fun c hc => ?_, by rw [e0, act_nil], (show ("" : Str).length ≤ 0 by decide +kernel)⟩
          rw [e0] at hc
          cases hc
      · rintro σ H5 ⟨us', F, at', v1, v2, v3, rfl, hF, hW, RA, FA, nd, lf, bf, kp⟩
        have kS : Same H H5 := fun b o h => kp b o (ne_of_none h nLF0) (ne_of_none h nLW0) (t4 _ _ h)
        have lus : us'.length = F.length := by rw [RA.1, List.length_map]
        -- the end
        have le : (ents (bfs t x mo)).length = (bfs t x mo).length := List.length_map _
        refine ⟨_, rfl, _, rfl, LF, us', rfl, .inl (SqL.of hF), _, _, rfl, rfl, _, rfl, ?_⟩
        rw [lus]
        refine ite2 (fun h1 => ?_) (fun h1 => ?_)
        · refine ⟨_, rfl, LF, us', rfl, .inl (SqL.of hF), _, rfl, _, _, rfl, rfl, _, rfl, ?_⟩
          rw [lus]
          have h1 : at' < F.length := by
            have := of_decide_eq_true h1
            omega
          refine ite2 (fun h2 => ?_) (fun h2 => ?_)
          · have h2 : F.length ≤ mo := by
              have := of_decide_eq_true h2
              omega
            have hz : F[at']? = some F[at'] := List.getElem?_eq_getElem h1
            generalize F[at'] = z at hz
            have bf2 : bfsL t x mo (mo + 1 - (at' + 1)) (at' + 1) (rowA t x z.1 z.2 F x.cps.size) = bfs t x mo := by
              rw [← bf, show mo + 1 - at' = (mo + 1 - (at' + 1)) + 1 by omega]
              show _ = (match F[at']? with
                | none => F
                | some z => if F.length ≤ mo then bfsL t x mo (mo + 1 - (at' + 1)) (at' + 1) (rowA t x z.1 z.2 F x.cps.size) else F)
              rw [hz]
              exact (if_pos h2).symm
            have l9 : us9.length = m := by rw [r4.1, List.length_map, List.length_range]
            have xsz : x.cps.size = m := by
              have e : x.cps.toList.length = x.cps.size := by simp
              omega
            have hmin : min x.cps.size us9.length = x.cps.size := by omega
            refine ⟨_, rfl, _, rfl, x, G, us9, rfl, SqL.of (kp _ _ GF GW g4), for_it (NvL.walk_zipSL (K := K) (x := x) (b := G) (ys := us9)) (fun j σ H' => ∃ (us' : List V) (v1 v2 v3 : Option V), σ = [some (.ref a), some (.str x), some (.int (mo : Nat)), some (.ref G), some (.ref p0), some (.ref LW), some (.ref LF), some (.int (at' : Nat)), v1, v2, v3, none, none] ∧
                H' LF = some (.lst us') ∧ H' LW = some (.dT (ents (rowA t x z.1 z.2 F j))) ∧ RowsA H' us' ((rowA t x z.1 z.2 F j).map Prod.fst) ∧ FoundA t x (rowA t x z.1 z.2 F j) ∧ ∀ b o, b ≠ LF → b ≠ LW → H4 b = some o → H' b = some o)
              ⟨us', v1, v2, v3, rfl, hF, hW, RA, FA, kp⟩ (fun i σ H' _ h => ?_) ?_ ?_⟩
            · obtain ⟨_, _, _, _, _, _, _, _, _, kp⟩ := h
              exact SqL.of (kp _ _ GF GW g4)
            · rintro j v σ H6 H7 hj ⟨us', v1, v2, v3, rfl, hF, hW, RA, FA2, kp⟩ ⟨T, c, y, rfl, nT, rfl, hc, hy⟩
              rw [hmin] at hj
              have hc' : x.cps.toList[j]? = some c := by simpa using hc
              have cx : c ∈ x.cps.toList := List.mem_of_getElem? hc'
              have ec : x.cps.toList.getD j 0 = c := getD_some' hc'
              have jm : j < m := by omega
              have ej : x.cps.toList.idxOf c = j := set_ix st hm2 hc'
              obtain ⟨bs, y1, bF, bW, y4⟩ := r4.2 j (col t j) (by rw [List.getElem?_map, List.getElem?_range jm]; rfl)
              rw [y1] at hy
              cases hy
              have gz : (rowA t x z.1 z.2 F j)[at']? = some z := rowA_at hz j
              have ndj := rowA_nodup (x := x) (r := z.1) (w := z.2) (t := t) nd j
              have lj := rowA_len (x := x) (r := z.1) (w := z.2) (t := t) (F := F) j
              have rw1 : rowA t x z.1 z.2 F (j + 1) = addA t z.1 z.2 j c (rowA t x z.1 z.2 F j) := by
                show addA t z.1 z.2 j (x.cps.toList.getD j 0) _ = _
                rw [ec]
              rw [rw1]
              have FA3 := addA_found tb FA hz FA2 (List.getElem?_eq_some_iff.mp gz).1 jm cx ej
              generalize rowA t x z.1 z.2 F j = GG at hW RA FA2 gz ndj lj FA3 ⊢
              have gm : (GG.map Prod.fst)[at']? = some z.1 := by
                rw [List.getElem?_map, gz]
                rfl
              obtain ⟨bq, b1, b2'⟩ := RA.2 at' _ gm
              obtain ⟨w1, w2, d2, d3, d4⟩ := FA2 at' z gz
              have d1 := ents_at ndj gz
              refine ⟨T, _, rfl, SqT.of upd_same, rfl, _, _, rfl, _, _, rfl, rfl, ?_⟩
              have sT : Same H6 (upd H6 T (.tup [.str ⟨#[c]⟩, .ref bs])) := Same.new (Same.refl H6) nT
              generalize upd H6 T (.tup [.str ⟨#[c]⟩, .ref bs]) = H8 at sT ⊢
              have hF := sT _ _ hF
              have hW := sT _ _ hW
              have b2' := sT _ _ b2'
              have RA := RA.to (H' := H8) (fun b ys h => sT _ _ h)
              have kp : ∀ b o, b ≠ LF → b ≠ LW → H4 b = some o → H8 b = some o := fun b o h1 h2 h => sT _ _ (kp b o h1 h2 h)
              have y8 := kp _ _ bF bW y4
              refine ⟨_, rfl, _, rfl, LF, us', _, _, rfl, rfl, SqL.of hF, atI_nat b1, bq, rfl, ⟨_, SqT.of b2'⟩, fun C nC => ?_⟩
              have smC : ∀ {H9 : Hp}, (∀ b' o, b' ≠ C → H8 b' = some o → H9 b' = some o) → Same H8 H9 := fun z b' o h => z b' o (fun q => by rw [q, nC] at h; cases h) h
              refine lc_tup (K := K) (a := bq) (xs := nts z.1) (fun i H9 => H9 C = some (.lst (nts (ledon t (z.1.take i) j))) ∧ ∀ b' o, b' ≠ C → H8 b' = some o → H9 b' = some o)
                ⟨upd_same, fun b' o hb' h => keep_new h nC⟩ (fun i H9 _ ⟨_, q⟩ => sqt_same (smC q) (SqT.of b2')) ?_ ?_
              · rintro i v H9 hv ⟨q1, q2⟩
                have hi : i < z.1.length := by
                  have := (List.getElem?_eq_some_iff.mp hv).1
                  rw [nts_length] at this
                  exact this
                unfold nts at hv
                rw [List.getElem?_map, List.getElem?_eq_getElem hi] at hv
                cases hv
                refine ⟨rfl, tYes_if ?_⟩
                have hp := w1 z.1[i] (List.getElem_mem hi)
                have lc : (col t j).length = t.length := by
                  unfold col
                  rw [List.length_map]
                refine ⟨_, rfl, _, rfl, bs, nts (col t j), _, _, rfl, rfl, SqL.of ((smC q2) _ _ y8), nts_at (by omega), ?_⟩
                rw [col_getD hp]
                refine ⟨_, q1, ?_, ?_, fun b'' o hb' h => by rw [upd_ne hb']; exact q2 b'' o hb' h⟩
                · unfold ledon
                  rw [nts_length, List.length_map, List.length_take]
                  exact Nat.lt_of_le_of_lt (show _ ≤ 1000 by omega) (by decide)
                · rw [upd_same]
                  unfold ledon nts
                  rw [map_take_snoc hi, List.map_append]
                  rfl
              · rintro H9 ⟨q1, q2⟩
                have et : z.1.take (nts z.1).length = z.1 := by
                  rw [nts_length]
                  exact List.take_length
                rw [et] at q1
                refine ⟨C, _, rfl, .inl ⟨SqL.of q1, fun g ng => ?_⟩⟩
                have s9 : Same H8 (upd H9 g (.tup (nts (ledon t z.1 j)))) := Same.new (smC q2) ng
                have hg : (upd H9 g (.tup (nts (ledon t z.1 j)))) g = some (.tup (nts (ledon t z.1 j))) := upd_same
                generalize upd H9 g (.tup (nts (ledon t z.1 j))) = HA at s9 hg ⊢
                have hF := s9 _ _ hF
                have hW := s9 _ _ hW
                have RA := RA.to (H' := HA) (fun b ys h => s9 _ _ h)
                have kp : ∀ b o, b ≠ LF → b ≠ LW → H4 b = some o → HA b = some o := fun b o h1 h2 h => s9 _ _ (kp b o h1 h2 h)
                have hg' : HA g = some (.tup ((key (ledon t z.1 j)).map kV)) := by rw [key_tup]; exact hg
                refine ⟨_, rfl, _, rfl, LW, _, rfl, DGet.t (k := key (ledon t z.1 j)) hW hg', _, rfl, ?_⟩
                have sz : (100000 : Nat) < sizeLine := by decide
                by_cases mem : ledon t z.1 j ∈ GG.map Prod.fst
                · obtain ⟨wv, ev⟩ := ents_some mem
                  rw [ev]
                  refine iteF ?_
                  rw [addA_old mem] at FA3 ⊢
                  exact ⟨us', _, _, _, rfl, hF, hW, RA, FA2, kp⟩
                · rw [ents_none mem]
                  refine iteT ?_
                  rw [addA_new mem] at FA3 ⊢
                  obtain ⟨bq', e1, e2⟩ := RA.2 at' _ gm
                  have bb : bq' = bq := by
                    rw [b1] at e1
                    exact (V.ref.inj (Option.some.inj e1)).symm
                  subst bb
                  have b3 := s9 _ _ b2'
                  have GD : DGet HA LW (.ref bq') (some (.str z.2)) := by
                    have q := DGet.t (k := key z.1) hW (by rw [key_tup]; exact b3)
                    rw [d1] at q
                    exact q
                  have wl : z.2.length + (⟨#[c]⟩ : Str).length ≤ sizeLine := by
                    have : (⟨#[c]⟩ : Str).length = 1 := rfl
                    have : at' < GG.length := (List.getElem?_eq_some_iff.mp gz).1
                    omega
                  have le : (ents GG).length = GG.length := List.length_map _
                  refine ⟨_, rfl, _, rfl, _, rfl, LF, us', _, _, rfl, rfl, SqL.of hF, atI_nat b1, LW, _, rfl, GD, _, rfl, z.2, ⟨#[c]⟩, rfl, rfl, wl, _, rfl, _, rfl, LW, _, rfl, DPut.t hW hg' (by omega), ?_⟩
                  rw [put_new mem]
                  have gF : g ≠ LF := ne_of hg hF (fun z => by cases z)
                  have gW : g ≠ LW := ne_of hg hW (fun z => by cases z)
                  have hFa : (upd HA LW (.dT (ents (GG ++ [(ledon t z.1 j, z.2 ++ ⟨#[c]⟩)])))) LF = some (.lst us') := by rw [upd_ne FW]; exact hF
                  have lF : us'.length = GG.length := by rw [RA.1, List.length_map]
                  refine ⟨_, rfl, .inl ⟨rfl, _, SqL.of hFa⟩, _, rfl, LF, us', .ref g, rfl, rfl, hFa, (by omega), ?_⟩
                  refine ⟨us' ++ [.ref g], _, _, _, rfl, upd_same, ?_, ?_, FA3, ?_⟩
                  · rw [upd_ne (Ne.symm FW)]
                    exact upd_same
                  · rw [List.map_append]
                    refine (RA.to fun b ys h => ?_).snoc ?_
                    · rw [upd_ne (ne_of h hF (fun z => by cases z)), upd_ne (ne_of h hW (fun z => by cases z))]
                      exact h
                    · rw [upd_ne gF, upd_ne gW]
                      exact hg
                  · intro b o h1 h2 h
                    rw [upd_ne h1, upd_ne h2]
                    exact kp b o h1 h2 h
            · rintro σ H6 ⟨us', v1, v2, v3, rfl, hF, hW, RA, FA2, kp⟩
              rw [hmin] at hW RA FA2
              have lj := rowA_len (x := x) (r := z.1) (w := z.2) (t := t) (F := F) x.cps.size
              refine ⟨_, rfl, _, _, rfl, rfl, ⟨us', _, at' + 1, v1, v2, v3, rfl, hF, hW, RA, FA2, rowA_nodup nd _, by omega, bf2, kp⟩, ?_⟩
              show mo + 1 - (at' + 1) < mo + 1 - at'
              omega
          · have h2 : mo < F.length := by
              by_cases q : mo < F.length
              · exact q
              · exact absurd (decide_eq_true (show ((F.length : Nat) : Int) ≤ ((mo : Nat) : Int) by omega)) h2
            rw [bfsL_stop (.inr h2)] at bf
            rw [bf] at hW
            refine ⟨_, rfl, LW, _, rfl, hW, _, rfl, _, _, rfl, rfl, _, rfl, ?_⟩
            rw [le]
            refine ite2 (fun h3 => ?_) (fun h3 => ?_)
            · have h3 := of_decide_eq_true h3
              exact ⟨_, rfl, k1 (by omega) LW H5 hW nLW0 kS⟩
            · have h3 : ¬ (((bfs t x mo).length : Nat) : Int) ≤ ((mo : Nat) : Int) := fun z => h3 (decide_eq_true z)
              exact k2 (by omega) H5 kS
        · have h1 : F.length ≤ at' := by
            by_cases q : F.length ≤ at'
            · exact q
            · exact absurd (decide_eq_true (show ((at' : Nat) : Int) < ((F.length : Nat) : Int) by omega)) h1
          rw [bfsL_stop (.inl h1)] at bf
          rw [bf] at hW
          refine iteF ?_
          refine ⟨_, rfl, LW, _, rfl, hW, _, rfl, _, _, rfl, rfl, _, rfl, ?_⟩
          rw [le]
          refine ite2 (fun h3 => ?_) (fun h3 => ?_)
          · have h3 := of_decide_eq_true h3
            exact ⟨_, rfl, k1 (by omega) LW H5 hW nLW0 kS⟩
          · have h3 : ¬ (((bfs t x mo).length : Nat) : Int) ≤ ((mo : Nat) : Int) := fun z => h3 (decide_eq_true z)
            exact k2 (by omega) H5 kS
      · rintro σ H1 Q1 Q2 hq h
        obtain ⟨v1, hv1, v2, hv2, p, ys, hp, hs, i1, i2, c1, c2, b, hb, hh⟩ := h
        refine ⟨v1, hv1, v2, hv2, p, ys, hp, hs, i1, i2, c1, c2, b, hb, ?_⟩
        cases b with
        | true =>
          obtain ⟨v3, hv3, p3, ys3, hp3, hs3, v4, hv4, j1, j2, d1, d2, b2, hb2, hh⟩ := hh
          exact ⟨v3, hv3, p3, ys3, hp3, hs3, v4, hv4, j1, j2, d1, d2, b2, hb2, hq _ _ hh⟩
        | false => exact hq _ _ hh
end
end M3

set_option Elab.async false
set_option linter.all false
set_option maxRecDepth 100000
set_option maxHeartbeats 8000000
/-! # lean_table -/
namespace M3
open PySem L2
abbrev sLeanT : Stmt := top 25
abbrev nLeanT : List Str := ["table", "states", "numbers", "at", "state", "goal"]
theorem scLeanT : FnScope nLeanT ["table"] (defScope sLeanT) := ⟨rfl, rfl, rfl, by decide +kernel, rfl, by decide +kernel, by decide +kernel⟩
/-- a dict by a comprehension over a walk -/
theorem dc_it {J : It} {n : Nat} {G : Hp → Prop} {Y : Nat → Hp → V → Hp → Prop} (w : Walk J n G Y) {g : TG} {tt : TT} {tk tv : TE} {vs : List Nat} {σ : St} {H1 : Hp} {D : Addr} {Qd : Hp → Prop} (Pv : Nat → Hp → Prop) (h0 : Pv 0 (upd H1 D (.dK []))) (hG : ∀ i H, i ≤ n → Pv i H → G H)
    (hs : ∀ i x H H', i < n → Pv i H → Y i H x H' → g x (wipe σ vs) H' fun σ2 H2 => wipe σ2 vs = wipe σ vs ∧ tt σ2 H2 fun b H3 =>
      if b = true then tk σ2 H3 fun y H4 => tv σ2 H4 fun z H5 => ∃ kvs k, y = kV k ∧ H5 D = some (.dK kvs) ∧ kvs.length < sizeLine ∧ Pv (i + 1) (upd H5 D (.dK (putK kvs k z))) else Pv (i + 1) H3) (hd : ∀ H, Pv n H → Qd H) :
    ∃ W : Nat → Nat → Hp → Prop, (∃ m, W 0 m (upd H1 D (.dK []))) ∧ ∀ i m H, W i m H →
      (J.stop i H ∧ Qd H) ∨ (J.go i H ∧ ∃ Nx : Hp → Prop, (∀ H', Nx H' → ∃ m', m' < m ∧ W (i + 1) m' H') ∧ ∀ x H', J.yld i H x H' → g x (wipe σ vs) H' fun σ2 H2 => wipe σ2 vs = wipe σ vs ∧ tt σ2 H2 fun b H3 =>
        if b = true then tk σ2 H3 fun y H4 => tv σ2 H4 fun z H5 => ∃ kvs k, y = kV k ∧ H5 D = some (.dK kvs) ∧ kvs.length < sizeLine ∧ Nx (upd H5 D (.dK (putK kvs k z))) else Nx H3) := by
  refine ⟨fun i m H => m = n - i ∧ i ≤ n ∧ Pv i H, ⟨n, by omega, Nat.zero_le _, h0⟩, fun i m H h => ?_⟩
  obtain ⟨em, hi, p⟩ := h
  by_cases lt : i < n
  · exact .inr ⟨w.goes i H lt (hG i H hi p), Pv (i + 1), fun H' p' => ⟨n - (i + 1), by omega, rfl, lt, p'⟩, fun x H' y => hs i x H H' lt p (w.yields i H x H' lt (hG i H hi p) y)⟩
  · obtain rfl : i = n := by omega
    exact .inl ⟨w.stops H (hG i H hi p), hd H p⟩
/-- the dict tells at which place each of them stands -/
def NumIs (kvs : List (Key × V)) (fs : List Nat) : Prop := ∀ q : Nat, q ∈ fs → valV kvs (.inl (q : Int)) = some (.int ((fs.idxOf q : Nat) : Int))
theorem NumIs.put {kvs : List (Key × V)} {fs : List Nat} {g : Nat} (h : NumIs kvs fs) (ng : g ∉ fs) : NumIs (putK kvs (.inl (g : Int)) (.int ((fs.length : Nat) : Int))) (fs ++ [g]) := fun q hq => by
  rw [valV_put]
  by_cases e : q = g
  · subst e
    rw [if_pos rfl, List.idxOf_append, if_neg ng]
    simp
  · have hq2 : q ∈ fs := by
      rcases List.mem_append.mp hq with z | z
      · exact z
      · exact absurd (List.mem_singleton.mp z) e
    rw [if_neg (fun z => e (by injection z with z; omega)), h q hq2, List.idxOf_append, if_pos hq2]
def spLeanT (K : PySem.W.Frag) : Sp := fun vs H Q _ => ∃ (a : Addr) (us : List V) (t : List (List Nat)) (m : Nat) (x : Str), vs = [.ref a] ∧ SqT K H a us ∧ Tups K H us t ∧ IsTab t t.length m ∧ 1 ≤ t.length ∧ t.length ≤ 1000 ∧ x.cps.size = m ∧ m ≤ 1000 ∧
  ∀ (p : Addr) (us' : List V) (H' : Hp), H' p = some (.tup us') → RowsA H' us' (leanT t x) → Same H H' → Q (.ref p) H'
/-- a line of the lean table, as it is written -/
def tLineL (K : PySem.W.Frag) : TE := tLc (iTup K (tOp (rIxT K) (tVar 0) (tVar 4))) (gName 5) tYes (tDGet (tVar 2) (tVar 5)) [5]
section
variable {P : Program} {w : World} {K : PySem.W.Frag} {mg : Str → Option Value} {base : Heap}
theorem ok_leant {f g : Addr} {fd gd : FuncData} (F : Fun K "lean_table" "lean_table" sLeanT f fd) (G : Fun K "reached" "reached" sReached g gd) (bG : Binds K gd ["table"] []) (mG : mg "reached" = some (.ref g)) (T : TxI mg) (M : TxM mg) (hE : mg "enumerate" = none) :
    FnOk P w K mg base CX0 2 f fd ["table"] (spLeanT K) := by
  have GR : FnOk P w K mg base CX0 1 g gd ["table"] (spReachedE K) := ok_reachedE G T
  refine F.ok scLeanT (fun vs H Q E h => ?_) (fun cdv A outer s H vs Q E hr h => ?_)
  · obtain ⟨a, us, t, m, x, rfl, _⟩ := h
    rfl
  · obtain ⟨a, us, t, m, x, rfl, ha, hT, tb, t1, tk, hm, m9, k⟩ := h
    have hu := hu_of hr
    refine ⟨_, pss_cons (ps_set (i := 1) scLeanT.nd rfl (Or.inl rfl) (pe_call GR hr rfl mG G.kp bG .nil pass0 (pa_cons (pv 0) pa_nil)))
      (pss_cons (ps_set (i := 2) scLeanT.nd rfl (Or.inr rfl) (pe_dc (own := [("at", 3), ("state", 4)]) (g := gTup K 2 (gCons (gName 3) (gCons (gName 4) gNil))) (tt := tYes) (tk := tVar 4) (tv := tVar 3) rfl scLeanT.nd (pi_enum rfl hE (pa_cons (pv 1) pa_nil)) (blkOk_by (N := nLeanT) (sc := defScope sLeanT) (by decide +kernel))
        (fun _ _ _ _ _ => pg_tup rfl (pgs_cons (pg_name (i := 3) scLeanT.nd rfl (Or.inl rfl)) (pgs_cons (pg_name (i := 4) scLeanT.nd rfl (Or.inl rfl)) pgs_nil))) (fun _ _ _ _ _ => pts_nil) (fun _ _ _ _ _ => pv 4) (fun _ _ _ _ _ => pv 3)))
      (pss_one (ps_ret (pe_callTy call_tuple_of (by rfl) M.tuple (by decide +kernel) (pa_cons (pe_lc (own := [("state", 4)]) (g := gName 4) (tt := tYes) (te := tCB (rTupOf K) (tCons (tLineL K) tNil)) rfl scLeanT.nd (pi_list (pv 1)) (blkOk_by (N := nLeanT) (sc := defScope sLeanT) (by decide +kernel)) (fun _ _ _ _ _ => pg_name (i := 4) scLeanT.nd rfl (Or.inl rfl)) (fun _ _ _ _ _ => pts_nil)
        (fun _ _ _ _ _ => pe_callTy call_tuple_of (by rfl) M.tuple (by decide +kernel) (pa_cons (pe_lc (own := [("goal", 5)]) (wi := iTup K (tOp (rIxT K) (tVar 0) (tVar 4))) (g := gName 5) (tt := tYes) (te := tDGet (tVar 2) (tVar 5)) rfl scLeanT.nd (pi_tup (pe_ix ix_tup (pv 0) (pv 4) (fun _ _ => rfl))) (by exact blkOk_by (N := nLeanT) (sc := ⟨.function, [(".0", .local), ("state", .local), ("tuple", .globalImplicit), ("numbers", .cell), ("table", .cell)], false, false, []⟩) (scope := ⟨.function, [(".0", .local), ("goal", .local), ("numbers", .free)], false, false, []⟩) (own := [("goal", 5)]) (by decide +kernel)) (fun _ _ _ _ _ => pg_name (i := 5) scLeanT.nd rfl (Or.inl rfl)) (fun _ _ _ _ _ => pts_nil)
          (fun _ _ _ _ _ => pe_dget hu (pv 2) (pv 5) (fun _ _ => rfl))) pa_nil))) pa_nil))))), ?_⟩
    have hmin : ∀ {H9 : Hp} {q : Addr}, Same H H9 → H9 q = none → H q = none := fun {H9 q} sx hq => free_of sx hq
    have ff := (frs_ff tb hm t1 (by omega)).2
    refine ⟨_, rfl, a, us, t, m, x, rfl, ha, hT, tb, t1, tk, hm, fun l H1 nl h1 s1 => ?_⟩
    refine ⟨_, rfl, l, _, rfl, SqL.of h1, fun D nD => ?_⟩
    have nd : (ordF t x).Nodup := ff.nd
    have ol : (ordF t x).length ≤ t.length := nodup_lt_len ff.nd ff.lt
    have sm : ∀ {H9 : Hp}, (∀ b' o, b' ≠ D → H1 b' = some o → H9 b' = some o) → Same H1 H9 := fun z b' o h => z b' o (fun q => by rw [q, nD] at h; cases h) h
    refine dc_it (walk_enum (K := K) (a := l) (xs := nts (ordF t x))) (fun j H9 => ∃ kvs : List (Key × V), H9 D = some (.dK kvs) ∧ NumIs kvs ((ordF t x).take j) ∧ kvs.length ≤ j ∧ ∀ b' o, b' ≠ D → H1 b' = some o → H9 b' = some o)
      ⟨[], upd_same, fun q hq => (by cases hq), Nat.le_refl _, fun b' o hb' h => keep_new h nD⟩ (fun i H9 _ ⟨_, _, _, _, z⟩ => SqL.of (sm z _ _ h1)) ?_ ?_
    · rintro i v H9 H10 hi ⟨kvs, q1, q2, q3, q4⟩ ⟨T9, y1, y2, rfl, nT, rfl, e1, e2⟩
      rw [nts_length] at hi
      obtain ⟨_, rfl⟩ := nts_get e2
      cases e1
      have eg : (ordF t x)[i]? = some ((ordF t x).getD i 0) := by
        rw [List.getD_eq_getElem?_getD, List.getElem?_eq_getElem hi]
        rfl
      have q1' := keep_new (u := .tup [.int (i : Nat), .int (((ordF t x).getD i 0 : Nat) : Int)]) q1 nT
      refine ⟨T9, _, rfl, SqT.of upd_same, rfl, _, _, rfl, _, _, rfl, rfl, rfl, tYes_if ?_⟩
      refine ⟨_, rfl, _, rfl, kvs, .inl (((ordF t x).getD i 0 : Nat) : Int), rfl, q1', Nat.lt_of_le_of_lt (show kvs.length ≤ 1000 by omega) (by decide), _, upd_same, ?_, ?_, fun b' o hb' h => ?_⟩
      · rw [take_snoc eg]
        have ng : (ordF t x).getD i 0 ∉ (ordF t x).take i := fun z => by
          have nd2 : ((ordF t x).take (i + 1)).Nodup := nd.sublist (List.take_sublist _ _)
          rw [take_snoc eg] at nd2
          exact (List.nodup_append.mp nd2).2.2 _ z _ (List.mem_singleton.mpr rfl) rfl
        have ql : ((ordF t x).take i).length = i := by
          rw [List.length_take]
          omega
        have := q2.put ng
        rw [ql] at this
        exact this
      · have := putK_len (kvs := kvs) (k := (.inl (((ordF t x).getD i 0 : Nat) : Int) : Key)) (v := V.int (i : Nat))
        omega
      · rw [upd_ne hb']
        exact keep_new (q4 b' o hb' h) nT
    · rintro H9 ⟨kvs, q1, q2, q3, q4⟩
      have et : (ordF t x).take (nts (ordF t x)).length = ordF t x := by
        rw [nts_length]
        exact List.take_length
      rw [et] at q2
      have s9 := s1.trans (sm q4)
      have hl9 := sm q4 _ _ h1
      refine ⟨_, rfl, l, rfl, ⟨_, SqL.of hl9⟩, fun G nG => ?_⟩
      have smG : ∀ {H10 : Hp}, (∀ b' o, b' ≠ G → H9 b' = some o → H10 b' = some o) → Same H9 H10 := fun z b' o h => z b' o (fun q => by rw [q, nG] at h; cases h) h
      refine lc_list (K := K) (a := l) (xs := nts (ordF t x)) (fun j H10 => ∃ us9 : List V, H10 G = some (.lst us9) ∧ RowsA H10 us9 ((leanT t x).take j) ∧ ∀ b o, b ≠ G → H9 b = some o → H10 b = some o)
        ⟨[], upd_same, ⟨rfl, fun i r h => by rw [List.take_zero] at h; cases h⟩, fun b o hb h => keep_new h nG⟩ (fun i H10 _ ⟨_, _, _, z⟩ => SqL.of (smG z _ _ hl9)) ?_ ?_
      · rintro i v H10 hv ⟨us9, u1, u2, u3⟩
        obtain ⟨hi, rfl⟩ := nts_get hv
        have eg : (ordF t x)[i]? = some ((ordF t x).getD i 0) := by
          rw [List.getD_eq_getElem?_getD, List.getElem?_eq_getElem hi]
          rfl
        have qo : (ordF t x).getD i 0 ∈ ordF t x := List.mem_of_getElem? eg
        have el : (leanT t x)[i]? = some ((t.getD ((ordF t x).getD i 0) []).map fun q => (ordF t x).idxOf q) := by
          unfold leanT
          rw [List.getElem?_map, eg]
          rfl
        generalize (ordF t x).getD i 0 = q at eg qo el ⊢
        have lq := ff.lt q qo
        have lr := row_tab tb lq
        obtain ⟨b, b1, b2⟩ := hT.2 q _ (row_at lq)
        have s10 := s9.trans (smG u3)
        have inO : ∀ j, j < m → (t.getD q []).getD j 0 ∈ ordF t x := fun j hj => ord_closed tb hm t1 (by omega) qo hj
        generalize t.getD q [] = r at b2 lr inO el ⊢
        refine ⟨rfl, tYes_if ?_⟩
        refine ⟨_, rfl, _, rfl, a, us, _, .ref b, rfl, rfl, sqt_same s10 ha, atI_nat b1, b, rfl, ⟨_, sqt_same s10 b2⟩, fun S nS => ?_⟩
        have smS : ∀ {H11 : Hp}, (∀ b' o, b' ≠ S → H10 b' = some o → H11 b' = some o) → Same H10 H11 := fun z b' o h => z b' o (fun q => by rw [q, nS] at h; cases h) h
        have hD10 := smG u3 _ _ q1
        refine lc_tup (K := K) (a := b) (xs := nts r) (fun j H11 => H11 S = some (.lst (nts ((r.take j).map fun q => (ordF t x).idxOf q))) ∧ ∀ b o, b ≠ S → H10 b = some o → H11 b = some o)
          ⟨upd_same, fun b o hb h => keep_new h nS⟩ (fun j H11 _ ⟨_, z⟩ => sqt_same (s10.trans (smS z)) b2) ?_ ?_
        · rintro j v H11 hv ⟨w1, w2⟩
          obtain ⟨hj, rfl⟩ := nts_get hv
          have ej : r[j]? = some (r.getD j 0) := by
            rw [List.getD_eq_getElem?_getD, List.getElem?_eq_getElem hj]
            rfl
          have jo := inO j (by omega)
          refine ⟨rfl, tYes_if ?_⟩
          have hD11 := smS w2 _ _ hD10
          have dg := DGet.k (k := (Sum.inl ((r.getD j 0 : Nat) : Int) : Key)) hD11
          rw [q2 _ jo] at dg
          refine ⟨_, rfl, _, rfl, D, _, rfl, dg, _, w1, ?_, ?_, fun b' o hb' h' => by rw [upd_ne hb']; exact w2 b' o hb' h'⟩
          · rw [nts_length, List.length_map, List.length_take]
            exact Nat.lt_of_le_of_lt (show _ ≤ 1000 by omega) (by decide)
          · rw [upd_same, nts_append, take_snoc ej, List.map_append]
            rfl
        · rintro H11 ⟨w1, w2⟩
          have et : r.take (nts r).length = r := by
            rw [nts_length]
            exact List.take_length
          rw [et] at w1
          refine ⟨S, _, rfl, .inl ⟨SqL.of w1, fun p np => ?_⟩⟩
          have sp : Same H10 (upd H11 p (.tup (nts (r.map fun q => (ordF t x).idxOf q)))) := Same.new (smS w2) np
          have hp : (upd H11 p (.tup (nts (r.map fun q => (ordF t x).idxOf q)))) p = some (.tup (nts (r.map fun q => (ordF t x).idxOf q))) := upd_same
          generalize upd H11 p (.tup (nts (r.map fun q => (ordF t x).idxOf q))) = H12 at sp hp ⊢
          have hG := sp _ _ u1
          refine ⟨us9, hG, ?_, us9 ++ [.ref p], upd_same, ?_, fun b o hb h => ?_⟩
          · rw [u2.1, List.length_take]
            rw [lean_len]
            exact Nat.lt_of_le_of_lt (show _ ≤ 1000 by omega) (by decide)
          · rw [take_snoc el]
            refine (u2.to fun b ys h => ?_).snoc ?_
            · rw [upd_ne (ne_of (sp _ _ h) hG (fun z => by cases z))]
              exact sp _ _ h
            · rw [upd_ne (ne_of hp hG (fun z => by cases z))]
              exact hp
          · rw [upd_ne hb]
            exact sp _ _ (u3 b o hb h)
      · rintro H10 ⟨us9, u1, u2, u3⟩
        have et2 : (leanT t x).take (nts (ordF t x)).length = leanT t x := by
          rw [nts_length, ← lean_len]
          exact List.take_length
        rw [et2] at u2
        refine ⟨G, _, rfl, .inl ⟨SqL.of u1, fun p np => ?_⟩⟩
        refine k p us9 _ upd_same (u2.to fun b ys h => ?_) (Same.new (s9.trans (smG u3)) np)
        exact keep_new h np
end
end M3

set_option Elab.async false
set_option linter.all false
set_option maxRecDepth 100000
set_option maxHeartbeats 8000000
/-! # zip of two tuples to ONE name: the tuple that it gave out may be alive or not when it turns on -/
namespace NvTN
open PySem PySem.Spec PyProof.Rows L2 RZ
open PySem.Sem (wp)
/-- a zip as it stands, whatever it remembers of the tuple that it gave out -/
abbrev ZS (h : Heap) (z TI TO : Addr) (v : Value) (f : Bool) : Prop := h.get? z = some { cls := .type "zip", dict := none, data := .fields #[v, .bool f, .bool false, .ref TI, .ref TO], slots := #[] }
section
variable {prog : Program} {w : World} {A : Around} {E : Value → Shared → Prop} {s : Shared}
theorem dead {a : Addr} {Q : Option Obj → Shared → Prop} (ho : s.heap.get? a = none) (h : Q none s) : wpAny (model prog w) A (loadIfAlive a) Q E s := by
  have h' : Q (s.heap.get? a) s := by rw [ho]; exact h
  exact fun _ _ _ => h'
theorem is_free {z TI TO : Addr} {v : Value} {f : Bool} {Q : Bool → Shared → Prop} (hz : ZS s.heap z TI TO v f) (hv : v = .none ∨ ∃ T : Addr, v = rawInt T) (y : Q true s)
    (n : ∀ h', ZS h' z TI TO v true → Heap.SameBut z s.heap h' → Q false { s with heap := h' }) : wpAny (model prog w) A (Builtin.SmallTypes.ownedTupleIsFree (.ref z)) Q E s := by
  unfold Builtin.SmallTypes.ownedTupleIsFree
  refine wpAny_bind (wpAny_field hz rfl (x := v) rfl ?_)
  rcases hv with rfl | ⟨T, rfl⟩
  · exact wpAny_pure y
  · show wpAny _ _ (loadIfAlive ((T : Int).toNat) >>= _) _ _ _
    rw [Int.toNat_natCast]
    cases e : s.heap.get? T with
    | none =>
      refine wpAny_bind (dead e ?_)
      exact wpAny_pure y
    | some oT =>
      refine wpAny_bind (PySem.W.kdx_alive e ?_)
      simp only [Option.isNone_some, Bool.false_eq_true, if_false]
      refine wpAny_bind (wpAny_field hz rfl (x := .bool f) rfl ?_)
      cases f with
      | true =>
        rw [if_neg (show ¬ ((Value.bool true != Value.bool true) = true) from Bool.false_ne_true)]
        exact wpAny_pure (n s.heap hz (Heap.SameBut.refl _ _))
      | false =>
        rw [if_pos (show (Value.bool false != Value.bool true) = true from rfl)]
        exact wpAny_bind (wpAny_setField_rec hz (by simp) fun h₁ hz₁ hs₁ => wpAny_pure (n h₁ hz₁ hs₁))
/-- what stands after a turn -/
structure After (h h' : Heap) (z TI TO i1 i2 l1 l2 : Addr) (k1 k2 : Nat) (x y : Value) : Prop where
  zs : ∃ v f, ZS h' z TI TO v f ∧ (v = .none ∨ ∃ T : Addr, v = rawInt T)
  to : ∃ a b, IsPair h' TO a b
  it1 : h'.IsTupleIter i1 l1 (k1 + 1)
  it2 : h'.IsTupleIter i2 l2 (k2 + 1)
  new : IsPair h' h.objs.size x y
  kp : ∀ c o, c ≠ z → c ≠ TO → c ≠ i1 → c ≠ i2 → h.get? c = some o → h'.get? c = some o
theorem next_item {z TI TO i1 i2 l1 l2 : Addr} {k1 k2 : Nat} {xs ys : Array Value} {x y a b v : Value} {f : Bool} {Q : Value → Shared → Prop} (D : ZipApart z TI TO i1 i2 l1 l2)
    (hz : ZS s.heap z TI TO v f) (hv : v = .none ∨ ∃ T : Addr, v = rawInt T) (hTI : IsPair s.heap TI (.ref i1) (.ref i2)) (hTO : IsPair s.heap TO a b)
    (h1 : s.heap.IsTupleIter i1 l1 k1) (h2 : s.heap.IsTupleIter i2 l2 k2) (hl1 : s.heap.IsTuple l1 xs) (hl2 : s.heap.IsTuple l2 ys) (hx : xs[k1]? = some x) (hy : ys[k2]? = some y)
    (hQ : ∀ h', After s.heap h' z TI TO i1 i2 l1 l2 k1 k2 x y → Q (.ref s.heap.objs.size) { s with heap := h' }) :
    wpAny (model prog w) A (Builtin.«zip.__next__» ⟨[.ref z], []⟩) (fun fin s' => ∃ v, fin = .done (.ret v) ∧ Q v s') E s := by
  show wpAny _ _ (field (.ref z) 2 >>= _) _ _ _
  refine wpAny_bind (wpAny_field hz rfl (x := .bool false) rfl ?_)
  show wpAny _ _ (field (.ref z) 3 >>= _) _ _ _
  refine wpAny_bind (wpAny_field hz rfl (x := .ref TI) rfl ?_)
  refine wpAny_bind (wpAny_seqItems hTI rfl ?_)
  show wpAny _ _ (Builtin.SmallTypes.ownedTupleIsFree (.ref z) >>= _) _ _ _
  refine wpAny_bind (is_free hz hv ?_ fun h₁ hz₁ hs₁ => ?_)
  · simp only [if_true]
    refine wpAny_bind (wpAny_rule ?_)
    refine wpAny_bind (wpAny_field hz rfl (x := .ref TO) rfl ?_)
    refine wpAny_bind (wpAny_setField_rec hz (by simp) fun h₁ hz₁ hs₁ => ?_)
    replace hz₁ : ZS h₁ z TI TO .ellipsis f := hz₁
    refine wpAny_bind ?_
    simp only [List.zipIdx_cons, List.zipIdx_nil, List.forIn_cons, List.forIn_nil]
    refine wpAny_bind (wpAny_bind (wpAny_onRaise ?_))
    show wpAny _ _ (Builtin.SmallTypes.nextOf (.ref i1) >>= _) _ _ _
    refine wpAny_bind (RZ.nextOf_tuple_item (h1.extBut hs₁.extBut D.i1z) (hl1.extBut hs₁.extBut D.l1z) hx fun h₂ h1₂ hs₂ => wpAny_pure ?_)
    have hTO₂ : IsPair h₂ TO a b := hs₂.extBut _ _ D.TOi1 (hs₁.extBut _ _ D.TOz hTO)
    refine wpAny_bind (wpAny_seqItems hTO₂ rfl ?_)
    refine wpAny_bind (wpAny_updateSeq_pair hTO₂ fun h₃ hTO₃ hs₃ => ?_)
    replace hTO₃ : IsPair h₃ TO x b := hTO₃
    refine wpAny_bind (wpAny_letGo (wpAny_pure ?_))
    refine wpAny_bind (wpAny_bind (wpAny_onRaise ?_))
    show wpAny _ _ (Builtin.SmallTypes.nextOf (.ref i2) >>= _) _ _ _
    refine wpAny_bind (RZ.nextOf_tuple_item (((h2.extBut hs₁.extBut D.i2z).extBut hs₂.extBut D.i12.symm).extBut hs₃.extBut D.TOi2.symm)
      (((hl2.extBut hs₁.extBut D.l2z).extBut hs₂.extBut D.l2i1).extBut hs₃.extBut D.l2TO) hy fun h₄ h2₄ hs₄ => wpAny_pure ?_)
    have hTO₄ : IsPair h₄ TO x b := hs₄.extBut _ _ D.TOi2 hTO₃
    refine wpAny_bind (wpAny_seqItems hTO₄ rfl ?_)
    refine wpAny_bind (wpAny_updateSeq_pair hTO₄ fun h₅ hTO₅ hs₅ => ?_)
    replace hTO₅ : IsPair h₅ TO x y := hTO₅
    refine wpAny_bind (wpAny_letGo (wpAny_pure (wpAny_pure ?_)))
    refine wpAny_bind (wpAny_seqItems hTO₅ rfl ?_)
    refine wpAny_bind (wpAny_newTuple ?_)
    have hsz : h₅.objs.size = s.heap.objs.size := by rw [hs₅.1, hs₄.1, hs₃.1, hs₂.1, hs₁.1]
    have hz₅ : ZS h₅ z TI TO .ellipsis f := hs₅.extBut _ _ D.TOz.symm (hs₄.extBut _ _ D.i2z.symm (hs₃.extBut _ _ D.TOz.symm (hs₂.extBut _ _ D.i1z.symm hz₁)))
    have hk₅ : ∀ c o, c ≠ z → c ≠ TO → c ≠ i1 → c ≠ i2 → s.heap.get? c = some o → h₅.get? c = some o := fun c o c1 c2 c3 c4 e =>
      hs₅.extBut _ _ c2 (hs₄.extBut _ _ c4 (hs₃.extBut _ _ c2 (hs₂.extBut _ _ c3 (hs₁.extBut _ _ c1 e))))
    have h1₅ : h₅.IsTupleIter i1 l1 (k1 + 1) := ((h1₂.extBut hs₃.extBut D.TOi1.symm).extBut hs₄.extBut D.i12).extBut hs₅.extBut D.TOi1.symm
    have h2₅ : h₅.IsTupleIter i2 l2 (k2 + 1) := h2₄.extBut hs₅.extBut D.TOi2.symm
    have hzlt : z < h₅.objs.size := Heap.lt_size hz₅
    show wpAny _ _ (Builtin.SmallTypes.ownedTupleHandOut (.ref z) (.ref h₅.objs.size) >>= _) _ _ _
    refine wpAny_bind ?_
    unfold Builtin.SmallTypes.ownedTupleHandOut
    have hz₆ : ZS (h₅.push { cls := .type "tuple", data := .seq #[x, y] }) z TI TO .ellipsis f := Heap.get?_push_of_some _ hz₅
    refine wpAny_bind (wpAny_setField_rec hz₆ (by simp) fun h₇ hz₇ hs₇ => ?_)
    replace hz₇ : ZS h₇ z TI TO (rawInt h₅.objs.size) f := hz₇
    refine wpAny_setField_rec hz₇ (by simp) fun h₈ hz₈ hs₈ => ?_
    replace hz₈ : ZS h₈ z TI TO (rawInt h₅.objs.size) false := hz₈
    have up : ∀ c o, c ≠ z → h₅.get? c = some o → h₈.get? c = some o := fun c o c1 e => hs₈.extBut _ _ c1 (hs₇.extBut _ _ c1 (Heap.get?_push_of_some _ e))
    have hT₈ : IsPair h₈ h₅.objs.size x y := hs₈.extBut _ _ (Nat.ne_of_gt hzlt) (hs₇.extBut _ _ (Nat.ne_of_gt hzlt) (Heap.get?_push_size _ rfl))
    rw [hsz] at hz₈ hT₈
    refine wpAny_pure ⟨_, rfl, ?_⟩
    show Q (.ref h₅.objs.size) _
    rw [hsz]
    exact hQ h₈ ⟨⟨_, _, hz₈, .inr ⟨_, rfl⟩⟩, ⟨_, _, up _ _ D.TOz hTO₅⟩, h1₅.at fun o e => up _ o D.i1z e, h2₅.at fun o e => up _ o D.i2z e, hT₈, fun c o c1 c2 c3 c4 e => up c o c1 (hk₅ c o c1 c2 c3 c4 e)⟩
  · simp only [Bool.false_eq_true, if_false]
    refine wpAny_bind ?_
    rw [← Array.forIn_toList]
    simp only [List.forIn_cons, List.forIn_nil]
    refine wpAny_bind (wpAny_bind (wpAny_holding ?_))
    show wpAny _ _ (Builtin.SmallTypes.nextOf (.ref i1) >>= _) _ _ _
    refine wpAny_bind (RZ.nextOf_tuple_item (s := { s with heap := h₁ }) (h1.extBut hs₁.extBut D.i1z) (hl1.extBut hs₁.extBut D.l1z) hx fun h₂ h1₂ hs₂ => wpAny_pure ?_)
    refine wpAny_pure ?_
    refine wpAny_bind (wpAny_bind (wpAny_holding ?_))
    show wpAny _ _ (Builtin.SmallTypes.nextOf (.ref i2) >>= _) _ _ _
    refine wpAny_bind (RZ.nextOf_tuple_item (s := { s with heap := h₂ }) ((h2.extBut hs₁.extBut D.i2z).extBut hs₂.extBut D.i12.symm) ((hl2.extBut hs₁.extBut D.l2z).extBut hs₂.extBut D.l2i1) hy fun h₃ h2₃ hs₃ => wpAny_pure ?_)
    refine wpAny_pure (wpAny_pure ?_)
    show wpAny _ _ (newTuple [x, y] >>= _) _ _ _
    refine wpAny_bind (wpAny_newTuple ?_)
    have hsz : h₃.objs.size = s.heap.objs.size := by rw [hs₃.1, hs₂.1, hs₁.1]
    have hz₃ : ZS h₃ z TI TO v true := hs₃.extBut _ _ D.i2z.symm (hs₂.extBut _ _ D.i1z.symm hz₁)
    have hk : ∀ c o, c ≠ z → c ≠ i1 → c ≠ i2 → s.heap.get? c = some o → h₃.get? c = some o := fun c o c1 c2 c3 e => hs₃.extBut _ _ c3 (hs₂.extBut _ _ c2 (hs₁.extBut _ _ c1 e))
    have h1₃ : h₃.IsTupleIter i1 l1 (k1 + 1) := h1₂.extBut hs₃.extBut D.i12
    refine wpAny_pure ⟨_, rfl, ?_⟩
    show Q (.ref h₃.objs.size) _
    have hp : IsPair (h₃.push { cls := .type "tuple", data := .seq #[x, y] }) h₃.objs.size x y := Heap.get?_push_size _ rfl
    rw [hsz] at hp ⊢
    exact hQ _ ⟨⟨_, _, Heap.get?_push_of_some _ hz₃, hv⟩, ⟨_, _, Heap.get?_push_of_some _ (hk _ _ D.TOz D.TOi1 D.TOi2 hTO)⟩, h1₃.at fun o e => Heap.get?_push_of_some _ e, h2₃.at fun o e => Heap.get?_push_of_some _ e, hp, fun c o c1 _ c3 c4 e => Heap.get?_push_of_some _ (hk c o c1 c3 c4 e)⟩
theorem next_end {z TI TO i1 i2 l1 l2 : Addr} {k1 k2 : Nat} {xs ys : Array Value} {a b v : Value} {f : Bool} {Q : Fin → Shared → Prop} (hh : A.handled = none) (D : ZipApart z TI TO i1 i2 l1 l2)
    (hz : ZS s.heap z TI TO v f) (hv : v = .none ∨ ∃ T : Addr, v = rawInt T) (hTI : IsPair s.heap TI (.ref i1) (.ref i2)) (hTO : IsPair s.heap TO a b)
    (h1 : s.heap.IsTupleIter i1 l1 k1) (h2 : s.heap.IsTupleIter i2 l2 k2) (hl1 : s.heap.IsTuple l1 xs) (hl2 : s.heap.IsTuple l2 ys) (hend : xs[k1]? = none ∨ ys[k2]? = none)
    (hE : ∀ h' e, (∀ c o, c ≠ z → c ≠ TO → c ≠ i1 → c ≠ i2 → s.heap.get? c = some o → h'.get? c = some o) → (∃ o, h'.get? e = some o ∧ o.cls = .type "StopIteration") → E (.ref e) { s with heap := h' }) :
    wpAny (model prog w) A (Builtin.«zip.__next__» ⟨[.ref z], []⟩) Q E s := by
  show wpAny _ _ (field (.ref z) 2 >>= _) _ _ _
  refine wpAny_bind (wpAny_field hz rfl (x := .bool false) rfl ?_)
  show wpAny _ _ (field (.ref z) 3 >>= _) _ _ _
  refine wpAny_bind (wpAny_field hz rfl (x := .ref TI) rfl ?_)
  refine wpAny_bind (wpAny_seqItems hTI rfl ?_)
  show wpAny _ _ (Builtin.SmallTypes.ownedTupleIsFree (.ref z) >>= _) _ _ _
  refine wpAny_bind (is_free hz hv ?_ fun h₁ hz₁ hs₁ => ?_)
  · simp only [if_true]
    refine wpAny_bind (wpAny_rule ?_)
    refine wpAny_bind (wpAny_field hz rfl (x := .ref TO) rfl ?_)
    refine wpAny_bind (wpAny_setField_rec hz (by simp) fun h₁ hz₁ hs₁ => ?_)
    replace hz₁ : ZS h₁ z TI TO .ellipsis f := hz₁
    refine wpAny_bind ?_
    simp only [List.zipIdx_cons, List.zipIdx_nil, List.forIn_cons, List.forIn_nil]
    refine wpAny_bind (wpAny_bind (wpAny_onRaise ?_))
    show wpAny _ _ (Builtin.SmallTypes.nextOf (.ref i1) >>= _) _ _ _
    cases hx : xs[k1]? with
    | none =>
      refine wpAny_bind (RZ.nextOf_tuple_end hh (h1.extBut hs₁.extBut D.i1z) (hl1.extBut hs₁.extBut D.l1z) hx fun h₂ e hs₂ he => ?_)
      obtain ⟨oe, hoe, hce⟩ := he
      have hz₂ : ZS h₂ z TI TO .ellipsis f := hs₂ _ _ D.i1z.symm hz₁
      have hez : e ≠ z := fun x => by subst x; rw [hz₂] at hoe; cases hoe; simp at hce
      refine wpAny_setField_rec hz₂ (by simp) fun h₃ _ hs₃ => hE h₃ e (fun c o c1 _ c3 _ x => hs₃.extBut _ _ c1 (hs₂ _ _ c3 (hs₁.extBut _ _ c1 x))) ⟨oe, hs₃.extBut _ _ hez hoe, hce⟩
    | some x =>
      have hy : ys[k2]? = none := by rcases hend with h | h; rw [hx] at h; cases h; exact h
      refine wpAny_bind (RZ.nextOf_tuple_item (h1.extBut hs₁.extBut D.i1z) (hl1.extBut hs₁.extBut D.l1z) hx fun h₂ h1₂ hs₂ => wpAny_pure ?_)
      have hTO₂ : IsPair h₂ TO a b := hs₂.extBut _ _ D.TOi1 (hs₁.extBut _ _ D.TOz hTO)
      refine wpAny_bind (wpAny_seqItems hTO₂ rfl ?_)
      refine wpAny_bind (wpAny_updateSeq_pair hTO₂ fun h₃ hTO₃ hs₃ => ?_)
      refine wpAny_bind (wpAny_letGo (wpAny_pure ?_))
      refine wpAny_bind (wpAny_bind (wpAny_onRaise ?_))
      show wpAny _ _ (Builtin.SmallTypes.nextOf (.ref i2) >>= _) _ _ _
      refine wpAny_bind (RZ.nextOf_tuple_end hh (((h2.extBut hs₁.extBut D.i2z).extBut hs₂.extBut D.i12.symm).extBut hs₃.extBut D.TOi2.symm)
        (((hl2.extBut hs₁.extBut D.l2z).extBut hs₂.extBut D.l2i1).extBut hs₃.extBut D.l2TO) hy fun h₄ e hs₄ he => ?_)
      obtain ⟨oe, hoe, hce⟩ := he
      have hz₄ : ZS h₄ z TI TO .ellipsis f := hs₄ _ _ D.i2z.symm (hs₃.extBut _ _ D.TOz.symm (hs₂.extBut _ _ D.i1z.symm hz₁))
      have hez : e ≠ z := fun x => by subst x; rw [hz₄] at hoe; cases hoe; simp at hce
      refine wpAny_setField_rec hz₄ (by simp) fun h₅ _ hs₅ => hE h₅ e (fun c o c1 c2 c3 c4 x => hs₅.extBut _ _ c1 (hs₄ _ _ c4 (hs₃.extBut _ _ c2 (hs₂.extBut _ _ c3 (hs₁.extBut _ _ c1 x))))) ⟨oe, hs₅.extBut _ _ hez hoe, hce⟩
  · simp only [Bool.false_eq_true, if_false]
    refine wpAny_bind ?_
    rw [← Array.forIn_toList]
    simp only [List.forIn_cons, List.forIn_nil]
    refine wpAny_bind (wpAny_bind (wpAny_holding ?_))
    show wpAny _ _ (Builtin.SmallTypes.nextOf (.ref i1) >>= _) _ _ _
    cases hx : xs[k1]? with
    | none =>
      refine wpAny_bind (RZ.nextOf_tuple_end (s := { s with heap := h₁ }) hh (h1.extBut hs₁.extBut D.i1z) (hl1.extBut hs₁.extBut D.l1z) hx fun h₂ e hs₂ he => ?_)
      exact hE h₂ e (fun c o c1 _ c2 _ x => hs₂ _ _ c2 (hs₁.extBut _ _ c1 x)) he
    | some x =>
      have hy : ys[k2]? = none := by rcases hend with h | h; rw [hx] at h; cases h; exact h
      refine wpAny_bind (RZ.nextOf_tuple_item (s := { s with heap := h₁ }) (h1.extBut hs₁.extBut D.i1z) (hl1.extBut hs₁.extBut D.l1z) hx fun h₂ h1₂ hs₂ => wpAny_pure ?_)
      refine wpAny_pure ?_
      refine wpAny_bind (wpAny_bind (wpAny_holding ?_))
      show wpAny _ _ (Builtin.SmallTypes.nextOf (.ref i2) >>= _) _ _ _
      refine wpAny_bind (RZ.nextOf_tuple_end (s := { s with heap := h₂ }) hh ((h2.extBut hs₁.extBut D.i2z).extBut hs₂.extBut D.i12.symm) ((hl2.extBut hs₁.extBut D.l2z).extBut hs₂.extBut D.l2i1) hy fun h₃ e hs₃ he => ?_)
      exact hE h₃ e (fun c o c1 _ c3 c4 x => hs₃ _ _ c4 (hs₂.extBut _ _ c3 (hs₁.extBut _ _ c1 x))) he
theorem pyNext_item {z TI TO i1 i2 l1 l2 : Addr} {k1 k2 : Nat} {xs ys : Array Value} {x y a b v : Value} {f : Bool} {Q : Option Value → Shared → Prop} (D : ZipApart z TI TO i1 i2 l1 l2)
    (hz : ZS s.heap z TI TO v f) (hv : v = .none ∨ ∃ T : Addr, v = rawInt T) (hTI : IsPair s.heap TI (.ref i1) (.ref i2)) (hTO : IsPair s.heap TO a b)
    (h1 : s.heap.IsTupleIter i1 l1 k1) (h2 : s.heap.IsTupleIter i2 l2 k2) (hl1 : s.heap.IsTuple l1 xs) (hl2 : s.heap.IsTuple l2 ys) (hx : xs[k1]? = some x) (hy : ys[k2]? = some y)
    (hQ : ∀ h', After s.heap h' z TI TO i1 i2 l1 l2 k1 k2 x y → Q (some (.ref s.heap.objs.size)) { s with heap := h' }) :
    wpAny (model prog w) A (pyNext (.ref z)) Q E s := by
  have hT : s.TypeIs (.ref z) "zip" := ⟨_, hz, rfl⟩
  unfold pyNext
  exact wpAny_bind (wpAny_attempt (wpAny_callSpecial?_slot (name := Str.ofString "__next__") hT F.slot_zip_next
    (wpAny_call_entry F.slot_zip_next hT F.entry_zip_next
      (next_item D hz hv hTI hTO h1 h2 hl1 hl2 hx hy fun h' a1 => wpAny_pure (hQ h' a1)) (F.args_zip_next_1 _))))
theorem pyNext_end {z TI TO i1 i2 l1 l2 : Addr} {k1 k2 : Nat} {xs ys : Array Value} {a b v : Value} {f : Bool} {Q : Option Value → Shared → Prop} (hh : A.handled = none) (D : ZipApart z TI TO i1 i2 l1 l2)
    (hz : ZS s.heap z TI TO v f) (hv : v = .none ∨ ∃ T : Addr, v = rawInt T) (hTI : IsPair s.heap TI (.ref i1) (.ref i2)) (hTO : IsPair s.heap TO a b)
    (h1 : s.heap.IsTupleIter i1 l1 k1) (h2 : s.heap.IsTupleIter i2 l2 k2) (hl1 : s.heap.IsTuple l1 xs) (hl2 : s.heap.IsTuple l2 ys) (hend : xs[k1]? = none ∨ ys[k2]? = none)
    (hQ : ∀ h', (∀ c o, c ≠ z → c ≠ TO → c ≠ i1 → c ≠ i2 → s.heap.get? c = some o → h'.get? c = some o) → Q none { s with heap := h' }) : wpAny (model prog w) A (pyNext (.ref z)) Q E s := by
  have hT : s.TypeIs (.ref z) "zip" := ⟨_, hz, rfl⟩
  unfold pyNext
  refine wpAny_bind (wpAny_attempt (wpAny_callSpecial?_slot (name := Str.ofString "__next__") hT F.slot_zip_next
    (wpAny_call_entry F.slot_zip_next hT F.entry_zip_next (next_end hh D hz hv hTI hTO h1 h2 hl1 hl2 hend fun h' e hk he => ?_) (F.args_zip_next_1 _))))
  obtain ⟨o, ho, hc⟩ := he
  refine wpAny_bind (wpAny_isInstance (T := "StopIteration") (b := true) ⟨o, ho, hc⟩ isSubtype_stop ?_)
  exact wpAny_pure (hQ _ hk)
end
theorem pyIter_zs {M : Program} {w : World} {A : Around} {E : Value → Shared → Prop} {s : Shared} {z TI TO : Addr} {v : Value} {f : Bool} {Q : Value → Shared → Prop} (hz : ZS s.heap z TI TO v f) (h : Q (.ref z) s) : wpAny (model M w) A (pyIter (.ref z)) Q E s := by
  have hT : s.TypeIs (.ref z) "zip" := ⟨_, hz, rfl⟩
  refine wpAny_pyIter_slot hT F.slot_zip_iter (wpAny_call_entry F.slot_zip_iter hT F.entry_zip_iter ?_ (F.args_zip_iter_1 _))
  show wpAny _ _ (ret (.ref z)) _ _ s
  exact wpAny_pure ⟨_, rfl, "zip", _, hT, F.slot_zip_next.lookup, h⟩
theorem turn_zipN {P : Program} {w : World} {K : PySem.W.Frag} {x : Str} {np : Pos} {a b z TI TO i1 i2 : Addr} (D : ZipApart z TI TO i1 i2 a b) :
    Turn P w K (.Name x np) (ItzT K a b) [z, TI, TO, i1, i2] z (fun i h => (∃ v f, ZS h z TI TO v f ∧ (v = .none ∨ ∃ T : Addr, v = rawInt T)) ∧ IsPair h TI (.ref i1) (.ref i2) ∧ (∃ x y, IsPair h TO x y) ∧ h.IsTupleIter i1 a i ∧ h.IsTupleIter i2 b i) where
  mem := by simp
  obj := fun i h st c hc => by
    obtain ⟨⟨_, _, hz, _⟩, hTI, ⟨x, y, hTO⟩, ⟨o1, e1, _, d1⟩, ⟨o2, e2, _, d2⟩⟩ := st
    have e' : c = z ∨ c = TI ∨ c = TO ∨ c = i1 ∨ c = i2 := by simpa using hc
    rcases e' with q | q | q | q | q
    · rw [q]; exact ⟨_, hz, fun v q => nomatch q⟩
    · rw [q]; exact ⟨_, hTI, fun v q => nomatch q⟩
    · rw [q]; exact ⟨_, hTO, fun v q => nomatch q⟩
    · rw [q]; exact ⟨o1, e1, fun v q => by rw [d1] at q; cases q⟩
    · rw [q]; exact ⟨o2, e2, fun v q => by rw [d2] at q; cases q⟩
  keep := fun i h h' st k => by
    obtain ⟨⟨v, f, hz, hv⟩, hTI, ⟨x, y, hTO⟩, h1, h2⟩ := st
    exact ⟨⟨v, f, k z (by simp) _ hz, hv⟩, k TI (by simp) _ hTI, ⟨x, y, k TO (by simp) _ hTO⟩, h1.at fun o q => k i1 (by simp) o q, h2.at fun o q => k i2 (by simp) o q⟩
  item := by
    intro X hP hw hK hc i pins s σ H E I hf st hg
    subst hP hw hK
    obtain ⟨⟨v, f, hz, hv⟩, hTI, ⟨x0, y0, hTO⟩, h1, h2⟩ := st
    obtain ⟨xs, ys, x, y, hqx, hqy, hx, hy⟩ := hg
    obtain ⟨its, rv, p, _⟩ := I.tuple hqx
    obtain ⟨its2, rv2, p2, _⟩ := I.tuple hqy
    obtain ⟨u, hu, ru⟩ := rv.get hx
    obtain ⟨u2, hu2, ru2⟩ := rv2.get hy
    have hzl : z < s.heap.objs.size := Heap.lt_size hz
    refine pyNext_item D hz hv hTI hTO h1 h2 p p2 (x := u) (y := u2) (by simpa using hu) (by simpa using hu2) fun h' af => ?_
    refine ⟨_, rfl, ?_⟩
    unfold letOwnedTupleGo
    refine wpAny_pure ?_
    have new : ObjOk X.prog X.w (upd H s.heap.objs.size (.tup [x, y])) h' s.heap.objs.size (.tup [x, y]) :=
      ⟨by show 2 ≤ sizeLine; decide, [u, u2], .cons ru (.cons ru2 .nil), ⟨_, af.new, rfl, _, rfl⟩⟩
    have I1 : Inv X pins σ (upd H s.heap.objs.size (.tup [x, y])) { s with heap := h' } :=
      I.turnedNew (t' := s.toks) (ch := [z, TI, TO, i1, i2]) (fun c o hb q => af.kp c o (fun q' => hb (by simp [q'])) (fun q' => hb (by simp [q'])) (fun q' => hb (by simp [q'])) (fun q' => hb (by simp [q'])) q) hf (Nat.le_refl _) new
    refine ⟨.ref s.heap.objs.size, _, I1, rfl, ⟨_, x, y, rfl, I.hok.fresh (Nat.le_refl _), rfl, fun l hl => by rw [I.tuple_inj hl hqx]; exact hx, fun l hl => by rw [I.tuple_inj hl hqy]; exact hy⟩, ⟨af.zs, ?_, af.to, af.it1, af.it2⟩, fun c hcm => ?_⟩
    · exact af.kp _ _ D.TIz D.TITO D.TIi1 D.TIi2 hTI
    · have hlt : c < s.heap.objs.size := by
        have e' : c = z ∨ c = TI ∨ c = TO ∨ c = i1 ∨ c = i2 := by simpa using hcm
        rcases e' with q | q | q | q | q
        · rw [q]; exact hzl
        · rw [q]; exact Heap.lt_size hTI
        · rw [q]; exact Heap.lt_size hTO
        · rw [q]; obtain ⟨_, e1, _⟩ := h1; exact Heap.lt_size e1
        · rw [q]; obtain ⟨_, e2, _⟩ := h2; exact Heap.lt_size e2
      rw [upd_ne (Nat.ne_of_lt hlt)]
      exact (hf c hcm).1
  done := by
    intro X hP hw hK hc i pins s σ H E I hf st hg
    subst hP hw hK
    obtain ⟨⟨v, f, hz, hv⟩, hTI, ⟨x0, y0, hTO⟩, h1, h2⟩ := st
    obtain ⟨xs, ys, hqx, hqy, hend⟩ := hg
    obtain ⟨its, rv, p, _⟩ := I.tuple hqx
    obtain ⟨its2, rv2, p2, _⟩ := I.tuple hqy
    have l1 := rv.length
    have l2 := rv2.length
    have he : its.toArray[i]? = none ∨ its2.toArray[i]? = none := by
      rcases hend with q | q
      · exact .inl (by simp; omega)
      · exact .inr (by simp; omega)
    exact pyNext_end (I.ok.hd hc) D hz hv hTI hTO h1 h2 p p2 he fun h' hk => ⟨rfl, I.turnedL (t' := s.toks) (ch := [z, TI, TO, i1, i2]) (fun c o hb q =>
      hk c o (fun q' => hb (by simp [q'])) (fun q' => hb (by simp [q'])) (fun q' => hb (by simp [q'])) (fun q' => hb (by simp [q'])) q) hf⟩
  self := fun A i s Q E st h => by
    obtain ⟨⟨v, f, hz, hv⟩, _⟩ := st
    exact pyIter_zs hz h
def iZipN (K : PySem.W.Frag) (ta : TA) : TI := fun σ H R => ta σ H fun vs H1 => ∃ a b xs ys, vs = [.ref a, .ref b] ∧ SqT K H1 a xs ∧ SqT K H1 b ys ∧ R (ItzT K a b) H1
/-- for goal in zip(a, b), of two tuples -/
theorem pi_zipN {X : Cx} {x : Str} {np : Pos} {e e2 : Expr} {ta : TA} {p pos : Pos} (hg : Gl X "zip") (hm : X.mg "zip" = none) (ha : PA X [e, e2] ta)
    (hs : starEach [e, e2] X.env = (false, eval e X.env) :: starEach [e2] X.env := by rfl) (hpl : (backTo pos (starEach [e2] X.env)).any (·.1) = false := by rfl) :
    PI X (.Name x np) (.Call (.Name "zip" p) [e, e2] [] pos) (iZipN X.K ta) := by
  refine ⟨fun pins s σ H R I h => ?_⟩
  refine Call_ (ld_blt I hg hm PyProof.Rows.boot_zip (PyProof.Rows.callWith_type1 (thn (ha.run pos pins s σ H _ I h) fun us s1 ⟨vs, H1, I1, r1, q1⟩ => ?_) hs hpl))
  obtain ⟨a, b, xs, ys, ex, hqx, hqy, q⟩ := q1
  subst ex
  cases r1 with
  | cons r rr =>
    cases rr with
    | cons r' rr =>
      cases rr
      cases r
      cases r'
      obtain ⟨its, rv, p1, _⟩ := I1.tuple hqx
      obtain ⟨its2, rv2, p2, _⟩ := I1.tuple hqy
      obtain ⟨o1, ho1, _⟩ := id p1
      obtain ⟨o2, ho2, _⟩ := id p2
      refine RZ.call_zipT (show s1.heap.IsTuple a its.toArray from p1) (show s1.heap.IsTuple b its2.toArray from p2) fun h' hz hTI hTO h1 h2 hsz hk => wpAny_pyIter_zip hz ?_
      have I2 : Inv X pins σ H1 { s1 with heap := h' } := I1.kept (t' := s1.toks) hk
      refine ⟨s1.heap.objs.size + 4, [s1.heap.objs.size + 4, s1.heap.objs.size + 2, s1.heap.objs.size + 3, s1.heap.objs.size, s1.heap.objs.size + 1], _, _, H1, rfl, I2, turn_zipN (PySem.W.ktu_apart s1.heap.objs.size a b (Heap.lt_size ho1) (Heap.lt_size ho2)), ⟨⟨_, _, hz, .inl rfl⟩, hTI, ⟨_, _, hTO⟩, h1, h2⟩, fun c hcm => ?_, q⟩
      have e' : c = s1.heap.objs.size + 4 ∨ c = s1.heap.objs.size + 2 ∨ c = s1.heap.objs.size + 3 ∨ c = s1.heap.objs.size ∨ c = s1.heap.objs.size + 1 := by simpa using hcm
      have hle : s1.heap.objs.size ≤ c := by
        rcases e' with z | z | z | z | z
        · rw [z]; exact Nat.le_add_right _ _
        · rw [z]; exact Nat.le_add_right _ _
        · rw [z]; exact Nat.le_add_right _ _
        · rw [z]; exact Nat.le_refl _
        · rw [z]; exact Nat.le_add_right _ _
      exact I1.fpOk hle (I1.hok.fresh hle)
theorem walk_zipT {K : PySem.W.Frag} {a b : Addr} {xs ys : List V} : Walk (ItzT K a b) (min xs.length ys.length) (fun H => SqT K H a xs ∧ SqT K H b ys) (fun i H v H' => ∃ (T : Addr) (x y : V), v = .ref T ∧ H T = none ∧ H' = upd H T (.tup [x, y]) ∧ xs[i]? = some x ∧ ys[i]? = some y) := by
  refine ⟨fun i H hi g => ?_, fun H g => ⟨xs, ys, g.1, g.2, by omega⟩, fun i H v H' hi g h => ?_⟩
  · exact ⟨xs, ys, _, _, g.1, g.2, List.getElem?_eq_getElem (by omega), List.getElem?_eq_getElem (by omega)⟩
  · obtain ⟨T, x, y, h1, h2, h3, h4, h5⟩ := h
    exact ⟨T, x, y, h1, h2, h3, h4 xs g.1, h5 ys g.2⟩
end NvTN

set_option Elab.async false
set_option linter.all false
set_option maxRecDepth 100000
set_option maxHeartbeats 8000000
/-! # beside: two tables side by side; a pair of places is one place of the table of all pairs -/
namespace M3
open PySem L2 NvTN
/-- the table of all pairs of places; the pair of a and b is place a * n + b -/
def prodT (t u : List (List Nat)) (m : Nat) : List (List Nat) := (List.range (t.length * u.length)).map fun z => (List.range m).map fun j => (t.getD (z / u.length) []).getD j 0 * u.length + (u.getD (z % u.length) []).getD j 0
/-- the pair that a place is -/
def dec (n z : Nat) : List Nat := [z / n, z % n]
theorem dec_inj {n a b : Nat} (h : dec n a = dec n b) : a = b := by
  unfold dec at h
  injection h with h1 h2
  injection h2 with h2 _
  have ha := Nat.div_add_mod a n
  have hb := Nat.div_add_mod b n
  rw [h1, h2] at ha
  omega
theorem dec_enc {n a b : Nat} (hb : b < n) : dec n (a * n + b) = [a, b] := by
  unfold dec
  have n0 : 0 < n := by omega
  rw [show a * n + b = b + n * a from by rw [Nat.mul_comm a n]; omega, Nat.add_mul_div_left _ _ n0, Nat.add_mul_mod_self_left, Nat.div_eq_of_lt hb, Nat.mod_eq_of_lt hb, Nat.zero_add]
theorem enc_lt {n k a b : Nat} (ha : a < k) (hb : b < n) : a * n + b < k * n := by
  have : (a + 1) * n ≤ k * n := Nat.mul_le_mul_right n ha
  rw [Nat.succ_mul] at this
  omega
section
variable {t u : List (List Nat)} {m : Nat}
theorem prod_len : (prodT t u m).length = t.length * u.length := by
  unfold prodT
  rw [List.length_map, List.length_range]
theorem prod_row {z : Nat} (hz : z < t.length * u.length) : (prodT t u m).getD z [] = (List.range m).map fun j => (t.getD (z / u.length) []).getD j 0 * u.length + (u.getD (z % u.length) []).getD j 0 := by
  unfold prodT
  rw [List.getD_eq_getElem?_getD, List.getElem?_map, List.getElem?_range hz]
  rfl
theorem prod_at {z j : Nat} (hz : z < t.length * u.length) (hj : j < m) : ((prodT t u m).getD z []).getD j 0 = (t.getD (z / u.length) []).getD j 0 * u.length + (u.getD (z % u.length) []).getD j 0 := by
  rw [prod_row hz, List.getD_eq_getElem?_getD, List.getElem?_map, List.getElem?_range hj]
  rfl
theorem tab_at {t : List (List Nat)} {m q j : Nat} (tb : IsTab t t.length m) (hq : q < t.length) (hj : j < m) : (t.getD q []).getD j 0 < t.length := by
  obtain ⟨l1, l2⟩ := row_tab tb hq
  exact getD_mem_lt l2 (by omega)
theorem div_mod_lt {z k n : Nat} (h : z < k * n) : z / n < k ∧ z % n < n := by
  have n0 : 0 < n := by
    rcases Nat.eq_zero_or_pos n with e | e
    · rw [e] at h
      omega
    · exact e
  exact ⟨(Nat.div_lt_iff_lt_mul n0).mpr h, Nat.mod_lt _ n0⟩
theorem prod_tab (tb : IsTab t t.length m) (ub : IsTab u u.length m) : IsTab (prodT t u m) (prodT t u m).length m := by
  refine ⟨rfl, fun r hr => ?_⟩
  rw [prod_len]
  unfold prodT at hr
  obtain ⟨z, hz, rfl⟩ := List.mem_map.mp hr
  have hz := List.mem_range.mp hz
  obtain ⟨h1, h2⟩ := div_mod_lt hz
  refine ⟨by rw [List.length_map, List.length_range], fun y hy => ?_⟩
  obtain ⟨j, hj, rfl⟩ := List.mem_map.mp hy
  have hj := List.mem_range.mp hj
  exact enc_lt (tab_at tb h1 hj) (tab_at ub h2 hj)
end
/-- the dict tells of each pair at which place it stands -/
def NumP (n : Nat) (kvs : List (List Key × V)) (fs : List Nat) : Prop := ∀ q : Nat, valV kvs (key (dec n q)) = if q ∈ fs then some (.int ((fs.idxOf q : Nat) : Int)) else none
theorem NumP.put {n : Nat} {kvs : List (List Key × V)} {fs : List Nat} {g : Nat} (h : NumP n kvs fs) (ng : g ∉ fs) : NumP n (putK kvs (key (dec n g)) (.int ((fs.length : Nat) : Int))) (fs ++ [g]) := fun q => by
  rw [valV_put]
  by_cases e : q = g
  · subst e
    rw [if_pos rfl, if_pos (List.mem_append.mpr (.inr List.mem_cons_self)), List.idxOf_append, if_neg ng]
    simp
  · rw [if_neg (fun z => e (dec_inj (key_inj z))), h q]
    by_cases hq : q ∈ fs
    · rw [if_pos hq, if_pos (List.mem_append.mpr (.inl hq)), List.idxOf_append, if_pos hq]
    · rw [if_neg hq, if_neg (fun z => by
        rcases List.mem_append.mp z with z | z
        · exact hq z
        · exact e (List.mem_singleton.mp z))]
theorem idx_pre {F G : List Nat} (h : F <+: G) {q : Nat} (hq : q ∈ F) : G.idxOf q = F.idxOf q := by
  obtain ⟨R, rfl⟩ := h
  rw [List.idxOf_append, if_pos hq]
theorem Way.pre2 {t : List (List Nat)} {x : Str} {m i : Nat} {F : List (Nat × Str)} (h : Way t x m i F) (tb : IsTab t t.length m) (hm : x.cps.size = m) (tk : t.length ≤ 1000) (hi : i ≤ F.length) : F <+: frs t x := by
  have l := h.ff.len
  have := (frsL_end tb hm (100000 - i) i F h.ff (by omega)).1
  rwa [h.eq] at this
theorem rowF_pre2 {r : List Nat} {x w : Str} {F : List (Nat × Str)} : ∀ {i n : Nat}, i ≤ n → rowF r x w F i <+: rowF r x w F n
  | i, 0, h => by
    have e : i = 0 := by omega
    subst e
    exact List.prefix_refl _
  | i, n + 1, h => by
    by_cases e : i = n + 1
    · subst e
      exact List.prefix_refl _
    · exact (rowF_pre2 (n := n) (by omega)).trans addF_pre
theorem lean_at {t : List (List Nat)} {x : Str} {i : Nat} {z : Nat × Str} (h : (frs t x)[i]? = some z) : (leanT t x)[i]? = some ((t.getD z.1 []).map fun q => (ordF t x).idxOf q) := by
  unfold leanT ordF
  rw [List.getElem?_map, List.getElem?_map, h]
  rfl
abbrev sBeside : Stmt := top 28
abbrev nBeside : List Str := ["one", "other", "pairs", "numbers", "lines", "first", "second", "line", "goal"]
theorem scBeside : FnScope nBeside ["one", "other"] (defScope sBeside) := ⟨rfl, rfl, rfl, by decide +kernel, rfl, by decide +kernel, by decide +kernel⟩
def spBeside (K : PySem.W.Frag) : Sp := fun vs H Q _ => ∃ (a b : Addr) (us vs' : List V) (t u : List (List Nat)) (m : Nat) (x : Str), vs = [.ref a, .ref b] ∧ SqT K H a us ∧ Tups K H us t ∧ IsTab t t.length m ∧ 1 ≤ t.length ∧
  SqT K H b vs' ∧ Tups K H vs' u ∧ IsTab u u.length m ∧ 1 ≤ u.length ∧ t.length * u.length ≤ 1000 ∧ x.cps.size = m ∧ m ≤ 1000 ∧
  ∀ (p l c : Addr) (ps ls : List V) (H' : Hp), H' p = some (.tup [.ref l, .ref c]) → H' l = some (.lst ps) → H l = none → RowsA H' ps ((ordF (prodT t u m) x).map (dec u.length)) → H' c = some (.tup ls) → RowsA H' ls (leanT (prodT t u m) x) → Same H H' → Q (.ref p) H'
section
variable {P : Program} {w : World} {K : PySem.W.Frag} {mg : Str → Option Value} {base : Heap}
theorem ok_beside {f : Addr} {fd : FuncData} (F : Fun K "beside" "beside" sBeside f fd) (T : TxI mg) (M : TxM mg) (hZ : mg "zip" = none) : FnOk P w K mg base CX0 1 f fd ["one", "other"] (spBeside K) := by
  refine F.ok scBeside (fun vs H Q E h => ?_) (fun cdv A outer s H vs Q E hr h => ?_)
  · obtain ⟨a, b, us, vs', t, u, m, x, rfl, _⟩ := h
    rfl
  · obtain ⟨a, b, us, vs', t, u, m, x, rfl, ha, hT, tb, t1, hb, hU, ub, u1, tu, hm, m9, k⟩ := h
    have hu := hu_of hr
    refine ⟨_, pss_cons (ps_set (i := 2) scBeside.nd rfl (Or.inl rfl) (pe_lst (pa_cons (pe_tup (pa_cons pe_int (pa_cons pe_int pa_nil))) pa_nil)))
      (pss_cons (ps_set (i := 3) scBeside.nd rfl (Or.inl rfl) (NvQ.pe_disp1 (Nat.lt_of_succ_lt hu) (pe_tup (pa_cons pe_int (pa_cons pe_int pa_nil))) pe_int))
      (pss_cons (ps_set (i := 4) scBeside.nd rfl (Or.inl rfl) (pe_lst pa_nil))
      (pss_cons (ps_while PassesOwn.never (pt_cmpR op_lt (pe_callB call_len_seq (by rfl) T.len PySem.boot_len (pa_cons (pv 4) pa_nil)) (pe_callB call_len_seq (by rfl) T.len PySem.boot_len (pa_cons (pv 2) pa_nil)) (nomark _))
        (pss_cons (ps_asg (pe_ix ix_list (pv 2) (pe_callB call_len_seq (by rfl) T.len PySem.boot_len (pa_cons (pv 4) pa_nil)) (fun _ _ => rfl)) (pg_tup rfl (pgs_cons (pg_name (i := 5) scBeside.nd rfl (Or.inl rfl)) (pgs_cons (pg_name (i := 6) scBeside.nd rfl (Or.inl rfl)) pgs_nil))))
        (pss_cons (ps_set (i := 7) scBeside.nd rfl (Or.inl rfl) (pe_lst pa_nil))
        (pss_cons (ps_for PassesOwn.never rfl (pi_zipN rfl hZ (pa_cons (pe_ix ix_tup (pv 0) (pv 5) (fun _ _ => rfl)) (pa_cons (pe_ix ix_tup (pv 1) (pv 6) (fun _ _ => rfl)) pa_nil))) (pg_name (i := 8) scBeside.nd rfl (Or.inl rfl))
          (pss_cons (ps_if (pt_cmp (pc_dnotin hu (pv 8) (pv 3)))
              (pss_cons (ps_dput hu (pv 3) (pv 8) (pe_callB call_len_seq (by rfl) T.len PySem.boot_len (pa_cons (pv 2) pa_nil)) rfl)
              (pss_one (ps_expr (pe_bm PySem.F.plainAttrs_list PySem.F.slot_list_append PySem.F.type_list_append mt_append (pv 2) (pa_cons (pv 8) pa_nil))))) pss_nil)
          (pss_one (ps_expr (pe_bm PySem.F.plainAttrs_list PySem.F.slot_list_append PySem.F.type_list_append mt_append (pv 7) (pa_cons (pe_dget hu (pv 3) (pv 8) (fun _ _ => rfl)) pa_nil))))))
        (pss_one (ps_expr (pe_bm PySem.F.plainAttrs_list PySem.F.slot_list_append PySem.F.type_list_append mt_append (pv 4) (pa_cons (pe_callTy call_tuple_of (by rfl) M.tuple (by decide +kernel) (pa_cons (pv 7) pa_nil)) pa_nil))))))))
      (pss_one (ps_ret (pe_tup (pa_cons (pv 2) (pa_cons (pe_callTy call_tuple_of (by rfl) M.tuple (by decide +kernel) (pa_cons (pv 4) pa_nil)) pa_nil)))))))), ?_⟩
    have sz : (100000 : Nat) < sizeLine := by decide
    refine ⟨(by show 2 ≤ sizeLine; omega), fun p0 n0 => ⟨(by show 1 ≤ sizeLine; omega), fun L nL => ?_⟩⟩
    intro D nD
    refine ⟨(by show 2 ≤ sizeLine; omega), fun q0 nq => ?_⟩
    have hT2 : (upd (upd (upd (upd H p0 (.tup [.int 0, .int 0])) L (.lst [.ref p0])) D (.dT [])) q0 (.tup [.int 0, .int 0])) q0 = some (.tup ((key [0, 0]).map kV)) := upd_same
    have hD2 : (upd (upd (upd (upd H p0 (.tup [.int 0, .int 0])) L (.lst [.ref p0])) D (.dT [])) q0 (.tup [.int 0, .int 0])) D = some (.dT []) := keep_new upd_same nq
    refine ⟨q0, key [0, 0], .int 0, rfl, hD2, hT2, ?_⟩
    have e0 := upd_same (H := H) (a := p0) (o := .tup [.int 0, .int 0])
    have s1 := Same.new (u := .tup [.int 0, .int 0]) (Same.refl H) n0
    generalize upd H p0 (.tup [.int 0, .int 0]) = H1 at *
    have e1 := keep_new (u := .lst [.ref p0]) e0 nL
    have f1 := upd_same (H := H1) (a := L) (o := .lst [.ref p0])
    have fL : H L = none := free_of s1 nL
    have s2 := Same.new (u := .lst [.ref p0]) s1 nL
    generalize upd H1 L (.lst [.ref p0]) = H2 at *
    have e2 := keep_new (u := .dT []) e1 nD
    have f2 := keep_new (u := .dT []) f1 nD
    have fD : H D = none := free_of s2 nD
    have s3 := Same.new (u := .dT []) s2 nD
    generalize upd H2 D (.dT []) = H3 at *
    have e3 := keep_new (u := .tup [.int 0, .int 0]) e2 nq
    have f3 := keep_new (u := .tup [.int 0, .int 0]) f2 nq
    have s4 := Same.new (u := .tup [.int 0, .int 0]) s3 nq
    generalize upd H3 q0 (.tup [.int 0, .int 0]) = H4 at *
    have dp : p0 ≠ D := ne_of e3 hD2 (fun z => by cases z)
    have dL : L ≠ D := ne_of f3 hD2 (fun z => by cases z)
    have e4 : (upd H4 D (.dT [(key [0, 0], .int 0)])) p0 = some (.tup [.int 0, .int 0]) := by rw [upd_ne dp]; exact e3
    have f4 : (upd H4 D (.dT [(key [0, 0], .int 0)])) L = some (.lst [.ref p0]) := by rw [upd_ne dL]; exact f3
    have g4 := upd_same (H := H4) (a := D) (o := .dT [(key [0, 0], .int 0)])
    have s5 : Same H (upd H4 D (.dT [(key [0, 0], .int 0)])) := fun b' o h => by
      rw [upd_ne (ne_of_none h fD)]
      exact s4 _ _ h
    generalize upd H4 D (.dT [(key [0, 0], .int 0)]) = H5 at *
    refine ⟨(by show 0 ≤ sizeLine; omega), fun M nM => ?_⟩
    have e5 := keep_new (u := .lst []) e4 nM
    have f5 := keep_new (u := .lst []) f4 nM
    have g5 := keep_new (u := .lst []) g4 nM
    have fM : H M = none := free_of s5 nM
    have s6 := Same.new (u := .lst []) s5 nM
    have h5 := upd_same (H := H5) (a := M) (o := .lst [])
    have dM : L ≠ M := fun z => by rw [z] at f4; rw [nM] at f4; cases f4
    generalize upd H5 M (.lst []) = H6 at *
    clear e0 e1 e2 e3 e4 f1 f2 f3 f4 g4 s1 s2 s3 s4 s5 nM nq nD nL n0 hT2 hD2 dp
    have pb := prod_tab tb ub
    have pl : (prodT t u m).length = t.length * u.length := prod_len
    have p1 : 1 ≤ (prodT t u m).length := by
      rw [pl]
      exact Nat.mul_pos t1 u1
    have pk : (prodT t u m).length ≤ 1000 := by omega
    refine while_by (fun σ H' => ∃ (ps ls : List V) (F : List (Nat × Str)) (kvs : List (List Key × V)) (i : Nat) (v1 v2 v3 v4 : Option V), σ = [some (.ref a), some (.ref b), some (.ref L), some (.ref D), some (.ref M), v1, v2, v3, v4] ∧ H' L = some (.lst ps) ∧ RowsA H' ps ((F.map Prod.fst).map (dec u.length)) ∧
        H' D = some (.dT kvs) ∧ NumP u.length kvs (F.map Prod.fst) ∧ kvs.length ≤ F.length ∧ H' M = some (.lst ls) ∧ RowsA H' ls ((leanT (prodT t u m) x).take i) ∧ ls.length = i ∧ Way (prodT t u m) x m i F ∧ i ≤ F.length ∧ Same H H')
      (fun σ H' => match σ with | [_, _, _, _, some (.ref M), _, _, _, _] => (match H' M with | some (.lst ls) => t.length * u.length - ls.length | _ => 0) | _ => 0)
      ⟨[.ref p0], [], [(0, "")], _, 0, none, none, none, none, rfl, f5, ?_, g5, ?_, Nat.le_refl _, h5, ⟨rfl, fun i r h => by rw [List.take_zero] at h; cases h⟩, rfl, Way.start p1, Nat.zero_le _, s6⟩ ?_ ?_
    · refine ⟨rfl, fun i r h => ?_⟩
      match i, h with
      | 0, h =>
        cases h
        refine ⟨p0, rfl, ?_⟩
        show H6 p0 = some (.tup (nts [0 / u.length, 0 % u.length]))
        rw [Nat.zero_div, Nat.zero_mod]
        exact e5
    · intro q
      show valV [(key [0, 0], V.int 0)] (key (dec u.length q)) = if q ∈ [0] then some (.int (([0].idxOf q : Nat) : Int)) else none
      by_cases e : q = 0
      · subst e
        have ed : dec u.length 0 = [0, 0] := by
          unfold dec
          rw [Nat.zero_div, Nat.zero_mod]
        rw [ed, valV_pos rfl]
        rfl
      · have ed : ¬ key [0, 0] = key (dec u.length q) := fun z => e (by
          have ed : dec u.length 0 = [0, 0] := by
            unfold dec
            rw [Nat.zero_div, Nat.zero_mod]
          rw [← ed] at z
          exact (dec_inj (key_inj z)).symm)
        rw [valV_neg ed, valV_nil, if_neg (by simpa using e)]
    · rintro σ H7 ⟨ps, ls, F, kvs, i, v1, v2, v3, v4, rfl, hL, RA, hD, nP, kl, hM, RL, li, hw, hi, sH⟩
      have fl := hw.ff.len
      have lps : ps.length = F.length := by rw [RA.1, List.length_map, List.length_map]
      refine ⟨_, rfl, M, _, rfl, .inl (SqL.of hM), _, rfl, L, _, rfl, .inl (SqL.of hL), _, _, rfl, rfl, _, rfl, ?_⟩
      rw [li, lps]
      refine ite2 (fun hle => ?_) (fun hle => ?_)
      · have hlt : i < F.length := by
          have := of_decide_eq_true hle
          omega
        have hz : F[i]? = some F[i] := List.getElem?_eq_getElem hlt
        have q := hw.ff.lt _ (List.mem_map.mpr ⟨_, List.getElem_mem hlt, rfl⟩)
        generalize F[i] = z at hz q
        rw [pl] at q
        obtain ⟨q1, q2⟩ := div_mod_lt q
        obtain ⟨r1, r2⟩ := row_tab tb q1
        obtain ⟨r3, r4⟩ := row_tab ub q2
        have hF1 : ((F.map Prod.fst).map (dec u.length))[i]? = some (dec u.length z.1) := by
          rw [List.getElem?_map, List.getElem?_map, hz]
          rfl
        obtain ⟨pz, a1, a2⟩ := RA.2 i _ hF1
        refine ⟨_, rfl, _, rfl, M, _, rfl, .inl (SqL.of hM), L, ps, (i : Nat), .ref pz, rfl, (by rw [li]), SqL.of hL, atI_nat a1, ?_⟩
        have a2' : H7 pz = some (.tup [.int ((z.1 / u.length : Nat) : Int), .int ((z.1 % u.length : Nat) : Int)]) := a2
        refine ⟨pz, _, rfl, SqT.of a2', rfl, _, _, rfl, _, _, rfl, rfl, ?_⟩
        have hM7 := hM
        refine ⟨(by show 0 ≤ sizeLine; omega), fun J nJ => ?_⟩
        have fJ : H J = none := free_of sH nJ
        have hL1 := keep_new (u := .lst []) hL nJ
        have hD1 := keep_new (u := .lst []) hD nJ
        have hM1 := keep_new (u := .lst []) hM nJ
        have RA1 := RA.to (H' := upd H7 J (.lst [])) fun b' ys h => keep_new h nJ
        have RL1 := RL.to (H' := upd H7 J (.lst [])) fun b' ys h => keep_new h nJ
        have sH1 : Same H (upd H7 J (.lst [])) := Same.new sH nJ
        have hJ1 := upd_same (H := H7) (a := J) (o := .lst [])
        have jL : L ≠ J := fun e => by rw [e] at hL; rw [nJ] at hL; cases hL
        have jD : D ≠ J := fun e => by rw [e] at hD; rw [nJ] at hD; cases hD
        have jM : M ≠ J := fun e => by rw [e] at hM; rw [nJ] at hM; cases hM
        generalize upd H7 J (.lst []) = H8 at *
        obtain ⟨ba, ba1, ba2⟩ := hT.2 _ _ (row_at q1)
        obtain ⟨bb, bb1, bb2⟩ := hU.2 _ _ (row_at q2)
        have er : ∀ j, j < m → ((prodT t u m).getD z.1 []).getD j 0 = (t.getD (z.1 / u.length) []).getD j 0 * u.length + (u.getD (z.1 % u.length) []).getD j 0 := fun j hj => prod_at q hj
        have hnext := hw.next pb hm pk hz
        have rl : ((prodT t u m).getD z.1 []).length = m := (row_tab pb (by rw [pl]; exact q)).1
        have rz : ∀ y ∈ (prodT t u m).getD z.1 [], y < (prodT t u m).length := (row_tab pb (by rw [pl]; exact q)).2
        have fin := hnext.pre2 pb hm pk (by
          have := rowF_len (r := (prodT t u m).getD z.1 []) (x := x) (w := z.2) (F := F) x.cps.size
          omega)
        have zin : (frs (prodT t u m) x)[i]? = some z := pre_at (hw.pre2 pb hm pk hi) hz
        have lrow := lean_at zin
        have r2j : ∀ j, j < m → (t.getD (z.1 / u.length) []).getD j 0 < t.length := fun j hj => tab_at tb q1 hj
        have r4j : ∀ j, j < m → (u.getD (z.1 % u.length) []).getD j 0 < u.length := fun j hj => tab_at ub q2 hj
        generalize t.getD (z.1 / u.length) [] = ra at r1 r2 ba2 er r2j
        generalize u.getD (z.1 % u.length) [] = rb at r3 r4 bb2 er r4j
        generalize (prodT t u m).getD z.1 [] = r at er hnext rl rz fin lrow
        refine ⟨_, rfl, _, rfl, a, us, _, .ref ba, rfl, rfl, sqt_same sH1 ha, atI_nat ba1, _, rfl, _, rfl, b, vs', _, .ref bb, rfl, rfl, sqt_same sH1 hb, atI_nat bb1, ba, bb, nts ra, nts rb, rfl, sqt_same sH1 ba2, sqt_same sH1 bb2, ?_⟩
        refine for_it walk_zipT (fun j σ H' => ∃ (ps' : List V) (kvs' : List (List Key × V)) (w4 : Option V), σ = [some (.ref a), some (.ref b), some (.ref L), some (.ref D), some (.ref M), some (.int ((z.1 / u.length : Nat) : Int)), some (.int ((z.1 % u.length : Nat) : Int)), some (.ref J), w4] ∧
            H' L = some (.lst ps') ∧ RowsA H' ps' (((rowF r x z.2 F j).map Prod.fst).map (dec u.length)) ∧ H' D = some (.dT kvs') ∧ NumP u.length kvs' ((rowF r x z.2 F j).map Prod.fst) ∧ kvs'.length ≤ (rowF r x z.2 F j).length ∧ H' M = some (.lst ls) ∧ RowsA H' ls ((leanT (prodT t u m) x).take i) ∧
            H' J = some (.lst (nts ((r.take j).map fun y => (ordF (prodT t u m) x).idxOf y))) ∧ Same H H')
          ⟨ps, kvs, v4, rfl, hL1, RA1, hD1, nP, kl, hM1, RL1, hJ1, sH1⟩ (fun j σ H' _ ⟨_, _, _, _, _, _, _, _, _, _, _, _, sx⟩ => ⟨sqt_same sx ba2, sqt_same sx bb2⟩) ?_ ?_
        · rintro j v σ H9 H10 hj ⟨ps', kvs', w4, rfl, hL, RA, hD, nP, kl, hM, RL, hJ, sH⟩ ⟨T9, y1, y2, rfl, nT, rfl, ey1, ey2⟩
          obtain ⟨j1, rfl⟩ := nts_get ey1
          obtain ⟨j2, rfl⟩ := nts_get ey2
          have jm : j < m := by omega
          have hL := keep_new (u := .tup [.int ((ra.getD j 0 : Nat) : Int), .int ((rb.getD j 0 : Nat) : Int)]) hL nT
          have hD := keep_new (u := .tup [.int ((ra.getD j 0 : Nat) : Int), .int ((rb.getD j 0 : Nat) : Int)]) hD nT
          have hM := keep_new (u := .tup [.int ((ra.getD j 0 : Nat) : Int), .int ((rb.getD j 0 : Nat) : Int)]) hM nT
          have hJ := keep_new (u := .tup [.int ((ra.getD j 0 : Nat) : Int), .int ((rb.getD j 0 : Nat) : Int)]) hJ nT
          have RA := RA.to (H' := upd H9 T9 (.tup [.int ((ra.getD j 0 : Nat) : Int), .int ((rb.getD j 0 : Nat) : Int)])) fun b' ys h => keep_new h nT
          have RL := RL.to (H' := upd H9 T9 (.tup [.int ((ra.getD j 0 : Nat) : Int), .int ((rb.getD j 0 : Nat) : Int)])) fun b' ys h => keep_new h nT
          have sH : Same H (upd H9 T9 (.tup [.int ((ra.getD j 0 : Nat) : Int), .int ((rb.getD j 0 : Nat) : Int)])) := Same.new sH nT
          have hT9 := upd_same (H := H9) (a := T9) (o := .tup [.int ((ra.getD j 0 : Nat) : Int), .int ((rb.getD j 0 : Nat) : Int)])
          generalize upd H9 T9 (.tup [.int ((ra.getD j 0 : Nat) : Int), .int ((rb.getD j 0 : Nat) : Int)]) = H11 at hL hD hM hJ RA RL sH hT9 ⊢
          have ed : dec u.length (r.getD j 0) = [ra.getD j 0, rb.getD j 0] := by
            rw [er j jm]
            exact dec_enc (r4j j jm)
          have hK : H11 T9 = some (.tup ((key (dec u.length (r.getD j 0))).map kV)) := by
            rw [ed]
            exact hT9
          have hN : H11 T9 = some (.tup (nts (dec u.length (r.getD j 0)))) := by
            rw [ed]
            exact hT9
          clear hT9
          have er' : rowF r x z.2 F (j + 1) = addF (r.getD j 0) z.2 (x.cps.toList.getD j 0) (rowF r x z.2 F j) := rfl
          have fpre : rowF r x z.2 F (j + 1) <+: frs (prodT t u m) x := (rowF_pre2 (by omega)).trans fin
          have fl2 : (rowF r x z.2 F j).length ≤ 1000 := by
            have := nodup_lt_len (rowF_nodup (r := r) (x := x) (w := z.2) hw.ff.nd j) (rowF_lt rz hw.ff.lt j (by omega))
            rw [List.length_map] at this
            omega
          have ej : r[j]? = some (r.getD j 0) := by
            rw [List.getD_eq_getElem?_getD, List.getElem?_eq_getElem (by omega)]
            rfl
          rw [er'] at fpre ⊢
          generalize rowF r x z.2 F j = G at RA nP kl fl2 fpre ⊢
          rw [take_snoc ej, List.map_append]
          have lr : ((r.take j).map fun y => (ordF (prodT t u m) x).idxOf y).length = j := by
            rw [List.length_map, List.length_take]
            omega
          generalize (r.take j).map (fun y => (ordF (prodT t u m) x).idxOf y) = rr at hJ lr ⊢
          have lps' : ps'.length = G.length := by rw [RA.1, List.length_map, List.length_map]
          refine ⟨_, rfl, _, rfl, D, _, rfl, DGet.t (k := key (dec u.length (r.getD j 0))) hD hK, _, rfl, ?_⟩
          have nv := nP (r.getD j 0)
          generalize r.getD j 0 = y at hK hN fpre nv ej ed ⊢
          by_cases mem : y ∈ G.map Prod.fst
          · rw [if_pos mem] at nv
            rw [nv]
            refine iteF ?_
            rw [addF_old mem] at fpre ⊢
            have ix := idx_pre (fpre.map Prod.fst) mem
            have GD := DGet.t (k := key (dec u.length y)) hD hK
            rw [nv] at GD
            refine ⟨_, rfl, .inl ⟨rfl, _, SqL.of hJ⟩, _, rfl, _, rfl, D, _, rfl, GD, J, _, _, rfl, rfl, hJ, (by rw [nts_length]; omega), ?_⟩
            rw [← ix]
            refine ⟨ps', kvs', _, rfl, ?_, RA.to (fun b' ys h => ?_), ?_, nP, kl, ?_, RL.to (fun b' ys h => ?_), ?_, fun b' o h => ?_⟩
            · rw [upd_ne jL]
              exact hL
            · rw [upd_ne (ne_of h hJ (fun z => by cases z))]
              exact h
            · rw [upd_ne jD]
              exact hD
            · rw [upd_ne jM]
              exact hM
            · rw [upd_ne (ne_of h hJ (fun z => by cases z))]
              exact h
            · rw [upd_same, nts_append]
              rfl
            · rw [upd_ne (ne_of_none h fJ)]
              exact sH _ _ h
          · rw [if_neg mem] at nv
            rw [nv]
            refine iteT ?_
            rw [addF_new mem] at fpre ⊢
            refine ⟨_, rfl, L, _, rfl, .inl (SqL.of hL), _, rfl, _, rfl, D, _, rfl, DPut.t hD hK (by omega), ?_⟩
            rw [lps']
            have nP2 := nP.put mem
            rw [List.length_map] at nP2
            have kl2 : (putK kvs' (key (dec u.length y)) (.int ((G.length : Nat) : Int))).length ≤ (G ++ [(y, z.2 ++ (⟨#[x.cps.toList.getD j 0]⟩ : Str))]).length := by
              rw [putK_new _ nv, List.length_append, List.length_append]
              show kvs'.length + 1 ≤ G.length + 1
              omega
            have DJ : D ≠ T9 := ne_of hD hK (fun z => by cases z)
            generalize putK kvs' (key (dec u.length y)) (.int ((G.length : Nat) : Int)) = kv2 at nP2 kl2 ⊢
            have hL2 : (upd H11 D (.dT kv2)) L = some (.lst ps') := by rw [upd_ne dL]; exact hL
            refine ⟨_, rfl, .inl ⟨rfl, _, SqL.of hL2⟩, _, rfl, L, _, _, rfl, rfl, hL2, (by omega), ?_⟩
            have mD : D ≠ M := ne_of hD hM (fun z => by cases z)
            have TL : T9 ≠ L := ne_of hK hL (fun z => by cases z)
            have g1 : (upd (upd H11 D (.dT kv2)) L (.lst (ps' ++ [.ref T9]))) L = some (.lst (ps' ++ [.ref T9])) := upd_same
            have g2 : (upd (upd H11 D (.dT kv2)) L (.lst (ps' ++ [.ref T9]))) D = some (.dT kv2) := by rw [upd_ne (Ne.symm dL)]; exact upd_same
            have g3 : (upd (upd H11 D (.dT kv2)) L (.lst (ps' ++ [.ref T9]))) M = some (.lst ls) := by rw [upd_ne (Ne.symm dM), upd_ne (Ne.symm mD)]; exact hM
            have g4 : (upd (upd H11 D (.dT kv2)) L (.lst (ps' ++ [.ref T9]))) J = some (.lst (nts rr)) := by rw [upd_ne (Ne.symm jL), upd_ne (Ne.symm jD)]; exact hJ
            have g5 : ∀ {b' : Addr} {ys : List V}, H11 b' = some (.tup ys) → (upd (upd H11 D (.dT kv2)) L (.lst (ps' ++ [.ref T9]))) b' = some (.tup ys) := fun {b' ys} h => by
              rw [upd_ne (ne_of h hL (fun z => by cases z)), upd_ne (ne_of h hD (fun z => by cases z))]
              exact h
            have g6 : Same H (upd (upd H11 D (.dT kv2)) L (.lst (ps' ++ [.ref T9]))) := fun b' o h => by
              rw [upd_ne (ne_of_none h fL), upd_ne (ne_of_none h fD)]
              exact sH _ _ h
            have g7 : RowsA (upd (upd H11 D (.dT kv2)) L (.lst (ps' ++ [.ref T9]))) (ps' ++ [.ref T9]) (((G ++ [(y, z.2 ++ (⟨#[x.cps.toList.getD j 0]⟩ : Str))]).map Prod.fst).map (dec u.length)) := by
              rw [List.map_append, List.map_append]
              exact (RA.to fun b' ys h => g5 h).snoc (g5 hN)
            have g8 := RL.to (H' := upd (upd H11 D (.dT kv2)) L (.lst (ps' ++ [.ref T9]))) fun b' ys h => g5 h
            have g9 := g5 hK
            generalize upd (upd H11 D (.dT kv2)) L (.lst (ps' ++ [.ref T9])) = H12 at g1 g2 g3 g4 g6 g7 g8 g9 ⊢
            have mem2 : y ∈ (G ++ [(y, z.2 ++ (⟨#[x.cps.toList.getD j 0]⟩ : Str))]).map Prod.fst := by
              rw [List.map_append]
              exact List.mem_append.mpr (.inr List.mem_cons_self)
            have ix := idx_pre (fpre.map Prod.fst) mem2
            have nP3 : NumP u.length kv2 ((G ++ [(y, z.2 ++ (⟨#[x.cps.toList.getD j 0]⟩ : Str))]).map Prod.fst) := by
              rw [List.map_append]
              exact nP2
            have nv2 := nP3 y
            rw [if_pos mem2, ← ix] at nv2
            have GD := DGet.t (k := key (dec u.length y)) g2 g9
            rw [nv2] at GD
            generalize G ++ [(y, z.2 ++ (⟨#[x.cps.toList.getD j 0]⟩ : Str))] = G2 at *
            refine ⟨_, rfl, .inl ⟨rfl, _, SqL.of g4⟩, _, rfl, _, rfl, D, _, rfl, GD, J, _, _, rfl, rfl, g4, (by rw [nts_length]; omega), ?_⟩
            refine ⟨_, kv2, _, rfl, ?_, g7.to (fun b' ys h => ?_), ?_, nP3, kl2, ?_, g8.to (fun b' ys h => ?_), ?_, fun b' o h => ?_⟩
            · rw [upd_ne jL]
              exact g1
            · rw [upd_ne (ne_of h g4 (fun z => by cases z))]
              exact h
            · rw [upd_ne jD]
              exact g2
            · rw [upd_ne jM]
              exact g3
            · rw [upd_ne (ne_of h g4 (fun z => by cases z))]
              exact h
            · rw [upd_same, nts_append]
              rfl
            · rw [upd_ne (ne_of_none h fJ)]
              exact g6 _ _ h
        · rintro σ H9 ⟨ps', kvs', w4, rfl, hL, RA, hD, nP, kl, hM, RL, hJ, sH⟩
          have ej : min (nts ra).length (nts rb).length = m := by
            rw [nts_length, nts_length]
            omega
          rw [ej] at RA nP kl hJ
          rw [← hm] at RA nP kl
          rw [show r.take m = r from by rw [← rl]; exact List.take_length] at hJ
          refine ⟨_, rfl, .inl ⟨rfl, _, SqL.of hM⟩, _, rfl, J, _, rfl, .inl ⟨SqL.of hJ, fun R nR => ?_⟩⟩
          have hM1 := keep_new (u := .tup (nts (r.map fun y => (ordF (prodT t u m) x).idxOf y))) hM nR
          have fR : H R = none := free_of sH nR
          refine ⟨M, _, _, rfl, rfl, hM1, (by omega), ?_⟩
          have rlen := rowF_len (r := r) (x := x) (w := z.2) (F := F) x.cps.size
          have sz2 : i < (leanT (prodT t u m) x).length := (List.getElem?_eq_some_iff.mp lrow).1
          have RM : R ≠ M := fun e => by rw [e, hM] at nR; cases nR
          refine ⟨⟨ps', ls ++ [.ref R], _, kvs', i + 1, _, _, _, _, rfl, ?_, RA.to (fun b' ys h => ?_), ?_, nP, kl, upd_same, ?_, ?_, hnext, by omega, fun b' o h => ?_⟩, ?_⟩
          · rw [upd_ne dM]
            exact keep_new hL nR
          · rw [upd_ne (ne_of (keep_new h nR) hM1 (fun z => by cases z))]
            exact keep_new h nR
          · rw [upd_ne (ne_of hD hM (fun z => by cases z))]
            exact keep_new hD nR
          · rw [take_snoc lrow]
            refine (RL.to fun b' ys h => ?_).snoc ?_
            · rw [upd_ne (ne_of (keep_new h nR) hM1 (fun z => by cases z))]
              exact keep_new h nR
            · rw [upd_ne RM]
              exact upd_same
          · rw [List.length_append, li]
            rfl
          · rw [upd_ne (ne_of_none h fM)]
            exact keep_new (sH _ _ h) nR
          · show (match (upd (upd H9 R (.tup (nts (r.map fun y => (ordF (prodT t u m) x).idxOf y)))) M (.lst (ls ++ [.ref R]))) M with
              | some (.lst ls) => t.length * u.length - ls.length
              | _ => 0) < (match H7 M with
              | some (.lst ls) => t.length * u.length - ls.length
              | _ => 0)
            rw [upd_same, hM7]
            show t.length * u.length - (ls ++ [V.ref R]).length < t.length * u.length - ls.length
            rw [List.length_append, li]
            show t.length * u.length - (i + 1) < t.length * u.length - i
            omega
      · have hge : F.length ≤ i := by
          by_cases q : F.length ≤ i
          · exact q
          · exact absurd (decide_eq_true (show ((i : Nat) : Int) < ((F.length : Nat) : Int) by omega)) hle
        have := hw.stop hge
        subst this
        refine ⟨_, rfl, _, rfl, M, _, rfl, .inl ⟨SqL.of hM, fun R nR => ⟨(by show 2 ≤ sizeLine; omega), fun B nB => ?_⟩⟩⟩
        have ee : (leanT (prodT t u m) x).take i = leanT (prodT t u m) x := by
          have : (leanT (prodT t u m) x).length = (frs (prodT t u m) x).length := by
            rw [lean_len]
            exact List.length_map _
          exact List.take_of_length_le (by omega)
        rw [ee] at RL
        have sB := Same.new (u := .tup [.ref L, .ref R]) (Same.new (u := .tup ls) (Same.refl H7) nR) nB
        exact k B L R ps ls _ upd_same (sB _ _ hL) fL (RA.to fun b' ys h => sB _ _ h) (keep_new upd_same nB) (RL.to fun b' ys h => sB _ _ h) (sH.trans sB)
    · rintro σ H1 Q1 Q2 hq h
      obtain ⟨v1, hv1, p, ys, hp, hs, v2, hv2, p2, ys2, hp2, hs2, i1, i2, c1, c2, b, hb, hh⟩ := h
      exact ⟨v1, hv1, p, ys, hp, hs, v2, hv2, p2, ys2, hp2, hs2, i1, i2, c1, c2, b, hb, hq _ _ hh⟩
end
end M3

set_option Elab.async false
set_option linter.all false
set_option maxRecDepth 100000
set_option maxHeartbeats 8000000
/-! # o & p, both of one own class with its own method for that -/
namespace NvO
open PySem PySem.Spec PyProof.Rows L2
variable {X : Cx} {k : Nat} {f C : Addr} {fd : FuncData} {sp : Sp} {pa pb : Str}
theorem op_ownO {op : Operator} (F : FnOk X.prog X.w X.K X.mg X.base CX0 k f fd [pa, pb] sp) (hr : Room k X.A) (hb : Binds X.K fd [pa, pb] []) (hx : Passes CX0 X E0) (hc : PySem.W.selfFirst X.K C = true) (hs : PySem.W.findIn X.K (.ref C) (PySem.dunder op.info.2) = some (some (.ref f))) (hf : PySem.W.isFn X.K (.ref f) = true) :
    OpR X (binaryOp op) (fun x y H Q => ∃ (a b dx dy : Addr) (fs gs : List (Str × V)), x = .ref a ∧ H a = some (.ins C dx fs) ∧ y = .ref b ∧ H b = some (.ins C dy gs) ∧ sp [.ref a, .ref b] H (fun v H' => ∃ c, v = .ref c ∧ Q (.ref c) H') E0) := by
  intro pins s σ H x y v u Q I rx ry h
  obtain ⟨a, b, dx, dy, fs, gs, rfl, ha, rfl, hb', h⟩ := h
  cases rx
  cases ry
  obtain ⟨m, Fm⟩ := fr_of I
  obtain ⟨ox, od, J⟩ := inst_of I ha
  obtain ⟨oy, od2, J2⟩ := inst_of I hb'
  refine PySem.W.binop_K Fm I.ok.mod.kin J J2.type hc hs hf (wpAny_mono (run_fn F hr hb .nil hx I (.cons (show RelV (.ref a) (.ref a) from rfl) (.cons (show RelV (.ref b) (.ref b) from rfl) .nil)) h) (fun r s' hq => ?_) fun _ _ z => z)
  obtain ⟨z, H', I', rz, c, rfl, q⟩ := hq
  cases rz
  exact ⟨.ref c, H', I', rfl, q⟩
end NvO

set_option Elab.async false
set_option linter.all false
set_option maxRecDepth 100000
set_option maxHeartbeats 8000000
/-! # zip of a text and a tuple -/
namespace NvLT
open PySem PySem.Spec PyProof.Rows L2
def ItzST (K : PySem.W.Frag) (x : Str) (b : Addr) : It := ⟨fun i H => ∃ ys : List V, SqT K H b ys ∧ i < min x.cps.size ys.length,
  fun i H v H' => ∃ (T : Addr) (a : Nat) (y : V), v = .ref T ∧ H T = none ∧ H' = upd H T (.tup [.str ⟨#[a]⟩, y]) ∧ x.cps[i]? = some a ∧ ∀ ys : List V, SqT K H b ys → ys[i]? = some y,
  fun i H => ∃ ys : List V, SqT K H b ys ∧ i = min x.cps.size ys.length⟩
theorem turn_zipST {P : Program} {w : World} {K : PySem.W.Frag} {elts : List Expr} {kk : Nat} {tpos : Pos} {x : Str} {t1 : Tok} {b z TI TO i1 i2 : Addr} (S : ZipSep2 z TI TO i1 i2 [i1] [i2, b]) (hne : b ≠ i2) :
    Turn P w K (.Tuple elts kk tpos) (ItzST K x b) (z :: TI :: TO :: ([i1] ++ [i2])) z (fun i h => IsZip h z TI TO .none ∧ IsTupOf2 h TI (.ref i1) (.ref i2) ∧ (∃ a1 a2, IsTupOf2 h TO a1 a2) ∧ h.IsStrIter i1 (strIterType x) x t1 i ∧ h.IsTupleIter i2 b i) where
  mem := by simp
  obj := fun i h st c hc => by
    obtain ⟨hz, hTI, ⟨a1, a2, hTO⟩, ⟨o1, e1, _, d1⟩, ⟨o2, e2, _, d2⟩⟩ := st
    have e' : c = z ∨ c = TI ∨ c = TO ∨ c = i1 ∨ c = i2 := by simpa using hc
    rcases e' with q | q | q | q | q
    · rw [q]; exact ⟨_, hz, fun v q => nomatch q⟩
    · rw [q]; exact ⟨_, hTI, fun v q => nomatch q⟩
    · rw [q]; exact ⟨_, hTO, fun v q => nomatch q⟩
    · rw [q]; exact ⟨o1, e1, fun v q => by rw [d1] at q; cases q⟩
    · rw [q]; exact ⟨o2, e2, fun v q => by rw [d2] at q; cases q⟩
  keep := fun i h h' st k => by
    obtain ⟨hz, hTI, ⟨a1, a2, hTO⟩, ⟨o1, e1, r1⟩, h2⟩ := st
    exact ⟨k z (by simp) _ hz, k TI (by simp) _ hTI, ⟨a1, a2, k TO (by simp) _ hTO⟩, ⟨o1, k i1 (by simp) _ e1, r1⟩, h2.at fun o q => k i2 (by simp) o q⟩
  item := by
    intro X hP hw hK hc i pins s σ H E I hf st hg
    subst hP hw hK
    have hh : X.A.in1.handled = none := I.ok.hd hc
    obtain ⟨ys, hq, hlt⟩ := hg
    obtain ⟨its, rv, p, _⟩ := I.tuple hq
    have ly := rv.length
    have iy : i < ys.length := by omega
    obtain ⟨u, hu, ru⟩ := rv.get (List.getElem?_eq_getElem iy)
    have G := GoesN.zip2 (elts := elts) (x1 := kk) (pos := tpos) S (Draws.text (prog := X.prog) (w := X.w) (A := X.A.in1) hh i1 x t1) (Draws.tuple (prog := X.prog) (w := X.w) (A := X.A.in1) hh i2 b hne its.toArray)
    obtain ⟨hz, hTI, hTO, h1, h2⟩ := st
    have live : ∀ b ∈ (z :: TI :: TO :: ([i1] ++ [i2])), b < s.heap.objs.size := fun b hb => by
      obtain ⟨a1, a2, hTO⟩ := hTO
      obtain ⟨o1, e1, _⟩ := h1
      obtain ⟨o2, e2, _⟩ := h2
      have e' : b = z ∨ b = TI ∨ b = TO ∨ b = i1 ∨ b = i2 := by simpa using hb
      rcases e' with q | q | q | q | q
      · rw [q]; exact Heap.lt_size hz
      · rw [q]; exact Heap.lt_size hTI
      · rw [q]; exact Heap.lt_size hTO
      · rw [q]; exact Heap.lt_size e1
      · rw [q]; exact Heap.lt_size e2
    refine G.goes i s (fun u s2 => ∃ v H', Inv X pins σ H' s2 ∧ RelV v u ∧ (ItzST X.K x b).yld i H v H' ∧ _ ∧ ∀ b ∈ _, H' b = none) E (by simpa [← ly] using hlt) ⟨hz, hTI, hTO, h1, ⟨h2, (show s.heap.IsTuple b its.toArray from p)⟩⟩ fun v h' tk hY st' hk htk => ?_
    obtain ⟨T, vx, vy, rfl, hT, ⟨c1, u1, hx, rfl⟩, hy, hIs⟩ := hY
    have hy : its.toArray[i]? = some vy := hy
    have evy : vy = u := by
      have e : its.toArray[i]? = some u := by simpa using hu
      rw [e] at hy
      exact (Option.some.inj hy).symm
    subst evy
    have new : ObjOk X.prog X.w (upd H T (.tup [.str ⟨#[c1]⟩, ys[i]])) h' T (.tup [.str ⟨#[c1]⟩, ys[i]]) :=
      ⟨by show 2 ≤ sizeLine; decide, [.str ⟨#[c1]⟩ u1, vy], .cons ⟨u1, rfl⟩ (.cons ru .nil), hIs⟩
    have I1 : Inv X pins σ (upd H T (.tup [.str ⟨#[c1]⟩, ys[i]])) { s with heap := h', toks := tk } :=
      I.turnedNew (t' := tk) (ch := [z, TO, i1, i2]) hk (fun b hb => hf b (by
        have e' : b = z ∨ b = TO ∨ b = i1 ∨ b = i2 := by simpa using hb
        rcases e' with q | q | q | q <;> rw [q] <;> simp)) hT new
    refine ⟨.ref T, _, I1, rfl, ⟨T, c1, ys[i], rfl, I.hok.fresh hT, rfl, hx, fun l hl => by rw [I.tuple_inj hl hq]; exact List.getElem?_eq_getElem iy⟩, ⟨st'.1, st'.2.1, st'.2.2.1, st'.2.2.2.1, st'.2.2.2.2.1⟩, fun b hb => ?_⟩
    rw [upd_ne (Nat.ne_of_lt (Nat.lt_of_lt_of_le (live b hb) hT))]
    exact (hf b hb).1
  done := by
    intro X hP hw hK hc i pins s σ H E I hf st hg
    subst hP hw hK
    have hh : X.A.in1.handled = none := I.ok.hd hc
    obtain ⟨ys, hq, hlt⟩ := hg
    obtain ⟨its, rv, p, _⟩ := I.tuple hq
    have ly := rv.length
    have G := GoesN.zip2 (elts := elts) (x1 := kk) (pos := tpos) S (Draws.text (prog := X.prog) (w := X.w) (A := X.A.in1) hh i1 x t1) (Draws.tuple (prog := X.prog) (w := X.w) (A := X.A.in1) hh i2 b hne its.toArray)
    obtain ⟨hz, hTI, hTO, h1, h2⟩ := st
    have ei : i = min x.cps.size its.toArray.size := by simpa [← ly] using hlt
    subst ei
    refine G.stops s (fun s1 => Inv X pins σ H s1) E ⟨hz, hTI, hTO, h1, ⟨h2, (show s.heap.IsTuple b its.toArray from p)⟩⟩ fun h' tk hk htk => ?_
    exact I.turnedL (t' := tk) (ch := [z, TO, i1, i2]) hk fun b hb => hf b (by
      have e' : b = z ∨ b = TO ∨ b = i1 ∨ b = i2 := by simpa using hb
      rcases e' with q | q | q | q <;> rw [q] <;> simp)
  self := fun A i s Q E st h => wpAny_pyIter_zip st.1 h
def iZipST (K : PySem.W.Frag) (ta : TA) : TI := fun σ H R => ta σ H fun vs H1 => ∃ (x : Str) (b : Addr) (ys : List V), vs = [.str x, .ref b] ∧ SqT K H1 b ys ∧ R (ItzST K x b) H1
theorem pi_zipST {X : Cx} {e e2 : Expr} {ta : TA} {p pos tpos : Pos} {elts : List Expr} {kk : Nat} (hg : Gl X "zip") (hm : X.mg "zip" = none) (ha : PA X [e, e2] ta)
    (hs : starEach [e, e2] X.env = (false, eval e X.env) :: starEach [e2] X.env := by rfl) (hpl : (backTo pos (starEach [e2] X.env)).any (·.1) = false := by rfl) :
    PI X (.Tuple elts kk tpos) (.Call (.Name "zip" p) [e, e2] [] pos) (iZipST X.K ta) := by
  refine ⟨fun pins s σ H R I h => ?_⟩
  refine Call_ (ld_blt I hg hm PyProof.Rows.boot_zip (PyProof.Rows.callWith_type1 (thn (ha.run pos pins s σ H _ I h) fun us s1 ⟨vs, H1, I1, r1, q1⟩ => ?_) hs hpl))
  obtain ⟨x, b, ys, ex, hq, q⟩ := q1
  subst ex
  obtain ⟨u1, u2, rfl, ⟨t1, rfl⟩, r2⟩ := vals2 r1
  cases r2
  obtain ⟨its, rv, p1, _⟩ := I1.tuple hq
  have lb : b < s1.heap.objs.size := by
    obtain ⟨o1, ho1, _⟩ := id p1
    exact Heap.lt_size ho1
  refine zip_begins2 (begins_text x t1) (begins_tuple b its.toArray) trivial (show s1.heap.IsTuple b its.toArray from p1) fun h' hz hTI hTO h1 h2 hsz hk => wpAny_pyIter_zip hz ?_
  have I2 : Inv X pins σ H1 { s1 with heap := h' } := I1.kept (t' := s1.toks) hk
  refine ⟨s1.heap.objs.size + 4, _, _, _, H1, rfl, I2, turn_zipST (t1 := t1) (zip_sep2 (N := s1.heap.objs.size) (fp1 := []) (fp2 := [b]) (fun b hb => by cases hb) (fun c hc => by rw [List.mem_singleton.mp hc]; exact lb)) (Nat.ne_of_lt (Nat.lt_succ_of_lt lb)), ⟨hz, hTI, ⟨_, _, hTO⟩, ⟨_, h1, rfl, rfl⟩, ⟨_, h2, rfl, rfl⟩⟩, fun c hcm => ?_, q⟩
  have e' : c = s1.heap.objs.size + 4 ∨ c = s1.heap.objs.size + 2 ∨ c = s1.heap.objs.size + 3 ∨ c = s1.heap.objs.size ∨ c = s1.heap.objs.size + 1 := by simpa using hcm
  have hle : s1.heap.objs.size ≤ c := by
    rcases e' with z | z | z | z | z
    · rw [z]; exact Nat.le_add_right _ _
    · rw [z]; exact Nat.le_add_right _ _
    · rw [z]; exact Nat.le_add_right _ _
    · rw [z]; exact Nat.le_refl _
    · rw [z]; exact Nat.le_add_right _ _
  exact I1.fpOk hle (I1.hok.fresh hle)
theorem walk_zipST {K : PySem.W.Frag} {x : Str} {b : Addr} {ys : List V} : Walk (ItzST K x b) (min x.cps.size ys.length) (fun H => SqT K H b ys) (fun i H v H' => ∃ (T : Addr) (a : Nat) (y : V), v = .ref T ∧ H T = none ∧ H' = upd H T (.tup [.str ⟨#[a]⟩, y]) ∧ x.cps[i]? = some a ∧ ys[i]? = some y) :=
  ⟨fun _ _ hi g => ⟨ys, g, hi⟩, fun _ g => ⟨ys, g, rfl⟩, fun _ _ _ _ _ g h => by
    obtain ⟨T, a, y, h1, h2, h3, h4, h5⟩ := h
    exact ⟨T, a, y, h1, h2, h3, h4, h5 ys g⟩⟩
end NvLT

set_option Elab.async false
set_option linter.all false
set_option maxRecDepth 100000
set_option maxHeartbeats 8000000
/-! # _law_firsts -/
namespace M3
open PySem L2
abbrev sFirstsL : Stmt := top 55
abbrev nFirstsL : List Str := ["table", "letters", "found", "at", "place", "letter", "later"]
theorem scFirstsL : FnScope nFirstsL ["table", "letters"] (defScope sFirstsL) := ⟨rfl, rfl, rfl, by decide +kernel, rfl, by decide +kernel, by decide +kernel⟩
def kN (q : Nat) : Key := .inl ((q : Nat) : Int)
def entF (F : List (Nat × Str)) : List (Key × V) := F.map fun z => (kN z.1, V.str z.2)
theorem kN_inj {p q : Nat} (h : kN p = kN q) : p = q := by
  injection h with h
  omega
theorem entF_none {q : Nat} : ∀ {F : List (Nat × Str)}, q ∉ F.map Prod.fst → valV (entF F) (kN q) = none
  | [], _ => valV_nil
  | z :: F, h => by
    have h1 : ¬ kN z.1 = kN q := fun e => h (by rw [← kN_inj e]; exact List.mem_cons_self)
    show valV ((kN z.1, V.str z.2) :: entF F) (kN q) = none
    rw [valV_neg h1]
    exact entF_none fun h2 => h (List.mem_cons_of_mem _ h2)
theorem entF_at {F : List (Nat × Str)} (nd : (F.map Prod.fst).Nodup) : ∀ {i : Nat} {z : Nat × Str}, F[i]? = some z → valV (entF F) (kN z.1) = some (.str z.2) := by
  induction F with
  | nil =>
    intro i z h
    cases h
  | cons y F ih =>
    intro i z h
    have nd' : y.1 ∉ F.map Prod.fst ∧ (F.map Prod.fst).Nodup := List.nodup_cons.mp nd
    cases i with
    | zero =>
      cases h
      exact valV_pos rfl
    | succ i =>
      have h : F[i]? = some z := h
      have ne : ¬ kN y.1 = kN z.1 := fun e => nd'.1 (by
        rw [kN_inj e]
        exact List.mem_map.mpr ⟨z, List.mem_of_getElem? h, rfl⟩)
      show valV ((kN y.1, V.str y.2) :: entF F) (kN z.1) = _
      rw [valV_neg ne]
      exact ih nd'.2 h
theorem entF_put {q : Nat} {w : Str} {F : List (Nat × Str)} (h : q ∉ F.map Prod.fst) : putK (entF F) (kN q) (.str w) = entF (F ++ [(q, w)]) := by
  rw [putK_new _ (entF_none h)]
  unfold entF
  rw [List.map_append]
  rfl
theorem entF_keys {F : List (Nat × Str)} : (entF F).map (fun kv => kV kv.1) = nts (F.map Prod.fst) := by
  unfold entF nts
  rw [List.map_map, List.map_map]
  rfl
/-- the first words are short, and words of the letters -/
def ShortF (x : Str) (F : List (Nat × Str)) : Prop := ∀ (i : Nat) (z : Nat × Str), F[i]? = some z → z.2.length ≤ i ∧ IsW x z.2
theorem ShortF.add {x : Str} {F : List (Nat × Str)} {q c : Nat} {w : Str} (h : ShortF x F) (hw : w.length < F.length) (hx : IsW x w) (hc : c ∈ x.cps.toList) : ShortF x (addF q w c F) := by
  unfold addF
  split
  · exact h
  · intro i z e
    rcases snoc_at e with e | ⟨rfl, rfl⟩
    · exact h i z e
    · refine ⟨?_, fun d hd => ?_⟩
      · show (w.cps ++ #[c]).size ≤ F.length
        have : w.cps.size < F.length := hw
        simp
        omega
      · have hd : d ∈ (w ++ (⟨#[c]⟩ : Str)).cps.toList := hd
        rw [snoc_cps] at hd
        rcases List.mem_append.mp hd with q | q
        · exact hx d q
        · rw [List.mem_singleton.mp q]
          exact hc
def spFirstsL (K : PySem.W.Frag) : Sp := fun vs H Q _ => ∃ (a : Addr) (us : List V) (t : List (List Nat)) (m : Nat) (x : Str), vs = [.ref a, .str x] ∧ SqL K H a us ∧ Tups K H us t ∧ IsTab t t.length m ∧ 1 ≤ t.length ∧ t.length ≤ 1000 ∧ x.cps.size = m ∧
  ∀ (D : Addr) (H' : Hp), H D = none → H' D = some (.dK (entF (frs t x))) → ShortF x (frs t x) → Same H H' → Q (.ref D) H'
section
variable {P : Program} {w : World} {K : PySem.W.Frag} {mg : Str → Option Value} {base : Heap}
theorem ok_firstsl {f : Addr} {fd : FuncData} (F : Fun K "_law_firsts" "_law_firsts" sFirstsL f fd) (M : TxM mg) (hZ : mg "zip" = none) : FnOk P w K mg base CX0 1 f fd ["table", "letters"] (spFirstsL K) := by
  refine F.ok scFirstsL (fun vs H Q E h => ?_) (fun cdv A outer s H vs Q E hr h => ?_)
  · obtain ⟨a, us, t, m, x, rfl, _⟩ := h
    rfl
  · obtain ⟨a, us, t, m, x, rfl, ha, hT, tb, t1, tk, hm, k⟩ := h
    have hu := hu_of hr
    refine ⟨_, pss_cons (ps_par (i := 2) (j := 3) (by rfl) scFirstsL.nd rfl rfl (by decide) rfl rfl (pa_cons (pe_disp (pps_cons pe_int pe_str pps_nil) (by rfl) (by rfl) (fun z => by cases z) (by decide)) (pa_cons pe_int pa_nil)) (by rfl))
      (pss_cons (ps_while PassesOwn.never (pt_cmpR op_lt (pv 3) (pe_callB call_lenD (by rfl) M.len PySem.boot_len (pa_cons (pv 2) pa_nil)) (nomark _))
        (pss_cons (ps_set (i := 4) scFirstsL.nd rfl (Or.inl rfl) (pe_ix ix_list (pe_callTy (call_list_dK rfl) (by rfl) M.list (by decide +kernel) (pa_cons (pv 2) pa_nil)) (pv 3) (fun _ _ => rfl)))
        (pss_cons (ps_for PassesOwn.never rfl (NvLT.pi_zipST rfl hZ (pa_cons (pv 1) (pa_cons (pe_ix ix_list (pv 0) (pv 4) (fun _ _ => rfl)) pa_nil))) (pg_tup rfl (pgs_cons (pg_name (i := 5) scFirstsL.nd rfl (Or.inl rfl)) (pgs_cons (pg_name (i := 6) scFirstsL.nd rfl (Or.inl rfl)) pgs_nil)))
          (pss_one (ps_if (pt_cmp (pc_dnotin hu (pv 6) (pv 2)))
            (pss_one (ps_dput hu (pv 2) (pv 6) (pe_op op_add_str (pe_dget hu (pv 2) (pv 4) (fun _ _ => rfl)) (pv 5)) rfl)) pss_nil)))
        (pss_one (ps_set (i := 3) scFirstsL.nd rfl (Or.inl rfl) (pe_op op_add (pv 3) pe_int))))))
      (pss_one (ps_ret (pv 2)))), ?_⟩
    have free : ∀ {H9 : Hp} {q : Addr}, Same H H9 → H9 q = none → H q = none := fun {H9 q} sx hq => free_of sx hq
    intro D nD
    refine ⟨upd_same, [(.inl 0, .str "")], rfl, (by show 1 ≤ 15; decide), ?_⟩
    rw [upd_upd]
    refine ⟨_, _, rfl, ?_⟩
    have nD0 : H D = none := nD
    have hD0 : (upd H D (.dK (entF [((0 : Nat), ("" : Str))]))) D = some (.dK (entF [((0 : Nat), ("" : Str))])) := upd_same
    have s0 : Same H (upd H D (.dK (entF [((0 : Nat), ("" : Str))]))) := Same.new (Same.refl H) nD
    refine while_by (fun σ H' => ∃ (F : List (Nat × Str)) (at' : Nat) (v1 v2 v3 : Option V), σ = [some (.ref a), some (.str x), some (.ref D), some (.int (at' : Nat)), v1, v2, v3] ∧
        H' D = some (.dK (entF F)) ∧ ShortF x F ∧ Way t x m at' F ∧ Same H H')
      (fun σ H' => match σ with | [_, _, _, some (.int i), _, _, _] => t.length - i.toNat | _ => 0)
      ⟨[((0 : Nat), ("" : Str))], 0, none, none, none, rfl, hD0, ?_, Way.start t1, s0⟩ ?_ ?_
    · intro i z e
      match i, e with
      | 0, e =>
        cases e
        refine ⟨(show ("" : Str).length ≤ 0 by decide +kernel), fun c hc => ?_⟩
        have e0 : ("" : Str).cps.toList = [] := by decide +kernel
        have hc : c ∈ ("" : Str).cps.toList := hc
        rw [e0] at hc
        cases hc
    · rintro σ H5 ⟨F, at', v1, v2, v3, rfl, hD, hS, hw, sH⟩
      have fl := hw.ff.len
      have le : (entF F).length = F.length := List.length_map _
      refine ⟨_, rfl, _, rfl, D, _, rfl, hD, _, _, rfl, rfl, _, rfl, ?_⟩
      rw [le]
      refine ite2 (fun h1 => ?_) (fun h1 => ?_)
      · have h1 : at' < F.length := by
          have := of_decide_eq_true h1
          omega
        have hz : F[at']? = some F[at'] := List.getElem?_eq_getElem h1
        generalize F[at'] = z at hz
        have q := hw.ff.lt _ (List.mem_map.mpr ⟨z, List.mem_of_getElem? hz, rfl⟩)
        have hnext := hw.next tb hm tk hz
        obtain ⟨b, b1, b2⟩ := hT.2 z.1 _ (row_at q)
        obtain ⟨rl, rz⟩ := row_tab tb q
        generalize t.getD z.1 [] = r at b2 rl rz hnext
        refine ⟨_, rfl, D, _, rfl, hD, fun g ng => ?_⟩
        rw [entF_keys]
        have hg : (upd H5 g (.lst (nts (F.map Prod.fst)))) g = some (.lst (nts (F.map Prod.fst))) := upd_same
        have sg : Same H5 (upd H5 g (.lst (nts (F.map Prod.fst)))) := Same.new (Same.refl H5) ng
        generalize upd H5 g (.lst (nts (F.map Prod.fst))) = H6 at hg sg ⊢
        have hD6 := sg _ _ hD
        have s6 := sH.trans sg
        have ei : atI (nts (F.map Prod.fst)) (at' : Int) = some (.int ((z.1 : Nat) : Int)) := by
          have e := nts_at (r := F.map Prod.fst) (j := at') (by rw [List.length_map]; exact h1)
          rw [e, List.getD_eq_getElem?_getD, List.getElem?_map, hz]
          rfl
        refine ⟨_, rfl, g, _, _, _, rfl, rfl, SqL.of hg, ei, ?_⟩
        refine ⟨_, rfl, _, rfl, _, rfl, a, us, _, .ref b, rfl, rfl, s6.seq ha, atI_nat b1, x, b, nts r, rfl, sqt_same s6 b2, ?_⟩
        have hmin : min x.cps.size (nts r).length = x.cps.size := by
          rw [nts_length]
          omega
        refine for_it (NvLT.walk_zipST (K := K) (x := x) (b := b) (ys := nts r)) (fun j σ H' => ∃ (v2 v3 : Option V), σ = [some (.ref a), some (.str x), some (.ref D), some (.int (at' : Nat)), some (.int (z.1 : Nat)), v2, v3] ∧
            H' D = some (.dK (entF (rowF r x z.2 F j))) ∧ ShortF x (rowF r x z.2 F j) ∧ Same H H')
          ⟨v2, v3, rfl, hD6, hS, s6⟩ (fun i σ H' _ ⟨_, _, _, _, _, z⟩ => sqt_same z b2) ?_ ?_
        · rintro j v σ H7 H8 hj ⟨v2, v3, rfl, hD, hS2, sH⟩ ⟨T, c, y, rfl, nT, rfl, hc, hy⟩
          rw [hmin] at hj
          obtain ⟨jr, rfl⟩ := nts_get hy
          have hc' : x.cps.toList[j]? = some c := by simpa using hc
          have cx : c ∈ x.cps.toList := List.mem_of_getElem? hc'
          have ec : x.cps.toList.getD j 0 = c := getD_some' hc'
          have ndj := rowF_nodup (r := r) (x := x) (w := z.2) hw.ff.nd j
          have fl2 : (rowF r x z.2 F j).length ≤ t.length := by
            have := nodup_lt_len ndj (rowF_lt rz hw.ff.lt j (by omega))
            rwa [List.length_map] at this
          have gz : (rowF r x z.2 F j)[at']? = some z := pre_at (rowF_pre _) hz
          have er : rowF r x z.2 F (j + 1) = addF (r.getD j 0) z.2 c (rowF r x z.2 F j) := by
            show addF (r.getD j 0) z.2 (x.cps.toList.getD j 0) _ = _
            rw [ec]
          obtain ⟨zl, zx⟩ := hS2 at' z gz
          have al : at' < (rowF r x z.2 F j).length := (List.getElem?_eq_some_iff.mp gz).1
          have hS3 := hS2.add (q := r.getD j 0) (c := c) (w := z.2) (by omega) zx cx
          rw [er]
          generalize rowF r x z.2 F j = G at hD hS2 ndj fl2 gz hS3 al ⊢
          generalize r.getD j 0 = q2 at hS3 hy ⊢
          have dz := entF_at ndj gz
          refine ⟨T, _, rfl, SqT.of upd_same, rfl, _, _, rfl, _, _, rfl, rfl, ?_⟩
          have hD := keep_new (u := .tup [.str ⟨#[c]⟩, .int ((q2 : Nat) : Int)]) hD nT
          have sH : Same H (upd H7 T (.tup [.str ⟨#[c]⟩, .int ((q2 : Nat) : Int)])) := Same.new sH nT
          generalize upd H7 T (.tup [.str ⟨#[c]⟩, .int ((q2 : Nat) : Int)]) = H8 at hD sH ⊢
          refine ⟨_, rfl, _, rfl, D, _, rfl, DGet.k (k := kN q2) hD, _, rfl, ?_⟩
          by_cases mem : q2 ∈ G.map Prod.fst
          · obtain ⟨y, hy2, ey⟩ := List.mem_map.mp mem
            obtain ⟨k2, hk2, ek2⟩ := List.getElem_of_mem hy2
            have ev := entF_at ndj (show G[k2]? = some y by rw [List.getElem?_eq_getElem hk2, ek2])
            rw [ey] at ev
            rw [ev, addF_old mem]
            exact iteF ⟨_, _, rfl, hD, hS2, sH⟩
          · rw [entF_none mem]
            rw [addF_new mem] at hS3 ⊢
            refine iteT ?_
            have GD : DGet H8 D (.int ((z.1 : Nat) : Int)) (some (.str z.2)) := by
              have q := DGet.k (k := kN z.1) hD
              rw [dz] at q
              exact q
            have wl : z.2.length + (⟨#[c]⟩ : Str).length ≤ sizeLine := by
              have : (⟨#[c]⟩ : Str).length = 1 := rfl
              have : (100000 : Nat) < sizeLine := by decide
              omega
            have le : (entF G).length = G.length := List.length_map _
            refine ⟨_, rfl, _, rfl, D, _, rfl, GD, _, rfl, z.2, ⟨#[c]⟩, rfl, rfl, wl, _, rfl, _, rfl, D, _, rfl, DPut.k (k := kN q2) hD (Nat.lt_of_le_of_lt (show (entF G).length ≤ 1000 by omega) (by decide)), ?_⟩
            rw [entF_put mem]
            exact ⟨_, _, rfl, upd_same, hS3, fun b o h => by rw [upd_ne (ne_of_none h nD0)]; exact sH _ _ h⟩
        · rintro σ H7 ⟨v2, v3, rfl, hD, hS2, sH⟩
          rw [hmin] at hD hS2
          refine ⟨_, rfl, _, _, rfl, rfl, ⟨_, at' + 1, _, _, _, rfl, hD, hS2, hnext, sH⟩, ?_⟩
          show t.length - (at' + 1) < t.length - at'
          omega
      · have hge : F.length ≤ at' := by
          by_cases q : F.length ≤ at'
          · exact q
          · exact absurd (decide_eq_true (show ((at' : Nat) : Int) < ((F.length : Nat) : Int) by omega)) h1
        have := hw.stop hge
        subst this
        exact ⟨_, rfl, k D H5 nD0 hD hS sH⟩
    · rintro σ H1 Q1 Q2 hq h
      obtain ⟨v1, hv1, v2, hv2, p, ys, hp, hs, i1, i2, c1, c2, b, hb, hh⟩ := h
      exact ⟨v1, hv1, v2, hv2, p, ys, hp, hs, i1, i2, c1, c2, b, hb, hq _ _ hh⟩
end
end M3

set_option Elab.async false
set_option linter.all false
set_option maxRecDepth 100000
set_option maxHeartbeats 8000000
/-! # _law_lean -/
namespace M3
open PySem L2
abbrev nLeanL : List Str := ["table", "letters", "order", "place", "later"]
def spLeanL (K : PySem.W.Frag) : Sp := fun vs H Q _ => ∃ (a : Addr) (us : List V) (t : List (List Nat)) (m : Nat) (x : Str), vs = [.ref a, .str x] ∧ SqL K H a us ∧ Tups K H us t ∧ IsTab t t.length m ∧ 1 ≤ t.length ∧ t.length ≤ 1000 ∧ x.cps.size = m ∧ m ≤ 1000 ∧
  ∀ (p : Addr) (us' : List V) (H' : Hp), H' p = some (.tup us') → RowsA H' us' (leanT t x) → Same H H' → Q (.ref p) H'
def tLineX (K : PySem.W.Frag) : TE := tLc (iTup K (tOp (rIxL K) (tVar 0) (tVar 3))) (gName 4) tYes (tBM K "list" (rIndex K) (tVar 2) (tCons (tVar 4) tNil)) [4]
section
variable {P : Program} {w : World} {K : PySem.W.Frag} {mg : Str → Option Value} {base : Heap}
end
end M3

set_option Elab.async false
set_option linter.all false
set_option maxRecDepth 100000
set_option maxHeartbeats 8000000
/-! # Going round: the law's own look; few actions -/
namespace M3
open PySem L2
theorem few_nats : ∀ (n : Nat) (l : List Nat), l.Nodup → (∀ x ∈ l, x < n) → l.length ≤ n
  | 0, l, _, h => by
    match l, h with
    | [], _ => exact Nat.le_refl _
    | a :: _, h => exact absurd (h a List.mem_cons_self) (Nat.not_lt_zero _)
  | n + 1, l, nd, h => by
    by_cases c : n ∈ l
    · have e := List.length_erase_of_mem c
      have q := few_nats n (l.erase n) (nd.erase n) fun x hx => by
        have hx := (nd.mem_erase_iff).mp hx
        have := h x hx.2
        have := hx.1
        omega
      omega
    · have q := few_nats n l nd fun x hx => by
        have h1 := h x hx
        by_cases e : x = n
        · rw [e] at hx
          exact absurd hx c
        · omega
      omega
/-- a way to lead up to four places, as a number -/
def code4 : List Nat → Nat
  | [] => 0
  | a :: l => a + 4 * code4 l
theorem code4_lt : ∀ {l : List Nat}, (∀ z ∈ l, z < 4) → code4 l < 4 ^ l.length
  | [], _ => by decide
  | a :: l, h => by
    have ih := code4_lt (l := l) fun z hz => h z (List.mem_cons_of_mem _ hz)
    have ha := h a List.mem_cons_self
    show a + 4 * code4 l < 4 ^ (l.length + 1)
    rw [Nat.pow_succ]
    omega
theorem code4_inj : ∀ {l k : List Nat}, l.length = k.length → (∀ z ∈ l, z < 4) → (∀ z ∈ k, z < 4) → code4 l = code4 k → l = k
  | [], [], _, _, _, _ => rfl
  | [], _ :: _, h, _, _, _ => by cases h
  | _ :: _, [], h, _, _, _ => by cases h
  | a :: l, b :: k, hl, h1, h2, e => by
    have ha := h1 a List.mem_cons_self
    have hb := h2 b List.mem_cons_self
    have e : a + 4 * code4 l = b + 4 * code4 k := e
    have e1 : a = b := by omega
    have e2 : code4 l = code4 k := by omega
    rw [e1, code4_inj (by simpa using hl) (fun z hz => h1 z (List.mem_cons_of_mem _ hz)) (fun z hz => h2 z (List.mem_cons_of_mem _ hz)) e2]
theorem few_256 {F : List (List Nat)} {n : Nat} (n4 : n ≤ 4) (nd : F.Nodup) (h : ∀ r ∈ F, (∀ z ∈ r, z < n) ∧ r.length = n) : F.length ≤ 256 := by
  have q := few_nats 256 (F.map code4) (by
    unfold List.Nodup
    rw [List.pairwise_map]
    refine List.Pairwise.imp_of_mem (fun {r s} hr hs ne e => ne ?_) nd
    obtain ⟨r1, r2⟩ := h r hr
    obtain ⟨s1, s2⟩ := h s hs
    exact code4_inj (by rw [r2, s2]) (fun z hz => Nat.lt_of_lt_of_le (r1 z hz) n4) (fun z hz => Nat.lt_of_lt_of_le (s1 z hz) n4) e) (fun x hx => by
    obtain ⟨r, hr, rfl⟩ := List.mem_map.mp hx
    obtain ⟨r1, r2⟩ := h r hr
    have q := code4_lt (l := r) fun z hz => Nat.lt_of_lt_of_le (r1 z hz) n4
    rw [r2] at q
    exact Nat.lt_of_lt_of_le q (Nat.le_trans (Nat.pow_le_pow_right (by decide) n4) (by decide)))
  rw [List.length_map] at q
  exact q
theorem bfsL_nodup {t : List (List Nat)} {x : Str} {mo : Nat} : ∀ (n i : Nat) (F : List (List Nat × Str)), (F.map Prod.fst).Nodup → ((bfsL t x mo n i F).map Prod.fst).Nodup
  | 0, _, _, h => h
  | n + 1, i, F, h => by
    show ((match F[i]? with
      | none => F
      | some z => if F.length ≤ mo then bfsL t x mo n (i + 1) (rowA t x z.1 z.2 F x.cps.size) else F).map Prod.fst).Nodup
    split
    · exact h
    · split
      · exact bfsL_nodup n (i + 1) _ (rowA_nodup h _)
      · exact h
theorem bfs_nodup {t : List (List Nat)} {x : Str} {mo : Nat} : ((bfs t x mo).map Prod.fst).Nodup := bfsL_nodup _ _ _ (by simp)
theorem bfs_few {t : List (List Nat)} {x : Str} {m : Nat} (R : RightB x t m) : (bfs t x 256).length ≤ 256 := by
  have FA := bfs_found (mo := 256) R.tb R.st R.m2
  have q := few_256 (F := (bfs t x 256).map Prod.fst) R.t4 bfs_nodup fun r hr => by
    obtain ⟨z, hz, rfl⟩ := List.mem_map.mp hr
    obtain ⟨i, hi, ei⟩ := List.getElem_of_mem hz
    obtain ⟨h1, h2, _⟩ := FA i z (by rw [List.getElem?_eq_getElem hi, ei])
    exact ⟨h1, h2⟩
  rw [List.length_map] at q
  exact q
theorem its_add {g : List Nat} {q : Nat} : ∀ {i j : Nat}, its g q i = its g q j → ∀ k, its g q (i + k) = its g q (j + k)
  | _, _, h, 0 => h
  | i, j, h, k + 1 => by
    show g.getD (its g q (i + k)) 0 = g.getD (its g q (j + k)) 0
    rw [its_add h k]
/-- what comes back does so within as many steps as there are places -/
theorem its_first {g : List Nat} {q r : Nat} (w : ∀ z ∈ g, z < g.length) (hq : q < g.length) (h : its g q r = q) (r1 : 1 ≤ r) (no : ∀ j, 1 ≤ j → j < r → its g q j ≠ q) : r ≤ g.length := by
  by_cases c : r ≤ g.length
  · exact c
  · have nd : ((List.range r).map (its g q)).Nodup := by
      unfold List.Nodup
      rw [List.pairwise_map]
      refine List.Pairwise.imp_of_mem (fun {i j} hi hj ij e => ?_) List.pairwise_lt_range
      have hi := List.mem_range.mp hi
      have hj := List.mem_range.mp hj
      have k := its_add e (r - j)
      rw [show j + (r - j) = r by omega, h] at k
      exact no (i + (r - j)) (by omega) (by omega) k
    have q := few_nats g.length _ nd fun x hx => by
      obtain ⟨i, _, rfl⟩ := List.mem_map.mp hx
      exact its_lt w hq i
    rw [List.length_map, List.length_range] at q
    exact q
theorem turnedB_yes {g : List Nat} {q c : Nat} (w : ∀ z ∈ g, z < g.length) (hq : q < g.length) (h : its g q c = q) (c1 : 1 < c) (no : ∀ j, 1 ≤ j → j < c → its g q j ≠ q) : turnedB g q = true := by
  have l := its_first w hq h (by omega) no
  unfold turnedB comesB
  have n1 : g.getD q 0 ≠ q := no 1 (Nat.le_refl _) c1
  rw [decide_eq_true n1, Bool.true_and, List.any_eq_true]
  exact ⟨c - 1, List.mem_range.mpr (by omega), decide_eq_true (by rw [show c - 1 + 1 = c by omega]; exact h)⟩
theorem turnedB_one {g : List Nat} {q : Nat} (h : its g q 1 = q) : turnedB g q = false := by
  unfold turnedB
  have h : g.getD q 0 = q := h
  rw [decide_eq_false (fun z => z h)]
  rfl
theorem turnedB_no {g : List Nat} {q : Nat} (no : ∀ j, 1 ≤ j → j ≤ g.length → its g q j ≠ q) : turnedB g q = false := by
  unfold turnedB comesB
  have e : ((List.range g.length).any fun k => decide (its g q (k + 1) = q)) = false := by
    rw [List.any_eq_false]
    intro j hj
    rw [decide_eq_true_eq]
    exact no (j + 1) (by omega) (List.mem_range.mp hj)
  rw [e, Bool.and_false]
abbrev sGoes : Stmt := top 57
abbrev nGoes : List Str := ["action", "place", "now", "count"]
abbrev nActOf : List Str := ["table", "letters", "word", "start"]
theorem scGoes : FnScope nGoes ["action", "place"] (defScope sGoes) := ⟨rfl, rfl, rfl, by decide +kernel, rfl, by decide +kernel, by decide +kernel⟩
def spGoes (K : PySem.W.Frag) : Sp := fun vs H Q _ => ∃ (a : Addr) (g : List Nat) (q : Nat), vs = [.ref a, .int (q : Nat)] ∧ SqT K H a (nts g) ∧ (∀ z ∈ g, z < g.length) ∧ q < g.length ∧ Q (.bl (turnedB g q)) H
def spActOf (K : PySem.W.Frag) : Sp := fun vs H Q _ => ∃ (a : Addr) (x y : Str) (us : List V) (t : List (List Nat)) (m : Nat), vs = [.ref a, .str x, .str y] ∧ SqL K H a us ∧ Tups K H us t ∧ IsTab t t.length m ∧ IsSet x m ∧ m ≤ 2 ∧ IsW x y ∧ t.length ≤ 1000 ∧
  ∀ (p : Addr) (H' : Hp), H p = none → H' p = some (.tup (nts (act t x y.cps.toList))) → Same H H' → Q (.ref p) H'
def spIsT (K : PySem.W.Frag) : Sp := fun vs H Q _ => ∃ (a : Addr) (x y : Str) (us : List V) (t : List (List Nat)) (m q : Nat), vs = [.ref a, .str x, .str y, .int (q : Nat)] ∧ SqL K H a us ∧ Tups K H us t ∧ IsTab t t.length m ∧ IsSet x m ∧ m ≤ 2 ∧ IsW x y ∧ t.length ≤ 1000 ∧ q < t.length ∧
  ∀ H' : Hp, Same H H' → Q (.bl (turnedB (act t x y.cps.toList) q)) H'
section
variable {P : Program} {w : World} {K : PySem.W.Frag} {mg : Str → Option Value} {base : Heap}
theorem ok_goes {f : Addr} {fd : FuncData} (F : Fun K "_law_goes_round" "_law_goes_round" sGoes f fd) (M : TxM mg) : FnOk P w K mg base CX0 1 f fd ["action", "place"] (spGoes K) := by
  refine F.ok scGoes (fun vs H Q E h => ?_) (fun cdv A outer s H vs Q E hr h => ?_)
  · obtain ⟨a, g, q, rfl, _⟩ := h
    rfl
  · obtain ⟨a, g, q, rfl, ha, wf, hq, k⟩ := h
    refine ⟨_, pss_cons (ps_par (i := 2) (j := 3) (by rfl) scGoes.nd rfl rfl (by decide) rfl rfl (pa_cons (pe_ix ix_tup (pv 0) (pv 1) (fun _ _ => rfl)) (pa_cons pe_int pa_nil)) (by rfl))
      (pss_cons (ps_while PassesOwn.never (PW.pt (pw_and (pt_cmpR op_ne (pv 2) (pv 1) (nomark _)) (pw_and1 (pt_cmpR op_le (pv 3) (pe_callB call_len_seq (by rfl) M.len PySem.boot_len (pa_cons (pv 0) pa_nil)) (nomark _)))))
        (pss_one (ps_par (i := 2) (j := 3) (by rfl) scGoes.nd rfl rfl (by decide) rfl rfl (pa_cons (pe_ix ix_tup (pv 0) (pv 2) (fun _ _ => rfl)) (pa_cons (pe_op op_add (pv 3) pe_int) pa_nil)) (by rfl))))
      (pss_one (ps_ret (pe_and (pe_cmpR op_eq (pv 2) (pv 1) (nomark _)) (pe_one (pe_cmpR op_gt (pv 3) pe_int (nomark _))))))), ?_⟩
    have ln : (nts g).length = g.length := nts_length g
    refine ⟨_, rfl, _, rfl, a, _, _, _, rfl, rfl, ha, nts_at' hq, _, _, rfl, ?_⟩
    refine while_by (fun σ H' => ∃ c : Nat, σ = [some (.ref a), some (.int (q : Nat)), some (.int (its g q c : Nat)), some (.int (c : Nat))] ∧ H' = H ∧ 1 ≤ c ∧ c ≤ g.length + 1 ∧ ∀ j, 1 ≤ j → j < c → its g q j ≠ q)
      (fun σ H' => match σ with | [_, _, _, some (.int i)] => g.length + 2 - i.toNat | _ => 0)
      ⟨1, rfl, rfl, Nat.le_refl _, by omega, fun j h1 h2 => absurd h2 (by omega)⟩ ?_ ?_
    · rintro σ H1 ⟨c, rfl, rfl, c1, cl, no⟩
      -- the answer behind the loop
      have ans : (its g q c = q ∨ g.length < c) → ∀ b : Bool, b = (decide (its g q c = q) && decide (1 < c)) → turnedB g q = b := fun h b e => by
        by_cases e1 : its g q c = q
        · by_cases c2 : 1 < c
          · rw [e, decide_eq_true e1, decide_eq_true c2]
            exact turnedB_yes wf hq e1 c2 no
          · have c3 : c = 1 := by omega
            subst c3
            rw [e, turnedB_one e1, decide_eq_false c2, Bool.and_false]
        · rw [e, decide_eq_false e1, Bool.false_and]
          refine turnedB_no fun j j1 jl => ?_
          rcases h with h | h
          · exact absurd h e1
          · exact no j j1 (by omega)
      have ret : (its g q c = q ∨ g.length < c) → ∀ b : Bool, b = (decide (its g q c = q) && decide (1 < c)) → Q (.bl b) H1 := fun h b e => by
        rw [← ans h b e]
        exact k
      refine ⟨_, rfl, _, rfl, rfl, _, rfl, ?_⟩
      have vi : ∀ {i j : Nat}, V.int ((i : Nat) : Int) = V.int ((j : Nat) : Int) → i = j := fun {i j} z => by
        injection z with z
        exact Int.ofNat.inj z
      by_cases e1 : its g q c = q
      · rw [e1] at ret ⊢
        rw [decide_eq_true (show V.int ((q : Nat) : Int) = V.int ((q : Nat) : Int) from rfl)]
        refine iteF (iteF ?_)
        refine ⟨_, rfl, _, rfl, rfl, _, rfl, ?_⟩
        rw [decide_eq_true (show V.int ((q : Nat) : Int) = V.int ((q : Nat) : Int) from rfl)]
        refine iteT ⟨_, rfl, _, _, rfl, rfl, ret (.inl rfl) _ ?_⟩
        rw [decide_eq_true (show q = q from rfl), Bool.true_and]
        exact decide_eq_decide.mpr (by omega)
      · have e2 : ¬ (V.int ((its g q c : Nat) : Int) = V.int ((q : Nat) : Int)) := fun z => e1 (vi z)
        rw [decide_eq_false e2]
        refine iteT ?_
        refine ⟨_, rfl, _, rfl, a, _, rfl, .inr ha, _, _, rfl, rfl, _, rfl, ?_⟩
        rw [ln]
        refine ite2 (fun h2 => ?_) (fun h2 => ?_)
        · have h2 := of_decide_eq_true h2
          refine ⟨_, rfl, _, rfl, a, _, _, _, rfl, rfl, ha, nts_at' (its_lt wf hq c), _, rfl, _, _, rfl, rfl, _, _, rfl, ⟨c + 1, rfl, rfl, by omega, by omega, fun j h1 h3 => ?_⟩, ?_⟩
          · by_cases e : j = c
            · rw [e]
              exact e1
            · exact no j h1 (by omega)
          · show g.length + 2 - ((c : Int) + 1).toNat < g.length + 2 - ((c : Nat) : Int).toNat
            omega
        · have h2 : ¬ ((c : Nat) : Int) ≤ ((g.length : Nat) : Int) := fun z => h2 (decide_eq_true z)
          refine ⟨_, rfl, _, rfl, rfl, _, rfl, ?_⟩
          rw [decide_eq_false e2]
          refine iteF (ret (.inr (by omega)) _ ?_)
          rw [decide_eq_false e1]
          rfl
    · rintro σ H1 Q1 Q2 hq h
      obtain ⟨v1, hv1, v2, hv2, c, b, hb, hh⟩ := h
      refine ⟨v1, hv1, v2, hv2, c, b, hb, ?_⟩
      cases b with
      | true =>
        obtain ⟨v3, hv3, v4, hv4, p3, ys3, hp3, hs3, j1, j2, d1, d2, b2, hb2, hh⟩ := hh
        exact ⟨v3, hv3, v4, hv4, p3, ys3, hp3, hs3, j1, j2, d1, d2, b2, hb2, hq _ _ hh⟩
      | false => exact hq _ _ hh
end
end M3

set_option Elab.async false
set_option linter.all false
set_option maxRecDepth 100000
set_option maxHeartbeats 8000000
/-! # The first turn: the law's own, and the one that is told -/
namespace M3
open PySem L2
abbrev sFirstT : Stmt := top 58
abbrev nFirstT : List Str := ["table", "letters", "found", "action", "spots", "place"]
theorem scFirstT : FnScope nFirstT ["table", "letters"] (defScope sFirstT) := ⟨rfl, rfl, rfl, by decide +kernel, rfl, by decide +kernel, by decide +kernel⟩
/-- what is told of the first turn: None, or a pair -/
def TurnIs (K : PySem.W.Frag) (H H' : Hp) (o : Option (Str × Nat)) (v : V) : Prop := match o with
  | none => v = .non
  | some (y, q) => ∃ T : Addr, v = .ref T ∧ SqT K H' T [.str y, .int (q : Nat)]
def spFirstT (K : PySem.W.Frag) : Sp := fun vs H Q _ => ∃ (a : Addr) (x : Str) (us : List V) (t : List (List Nat)) (m : Nat), vs = [.ref a, .str x] ∧ SqL K H a us ∧ Tups K H us t ∧ RightB x t m ∧
  ∀ (v : V) (H' : Hp), TurnIs K H H' (among (bfs t x 256)) v → Same H H' → Q v H'
def spToldT (K : PySem.W.Frag) : Sp := fun vs H Q _ => ∃ (a : Addr) (x : Str) (us : List V) (t : List (List Nat)) (m : Nat), vs = [.str x, .ref a] ∧ SqL K H a us ∧ Tups K H us t ∧ RightB x t m ∧
  ∀ (v : V) (H' : Hp), TurnIs K H H' (among (bfs t x 256)) v → Same H H' → Q v H'
/-- GoesRound, raised and caught -/
structure TxG (P : Program) (K : PySem.W.Frag) (mg : Str → Option Value) (c : Addr) : Prop where
  a : TxA P K mg "GoesRound" "turn" c
  xf : XfC K c
  nf : PySem.W.findIn K (.ref c) "turn" = some none
section
variable {P : Program} {w : World} {K : PySem.W.Frag} {mg : Str → Option Value} {base : Heap} {C cG : Addr}
theorem filter_find {p : Nat → Bool} {n : Nat} : ((List.range n).filter p).head? = (List.range n).find? p := by
  rw [List.head?_filter]
theorem shaped_lN (es : List Nat) : SeqAt.shaped (.list (es.map fun n => .int ((n : Nat) : Int))) = true := by
  unfold SeqAt.shaped
  have h1 : (PyData.list (es.map fun n => .int ((n : Nat) : Int))).canLay0 = true := by
    simp only [PyData.canLay0, lay_nats]
  have h2 : (PyData.list (es.map fun n => .int ((n : Nat) : Int))).depth ≤ 64 := by
    simp only [PyData.depth, dep_nats]
    omega
  rw [h1, decide_eq_true h2]
  rfl
theorem shaped_l0 : SeqAt.shaped (.list []) = true := shaped_lN []
theorem eqv_l0 (es : List Nat) : (PyData.list (es.map fun n => .int ((n : Nat) : Int))).eqv (.list []) = decide (es = []) := by
  have q := eqv_nats es []
  rw [PyData.eqv]
  exact q
theorem ok_firstt {f : Addr} {fd : FuncData} (F : Fun K "_law_first_turn" "_law_first_turn" sFirstT f fd) (cA : FnC P w K mg base 1 "_law_actions" ["table", "letters", "most"] (spLawActs K)) (cG : FnC P w K mg base 1 "_law_goes_round" ["action", "place"] (spGoes K)) (M : TxM mg) :
    FnOk P w K mg base CX0 2 f fd ["table", "letters"] (spFirstT K) := by
  refine F.ok scFirstT (fun vs H Q E h => ?_) (fun cdv A outer s H vs Q E hr h => ?_)
  · obtain ⟨a, x, us, t, m, rfl, _⟩ := h
    rfl
  · obtain ⟨a, x, us, t, m, rfl, ha, hT, R, k⟩ := h
    have hu := hu_of hr
    refine ⟨_, pss_cons (ps_set (i := 2) scFirstT.nd rfl (Or.inl rfl) (pe_call cA.G hr rfl cA.m cA.kp cA.b .nil pass0 (pa_cons (pv 0) (pa_cons (pv 1) (pa_cons pe_int pa_nil)))))
      (pss_cons (ps_lock (ps_for PassesOwn.never rfl (pi_keys (pv 2)) (pg_name (i := 3) scFirstT.nd rfl (Or.inr rfl))
        (pss_cons (ps_setLc (i := 4) (own := [("place", 5)]) (g := gName 5) (tt := tTest (tCall (spGoes K) [] E0 (tCons (tVar 3) (tCons (tVar 5) tNil)))) (te := tVar 5) rfl scFirstT.nd rfl rfl (by rfl) (pi_range1 rfl M.range (pa_cons (pe_callB call_len_seq (by rfl) M.len PySem.boot_len (pa_cons (pv 0) pa_nil)) pa_nil)) (blkOk_by (N := nFirstT) (sc := defScope sFirstT) (by decide +kernel)) (fun _ _ _ _ _ => pg_name (i := 5) scFirstT.nd rfl (Or.inl rfl))
            (fun _ _ _ _ _ => pts_one (pt_val (pe_call cG.G hr rfl cG.m cG.kp cG.b .nil pass0 (pa_cons (pv 3) (pa_cons (pv 5) pa_nil))))) (fun _ _ _ _ _ => pv 5))
        (pss_one (ps_if (pt_cmpR (op_neD hr.units) (pv 4) (pe_lst pa_nil) (nomark _)) (pss_one (ps_ret (pe_tup (pa_cons (pe_dget hu (pv 2) (pv 3) (fun _ _ => rfl)) (pa_cons (pe_ix ix_list (pv 4) pe_int (fun _ _ => rfl)) pa_nil))))) pss_nil)))))
      (pss_one (ps_ret pe_non))), ?_⟩
    have few := bfs_few R
    have FA := bfs_found (mo := 256) R.tb R.st R.m2
    have nd : ((bfs t x 256).map Prod.fst).Nodup := bfs_nodup
    refine ⟨_, rfl, _, rfl, a, x, us, t, m, 256, rfl, ha, hT, R.tb, R.st, R.m2, (by have := R.t4; omega), by decide, fun _ D H1 hD nD s1 => ?_, fun z => absurd z (by omega)⟩
    unfold among at k
    generalize bfs t x 256 = F at hD k FA nd few
    refine ⟨D, _, hD, trivial, fun od => ?_⟩
    have lE : (ents F).length = F.length := List.length_map _
    have sD : Same H (upd H1 D (.frz od (.dT (ents F)))) := fun b o h => by
      rw [upd_ne (ne_of_none h nD)]
      exact s1 _ _ h
    refine ⟨_, rfl, D, od, rfl, .inr ⟨ents F, upd_same, for_it (walk_keysT (d := D) (o := od) (kvs := ents F)) (fun i σ H' => ∃ v3 v4 v5, σ = [some (.ref a), some (.str x), some (.ref D), v3, v4, v5] ∧ Same (upd H1 D (.frz od (.dT (ents F)))) H' ∧ (F.take i).findSome? (fun z => (turned z.1).map fun q => (z.2, q)) = none)
      ⟨_, _, _, rfl, Same.refl _, by rw [List.take_zero]; rfl⟩ (fun i σ H' _ h => ?_) ?_ ?_⟩⟩
    · obtain ⟨v3, v4, v5, _, s2, _⟩ := h
      exact s2 _ _ upd_same
    · rintro i v σ H2 H3 hi ⟨v3, v4, v5, rfl, s2, no⟩ ⟨rfl, kk, vv, q, hk, rfl, hq⟩
      rw [lE] at hi
      have hz : F[i]? = some F[i] := List.getElem?_eq_getElem hi
      generalize F[i] = z at hz
      have ek : (kk, vv) = (key z.1, V.str z.2) := by
        unfold ents at hk
        rw [List.getElem?_map, hz] at hk
        exact (Option.some.inj hk).symm
      cases ek
      obtain ⟨w1, w2, _⟩ := FA i z hz
      have sH := sD.trans s2
      have lu : us.length = t.length := hT.1
      refine ⟨_, rfl, a, us, rfl, .inl (sH.seq ha), ?_⟩
      rw [lu]
      have t4 := R.t4
      refine ⟨_, rfl, by omega, by omega, fun G nG => ?_⟩
      have en : (((t.length : Nat) : Int)).toNat = t.length := by omega
      refine lc_range (lo := 0) (n := ((t.length : Nat) : Int).toNat) (fun j H9 => H9 G = some (.lst (nts ((List.range j).filter (turnedB z.1)))) ∧ ∀ b o, b ≠ G → H3 b = some o → H9 b = some o)
        ⟨upd_same, fun b o hb h => keep_new h nG⟩ ?_ ?_
      · rintro j H9 hj ⟨q1, q2⟩
        have hj : j < t.length := by omega
        have s9 : Same H3 H9 := fun b o h => q2 b o (ne_of_none h nG) h
        refine ⟨rfl, ?_⟩
        rw [key_tup] at hq
        have ej : (0 : Int) + (j : Int) = (j : Int) := Int.zero_add _
        refine ⟨_, rfl, _, rfl, q, z.1, j, by rw [show (0 : Int) + (j : Int) = ((j : Nat) : Int) by omega]; rfl, SqT.of (s9 _ _ hq), fun y hy => by rw [w2]; exact w1 y hy, by rw [w2]; exact hj, _, rfl, ?_⟩
        rw [List.range_succ, List.filter_append]
        cases b : turnedB z.1 j with
        | true =>
          refine iteT ?_
          refine ⟨_, rfl, _, q1, ?_, ?_, fun b' o hb' h => by rw [upd_ne hb']; exact q2 b' o hb' h⟩
          · rw [nts_length]
            exact Nat.lt_of_le_of_lt (Nat.le_trans (List.length_filter_le _ _) (by rw [List.length_range]; omega)) (show 4 < sizeLine by decide)
          · have e1 : [j].filter (turnedB z.1) = [j] := by simp [b]
            rw [upd_same, ej, e1]
            unfold nts
            rw [List.map_append]
            rfl
        | false =>
          refine iteF ?_
          refine ⟨?_, q2⟩
          simpa [b] using q1
      · rintro H9 ⟨q1, q2⟩
        rw [en] at q1
        have s9 : Same H3 H9 := fun b o h => q2 b o (ne_of_none h nG) h
        have ft : (List.range t.length).find? (turnedB z.1) = turned z.1 := by
          unfold turned
          rw [w2]
        have hd := filter_find (p := turnedB z.1) (n := t.length)
        rw [ft] at hd
        generalize (List.range t.length).filter (turnedB z.1) = spots at q1 hd
        have et : (F.take (i + 1)).findSome? (fun z => (turned z.1).map fun q => (z.2, q)) = (turned z.1).map fun q => (z.2, q) := by
          rw [take_snoc hz, List.findSome?_append, no]
          simp
        have sL := s9
        refine ⟨_, rfl, (by show 0 ≤ sizeLine; decide), fun L nL => ⟨.list (spots.map fun n => .int ((n : Nat) : Int)), .list [], .lst (SqL.of (keep_new q1 nL)) (dp_nats spots), .lst (SqL.of upd_same) .nil, shaped_lN spots, shaped_l0, _, rfl, ?_⟩⟩
        rw [eqv_l0]
        have sHL : Same (upd H1 D (.frz od (.dT (ents F)))) (upd H9 L (.lst [])) := Same.new (s2.trans s9) nL
        have g1 : (upd H9 L (.lst [])) G = some (.lst (nts spots)) := keep_new q1 nL
        have hqL : (upd H9 L (.lst [])) q = some (.tup ((key z.1).map kV)) := keep_new (s9 _ _ hq) nL
        generalize upd H9 L (.lst []) = HL at sHL g1 hqL ⊢
        match spots, hd with
        | [], hd =>
          rw [decide_eq_true (show ([] : List Nat) = [] from rfl)]
          refine iteF ⟨_, _, _, rfl, sHL, ?_⟩
          rw [et, ← hd]
          rfl
        | r :: rest, hd =>
          rw [decide_eq_false (show ¬ (r :: rest = []) from fun z => by cases z)]
          refine iteT ?_
          have hd : some r = turned z.1 := hd
          have hA : F.findSome? (fun z => (turned z.1).map fun q => (z.2, q)) = some (z.2, r) := by
            rw [← List.take_append_drop (i + 1) F, List.findSome?_append, et, ← hd]
            rfl
          have hDL := sHL _ _ upd_same
          have GD : DGet HL D (.ref q) (some (.str z.2)) := by
            refine .inr ⟨ents F, key z.1, q, .inr ⟨od, hDL⟩, rfl, hqL, ?_⟩
            exact (ents_at nd hz).symm
          refine ⟨_, rfl, _, rfl, D, _, rfl, GD, _, rfl, G, _, _, _, rfl, rfl, SqL.of g1, atI_nat (j := 0) (v := V.int (r : Nat)) rfl, (by show 2 ≤ sizeLine; decide), fun T nT => ?_⟩
          have sT := Same.new (u := .tup [.str z.2, .int (r : Nat)]) sHL nT
          have hT2 : (upd HL T (.tup [.str z.2, .int (r : Nat)])) T = some (.tup [.str z.2, .int (r : Nat)]) := upd_same
          generalize upd HL T (.tup [.str z.2, .int (r : Nat)]) = HT at sT hT2 ⊢
          have TD : T ≠ D := ne_of hT2 (sT _ _ upd_same) (fun z => by cases z)
          refine ⟨sT _ _ upd_same, k (.ref T) _ ?_ (fun b o h => ?_)⟩
          · rw [hA]
            exact ⟨T, rfl, SqT.of (by rw [upd_ne TD]; exact hT2)⟩
          · have bD : b ≠ D := ne_of_none h nD
            rw [upd_ne bD]
            exact sT _ _ (by rw [upd_ne bD]; exact s1 _ _ h)
    · rintro σ H2 ⟨v3, v4, v5, rfl, s2, no⟩
      rw [lE, List.take_of_length_le (Nat.le_refl _)] at no
      refine ⟨s2 _ _ upd_same, k .non _ ?_ (fun b o h => ?_)⟩
      · rw [no]
        rfl
      · have bD : b ≠ D := ne_of_none h nD
        rw [upd_ne bD]
        exact s2 _ _ (by rw [upd_ne bD]; exact s1 _ _ h)
end
end M3

set_option Elab.async false
set_option linter.all false
set_option maxRecDepth 100000
set_option maxHeartbeats 8000000
/-! # Short words -/
namespace M3
open PySem L2
def ext (x w : Str) : List Str := x.cps.toList.map fun c => w ++ (⟨#[c]⟩ : Str)
def lay (x : Str) : Nat → List Str
  | 0 => [""]
  | n + 1 => (lay x n).flatMap (ext x)
def shortW (x : Str) : Nat → List Str
  | 0 => [""]
  | n + 1 => shortW x n ++ lay x (n + 1)
theorem codes_empty : ("" : Str).cps.toList = [] := by decide +kernel
theorem lay_len {x : Str} : ∀ (n : Nat) (w : Str), w ∈ lay x n → w.cps.toList.length = n ∧ IsW x w
  | 0, w, h => by
    rw [List.mem_singleton.mp h, codes_empty]
    exact ⟨rfl, fun c hc => by rw [codes_empty] at hc; cases hc⟩
  | n + 1, w, h => by
    obtain ⟨u, hu, hw⟩ := List.mem_flatMap.mp h
    obtain ⟨l1, l2⟩ := lay_len n u hu
    obtain ⟨c, hc, rfl⟩ := List.mem_map.mp hw
    have sn := snoc_cps u c
    refine ⟨by rw [sn, List.length_append, l1]; rfl, fun d hd => ?_⟩
    rw [sn] at hd
    rcases List.mem_append.mp hd with q | q
    · exact l2 d q
    · rw [List.mem_singleton.mp q]
      exact hc
theorem str_ext {a b : Str} (h : a.cps.toList = b.cps.toList) : a = b := by
  cases a with
  | mk a =>
    cases b with
    | mk b =>
      have h : a.toList = b.toList := h
      rw [Array.toList_inj] at h
      rw [h]
theorem lay_all {x : Str} : ∀ (n : Nat) (w : List Nat), w.length = n → (∀ c ∈ w, c ∈ x.cps.toList) → ∃ u ∈ lay x n, u.cps.toList = w
  | 0, w, h, _ => ⟨"", List.mem_cons_self, by rw [codes_empty, List.eq_nil_of_length_eq_zero h]⟩
  | n + 1, w, h, hw => by
    have ne : w ≠ [] := fun e => by rw [e] at h; cases h
    have ew := List.dropLast_concat_getLast ne
    obtain ⟨u, hu, eu⟩ := lay_all n w.dropLast (by rw [List.length_dropLast]; omega) (fun c hc => hw c ((List.dropLast_sublist w).subset hc))
    refine ⟨u ++ (⟨#[w.getLast ne]⟩ : Str), List.mem_flatMap.mpr ⟨u, hu, List.mem_map.mpr ⟨_, hw _ (List.getLast_mem ne), rfl⟩⟩, ?_⟩
    rw [snoc_cps, eu]
    exact ew
theorem short_mem {x : Str} {w : Str} : ∀ {n : Nat}, w ∈ shortW x n → ∃ k, k ≤ n ∧ w ∈ lay x k
  | 0, h => ⟨0, Nat.le_refl _, h⟩
  | n + 1, h => by
    rcases List.mem_append.mp h with h | h
    · obtain ⟨k, hk, h⟩ := short_mem h
      exact ⟨k, by omega, h⟩
    · exact ⟨n + 1, Nat.le_refl _, h⟩
theorem mem_short {x : Str} {w : Str} {k : Nat} : ∀ {n : Nat}, k ≤ n → w ∈ lay x k → w ∈ shortW x n
  | 0, h, hw => by
    have e : k = 0 := by omega
    subst e
    exact hw
  | n + 1, h, hw => by
    by_cases e : k = n + 1
    · subst e
      exact List.mem_append_right _ hw
    · exact List.mem_append_left _ (mem_short (by omega) hw)
theorem short_all {x : Str} {n : Nat} {w : Str} (hw : IsW x w) (hl : w.cps.toList.length ≤ n) : w ∈ shortW x n := by
  obtain ⟨u, hu, eu⟩ := lay_all _ w.cps.toList rfl hw
  rw [str_ext eu] at hu
  exact mem_short hl hu
def LessS (a b : Str) : Prop := lessW a.cps.toList b.cps.toList
theorem lay_ord {x : Str} (asc : Asc x) : ∀ n, (lay x n).Pairwise LessS
  | 0 => List.pairwise_singleton _ _
  | n + 1 => by
    have ih := lay_ord asc n
    have len := lay_len (x := x) n
    show ((lay x n).flatMap (ext x)).Pairwise LessS
    rw [List.flatMap_def, List.pairwise_flatten]
    refine ⟨fun l hl => ?_, ?_⟩
    · obtain ⟨u, hu, rfl⟩ := List.mem_map.mp hl
      unfold ext
      rw [List.pairwise_map, List.pairwise_iff_getElem]
      intro i j hi hj ij
      unfold LessS
      rw [snoc_cps, snoc_cps]
      exact lessW_same (asc i j _ _ ij (List.getElem?_eq_getElem hi) (List.getElem?_eq_getElem hj))
    · rw [List.pairwise_map]
      refine ih.imp fun {u v} h a ha b hb => ?_
      obtain ⟨c, hc, rfl⟩ := List.mem_map.mp ha
      obtain ⟨d, hd, rfl⟩ := List.mem_map.mp hb
      unfold LessS
      rw [snoc_cps, snoc_cps]
      exact lessW_snoc h
theorem short_ord {x : Str} (asc : Asc x) : ∀ n, (shortW x n).Pairwise LessS
  | 0 => List.pairwise_singleton _ _
  | n + 1 => by
    show (shortW x n ++ lay x (n + 1)).Pairwise LessS
    rw [List.pairwise_append]
    refine ⟨short_ord asc n, lay_ord asc (n + 1), fun a ha b hb => ?_⟩
    obtain ⟨k, hk, ha⟩ := short_mem ha
    have la := (lay_len k a ha).1
    have lb := (lay_len (n + 1) b hb).1
    exact .inl (by omega)
/-- a word that goes round first -/
def hasTurn (t : List (List Nat)) (x : Str) (w : Str) : Option Nat := turned (act t x w.cps.toList)
theorem among_spec {t : List (List Nat)} {x : Str} {m : Nat} (R : RightB x t m) {y : Str} {q : Nat} (h : among (bfs t x 256) = some (y, q)) : IsW x y ∧ hasTurn t x y = some q ∧ ∀ w : Str, IsW x w → (hasTurn t x w).isSome → y = w ∨ LessS y w := by
  have FA := bfs_found (mo := 256) R.tb R.st R.m2
  have few := bfs_few R
  have ord := (bfs_stage (asc_of R.st) few).ord
  have fst := fun w => bfs_first R.st few (t := t) (x := x) _ w rfl
  unfold among at h
  obtain ⟨l1, z, l2, e, hz, no⟩ := List.findSome?_eq_some_iff.mp h
  cases ht : turned z.1 with
  | none =>
    rw [ht] at hz
    cases hz
  | some r =>
    rw [ht] at hz
    have hz : some (z.2, r) = some (y, q) := hz
    injection hz with hz
    injection hz with hz1 hz2
    subst hz1 hz2
    have ez : (bfs t x 256)[l1.length]? = some z := by
      rw [e, List.getElem?_append_right (Nat.le_refl _), Nat.sub_self]
      rfl
    obtain ⟨w1, w2, w3, w4, w5⟩ := FA _ z ez
    refine ⟨w3, ?_, fun w hw hs => ?_⟩
    · unfold hasTurn
      rw [← w4]
      exact ht
    · obtain ⟨u, hu, e1, e2⟩ := fst w.cps.toList hw
      obtain ⟨j, hj, ej⟩ := List.getElem_of_mem hu
      have ej' : (bfs t x 256)[j]? = some u := by rw [List.getElem?_eq_getElem hj, ej]
      have lj : l1.length ≤ j := by
        by_cases c : l1.length ≤ j
        · exact c
        · exfalso
          have c : j < l1.length := by omega
          have hu1 : u ∈ l1 := by
            rw [e, List.getElem?_append_left c] at ej'
            exact List.mem_of_getElem? ej'
          have n1 := no u hu1
          unfold hasTurn at hs
          rw [← e1] at hs
          cases hc : turned u.1 with
          | none =>
            rw [hc] at hs
            cases hs
          | some r2 =>
            rw [hc] at n1
            cases n1
      have zu : codes z = codes u ∨ lessW (codes z) (codes u) := by
        by_cases c : l1.length = j
        · rw [← c, ez] at ej'
          cases ej'
          exact .inl rfl
        · exact .inr (ord _ _ z u (by omega) ez ej')
      rcases lessW_le (d := []) zu e2 with q | q
      · exact .inl (str_ext q)
      · exact .inr q
theorem among_none {t : List (List Nat)} {x : Str} {m : Nat} (R : RightB x t m) (h : among (bfs t x 256) = none) {w : Str} (hw : IsW x w) : hasTurn t x w = none := by
  have few := bfs_few R
  have q := bfs_all R.st R.m2 few (t := t) _ w.cps.toList rfl hw
  obtain ⟨z, hz, ez⟩ := List.mem_map.mp q
  unfold among at h
  have n := List.findSome?_eq_none_iff.mp h z hz
  unfold hasTurn
  rw [← ez]
  cases hc : turned z.1 with
  | none => rfl
  | some r =>
    rw [hc] at n
    cases n
/-- the first short word that goes round is the one that is told -/
theorem short_first {t : List (List Nat)} {x : Str} {m n i r : Nat} (R : RightB x t m) {w : Str} (hi : (shortW x n)[i]? = some w) (no : ∀ (j : Nat) (u : Str), j < i → (shortW x n)[j]? = some u → hasTurn t x u = none) (h : hasTurn t x w = some r) : among (bfs t x 256) = some (w, r) := by
  obtain ⟨k, hk, hwk⟩ := short_mem (List.mem_of_getElem? hi)
  obtain ⟨lw, hw⟩ := lay_len k w hwk
  cases ha : among (bfs t x 256) with
  | none =>
    rw [among_none R ha hw] at h
    cases h
  | some yq =>
    obtain ⟨y, q⟩ := yq
    obtain ⟨h1, h2, h3⟩ := among_spec R ha
    rcases h3 w hw (by rw [h]; rfl) with e | e
    · subst e
      rw [h2] at h
      rw [Option.some.inj h]
    · exfalso
      have ly : y.cps.toList.length ≤ n := by
        rcases e with e | ⟨e, _⟩ <;> omega
      obtain ⟨j, hj, ej⟩ := List.getElem_of_mem (short_all (n := n) h1 ly)
      have ej' : (shortW x n)[j]? = some y := by rw [List.getElem?_eq_getElem hj, ej]
      have P := List.pairwise_iff_getElem.mp (short_ord (asc_of R.st) n)
      by_cases c : j < i
      · rw [no j y c ej'] at h2
        cases h2
      · by_cases c2 : i = j
        · subst c2
          rw [hi] at ej'
          cases ej'
          exact lessW_irrefl e
        · obtain ⟨hi1, hi2⟩ := List.getElem?_eq_some_iff.mp hi
          have q := P i j hi1 hj (by omega)
          rw [hi2, ej] at q
          exact lessW_irrefl (lessW_trans e q)
theorem short_none {t : List (List Nat)} {x : Str} {m n : Nat} (R : RightB x t m) (no : ∀ u ∈ shortW x n, hasTurn t x u = none) {y : Str} {q : Nat} (h : among (bfs t x 256) = some (y, q)) : n < y.cps.toList.length := by
  obtain ⟨h1, h2, _⟩ := among_spec R h
  by_cases c : n < y.cps.toList.length
  · exact c
  · rw [no y (short_all h1 (by omega))] at h2
    cases h2
theorem its_iter {t : List (List Nat)} {x y : Str} {m q : Nat} (R : RightB x t m) (hw : IsW x y) (hq : q < t.length) : ∀ k, its (act t x y.cps.toList) q k = iter t x y q k
  | 0 => rfl
  | k + 1 => by
    have hm : x.cps.toList.length = m := by
      have := set_len R.st
      simpa [Str.length] using this
    have il := iter_lt (q0 := q) R.tb hm hq hw k
    show (act t x y.cps.toList).getD (its (act t x y.cps.toList) q k) 0 = goes t x (iter t x y q k) y.cps.toList
    rw [its_iter R hw hq k]
    unfold act
    simp [List.getD, List.getElem?_eq_getElem, il]
/-- where nothing goes round, all comes to rest -/
theorem its_rest {g : List Nat} {q : Nat} (w : ∀ z ∈ g, z < g.length) (hq : q < g.length) (no : turned g = none) : its g q (g.length + 1) = its g q g.length := by
  have nt : ∀ r, r < g.length → turnedB g r = false := fun r hr => by
    unfold turned at no
    have := List.find?_eq_none.mp no r (List.mem_range.mpr hr)
    simpa using this
  have ex : ∃ i j, i < j ∧ j ≤ g.length ∧ its g q i = its g q j := by
    apply Classical.byContradiction
    intro h
    have nd : ((List.range (g.length + 1)).map (its g q)).Nodup := by
      unfold List.Nodup
      rw [List.pairwise_map]
      refine List.Pairwise.imp_of_mem (fun {i j} hi hj ij e => ?_) List.pairwise_lt_range
      have hj := List.mem_range.mp hj
      exact h ⟨i, j, ij, by omega, e⟩
    have c := few_nats g.length _ nd fun x hx => by
      obtain ⟨i, _, rfl⟩ := List.mem_map.mp hx
      exact its_lt w hq i
    rw [List.length_map, List.length_range] at c
    omega
  obtain ⟨i, j, ij, jl, e⟩ := ex
  have split : ∀ k, its g (its g q i) k = its g q (i + k) := fun k => by
    induction k with
    | zero => rfl
    | succ k ih =>
      show g.getD (its g (its g q i) k) 0 = g.getD (its g q (i + k)) 0
      rw [ih]
  have hr := its_lt w hq i
  have back : its g (its g q i) (j - i) = its g q i := by
    rw [split, show i + (j - i) = j by omega, e]
  have fx : g.getD (its g q i) 0 = its g q i := by
    have n := nt _ hr
    unfold turnedB comesB at n
    have c : ((List.range g.length).any fun k => decide (its g (its g q i) (k + 1) = its g q i)) = true := by
      rw [List.any_eq_true]
      exact ⟨j - i - 1, List.mem_range.mpr (by omega), decide_eq_true (by rw [show j - i - 1 + 1 = j - i by omega]; exact back)⟩
    rw [c, Bool.and_true] at n
    have := of_decide_eq_false n
    exact Classical.not_not.mp this
  have con : ∀ k, its g q (i + k) = its g q i := fun k => by
    induction k with
    | zero => rfl
    | succ k ih =>
      show g.getD (its g q (i + k)) 0 = its g q i
      rw [ih, fx]
  have a := con (g.length - i)
  have b := con (g.length + 1 - i)
  rw [show i + (g.length - i) = g.length by omega] at a
  rw [show i + (g.length + 1 - i) = g.length + 1 by omega] at b
  rw [a, b]
theorem ext_len (x w : Str) : (ext x w).length = x.length := by
  unfold ext
  rw [List.length_map]
  simp [Str.length]
theorem lay_card {x : Str} (hx : x.length ≤ 2) : ∀ n, (lay x n).length ≤ 2 ^ n
  | 0 => Nat.le_refl _
  | n + 1 => by
    have ih := lay_card hx n
    show ((lay x n).flatMap (ext x)).length ≤ _
    rw [List.length_flatMap]
    have : ((lay x n).map fun w => (ext x w).length).sum ≤ (lay x n).length * 2 := by
      generalize lay x n = l
      induction l with
      | nil => exact Nat.zero_le _
      | cons w l ih =>
        rw [List.map_cons, List.sum_cons, ext_len, List.length_cons]
        omega
    rw [Nat.pow_succ]
    omega
theorem short_card {x : Str} (hx : x.length ≤ 2) : ∀ n, (shortW x n).length ≤ 2 ^ (n + 1)
  | 0 => by
    show 1 ≤ 2 ^ 1
    decide
  | n + 1 => by
    have ih := short_card hx n
    have l := lay_card hx (n + 1)
    show (shortW x n ++ lay x (n + 1)).length ≤ _
    rw [List.length_append, Nat.pow_succ]
    omega
theorem pow_le5 {n : Nat} (h : n ≤ 6) : 2 ^ n ≤ 64 := Nat.le_trans (Nat.pow_le_pow_right (by decide) h) (by decide)
abbrev sShort : Stmt := top 61
abbrev nShort : List Str := ["letters", "most", "found", "layer", "size", "longer", "word", "letter"]
theorem scShort : FnScope nShort ["letters", "most"] (defScope sShort) := ⟨rfl, rfl, rfl, by decide +kernel, rfl, by decide +kernel, by decide +kernel⟩
def spShort : Sp := fun vs H Q _ => ∃ (x : Str) (n : Nat), vs = [.str x, .int (n : Nat)] ∧ x.length ≤ 2 ∧ n ≤ 5 ∧ ∀ (L : Addr) (H' : Hp), H' L = some (.lst ((shortW x n).map V.str)) → H L = none → Same H H' → Q (.ref L) H'
theorem flat_snoc {x : Str} {l : List Str} {i : Nat} {w : Str} (h : l[i]? = some w) : (l.take (i + 1)).flatMap (ext x) = (l.take i).flatMap (ext x) ++ ext x w := by
  rw [take_snoc h, List.flatMap_append]
  simp
section
variable {P : Program} {w : World} {K : PySem.W.Frag} {mg : Str → Option Value} {base : Heap}
theorem ok_short {f : Addr} {fd : FuncData} (F : Fun K "_law_short_words" "_law_short_words" sShort f fd) (M : TxM mg) : FnOk P w K mg base CX0 1 f fd ["letters", "most"] spShort := by
  refine F.ok scShort (fun vs H Q E h => ?_) (fun cdv A outer s H vs Q E hr h => ?_)
  · obtain ⟨x, n, rfl, _⟩ := h
    rfl
  · obtain ⟨x, n, rfl, hx, hn, k⟩ := h
    have sz : (1000 : Nat) < sizeLine := by decide
    refine ⟨_, pss_cons (ps_par (i := 2) (j := 3) (by rfl) scShort.nd rfl rfl (by decide) rfl rfl (pa_cons (pe_lst (pa_cons pe_str pa_nil)) (pa_cons (pe_lst (pa_cons pe_str pa_nil)) pa_nil)) (by rfl))
      (pss_cons (ps_for PassesOwn.never rfl (pi_range1 rfl M.range (pa_cons (pv 1) pa_nil)) (pg_name (i := 4) scShort.nd rfl (Or.inl rfl))
        (pss_cons (ps_set (i := 5) scShort.nd rfl (Or.inl rfl) (pe_lst pa_nil))
        (pss_cons (ps_for PassesOwn.never rfl (pi_list (pe_callTy call_list_of (by rfl) M.list (by decide +kernel) (pa_cons (pv 3) pa_nil))) (pg_name (i := 6) scShort.nd rfl (Or.inr rfl))
          (pss_one (ps_expr (pe_bm PySem.F.plainAttrs_list PySem.F.slot_list_extend PySem.F.type_list_extend mt_extend (pv 5) (pa_cons (pe_lc (own := [("letter", 7)]) (g := gName 7) (tt := tYes) rfl scShort.nd (pi_str (pv 0)) (blkOk_by (N := nShort) (sc := defScope sShort) (by decide +kernel)) (fun _ _ _ _ _ => pg_name (i := 7) scShort.nd rfl (Or.inl rfl)) (fun _ _ _ _ _ => pts_nil)
            (fun _ _ _ _ _ => pe_op op_add_str (pv 6) (pv 7))) pa_nil)))))
        (pss_cons (ps_set (i := 3) scShort.nd rfl (Or.inl rfl) (pv 5))
        (pss_one (ps_set (i := 2) scShort.nd rfl (Or.inl rfl) (pe_op op_cat (pv 2) (pv 3))))))))
      (pss_one (ps_ret (pv 2)))), ?_⟩
    refine ⟨(by show 1 ≤ sizeLine; decide), fun A1 n1 => ⟨(by show 1 ≤ sizeLine; decide), fun B1 n2 => ⟨_, _, rfl, ?_⟩⟩⟩
    have hA1 : (upd (upd H A1 (.lst [.str ""])) B1 (.lst [.str ""])) A1 = some (.lst [.str ""]) := keep_new upd_same n2
    have hB1 : (upd (upd H A1 (.lst [.str ""])) B1 (.lst [.str ""])) B1 = some (.lst [.str ""]) := upd_same
    have s1 : Same H (upd (upd H A1 (.lst [.str ""])) B1 (.lst [.str ""])) := Same.new (Same.new (Same.refl H) n1) n2
    generalize upd (upd H A1 (.lst [.str ""])) B1 (.lst [.str ""]) = H1 at hA1 hB1 s1 ⊢
    refine ⟨_, rfl, n, rfl, by omega, by omega, for_range (lo := 0) (n := ((n : Nat) : Int).toNat) (fun i σ H' => ∃ (A2 B2 : Addr) (v4 v5 v6 v7 : Option V), σ = [some (.str x), some (.int (n : Nat)), some (.ref A2), some (.ref B2), v4, v5, v6, v7] ∧ H' A2 = some (.lst ((shortW x i).map V.str)) ∧ H' B2 = some (.lst ((lay x i).map V.str)) ∧ H A2 = none ∧ Same H H')
      ⟨A1, B1, _, _, _, _, rfl, hA1, hB1, n1, s1⟩ ?_ ?_⟩
    · rintro i σ H2 hi ⟨A2, B2, v4, v5, v6, v7, rfl, hA, hB, nA, s2⟩
      have hi : i < n := by omega
      refine ⟨(by show 0 ≤ sizeLine; decide), fun C nC => ?_⟩
      have hA3 := keep_new (u := .lst []) hA nC
      have hB3 := keep_new (u := .lst []) hB nC
      have hC3 : (upd H2 C (.lst [])) C = some (.lst []) := upd_same
      have s3 : Same H (upd H2 C (.lst [])) := Same.new s2 nC
      have nCH : H C = none := free_of s2 nC
      have CA : C ≠ A2 := fun z => by rw [z, hA] at nC; cases nC
      have CB : C ≠ B2 := fun z => by rw [z, hB] at nC; cases nC
      generalize upd H2 C (.lst []) = H3 at hA3 hB3 hC3 s3 ⊢
      refine ⟨_, rfl, B2, _, rfl, .inl (SqL.of hB3), fun L nL => ⟨L, rfl, ⟨_, SqL.of upd_same⟩, ?_⟩⟩
      have hA4 := keep_new (u := .lst ((lay x i).map V.str)) hA3 nL
      have hC4 := keep_new (u := .lst ((lay x i).map V.str)) hC3 nL
      have hL4 : (upd H3 L (.lst ((lay x i).map V.str))) L = some (.lst ((lay x i).map V.str)) := upd_same
      have s4 : Same H (upd H3 L (.lst ((lay x i).map V.str))) := Same.new s3 nL
      have CL : C ≠ L := fun z => by rw [← z, hC3] at nL; cases nL
      generalize upd H3 L (.lst ((lay x i).map V.str)) = H4 at hA4 hC4 hL4 s4 ⊢
      clear hA hB nC hA3 hB3 hC3 s3 nL s2
      refine for_list (K := K) (a := L) (xs := (lay x i).map V.str) (fun j σ H' => ∃ v6 v7 : Option V, σ = [some (.str x), some (.int (n : Nat)), some (.ref A2), some (.ref B2), some (.int (0 + (i : Int))), some (.ref C), v6, v7] ∧ H' C = some (.lst ((((lay x i).take j).flatMap (ext x)).map V.str)) ∧ ∀ b o, b ≠ C → H4 b = some o → H' b = some o)
        ⟨_, _, rfl, hC4, fun b o _ h => h⟩ (fun j σ H' _ h => ?_) ?_ ?_
      · obtain ⟨_, _, _, _, kp⟩ := h
        exact SqL.of (kp _ _ (Ne.symm CL) hL4)
      · rintro j v σ H5 hv ⟨v6, v7, rfl, hC5, kp⟩
        have hj : j < (lay x i).length := by
          have := (List.getElem?_eq_some_iff.mp hv).1
          rw [List.length_map] at this
          exact this
        have hw : (lay x i)[j]? = some (lay x i)[j] := List.getElem?_eq_getElem hj
        rw [List.getElem?_map, hw] at hv
        cases hv
        generalize (lay x i)[j] = u at hw
        obtain ⟨lu, _⟩ := lay_len i u (List.mem_of_getElem? hw)
        have lu2 : u.length = i := by simpa [Str.length] using lu
        refine ⟨_, rfl, .inl ⟨rfl, _, SqL.of hC5⟩, _, rfl, x, rfl, fun D nD => ?_⟩
        have DC : D ≠ C := fun z => by rw [z, hC5] at nD; cases nD
        have sD : ∀ {H9 : Hp}, (∀ b o, b ≠ D → H5 b = some o → H9 b = some o) → Same H5 H9 := fun z b o h => z b o (ne_of_none h nD) h
        have xsz : x.cps.toList.length = x.cps.size := by simp
        refine lc_it walk_str (fun l H9 => H9 D = some (.lst (((x.cps.toList.take l).map fun c => u ++ (⟨#[c]⟩ : Str)).map V.str)) ∧ ∀ b o, b ≠ D → H5 b = some o → H9 b = some o)
          ⟨upd_same, fun b o hb h => keep_new h nD⟩ (fun _ _ _ _ => trivial) ?_ ?_
        · rintro l y H9 H9' hl ⟨q1, q2⟩ ⟨rfl, c, hc, rfl⟩
          have hc' : x.cps.toList[l]? = some c := by simpa using hc
          refine ⟨rfl, tYes_if ?_⟩
          refine ⟨_, rfl, _, rfl, u, ⟨#[c]⟩, rfl, rfl, ?_, _, q1, ?_, ?_, fun b o hb h => by rw [upd_ne hb]; exact q2 b o hb h⟩
          · have : (⟨#[c]⟩ : Str).length = 1 := rfl
            omega
          · rw [List.length_map, List.length_map, List.length_take]
            have : x.length = x.cps.size := rfl
            omega
          · rw [upd_same, take_snoc hc', List.map_append, List.map_append]
            rfl
        · rintro H9 ⟨q1, q2⟩
          have et : x.cps.toList.take x.cps.size = x.cps.toList := List.take_of_length_le (by omega)
          rw [et] at q1
          have q1 : H9 D = some (.lst ((ext x u).map V.str)) := q1
          have hC9 := q2 _ _ (Ne.symm DC) hC5
          refine ⟨C, D, _, _, rfl, rfl, hC9, q1, ?_, ?_⟩
          · rw [List.length_map, List.length_map, ext_len]
            have h1 : (((lay x i).take j).flatMap (ext x)).length ≤ (lay x (i + 1)).length := by
              show _ ≤ ((lay x i).flatMap (ext x)).length
              rw [← List.take_append_drop j (lay x i)]
              rw [List.flatMap_append, List.length_append]
              rw [List.take_append_drop]
              omega
            have h2 := lay_card hx (i + 1)
            have h3 := pow_le5 (n := i + 1) (by omega)
            omega
          · refine ⟨_, _, rfl, ?_, fun b o hb h => ?_⟩
            · rw [upd_same, flat_snoc hw, List.map_append]
            · rw [upd_ne hb]
              exact q2 _ _ (fun z => by rw [z] at h; have := kp b o hb (by rw [z]; exact h); rw [z, nD] at this; cases this) (kp b o hb h)
      · rintro σ H5 ⟨v6, v7, rfl, hC5, kp⟩
        have et : (lay x i).take ((lay x i).map V.str).length = lay x i := by
          rw [List.length_map]
          exact List.take_length
        rw [et] at hC5
        have hC5 : H5 C = some (.lst ((lay x (i + 1)).map V.str)) := hC5
        have hA5 := kp _ _ (Ne.symm CA) hA4
        have c1 := short_card hx i
        have c2 := lay_card hx (i + 1)
        have c3 := pow_le5 (n := i + 1) (by omega)
        refine ⟨_, rfl, _, rfl, _, rfl, A2, C, _, _, rfl, rfl, hA5, hC5, (by rw [List.length_map, List.length_map]; omega), fun L2 nL2 => ?_⟩
        have s5 : Same H H5 := fun b o h => kp b o (ne_of_none h nCH) (s4 _ _ h)
        refine ⟨L2, C, _, _, _, _, rfl, ?_, keep_new hC5 nL2, free_of s5 nL2, Same.new s5 nL2⟩
        rw [upd_same, ← List.map_append]
        rfl
    · rintro σ H2 ⟨A2, B2, v4, v5, v6, v7, rfl, hA, hB, nA, s2⟩
      have en : ((n : Nat) : Int).toNat = n := by omega
      rw [en] at hA
      exact ⟨_, rfl, k A2 H2 hA nA s2⟩
end
end M3

set_option Elab.async false
set_option linter.all false
set_option maxRecDepth 100000
set_option maxHeartbeats 8000000
/-! # spelled, first_word_to -/
namespace M3
open PySem L2
abbrev sSpelled : Stmt := top 27
abbrev sFirstTo : Stmt := top 26
abbrev nSpelled : List Str := ["came", "state", "signs", "now", "letter"]
abbrev nFirstTo : List Str := ["table", "letters", "states", "marks", "found", "came", "at", "state", "letter", "goal"]
theorem scSpelled : FnScope nSpelled ["came", "state"] (defScope sSpelled) := ⟨rfl, rfl, rfl, by decide +kernel, rfl, by decide +kernel, by decide +kernel⟩
theorem scFirstTo : FnScope nFirstTo ["table", "letters", "states"] (defScope sFirstTo) := ⟨rfl, rfl, rfl, by decide +kernel, rfl, by decide +kernel, by decide +kernel⟩
/-- from which place each place was found, and by which letter -/
def CameIs (H : Hp) (kvs : List (Key × V)) (F : List (Nat × Str)) : Prop := ∀ (i : Nat) (z : Nat × Str), F[i]? = some z → (z.2 = "" ∧ valV kvs (kN z.1) = some .non) ∨
  ∃ (T : Addr) (k c : Nat) (y : Nat × Str), k < i ∧ F[k]? = some y ∧ z.2 = y.2 ++ (⟨#[c]⟩ : Str) ∧ valV kvs (kN z.1) = some (.ref T) ∧ H T = some (.tup [.int ((y.1 : Nat) : Int), .str ⟨#[c]⟩])
theorem CameIs.same {H H' : Hp} {kvs : List (Key × V)} {F : List (Nat × Str)} (h : CameIs H kvs F) (s : ∀ b ys, H b = some (.tup ys) → H' b = some (.tup ys)) : CameIs H' kvs F := fun i z e => by
  rcases h i z e with q | ⟨T, k, c, y, a1, a2, a3, a4, a5⟩
  · exact .inl q
  · exact .inr ⟨T, k, c, y, a1, a2, a3, a4, s _ _ a5⟩
def sgl (c : Nat) : Str := ⟨#[c]⟩
theorem join_sgl (cs : List Nat) : Txt.join "" (cs.map sgl) = ⟨cs.toArray⟩ := by
  rw [join_flat, List.flatMap_map]
  congr 1
  induction cs with
  | nil => rfl
  | cons c cs ih =>
    rw [List.flatMap_cons]
    have ih' : (cs.flatMap fun a => (sgl a).cps.toList) = cs := by simpa using congrArg Array.toList ih
    rw [ih']
    rfl
theorem sum_sgl : ∀ cs : List Nat, ((cs.map sgl).map (·.length)).sum = cs.length
  | [] => rfl
  | c :: cs => by
    have := sum_sgl cs
    show 1 + ((cs.map sgl).map (·.length)).sum = cs.length + 1
    omega
def spSpelled : Sp := fun vs H Q _ => ∃ (D : Addr) (i : Nat) (z : Nat × Str) (F : List (Nat × Str)) (kvs : List (Key × V)), vs = [.ref D, .int ((z.1 : Nat) : Int)] ∧ H D = some (.dK kvs) ∧ CameIs H kvs F ∧ F[i]? = some z ∧ (F.map Prod.fst).Nodup ∧ F.length ≤ 1000 ∧
  ∀ H' : Hp, Same H H' → Q (.str z.2) H'
section
variable {P : Program} {w : World} {K : PySem.W.Frag} {mg : Str → Option Value} {base : Heap}
theorem ok_spelled {f : Addr} {fd : FuncData} (F : Fun K "spelled" "spelled" sSpelled f fd) : FnOk P w K mg base CX0 1 f fd ["came", "state"] spSpelled := by
  refine F.ok scSpelled (fun vs H Q E h => ?_) (fun cdv A outer s H vs Q E hr h => ?_)
  · obtain ⟨D, i, z, F, kvs, rfl, _⟩ := h
    rfl
  · obtain ⟨D, i, z, F, kvs, rfl, hD, hC, hz, nd, fl, k⟩ := h
    have hu := hu_of hr
    refine ⟨_, pss_cons (ps_set (i := 2) scSpelled.nd rfl (Or.inl rfl) (pe_lst pa_nil))
      (pss_cons (ps_set (i := 3) scSpelled.nd rfl (Or.inl rfl) (pv 1))
      (pss_cons (ps_while PassesOwn.never (pt_cmpR op_notN (pe_dget hu (pv 0) (pv 3) (fun _ _ => rfl)) pe_non (nomark _))
        (pss_cons (ps_asg (pe_dget hu (pv 0) (pv 3) (fun _ _ => rfl)) (pg_tup rfl (pgs_cons (pg_name (i := 3) scSpelled.nd rfl (Or.inl rfl)) (pgs_cons (pg_name (i := 4) scSpelled.nd rfl (Or.inl rfl)) pgs_nil))))
        (pss_one (ps_expr (pe_bm PySem.F.plainAttrs_list PySem.F.slot_list_append PySem.F.type_list_append mt_append (pv 2) (pa_cons (pv 4) pa_nil))))))
      (pss_one (ps_ret (pe_join pe_str (pe_revL (pv 2))))))), ?_⟩
    refine ⟨(by show 0 ≤ sizeLine; decide), fun S nS => ?_⟩
    have nS0 : H S = none := nS
    have hS0 : (upd H S (.lst ([] : List V))) S = some (.lst ([] : List V)) := upd_same
    have s0 : Same H (upd H S (.lst ([] : List V))) := Same.new (Same.refl H) nS
    have zi : i < F.length := (List.getElem?_eq_some_iff.mp hz).1
    refine ⟨_, rfl, while_by (fun σ H' => ∃ (j : Nat) (y : Nat × Str) (cs : List Nat) (v : Option V), σ = [some (.ref D), some (.int ((z.1 : Nat) : Int)), some (.ref S), some (.int ((y.1 : Nat) : Int)), v] ∧ H' S = some (.lst (cs.map fun c => V.str (sgl c))) ∧
        F[j]? = some y ∧ cs.length + j ≤ i ∧ z.2.cps.toList = y.2.cps.toList ++ cs.reverse ∧ Same H H')
      (fun σ H' => match σ with | [_, _, _, some (.int q), _] => (F.map Prod.fst).idxOf q.toNat | _ => 0)
      ⟨i, z, [], none, rfl, hS0, hz, (by show 0 + i ≤ i; omega), by simp, s0⟩ ?_ ?_⟩
    · rintro σ H5 ⟨j, y, cs, v, rfl, hS, hy, lj, ez, sH⟩
      have hD5 := sH _ _ hD
      have yi : (F.map Prod.fst)[j]? = some y.1 := by
        rw [List.getElem?_map, hy]
        rfl
      have ij := idx_at nd yi
      rcases hC j y hy with ⟨e1, e2⟩ | ⟨T, k2, c, y2, a1, a2, a3, a4, a5⟩
      · have dg := DGet.k (k := kN y.1) hD5
        rw [e2] at dg
        refine ⟨_, rfl, _, rfl, D, _, rfl, dg, rfl, _, rfl, ?_⟩
        refine iteF ?_
        have er : (cs.map fun c => V.str (sgl c)).reverse = (cs.reverse.map sgl).map V.str := by
          rw [List.map_map, List.map_reverse]
          rfl
        refine ⟨⟨_, rfl⟩, _, rfl, S, _, rfl, SqL.of hS, fun p np => ?_⟩
        rw [er]
        refine ⟨"", p, cs.reverse.map sgl, rfl, rfl, .inl (SqL.of upd_same), ?_, ?_⟩
        · rw [sum_sgl, List.length_map, List.length_reverse]
          have e0 : ("" : Str).length = 0 := by decide +kernel
          rw [e0]
          omega
        · rw [join_sgl]
          have e0 : ("" : Str).cps.toList = [] := by decide +kernel
          have ez2 : (⟨cs.reverse.toArray⟩ : Str) = z.2 := str_ext (by
            rw [ez, e1, e0]
            rfl)
          rw [ez2]
          exact k _ (Same.new sH np)
      · have dg := DGet.k (k := kN y.1) hD5
        rw [a4] at dg
        refine ⟨_, rfl, _, rfl, D, _, rfl, dg, rfl, _, rfl, ?_⟩
        refine iteT ?_
        refine ⟨_, rfl, _, rfl, D, _, rfl, dg, T, _, rfl, SqT.of (sH _ _ a5), rfl, _, _, rfl, _, _, rfl, rfl, ?_⟩
        have y2i : (F.map Prod.fst)[k2]? = some y2.1 := by
          rw [List.getElem?_map, a2]
          rfl
        have ij2 := idx_at nd y2i
        refine ⟨_, rfl, .inl ⟨rfl, _, SqL.of hS⟩, _, rfl, S, _, _, rfl, rfl, hS, ?_, ⟨k2, y2, cs ++ [c], _, rfl, ?_, a2, ?_, ?_, ?_⟩, ?_⟩
        · rw [List.length_map]
          exact Nat.lt_of_le_of_lt (show cs.length ≤ 1000 by omega) (by decide)
        · rw [upd_same, List.map_append]
          rfl
        · rw [List.length_append]
          show cs.length + 1 + k2 ≤ i
          omega
        · rw [ez, a3, snoc_cps, List.reverse_append]
          simp
        · intro b o h
          rw [upd_ne (ne_of_none h nS0)]
          exact sH _ _ h
        · show (F.map Prod.fst).idxOf ((y2.1 : Nat) : Int).toNat < (F.map Prod.fst).idxOf ((y.1 : Nat) : Int).toNat
          rw [Int.toNat_natCast, Int.toNat_natCast, ij, ij2]
          exact a1
    · rintro σ H1 Q1 Q2 hq ⟨v1, hv1, v2, hv2, D1, v, e1, dg, e2, b, hb, hh⟩
      exact ⟨v1, hv1, v2, hv2, D1, v, e1, dg, e2, b, hb, hq _ _ hh⟩
end
end M3

set_option Elab.async false
set_option linter.all false
set_option maxRecDepth 100000
set_option maxHeartbeats 8000000
/-! # first_word_to -/
namespace M3
open PySem L2
theorem find_pre {F G : List (Nat × Str)} {p : Nat × Str → Bool} {i : Nat} {z : Nat × Str} (h : F <+: G) (e : F[i]? = some z) (pz : p z = true) (no : ∀ (j : Nat) (y : Nat × Str), j < i → F[j]? = some y → p y = false) : G.find? p = some z := by
  rw [List.find?_eq_some_iff_getElem]
  obtain ⟨hi, e1⟩ := List.getElem?_eq_some_iff.mp (pre_at h e)
  refine ⟨pz, i, hi, e1, fun j hj => ?_⟩
  have hF : j < F.length := Nat.lt_trans hj (List.getElem?_eq_some_iff.mp e).1
  have ej := pre_at h (List.getElem?_eq_getElem hF)
  have := no j F[j] hj (List.getElem?_eq_getElem hF)
  obtain ⟨hj2, e2⟩ := List.getElem?_eq_some_iff.mp ej
  rw [e2, this]
  rfl
theorem Way.pre {t : List (List Nat)} {x : Str} {m i : Nat} {F : List (Nat × Str)} (h : Way t x m i F) (tb : IsTab t t.length m) (hm : x.cps.size = m) (tk : t.length ≤ 1000) (hi : i ≤ F.length) : F <+: frs t x := by
  have := (frsL_end tb hm (100000 - i) i F h.ff (by have := h.ff.len; omega)).1
  rwa [h.eq] at this
/-- the first word that leads to one of these, as it is told -/
def toldTo (t : List (List Nat)) (x : Str) (es : List Nat) : V := match (frs t x).find? fun z => decide (z.1 ∈ es) with
  | some z => .str z.2
  | none => .non
def KeysIs (kvs : List (Key × V)) (F : List (Nat × Str)) : Prop := ∀ q : Nat, (valV kvs (kN q)).isSome = decide (q ∈ F.map Prod.fst)
def spFirstTo (K : PySem.W.Frag) : Sp := fun vs H Q _ => ∃ (a b : Addr) (us : List V) (t : List (List Nat)) (m : Nat) (x : Str) (es : List Nat), vs = [.ref a, .str x, .ref b] ∧ SqT K H a us ∧ Tups K H us t ∧ IsTab t t.length m ∧ 1 ≤ t.length ∧ t.length ≤ 1000 ∧ x.cps.size = m ∧ SqT K H b (nts es) ∧ es.length ≤ 1000 ∧
  ∀ H' : Hp, Same H H' → Q (toldTo t x es) H'
section
variable {P : Program} {w : World} {K : PySem.W.Frag} {mg : Str → Option Value} {base : Heap}
theorem ok_firstto {f g g2 : Addr} {fd gd gd2 : FuncData} (F : Fun K "first_word_to" "first_word_to" sFirstTo f fd) (G : Fun K "marked" "marked" sMarked g gd) (bG : Binds K gd ["states"] []) (mG : mg "marked" = some (.ref g))
    (G2 : Fun K "spelled" "spelled" sSpelled g2 gd2) (b2 : Binds K gd2 ["came", "state"] []) (m2 : mg "spelled" = some (.ref g2)) (M : TxM mg) (hZ : mg "zip" = none) : FnOk P w K mg base CX0 2 f fd ["table", "letters", "states"] (spFirstTo K) := by
  have GM : FnOk P w K mg base CX0 1 g gd ["states"] (spMarked K) := ok_marked G
  have GS : FnOk P w K mg base CX0 1 g2 gd2 ["came", "state"] spSpelled := ok_spelled G2
  refine F.ok scFirstTo (fun vs H Q E h => ?_) (fun cdv A outer s H vs Q E hr h => ?_)
  · obtain ⟨a, b, us, t, m, x, es, rfl, _⟩ := h
    rfl
  · obtain ⟨a, b, us, t, m, x, es, rfl, ha, hT, tb, t1, tk, hm, hb, he, k⟩ := h
    have hu := hu_of hr
    refine ⟨_, pss_cons (ps_set (i := 3) scFirstTo.nd rfl (Or.inl rfl) (pe_call GM hr rfl mG G.kp bG .nil pass0 (pa_cons (pv 2) pa_nil)))
      (pss_cons (ps_set (i := 4) scFirstTo.nd rfl (Or.inl rfl) (pe_lst (pa_cons pe_int pa_nil)))
      (pss_cons (ps_set (i := 5) scFirstTo.nd rfl (Or.inl rfl) (pe_disp (pps_cons pe_int pe_non pps_nil) (by rfl) (by rfl) (fun z => by cases z) (by decide)))
      (pss_cons (ps_set (i := 6) scFirstTo.nd rfl (Or.inl rfl) pe_int)
      (pss_cons (ps_while PassesOwn.never (pt_cmpR op_lt (pv 6) (pe_callB call_len_seq (by rfl) M.len PySem.boot_len (pa_cons (pv 4) pa_nil)) (nomark _))
        (pss_cons (ps_set (i := 7) scFirstTo.nd rfl (Or.inl rfl) (pe_ix ix_list (pv 4) (pv 6) (fun _ _ => rfl)))
        (pss_cons (ps_if (pt_cmp (pc_din hu (pv 7) (pv 3))) (pss_one (ps_ret (pe_call GS hr rfl m2 G2.kp b2 .nil pass0 (pa_cons (pv 5) (pa_cons (pv 7) pa_nil))))) pss_nil)
        (pss_cons (ps_for PassesOwn.never rfl (NvLT.pi_zipST rfl hZ (pa_cons (pv 1) (pa_cons (pe_ix ix_tup (pv 0) (pv 7) (fun _ _ => rfl)) pa_nil))) (pg_tup rfl (pgs_cons (pg_name (i := 8) scFirstTo.nd rfl (Or.inl rfl)) (pgs_cons (pg_name (i := 9) scFirstTo.nd rfl (Or.inl rfl)) pgs_nil)))
          (pss_one (ps_if (pt_cmp (pc_dnotin hu (pv 9) (pv 5)))
            (pss_cons (ps_dput hu (pv 5) (pv 9) (pe_tup (pa_cons (pv 7) (pa_cons (pv 8) pa_nil))) rfl)
            (pss_one (ps_expr (pe_bm PySem.F.plainAttrs_list PySem.F.slot_list_append PySem.F.type_list_append mt_append (pv 4) (pa_cons (pv 9) pa_nil))))) pss_nil)))
        (pss_one (ps_aug (i := 6) scFirstTo.nd rfl (.inl rfl) pe_int ip_add))))))
      (pss_one (ps_ret pe_non)))))), ?_⟩
    refine ⟨_, rfl, b, es, rfl, hb, he, fun MD mk H1 nM hM sI s1 => ?_⟩
    have ha := sqt_same s1 ha
    have hT := hT.same s1
    refine ⟨(by show 1 ≤ sizeLine; decide), fun l nl => ?_⟩
    intro D nD
    refine ⟨upd_same, [(.inl 0, .non)], rfl, (by show 1 ≤ 15; decide), ?_⟩
    rw [upd_upd]
    have lD : l ≠ D := fun z => by
      rw [← z, upd_same] at nD
      cases nD
    have nl0 : H1 l = none := nl
    have nD0 : H1 D = none := by
      rw [upd_ne (Ne.symm lD)] at nD
      exact nD
    have hl0 : (upd (upd H1 l (.lst [V.int 0])) D (.dK [((.inl 0 : Key), V.non)])) l = some (.lst (nts [0])) := by
      rw [upd_ne lD]
      exact upd_same
    have hD0 : (upd (upd H1 l (.lst [V.int 0])) D (.dK [((.inl 0 : Key), V.non)])) D = some (.dK [(kN 0, V.non)]) := upd_same
    have s2 : Same H1 (upd (upd H1 l (.lst [V.int 0])) D (.dK [((.inl 0 : Key), V.non)])) := Same.new (Same.new (Same.refl H1) nl) nD
    have k0 : KeysIs [(kN 0, V.non)] [((0 : Nat), ("" : Str))] := fun q => by
      by_cases e : q = 0
      · subst e
        have z : valV [(kN 0, V.non)] (kN 0) = some .non := valV_pos rfl
        rw [z]
        rfl
      · rw [valV_neg (fun z => e (kN_inj z).symm), valV_nil]
        have : q ∉ ([((0 : Nat), ("" : Str))] : List (Nat × Str)).map Prod.fst := fun z => e (List.mem_singleton.mp z)
        rw [decide_eq_false this]
        rfl
    refine while_by (fun σ H' => ∃ (F : List (Nat × Str)) (kvs : List (Key × V)) (at' : Nat) (v1 v2 v3 : Option V), σ = [some (.ref a), some (.str x), some (.ref b), some (.ref MD), some (.ref l), some (.ref D), some (.int (at' : Nat)), v1, v2, v3] ∧
        H' l = some (.lst (nts (F.map Prod.fst))) ∧ H' D = some (.dK kvs) ∧ KeysIs kvs F ∧ kvs.length ≤ F.length ∧ CameIs H' kvs F ∧ Way t x m at' F ∧ at' ≤ F.length ∧ (∀ (j : Nat) (y : Nat × Str), j < at' → F[j]? = some y → decide (y.1 ∈ es) = false) ∧ Same H1 H')
      (fun σ H' => match σ with | [_, _, _, _, _, _, some (.int i), _, _, _] => t.length - i.toNat | _ => 0)
      ⟨[((0 : Nat), ("" : Str))], [(kN 0, V.non)], 0, none, none, none, rfl, hl0, hD0, k0, Nat.le_refl _, ?_, Way.start t1, Nat.zero_le _, fun j y hj => by omega, s2⟩ ?_ ?_
    · intro i z e
      match i, e with
      | 0, e =>
        cases e
        exact .inl ⟨rfl, valV_pos rfl⟩
    · rintro σ H5 ⟨F, kvs, at', v1, v2, v3, rfl, hl, hD, hK, lk, hC, hw, ale, no, sH⟩
      have fl := hw.ff.len
      refine ⟨_, rfl, _, rfl, l, _, rfl, .inl (SqL.of hl), _, _, rfl, rfl, _, rfl, ?_⟩
      rw [nts_length, List.length_map]
      refine ite2 (fun h1 => ?_) (fun h1 => ?_)
      · have h1 : at' < F.length := by
          have := of_decide_eq_true h1
          omega
        have hz : F[at']? = some F[at'] := List.getElem?_eq_getElem h1
        generalize F[at'] = z at hz
        have q := hw.ff.lt _ (List.mem_map.mpr ⟨z, List.mem_of_getElem? hz, rfl⟩)
        have hnext := hw.next tb hm tk hz
        obtain ⟨b0, b1, b2⟩ := hT.2 z.1 _ (row_at q)
        obtain ⟨rl, rz⟩ := row_tab tb q
        generalize t.getD z.1 [] = r at b2 rl rz hnext
        have ei : atI (nts (F.map Prod.fst)) (at' : Int) = some (.int ((z.1 : Nat) : Int)) := by
          have e := nts_at (r := F.map Prod.fst) (j := at') (by rw [List.length_map]; exact h1)
          rw [e, List.getD_eq_getElem?_getD, List.getElem?_map, hz]
          rfl
        refine ⟨_, rfl, _, rfl, l, _, _, _, rfl, rfl, SqL.of hl, ei, ?_⟩
        have hM5 := sH _ _ hM
        refine ⟨_, rfl, _, rfl, MD, _, rfl, DGet.k (k := kN z.1) hM5, ?_⟩
        have sz : (valV mk (kN z.1)).isSome = decide (z.1 ∈ es) := sI z.1
        refine ⟨_, rfl, ?_⟩
        rw [sz]
        refine ite2 (fun he2 => ?_) (fun he2 => ?_)
        · refine ⟨_, rfl, _, rfl, D, at', z, F, kvs, rfl, hD, hC, hz, hw.ff.nd, (by omega), fun H6 s6 => ?_⟩
          have e : toldTo t x es = .str z.2 := by
            unfold toldTo
            rw [find_pre (hw.pre tb hm tk ale) hz he2 no]
          rw [e] at k
          exact k H6 ((s1.trans sH).trans s6)
        · have he3 : decide (z.1 ∈ es) = false := by
            cases h : decide (z.1 ∈ es) with
            | false => rfl
            | true => exact absurd h he2
          refine ⟨_, rfl, _, rfl, _, rfl, a, us, _, .ref b0, rfl, rfl, sqt_same sH ha, atI_nat b1, x, b0, nts r, rfl, sqt_same sH b2, ?_⟩
          have hmin : min x.cps.size (nts r).length = x.cps.size := by
            rw [nts_length]
            omega
          refine for_it (NvLT.walk_zipST (K := K) (x := x) (b := b0) (ys := nts r)) (fun j σ H' => ∃ (kvs : List (Key × V)) (v2 v3 : Option V), σ = [some (.ref a), some (.str x), some (.ref b), some (.ref MD), some (.ref l), some (.ref D), some (.int (at' : Nat)), some (.int (z.1 : Nat)), v2, v3] ∧
              H' l = some (.lst (nts ((rowF r x z.2 F j).map Prod.fst))) ∧ H' D = some (.dK kvs) ∧ KeysIs kvs (rowF r x z.2 F j) ∧ kvs.length ≤ (rowF r x z.2 F j).length ∧ CameIs H' kvs (rowF r x z.2 F j) ∧ Same H1 H')
            ⟨kvs, v2, v3, rfl, hl, hD, hK, lk, hC, sH⟩ (fun i σ H' _ ⟨_, _, _, _, _, _, _, _, _, z⟩ => sqt_same z b2) ?_ ?_
          · rintro j v σ H7 H8 hj ⟨kvs, v2, v3, rfl, hl, hD, hK, lk, hC, sH⟩ ⟨T, c, y, rfl, nT, rfl, hc, hy⟩
            rw [hmin] at hj
            obtain ⟨jr, rfl⟩ := nts_get hy
            have hc' : x.cps.toList[j]? = some c := by simpa using hc
            have ec : x.cps.toList.getD j 0 = c := getD_some' hc'
            have ndj := rowF_nodup (r := r) (x := x) (w := z.2) hw.ff.nd j
            have fl2 : (rowF r x z.2 F j).length ≤ t.length := by
              have := nodup_lt_len ndj (rowF_lt rz hw.ff.lt j (by omega))
              rwa [List.length_map] at this
            have gz : (rowF r x z.2 F j)[at']? = some z := pre_at (rowF_pre _) hz
            have er : rowF r x z.2 F (j + 1) = addF (r.getD j 0) z.2 c (rowF r x z.2 F j) := by
              show addF (r.getD j 0) z.2 (x.cps.toList.getD j 0) _ = _
              rw [ec]
            have al : at' < (rowF r x z.2 F j).length := (List.getElem?_eq_some_iff.mp gz).1
            rw [er]
            generalize rowF r x z.2 F j = G at hl hD hK lk hC ndj fl2 gz al ⊢
            generalize r.getD j 0 = q2 at hy ⊢
            refine ⟨T, _, rfl, SqT.of upd_same, rfl, _, _, rfl, _, _, rfl, rfl, ?_⟩
            have hl := keep_new (u := .tup [.str ⟨#[c]⟩, .int ((q2 : Nat) : Int)]) hl nT
            have hD := keep_new (u := .tup [.str ⟨#[c]⟩, .int ((q2 : Nat) : Int)]) hD nT
            have hC := hC.same (H' := upd H7 T (.tup [.str ⟨#[c]⟩, .int ((q2 : Nat) : Int)])) fun b ys h => keep_new h nT
            have sH : Same H1 (upd H7 T (.tup [.str ⟨#[c]⟩, .int ((q2 : Nat) : Int)])) := Same.new sH nT
            generalize upd H7 T (.tup [.str ⟨#[c]⟩, .int ((q2 : Nat) : Int)]) = H8 at hl hD hC sH ⊢
            refine ⟨_, rfl, _, rfl, D, _, rfl, DGet.k (k := kN q2) hD, _, rfl, ?_⟩
            have sz := hK q2
            by_cases mem : q2 ∈ G.map Prod.fst
            · rw [decide_eq_true mem] at sz
              rw [sz, addF_old mem]
              exact iteF ⟨kvs, _, _, rfl, hl, hD, hK, lk, hC, sH⟩
            · rw [decide_eq_false mem] at sz
              rw [sz, addF_new mem]
              refine iteT ?_
              have nv : valV kvs (kN q2) = none := by
                cases e : valV kvs (kN q2) with
                | none => rfl
                | some v =>
                  rw [e] at sz
                  cases sz
              refine ⟨_, rfl, _, rfl, (by show 2 ≤ sizeLine; decide), fun T2 nT2 => ?_⟩
              have hT2 : (upd H8 T2 (.tup [.int ((z.1 : Nat) : Int), .str ⟨#[c]⟩])) T2 = some (.tup [.int ((z.1 : Nat) : Int), .str ⟨#[c]⟩]) := upd_same
              have sT2 : Same H8 (upd H8 T2 (.tup [.int ((z.1 : Nat) : Int), .str ⟨#[c]⟩])) := Same.new (Same.refl H8) nT2
              generalize upd H8 T2 (.tup [.int ((z.1 : Nat) : Int), .str ⟨#[c]⟩]) = H9 at hT2 sT2 ⊢
              have hl := sT2 _ _ hl
              have hD := sT2 _ _ hD
              have hC := hC.same (H' := H9) fun b ys h => sT2 _ _ h
              have sH := sH.trans sT2
              refine ⟨_, rfl, _, rfl, D, _, rfl, DPut.k (k := kN q2) hD (Nat.lt_of_le_of_lt (show kvs.length ≤ 1000 by omega) (by decide)), ?_⟩
              have lD2 : l ≠ D := ne_of hl hD (fun z => by cases z)
              have hl2 : (upd H9 D (.dK (putK kvs (kN q2) (.ref T2)))) l = some (.lst (nts (G.map Prod.fst))) := by
                rw [upd_ne lD2]
                exact hl
              refine ⟨_, rfl, .inl ⟨rfl, _, SqL.of hl2⟩, _, rfl, l, _, _, rfl, rfl, hl2, ?_, putK kvs (kN q2) (.ref T2), _, _, rfl, ?_, ?_, fun q => ?_, ?_, fun i y ey => ?_, fun b' o h => ?_⟩
              · rw [nts_length, List.length_map]
                exact Nat.lt_of_le_of_lt (show G.length ≤ 1000 by omega) (by decide)
              · rw [upd_same, List.map_append, nts_append]
                rfl
              · rw [upd_ne (Ne.symm lD2)]
                exact upd_same
              · rw [valV_put, List.map_append]
                by_cases e : q = q2
                · subst e
                  rw [if_pos rfl]
                  simp
                · rw [if_neg (fun z => e (kN_inj z)), hK q]
                  by_cases mq : q ∈ G.map Prod.fst
                  · simp [mq]
                  · simp [mq, e]
              · rw [putK_new _ nv, List.length_append, List.length_append]
                show kvs.length + 1 ≤ G.length + 1
                omega
              · have tl : ∀ (T3 : Addr) (ys : List V), H9 T3 = some (.tup ys) → (upd (upd H9 D (.dK (putK kvs (kN q2) (.ref T2)))) l (.lst (nts (G.map Prod.fst) ++ [.int ((q2 : Nat) : Int)]))) T3 = some (.tup ys) := fun T3 ys h => by
                  rw [upd_ne (ne_of h hl (fun z => by cases z)), upd_ne (ne_of h hD (fun z => by cases z))]
                  exact h
                rcases snoc_at ey with ey | ⟨rfl, rfl⟩
                · have ny : kN y.1 ≠ kN q2 := fun z => mem (by
                    rw [← kN_inj z]
                    exact List.mem_map.mpr ⟨y, List.mem_of_getElem? ey, rfl⟩)
                  rcases hC i y ey with ⟨e1, e2⟩ | ⟨T3, k3, c3, y3, a1, a2, a3, a4, a5⟩
                  · refine .inl ⟨e1, ?_⟩
                    rw [valV_put, if_neg ny]
                    exact e2
                  · refine .inr ⟨T3, k3, c3, y3, a1, at_app a2 _, a3, ?_, tl _ _ a5⟩
                    rw [valV_put, if_neg ny]
                    exact a4
                · refine .inr ⟨T2, at', c, z, al, at_app gz _, rfl, ?_, tl _ _ hT2⟩
                  rw [valV_put, if_pos rfl]
              · rw [upd_ne (ne_of_none h nl0), upd_ne (ne_of_none h nD0)]
                exact sH _ _ h
          · rintro σ H7 ⟨kvs, v2, v3, rfl, hl, hD, hK, lk, hC, sH⟩
            rw [hmin] at hl hK lk hC
            have rlen := rowF_len (r := r) (x := x) (w := z.2) (F := F) x.cps.size
            refine ⟨_, rfl, _, _, rfl, rfl, ⟨_, kvs, at' + 1, _, _, _, rfl, hl, hD, hK, lk, hC, hnext, by omega, fun j y hj ey => ?_, sH⟩, ?_⟩
            · by_cases e : j = at'
              · subst e
                rw [pre_at (rowF_pre _) hz] at ey
                cases ey
                exact he3
              · have hjF : j < F.length := by omega
                have ej := List.getElem?_eq_getElem hjF
                rw [pre_at (rowF_pre _) ej] at ey
                cases ey
                exact no j _ (by omega) ej
            · show t.length - (at' + 1) < t.length - at'
              omega
      · have hge : F.length ≤ at' := by
          by_cases q : F.length ≤ at'
          · exact q
          · exact absurd (decide_eq_true (show ((at' : Nat) : Int) < ((F.length : Nat) : Int) by omega)) h1
        have := hw.stop hge
        subst this
        have e : toldTo t x es = .non := by
          unfold toldTo
          have : (frs t x).find? (fun z => decide (z.1 ∈ es)) = none := by
            rw [List.find?_eq_none]
            intro z hz
            obtain ⟨j, hj, ej⟩ := List.getElem_of_mem hz
            rw [no j z (by omega) (by rw [List.getElem?_eq_getElem hj, ej])]
            simp
          rw [this]
        rw [e] at k
        exact k H5 (s1.trans sH)
    · rintro σ H1 Q1 Q2 hq h
      obtain ⟨v1, hv1, v2, hv2, p, ys, hp, hs, i1, i2, c1, c2, b, hb, hh⟩ := h
      exact ⟨v1, hv1, v2, hv2, p, ys, hp, hs, i1, i2, c1, c2, b, hb, hq _ _ hh⟩
end
end M3

set_option Elab.async false
set_option linter.all false
set_option maxRecDepth 100000
set_option maxHeartbeats 8000000
/-! # An action repeated, until it comes again -/
namespace M3
open PySem L2
abbrev sRepeats : Stmt := top 38
abbrev nRepeats : List Str := ["action", "trail", "first_at", "goal"]
theorem scRepeats : FnScope nRepeats ["action"] (defScope sRepeats) := ⟨rfl, rfl, rfl, by decide +kernel, rfl, by decide +kernel, by decide +kernel⟩
/-- the powers of an action -/
def pw (g : List Nat) : Nat → List Nat
  | 0 => List.range g.length
  | k + 1 => comp (pw g k) g
theorem comp_length (fs gs : List Nat) : (comp fs gs).length = fs.length := by
  unfold comp
  rw [List.length_map]
theorem pw_length (g : List Nat) : ∀ k, (pw g k).length = g.length
  | 0 => List.length_range
  | k + 1 => by
    show (comp (pw g k) g).length = _
    rw [comp_length, pw_length g k]
theorem getD_lt {g : List Nat} {n : Nat} (h : ∀ q ∈ g, q < n) {q : Nat} (hq : q < g.length) : g.getD q 0 < n := by
  have e : g.getD q 0 = g[q] := by simp [List.getD, List.getElem?_eq_getElem hq]
  rw [e]
  exact h _ (List.getElem_mem hq)
theorem pw_lt {g : List Nat} (h : ∀ q ∈ g, q < g.length) : ∀ k, ∀ q ∈ pw g k, q < g.length
  | 0, q, hq => List.mem_range.mp hq
  | k + 1, q, hq => by
    have hq : q ∈ (pw g k).map fun q => g.getD q 0 := hq
    obtain ⟨z, hz, rfl⟩ := List.mem_map.mp hq
    exact getD_lt h (pw_lt h k z hz)
/-- the first powers, all of them different -/
def Apart (g : List Nat) (n : Nat) : Prop := ∀ i j, i < n → j < n → pw g i = pw g j → i = j
/-- the dict of the powers' places -/
structure Firsts (g : List Nat) (kvs : List (List Key × V)) (n : Nat) : Prop where
  only : ∀ (k : List Key) (v : V), valV kvs k = some v → ∃ i, i < n ∧ k = key (pw g i) ∧ v = .int ((i : Nat) : Int)
  has : ∀ i, i < n → (valV kvs (key (pw g i))).isSome = true
  len : kvs.length ≤ n
theorem Firsts.put {g : List Nat} {kvs : List (List Key × V)} {n : Nat} (h : Firsts g kvs n) : Firsts g (putK kvs (key (pw g n)) (.int ((n : Nat) : Int))) (n + 1) := by
  refine ⟨fun k v e => ?_, fun i hi => ?_, ?_⟩
  · rw [valV_put] at e
    by_cases c : k = key (pw g n)
    · rw [if_pos c] at e
      exact ⟨n, by omega, c, (Option.some.inj e).symm⟩
    · rw [if_neg c] at e
      obtain ⟨i, h1, h2, h3⟩ := h.only k v e
      exact ⟨i, by omega, h2, h3⟩
  · rw [valV_put]
    by_cases c : key (pw g i) = key (pw g n)
    · rw [if_pos c]
      rfl
    · rw [if_neg c]
      refine h.has i ?_
      by_cases q : i = n
      · rw [q] at c
        exact absurd rfl c
      · omega
  · have := putT_len (kvs := kvs) (k := key (pw g n)) (v := V.int ((n : Nat) : Int))
    have := h.len
    omega
def pws (g : List Nat) (n : Nat) : List (List Nat) := (List.range n).map (pw g)
theorem pws_at {g : List Nat} {n i : Nat} (h : i < n) : (pws g n)[i]? = some (pw g i) := by
  unfold pws
  rw [List.getElem?_map, List.getElem?_range h]
  rfl
theorem pws_length {g : List Nat} {n : Nat} : (pws g n).length = n := by
  unfold pws
  rw [List.length_map, List.length_range]
theorem pws_succ {g : List Nat} {n : Nat} : pws g (n + 1) = pws g n ++ [pw g n] := by
  unfold pws
  rw [List.range_succ, List.map_append]
  rfl
theorem at_last {xs : List V} {n : Nat} {v : V} (hl : xs.length = n + 1) (h : xs[n]? = some v) : atI xs (-1) = some v := by
  unfold atI
  have e : ixN xs.length (-1) = some n := by
    unfold ixN
    rw [if_neg (by omega), if_pos (by omega)]
    congr 1
    omega
  rw [e]
  exact h
def spRepeats (K : PySem.W.Frag) : Sp := fun vs H Q _ => ∃ (a : Addr) (g : List Nat) (i0 j0 : Nat), vs = [.ref a] ∧ SqT K H a (nts g) ∧ (∀ q ∈ g, q < g.length) ∧ g.length ≤ 1000 ∧ i0 < j0 ∧ j0 ≤ 100000 ∧ pw g i0 = pw g j0 ∧
  ∀ (p L : Addr) (us : List V) (n b : Nat) (H' : Hp), H' p = some (.tup [.ref L, .int (b : Nat)]) → H' L = some (.lst us) → us.length = n → b < n → n ≤ 100000 → Apart g n → pw g n = pw g b → Same H H' → Q (.ref p) H'
section
variable {P : Program} {w : World} {K : PySem.W.Frag} {mg : Str → Option Value} {base : Heap}
theorem ok_repeats {f g1 : Addr} {fd gd : FuncData} (F : Fun K "repeats" "repeats" sRepeats f fd) (G : Fun K "composed" "composed" sComposed g1 gd) (bG : Binds K gd ["first", "second"] []) (mG : mg "composed" = some (.ref g1)) (M : TxM mg) :
    FnOk P w K mg base CX0 2 f fd ["action"] (spRepeats K) := by
  have GC : FnOk P w K mg base CX0 1 g1 gd ["first", "second"] (spComposed K) := ok_composed G M
  refine F.ok scRepeats (fun vs H Q E h => ?_) (fun cdv A outer s H vs Q E hr h => ?_)
  · obtain ⟨a, g, i0, j0, rfl, _⟩ := h
    rfl
  · obtain ⟨a, g, i0, j0, rfl, ha, hq, hl, ij, hj, eij, k⟩ := h
    have hu := hu_of hr
    have hu0 : (A.deeper (PyProof.Rows.envOfC "repeats" (defScope sRepeats) s.heap.objs.size f cdv)).units < cLine := Nat.lt_of_succ_lt hu
    refine ⟨_, pss_cons (ps_set (i := 1) scRepeats.nd rfl (Or.inl rfl) (pe_lst (pa_cons (pe_tupRg rfl rfl M.tuple (prg_1 rfl M.range (pe_callB call_len_seq (by rfl) M.len PySem.boot_len (pa_cons (pv 0) pa_nil)))) pa_nil)))
      (pss_cons (ps_set (i := 2) scRepeats.nd rfl (Or.inl rfl) (NvQ.pe_disp1 hu0 (pe_ix ix_list (pv 1) pe_int (fun _ _ => rfl)) pe_int))
      (pss_one (ps_while PassesOwn.never (pt_val pe_bl)
        (pss_cons (ps_set (i := 3) scRepeats.nd rfl (Or.inl rfl) (pe_call GC hr rfl mG G.kp bG .nil pass0 (pa_cons (pe_ix ix_list (pv 1) (pe_un un_neg pe_int) (fun _ _ => rfl)) (pa_cons (pv 0) pa_nil))))
        (pss_cons (ps_if (pt_cmp (pc_din hu (pv 3) (pv 2))) (pss_one (ps_ret (pe_tup (pa_cons (pv 1) (pa_cons (pe_dget hu (pv 2) (pv 3) (fun _ _ => rfl)) pa_nil))))) pss_nil)
        (pss_cons (ps_dput hu (pv 2) (pv 3) (pe_callB call_len_seq (by rfl) M.len PySem.boot_len (pa_cons (pv 1) pa_nil)) rfl)
        (pss_one (ps_expr (pe_bm PySem.F.plainAttrs_list PySem.F.slot_list_append PySem.F.type_list_append mt_append (pv 1) (pa_cons (pv 3) pa_nil)))))))))), ?_⟩
    have free : ∀ {H9 : Hp} {q : Addr}, Same H H9 → H9 q = none → H q = none := fun {H9 q} sx hq => by
      cases e : H q with
      | none => rfl
      | some o =>
        have := sx _ _ e
        rw [hq] at this
        cases this
    refine ⟨_, rfl, a, _, rfl, .inr ha, _, rfl, ?_⟩
    rw [nts_length]
    refine ⟨.of_le (by decide) (by omega) (by decide) (by omega), fun p0 np => ?_⟩
    rw [rgV_nats]
    refine ⟨(by show 1 ≤ sizeLine; decide), fun LT nLT => ?_⟩
    have s1 : Same H (upd H p0 (.tup (nts (List.range g.length)))) := Same.new (Same.refl H) np
    have fLT : H LT = none := free s1 nLT
    have hT2 : (upd (upd H p0 (.tup (nts (List.range g.length)))) LT (.lst [.ref p0])) LT = some (.lst [.ref p0]) := upd_same
    have hp2 : (upd (upd H p0 (.tup (nts (List.range g.length)))) LT (.lst [.ref p0])) p0 = some (.tup (nts (List.range g.length))) := keep_new upd_same nLT
    have s2 : Same H (upd (upd H p0 (.tup (nts (List.range g.length)))) LT (.lst [.ref p0])) := Same.new s1 nLT
    generalize upd (upd H p0 (.tup (nts (List.range g.length)))) LT (.lst [.ref p0]) = H2 at hT2 hp2 s2 ⊢
    intro LF nLF
    have fLF : H LF = none := free s2 nLF
    refine ⟨_, rfl, LT, [.ref p0], 0, .ref p0, rfl, rfl, SqL.of (keep_new hT2 nLF), rfl, p0, key (List.range g.length), .int 0, rfl, upd_same, by rw [key_tup]; exact keep_new hp2 nLF, ?_⟩
    rw [upd_upd]
    have hF3 : (upd H2 LF (.dT [(key (List.range g.length), .int 0)])) LF = some (.dT [(key (List.range g.length), .int 0)]) := upd_same
    have hT3 := keep_new (u := .dT [(key (List.range g.length), .int 0)]) hT2 nLF
    have hp3 := keep_new (u := .dT [(key (List.range g.length), .int 0)]) hp2 nLF
    have s3 : Same H (upd H2 LF (.dT [(key (List.range g.length), .int 0)])) := Same.new s2 nLF
    generalize upd H2 LF (.dT [(key (List.range g.length), .int 0)]) = H3 at hF3 hT3 hp3 s3 ⊢
    clear hT2 hp2 s2 s1 nLF nLT np
    have small : ∀ n, Apart g n → n ≤ j0 := fun n ap => by
      by_cases c : n ≤ j0
      · exact c
      · have := ap i0 j0 (by omega) (by omega) eij
        omega
    refine while_by (fun σ H' => ∃ (n : Nat) (us : List V) (kvs : List (List Key × V)) (v : Option V), σ = [some (.ref a), some (.ref LT), some (.ref LF), v] ∧ H' LT = some (.lst us) ∧ H' LF = some (.dT kvs) ∧ RowsA H' us (pws g (n + 1)) ∧ Firsts g kvs (n + 1) ∧ Apart g (n + 1) ∧ Same H H')
      (fun σ H' => match H' LT with | some (.lst us) => j0 + 1 - us.length | _ => 0)
      ⟨0, [.ref p0], _, none, rfl, hT3, hF3, ?_, ?_, ?_, s3⟩ ?_ ?_
    · exact ⟨rfl, fun i r e => by
        match i, e with
        | 0, e => exact ⟨p0, rfl, by cases e; exact hp3⟩⟩
    · refine ⟨fun k v e => ?_, fun i hi => ?_, Nat.le_refl _⟩
      · by_cases c : key (List.range g.length) = k
        · rw [valV_pos c] at e
          exact ⟨0, by omega, c.symm, (Option.some.inj e).symm⟩
        · rw [valV_neg c, valV_nil] at e
          cases e
      · have e : i = 0 := by omega
        subst e
        have z : valV [(key (List.range g.length), V.int 0)] (key (pw g 0)) = some (.int 0) := valV_pos rfl
        rw [z]
        rfl
    · intro i j hi hj _
      omega
    · rintro σ H5 ⟨n, us, kvs, v, rfl, hT, hF, RA, FA, AP, sH⟩
      refine ⟨_, rfl, iteT ?_⟩
      have hT5 := hT
      have nj := small _ AP
      have lus : us.length = n + 1 := by rw [RA.1, pws_length]
      obtain ⟨bq, b1, b2⟩ := RA.2 n _ (pws_at (Nat.lt_succ_self n))
      refine ⟨_, rfl, _, rfl, LT, us, _, _, rfl, rfl, SqL.of hT, at_last lus b1, _, rfl, bq, a, pw g n, g, rfl, SqT.of b2, sqt_same sH ha, pw_lt hq n, by rw [pw_length]; exact hl, fun q H6 nq hq6 s6 => ?_⟩
      have hq6 : H6 q = some (.tup (nts (pw g (n + 1)))) := hq6
      have hT := s6 _ _ hT
      have hF := s6 _ _ hF
      have RA := RA.to (H' := H6) (fun b ys h => s6 _ _ h)
      have sH := sH.trans s6
      have hk : H6 q = some (.tup ((key (pw g (n + 1))).map kV)) := by rw [key_tup]; exact hq6
      refine ⟨_, rfl, _, rfl, LF, _, rfl, DGet.t (k := key (pw g (n + 1))) hF hk, _, rfl, ?_⟩
      have sz : (1000000 : Nat) < sizeLine := by decide
      cases e : valV kvs (key (pw g (n + 1))) with
      | some v =>
        refine iteT ?_
        obtain ⟨b, hb, eb, rfl⟩ := FA.only _ _ e
        have eb := key_inj eb
        have G : DGet H6 LF (.ref q) (some (.int (b : Nat))) := by
          have z := DGet.t (k := key (pw g (n + 1))) hF hk
          rw [e] at z
          exact z
        refine ⟨_, rfl, _, rfl, _, rfl, LF, _, rfl, G, (by show 2 ≤ sizeLine; decide), fun p np => ?_⟩
        exact k p LT us (n + 1) b _ upd_same (keep_new hT np) lus hb (by omega) AP eb (Same.new sH np)
      | none =>
        refine iteF ?_
        have new : ∀ i, i < n + 1 → pw g i ≠ pw g (n + 1) := fun i hi z => by
          have := FA.has i hi
          rw [z, e] at this
          cases this
        have AP2 : Apart g (n + 1 + 1) := fun i j hi hj z => by
          by_cases c1 : i = n + 1
          · by_cases c2 : j = n + 1
            · omega
            · rw [c1] at z
              exact absurd z.symm (new j (by omega))
          · by_cases c2 : j = n + 1
            · rw [c2] at z
              exact absurd z (new i (by omega))
            · exact AP i j (by omega) (by omega) z
        have nj2 := small _ AP2
        refine ⟨_, rfl, LT, us, rfl, .inl (SqL.of hT), _, rfl, _, rfl, LF, _, rfl, DPut.t hF hk (by have := FA.len; omega), ?_⟩
        rw [lus]
        have TF : LT ≠ LF := ne_of hT hF (fun z => by cases z)
        have qT : q ≠ LT := ne_of hq6 hT (fun z => by cases z)
        have qF : q ≠ LF := ne_of hq6 hF (fun z => by cases z)
        have hTa : (upd H6 LF (.dT (putK kvs (key (pw g (n + 1))) (.int ((n + 1 : Nat) : Int))))) LT = some (.lst us) := by rw [upd_ne TF]; exact hT
        refine ⟨_, rfl, .inl ⟨rfl, _, SqL.of hTa⟩, _, rfl, LT, us, .ref q, rfl, rfl, hTa, (by omega), ?_⟩
        refine ⟨⟨n + 1, us ++ [.ref q], _, _, rfl, upd_same, ?_, ?_, FA.put, AP2, ?_⟩, ?_⟩
        · rw [upd_ne (Ne.symm TF)]
          exact upd_same
        · rw [pws_succ]
          refine (RA.to fun b ys h => ?_).snoc ?_
          · rw [upd_ne (ne_of h hT (fun z => by cases z)), upd_ne (ne_of h hF (fun z => by cases z))]
            exact h
          · rw [upd_ne qT, upd_ne qF]
            exact hq6
        · intro b o h
          rw [upd_ne (ne_of_none h fLT), upd_ne (ne_of_none h fLF)]
          exact sH _ _ h
        · rw [upd_same, hT5]
          show j0 + 1 - (us ++ [V.ref q]).length < j0 + 1 - us.length
          rw [List.length_append]
          show j0 + 1 - (us.length + 1) < j0 + 1 - us.length
          omega
    · rintro σ H1 Q1 Q2 hq h
      obtain ⟨b, hb, hh⟩ := h
      exact ⟨b, hb, hq _ _ hh⟩
end
end M3

set_option Elab.async false
set_option linter.all false
set_option maxRecDepth 100000
set_option maxHeartbeats 8000000
/-! # Drawn ways to lead, by their sort -/
namespace M3
open PySem L2
/-- what the sort of a drawn action tells -/
structure SortIs (i : Int) (xs : List Nat) : Prop where
  up : i = 1 → ∀ j, j < xs.length → j ≤ xs.getD j 0
  one : i = 2 → ∃ c, ∀ z ∈ xs, z = c
  id : i = 4 → xs = List.range xs.length
  asc : i = 5 → xs.Pairwise (· ≤ ·)
theorem yes_i {i k : Int} (c : decide (V.int i = V.int k) = true) : i = k := by
  have := of_decide_eq_true c
  injection this
theorem no_i {i k : Int} (c : ¬ decide (V.int i = V.int k) = true) : i ≠ k := fun e => c (by rw [e]; exact decide_eq_true rfl)
theorem si1 {i : Int} {xs : List Nat} (c : decide (V.int i = V.int 1) = true) (h : ∀ j, j < xs.length → j ≤ xs.getD j 0) : SortIs i xs := by
  have e := yes_i c
  exact ⟨fun _ => h, fun z => by omega, fun z => by omega, fun z => by omega⟩
theorem si2 {i : Int} {xs : List Nat} {y : Nat} (c : decide (V.int i = V.int 2) = true) (h : ∀ z ∈ xs, z = y) : SortIs i xs := by
  have e := yes_i c
  exact ⟨fun z => by omega, fun _ => ⟨y, h⟩, fun z => by omega, fun z => by omega⟩
theorem si3 {i : Int} {xs : List Nat} (c : decide (V.int i = V.int 3) = true) : SortIs i xs := by
  have e := yes_i c
  exact ⟨fun z => by omega, fun z => by omega, fun z => by omega, fun z => by omega⟩
theorem si4 {i : Int} {n : Nat} (c : decide (V.int i = V.int 4) = true) : SortIs i (List.range n) := by
  have e := yes_i c
  exact ⟨fun z => by omega, fun z => by omega, fun _ => by rw [List.length_range], fun z => by omega⟩
theorem si5 {i : Int} {zs : List Nat} (c : decide (V.int i = V.int 5) = true) (h : (zs.map Int.ofNat).Pairwise (fun a b => a ≤ b)) : SortIs i zs := by
  have e := yes_i c
  refine ⟨fun z => by omega, fun z => by omega, fun z => by omega, fun _ => ?_⟩
  rw [List.pairwise_map] at h
  exact h.imp fun {a b} q => Int.ofNat_le.mp q
theorem sin {i : Int} {xs : List Nat} (c1 : ¬ decide (V.int i = V.int 1) = true) (c2 : ¬ decide (V.int i = V.int 2) = true) (c4 : ¬ decide (V.int i = V.int 4) = true) (c5 : ¬ decide (V.int i = V.int 5) = true) : SortIs i xs :=
  ⟨fun z => absurd z (no_i c1), fun z => absurd z (no_i c2), fun z => absurd z (no_i c4), fun z => absurd z (no_i c5)⟩
theorem ge_snoc {xs : List Nat} {x : Nat} (h : ∀ j, j < xs.length → j ≤ xs.getD j 0) (hx : xs.length ≤ x) : ∀ j, j < (xs ++ [x]).length → j ≤ (xs ++ [x]).getD j 0 := by
  intro j hj
  rw [List.length_append] at hj
  by_cases c : j < xs.length
  · have := h j c
    rw [List.getD_eq_getElem?_getD, List.getElem?_append_left c, ← List.getD_eq_getElem?_getD]
    exact this
  · have e : j = xs.length := by
      have hj : j < xs.length + 1 := hj
      omega
    subst e
    rw [List.getD_eq_getElem?_getD, List.getElem?_append_right (Nat.le_refl _), Nat.sub_self]
    exact hx
theorem eq_snoc {xs : List Nat} {x y : Nat} (h : ∀ z ∈ xs, z = y) (hx : x = y) : ∀ z ∈ xs ++ [x], z = y := fun z hz => by
  rcases List.mem_append.mp hz with q | q
  · exact h z q
  · rw [List.mem_singleton.mp q]
    exact hx
def spActionS : Sp := fun vs H Q _ => ∃ (d : Addr) (n : Nat) (i : Int), vs = [.ref d, .int n, .int i] ∧ Dz H d ∧ 0 < n ∧ n ≤ 10 ∧
  ∀ (xs : List Nat) (p : Addr) (H' : Hp), xs.length = n → (∀ x ∈ xs, x < n) → SortIs i xs → H p = none → H' p = some (.lst (nts xs)) → Dz H' d → Still d H H' → Q (.ref p) H'
/-- the column c of a table: where the letter leads each place -/
def colOf (t : List (List Nat)) (c : Nat) : List Nat := (List.range t.length).map fun q => (t.getD q []).getD c 0
theorem cols_at {rs : List (List Nat)} {n c : Nat} (h : ∀ r ∈ rs, r.length = n) (hc : c < rs.length) : colOf ((List.range n).map (col rs)) c = rs[c] := by
  have hn := h rs[c] (List.getElem_mem hc)
  unfold colOf
  refine List.ext_getElem ?_ fun j h1 h2 => ?_
  · rw [List.length_map, List.length_range, List.length_map, List.length_range, hn]
  · rw [List.getElem_map, List.getElem_range]
    have hj : j < n := by rw [← hn]; exact h2
    have e1 : ((List.range n).map (col rs)).getD j [] = col rs j := by
      rw [List.getD_eq_getElem?_getD, List.getElem?_map, List.getElem?_range hj]
      rfl
    rw [e1]
    unfold col
    rw [List.getD_eq_getElem?_getD, List.getElem?_map, List.getElem?_eq_getElem hc]
    show rs[c].getD j 0 = rs[c][j]
    rw [List.getD_eq_getElem?_getD, List.getElem?_eq_getElem h2]
    rfl
theorem cols_sort {rs : List (List Nat)} {n c : Nat} {ss : List Int} (h : ∀ r ∈ rs, (r.length = n ∧ ∀ z ∈ r, z < n) ∧ ∃ i ∈ ss, SortIs i r) (hc : c < rs.length) : ∃ i ∈ ss, SortIs i (colOf ((List.range n).map (col rs)) c) := by
  rw [cols_at (fun r hr => (h r hr).1.1) hc]
  exact (h rs[c] (List.getElem_mem hc)).2
def spTableS (K : PySem.W.Frag) : Sp := fun vs H Q _ => ∃ (d a : Addr) (x : Str) (n : Nat) (ss : List Int), vs = [.ref d, .str x, .int n, .ref a] ∧ Dz H d ∧ 0 < n ∧ n ≤ 10 ∧ x.length ≤ 10 ∧ SqL K H a (ss.map V.int) ∧ a ≠ d ∧ 0 < ss.length ∧ ss.length < 1000 ∧
  ∀ (t : List (List Nat)) (us : List V) (p : Addr) (H' : Hp), IsTab t n x.length → (∀ c, c < x.length → ∃ i ∈ ss, SortIs i (colOf t c)) → H p = none → p ≠ d → H' p = some (.lst us) → RowsT d p H' us t → Dz H' d → Still d H H' → Q (.ref p) H'
section
variable {P : Program} {w : World} {K : PySem.W.Frag} {mg : Str → Option Value} {base : Heap}
end
end M3

set_option Elab.async false
set_option linter.all false
set_option maxRecDepth 100000
set_option maxHeartbeats 8000000
/-! # Tables that never turn -/
namespace M3
open PySem L2
theorem not_turned {g : List Nat} (h : ∀ q k, q < g.length → its g q (k + 1) = q → g.getD q 0 = q) : turned g = none := by
  unfold turned
  refine find_none fun q hq => ?_
  unfold turnedB comesB
  rw [Bool.and_eq_false_iff]
  by_cases c : g.getD q 0 = q
  · exact .inl (decide_eq_false fun z => z c)
  · refine .inr ?_
    rw [List.any_eq_false]
    intro k _
    rw [decide_eq_true_eq]
    exact fun e => c (h q k hq e)
/-- where a column leads -/
def stp (t : List (List Nat)) (c q : Nat) : Nat := (t.getD q []).getD c 0
theorem stp_lt {t : List (List Nat)} {m c q : Nat} (tb : IsTab t t.length m) (hc : c < m) (hq : q < t.length) : stp t c q < t.length := by
  have e := tb.2 t[q] (List.getElem_mem hq)
  unfold stp
  have ed : t.getD q [] = t[q] := by simp [List.getD, List.getElem?_eq_getElem hq]
  rw [ed]
  have hc2 : c < t[q].length := by rw [e.1]; exact hc
  have eg : t[q].getD c 0 = t[q][c] := by simp [List.getD, List.getElem?_eq_getElem hc2]
  rw [eg]
  exact e.2 _ (List.getElem_mem hc2)
theorem goes_cons {t : List (List Nat)} {x : Str} {q c : Nat} {cs : List Nat} : goes t x q (c :: cs) = goes t x (stp t (x.cps.toList.idxOf c) q) cs := rfl
theorem ix_lt {x : Str} {m c : Nat} (hm : x.cps.toList.length = m) (hc : c ∈ x.cps.toList) : x.cps.toList.idxOf c < m := by
  rw [← hm]
  exact List.idxOf_lt_length_of_mem hc
def MonoT (t : List (List Nat)) (m : Nat) : Prop := ∀ c, c < m → ∀ a b, a ≤ b → b < t.length → stp t c a ≤ stp t c b
def ExpT (t : List (List Nat)) (m : Nat) : Prop := ∀ c, c < m → (∀ q, q < t.length → q ≤ stp t c q) ∨ ∃ k, ∀ q, q < t.length → stp t c q = k
theorem mono_goes {t : List (List Nat)} {x : Str} {m : Nat} (tb : IsTab t t.length m) (hm : x.cps.toList.length = m) (M : MonoT t m) : ∀ (cs : List Nat), (∀ c ∈ cs, c ∈ x.cps.toList) → ∀ a b, a ≤ b → b < t.length → goes t x a cs ≤ goes t x b cs
  | [], _, a, b, h, _ => h
  | c :: cs, hw, a, b, h, hb => by
    rw [goes_cons, goes_cons]
    have hc := ix_lt hm (hw c List.mem_cons_self)
    exact mono_goes tb hm M cs (fun d hd => hw d (List.mem_cons_of_mem _ hd)) _ _ (M _ hc a b h hb) (stp_lt tb hc hb)
theorem exp_goes {t : List (List Nat)} {x : Str} {m : Nat} (tb : IsTab t t.length m) (hm : x.cps.toList.length = m) (M : ExpT t m) : ∀ (cs : List Nat), (∀ c ∈ cs, c ∈ x.cps.toList) → (∀ q, q < t.length → q ≤ goes t x q cs) ∨ ∃ k, ∀ q, q < t.length → goes t x q cs = k
  | [], _ => .inl fun q _ => Nat.le_refl _
  | c :: cs, hw => by
    have hc := ix_lt hm (hw c List.mem_cons_self)
    have ih := exp_goes tb hm M cs fun d hd => hw d (List.mem_cons_of_mem _ hd)
    rcases M _ hc with e | ⟨k, e⟩
    · rcases ih with f | ⟨k, f⟩
      · refine .inl fun q hq => ?_
        rw [goes_cons]
        exact Nat.le_trans (e q hq) (f _ (stp_lt tb hc hq))
      · refine .inr ⟨k, fun q hq => ?_⟩
        rw [goes_cons]
        exact f _ (stp_lt tb hc hq)
    · refine .inr ⟨goes t x k cs, fun q hq => ?_⟩
      rw [goes_cons, e q hq]
theorem act_pt {t : List (List Nat)} {x : Str} {cs : List Nat} {q : Nat} (h : q < t.length) : (act t x cs).getD q 0 = goes t x q cs := by
  refine getD_some' ?_
  unfold act
  rw [List.getElem?_map, List.getElem?_range h]
  rfl
theorem its_act {t : List (List Nat)} {x : Str} {m q : Nat} {cs : List Nat} (tb : IsTab t t.length m) (hm : x.cps.toList.length = m) (hw : ∀ c ∈ cs, c ∈ x.cps.toList) (hq : q < t.length) : ∀ k, its (act t x cs) q k < t.length ∧ its (act t x cs) q (k + 1) = goes t x (its (act t x cs) q k) cs := by
  have la : (act t x cs).length = t.length := by
    unfold act
    rw [List.length_map, List.length_range]
  intro k
  have h := its_lt (g := act t x cs) (q := q) (fun z hz => by rw [la]; exact act_lt tb hm hw z hz) (by rw [la]; exact hq) k
  rw [la] at h
  exact ⟨h, act_pt h⟩
theorem calm_mono {t : List (List Nat)} {x : Str} {m : Nat} {cs : List Nat} (tb : IsTab t t.length m) (hm : x.cps.toList.length = m) (M : MonoT t m) (hw : ∀ c ∈ cs, c ∈ x.cps.toList) : turned (act t x cs) = none := by
  have la : (act t x cs).length = t.length := by
    unfold act
    rw [List.length_map, List.length_range]
  refine not_turned fun q k hq e => ?_
  rw [la] at hq
  rw [act_pt hq]
  have st := fun j => its_act (cs := cs) tb hm hw hq j
  have g1 : its (act t x cs) q 1 = goes t x q cs := (st 0).2
  rcases Nat.lt_trichotomy (goes t x q cs) q with c | c | c
  · have : ∀ j, its (act t x cs) q (j + 1) ≤ goes t x q cs := by
      intro j
      induction j with
      | zero => rw [g1]; exact Nat.le_refl _
      | succ j ih =>
        rw [(st (j + 1)).2]
        exact mono_goes tb hm M cs hw _ _ (by omega) hq
    have := this k
    omega
  · exact c
  · have : ∀ j, goes t x q cs ≤ its (act t x cs) q (j + 1) := by
      intro j
      induction j with
      | zero => rw [g1]; exact Nat.le_refl _
      | succ j ih =>
        rw [(st (j + 1)).2]
        exact mono_goes tb hm M cs hw _ _ (by omega) (st (j + 1)).1
    have := this k
    omega
theorem calm_exp {t : List (List Nat)} {x : Str} {m : Nat} {cs : List Nat} (tb : IsTab t t.length m) (hm : x.cps.toList.length = m) (M : ExpT t m) (hw : ∀ c ∈ cs, c ∈ x.cps.toList) : turned (act t x cs) = none := by
  have la : (act t x cs).length = t.length := by
    unfold act
    rw [List.length_map, List.length_range]
  refine not_turned fun q k hq e => ?_
  rw [la] at hq
  rw [act_pt hq]
  have st := fun j => its_act (cs := cs) tb hm hw hq j
  have g1 : its (act t x cs) q 1 = goes t x q cs := (st 0).2
  rcases exp_goes tb hm M cs hw with f | ⟨c, f⟩
  · have : ∀ j, goes t x q cs ≤ its (act t x cs) q (j + 1) := by
      intro j
      induction j with
      | zero => rw [g1]; exact Nat.le_refl _
      | succ j ih =>
        rw [(st (j + 1)).2]
        exact Nat.le_trans ih (f _ (st (j + 1)).1)
    have h1 := this k
    have h2 := f q hq
    omega
  · have h1 := (st k).2
    rw [f _ (st k).1] at h1
    rw [f q hq]
    omega
/-- no action turns, so no turn is found -/
theorem among_calm {t : List (List Nat)} {x : Str} {m : Nat} (R : RightB x t m) (h : ∀ cs : List Nat, (∀ c ∈ cs, c ∈ x.cps.toList) → turned (act t x cs) = none) : among (bfs t x 256) = none := by
  have FA := bfs_found (mo := 256) R.tb R.st R.m2
  unfold among
  rw [List.findSome?_eq_none_iff]
  intro z hz
  obtain ⟨i, hi, ei⟩ := List.getElem_of_mem hz
  obtain ⟨_, _, h3, h4, _⟩ := FA i z (by rw [List.getElem?_eq_getElem hi, ei])
  rw [h4, h _ h3]
  rfl
theorem sort_mono {t : List (List Nat)} {m : Nat} {ss : List Int} (h : ∀ c, c < m → ∃ i ∈ ss, SortIs i (colOf t c)) (hs : ∀ i ∈ ss, i = 2 ∨ i = 4 ∨ i = 5) : MonoT t m := by
  intro c hc a b ab hb
  obtain ⟨i, hi, S⟩ := h c hc
  have lc : (colOf t c).length = t.length := by
    unfold colOf
    rw [List.length_map, List.length_range]
  have at_ : ∀ q (hq : q < t.length), (colOf t c)[q]'(by rw [lc]; exact hq) = stp t c q := fun q hq => by
    unfold colOf stp
    rw [List.getElem_map, List.getElem_range]
  have ha : a < t.length := by omega
  rcases hs i hi with e | e | e
  · obtain ⟨k, hk⟩ := S.one e
    rw [← at_ a ha, ← at_ b hb, hk _ (List.getElem_mem _), hk _ (List.getElem_mem _)]
    exact Nat.le_refl _
  · have hid := S.id e
    rw [← at_ a ha, ← at_ b hb]
    have g : ∀ q (hq : q < (colOf t c).length), (colOf t c)[q] = q := fun q hq => by
      have : (colOf t c)[q]? = (List.range (colOf t c).length)[q]? := by rw [← hid]
      rw [List.getElem?_eq_getElem hq, List.getElem?_range hq] at this
      exact Option.some.inj this
    rw [g, g]
    exact ab
  · rw [← at_ a ha, ← at_ b hb]
    rcases Nat.lt_or_ge a b with l | l
    · exact List.pairwise_iff_getElem.mp (S.asc e) a b (by rw [lc]; exact ha) (by rw [lc]; exact hb) l
    · have : a = b := by omega
      subst this
      exact Nat.le_refl _
theorem sort_exp {t : List (List Nat)} {m : Nat} {ss : List Int} (h : ∀ c, c < m → ∃ i ∈ ss, SortIs i (colOf t c)) (hs : ∀ i ∈ ss, i = 1 ∨ i = 2 ∨ i = 4) : ExpT t m := by
  intro c hc
  obtain ⟨i, hi, S⟩ := h c hc
  have lc : (colOf t c).length = t.length := by
    unfold colOf
    rw [List.length_map, List.length_range]
  have at_ : ∀ q (hq : q < t.length), (colOf t c)[q]'(by rw [lc]; exact hq) = stp t c q := fun q hq => by
    unfold colOf stp
    rw [List.getElem_map, List.getElem_range]
  rcases hs i hi with e | e | e
  · refine .inl fun q hq => ?_
    have := S.up e q (by rw [lc]; exact hq)
    rw [List.getD_eq_getElem?_getD, List.getElem?_eq_getElem (by rw [lc]; exact hq)] at this
    rw [← at_ q hq]
    exact this
  · obtain ⟨k, hk⟩ := S.one e
    refine .inr ⟨k, fun q hq => ?_⟩
    rw [← at_ q hq]
    exact hk _ (List.getElem_mem _)
  · refine .inl fun q hq => ?_
    have hid := S.id e
    have hq' : q < (colOf t c).length := by rw [lc]; exact hq
    have : (colOf t c)[q]? = (List.range (colOf t c).length)[q]? := by rw [← hid]
    rw [List.getElem?_eq_getElem hq', List.getElem?_range hq'] at this
    rw [← at_ q hq, Option.some.inj this]
    exact Nat.le_refl _
end M3

set_option Elab.async false
set_option linter.all false
set_option maxRecDepth 100000
set_option maxHeartbeats 8000000
/-! # Lags -/
namespace M3
open PySem L2
abbrev nLagL : List Str := ["table", "letters", "word", "found", "number", "place"]
/-- after so many times one more changes nothing, and not before -/
def Lag (g : List Nat) (n : Nat) : Prop := pw g (n + 1) = pw g n ∧ ∀ k, k < n → pw g (k + 1) ≠ pw g k
theorem Lag.unique {g : List Nat} {n m : Nat} (h : Lag g n) (k : Lag g m) : n = m := by
  rcases Nat.lt_trichotomy n m with q | q | q
  · exact absurd h.1 (k.2 n q)
  · exact q
  · exact absurd k.1 (h.2 m q)
theorem pw_shift {g : List Nat} {i j : Nat} (h : pw g i = pw g j) : ∀ k, pw g (i + k) = pw g (j + k)
  | 0 => h
  | k + 1 => by
    show comp (pw g (i + k)) g = comp (pw g (j + k)) g
    rw [pw_shift h k]
theorem pw_rest {g : List Nat} {n : Nat} (h : pw g (n + 1) = pw g n) : ∀ k, pw g (n + k) = pw g n
  | 0 => rfl
  | k + 1 => by
    have := pw_shift h k
    rw [pw_rest h k] at this
    rw [← this, show n + 1 + k = n + (k + 1) by omega]
theorem Lag.ex {g : List Nat} : ∀ {n : Nat}, pw g (n + 1) = pw g n → ∃ m, m ≤ n ∧ Lag g m
  | 0, h => ⟨0, Nat.le_refl _, h, fun k hk => by omega⟩
  | n + 1, h => by
    by_cases q : pw g (n + 1) = pw g n
    · obtain ⟨m, hm, l⟩ := Lag.ex q
      exact ⟨m, by omega, l⟩
    · by_cases e : ∃ k, k < n ∧ pw g (k + 1) = pw g k
      · obtain ⟨k, hk, e⟩ := e
        have a := pw_rest e (n - k)
        have b := pw_rest e (n + 1 - k)
        rw [show k + (n - k) = n by omega] at a
        rw [show k + (n + 1 - k) = n + 1 by omega] at b
        exact absurd (b.trans a.symm) q
      · refine ⟨n + 1, Nat.le_refl _, h, fun k hk z => ?_⟩
        by_cases kn : k = n
        · rw [kn] at z
          exact q z
        · exact e ⟨k, by omega, z⟩
/-- where the powers begin again is the lag, if they come to rest -/
theorem lag_of {g : List Nat} {n b N : Nat} (st : pw g (N + 1) = pw g N) (ap : Apart g n) (e : pw g n = pw g b) (hb : b < n) : Lag g b := by
  obtain ⟨L, _, hL⟩ := Lag.ex st
  have far : ∀ k, L ≤ k → pw g k = pw g L := fun k hk => by
    have := pw_rest hL.1 (k - L)
    rwa [show L + (k - L) = k by omega] at this
  have per : ∀ i k, pw g (b + k) = pw g (b + k + i * (n - b)) := fun i k => by
    induction i with
    | zero => rw [Nat.zero_mul, Nat.add_zero]
    | succ i ih =>
      have := pw_shift e (k + i * (n - b))
      rw [ih, show b + k + i * (n - b) = b + (k + i * (n - b)) by omega, ← this, show n + (k + i * (n - b)) = b + k + (i + 1) * (n - b) by
        rw [Nat.succ_mul]
        omega]
  have big : L ≤ L * (n - b) := Nat.le_mul_of_pos_right _ (by omega)
  have c0 : pw g b = pw g L := by
    have := per L 0
    rw [Nat.add_zero] at this
    rw [this]
    exact far _ (by omega)
  have c1 : pw g (b + 1) = pw g L := by
    rw [per L 1]
    exact far _ (by omega)
  have bL : L ≤ b := Nat.le_of_not_lt fun z => hL.2 b z (c1.trans c0.symm)
  have : L = b := ap L b (by omega) hb c0.symm
  rw [← this]
  exact hL
theorem pw_its {g : List Nat} {q : Nat} (hq : q < g.length) : ∀ k, (pw g k).getD q 0 = its g q k
  | 0 => by
    show (List.range g.length).getD q 0 = q
    rw [List.getD_eq_getElem?_getD, List.getElem?_range hq]
    rfl
  | k + 1 => by
    have hl : q < (pw g k).length := by rw [pw_length]; exact hq
    have ih := pw_its hq k
    rw [List.getD_eq_getElem?_getD, List.getElem?_eq_getElem hl] at ih
    show ((pw g k).map fun z => g.getD z 0).getD q 0 = g.getD (its g q k) 0
    rw [List.getD_eq_getElem?_getD, List.getElem?_map, List.getElem?_eq_getElem hl, ← ih]
    rfl
theorem pw_ext {g : List Nat} {i j : Nat} (h : ∀ q, q < g.length → its g q i = its g q j) : pw g i = pw g j := by
  refine List.ext_getElem? fun q => ?_
  by_cases hq : q < g.length
  · have a := pw_its hq i
    have b := pw_its hq j
    rw [h q hq, ← b, List.getD_eq_getElem?_getD, List.getD_eq_getElem?_getD, List.getElem?_eq_getElem (by rw [pw_length]; exact hq), List.getElem?_eq_getElem (by rw [pw_length]; exact hq)] at a
    rw [List.getElem?_eq_getElem (by rw [pw_length]; exact hq), List.getElem?_eq_getElem (by rw [pw_length]; exact hq)]
    exact congrArg some a
  · rw [List.getElem?_eq_none (by rw [pw_length]; omega), List.getElem?_eq_none (by rw [pw_length]; omega)]
def spLagL (K : PySem.W.Frag) : Sp := fun vs H Q _ => ∃ (a : Addr) (x y : Str) (us : List V) (t : List (List Nat)) (m L : Nat), vs = [.ref a, .str x, .str y] ∧ SqL K H a us ∧ Tups K H us t ∧ IsTab t t.length m ∧ t.length ≤ 1000 ∧ IsSet x m ∧ m ≤ 2 ∧ IsW x y ∧ Lag (act t x y.cps.toList) L ∧
  ∀ H' : Hp, Same H H' → Q (.int ((L : Nat) : Int)) H'
section
variable {P : Program} {w : World} {K : PySem.W.Frag} {mg : Str → Option Value} {base : Heap}
end
end M3

set_option Elab.async false
set_option linter.all false
set_option maxRecDepth 100000
set_option maxHeartbeats 2000000
/-! # A lambda with parameters and captured names, handed to a def that calls it -/
namespace NvK
open PySem PySem.Spec PyProof.Rows L2 LamX NdefX
/-- a lambda's words, the cells that it captured, its code object -/
structure LF where
  qual : Str
  params : Arguments
  body : Expr
  scope : Scope
  cl : List (Str × Addr)
  c : Addr
/-- .. as a def without a body: for its frame -/
abbrev LF.nf (F : LF) : NF := ⟨"<lambda>", F.qual, F.params, [], F.scope, F.cl, F.c⟩
/-- the object at f is the lambda F -/
def LamO (f : Addr) (F : LF) : HO := .ext fun h => ∃ (pm ctv : Value), h.get? f = some (PySem.W.kla_obj "<lambda>" F.qual F.params F.body F.scope F.cl pm F.c ctv)
theorem lamO_ne {f : Addr} {F : LF} (ps : Array Value) : LamO f F ≠ .tbl ps := fun z => by
  unfold LamO at z
  cases z
theorem lamO_at {P : Program} {w : World} {H : Hp} {h : Heap} {f : Addr} {F : LF} (hok : HOk P w H h) (e : H f = some (LamO f F)) : ∃ (pm ctv : Value), h.get? f = some (PySem.W.kla_obj "<lambda>" F.qual F.params F.body F.scope F.cl pm F.c ctv) := by
  obtain ⟨z, _, _⟩ := hok f _ e
  exact z
section
variable {X : Cx} {pins : List (Addr × Obj)} {σ : L2.St} {H : Hp} {s : Shared}
/-- a lambda's object just made is known from now on -/
theorem inv_lam {F : LF} {o : Obj} {t' : Nat} {pm ctv : Value} (I : Inv X pins σ H s) (ho : o = PySem.W.kla_obj "<lambda>" F.qual F.params F.body F.scope F.cl pm F.c ctv) :
    Inv X pins σ (upd H s.heap.objs.size (LamO s.heap.objs.size F)) { s with heap := s.heap.push o, toks := t' } := by
  subst ho
  refine I.laid (a := s.heap.objs.size) (fun b u e => Heap.get?_push_of_some _ e) (Nat.le_refl _) ?_
  have e : (s.heap.push (PySem.W.kla_obj "<lambda>" F.qual F.params F.body F.scope F.cl pm F.c ctv)).get? s.heap.objs.size = some (PySem.W.kla_obj "<lambda>" F.qual F.params F.body F.scope F.cl pm F.c ctv) := Heap.get?_push_size _ rfl
  exact ⟨⟨pm, ctv, e⟩, ⟨_, e⟩, fun h1 h2 ⟨p, t, z⟩ st => ⟨p, t, st _ z⟩⟩
/-- the lambda is made: its code object is new, or found in the table -/
theorem lamn_make {T : List NTab} {nm : Nat → Nat → Str} {c P : Addr} {params : Arguments} {body : Expr} {scope : Scope} {pos : Pos} {E : Value → Shared → Prop} {Q : Value → Shared → Prop} (I : Inv X pins σ H s) (TB : TabB X.base X.mg c P) (hcode : X.env.code = .ref c)
    (hm : (P, nm) ∈ T) (hn : nm pos.line pos.col = X.env.qual ++ "<lambda>") (hu : ∀ p ∈ T, p.1 = P → p.2 = nm) (hT : TabsN T H) (hdef : defaultsOf params X.env = ([], [])) (hfree : ∀ y ∈ scope.names, y.2 = .free → ∃ c, X.env.cells.lookup y.1 = some c)
    (h : ∀ (f c' : Addr) (H1 : Hp) (s' : Shared), Inv X pins σ H1 s' → ExtN H H1 → (∀ b, H1 b = Option.none → H b = Option.none) → TabsN T H1 → H f = none → H1 f = some (LamO f ⟨X.env.qual ++ "<lambda>", params, body, scope, cloFrom X.env.cells scope.names [], c'⟩) → H1 c' = some (CodeO c' (X.env.qual ++ "<lambda>")) → Q (.ref f) s') :
    wpAny (model X.prog X.w) X.A (eval (.Lambda params body scope pos) X.env) Q E s := by
  obtain ⟨ps, hP, ht, ha⟩ := (show TabN H P nm from hT _ hm)
  refine PySem.W.kla_eval hdef ?_
  have bP : s.heap.BuiltinsAt X.mg P := TB.bm.keeps I.bk
  have hP' : s.heap.get? P = some { cls := .none, data := .fields ps } := I.hok P _ hP
  cases hc : codeAmong pos ps.toList with
  | none =>
    refine PySem.W.kla_makeFunction (mg := X.mg) (c := c) (P := P) (ps := ps) (closure_ok hfree) I.ok.glob (I.mod.glob.keeps I.bk) hcode (TB.code.keeps I.bk) hP' ht hc TB.gP bP fun c' ctv h' tk hx hge hlt hrec htb => ?_
    obtain ⟨c2, oc, vs, t, e2, hoc, hd, hv⟩ := hrec
    cases e2
    have nC : H c' = none := I.hok.fresh hge
    have I1 := inv_table (t' := tk) (more := #[rawInt pos.line, rawInt pos.col, .ref c']) (h' := h') I hP (fun b o hb e => hx b o hb e) htb hge ⟨oc, vs, t, hoc, hd, hv⟩
    have hE : ExtN H (upd (upd H P (.tbl (ps ++ #[rawInt pos.line, rawInt pos.col, .ref c']))) c' (CodeO c' (X.env.qual ++ "<lambda>"))) := fun b o e n => by
      rw [upd_ne (ne_of_none e nC), upd_ne (fun z => n ps (Option.some.inj (e.symm.trans (by rw [z]; exact hP))))]
      exact e
    have eL : (ps ++ #[rawInt pos.line, rawInt pos.col, .ref c']).toList = ps.toList ++ [rawInt pos.line, rawInt pos.col, .ref c'] := by simp
    have T1 : TabsN T (upd (upd H P (.tbl (ps ++ #[rawInt pos.line, rawInt pos.col, .ref c']))) c' (CodeO c' (X.env.qual ++ "<lambda>"))) := fun p hp => by
      by_cases hb : p.1 = P
      · rw [hu p hp hb, hb]
        refine ⟨_, by rw [upd_ne (ne_of_none hP nC), upd_same], by rw [eL]; exact PySem.TriplesOk_snoc _ _ _ _ ht, fun p' cv hcv => ?_⟩
        rw [eL] at hcv
        rcases among_app2 _ ht hcv with z | ⟨z, z1, z2⟩
        · obtain ⟨c0, e1, e2⟩ := ha p' cv z
          exact ⟨c0, e1, hE _ _ e2 codeO_ne⟩
        · refine ⟨c', z, ?_⟩
          rw [← z1, ← z2, hn]
          exact upd_same
      · obtain ⟨ps', a1, a2, a3⟩ := hT p hp
        refine ⟨ps', by rw [upd_ne (ne_of_none a1 nC), upd_ne hb]; exact a1, a2, fun p' cv hcv => ?_⟩
        obtain ⟨c0, e1, e2⟩ := a3 p' cv hcv
        exact ⟨c0, e1, hE _ _ e2 codeO_ne⟩
    have nF := I1.hok.fresh (Nat.le_refl _)
    have I2 := inv_lam (F := ⟨X.env.qual ++ "<lambda>", params, body, scope, cloFrom X.env.cells scope.names [], c'⟩) (t' := tk) (pm := (X.mg "__name__").getD .none) (ctv := ctv) I1 rfl
    refine h h'.objs.size c' _ _ I2 (fun b o e n => ?_) (fun b e => upd_none (upd_none (upd_none e))) (T1.ext fun b o e => ?_) (I.hok.fresh (Nat.le_trans hge (Nat.le_of_lt hlt))) upd_same ?_
    · have e1 := hE b o e n
      exact (upd_ne (ne_of_none e1 nF)).trans e1
    · exact (upd_ne (ne_of_none e nF)).trans e
    · exact (upd_ne (Nat.ne_of_lt hlt)).trans upd_same
  | some cv =>
    obtain ⟨c', e, hco⟩ := ha pos cv hc
    subst e
    rw [hn] at hco
    refine PySem.W.kla_makeFunctionHit (mg := X.mg) (c := c) (P := P) (ps := ps) (closure_ok hfree) I.ok.glob (I.mod.glob.keeps I.bk) hcode (TB.code.keeps I.bk) hP' ht hc bP fun ctv h' tk hx hsz => ?_
    have I1 : Inv X pins σ H { s with heap := h', toks := tk } := I.kept hx
    have nF : H h'.objs.size = none := I1.hok.fresh (Nat.le_refl _)
    have I2 := inv_lam (F := ⟨X.env.qual ++ "<lambda>", params, body, scope, cloFrom X.env.cells scope.names [], c'⟩) (t' := tk) (pm := (X.mg "__name__").getD .none) (ctv := ctv) I1 rfl
    refine h h'.objs.size c' _ _ I2 (fun b o e n => ?_) (fun b e => upd_none e) (hT.ext fun b o e => ?_) nF upd_same ?_
    · exact (upd_ne (ne_of_none e nF)).trans e
    · exact (upd_ne (ne_of_none e nF)).trans e
    · exact (upd_ne (ne_of_none hco nF)).trans hco
end
/-- the reading of a lambda: a new function value; T: the tables of code objects -/
def tLamN (T : List NTab) (mk : Addr → LF) : TE := fun _ H Q => TabsN T H ∧ ∀ (f c' : Addr) (H1 : Hp), ExtN H H1 → (∀ b, H1 b = Option.none → H b = Option.none) → TabsN T H1 → H f = none → H1 f = some (LamO f (mk c')) → H1 c' = some (CodeO c' (mk c').qual) → Q (.ref f) H1
section
variable {X : Cx}
theorem pe_lamN {T : List NTab} {nm : Nat → Nat → Str} {c P : Addr} {params : Arguments} {body : Expr} {scope : Scope} {pos : Pos} (TB : TabB X.base X.mg c P) (hcode : X.env.code = .ref c) (hm : (P, nm) ∈ T) (hn : nm pos.line pos.col = X.env.qual ++ "<lambda>") (hu : ∀ p ∈ T, p.1 = P → p.2 = nm)
    (hfree : ∀ y ∈ scope.names, y.2 = .free → X.env.scope.names.lookup y.1 = some .cell ∨ X.env.scope.names.lookup y.1 = some .free) (hdef : defaultsOf params X.env = ([], [])) :
    PE X (.Lambda params body scope pos) (tLamN T fun c' => ⟨X.env.qual ++ "<lambda>", params, body, scope, cloFrom X.env.cells scope.names [], c'⟩) := by
  refine ⟨fun pins s σ H Q I h => ?_⟩
  obtain ⟨hT, h⟩ := h
  have hfr : ∀ y ∈ scope.names, y.2 = .free → ∃ c, X.env.cells.lookup y.1 = some c := fun y hy e => (hfree y hy e).elim (fun z => I.ok.has _ (.inl z)) fun z => I.ok.has _ (.inr z)
  refine lamn_make I TB hcode hm hn hu hT hdef hfr fun f c' H1 s' I1 eN nn T1 f0 f1 c1 => ?_
  exact ⟨.ref f, H1, I1, rfl, h f c' H1 eN nn T1 f0 f1 c1⟩
end
/-! ### what a function value promises from a state on -/
/-- from the state (s, H) on, in which the frames outer run: the lambda F at f keeps sp -/
structure Given (P : Program) (w : World) (K : PySem.W.Frag) (mg : Str → Option Value) (base : Heap) (CX : CXT) (k : Nat) (outer : List Env) (s : Shared) (H : Hp) (f : Addr) (F : LF) (sp : Sp) : Prop where
  run : ∀ (A : Around) (outer' : List Env) (s' : Shared) (H' : Hp) (us : List Value) (vs : List V) (Q : VK) (E : XK), Room k A → Env0 P w K mg base A outer' s' H' → Un (frs outer) [] H H' s.heap s'.heap → H' f = some (LamO f F) → H' F.c = some (CodeO F.c F.qual) →
    Vals vs us → sp vs H' Q E → codeAny (model P w) A (.call (.ref f) ⟨us, []⟩) (CR CX outer' P w H' s' Q E) s'
theorem Given.imp {P : Program} {w : World} {K : PySem.W.Frag} {mg : Str → Option Value} {base : Heap} {CX : CXT} {k : Nat} {outer : List Env} {s : Shared} {H : Hp} {f : Addr} {F : LF} {sp sp' : Sp} (G : Given P w K mg base CX k outer s H f F sp) (h : ∀ vs H Q E, sp' vs H Q E → sp vs H Q E) :
    Given P w K mg base CX k outer s H f F sp' := ⟨fun A o s' H' us vs Q E hr e0 un h1 h2 r q => G.run A o s' H' us vs Q E hr e0 un h1 h2 r (h _ _ _ _ q)⟩
theorem cellsAt_un {cl : List (Str × Addr)} {fr : List Str} {ws : List (Option V)} {h h' : Heap} {H H' : Hp} {fs : List Addr} (C : CellsAt cl fr ws h H) (un : Un fs [] H H' h h') (nf : ∀ y c, cl.lookup y = some c → c ∉ fs) : CellsAt cl fr ws h' H' := by
  have kp : ∀ y c, cl.lookup y = some c → ∀ v, h.IsCell c v → h'.IsCell c v := fun y c e v ⟨o, ho, hd⟩ => ⟨o, un.keep c o ho (C.all y c e).1 (nf y c e) (by simp), hd⟩
  refine ⟨C.len, fun y c e => ?_, C.inj, fun i y e => ?_⟩
  · obtain ⟨n, v, z⟩ := C.all y c e
    refine ⟨?_, v, kp y c e v z⟩
    obtain ⟨o, ho, _⟩ := z
    exact un.free c o ho n (by simp)
  · obtain ⟨c, hc, hv⟩ := C.has i y e
    refine ⟨c, hc, fun v ev => ?_⟩
    obtain ⟨u, r, z⟩ := hv v ev
    exact ⟨u, r, kp y c hc _ z⟩
section
variable {X : Cx} {pins : List (Addr × Obj)} {σ : L2.St} {H : Hp} {s : Shared}
/-- a cell of the running def is no frame -/
theorem cell_nofr (I : Inv X pins σ H s) {y : Str} {c : Addr} (e : X.env.cells.lookup y = some c) (hf : X.fn y = true) : c ∉ frs X.stack := fun z => by
  rcases List.mem_cons.mp (I.stkSub c z) with q | q
  · exact I.cne y c e q
  · obtain ⟨_, o, ho, _⟩ := I.ok.funs.mem q
    exact absurd (Nat.lt_of_lt_of_le (Heap.lt_size ho) (I.ok.cab y c hf e)) (Nat.lt_irrefl _)
/-- THE RULE: a lambda made here, by its body -/
theorem given_lam {CX : CXT} {N ps fr : List Str} {js : List Nat} {F : LF} {f : Addr} {k : Nat} {sp : Sp} (I : Inv X pins σ H s) (cp : Caps X F.cl fr js) (hfn : ∀ y, X.fn y = true) (S : NScope N ps fr F.scope)
    (hb : ∀ (pm ctv : Value) (us : List Value), us.length = ps.length → bindArgs (PySem.W.kla_fn "<lambda>" F.qual F.params F.body F.scope F.cl pm (.ref F.c) ctv) ⟨us, []⟩ = pure (ps.zip us)) (len : ∀ vs H Q E, sp vs H Q E → vs.length = ps.length)
    (hbody : ∀ (A : Around) (outer' : List Env) (s' : Shared) (H' : Hp) (vs : List V) (Q : VK) (E : XK), Room k (A.deeper (envF F.nf f s'.heap.objs.size)) → sp vs H' Q E →
      ∃ t, PE (ncx CX X.prog X.w X.K X.mg X.base N F.nf f A outer' s' H' E) F.body t ∧ t (startF N vs (js.map (slotAt σ))) H' Q) :
    Given X.prog X.w X.K X.mg X.base CX (k + 1) X.stack s H f F sp := by
  refine ⟨fun A outer' s' H' us vs Q E hr e0 un hf hc r hsp => ?_⟩
  have hl := len _ _ _ _ hsp
  have lim : s'.heap.NoLimit := e0.mod.nolimit.keeps fun b o e => (e0.bs b o e).1
  have C : CellsAt F.cl fr (js.map (slotAt σ)) s'.heap H' := cellsAt_un (cells_of I cp) un fun y c e => cell_nofr I (cp.sub y c e) (hfn y)
  obtain ⟨pm, ctv, ho⟩ := lamO_at e0.hok hf
  refine PySem.W.kla_callFunE hr.depth ho rfl S.co S.gen rfl (codeO_at e0.hok hc) ?_
  rw [hb pm ctv us (by rw [← r.length]; exact hl)]
  refine wpAny_pure (wpAny_newFunctionEnv S.nocell (fun ⟨n, _⟩ hy => S.par n (List.of_mem_zip hy).1) (fun h₁ hns hsb => ⟨lim.fresh _ hsb, ?_⟩) S.kind)
  show codeAny _ _ (.expr F.body (envF F.nf f s'.heap.objs.size)) _ _
  have kp : ∀ b o, s'.heap.get? b = some o → h₁.get? b = some o := fun b o e => hsb.extBut b o (Nat.ne_of_lt (Heap.lt_size e)) (Heap.get?_push_of_some _ e)
  obtain ⟨t, ht, hq⟩ := hbody A outer' s' H' vs Q E (hr.deeper _) hsp
  have J : Inv (ncx CX X.prog X.w X.K X.mg X.base N F.nf f A outer' s' H' E) [] (startF N vs (js.map (slotAt σ))) H' { s' with heap := h₁, toks := s'.toks + (ps.zip us).length } := inv_startN (F := F.nf) S hr.hd e0 hl r C hns kp
  refine PySem.W.kla_codeExpr (wpAny_mono (ht.run [] _ _ H' Q J hq) (fun v s2 hv => ?_) fun e s2 hv => hv)
  obtain ⟨w', H2, J2, rv, q⟩ := hv
  exact ⟨w', H2, J2.os, J2.bare, J2.base, J2.hok, rv, q⟩
end
/-! ### calls of what was handed -/
/-- f(..), f a name that holds the lambda F -/
def tGiv (i : Nat) (f : Addr) (F : LF) (sp : Sp) (E : XK) (t : TA) : TE := fun σ H Q => σ[i]? = some (some (.ref f)) ∧ H f = some (LamO f F) ∧ t σ H fun vs H1 => H1 f = some (LamO f F) ∧ H1 F.c = some (CodeO F.c F.qual) ∧ sp vs H1 Q E
section
variable {X : Cx} {CX : CXT} {i j k : Nat} {x : Str} {f : Addr} {F : LF} {sp : Sp} {E : XK} {t : TA} {e : Expr} {es : List Expr} {p pos : Pos}
theorem lamAt_of {pins : List (Addr × Obj)} {σ : L2.St} {H : Hp} {s : Shared} (I : Inv X pins σ H s) (e : H f = some (LamO f F)) : PySem.W.FnAt f s.heap := by
  obtain ⟨pm, ctv, ho⟩ := lamO_at I.hok e
  exact ⟨_, _, _, _, ho⟩
theorem pe_given (G : Given X.prog X.w X.K X.mg X.base CX k X.outer X.s_0 X.H_0 f F sp) (hr : Room j X.A) (hk : k ≤ j) (hx : Passes CX X E) (hex : X.ex = []) (hN : X.N[i]? = some x) (hv : Vis X.env.scope x) (ha : PA X (e :: es) t)
    (hd : (x == ("__debug__" : Str)) = false := by decide) (hcd : (x == ("__classdict__" : Str)) = false := by decide)
    (he : starEach (e :: es) X.env = (false, eval e X.env) :: starEach es X.env := by rfl) (hpl : (backTo pos (starEach es X.env)).any (·.1) = false := by rfl) :
    PE X (.Call (.Name x p) (e :: es) [] pos) (tGiv i f F sp E t) := by
  refine ⟨fun pins s σ H Q I h => ?_⟩
  obtain ⟨hs, hf, ht⟩ := h
  refine wpAny_Call_Name_kw (thn ((pe_var (pos := p) hN hv hd hcd).run pins s σ H (fun v H1 => v = .ref f ∧ H1 = H) I ⟨.ref f, hs, rfl, rfl⟩) fun u s1 ⟨v, H1, I1, r1, q1⟩ => ?_)
  obtain ⟨ev, eH⟩ := q1
  subst ev
  rw [eH] at I1
  obtain rfl : u = Value.ref f := r1
  refine PySem.W.callWith_F (first := []) (lamAt_of I1 hf) (thn (ha.run pos pins s1 σ H _ I1 ht) fun us s2 ⟨vs, H2, I2, r, h1, h2, q⟩ => ⟨lamAt_of I2 h1, ?_⟩) he hpl
  show wpAny _ _ (call (.ref f) us) _ _ _
  have un : Un (frs X.outer) [] X.H_0 H2 X.s_0.heap s2.heap := by
    have z := I2.base
    rw [hex] at z
    exact z
  refine wpAny_call (codeAny_mono (G.run X.A X.stack s2 H2 us vs Q E (hr.mono hk) I2.env0 un h1 h2 r q) fun r s' hq => ?_)
  cases r with
  | error e => exact hx pins σ H2 s2 e s' I2 hq
  | ok fl =>
    cases fl with
    | ret u => exact I2.after hq
    | next => exact False.elim hq
    | brk => exact False.elim hq
    | cont => exact False.elim hq
/-- x(..) of a top's def that gets a function value; what the callee asks is told of the very state -/
theorem pe_callV {g : Addr} {TV : L2.St → List V → Hp → VK → Prop} (hg : Gl X x) (hm : X.mg x = some (.ref g)) (hk : PySem.W.keepIn X.K (.ref g) = true) (hx : Passes CX X E) (ha : PA X (e :: es) t)
    (R : ∀ (pins : List (Addr × Obj)) (s : Shared) (σ : L2.St) (H : Hp) (Q : VK) (us : List Value) (vs : List V), Inv X pins σ H s → Vals vs us → TV σ vs H Q → codeAny (model X.prog X.w) X.A (.call (.ref g) ⟨us, []⟩) (CR CX X.stack X.prog X.w H s Q E) s)
    (hdb : (x == ("__debug__" : Str)) = false := by decide) (he : starEach (e :: es) X.env = (false, eval e X.env) :: starEach es X.env := by rfl) (hpl : (backTo pos (starEach es X.env)).any (·.1) = false := by rfl) :
    PE X (.Call (.Name x p) (e :: es) [] pos) (fun σ H Q => t σ H fun vs H1 => TV σ vs H1 Q) := by
  refine ⟨fun pins s σ H Q I h => ?_⟩
  refine wpAny_Call_Name_kw (ld_glob I hg hm ?_ hdb)
  refine PySem.W.callWith_K (h₀ := X.base) I.ok.mod.kin hk (thn (ha.run pos pins s σ H _ I h) fun us s1 ⟨vs, H1, I1, r, q⟩ => ⟨I1.kIn, ?_⟩) he hpl
  refine wpAny_call (codeAny_mono (R pins s1 σ H1 Q us vs I1 r q) fun r s' hq => ?_)
  cases r with
  | error e => exact hx pins σ H1 s1 e s' I1 hq
  | ok fl =>
    cases fl with
    | ret u => exact I1.after hq
    | next => exact False.elim hq
    | brk => exact False.elim hq
    | cont => exact False.elim hq
end
end NvK

set_option Elab.async false
set_option linter.all false
set_option maxRecDepth 100000
set_option maxHeartbeats 8000000
/-! # walked: a word's letters, each by a step that is handed over; the things walked are tuples of numbers and texts -/
namespace M3
open PySem L2
abbrev sWalked : Stmt := top 24
abbrev nWalked : List Str := ["start", "step", "word", "found", "numbers", "known", "now", "letter", "goal"]
theorem scWalked : FnScope nWalked ["start", "step", "word"] (defScope sWalked) := ⟨rfl, rfl, rfl, by decide +kernel, rfl, by decide +kernel, by decide +kernel⟩
/-- things that stand as tuples -/
def RowsK (H : Hp) (us : List V) (F : List (List Key)) : Prop := us.length = F.length ∧ ∀ (i : Nat) (r : List Key), F[i]? = some r → ∃ b : Addr, us[i]? = some (.ref b) ∧ H b = some (.tup (r.map kV))
theorem RowsK.to {H H' : Hp} {us : List V} {F : List (List Key)} (h : RowsK H us F) (k : ∀ b ys, H b = some (.tup ys) → H' b = some (.tup ys)) : RowsK H' us F := ⟨h.1, fun i r e => by
  obtain ⟨b, b1, b2⟩ := h.2 i r e
  exact ⟨b, b1, k _ _ b2⟩⟩
theorem RowsK.snoc {H : Hp} {us : List V} {F : List (List Key)} {b : Addr} {r : List Key} (h : RowsK H us F) (hb : H b = some (.tup (r.map kV))) : RowsK H (us ++ [.ref b]) (F ++ [r]) := by
  refine ⟨by rw [List.length_append, List.length_append, h.1]; rfl, fun i r' e => ?_⟩
  rcases snoc_at e with e | ⟨rfl, rfl⟩
  · obtain ⟨b', b1, b2⟩ := h.2 i r' e
    refine ⟨b', ?_, b2⟩
    rw [List.getElem?_append_left (List.getElem?_eq_some_iff.mp b1).1]
    exact b1
  · refine ⟨b, ?_, hb⟩
    rw [← h.1, List.getElem?_append_right (Nat.le_refl _), Nat.sub_self]
    rfl
/-- the dict that numbers the found things -/
structure NumsK (kvs : List (List Key × V)) (F : List (List Key)) : Prop where
  only : ∀ (k : List Key) (v : V), valV kvs k = some v → ∃ i, F[i]? = some k ∧ v = .int ((i : Nat) : Int)
  len : kvs.length ≤ F.length
theorem NumsK.put {kvs : List (List Key × V)} {F : List (List Key)} {r : List Key} (h : NumsK kvs F) : NumsK (putK kvs r (.int ((F.length : Nat) : Int))) (F ++ [r]) := by
  refine ⟨fun k v e => ?_, ?_⟩
  · rw [valV_put] at e
    by_cases c : k = r
    · rw [if_pos c] at e
      refine ⟨F.length, ?_, (Option.some.inj e).symm⟩
      rw [List.getElem?_append_right (Nat.le_refl _), Nat.sub_self, c]
      rfl
    · rw [if_neg c] at e
      obtain ⟨i, h1, h3⟩ := h.only k v e
      refine ⟨i, ?_, h3⟩
      rw [List.getElem?_append_left (List.getElem?_eq_some_iff.mp h1).1]
      exact h1
  · have := putT_len (kvs := kvs) (k := r) (v := V.int ((F.length : Nat) : Int))
    have := h.len
    rw [List.length_append]
    show _ ≤ F.length + 1
    omega
/-- the dict of known steps -/
structure StepsK (g : List Key → Nat → List Key) (kvs : List (List Key × V)) (F : List (List Key)) (n : Nat) : Prop where
  only : ∀ (i c : Nat) (v : V), valV kvs [.inl ((i : Nat) : Int), .inr ⟨#[c]⟩] = some v → ∃ (j : Nat) (r s : List Key), v = .int ((j : Nat) : Int) ∧ F[i]? = some r ∧ F[j]? = some s ∧ s = g r c
  len : kvs.length ≤ n
theorem StepsK.app {g : List Key → Nat → List Key} {kvs : List (List Key × V)} {F : List (List Key)} {n : Nat} (h : StepsK g kvs F n) (s : List Key) : StepsK g kvs (F ++ [s]) n := ⟨fun i c v e => by
  obtain ⟨j, r, s', h1, h2, h3, h4⟩ := h.only i c v e
  exact ⟨j, r, s', h1, at_app h2 s, at_app h3 s, h4⟩, h.len⟩
theorem StepsK.put {g : List Key → Nat → List Key} {kvs : List (List Key × V)} {F : List (List Key)} {n i c j : Nat} {r s : List Key} (h : StepsK g kvs F n) (h2 : F[i]? = some r) (h3 : F[j]? = some s) (h4 : s = g r c) :
    StepsK g (putK kvs [.inl ((i : Nat) : Int), .inr ⟨#[c]⟩] (.int ((j : Nat) : Int))) F (n + 1) := by
  refine ⟨fun i' c' v e => ?_, ?_⟩
  · rw [valV_put] at e
    by_cases q : ([.inl ((i' : Nat) : Int), .inr ⟨#[c']⟩] : List Key) = [.inl ((i : Nat) : Int), .inr ⟨#[c]⟩]
    · rw [if_pos q] at e
      injection q with q1 q2
      injection q1 with q1
      injection q2 with q2
      injection q2 with q2
      injection q2 with q2
      have ei : i' = i := by omega
      have ec : c' = c := by
        have q3 : (#[c'] : Array Nat).toList = (#[c] : Array Nat).toList := by rw [q2]
        injection q3
      subst ei ec
      exact ⟨j, r, s, (Option.some.inj e).symm, h2, h3, h4⟩
    · rw [if_neg q] at e
      exact h.only i' c' v e
  · have := putT_len (kvs := kvs) (k := [.inl ((i : Nat) : Int), .inr ⟨#[c]⟩]) (v := V.int ((j : Nat) : Int))
    have := h.len
    omega
/-- what walked asks: the start, the step F at f with its promise gsp, the word -/
def spWalked (f : Addr) (F : NvK.LF) (gsp : Sp) : Sp := fun vs H Q _ => ∃ (b0 : Addr) (y : Str) (k0 : List Key) (g : List Key → Nat → List Key) (Ok : List Key → Prop), vs = [.ref b0, .ref f, .str y] ∧ H b0 = some (.tup (k0.map kV)) ∧ H f = some (NvK.LamO f F) ∧ H F.c = some (LamX.CodeO F.c F.qual) ∧
  Ok k0 ∧ (∀ c ∈ y.cps.toList, ∀ k, Ok k → Ok (g k c)) ∧
  (∀ (H' : Hp) (b : Addr) (k : List Key) (c : Nat) (Q' : VK) (E' : XK), Same H H' → H' b = some (.tup (k.map kV)) → Ok k → c ∈ y.cps.toList → (∀ (b' : Addr) (H8 : Hp), H8 b' = some (.tup ((g k c).map kV)) → Same H' H8 → Q' (.ref b') H8) → gsp [.ref b, .str ⟨#[c]⟩] H' Q' E') ∧
  y.length ≤ 1000000 ∧ ∀ (b' : Addr) (H' : Hp), H' b' = some (.tup ((y.cps.toList.foldl g k0).map kV)) → Same H H' → Q (.ref b') H'
theorem fold_snoc {α β : Type} {g : β → α → β} {k0 : β} {l : List α} {i : Nat} {c : α} (h : l[i]? = some c) : (l.take (i + 1)).foldl g k0 = g ((l.take i).foldl g k0) c := by
  rw [take_snoc h, List.foldl_append]
  rfl
theorem fold_ok {g : List Key → Nat → List Key} {Ok : List Key → Prop} : ∀ (l : List Nat) (k0 : List Key), Ok k0 → (∀ c ∈ l, ∀ k, Ok k → Ok (g k c)) → Ok (l.foldl g k0)
  | [], _, h, _ => h
  | c :: l, k0, h, st => fold_ok l (g k0 c) (st c List.mem_cons_self k0 h) fun c' hc => st c' (List.mem_cons_of_mem _ hc)
section
variable {P : Program} {w : World} {K : PySem.W.Frag} {mg : Str → Option Value} {base : Heap}
theorem run_walked {g9 : Addr} {gd : FuncData} (F9 : Fun K "walked" "walked" sWalked g9 gd) (bW : Binds K gd ["start", "step", "word"] []) (M : TxM mg) {k : Nat} {A : Around} {outer : List Env} {s : Shared} {H : Hp} {us : List Value} {vs : List V} {Q : VK} {f : Addr} {F : NvK.LF} {gsp : Sp}
    (hr : Room (k + 2) A) (e0 : Env0 P w K mg base A outer s H) (r : Vals vs us) (G : NvK.Given P w K mg base CX0 (k + 1) outer s H f F gsp) (h : spWalked f F gsp vs H Q E0) :
    codeAny (model P w) A (.call (.ref g9) ⟨us, []⟩) (CR CX0 outer P w H s Q E0) s := by
  obtain ⟨b0, y, k0, g, Ok, rfl, hb0, hf0, hc0, ok0, okS, hS, hy, kq⟩ := h
  obtain ⟨oc, od, kV', doc, pm, an, cdv, ct, osl, rfl, lk, hcd⟩ := F9.ex
  have hlu : us.length = 3 := r.length.symm
  refine LamX.run_ofS (N := nWalked) (ps := ["start", "step", "word"]) (us := us) (vs := [.ref b0, .ref f, .str y]) lk hcd scWalked hr e0 ?_ r rfl fun hr' => ?_
  · have q := bW s us (e0.mod.kin.keeps fun b o e => (e0.bs b o e).1) (by rw [List.append_nil]; exact hlu)
    rw [List.append_nil] at q
    exact q
  · have hu := hu_of hr'
    have hu0 : (A.deeper (PyProof.Rows.envOfC "walked" (defScope sWalked) s.heap.objs.size g9 cdv)).units < cLine := Nat.lt_of_succ_lt hu
    suffices z : ∃ t, PSs (cxOf CX0 P w K mg base nWalked "walked" (defScope sWalked) g9 cdv A outer s H E0).nox (defBody sWalked) t ∧ t { nx := fun _ H' => Q .non H', rt := Q } (start nWalked [.ref b0, .ref f, .str y]) H by
      obtain ⟨t, ht, q⟩ := z
      exact ⟨t, ht.nox, q⟩
    refine ⟨_, pss_cons (ps_set (i := 3) scWalked.nd rfl (Or.inl rfl) (pe_lst (pa_cons (pv 0) pa_nil)))
      (pss_cons (ps_set (i := 4) scWalked.nd rfl (Or.inl rfl) (NvQ.pe_disp1 hu0 (pv 0) pe_int))
      (pss_cons (ps_set (i := 5) scWalked.nd rfl (Or.inl rfl) pe_dnewT)
      (pss_cons (ps_set (i := 6) scWalked.nd rfl (Or.inl rfl) pe_int)
      (pss_cons (ps_for PassesOwn.never rfl (pi_str (pv 2)) (pg_name (i := 7) scWalked.nd rfl (Or.inl rfl))
        (pss_cons (ps_if (pt_cmp (pc_dnotin hu (pe_tup (pa_cons (pv 6) (pa_cons (pv 7) pa_nil))) (pv 5)))
          (pss_cons (ps_set (i := 8) scWalked.nd rfl (Or.inl rfl) (NvK.pe_given (i := 1) G hr' (Nat.le_refl _) pass0 rfl rfl (Or.inl rfl) (pa_cons (pe_ix ix_list (pv 3) (pv 6) (fun _ _ => rfl)) (pa_cons (pv 7) pa_nil))))
          (pss_cons (ps_if (pt_cmp (pc_dnotin hu (pv 8) (pv 4)))
            (pss_cons (ps_dput hu (pv 4) (pv 8) (pe_callB call_len_seq (by rfl) M.len PySem.boot_len (pa_cons (pv 3) pa_nil)) rfl)
            (pss_one (ps_expr (pe_bm PySem.F.plainAttrs_list PySem.F.slot_list_append PySem.F.type_list_append mt_append (pv 3) (pa_cons (pv 8) pa_nil))))) pss_nil)
          (pss_one (ps_dput hu (pv 5) (pe_tup (pa_cons (pv 6) (pa_cons (pv 7) pa_nil))) (pe_dget hu (pv 4) (pv 8) (fun _ _ => rfl)) rfl)))) pss_nil)
        (pss_one (ps_set (i := 6) scWalked.nd rfl (Or.inl rfl) (pe_dget hu (pv 5) (pe_tup (pa_cons (pv 6) (pa_cons (pv 7) pa_nil))) (fun _ _ => rfl))))))
      (pss_one (ps_ret (pe_ix ix_list (pv 3) (pv 6) (fun _ _ => rfl)))))))), ?_⟩
    refine ⟨_, rfl, (by show 1 ≤ sizeLine; decide), fun LF nLF => ?_⟩
    have fLF : H LF = none := nLF
    have hF1 : (upd H LF (.lst [.ref b0])) LF = some (.lst [.ref b0]) := upd_same
    have hp1 : (upd H LF (.lst [.ref b0])) b0 = some (.tup (k0.map kV)) := keep_new hb0 nLF
    have s2 : Same H (upd H LF (.lst [.ref b0])) := Same.new (Same.refl H) nLF
    have free : ∀ {H9 : Hp} {q : Addr}, Same H H9 → H9 q = none → H q = none := fun {H9 q} sx hq => by
      cases e : H q with
      | none => rfl
      | some o =>
        have := sx _ _ e
        rw [hq] at this
        cases this
    generalize upd H LF (.lst [.ref b0]) = H2 at hF1 hp1 s2 ⊢
    intro LN nLN
    have fLN : H LN = none := free s2 nLN
    refine ⟨_, rfl, b0, k0, .int 0, rfl, upd_same, keep_new hp1 nLN, ?_⟩
    rw [upd_upd]
    have hN3 : (upd H2 LN (.dT [(k0, .int 0)])) LN = some (.dT [(k0, .int 0)]) := upd_same
    have hF3 := keep_new (u := .dT [(k0, .int 0)]) hF1 nLN
    have hp3 := keep_new (u := .dT [(k0, .int 0)]) hp1 nLN
    have s3 : Same H (upd H2 LN (.dT [(k0, .int 0)])) := Same.new s2 nLN
    generalize upd H2 LN (.dT [(k0, .int 0)]) = H3 at hN3 hF3 hp3 s3 ⊢
    intro LS nLS
    have fLS : H LS = none := free s3 nLS
    have NS : LN ≠ LS := ne_of_none hN3 nLS
    have hN4 := keep_new (u := .dT []) hN3 nLS
    have hF4 := keep_new (u := .dT []) hF3 nLS
    have hp4 := keep_new (u := .dT []) hp3 nLS
    have hS4 : (upd H3 LS (.dT [])) LS = some (.dT []) := upd_same
    have s4 : Same H (upd H3 LS (.dT [])) := Same.new s3 nLS
    generalize upd H3 LS (.dT []) = H4 at hN4 hF4 hp4 hS4 s4 ⊢
    clear nLF nLN nLS s2 s3 hF1 hp1 hN3 hF3 hp3
    refine ⟨_, rfl, y, rfl, for_it walk_str (fun i σ H' => ∃ (us' : List V) (Fs : List (List Key)) (kN kS : List (List Key × V)) (now : Nat) (l gl : Option V), σ = [some (.ref b0), some (.ref f), some (.str y), some (.ref LF), some (.ref LN), some (.ref LS), some (.int (now : Nat)), l, gl] ∧
        H' LF = some (.lst us') ∧ H' LN = some (.dT kN) ∧ H' LS = some (.dT kS) ∧ RowsK H' us' Fs ∧ NumsK kN Fs ∧ StepsK g kS Fs i ∧ Fs[now]? = some ((y.cps.toList.take i).foldl g k0) ∧ (∀ r ∈ Fs, Ok r) ∧ Fs.length ≤ i + 1 ∧ Same H H')
      ⟨[.ref b0], [k0], _, _, 0, none, none, rfl, hF4, hN4, hS4, ?_, ?_, ?_, ?_, ?_, Nat.le_refl _, s4⟩ (fun _ _ _ _ _ => trivial) ?_ ?_⟩
    · exact ⟨rfl, fun i r e => by
        match i, e with
        | 0, e => exact ⟨b0, rfl, by cases e; exact hp4⟩⟩
    · refine ⟨fun k v e => ?_, Nat.le_refl _⟩
      by_cases c : k0 = k
      · rw [valV_pos c] at e
        exact ⟨0, by rw [← c]; rfl, (Option.some.inj e).symm⟩
      · rw [valV_neg c, valV_nil] at e
        cases e
    · exact ⟨fun i c v e => (by rw [valV_nil] at e; cases e), Nat.le_refl _⟩
    · rw [List.take_zero]
      rfl
    · intro r hr'
      rw [List.mem_singleton.mp hr']
      exact ok0
    · rintro i v σ H5 H6 hi ⟨us', Fs, kN, kS, now, l, gl, rfl, hF, hN, hS', RA, NA, SA, hnow, wf, lf, sH⟩ ⟨rfl, c, hc, rfl⟩
      have hi6 : i < 1000000 := by
        have : y.length = y.cps.size := rfl
        omega
      have hc' : y.cps.toList[i]? = some c := by simpa using hc
      have cy : c ∈ y.cps.toList := List.mem_of_getElem? hc'
      have ea : (y.cps.toList.take (i + 1)).foldl g k0 = g ((y.cps.toList.take i).foldl g k0) c := fold_snoc hc'
      have ln : now < Fs.length := (List.getElem?_eq_some_iff.mp hnow).1
      obtain ⟨bq, b1, b2'⟩ := RA.2 now _ hnow
      have okn := wf _ (List.mem_of_getElem? hnow)
      refine ⟨_, rfl, _, rfl, (by show 2 ≤ sizeLine; decide), fun T nT => ?_⟩
      have TF : ∀ {b o}, H6 b = some o → (upd H6 T (.tup [.int (now : Nat), .str ⟨#[c]⟩])) b = some o := fun h => keep_new h nT
      have hT1 : (upd H6 T (.tup [.int (now : Nat), .str ⟨#[c]⟩])) T = some (.tup (([.inl ((now : Nat) : Int), .inr ⟨#[c]⟩] : List Key).map kV)) := upd_same
      have sT : Same H (upd H6 T (.tup [.int (now : Nat), .str ⟨#[c]⟩])) := Same.new sH nT
      have RT := RA.to (H' := upd H6 T (.tup [.int (now : Nat), .str ⟨#[c]⟩])) (fun b ys h => TF h)
      have hF := TF hF
      have hN := TF hN
      have hS' := TF hS'
      have b2' := TF b2'
      generalize upd H6 T (.tup [.int (now : Nat), .str ⟨#[c]⟩]) = H7 at hT1 sT RT hF hN hS' b2' ⊢
      clear TF RA nT sH
      refine ⟨_, rfl, LS, _, rfl, DGet.t (k := [.inl ((now : Nat) : Int), .inr ⟨#[c]⟩]) hS' hT1, _, rfl, ?_⟩
      cases e : valV kS [.inl ((now : Nat) : Int), .inr ⟨#[c]⟩] with
      | some v =>
        refine iteF ?_
        obtain ⟨j, r, s', rfl, j1, j2, j3⟩ := SA.only _ _ _ e
        refine ⟨_, rfl, _, rfl, _, rfl, (by show 2 ≤ sizeLine; decide), fun T2 n2 => ?_⟩
        have G : DGet (upd H7 T2 (.tup [.int (now : Nat), .str ⟨#[c]⟩])) LS (.ref T2) (some (.int (j : Nat))) := by
          have g := DGet.t (k := [.inl ((now : Nat) : Int), .inr ⟨#[c]⟩]) (keep_new (u := .tup [.int (now : Nat), .str ⟨#[c]⟩]) hS' n2) upd_same
          rw [e] at g
          exact g
        refine ⟨LS, _, rfl, G, us', Fs, kN, kS, j, _, gl, rfl, keep_new hF n2, keep_new hN n2, keep_new hS' n2, RT.to (fun b ys h => keep_new h n2), NA, ⟨SA.only, by have := SA.len; omega⟩, ?_, wf, by omega, Same.new sT n2⟩
        rw [j2, ea, j3]
        have z : r = (y.cps.toList.take i).foldl g k0 := Option.some.inj (j1.symm.trans hnow)
        rw [z]
      | none =>
        refine iteT ?_
        refine ⟨rfl, sT _ _ hf0, _, rfl, _, rfl, LF, us', _, _, rfl, rfl, SqL.of hF, atI_nat b1, _, rfl, sT _ _ hf0, sT _ _ hc0, hS _ bq _ c _ _ sT b2' okn cy fun gg H8 hg sg => ?_⟩
        have hF := sg _ _ hF
        have hN := sg _ _ hN
        have hS' := sg _ _ hS'
        have RT := RT.to (H' := H8) (fun b ys h => sg _ _ h)
        have sT := sT.trans sg
        have hT1 := sg _ _ hT1
        have okg := okS c cy _ okn
        rw [← ea] at hg okg
        refine ⟨_, rfl, _, rfl, LN, _, rfl, DGet.t (k := (y.cps.toList.take (i + 1)).foldl g k0) hN hg, _, rfl, ?_⟩
        have sz : (1000001 : Nat) < sizeLine := by decide
        generalize hk1 : (y.cps.toList.take (i + 1)).foldl g k0 = k1 at hg okg ea ⊢
        cases e2 : valV kN k1 with
        | some v =>
          refine iteF ?_
          obtain ⟨j, j1, rfl⟩ := NA.only _ _ e2
          have G2 : DGet H8 LN (.ref gg) (some (.int (j : Nat))) := by
            have q := DGet.t (k := k1) hN hg
            rw [e2] at q
            exact q
          refine ⟨_, rfl, _, rfl, LN, _, rfl, G2, _, rfl, _, rfl, _, rfl, (by show 2 ≤ sizeLine; decide), fun T2 n2 => ?_⟩
          have hS9 := keep_new (u := .tup [.int (now : Nat), .str ⟨#[c]⟩]) hS' n2
          have hN9 := keep_new (u := .tup [.int (now : Nat), .str ⟨#[c]⟩]) hN n2
          have hF9 := keep_new (u := .tup [.int (now : Nat), .str ⟨#[c]⟩]) hF n2
          have hT9 : (upd H8 T2 (.tup [.int (now : Nat), .str ⟨#[c]⟩])) T2 = some (.tup (([.inl ((now : Nat) : Int), .inr ⟨#[c]⟩] : List Key).map kV)) := upd_same
          have R9 := RT.to (H' := upd H8 T2 (.tup [.int (now : Nat), .str ⟨#[c]⟩])) (fun b ys h => keep_new h n2)
          have s9 : Same H (upd H8 T2 (.tup [.int (now : Nat), .str ⟨#[c]⟩])) := Same.new sT n2
          generalize upd H8 T2 (.tup [.int (now : Nat), .str ⟨#[c]⟩]) = H9 at hS9 hN9 hF9 hT9 R9 s9 ⊢
          refine ⟨LS, _, rfl, DPut.t hS9 hT9 (by have := SA.len; omega), ?_⟩
          have SA' := SA.put (c := c) hnow j1 ea
          have TS : LS ≠ LF := Ne.symm (ne_of hF9 hS9 (fun z => by cases z))
          generalize hX : upd H9 LS (.dT (putK kS [.inl ((now : Nat) : Int), .inr ⟨#[c]⟩] (.int ((j : Nat) : Int)))) = HC
          have hSc : HC LS = some (.dT (putK kS [.inl ((now : Nat) : Int), .inr ⟨#[c]⟩] (.int ((j : Nat) : Int)))) := by rw [← hX]; exact upd_same
          have hFc : HC LF = some (.lst us') := by rw [← hX, upd_ne (Ne.symm TS)]; exact hF9
          have hNc : HC LN = some (.dT kN) := by rw [← hX, upd_ne NS]; exact hN9
          have Rc : RowsK HC us' Fs := R9.to (fun b ys h => by rw [← hX, upd_ne (ne_of h hS9 (fun z => by cases z))]; exact h)
          have sc : Same H HC := fun b o h => by rw [← hX, upd_ne (ne_of_none h fLS)]; exact s9 _ _ h
          clear hX
          refine ⟨_, rfl, _, rfl, _, rfl, (by show 2 ≤ sizeLine; decide), fun T3 n3 => ?_⟩
          have G3 : DGet (upd HC T3 (.tup [.int (now : Nat), .str ⟨#[c]⟩])) LS (.ref T3) (some (.int ((j : Nat) : Int))) := by
            have q := DGet.t (k := [.inl ((now : Nat) : Int), .inr ⟨#[c]⟩]) (keep_new (u := .tup [.int (now : Nat), .str ⟨#[c]⟩]) hSc n3) upd_same
            rw [valV_put, if_pos rfl] at q
            exact q
          exact ⟨LS, _, rfl, G3, us', Fs, kN, _, _, _, _, rfl, keep_new hFc n3, keep_new hNc n3, keep_new hSc n3, Rc.to (fun b ys h => keep_new h n3), NA, SA', hk1 ▸ j1, wf, (by omega), Same.new sc n3⟩
        | none =>
          refine iteT ?_
          have lF : us'.length = Fs.length := RT.1
          refine ⟨_, rfl, LF, us', rfl, .inl (SqL.of hF), _, rfl, _, rfl, LN, _, rfl, DPut.t hN hg (by have := NA.len; omega), ?_⟩
          rw [lF]
          have NA2 := NA.put (r := k1)
          have FN : LF ≠ LN := ne_of hF hN (fun z => by cases z)
          have FS : LF ≠ LS := ne_of hF hS' (fun z => by cases z)
          have gF : gg ≠ LF := ne_of hg hF (fun z => by cases z)
          have gN : gg ≠ LN := ne_of hg hN (fun z => by cases z)
          have hFa : (upd H8 LN (.dT (putK kN k1 (.int ((Fs.length : Nat) : Int))))) LF = some (.lst us') := by rw [upd_ne FN]; exact hF
          refine ⟨_, rfl, .inl ⟨rfl, _, SqL.of hFa⟩, _, rfl, LF, us', .ref gg, rfl, rfl, hFa, (by omega), ?_⟩
          generalize hB : upd (upd H8 LN (.dT (putK kN k1 (.int ((Fs.length : Nat) : Int))))) LF (.lst (us' ++ [.ref gg])) = HB
          have hF2 : HB LF = some (.lst (us' ++ [.ref gg])) := by rw [← hB]; exact upd_same
          have hN2 : HB LN = some (.dT (putK kN k1 (.int ((Fs.length : Nat) : Int)))) := by rw [← hB, upd_ne (Ne.symm FN), upd_same]
          have hS2 : HB LS = some (.dT kS) := by rw [← hB, upd_ne (Ne.symm FS), upd_ne (Ne.symm NS)]; exact hS'
          have hg2 : HB gg = some (.tup (k1.map kV)) := by rw [← hB, upd_ne gF, upd_ne gN]; exact hg
          have tp : ∀ b ys, H8 b = some (.tup ys) → HB b = some (.tup ys) := fun b ys h => by
            rw [← hB, upd_ne (ne_of h hF (fun z => by cases z)), upd_ne (ne_of h hN (fun z => by cases z))]
            exact h
          have R2 := (RT.to tp).snoc hg2
          have s2 : Same H HB := fun b o h => by
            rw [← hB, upd_ne (ne_of_none h fLF), upd_ne (ne_of_none h fLN)]
            exact sT _ _ h
          clear hB
          have G2 : DGet HB LN (.ref gg) (some (.int ((Fs.length : Nat) : Int))) := by
            have q := DGet.t (k := k1) hN2 hg2
            rw [valV_put, if_pos rfl] at q
            exact q
          have j1 : (Fs ++ [k1])[Fs.length]? = some k1 := by
            rw [List.getElem?_append_right (Nat.le_refl _), Nat.sub_self]
            rfl
          have wf2 : ∀ r ∈ Fs ++ [k1], Ok r := fun r hr2 => by
            rcases List.mem_append.mp hr2 with q | q
            · exact wf r q
            · rw [List.mem_singleton.mp q]
              exact okg
          refine ⟨_, rfl, _, rfl, LN, _, rfl, G2, _, rfl, _, rfl, _, rfl, (by show 2 ≤ sizeLine; decide), fun T2 n2 => ?_⟩
          have hS9 := keep_new (u := .tup [.int (now : Nat), .str ⟨#[c]⟩]) hS2 n2
          have hN9 := keep_new (u := .tup [.int (now : Nat), .str ⟨#[c]⟩]) hN2 n2
          have hF9 := keep_new (u := .tup [.int (now : Nat), .str ⟨#[c]⟩]) hF2 n2
          have hT9 : (upd HB T2 (.tup [.int (now : Nat), .str ⟨#[c]⟩])) T2 = some (.tup (([.inl ((now : Nat) : Int), .inr ⟨#[c]⟩] : List Key).map kV)) := upd_same
          have R9 := R2.to (H' := upd HB T2 (.tup [.int (now : Nat), .str ⟨#[c]⟩])) (fun b ys h => keep_new h n2)
          have s9 : Same H (upd HB T2 (.tup [.int (now : Nat), .str ⟨#[c]⟩])) := Same.new s2 n2
          generalize upd HB T2 (.tup [.int (now : Nat), .str ⟨#[c]⟩]) = H9 at hS9 hN9 hF9 hT9 R9 s9 ⊢
          refine ⟨LS, _, rfl, DPut.t hS9 hT9 (by have := SA.len; omega), ?_⟩
          have SA' := (SA.app k1).put (c := c) (at_app hnow _) j1 ea
          have TS : LS ≠ LF := Ne.symm (ne_of hF9 hS9 (fun z => by cases z))
          generalize hX : upd H9 LS (.dT (putK kS [.inl ((now : Nat) : Int), .inr ⟨#[c]⟩] (.int ((Fs.length : Nat) : Int)))) = HC
          have hSc : HC LS = some (.dT (putK kS [.inl ((now : Nat) : Int), .inr ⟨#[c]⟩] (.int ((Fs.length : Nat) : Int)))) := by rw [← hX]; exact upd_same
          have hFc : HC LF = some (.lst (us' ++ [.ref gg])) := by rw [← hX, upd_ne (Ne.symm TS)]; exact hF9
          have hNc : HC LN = some (.dT (putK kN k1 (.int ((Fs.length : Nat) : Int)))) := by rw [← hX, upd_ne NS]; exact hN9
          have Rc : RowsK HC (us' ++ [.ref gg]) (Fs ++ [k1]) := R9.to (fun b ys h => by rw [← hX, upd_ne (ne_of h hS9 (fun z => by cases z))]; exact h)
          have sc : Same H HC := fun b o h => by rw [← hX, upd_ne (ne_of_none h fLS)]; exact s9 _ _ h
          clear hX
          refine ⟨_, rfl, _, rfl, _, rfl, (by show 2 ≤ sizeLine; decide), fun T3 n3 => ?_⟩
          have G3 : DGet (upd HC T3 (.tup [.int (now : Nat), .str ⟨#[c]⟩])) LS (.ref T3) (some (.int ((Fs.length : Nat) : Int))) := by
            have q := DGet.t (k := [.inl ((now : Nat) : Int), .inr ⟨#[c]⟩]) (keep_new (u := .tup [.int (now : Nat), .str ⟨#[c]⟩]) hSc n3) upd_same
            rw [valV_put, if_pos rfl] at q
            exact q
          exact ⟨LS, _, rfl, G3, (us' ++ [.ref gg]), (Fs ++ [k1]), _, _, _, _, _, rfl, keep_new hFc n3, keep_new hNc n3, keep_new hSc n3, Rc.to (fun b ys h => keep_new h n3), NA2, SA', hk1 ▸ j1, wf2, (by rw [List.length_append]; show Fs.length + 1 ≤ _; omega), Same.new sc n3⟩
    · rintro σ H5 ⟨us', Fs, kN, kS, now, l, gl, rfl, hF, hN, hS', RA, NA, SA, hnow, wf, lf, sH⟩
      obtain ⟨bq, b1, b2'⟩ := RA.2 now _ hnow
      have et : y.cps.toList.take y.cps.size = y.cps.toList := List.take_of_length_le (by simp)
      rw [et] at b2'
      exact ⟨_, rfl, _, rfl, LF, us', _, _, rfl, rfl, SqL.of hF, atI_nat b1, kq bq H5 b2' sH⟩
end
end M3

set_option Elab.async false
set_option linter.all false
set_option maxRecDepth 100000
set_option maxHeartbeats 8000000
/-! # The action of a word, walked with a lambda -/
namespace M3
open PySem L2 LamX NdefX NvK
/-- all that was tracked is as it was, but the tables of code objects, which tell what they must -/
structure Ext (T : List NTab) (H H' : Hp) : Prop where
  ext : ExtN H H'
  non : ∀ b, H' b = Option.none → H b = Option.none
  tab : TabsN T H'
theorem exn_at {H H' : Hp} (e : ExtN H H') {b : Addr} {o : HO} (h : H b = some o) (n : ∀ ps, o ≠ .tbl ps := by intro ps z; cases z) : H' b = some o := e b o h n
theorem Ext.at_ {T : List NTab} {H H' : Hp} (e : Ext T H H') {b : Addr} {o : HO} (h : H b = some o) (n : ∀ ps, o ≠ .tbl ps := by intro ps z; cases z) : H' b = some o := e.ext b o h n
theorem same_non {H H' : Hp} (s : Same H H') : ∀ b, H' b = Option.none → H b = Option.none := fun b hq => by
  cases e : H b with
  | none => rfl
  | some o =>
    have := s _ _ e
    rw [hq] at this
    cases this
theorem Ext.of {T : List NTab} {H H' : Hp} (t : TabsN T H) (s : Same H H') : Ext T H H' := ⟨ExtN.of s, same_non s, t.ext s⟩
theorem Ext.refl {T : List NTab} {H : Hp} (t : TabsN T H) : Ext T H H := Ext.of t (Same.refl H)
theorem Ext.trans {T : List NTab} {H H1 H2 : Hp} (a : Ext T H H1) (b : Ext T H1 H2) : Ext T H H2 := ⟨a.ext.trans b.ext, fun c h => a.non c (b.non c h), b.tab⟩
theorem Ext.same {T : List NTab} {H H1 H2 : Hp} (a : Ext T H H1) (s : Same H1 H2) : Ext T H H2 := a.trans (Ext.of a.tab s)
theorem Ext.new {T : List NTab} {H H1 : Hp} {b : Addr} {o : HO} (a : Ext T H H1) (n : H1 b = none) : Ext T H (upd H1 b o) := a.same (Same.new (Same.refl H1) n)
theorem sqt_ext {K : PySem.W.Frag} {H H' : Hp} {a : Addr} {us : List V} (e : ExtN H H') (h : SqT K H a us) : SqT K H' a us := by
  rcases h with (h | ⟨o, h⟩) | h
  · exact .inl (.inl (exn_at e h))
  · exact .inl (.inr ⟨o, exn_at e h⟩)
  · exact .inr h
theorem Tups.ext {K : PySem.W.Frag} {H H' : Hp} {us : List V} {t : List (List Nat)} (h : Tups K H us t) (s : ExtN H H') : Tups K H' us t := ⟨h.1, fun i r e => by
  obtain ⟨b, b1, b2⟩ := h.2 i r e
  exact ⟨b, b1, sqt_ext s b2⟩⟩
/-- a key read back as numbers -/
def unkey (k : List Key) : List Nat := k.map fun q => match q with
  | .inl i => i.toNat
  | .inr _ => 0
theorem unkey_key (fs : List Nat) : unkey (key fs) = fs := by
  induction fs with
  | nil => rfl
  | cons f fs ih =>
    show (((f : Nat) : Int).toNat :: unkey (key fs)) = f :: fs
    rw [ih, Int.toNat_natCast]
theorem fold_key {t : List (List Nat)} {x : Str} : ∀ (cs ds : List Nat), cs.foldl (fun k c => key (ledon t (unkey k) (x.cps.toList.idxOf c))) (key (act t x ds)) = key (act t x (ds ++ cs))
  | [], ds => by rw [List.append_nil]; rfl
  | c :: cs, ds => by
    rw [List.foldl_cons, unkey_key, ← act_snoc, fold_key cs (ds ++ [c]), List.append_assoc]
    rfl
abbrev sActed : Stmt := top 36
abbrev nActed : List Str := ["table", "letters", "word"]
theorem scActed : FnScope nActed ["table", "letters", "word"] (defScope sActed) := ⟨rfl, rfl, rfl, by decide +kernel, rfl, by decide +kernel, by decide +kernel⟩
/-- the lambda in a return's call, the second argument -/
def lamOf (s : Stmt) : Expr := match s with
  | .FunctionDef _ _ [.Return (some (.Call _ [_, l, _] _ _)) _] _ _ _ _ _ _ _ => l
  | _ => .Constant .none 0 ⟨0, 0, 0, 0⟩
def lamArgs (e : Expr) : Arguments := match e with
  | .Lambda a _ _ _ => a
  | _ => { posonlyargs := [], args := [], vararg := none, kwonlyargs := [], kw_defaults := [], kwarg := none, defaults := [] }
def lamBody (e : Expr) : Expr := match e with
  | .Lambda _ b _ _ => b
  | e => e
def lamScope (e : Expr) : Scope := match e with
  | .Lambda _ _ sc _ => sc
  | _ => { kind := .function, names := [], isGenerator := false, isCoroutine := false }
/-- a lambda's words in the def x -/
def lfOf (x : Str) (e : Expr) (cells : List (Str × Addr)) (c : Addr) : LF := ⟨x ++ ".<locals>." ++ "<lambda>", lamArgs e, lamBody e, lamScope e, cloFrom cells (lamScope e).names [], c⟩
abbrev lActed : Expr := lamOf sActed
abbrev nLam : List Str := ["action", "letter", "table", "letters"]
theorem scLamA : NScope nLam ["action", "letter"] ["table", "letters"] (lamScope lActed) := nscope_by (by decide +kernel)
def nmActed : Nat → Nat → Str := fun _ _ => "acted.<locals>.<lambda>"
/-- what the lambda keeps, the table at a and the letters x captured -/
def spLamA (K : PySem.W.Frag) (a : Addr) (x : Str) : Sp := fun vs H Q E => ∃ (b : Addr) (c : Nat), vs = [.ref b, .str ⟨#[c]⟩] ∧ spLedOn K [.ref a, .ref b, .int (x.cps.toList.idxOf c : Nat)] H Q E ∧ (∃ m, IsSet x m ∧ m ≤ 2) ∧ c ∈ x.cps.toList
def spActed (K : PySem.W.Frag) (T : List NTab) : Sp := fun vs H Q _ => ∃ (a : Addr) (x y : Str) (us : List V) (t : List (List Nat)) (m : Nat), vs = [.ref a, .str x, .str y] ∧ SqT K H a us ∧ Tups K H us t ∧ IsTab t t.length m ∧ IsSet x m ∧ m ≤ 2 ∧ IsW x y ∧ t.length ≤ 1000 ∧ y.length ≤ 1000000 ∧ TabsN T H ∧
  ∀ (b : Addr) (H' : Hp), H' b = some (.tup (nts (act t x y.cps.toList))) → Ext T H H' → Q (.ref b) H'
section
variable {P : Program} {w : World} {K : PySem.W.Frag} {mg : Str → Option Value} {base : Heap}
theorem ok_acted {f g g2 g9 c Pt : Addr} {fd gd gd2 gd9 : FuncData} {T : List NTab} (F : Fun K "acted" "acted" sActed f fd) (hcode : fd.code = .ref c) (TB : TabB base mg c Pt) (hT : (Pt, nmActed) ∈ T) (hu : ∀ p ∈ T, p.1 = Pt → p.2 = nmActed)
    (G : Fun K "unmoved" "unmoved" sUnmoved g gd) (bG : Binds K gd ["table"] []) (mG : mg "unmoved" = some (.ref g)) (G2 : Fun K "led_on" "led_on" sLedOn g2 gd2) (b2 : Binds K gd2 ["table", "states", "column"] []) (m2 : mg "led_on" = some (.ref g2))
    (G9 : Fun K "walked" "walked" sWalked g9 gd9) (b9 : Binds K gd9 ["start", "step", "word"] []) (m9 : mg "walked" = some (.ref g9)) (M : TxM mg) :
    FnOk P w K mg base CX0 4 f fd ["table", "letters", "word"] (spActed K T) := by
  have GU : FnOk P w K mg base CX0 1 g gd ["table"] (spUnmoved K) := ok_unmoved G M
  have GL : FnOk P w K mg base CX0 1 g2 gd2 ["table", "states", "column"] (spLedOn K) := ok_ledon G2 M
  obtain ⟨oc, od, kV', doc, pm, an, cdv, ct, osl, rfl, lk, hcd⟩ := F.ex
  have hcv : cdv = .ref c := hcode
  subst hcv
  refine fn_of lk hcd scActed (fun vs H Q E h => ?_) (fun A outer s H vs Q E hr h => ?_)
  · obtain ⟨a, x, y, us, t, m, rfl, _⟩ := h
    rfl
  · obtain ⟨a, x, y, us, t, m, rfl, ha, hTu, tb, st, hm2, hw, tl, hy, tabs, k⟩ := h
    suffices z : ∃ t, PSs (cxOf CX0 P w K mg base nActed "acted" (defScope sActed) f (.ref c) A outer s H E).nox (defBody sActed) t ∧ t { nx := fun _ H' => Q .non H', rt := Q } (start nActed [.ref a, .str x, .str y]) H by
      obtain ⟨t, ht, q⟩ := z
      exact ⟨t, ht.nox, q⟩
    refine ⟨_, pss_one (ps_ret (pe_callV (g := g9) (E := E0) (CX := CX0) (TV := fun σ vs H1 Q => ∃ (b0 f1 c1 : Addr), σ = [some (.ref a), some (.str x), some (.str y)] ∧ vs = [.ref b0, .ref f1, .str y] ∧ spWalked f1 (lfOf "acted" lActed (cxOf CX0 P w K mg base nActed "acted" (defScope sActed) f (.ref c) A outer s H E).env.cells c1) (spLamA K a x) vs H1 Q E0)
      rfl m9 G9.kp pass0 (pa_cons (pe_call GU (hr.mono (by decide)) rfl mG G.kp bG .nil pass0 (pa_cons (pv 0) pa_nil)) (pa_cons (pe_lamN (T := T) (nm := nmActed) TB rfl hT rfl hu (ndef_free (sc := defScope sActed) (nsc := lamScope lActed) (fr := ["table", "letters"]) (by decide +kernel)) rfl) (pa_cons (pv 2) pa_nil))) ?_)), ?_⟩
    · intro pins s1 σ H1 Q1 us1 vs1 I r q
      obtain ⟨b0, f1, c1, rfl, rfl, q⟩ := q
      refine run_walked G9 b9 M (k := 1) (hr.mono (by decide)) I.env0 r ?_ q
      refine given_lam (N := nLam) (ps := ["action", "letter"]) (fr := ["table", "letters"]) (js := [0, 1]) I ?_ (fun _ => rfl) scLamA ?_ ?_ ?_
      · refine Caps.made I.ok ?_ ?_ rfl
        · exact ndef_free (sc := defScope sActed) (nsc := lamScope lActed) (fr := ["table", "letters"]) (by decide +kernel)
        · exact ndef_fr (sc := defScope sActed) (nsc := lamScope lActed) (fr := ["table", "letters"]) (by decide +kernel)
      · intro pm ctv us hl
        match us, hl with
        | [_, _], _ => rfl
      · rintro vs H Q E ⟨b, c, rfl, _⟩
        rfl
      · rintro A' outer' s' H' vs Q' E' hr' ⟨b, c, rfl, hq, ⟨m', st', hm'⟩, hc⟩
        refine ⟨_, pe_call GL hr' rfl m2 G2.kp b2 .nil pass0 (pa_cons (pv 2) (pa_cons (pv 0) (pa_cons (pe_bm PySem.F.plainAttrs_str PySem.F.slot_str_index PySem.F.type_str_index mt_sindex (pv 3) (pa_cons (pv 1) pa_nil)) pa_nil))), ?_⟩
        exact ⟨_, rfl, _, rfl, _, rfl, rfl, _, rfl, x, ⟨#[c]⟩, x.cps.toList.idxOf c, [], rfl, rfl, set_occ st' hm' hc, hq⟩
    · have hm : x.cps.toList.length = m := by
        have := set_len st
        simpa [Str.length] using this
      have lu : us.length = t.length := hTu.1
      refine ⟨_, rfl, a, us, rfl, ha, by omega, fun p0 H1 np h1 s1 => ⟨tabs.ext s1, fun f1 c1 H2 eN nn T2 f0 hf hc => ⟨_, rfl, p0, f1, c1, rfl, rfl, ?_⟩⟩⟩
      rw [lu] at h1
      have e2 : Ext T H H2 := (Ext.of tabs s1).trans ⟨eN, nn, T2⟩
      refine ⟨p0, y, key (List.range t.length), fun k c => key (ledon t (unkey k) (x.cps.toList.idxOf c)), fun k => ∃ fs, k = key fs ∧ (∀ z ∈ fs, z < t.length) ∧ fs.length = t.length, rfl, ?_, hf, hc, ⟨_, rfl, fun z hz => List.mem_range.mp hz, List.length_range⟩, ?_, ?_, hy, fun b' H' hb' s' => k b' H' ?_ (e2.same s')⟩
      · rw [key_tup]
        exact exn_at eN h1
      · rintro c hc' k ⟨fs, rfl, w1, w2⟩
        have ix : x.cps.toList.idxOf c < m := by
          rw [← hm]
          exact List.idxOf_lt_length_of_mem (hw c hc')
        show ∃ fs', key (ledon t (unkey (key fs)) (x.cps.toList.idxOf c)) = key fs' ∧ (∀ z ∈ fs', z < t.length) ∧ fs'.length = t.length
        rw [unkey_key]
        refine ⟨_, rfl, ledon_lt tb ix w1, ?_⟩
        unfold ledon
        rw [List.length_map, w2]
      · rintro H' b k c Q' E' s' hb ⟨fs, rfl, w1, w2⟩ hc' fin
        have ix : x.cps.toList.idxOf c < m := by
          rw [← hm]
          exact List.idxOf_lt_length_of_mem (hw c hc')
        have fin : ∀ (b' : Addr) (H8 : Hp), H8 b' = some (.tup ((key (ledon t fs (x.cps.toList.idxOf c))).map kV)) → Same H' H8 → Q' (.ref b') H8 := fun b' H8 h => fin b' H8 (by rw [show (fun (k : List Key) (c : Nat) => key (ledon t (unkey k) (x.cps.toList.idxOf c))) (key fs) c = key (ledon t (unkey (key fs)) (x.cps.toList.idxOf c)) from rfl, unkey_key]; exact h)
        rw [key_tup] at hb
        refine ⟨b, c, rfl, ⟨a, b, us, t, fs, x.cps.toList.idxOf c, m, rfl, sqt_same s' (sqt_ext e2.ext ha), (hTu.ext e2.ext).same s', tb, SqT.of hb, w1, (by omega), ix, fun p H8 _ h8 s8 => fin p H8 (by rw [key_tup]; exact h8) s8⟩, ⟨m, st, hm2⟩, hw c hc'⟩
      · have q := fold_key (t := t) (x := x) y.cps.toList []
        rw [act_nil, List.nil_append] at q
        rw [q, key_tup] at hb'
        exact hb'
end
end M3

set_option Elab.async false
set_option linter.all false
set_option maxRecDepth 100000
set_option maxHeartbeats 8000000
/-! # All but the dice and the tables of code objects -/
namespace M3
open PySem L2 NdefX
structure Stl (T : List NTab) (d : Addr) (H H' : Hp) : Prop where
  st : ∀ b o, b ≠ d → H b = some o → (∀ ps, o ≠ .tbl ps) → H' b = some o
  non : ∀ b, H' b = Option.none → H b = Option.none
  tab : TabsN T H'
theorem tabs_still {T : List NTab} {d : Addr} {H H' : Hp} (t : TabsN T H) (z : Dz H d) (s : Still d H H') : TabsN T H' := fun p hp => by
  obtain ⟨l, m, c, e, _⟩ := z
  obtain ⟨ps, h1, h2, h3⟩ := t p hp
  refine ⟨ps, s _ _ (fun q => by rw [q, e] at h1; cases h1) h1, h2, fun pos cv hc => ?_⟩
  obtain ⟨c', e1, e2⟩ := h3 pos cv hc
  exact ⟨c', e1, s _ _ (fun q => by rw [q, e] at e2; unfold LamX.CodeO at e2; cases e2) e2⟩
theorem still_non {d : Addr} {H H' : Hp} (z' : Dz H' d) (s : Still d H H') : ∀ b, H' b = Option.none → H b = Option.none := fun b hb => by
  cases e : H b with
  | none => rfl
  | some o =>
    have q := s b o (z'.not hb) e
    rw [hb] at q
    cases q
theorem Stl.of {T : List NTab} {d : Addr} {H H' : Hp} (t : TabsN T H) (z : Dz H d) (z' : Dz H' d) (s : Still d H H') : Stl T d H H' := ⟨fun b o hb h _ => s b o hb h, still_non z' s, tabs_still t z s⟩
theorem Stl.ofE {T : List NTab} {d : Addr} {H H' : Hp} (e : Ext T H H') : Stl T d H H' := ⟨fun b o _ h n => e.ext b o h n, e.non, e.tab⟩
theorem Stl.trans {T : List NTab} {d : Addr} {H H1 H2 : Hp} (a : Stl T d H H1) (b : Stl T d H1 H2) : Stl T d H H2 := ⟨fun c o hc h n => b.st c o hc (a.st c o hc h n) n, fun c h => a.non c (b.non c h), b.tab⟩
theorem Stl.refl {T : List NTab} {H : Hp} (d : Addr) (t : TabsN T H) : Stl T d H H := Stl.ofE (Ext.refl t)
theorem Stl.still {T : List NTab} {d : Addr} {H H1 H2 : Hp} (a : Stl T d H H1) (z : Dz H1 d) (z' : Dz H2 d) (s : Still d H1 H2) : Stl T d H H2 := a.trans (Stl.of a.tab z z' s)
theorem Stl.same {T : List NTab} {d : Addr} {H H1 H2 : Hp} (a : Stl T d H H1) (s : Same H1 H2) : Stl T d H H2 := a.trans (Stl.ofE (Ext.of a.tab s))
theorem Stl.toE {T : List NTab} {d : Addr} {H H1 H2 : Hp} (a : Ext T H H1) (b : Stl T d H1 H2) (n : H d = none) : Ext T H H2 := ⟨fun c o h q => b.st c o (fun z => by rw [z, n] at h; cases h) (a.ext c o h q) q, fun c h => a.non c (b.non c h), b.tab⟩
theorem dz_ext {d : Addr} {H H' : Hp} (e : LamX.ExtN H H') (z : Dz H d) : Dz H' d := by
  obtain ⟨l, m, c, h, r⟩ := z
  exact ⟨l, m, c, exn_at e h, r⟩
theorem sqt_stl {K : PySem.W.Frag} {T : List NTab} {d a : Addr} {H H' : Hp} {xs : List V} (s : Stl T d H H') (z : Dz H d) (h : SqT K H a xs) : SqT K H' a xs := by
  obtain ⟨l, m, c, e, _⟩ := z
  rcases h with (h | ⟨u, h⟩) | h
  · exact .inl (.inl (s.st _ _ (fun q => by rw [q, e] at h; cases h) h (fun ps q => by cases q)))
  · exact .inl (.inr ⟨u, s.st _ _ (fun q => by rw [q, e] at h; cases h) h (fun ps q => by cases q)⟩)
  · exact .inr h
theorem tabs_upd {T : List NTab} {H : Hp} {D : Addr} {vs us : List V} (t : TabsN T H) (h : H D = some (.lst vs)) : TabsN T (upd H D (.lst us)) := fun p hp => by
  obtain ⟨ps, h1, h2, h3⟩ := t p hp
  refine ⟨ps, by rw [upd_ne (ne_of h1 h (fun z => by cases z))]; exact h1, h2, fun pos cv hc => ?_⟩
  obtain ⟨c', e1, e2⟩ := h3 pos cv hc
  exact ⟨c', e1, by rw [upd_ne (ne_of e2 h (fun z => by unfold LamX.CodeO at z; cases z))]; exact e2⟩
/-- a list at D is written anew -/
theorem Stl.put {T : List NTab} {D : Addr} {H H1 : Hp} {vs us : List V} (a : Stl T D H H1) (h : H1 D = some (.lst vs)) : Stl T D H (upd H1 D (.lst us)) := ⟨fun b o hb e n => by rw [upd_ne hb]; exact a.st b o hb e n, fun b e => a.non b (upd_none e), tabs_upd a.tab h⟩
theorem Stl.one {T : List NTab} {D : Addr} {H H1 : Hp} (a : Stl T D H H1) (n : H D = none) (t : TabsN T H) : Ext T H H1 := Stl.toE (Ext.refl t) a n
theorem sql_ext {K : PySem.W.Frag} {H H' : Hp} {a : Addr} {us : List V} (e : LamX.ExtN H H') (h : SqL K H a us) : SqL K H' a us := by
  rcases h with (h | ⟨o, h⟩) | h
  · exact .inl (.inl (exn_at e h))
  · exact .inl (.inr ⟨o, exn_at e h⟩)
  · exact .inr h
end M3

set_option Elab.async false
set_option linter.all false
set_option maxRecDepth 100000
set_option maxHeartbeats 8000000
/-! # Boxes as values: the fields, a box called, its action, ==, str -/
namespace M3
open PySem L2 NdefX
abbrev sBLet : Stmt := inClass (top 45) 3
abbrev sBTab : Stmt := inClass (top 45) 4
abbrev sBCall : Stmt := inClass (top 45) 5
abbrev sBAct : Stmt := inClass (top 45) 7
abbrev sBEq : Stmt := inClass (top 45) 14
abbrev sBStr : Stmt := inClass (top 45) 15
abbrev sBChk : Stmt := inClass (top 45) 16
theorem scBLet : FnScope ["self"] ["self"] (defScope sBLet) := ⟨rfl, rfl, rfl, by decide +kernel, rfl, by decide +kernel, by decide +kernel⟩
theorem scBTab : FnScope ["self"] ["self"] (defScope sBTab) := ⟨rfl, rfl, rfl, by decide +kernel, rfl, by decide +kernel, by decide +kernel⟩
theorem scBCall : FnScope ["self", "word"] ["self", "word"] (defScope sBCall) := ⟨rfl, rfl, rfl, by decide +kernel, rfl, by decide +kernel, by decide +kernel⟩
theorem scBAct : FnScope ["self", "word"] ["self", "word"] (defScope sBAct) := ⟨rfl, rfl, rfl, by decide +kernel, rfl, by decide +kernel, by decide +kernel⟩
theorem scBEq : FnScope ["self", "other"] ["self", "other"] (defScope sBEq) := ⟨rfl, rfl, rfl, by decide +kernel, rfl, by decide +kernel, by decide +kernel⟩
theorem scBStr : FnScope ["self"] ["self"] (defScope sBStr) := ⟨rfl, rfl, rfl, by decide +kernel, rfl, by decide +kernel, by decide +kernel⟩
theorem scBChk : FnScope ["self", "word"] ["self", "word"] (defScope sBChk) := ⟨rfl, rfl, rfl, by decide +kernel, rfl, by decide +kernel, by decide +kernel⟩
theorem kbc1 : ¬ (("_check" : Str) = "_table") := by decide +kernel
theorem kbc2 : ¬ (("_check" : Str) = "_letters") := by decide +kernel
theorem flb_chk {x : Str} {a : Addr} : (flB x a).lookup ("_check" : Str) = none := by
  unfold flB
  rw [lookup_putF, if_neg kbc1, lookup_putF, if_neg kbc2]
  rfl
theorem kba1 : ¬ (("action" : Str) = "_table") := by decide +kernel
theorem kba2 : ¬ (("action" : Str) = "_letters") := by decide +kernel
theorem flb_act {x : Str} {a : Addr} : (flB x a).lookup ("action" : Str) = none := by
  unfold flB
  rw [lookup_putF, if_neg kba1, lookup_putF, if_neg kba2]
  rfl
theorem BoxAt.ext {K : PySem.W.Frag} {C p : Addr} {H H' : Hp} {x : Str} {t : List (List Nat)} (h : BoxAt K C H p x t) (s : LamX.ExtN H H') : BoxAt K C H' p x t := by
  obtain ⟨dx, a, us, h1, h2, h3⟩ := h
  exact ⟨dx, a, us, exn_at s h1, sqt_ext s h2, h3.ext s⟩
def spBLet (K : PySem.W.Frag) (C : Addr) : Sp := fun vs H Q _ => ∃ (p : Addr) (x : Str) (t : List (List Nat)), vs = [.ref p] ∧ BoxAt K C H p x t ∧ Q (.str x) H
def spBTab (K : PySem.W.Frag) (C : Addr) : Sp := fun vs H Q _ => ∃ (p : Addr) (x : Str) (t : List (List Nat)), vs = [.ref p] ∧ BoxAt K C H p x t ∧ ∀ (a : Addr) (us : List V), SqT K H a us → Tups K H us t → Q (.ref a) H
def spBChk (K : PySem.W.Frag) (C : Addr) : Sp := fun vs H Q _ => ∃ (p : Addr) (x y : Str) (t : List (List Nat)) (m : Nat), vs = [.ref p, .str y] ∧ BoxAt K C H p x t ∧ RightB x t m ∧ IsW x y ∧ y.length ≤ 1000000 ∧ ∀ H' : Hp, Same H H' → Q .non H'
def spBCall (K : PySem.W.Frag) (C : Addr) : Sp := fun vs H Q _ => ∃ (p : Addr) (x y : Str) (t : List (List Nat)) (m : Nat), vs = [.ref p, .str y] ∧ BoxAt K C H p x t ∧ RightB x t m ∧ IsW x y ∧ y.length ≤ 1000000 ∧ ∀ H' : Hp, Same H H' → Q (.int ((goes t x 0 y.cps.toList : Nat) : Int)) H'
def spBAct (K : PySem.W.Frag) (T : List NTab) (C : Addr) : Sp := fun vs H Q _ => ∃ (p : Addr) (x y : Str) (t : List (List Nat)) (m : Nat), vs = [.ref p, .str y] ∧ BoxAt K C H p x t ∧ RightB x t m ∧ IsW x y ∧ y.length ≤ 1000000 ∧ TabsN T H ∧
  ∀ (b : Addr) (H' : Hp), H' b = some (.tup (nts (act t x y.cps.toList))) → Ext T H H' → Q (.ref b) H'
def spBEq (K : PySem.W.Frag) (C : Addr) : Sp := fun vs H Q _ => ∃ (p : Addr) (v : V) (tv : Value) (b : Bool) (x : Str) (t : List (List Nat)) (m : Nat), vs = [.ref p, v] ∧ BoxAt K C H p x t ∧ RightB x t m ∧ TyX K H v tv ∧ PySem.W.kitOne K tv (.ref C) = some b ∧
  (b = false → Q (.bl false) H) ∧ (b = true → ∃ (q : Addr) (y : Str) (s : List (List Nat)) (m' : Nat), v = .ref q ∧ BoxAt K C H q y s ∧ RightB y s m' ∧ ∀ H' : Hp, Same H H' → Q (.bl (decide (x = y) && decide (t = s))) H')
/-- how a box of n places is told -/
def btxt (n : Nat) (x : Str) : Str := (((Str.empty ++ ("box of " : Str)) ++ (toString (n : Int) : Str)) ++ (" places for " : Str)) ++ x
theorem btxt_len : ∀ n, n < 5 → ∀ c : Str, c.length ≤ 2 → (btxt n c).length ≤ 100 := by
  intro n hn c hc
  have h : ∀ n : Nat, n < 5 → (((Str.empty ++ ("box of " : Str)) ++ (toString (n : Int) : Str)) ++ (" places for " : Str)).length ≤ 50 := by decide +kernel
  have := h n hn
  show ((((Str.empty ++ ("box of " : Str)) ++ (toString (n : Int) : Str)) ++ (" places for " : Str)) ++ c).length ≤ 100
  have e : ((((Str.empty ++ ("box of " : Str)) ++ (toString (n : Int) : Str)) ++ (" places for " : Str)) ++ c).length = (((Str.empty ++ ("box of " : Str)) ++ (toString (n : Int) : Str)) ++ (" places for " : Str)).length + c.length := Array.size_append
  omega
theorem blog_small : ∀ n : Nat, n < 5 → ((n : Int)).natAbs.log2 < 1920 := by decide +kernel
theorem bstr_app (a b : Str) : (a ++ b).length = a.length + b.length := by
  show (a.cps ++ b.cps).size = a.cps.size + b.cps.size
  exact Array.size_append
def spBStr (K : PySem.W.Frag) (C : Addr) : Sp := fun vs H Q _ => ∃ (p : Addr) (x : Str) (t : List (List Nat)), vs = [.ref p] ∧ BoxAt K C H p x t ∧ t.length < 5 ∧ x.length ≤ 2 ∧ Q (.str (btxt t.length x)) H
/-- a box's data -/
def dB (x : Str) (t : List (List Nat)) : PyData := .tuple [.str x, dT t]
theorem eqv_dB (x y : Str) (t s : List (List Nat)) : (dB x t).eqv (dB y s) = (decide (x = y) && decide (t = s)) := by
  unfold dB
  rw [PyData.eqv]
  simp only [PyData.eqvAll]
  have e : (dT t).eqv (dT s) = decide (t = s) := by
    unfold dT
    rw [PyData.eqv]
    exact eqv_tabs t s
  rw [e]
  simp only [PyData.eqv, Bool.and_true]
  congr 1
theorem shaped_dB {x : Str} {t : List (List Nat)} {m : Nat} (h : IsSet x m) : SeqAt.shaped (dB x t) = true := by
  unfold SeqAt.shaped
  have h1 : (dB x t).canLay0 = true := by
    unfold dB dT
    simp only [PyData.canLay0, PyData.canLayAll0, lay_rows, set_ok h, Bool.and_self]
  have h2 : (dB x t).depth ≤ 64 := by
    have r := dep_rows t
    unfold dB dT
    simp only [PyData.depth, PyData.depthAll]
    omega
  rw [h1, decide_eq_true h2]
  rfl
section
variable {P : Program} {w : World} {K : PySem.W.Frag} {mg : Str → Option Value} {base : Heap} {C : Addr}
theorem ok_blet {f : Addr} {fd : FuncData} (F : Fun K "letters" "Box.letters" sBLet f fd) (TB : TxB K mg C) : FnOk P w K mg base CX0 1 f fd ["self"] (spBLet K C) := by
  refine F.ok scBLet (fun vs H Q E h => ?_) (fun cdv A outer s H vs Q E hr h => ?_)
  · obtain ⟨p, x, t, rfl, _⟩ := h
    rfl
  · obtain ⟨p, x, t, rfl, ⟨dx, a, us, h1, h2, h3⟩, k⟩ := h
    refine ⟨_, pss_one (ps_ret (pe_fld (pv 0) rfl)), ?_⟩
    exact ⟨_, rfl, p, C, dx, _, _, rfl, h1, TB.cl, TB.nL, flb_l, k⟩
theorem ok_btab {f : Addr} {fd : FuncData} (F : Fun K "table" "Box.table" sBTab f fd) (TB : TxB K mg C) : FnOk P w K mg base CX0 1 f fd ["self"] (spBTab K C) := by
  refine F.ok scBTab (fun vs H Q E h => ?_) (fun cdv A outer s H vs Q E hr h => ?_)
  · obtain ⟨p, x, t, rfl, _⟩ := h
    rfl
  · obtain ⟨p, x, t, rfl, ⟨dx, a, us, h1, h2, h3⟩, k⟩ := h
    refine ⟨_, pss_one (ps_ret (pe_fld (pv 0) rfl)), ?_⟩
    exact ⟨_, rfl, p, C, dx, _, _, rfl, h1, TB.cl, TB.nT, flb_t, k a us h2 h3⟩
theorem ok_bchk {f : Addr} {fd : FuncData} (F : Fun K "_check" "Box._check" sBChk f fd) (cC : FnC P w K mg base 3 "check_word" ["value"] spCheck) (cO : FnC P w K mg base 2 "check_only" ["word", "letters"] spOnlyC) (TB : TxB K mg C) : FnOk P w K mg base CX0 4 f fd ["self", "word"] (spBChk K C) := by
  refine F.ok scBChk (fun vs H Q E h => ?_) (fun cdv A outer s H vs Q E hr h => ?_)
  · obtain ⟨p, x, y, t, m, rfl, _⟩ := h
    rfl
  · obtain ⟨p, x, y, t, m, rfl, B, R, hw, hy, k⟩ := h
    have hr2 : Room 2 _ := hr.mono (by decide)
    refine ⟨_, pss_cons (ps_expr (pe_call cC.G hr rfl cC.m cC.kp cC.b .nil pass0 (pa_cons (pv 1) pa_nil)))
      (pss_one (ps_expr (pe_call cO.G hr2 rfl cO.m cO.kp cO.b .nil pass0 (pa_cons (pv 1) (pa_cons (pe_fld (pv 0) rfl) pa_nil))))), ?_⟩
    refine ⟨_, rfl, y, rfl, hy, only_all R.st hw, fun H1 s1 => ?_⟩
    obtain ⟨dx, a, us, i1, i2, i3⟩ := B.same s1
    exact ⟨_, rfl, _, rfl, p, C, dx, _, _, rfl, i1, TB.cl, TB.nL, flb_l, y, x, rfl, hy, only_of hw, fun H2 s2 => k H2 (s1.trans s2)⟩
theorem ok_bcall {f fC : Addr} {fd dC : FuncData} (F : Fun K "__call__" "Box.__call__" sBCall f fd) (GC : FnOk P w K mg base CX0 4 fC dC ["self", "word"] (spBChk K C)) (bC : Binds K dC ["self", "word"] []) (mC : Meth K C "_check" fC)
    (cL : FnC P w K mg base 1 "led" ["table", "letters", "start", "word"] (spLed K)) (TB : TxB K mg C) : FnOk P w K mg base CX0 5 f fd ["self", "word"] (spBCall K C) := by
  refine F.ok scBCall (fun vs H Q E h => ?_) (fun cdv A outer s H vs Q E hr h => ?_)
  · obtain ⟨p, x, y, t, m, rfl, _⟩ := h
    rfl
  · obtain ⟨p, x, y, t, m, rfl, B, R, hw, hy, k⟩ := h
    have hr1 : Room 1 _ := hr.mono (by decide)
    refine ⟨_, pss_cons (ps_expr (pe_meth (pv 0) TB.cl mC GC hr bC .nil pass0 (pa_cons (pv 1) pa_nil)))
      (pss_one (ps_ret (pe_call cL.G hr1 rfl cL.m cL.kp cL.b .nil pass0 (pa_cons (pe_fld (pv 0) rfl) (pa_cons (pe_fld (pv 0) rfl) (pa_cons pe_int (pa_cons (pv 1) pa_nil))))))), ?_⟩
    obtain ⟨dx, a, us, i1, i2, i3⟩ := id B
    refine ⟨_, rfl, p, dx, _, rfl, i1, flb_chk, _, rfl, p, x, y, t, m, rfl, B, R, hw, hy, fun H1 s1 => ?_⟩
    refine ⟨_, rfl, p, C, dx, _, _, rfl, s1 _ _ i1, TB.cl, TB.nT, flb_t, _, rfl, p, C, dx, _, _, rfl, s1 _ _ i1, TB.cl, TB.nL, flb_l, _, rfl, a, x, y, 0, t.length, m, t, us, rfl, sqt_same s1 i2, i3.same s1, R.tb, R.st, R.m2, hw, R.t1, ?_⟩
    exact k H1 s1
theorem ok_bact {f fC : Addr} {fd dC : FuncData} {T : List NTab} (F : Fun K "action" "Box.action" sBAct f fd) (GC : FnOk P w K mg base CX0 4 fC dC ["self", "word"] (spBChk K C)) (bC : Binds K dC ["self", "word"] []) (mC : Meth K C "_check" fC)
    (cA : FnC P w K mg base 4 "acted" ["table", "letters", "word"] (spActed K T)) (TB : TxB K mg C) : FnOk P w K mg base CX0 5 f fd ["self", "word"] (spBAct K T C) := by
  refine F.ok scBAct (fun vs H Q E h => ?_) (fun cdv A outer s H vs Q E hr h => ?_)
  · obtain ⟨p, x, y, t, m, rfl, _⟩ := h
    rfl
  · obtain ⟨p, x, y, t, m, rfl, B, R, hw, hy, tabs, k⟩ := h
    refine ⟨_, pss_cons (ps_expr (pe_meth (pv 0) TB.cl mC GC hr bC .nil pass0 (pa_cons (pv 1) pa_nil)))
      (pss_one (ps_ret (pe_call cA.G hr rfl cA.m cA.kp cA.b .nil pass0 (pa_cons (pe_fld (pv 0) rfl) (pa_cons (pe_fld (pv 0) rfl) (pa_cons (pv 1) pa_nil)))))), ?_⟩
    obtain ⟨dx, a, us, i1, i2, i3⟩ := id B
    refine ⟨_, rfl, p, dx, _, rfl, i1, flb_chk, _, rfl, p, x, y, t, m, rfl, B, R, hw, hy, fun H1 s1 => ?_⟩
    exact ⟨_, rfl, p, C, dx, _, _, rfl, s1 _ _ i1, TB.cl, TB.nT, flb_t, _, rfl, p, C, dx, _, _, rfl, s1 _ _ i1, TB.cl, TB.nL, flb_l, _, rfl, a, x, y, us, t, m, rfl, sqt_same s1 i2, i3.same s1, R.tb, R.st, R.m2, hw, (by have := R.t4; omega), hy, tabs.ext s1, fun b H2 h2 s2 => k b H2 h2 ((Ext.of tabs s1).trans s2)⟩
theorem ok_beq {f : Addr} {fd : FuncData} (F : Fun K "__eq__" "Box.__eq__" sBEq f fd) (W : TxW mg) (TB : TxB K mg C) (mC : mg "Box" = some (.ref C)) : FnOk P w K mg base CX0 1 f fd ["self", "other"] (spBEq K C) := by
  refine F.ok scBEq (fun vs H Q E h => ?_) (fun cdv A outer s H vs Q E hr h => ?_)
  · obtain ⟨p, v, tv, b, x, t, m, rfl, _⟩ := h
    rfl
  · obtain ⟨p, v, tv, b, x, t, m, rfl, M, R, ty, k1, q1, q2⟩ := h
    refine ⟨_, pss_cons (ps_if (pt_not (pt_val (pe_callB call_isi (by rfl) W.isi (by decide +kernel) (pa_cons (pv 1) (pa_cons (pe_glob (v := .ref C) rfl mC rfl) pa_nil))))) (pss_one (ps_ret pe_bl)) pss_nil)
      (pss_one (ps_ret (pe_cmpR (op_eqD hr.units) (pe_tup (pa_cons (pe_fld (pv 0) rfl) (pa_cons (pe_fld (pv 0) rfl) pa_nil))) (pe_tup (pa_cons (pe_fld (pv 1) rfl) (pa_cons (pe_fld (pv 1) rfl) pa_nil))) (nomark _)))), ?_⟩
    refine ⟨_, rfl, v, .ref C, tv, .ref C, b, rfl, .own C, ty, k1, _, rfl, ?_⟩
    cases b with
    | false => exact iteT (q1 rfl)
    | true =>
      obtain ⟨q, y, s, m', rfl, M', R', k⟩ := q2 rfl
      refine iteF ?_
      obtain ⟨dx, a, us, i1, i2, i3⟩ := id M
      obtain ⟨dx', a', us', j1, j2, j3⟩ := id M'
      refine ⟨_, rfl, p, C, dx, _, _, rfl, i1, TB.cl, TB.nL, flb_l, _, rfl, p, C, dx, _, _, rfl, i1, TB.cl, TB.nT, flb_t, (by show 2 ≤ sizeLine; decide), fun T1 n1 => ?_⟩
      have s1 : Same H (upd H T1 (.tup [.str x, .ref a])) := Same.new (Same.refl H) n1
      refine ⟨_, rfl, q, C, dx', _, _, rfl, s1 _ _ j1, TB.cl, TB.nL, flb_l, _, rfl, q, C, dx', _, _, rfl, s1 _ _ j1, TB.cl, TB.nT, flb_t, (by show 2 ≤ sizeLine; decide), fun T2 n2 => ?_⟩
      have s2 : Same H (upd (upd H T1 (.tup [.str x, .ref a])) T2 (.tup [.str y, .ref a'])) := Same.new s1 n2
      refine ⟨dB x t, dB y s, .tup (SqT.of (keep_new upd_same n2)) (.cons (.str x) (.cons (.tup (sqt_same s2 i2) (dp_rows t us (i3.same s2))) .nil)),
        .tup (SqT.of upd_same) (.cons (.str y) (.cons (.tup (sqt_same s2 j2) (dp_rows s us' (j3.same s2))) .nil)), shaped_dB R.st, shaped_dB R'.st, ?_⟩
      rw [eqv_dB]
      exact k _ s2
theorem ok_bstr {f : Addr} {fd : FuncData} (F : Fun K "__str__" "Box.__str__" sBStr f fd) (Zx : TxZ mg) (TB : TxB K mg C) : FnOk P w K mg base CX0 1 f fd ["self"] (spBStr K C) := by
  refine F.ok scBStr (fun vs H Q E h => ?_) (fun cdv A outer s H vs Q E hr h => ?_)
  · obtain ⟨p, x, t, rfl, _⟩ := h
    rfl
  · obtain ⟨p, x, t, rfl, ⟨dx, a, us, h1, h2, h3⟩, t5, x2, k⟩ := h
    refine ⟨_, pss_one (ps_ret (pe_joined (.cons pe_str (.cons (pe_fmt (pe_callB call_len_seq (by rfl) Zx.len PySem.boot_len (pa_cons (pe_fld (pv 0) rfl) pa_nil))) (.cons pe_str (.cons (pe_fmt (pe_fld (pv 0) rfl)) .nil)))))), ?_⟩
    have le := btxt_len _ t5 x x2
    have big : (100 : Nat) ≤ sizeLine := by decide
    unfold btxt at le k
    rw [bstr_app, bstr_app, bstr_app] at le
    refine ⟨_, rfl, Nat.le_trans (show _ ≤ 100 from ?_) big, ?_⟩
    · omega
    refine ⟨_, rfl, p, C, dx, _, _, rfl, h1, TB.cl, TB.nT, flb_t, a, us, rfl, .inr h2, .inr ⟨_, rfl, ?_, ?_⟩⟩
    · rw [h3.1]
      exact blog_small _ t5
    rw [h3.1]
    refine ⟨_, rfl, Nat.le_trans (show _ ≤ 100 from ?_) big, ?_⟩
    · rw [bstr_app]
      omega
    refine ⟨_, rfl, Nat.le_trans (show _ ≤ 100 from ?_) big, ?_⟩
    · rw [bstr_app, bstr_app]
      omega
    refine ⟨_, rfl, p, C, dx, _, _, rfl, h1, TB.cl, TB.nL, flb_l, .inl ⟨_, rfl, Nat.le_trans (show x.length ≤ 100 by omega) big, _, rfl, Nat.le_trans (show _ ≤ 100 from ?_) big, k⟩⟩
    rw [bstr_app, bstr_app, bstr_app]
    exact le
end
end M3

set_option Elab.async false
set_option linter.all false
set_option maxRecDepth 100000
set_option maxHeartbeats 8000000
/-! # Box.lag -/
namespace M3
open PySem L2 NdefX
abbrev sBLag : Stmt := inClass (top 45) 8
theorem scBLag : FnScope ["self", "word"] ["self", "word"] (defScope sBLag) := ⟨rfl, rfl, rfl, by decide +kernel, rfl, by decide +kernel, by decide +kernel⟩
/-- in a box a word comes to rest within fewer turns than there are places -/
theorem its_soon {g : List Nat} {q : Nat} (w : ∀ z ∈ g, z < g.length) (hq : q < g.length) (no : turned g = none) : its g q g.length = its g q (g.length - 1) := by
  have nt : ∀ r, r < g.length → turnedB g r = false := fun r hr => by
    unfold turned at no
    have := List.find?_eq_none.mp no r (List.mem_range.mpr hr)
    simpa using this
  have ex : ∃ i j, i < j ∧ j ≤ g.length ∧ its g q i = its g q j := by
    apply Classical.byContradiction
    intro h
    have nd : ((List.range (g.length + 1)).map (its g q)).Nodup := by
      unfold List.Nodup
      rw [List.pairwise_map]
      refine List.Pairwise.imp_of_mem (fun {i j} hi hj ij e => ?_) List.pairwise_lt_range
      have hj := List.mem_range.mp hj
      exact h ⟨i, j, ij, by omega, e⟩
    have c := few_nats g.length _ nd fun x hx => by
      obtain ⟨i, _, rfl⟩ := List.mem_map.mp hx
      exact its_lt w hq i
    rw [List.length_map, List.length_range] at c
    omega
  obtain ⟨i, j, ij, jl, e⟩ := ex
  have split : ∀ k, its g (its g q i) k = its g q (i + k) := fun k => by
    induction k with
    | zero => rfl
    | succ k ih =>
      show g.getD (its g (its g q i) k) 0 = g.getD (its g q (i + k)) 0
      rw [ih]
  have hr := its_lt w hq i
  have back : its g (its g q i) (j - i) = its g q i := by
    rw [split, show i + (j - i) = j by omega, e]
  have fx : g.getD (its g q i) 0 = its g q i := by
    have n := nt _ hr
    unfold turnedB comesB at n
    have c : ((List.range g.length).any fun k => decide (its g (its g q i) (k + 1) = its g q i)) = true := by
      rw [List.any_eq_true]
      exact ⟨j - i - 1, List.mem_range.mpr (by omega), decide_eq_true (by rw [show j - i - 1 + 1 = j - i by omega]; exact back)⟩
    rw [c, Bool.and_true] at n
    have := of_decide_eq_false n
    exact Classical.not_not.mp this
  have con : ∀ k, its g q (i + k) = its g q i := fun k => by
    induction k with
    | zero => rfl
    | succ k ih =>
      show g.getD (its g q (i + k)) 0 = its g q i
      rw [ih, fx]
  have a := con (g.length - 1 - i)
  have b := con (g.length - i)
  rw [show i + (g.length - 1 - i) = g.length - 1 by omega] at a
  rw [show i + (g.length - i) = g.length by omega] at b
  rw [a, b]
theorem pw_soon {g : List Nat} (w : ∀ z ∈ g, z < g.length) (h1 : 1 ≤ g.length) (no : turned g = none) : pw g (g.length - 1 + 1) = pw g (g.length - 1) := pw_ext fun q hq => by
  rw [show g.length - 1 + 1 = g.length by omega]
  exact its_soon w hq no
theorem lag_box {g : List Nat} (w : ∀ z ∈ g, z < g.length) (h1 : 1 ≤ g.length) (no : turned g = none) : ∃ L, L < g.length ∧ Lag g L := by
  obtain ⟨L, hL, l⟩ := Lag.ex (pw_soon w h1 no)
  exact ⟨L, by omega, l⟩
def spBLag (K : PySem.W.Frag) (T : List NTab) (C : Addr) : Sp := fun vs H Q _ => ∃ (p : Addr) (x y : Str) (t : List (List Nat)) (m L : Nat), vs = [.ref p, .str y] ∧ BoxAt K C H p x t ∧ RightB x t m ∧ IsW x y ∧ y.length ≤ 1000000 ∧ TabsN T H ∧ Lag (act t x y.cps.toList) L ∧ L ≤ 1000 ∧
  ∀ H' : Hp, Ext T H H' → Q (.int ((L : Nat) : Int)) H'
section
variable {P : Program} {w : World} {K : PySem.W.Frag} {mg : Str → Option Value} {base : Heap} {C : Addr}
theorem ok_blag {f fC : Addr} {fd dC : FuncData} {T : List NTab} (F : Fun K "lag" "Box.lag" sBLag f fd) (GC : FnOk P w K mg base CX0 4 fC dC ["self", "word"] (spBChk K C)) (bC : Binds K dC ["self", "word"] []) (mC : Meth K C "_check" fC)
    (cA : FnC P w K mg base 4 "acted" ["table", "letters", "word"] (spActed K T)) (cR : FnC P w K mg base 2 "repeats" ["action"] (spRepeats K)) (TB : TxB K mg C) : FnOk P w K mg base CX0 5 f fd ["self", "word"] (spBLag K T C) := by
  refine F.ok scBLag (fun vs H Q E h => ?_) (fun cdv A outer s H vs Q E hr h => ?_)
  · obtain ⟨p, x, y, t, m, L, rfl, _⟩ := h
    rfl
  · obtain ⟨p, x, y, t, m, L, rfl, B, R, hw, hy, tabs, hL, l1, k⟩ := h
    refine ⟨_, pss_cons (ps_expr (pe_meth (pv 0) TB.cl mC GC hr bC .nil pass0 (pa_cons (pv 1) pa_nil)))
      (pss_one (ps_ret (pe_ix ix_tup (pe_call cR.G (hr.mono (by decide)) rfl cR.m cR.kp cR.b .nil pass0 (pa_cons (pe_call cA.G hr rfl cA.m cA.kp cA.b .nil pass0 (pa_cons (pe_fld (pv 0) rfl) (pa_cons (pe_fld (pv 0) rfl) (pa_cons (pv 1) pa_nil)))) pa_nil)) pe_int (fun _ _ => rfl)))), ?_⟩
    obtain ⟨dx, a, us, i1, i2, i3⟩ := id B
    refine ⟨_, rfl, p, dx, _, rfl, i1, flb_chk, _, rfl, p, x, y, t, m, rfl, B, R, hw, hy, fun H1 s1 => ?_⟩
    have hm : x.cps.toList.length = m := by
      have := set_len R.st
      simpa [Str.length] using this
    have lg : (act t x y.cps.toList).length = t.length := by
      unfold act
      rw [List.length_map, List.length_range]
    have wf : ∀ z ∈ act t x y.cps.toList, z < (act t x y.cps.toList).length := fun z hz => by
      rw [lg]
      unfold act at hz
      obtain ⟨q, hq, rfl⟩ := List.mem_map.mp hz
      exact goes_lt R.tb hm _ q (List.mem_range.mp hq) hw
    have t4 := R.t4
    refine ⟨_, rfl, p, C, dx, _, _, rfl, s1 _ _ i1, TB.cl, TB.nT, flb_t, _, rfl, p, C, dx, _, _, rfl, s1 _ _ i1, TB.cl, TB.nL, flb_l, _, rfl, a, x, y, us, t, m, rfl, sqt_same s1 i2, i3.same s1, R.tb, R.st, R.m2, hw, (by omega), hy, tabs.ext s1, fun b H2 h2 s2 => ?_⟩
    refine ⟨b, act t x y.cps.toList, L, L + 1, rfl, SqT.of h2, wf, (by rw [lg]; omega), (by omega), (by omega), hL.1.symm, fun p2 Lr us2 n b2 H3 h3 h4 _ hb _ ap e s3 => ?_⟩
    have := lag_of hL.1 ap e hb
    have eb := this.unique hL
    subst eb
    refine ⟨p2, _, (1 : Int), _, rfl, rfl, SqT.of h3, rfl, ?_⟩
    exact k H3 (((Ext.of tabs s1).trans s2).same s3)
end
end M3

set_option Elab.async false
set_option linter.all false
set_option maxRecDepth 100000
set_option maxHeartbeats 8000000
/-! # A method that is asked by an operator or a built-in, or without defaults -/
namespace M3
open PySem L2
structure OpC (P : Program) (w : World) (K : PySem.W.Frag) (mg : Str → Option Value) (base : Heap) (C : Addr) (k : Nat) (x : Str) (ps : List Str) (sp : Sp) where
  f : Addr
  fd : FuncData
  G : FnOk P w K mg base CX0 k f fd ps sp
  b : Binds K fd ps []
  m : Meth K C x f
end M3

set_option Elab.async false
set_option linter.all false
set_option maxRecDepth 100000
set_option maxHeartbeats 8000000
/-! # check_place, Box.first_word -/
namespace M3
open PySem L2 NdefX
abbrev sChkPlace : Stmt := top 48
abbrev sBFw : Stmt := inClass (top 45) 9
theorem scChkPlace : FnScope ["box", "value"] ["box", "value"] (defScope sChkPlace) := ⟨rfl, rfl, rfl, by decide +kernel, rfl, by decide +kernel, by decide +kernel⟩
theorem scBFw : FnScope ["self", "place"] ["self", "place"] (defScope sBFw) := ⟨rfl, rfl, rfl, by decide +kernel, rfl, by decide +kernel, by decide +kernel⟩
def spChkPlace (K : PySem.W.Frag) (C : Addr) : Sp := fun vs H Q _ => ∃ (p : Addr) (x : Str) (t : List (List Nat)) (q : Nat), vs = [.ref p, .int (q : Nat)] ∧ BoxAt K C H p x t ∧ t.length ≤ 1000 ∧ q < t.length ∧ ∀ H' : Hp, Same H H' → Q .non H'
def spBFw (K : PySem.W.Frag) (C : Addr) : Sp := fun vs H Q _ => ∃ (p : Addr) (x : Str) (t : List (List Nat)) (m q : Nat), vs = [.ref p, .int (q : Nat)] ∧ BoxAt K C H p x t ∧ RightB x t m ∧ q < t.length ∧ ∀ H' : Hp, Same H H' → Q (toldTo t x [q]) H'
section
variable {P : Program} {w : World} {K : PySem.W.Frag} {mg : Str → Option Value} {base : Heap} {C : Addr}
theorem ok_chkplace {f cN : Addr} {fd : FuncData} (F : Fun K "check_place" "check_place" sChkPlace f fd) (DW : DefsW K mg) (W : TxW mg) (M : TxM mg) (oL : OpC P w K mg base C 1 "__len__" ["self"] (spBoxLen K C)) (TN : TxN P K mg cN) : FnOk P w K mg base CX0 3 f fd ["box", "value"] (spChkPlace K C) := by
  have GB : FnOk P w K mg base CX0 1 DW.fB DW.dB ["value", "low", "high"] (spBetween K) := ok_between DW.B W
  refine F.ok scChkPlace (fun vs H Q E h => ?_) (fun cdv A outer s H vs Q E hr h => ?_)
  · obtain ⟨p, x, t, q, rfl, _⟩ := h
    rfl
  · obtain ⟨p, x, t, q, rfl, B, tk, hq, k⟩ := h
    have hr1 : Room 1 _ := hr.mono (by decide)
    refine ⟨_, pss_one (ps_if (pt_not (pt_val (pe_call GB hr1 rfl DW.mB DW.B.kp DW.bB .nil pass0 (pa_cons (pv 1) (pa_cons pe_int (pa_cons (pe_op op_sub (pe_callB (NvO.call_lenO oL.G hr oL.b pass0 oL.m.at_ oL.m.fn) (by rfl) M.len PySem.boot_len (pa_cons (pv 0) pa_nil)) pe_int) pa_nil)))))) (pss_one (ps_raise rfl takes0 (pmk_keep (keepN TN rfl rfl rfl) hr (pa_cons (pv 1) pa_nil)))) pss_nil), ?_⟩
    obtain ⟨dx, a, us, i1, i2, i3⟩ := id B
    refine ⟨_, rfl, _, rfl, p, dx, _, rfl, i1, p, x, t, rfl, B, ((t.length : Nat) : Int), rfl, by omega, by omega, _, _, rfl, rfl, .int (q : Nat), 0, _, .type "int", false, true, rfl, .base (.int _), kit_int_bool, kit_int_int, (fun z => by cases z), (fun _ z => by cases z), fun _ _ => ⟨(q : Nat), rfl, _, rfl, ?_⟩⟩
    have e : (decide ((0 : Int) ≤ ((q : Nat) : Int)) && decide (((q : Nat) : Int) ≤ ((t.length : Nat) : Int) - 1)) = true := by
      rw [Bool.and_eq_true]
      exact ⟨decide_eq_true (by omega), decide_eq_true (by omega)⟩
    rw [e]
    exact iteF (k H (Same.refl H))
theorem ok_bfw {f fC : Addr} {fd : FuncData} (F : Fun K "first_word" "Box.first_word" sBFw f fd) (cC : FnC P w K mg base 3 "check_place" ["box", "value"] (spChkPlace K C)) (cF : FnC P w K mg base 2 "first_word_to" ["table", "letters", "states"] (spFirstTo K)) (TB : TxB K mg C) : FnOk P w K mg base CX0 4 f fd ["self", "place"] (spBFw K C) := by
  refine F.ok scBFw (fun vs H Q E h => ?_) (fun cdv A outer s H vs Q E hr h => ?_)
  · obtain ⟨p, x, t, m, q, rfl, _⟩ := h
    rfl
  · obtain ⟨p, x, t, m, q, rfl, B, R, hq, k⟩ := h
    have t4 := R.t4
    refine ⟨_, pss_cons (ps_expr (pe_call cC.G hr rfl cC.m cC.kp cC.b .nil pass0 (pa_cons (pv 0) (pa_cons (pv 1) pa_nil))))
      (pss_one (ps_ret (pe_call cF.G (hr.mono (by decide)) rfl cF.m cF.kp cF.b .nil pass0 (pa_cons (pe_fld (pv 0) rfl) (pa_cons (pe_fld (pv 0) rfl) (pa_cons (pe_tup (pa_cons (pv 1) pa_nil)) pa_nil)))))), ?_⟩
    have hm : x.cps.size = m := by
      have := set_len R.st
      simpa [Str.length] using this
    refine ⟨_, rfl, _, rfl, p, x, t, q, rfl, B, by omega, hq, fun H1 s1 => ?_⟩
    obtain ⟨dx, a, us, i1, i2, i3⟩ := B.same s1
    refine ⟨_, rfl, p, C, dx, _, _, rfl, i1, TB.cl, TB.nT, flb_t, _, rfl, p, C, dx, _, _, rfl, i1, TB.cl, TB.nL, flb_l, _, rfl, (by show 1 ≤ sizeLine; decide), fun T nT => ?_⟩
    have s2 : Same H1 (upd H1 T (.tup [.int ((q : Nat) : Int)])) := Same.new (Same.refl H1) nT
    exact ⟨a, T, us, t, m, x, [q], rfl, sqt_same s2 i2, i3.same s2, R.tb, R.t1, by omega, hm, SqT.of upd_same, (by show 1 ≤ 1000; decide), fun H3 s3 => k H3 ((s1.trans s2).trans s3)⟩
end
end M3

set_option Elab.async false
set_option linter.all false
set_option maxRecDepth 100000
set_option maxHeartbeats 8000000
/-! # _law_box -/
namespace M3
open PySem L2
abbrev nLawBox : List Str := ["dice", "letters", "most", "size", "way", "table", "plain", "sorts"]
/-- a list of tuples of numbers stands at p -/
structure LTab (d : Addr) (H : Hp) (p : Addr) (t : List (List Nat)) : Prop where
  ex : ∃ us : List V, p ≠ d ∧ H p = some (.lst us) ∧ us.length = t.length ∧ ∀ (i : Nat) (r : List Nat), t[i]? = some r → ∃ b : Addr, us[i]? = some (.ref b) ∧ H b = some (.tup (nts r))
theorem LTab.of {d p : Addr} {H : Hp} {us : List V} {t : List (List Nat)} (pd : p ≠ d) (hp : H p = some (.lst us)) (R : RowsT d p H us t) : LTab d H p t := ⟨us, pd, hp, R.1, fun i r e => by
  obtain ⟨a, h1, _, _, h4⟩ := R.2 i r e
  exact ⟨a, h1, h4⟩⟩
theorem LTab.still {d p : Addr} {H H' : Hp} {t : List (List Nat)} (h : LTab d H p t) (z : Dz H d) (s : Still d H H') : LTab d H' p t := by
  obtain ⟨us, pd, hp, hl, R⟩ := h
  obtain ⟨l, m, c, e, _⟩ := z
  refine ⟨us, pd, s _ _ pd hp, hl, fun i r hr => ?_⟩
  obtain ⟨b, h1, h2⟩ := R i r hr
  exact ⟨b, h1, s _ _ (fun q => by rw [q, e] at h2; cases h2) h2⟩
theorem LTab.same {d p : Addr} {H H' : Hp} {t : List (List Nat)} (h : LTab d H p t) (s : Same H H') : LTab d H' p t := by
  obtain ⟨us, pd, hp, hl, R⟩ := h
  refine ⟨us, pd, s _ _ hp, hl, fun i r hr => ?_⟩
  obtain ⟨b, h1, h2⟩ := R i r hr
  exact ⟨b, h1, s _ _ h2⟩
theorem LTab.off {d p D : Addr} {H : Hp} {t : List (List Nat)} {xs ys : List V} (h : LTab d H p t) (hD : H D = some (.lst xs)) (pD : p ≠ D) : LTab d (upd H D (.lst ys)) p t := by
  obtain ⟨us, pd, hp, hl, R⟩ := h
  refine ⟨us, pd, by rw [upd_ne pD]; exact hp, hl, fun i r hr => ?_⟩
  obtain ⟨b, h1, h2⟩ := R i r hr
  exact ⟨b, h1, by rw [upd_ne (ne_of h2 hD (fun z => by cases z))]; exact h2⟩
theorem LTab.tups {K : PySem.W.Frag} {d p : Addr} {H : Hp} {t : List (List Nat)} (h : LTab d H p t) : ∃ us : List V, SqL K H p us ∧ Tups K H us t := by
  obtain ⟨us, _, hp, hl, R⟩ := h
  exact ⟨us, SqL.of hp, hl, fun i r hr => by
    obtain ⟨b, h1, h2⟩ := R i r hr
    exact ⟨b, h1, SqT.of h2⟩⟩
def spLawBox : Sp := fun vs H Q _ => ∃ (d : Addr) (x : Str) (m : Nat), vs = [.ref d, .str x, .int 4] ∧ Dz H d ∧ IsSet x m ∧ 1 ≤ m ∧ m ≤ 2 ∧
  ∀ (t : List (List Nat)) (p : Addr) (H' : Hp), RightB x t m → among (bfs t x 256) = none → LTab d H' p t → Dz H' d → Still d H H' → Q (.ref p) H'
theorem turnis_non {K : PySem.W.Frag} {H H' : Hp} {o : Option (Str × Nat)} {v : V} (h : TurnIs K H H' o v) : decide (v = .non) = decide (o = none) := by
  match o, h with
  | none, h => rw [show v = .non from h]; rfl
  | some (y, q), h =>
    obtain ⟨T, rfl, _⟩ := h
    rfl
section
variable {P : Program} {w : World} {K : PySem.W.Frag} {mg : Str → Option Value} {base : Heap}
end
end M3

set_option Elab.async false
set_option linter.all false
set_option maxRecDepth 100000
set_option maxHeartbeats 8000000
/-! # _law_made_box, _law_near_table -/
namespace M3
open PySem L2
abbrev nNearT : List Str := ["dice", "table", "total", "found", "state", "row"]
def rLstOf (K : PySem.W.Frag) : List V → Hp → VK → Prop := fun xs H Q => ∃ p ys, xs = [V.ref p] ∧ (SqL K H p ys ∨ SqT K H p ys) ∧ ∀ l, H l = none → Q (.ref l) (upd H l (.lst ys))
def spMadeBox (K : PySem.W.Frag) (C : Addr) : Sp := fun vs H Q _ => ∃ (p : Addr) (x : Str) (us : List V) (t : List (List Nat)) (m : Nat), vs = [.str x, .ref p] ∧ SqL K H p us ∧ Tups K H us t ∧ RightB x t m ∧ among (bfs t x 256) = none ∧
  ∀ (b : Addr) (H' : Hp), H b = none → BoxAt K C H' b x t → Same H H' → Q (.ref b) H'
def spNearT : Sp := fun vs H Q _ => ∃ (d p : Addr) (t : List (List Nat)) (m : Nat), vs = [.ref d, .ref p, .int (m : Nat)] ∧ Dz H d ∧ LTab d H p t ∧ IsTab t t.length m ∧ 1 ≤ t.length ∧ t.length ≤ 4 ∧ 1 ≤ m ∧ m ≤ 2 ∧
  ∀ (t' : List (List Nat)) (p' : Addr) (H' : Hp), IsTab t' t'.length m → t'.length = t.length → LTab d H' p' t' → Dz H' d → Still d H H' → Q (.ref p') H'
section
variable {P : Program} {w : World} {K : PySem.W.Frag} {mg : Str → Option Value} {base : Heap} {C cG : Addr}
/-- lists of numbers, each of its own -/
structure FoundL (d C : Addr) (H : Hp) (bs : List Addr) (rs : List (List Nat)) : Prop where
  len : bs.length = rs.length
  nd : bs.Nodup
  at_ : ∀ (i : Nat) (b : Addr) (r : List Nat), bs[i]? = some b → rs[i]? = some r → b ≠ C ∧ b ≠ d ∧ H b = some (.lst (nts r))
end
end M3

set_option Elab.async false
set_option linter.all false
set_option maxRecDepth 100000
set_option maxHeartbeats 2000000
/-! # A tuple, once -/
namespace NvN
open PySem PySem.Spec PyProof.Rows L2
theorem tuple_mul1 (l : Addr) (items : Array Value) (n : Nat) (dd : Option Addr) (sl : Array (Option Value)) (u : Tok) :
    Meets (Builtin.«tuple.__mul__» ⟨[.ref l, .int 1 u], []⟩) (fun _ R s => s.heap.get? l = some { cls := .type "tuple", dict := dd, data := .seq items n, slots := sl } ∧
      R (.ok (.ret (Value.ref l))) s) :=
  .of_wp fun prog w A R s h => by
    obtain ⟨hp, g, d, tk, os⟩ := s
    obtain ⟨hl, h⟩ := h
    have f1 := AutoSeq1.idx_int
    have c0 : (decide ((1 : Int) < -(2 ^ 63)) || decide ((1 : Int) ≥ 2 ^ 63)) = false := by decide
    have c1 : (items.isEmpty || (1 : Int) == 1) = true := by
      rw [Bool.or_eq_true]
      exact .inr rfl
    wp_walk using wpAny_loadPart' hl
    repeat (first
      | (refine wpAny_ite_false (decide_eq_false (by rw [c0]; exact Bool.false_ne_true)) ?_; wp_walk using wpAny_loadPart' hl)
      | (refine wpAny_ite_true (decide_eq_true (by rw [c1])) ?_; wp_walk using wpAny_loadPart' hl))
    exact ⟨_, rfl, h⟩
/-- once: the tuple itself -/
def rRepT1 (K : PySem.W.Frag) : R2 := fun x y H Q => ∃ l xs, x = .ref l ∧ y = .int 1 ∧ SqT K H l xs ∧ Q (.ref l) H
theorem op_repT1 {X : Cx} : OpR X (binaryOp .Mult) (rRepT1 X.K) := by
  intro pins s σ H x y v u Q I rx ry h
  obtain ⟨l, xs, rfl, rfl, hT, q⟩ := h
  cases rx
  obtain ⟨t, rfl⟩ := ry
  obtain ⟨its, r, ⟨⟨cls, dd, data, sl⟩, ho, hc, n, hd⟩, hs⟩ := I.tuple hT
  simp only at hc hd
  subst hc hd
  refine wpAny_binaryOp_repeat_ref (T := "tuple") (U := "int") (by decide) ⟨_, ho, rfl⟩ (fun s' => typeIs_int s' 1 t) noFill_tuple_mul F.fills_int_mul F.slot_int_rmul repeat_tuple F.slot_int_index.lookup
    (call_meets F.slot_int_rmul (typeIs_int s 1 t) F.entry_int_rmul (F.args_int_rmul_2 _ _) (int_rmul_tuple 1 t l its.toArray n dd sl)
      ⟨ho, rfl, ⟨_, ho, rfl⟩, call_meets F.slot_tuple_mul ⟨_, ho, rfl⟩ F.entry_tuple_mul (F.args_tuple_mul_2 _ _) (tuple_mul1 l its.toArray n dd sl t) ⟨ho, ?_⟩⟩)
  exact ⟨.ref l, H, I, rfl, q⟩
end NvN

set_option Elab.async false
set_option linter.all false
set_option maxRecDepth 100000
set_option maxHeartbeats 8000000
/-! # made_box, Box.lean -/
namespace M3
open PySem L2 NdefX
abbrev sMadeB : Stmt := top 46
abbrev sBLean : Stmt := inClass (top 45) 10
abbrev nMadeB : List Str := ["letters", "table", "box"]
theorem scMadeB : FnScope nMadeB ["letters", "table"] (defScope sMadeB) := ⟨rfl, rfl, rfl, by decide +kernel, rfl, by decide +kernel, by decide +kernel⟩
theorem scBLean : FnScope ["self"] ["self"] (defScope sBLean) := ⟨rfl, rfl, rfl, by decide +kernel, rfl, by decide +kernel, by decide +kernel⟩
def spMadeB (K : PySem.W.Frag) (C : Addr) : Sp := fun vs H Q _ => ∃ (p : Addr) (x : Str) (us : List V) (t : List (List Nat)) (m : Nat), vs = [.str x, .ref p] ∧ SqT K H p us ∧ Tups K H us t ∧ IsSet x m ∧ 1 ≤ m ∧ m ≤ 2 ∧
  ∀ (b : Addr) (H' : Hp), H b = none → BoxAt K C H' b x t → Same H H' → Q (.ref b) H'
/-- the table with one place has no turn -/
theorem one_calm {x : Str} {m : Nat} (st : IsSet x m) (m1 : 1 ≤ m) (m2 : m ≤ 2) : RightB x [List.replicate m 0] m ∧ among (bfs [List.replicate m 0] x 256) = none := by
  have tb : IsTab [List.replicate m 0] 1 m := ⟨rfl, fun r hr => by
    rw [List.mem_singleton.mp hr]
    exact ⟨List.length_replicate, fun z hz => by rw [(List.mem_replicate.mp hz).2]; decide⟩⟩
  have R : RightB x [List.replicate m 0] m := ⟨st, m1, m2, tb, (by show 1 ≤ 1; decide), (by show 1 ≤ 4; decide)⟩
  have hm : x.cps.toList.length = m := by
    have := set_len st
    simpa [Str.length] using this
  refine ⟨R, among_calm R fun cs hcs => not_turned fun q k hq e => ?_⟩
  have lg : (act [List.replicate m 0] x cs).length = 1 := by
    unfold act
    rw [List.length_map, List.length_range]
    rfl
  have q0 : q = 0 := by omega
  subst q0
  rw [act_pt (show 0 < ([List.replicate m 0] : List (List Nat)).length by show 0 < 1; decide)]
  have := goes_lt tb hm cs 0 (by decide) hcs
  omega
theorem flb_put {x : Str} {a b : Addr} : putF "_table" (.ref b) (flB x a) = flB x b := by rfl
section
variable {P : Program} {w : World} {K : PySem.W.Frag} {mg : Str → Option Value} {base : Heap} {C cG : Addr}
theorem ok_madeb {f gI : Addr} {fd dI : FuncData} (F : Fun K "made_box" "made_box" sMadeB f fd) (MK : Mk K C gI) (GI : FnOk P w K mg base (L2.CX P w) 4 gI dI ["self", "letters", "table"] (spBoxInit K C cG)) (bI : Binds K dI ["self", "letters", "table"] []) (mC : mg "Box" = some (.ref C)) (M : TxM mg) (TB : TxB K mg C) :
    FnOk P w K mg base CX0 6 f fd ["letters", "table"] (spMadeB K C) := by
  refine F.ok scMadeB (fun vs H Q E h => ?_) (fun cdv A outer s H vs Q E hr h => ?_)
  · obtain ⟨p, x, us, t, m, rfl, _⟩ := h
    rfl
  · obtain ⟨p, x, us, t, m, rfl, hp, hT, st, m1, m2, k⟩ := h
    refine ⟨_, pss_cons (ps_set (i := 2) scMadeB.nd rfl (Or.inl rfl) (pe_make MK GI hr rfl mC bI .nil passL (pa_cons (pv 0) (pa_cons (pe_tup (pa_cons (pe_op (op_repT.or NvN.op_repT1) (pe_tup (pa_cons pe_int pa_nil)) (pe_callB call_len_str (by rfl) M.len PySem.boot_len (pa_cons (pv 0) pa_nil))) pa_nil)) pa_nil))))
      (pss_cons (ps_fld (pv 2) (pv 1) rfl) (pss_one (ps_ret (pv 2)))), ?_⟩
    obtain ⟨R0, no0⟩ := one_calm st m1 m2
    have lx := set_len st
    refine ⟨_, rfl, (by show 1 ≤ sizeLine; decide), fun T1 nT1 => ?_⟩
    have hT1 : (upd H T1 (.tup [.int 0])) T1 = some (.tup [.int 0]) := upd_same
    have sA : Same H (upd H T1 (.tup [.int 0])) := Same.new (Same.refl H) nT1
    generalize upd H T1 (.tup [.int 0]) = HA at hT1 sA ⊢
    refine ⟨_, rfl, x, rfl, Nat.le_trans (show x.length ≤ 2 by omega) (by decide), ?_⟩
    rw [lx]
    by_cases e2 : m = 2
    · refine .inl ⟨T1, ((m : Nat) : Int), [.int 0], rfl, rfl, SqT.of hT1, (fun z => by cases z), by omega, by omega, (by show 1 ≤ 1000; decide), fun r0 nr0 => ⟨(by show 1 ≤ sizeLine; decide), fun T2 nT2 => ?_⟩⟩
      have erow : (List.replicate ((m : Nat) : Int).toNat [V.int 0]).flatten = nts (List.replicate m 0) := by
        subst e2
        rfl
      rw [erow] at nT2 ⊢
      have hr0 : (upd HA r0 (.tup (nts (List.replicate m 0)))) r0 = some (.tup (nts (List.replicate m 0))) := upd_same
      have sB : Same H (upd HA r0 (.tup (nts (List.replicate m 0)))) := Same.new sA nr0
      generalize upd HA r0 (.tup (nts (List.replicate m 0))) = HB at hr0 sB nT2 ⊢
      have hT2 : (upd HB T2 (.tup [.ref r0])) T2 = some (.tup [.ref r0]) := upd_same
      have hr2 : (upd HB T2 (.tup [.ref r0])) r0 = some (.tup (nts (List.replicate m 0))) := keep_new hr0 nT2
      have s2 : Same H (upd HB T2 (.tup [.ref r0])) := Same.new sB nT2
      generalize upd HB T2 (.tup [.ref r0]) = H1 at hT2 hr2 s2 ⊢
      intro b dx nb ndx nex
      have nbH : H b = none := free_of s2 nb
      have s3 : Same H1 (upd (upd H1 dx (.own b)) b (.ins C dx [])) := Same.new (Same.new (Same.refl H1) ndx) (by rw [upd_ne (Ne.symm nex)]; exact nb)
      have tups : Tups K (upd (upd H1 dx (.own b)) b (.ins C dx [])) [.ref r0] [List.replicate m 0] := ⟨rfl, fun i r e => by
        match i, e with
        | 0, e =>
          cases e
          exact ⟨r0, rfl, SqT.of (s3 _ _ hr2)⟩⟩
      refine ⟨b, dx, T2, x, [.ref r0], [List.replicate m 0], m, rfl, upd_same, R0, SqT.of (s3 _ _ hT2), tups, fun _ H' hq kp => ⟨rfl, ?_⟩, fun y q e => by rw [no0] at e; cases e⟩
      refine ⟨_, rfl, _, rfl, b, C, dx, _, rfl, hq, TB.cl, TB.nT, (by show 2 < 1000; decide), ?_⟩
      rw [flb_put]
      have s5 : Same H (upd H' b (.ins C dx (flB x p))) := fun c o h => by
        have cb : c ≠ b := fun z => by rw [z, nbH] at h; cases h
        rw [upd_ne cb]
        exact kp c o cb (s3 _ _ (s2 _ _ h))
      exact ⟨_, rfl, k b _ nbH ⟨dx, p, us, upd_same, sqt_same s5 hp, hT.same s5⟩ s5⟩
    · have e1 : m = 1 := by omega
      refine .inr ⟨T1, _, rfl, (by rw [e1]; rfl), SqT.of hT1, (by show 1 ≤ sizeLine; decide), fun T2 nT2 => ?_⟩
      have hr0 : HA T1 = some (.tup (nts (List.replicate m 0))) := by
        rw [hT1, e1]
        rfl
      have sB := sA
      generalize T1 = r0 at hr0 ⊢
      generalize HA = HB at hr0 sB nT2 ⊢
      have hT2 : (upd HB T2 (.tup [.ref r0])) T2 = some (.tup [.ref r0]) := upd_same
      have hr2 : (upd HB T2 (.tup [.ref r0])) r0 = some (.tup (nts (List.replicate m 0))) := keep_new hr0 nT2
      have s2 : Same H (upd HB T2 (.tup [.ref r0])) := Same.new sB nT2
      generalize upd HB T2 (.tup [.ref r0]) = H1 at hT2 hr2 s2 ⊢
      intro b dx nb ndx nex
      have nbH : H b = none := free_of s2 nb
      have s3 : Same H1 (upd (upd H1 dx (.own b)) b (.ins C dx [])) := Same.new (Same.new (Same.refl H1) ndx) (by rw [upd_ne (Ne.symm nex)]; exact nb)
      have tups : Tups K (upd (upd H1 dx (.own b)) b (.ins C dx [])) [.ref r0] [List.replicate m 0] := ⟨rfl, fun i r e => by
        match i, e with
        | 0, e =>
          cases e
          exact ⟨r0, rfl, SqT.of (s3 _ _ hr2)⟩⟩
      refine ⟨b, dx, T2, x, [.ref r0], [List.replicate m 0], m, rfl, upd_same, R0, SqT.of (s3 _ _ hT2), tups, fun _ H' hq kp => ⟨rfl, ?_⟩, fun y q e => by rw [no0] at e; cases e⟩
      refine ⟨_, rfl, _, rfl, b, C, dx, _, rfl, hq, TB.cl, TB.nT, (by show 2 < 1000; decide), ?_⟩
      rw [flb_put]
      have s5 : Same H (upd H' b (.ins C dx (flB x p))) := fun c o h => by
        have cb : c ≠ b := fun z => by rw [z, nbH] at h; cases h
        rw [upd_ne cb]
        exact kp c o cb (s3 _ _ (s2 _ _ h))
      exact ⟨_, rfl, k b _ nbH ⟨dx, p, us, upd_same, sqt_same s5 hp, hT.same s5⟩ s5⟩
def spBLean (K : PySem.W.Frag) (C : Addr) : Sp := fun vs H Q _ => ∃ (p : Addr) (x : Str) (t : List (List Nat)) (m : Nat), vs = [.ref p] ∧ BoxAt K C H p x t ∧ RightB x t m ∧
  ∀ (b : Addr) (H' : Hp), H b = none → BoxAt K C H' b x (leanT t x) → Same H H' → Q (.ref b) H'
theorem ok_blean {f : Addr} {fd : FuncData} (F : Fun K "lean" "Box.lean" sBLean f fd) (cM : FnC P w K mg base 6 "made_box" ["letters", "table"] (spMadeB K C)) (cT : FnC P w K mg base 2 "lean_table" ["table"] (spLeanT K)) (TB : TxB K mg C) : FnOk P w K mg base CX0 7 f fd ["self"] (spBLean K C) := by
  refine F.ok scBLean (fun vs H Q E h => ?_) (fun cdv A outer s H vs Q E hr h => ?_)
  · obtain ⟨p, x, t, m, rfl, _⟩ := h
    rfl
  · obtain ⟨p, x, t, m, rfl, B, R, k⟩ := h
    have t4 := R.t4
    refine ⟨_, pss_one (ps_ret (pe_call cM.G hr rfl cM.m cM.kp cM.b .nil pass0 (pa_cons (pe_fld (pv 0) rfl) (pa_cons (pe_call cT.G (hr.mono (by decide)) rfl cT.m cT.kp cT.b .nil pass0 (pa_cons (pe_fld (pv 0) rfl) pa_nil)) pa_nil)))), ?_⟩
    have hm : x.cps.size = m := by
      have := set_len R.st
      simpa [Str.length] using this
    obtain ⟨dx, a, us, i1, i2, i3⟩ := id B
    have m2 := R.m2
    refine ⟨_, rfl, p, C, dx, _, _, rfl, i1, TB.cl, TB.nL, flb_l, _, rfl, p, C, dx, _, _, rfl, i1, TB.cl, TB.nT, flb_t, a, us, t, m, x, rfl, i2, i3, R.tb, R.t1, by omega, hm, by omega, fun q us' H1 h1 RA s1 => ?_⟩
    refine ⟨q, x, us', leanT t x, m, rfl, SqT.of h1, ⟨RA.1, fun i r e => ?_⟩, R.st, R.m1, R.m2, fun b H2 nb hB s2 => k b H2 (free_of s1 nb) hB (s1.trans s2)⟩
    obtain ⟨b, b1, b2⟩ := RA.2 i r e
    exact ⟨b, b1, SqT.of b2⟩
end
end M3

set_option Elab.async false
set_option linter.all false
set_option maxRecDepth 100000
set_option maxHeartbeats 8000000
/-! # Boxes seen from outside -/
namespace M3
open PySem L2 NdefX
/-- the class of boxes, seen from outside -/
structure TxOB (K : PySem.W.Frag) (C : Addr) : Prop where
  ha : PySem.W.findIn K (.ref C) "__class__" = some (some (.builtin "object.__class__"))
  hn : PySem.W.specialIn K (.builtin "object.__class__") "__get__" = some (some (.builtin "getset_descriptor.__get__"))
  tk : PySem.W.takesIn K (.builtin "object.__class__") = some true
  hm : PySem.W.mroIn K C (.type "object") = some true
  kc : PySem.W.kitOne K (.ref C) (.ref C) = some true
  ki : PySem.W.kitOne K (.type "int") (.ref C) = some false
  kt : PySem.W.kitOne K (.type "str") (.ref C) = some false
  ku : PySem.W.kitOne K (.type "tuple") (.ref C) = some false
  fi : PySem.W.notFirst K C (.type "int") = true
  fs : PySem.W.notFirst K C (.type "str") = true
  fu : PySem.W.notFirst K C (.type "tuple") = true
  ne : PySem.W.findIn K (.ref C) "__ne__" = some (some (.builtin "object.__ne__"))
theorem first_self {K : PySem.W.Frag} {C : Addr} : PySem.W.notFirst K C (.ref C) = true := by simp [PySem.W.notFirst]
theorem BoxAt.stl {K : PySem.W.Frag} {T : List NTab} {C p d : Addr} {H H' : Hp} {x : Str} {t : List (List Nat)} (h : BoxAt K C H p x t) (z : Dz H d) (s : Stl T d H H') : BoxAt K C H' p x t := by
  obtain ⟨dx, a, us, h1, h2, h3⟩ := h
  obtain ⟨l, m, c, e, _⟩ := id z
  refine ⟨dx, a, us, s.st _ _ (fun q => by rw [q, e] at h1; cases h1) h1 (fun ps q => by cases q), sqt_stl s z h2, ⟨h3.1, fun i r hr => ?_⟩⟩
  obtain ⟨b', b1, b2⟩ := h3.2 i r hr
  exact ⟨b', b1, sqt_stl s z b2⟩
theorem LTab.stl {T : List NTab} {d p : Addr} {H H' : Hp} {t : List (List Nat)} (h : LTab d H p t) (z : Dz H d) (s : Stl T d H H') : LTab d H' p t := by
  obtain ⟨us, pd, hp, hl, R⟩ := h
  obtain ⟨l, m, c, e, _⟩ := z
  refine ⟨us, pd, s.st _ _ pd hp (fun ps q => by cases q), hl, fun i r hr => ?_⟩
  obtain ⟨b, h1, h2⟩ := R i r hr
  exact ⟨b, h1, s.st _ _ (fun q => by rw [q, e] at h2; cases h2) h2 (fun ps q => by cases q)⟩
theorem same_dz' {d : Addr} {H H' : Hp} (s : Same H H') (z : Dz H d) : Dz H' d := by
  obtain ⟨l, m, c, e, h⟩ := z
  exact ⟨l, m, c, s _ _ e, h⟩
/-- letters, table and size as data -/
def dTold (x : Str) (t : List (List Nat)) : PyData := .list [.str x, dT t, .int ((t.length : Nat) : Int)]
theorem eqv_told (x : Str) (t : List (List Nat)) : (dTold x t).eqv (dTold x t) = true := by
  unfold dTold
  rw [PyData.eqv]
  simp only [PyData.eqvAll]
  have e : (dT t).eqv (dT t) = true := by
    unfold dT
    rw [PyData.eqv]
    exact (eqv_tabs t t).trans (decide_eq_true rfl)
  rw [e]
  simp [PyData.eqv]
theorem shaped_told {x : Str} {t : List (List Nat)} {m : Nat} (h : IsSet x m) : SeqAt.shaped (dTold x t) = true := by
  unfold SeqAt.shaped
  have h1 : (dTold x t).canLay0 = true := by
    unfold dTold dT
    simp only [PyData.canLay0, PyData.canLayAll0, lay_rows, set_ok h, Bool.and_self]
  have h2 : (dTold x t).depth ≤ 64 := by
    have r := dep_rows t
    unfold dTold dT
    simp only [PyData.depth, PyData.depthAll]
    omega
  rw [h1, decide_eq_true h2]
  rfl
theorem iter_far {t : List (List Nat)} {x y : Str} {m q : Nat} (R : RightB x t m) (hw : IsW x y) (hq : q < t.length) (no : among (bfs t x 256) = none) : ∀ j, iter t x y q (t.length + j) = iter t x y q t.length := by
  have hxm : x.cps.toList.length = m := by
    have := set_len R.st
    simpa [Str.length] using this
  have la : (act t x y.cps.toList).length = t.length := by
    unfold act
    rw [List.length_map, List.length_range]
  have ht : turned (act t x y.cps.toList) = none := among_none R no hw
  have rest := its_rest (g := act t x y.cps.toList) (q := q) (fun z hz => by rw [la]; exact act_lt R.tb hxm hw z hz) (by rw [la]; exact hq) ht
  rw [la] at rest
  have all : ∀ j, its (act t x y.cps.toList) q (t.length + j) = its (act t x y.cps.toList) q t.length := by
    intro j
    induction j with
    | zero => rfl
    | succ j ih =>
      show (act t x y.cps.toList).getD (its (act t x y.cps.toList) q (t.length + j)) 0 = _
      rw [ih]
      exact rest
  intro j
  rw [← its_iter R hw hq, ← its_iter R hw hq]
  exact all j
theorem few_times {v : V} (h : v ∈ [V.int 0, .int 1, .int 2, .int 3, .int 7]) : ∃ k : Nat, v = .int (k : Nat) ∧ k ≤ 7 := by
  simp only [List.mem_cons, List.not_mem_nil, or_false] at h
  rcases h with h | h | h | h | h
  · exact ⟨0, h, by decide⟩
  · exact ⟨1, h, by decide⟩
  · exact ⟨2, h, by decide⟩
  · exact ⟨3, h, by decide⟩
  · exact ⟨7, h, by decide⟩
theorem far_times {v : V} {n : Nat} (hn : n ≤ 4) (h : v ∈ [V.int ((n : Nat) : Int), .int (((n : Nat) : Int) + 1), .int 99, .int ((10 : Int) ^ (11 : Int).toNat), .int ((10 : Int) ^ (11 : Int).toNat - 1)]) : ∃ j : Nat, v = .int ((n + j : Nat) : Int) ∧ n + j ≤ 100000000000 := by
  have es : (10 : Int) ^ (11 : Int).toNat = 100000000000 := by decide +kernel
  rw [es] at h
  simp only [List.mem_cons, List.not_mem_nil, or_false] at h
  rcases h with h | h | h | h | h
  · exact ⟨0, h, by omega⟩
  · exact ⟨1, by rw [h]; rfl, by omega⟩
  · exact ⟨99 - n, by rw [h]; congr 1; omega, by omega⟩
  · exact ⟨100000000000 - n, by rw [h]; congr 1; omega, by omega⟩
  · exact ⟨99999999999 - n, by rw [h]; congr 1; omega, by omega⟩
/-- a list of tuples as data -/
def dTsB (t : List (List Nat)) : PyData := .list (t.map dN)
theorem eqv_dTsB (t s : List (List Nat)) : (dTsB t).eqv (dTsB s) = decide (t = s) := by
  unfold dTsB
  rw [PyData.eqv]
  exact eqv_tabs t s
theorem shaped_dTsB (t : List (List Nat)) : SeqAt.shaped (dTsB t) = true := by
  unfold SeqAt.shaped
  have h1 : (dTsB t).canLay0 = true := by
    unfold dTsB
    simp only [PyData.canLay0, lay_rows]
  have h2 : (dTsB t).depth ≤ 64 := by
    have r := dep_rows t
    unfold dTsB
    simp only [PyData.depth]
    omega
  rw [h1, decide_eq_true h2]
  rfl
theorem same_told {x : Str} {t s : List (List Nat)} : (decide (x = x) && decide (t = s)) = decide (s = t) := by
  rw [decide_eq_true rfl, Bool.true_and]
  exact decide_eq_decide.mpr eq_comm
theorem shaped_nB (es : List Nat) : SeqAt.shaped (dN es) = true := by
  unfold SeqAt.shaped
  have h1 : (dN es).canLay0 = true := lay_dN es
  have h2 : (dN es).depth ≤ 64 := by
    rw [dep_dN]
    decide
  rw [h1, decide_eq_true h2]
  rfl
section
variable {P : Program} {w : World} {K : PySem.W.Frag} {mg : Str → Option Value} {base : Heap} {C : Addr} {T : List NTab}
end
end M3

set_option Elab.async false
set_option linter.all false
set_option maxRecDepth 100000
set_option maxHeartbeats 8000000
/-! # Tuples of tuples as data; ends drawn -/
namespace M3
open PySem L2
theorem eqv_dT (a b : List (List Nat)) : (dT a).eqv (dT b) = decide (a = b) := by
  unfold dT
  rw [PyData.eqv]
  exact eqv_tabs a b
theorem shaped_dT (t : List (List Nat)) : SeqAt.shaped (dT t) = true := by
  unfold SeqAt.shaped
  have h1 : (dT t).canLay0 = true := by
    unfold dT
    simp only [PyData.canLay0, lay_rows]
  have h2 : (dT t).depth ≤ 64 := by
    have r := dep_rows t
    unfold dT
    simp only [PyData.depth]
    omega
  rw [h1, decide_eq_true h2]
  rfl
theorem RowsA.tups {K : PySem.W.Frag} {H : Hp} {us : List V} {t : List (List Nat)} (h : RowsA H us t) : Tups K H us t := ⟨h.1, fun i r e => by
  obtain ⟨b, b1, b2⟩ := h.2 i r e
  exact ⟨b, b1, SqT.of b2⟩⟩
theorem ends_of {ns : List Int} {l : List Nat} {n : Nat} (pm : ns.Perm (l.map Int.ofNat)) (so : ns.Pairwise (· ≤ ·)) (nd : l.Nodup) (lt : ∀ z ∈ l, z < n) : ∃ es : List Nat, ns.map V.int = nts es ∧ es.Pairwise (· < ·) ∧ (∀ z ∈ es, z < n) ∧ es.length = l.length := by
  have nn : ∀ i ∈ ns, ∃ z : Nat, i = (z : Int) := fun i hi => by
    obtain ⟨z, _, e⟩ := List.mem_map.mp (pm.mem_iff.mp hi)
    exact ⟨z, e.symm⟩
  have p2 : (ns.map Int.toNat).Perm l := by
    have := pm.map Int.toNat
    rw [List.map_map] at this
    rwa [show (l.map (Int.toNat ∘ Int.ofNat)) = l from (List.map_congr_left (g := id) fun z _ => rfl).trans (List.map_id _)] at this
  refine ⟨ns.map Int.toNat, ?_, ?_, fun z hz => lt z (p2.mem_iff.mp hz), p2.length_eq⟩
  · unfold nts
    rw [List.map_map]
    refine List.map_congr_left fun i hi => ?_
    obtain ⟨z, rfl⟩ := nn i hi
    rfl
  · have a : (ns.map Int.toNat).Pairwise (· ≤ ·) := by
      rw [List.pairwise_map]
      exact so.imp fun h => by omega
    have b : (ns.map Int.toNat).Nodup := p2.nodup_iff.mpr nd
    exact (List.Pairwise.and a b).imp fun h => Nat.lt_of_le_of_ne h.1 h.2
theorem cut_takeN {es : List Nat} {n : Nat} (h : n ≤ es.length) : cutV (nts es) none (some (n : Int)) = nts (es.take n) := by
  unfold cutV
  rw [HT.sIx_none, HT.sIx_nat, nts_length, List.drop_zero, Nat.sub_zero, Nat.min_eq_left h]
  unfold nts
  rw [List.map_take]
end M3

set_option Elab.async false
set_option linter.all false
set_option maxRecDepth 100000
set_option maxHeartbeats 8000000
/-! # check_box, check_same_letters of boxes, Box & Box, a box of any size called -/
namespace M3
open PySem L2 NdefX
abbrev sChkBox : Stmt := top 47
abbrev sSameL : Stmt := top 31
abbrev sBAnd : Stmt := inClass (top 45) 12
theorem scChkBox : FnScope ["value"] ["value"] (defScope sChkBox) := ⟨rfl, rfl, rfl, by decide +kernel, rfl, by decide +kernel, by decide +kernel⟩
theorem scSameL : FnScope ["one", "other"] ["one", "other"] (defScope sSameL) := ⟨rfl, rfl, rfl, by decide +kernel, rfl, by decide +kernel, by decide +kernel⟩
theorem scBAnd : FnScope ["self", "other"] ["self", "other"] (defScope sBAnd) := ⟨rfl, rfl, rfl, by decide +kernel, rfl, by decide +kernel, by decide +kernel⟩
/-- what is right of a box of any size -/
structure WideB (x : Str) (t : List (List Nat)) (m : Nat) : Prop where
  st : IsSet x m
  m1 : 1 ≤ m
  m2 : m ≤ 2
  tb : IsTab t t.length m
  t1 : 1 ≤ t.length
theorem RightB.wide {x : Str} {t : List (List Nat)} {m : Nat} (R : RightB x t m) : WideB x t m := ⟨R.st, R.m1, R.m2, R.tb, R.t1⟩
def spChkBox (K : PySem.W.Frag) (C : Addr) : Sp := fun vs H Q _ => ∃ (p : Addr) (x : Str) (t : List (List Nat)), vs = [.ref p] ∧ BoxAt K C H p x t ∧ Q .non H
def spSameLB (K : PySem.W.Frag) (C : Addr) : Sp := fun vs H Q _ => ∃ (p q : Addr) (x : Str) (t u : List (List Nat)), vs = [.ref p, .ref q] ∧ BoxAt K C H p x t ∧ BoxAt K C H q x u ∧ Q .non H
def spBAnd (K : PySem.W.Frag) (C : Addr) : Sp := fun vs H Q _ => ∃ (p q : Addr) (x : Str) (t u : List (List Nat)) (m : Nat), vs = [.ref p, .ref q] ∧ BoxAt K C H p x t ∧ BoxAt K C H q x u ∧ RightB x t m ∧ RightB x u m ∧
  ∀ (b : Addr) (H' : Hp), H b = none → BoxAt K C H' b x (leanT (prodT t u m) x) → Same H H' → Q (.ref b) H'
def spBChkW (K : PySem.W.Frag) (C : Addr) : Sp := fun vs H Q _ => ∃ (p : Addr) (x y : Str) (t : List (List Nat)) (m : Nat), vs = [.ref p, .str y] ∧ BoxAt K C H p x t ∧ WideB x t m ∧ IsW x y ∧ y.length ≤ 1000000 ∧ ∀ H' : Hp, Same H H' → Q .non H'
def spBCallW (K : PySem.W.Frag) (C : Addr) : Sp := fun vs H Q _ => ∃ (p : Addr) (x y : Str) (t : List (List Nat)) (m : Nat), vs = [.ref p, .str y] ∧ BoxAt K C H p x t ∧ WideB x t m ∧ IsW x y ∧ y.length ≤ 1000000 ∧ ∀ H' : Hp, Same H H' → Q (.int ((goes t x 0 y.cps.toList : Nat) : Int)) H'
section
variable {P : Program} {w : World} {K : PySem.W.Frag} {mg : Str → Option Value} {base : Heap} {C : Addr}
theorem ok_chkbox {f cB : Addr} {fd : FuncData} (F : Fun K "check_box" "check_box" sChkBox f fd) (W : TxW mg) (TB : TxB K mg C) (TO : TxOB K C) (mC : mg "Box" = some (.ref C)) (TI : TxR K mg "InvalidBox" cB) : FnOk P w K mg base CX0 1 f fd ["value"] (spChkBox K C) := by
  refine F.ok scChkBox (fun vs H Q E h => ?_) (fun cdv A outer s H vs Q E hr h => ?_)
  · obtain ⟨p, x, t, rfl, _⟩ := h
    rfl
  · obtain ⟨p, x, t, rfl, B, k⟩ := h
    refine ⟨_, pss_one (ps_if (pt_not (pt_val (pe_callB call_isi (by rfl) W.isi (by decide +kernel) (pa_cons (pv 0) (pa_cons (pe_glob (v := .ref C) rfl mC rfl) pa_nil))))) (pss_one (ps_raise rfl takes0 (pmk_own PySem.F.excBase_ValueError TI.x TI.g TI.k (raises_own TI.b TI.t) rfl))) pss_nil), ?_⟩
    obtain ⟨dx, a, us, i1, i2, i3⟩ := id B
    exact ⟨_, rfl, .ref p, .ref C, .ref C, .ref C, true, rfl, .own C, .base (.ins i1 TB.cl TO.ha TO.hn TO.tk TO.hm), TO.kc, _, rfl, iteF k⟩
theorem ok_samelb {f cO : Addr} {fd : FuncData} (F : Fun K "check_same_letters" "check_same_letters" sSameL f fd) (pL : PrC P w K mg base C 1 "letters" (spBLet K C)) (TB : TxB K mg C) (TO : TxR K mg "InvalidOperation" cO) : FnOk P w K mg base CX0 3 f fd ["one", "other"] (spSameLB K C) := by
  refine F.ok scSameL (fun vs H Q E h => ?_) (fun cdv A outer s H vs Q E hr h => ?_)
  · obtain ⟨p, q, x, t, t', rfl, _⟩ := h
    rfl
  · obtain ⟨p, q, x, t, t', rfl, M1, M2, k⟩ := h
    refine ⟨_, pss_one (ps_if (pt_cmpR op_ne (pe_prop (pv 0) TB.cl pL.hp pL.G hr pL.b .nil pass0 rfl) (pe_prop (pv 1) TB.cl pL.hp pL.G hr pL.b .nil pass0 rfl) (nomark _)) (pss_one (ps_raise rfl takes0 (pmk_own PySem.F.excBase_ValueError TO.x TO.g TO.k (raises_own TO.b TO.t) rfl))) pss_nil), ?_⟩
    obtain ⟨dx, a, us, i1, i2, i3⟩ := id M1
    obtain ⟨dx', a', us', j1, j2, j3⟩ := id M2
    refine ⟨_, rfl, p, dx, _, rfl, i1, p, x, t, rfl, M1, _, rfl, q, dx', _, rfl, j1, q, x, t', rfl, M2, rfl, _, rfl, ?_⟩
    rw [ne_not rfl]
    exact iteF k
theorem ok_band {f : Addr} {fd : FuncData} (F : Fun K "__and__" "Box.__and__" sBAnd f fd) (cB : FnC P w K mg base 1 "check_box" ["value"] (spChkBox K C)) (cS : FnC P w K mg base 3 "check_same_letters" ["one", "other"] (spSameLB K C)) (cM : FnC P w K mg base 6 "made_box" ["letters", "table"] (spMadeB K C)) (cT : FnC P w K mg base 1 "beside" ["one", "other"] (spBeside K)) (TB : TxB K mg C) :
    FnOk P w K mg base CX0 7 f fd ["self", "other"] (spBAnd K C) := by
  refine F.ok scBAnd (fun vs H Q E h => ?_) (fun cdv A outer s H vs Q E hr h => ?_)
  · obtain ⟨p, q, x, t, u, m, rfl, _⟩ := h
    rfl
  · obtain ⟨p, q, x, t, u, m, rfl, B1, B2, R1, R2, k⟩ := h
    have t4 := R1.t4
    have u4 := R2.t4
    refine ⟨_, pss_cons (ps_expr (pe_call cB.G (hr.mono (by decide)) rfl cB.m cB.kp cB.b .nil pass0 (pa_cons (pv 1) pa_nil)))
      (pss_cons (ps_expr (pe_call cS.G (hr.mono (by decide)) rfl cS.m cS.kp cS.b .nil pass0 (pa_cons (pv 0) (pa_cons (pv 1) pa_nil))))
      (pss_one (ps_ret (pe_call cM.G hr rfl cM.m cM.kp cM.b .nil pass0 (pa_cons (pe_fld (pv 0) rfl) (pa_cons (pe_ix ix_tup (pe_call cT.G (hr.mono (by decide)) rfl cT.m cT.kp cT.b .nil pass0 (pa_cons (pe_fld (pv 0) rfl) (pa_cons (pe_fld (pv 1) rfl) pa_nil))) pe_int (fun _ _ => rfl)) pa_nil)))))), ?_⟩
    have hm : x.cps.size = m := by
      have := set_len R1.st
      simpa [Str.length] using this
    have m2 := R1.m2
    have tu : t.length * u.length ≤ 1000 := Nat.le_trans (Nat.mul_le_mul t4 u4) (by decide)
    have pb := prod_tab R1.tb R2.tb
    have p1 : 1 ≤ (prodT t u m).length := by
      rw [prod_len]
      exact Nat.mul_pos R1.t1 R2.t1
    obtain ⟨dx, a, us, i1, i2, i3⟩ := id B1
    obtain ⟨dx', a', us', j1, j2, j3⟩ := id B2
    refine ⟨_, rfl, q, x, u, rfl, B2, _, rfl, _, rfl, p, q, x, t, u, rfl, B1, B2, ?_⟩
    refine ⟨_, rfl, p, C, dx, _, _, rfl, i1, TB.cl, TB.nL, flb_l, _, rfl, p, C, dx, _, _, rfl, i1, TB.cl, TB.nT, flb_t, _, rfl, q, C, dx', _, _, rfl, j1, TB.cl, TB.nT, flb_t, a, a', us, us', t, u, m, x, rfl, i2, i3, R1.tb, R1.t1, j2, j3, R2.tb, R2.t1, tu, hm, by omega, fun pp l c ps ls H1 hp hl nl RP hc RL s1 => ?_⟩
    refine ⟨pp, _, 1, .ref c, rfl, rfl, SqT.of hp, rfl, ?_⟩
    exact ⟨c, x, ls, leanT (prodT t u m) x, m, rfl, SqT.of hc, RL.tups, R1.st, R1.m1, R1.m2, fun b H2 nb hB s2 => k b H2 (free_of s1 nb) hB (s1.trans s2)⟩
theorem ok_bchkw {f : Addr} {fd : FuncData} (F : Fun K "_check" "Box._check" sBChk f fd) (cC : FnC P w K mg base 3 "check_word" ["value"] spCheck) (cO : FnC P w K mg base 2 "check_only" ["word", "letters"] spOnlyC) (TB : TxB K mg C) : FnOk P w K mg base CX0 4 f fd ["self", "word"] (spBChkW K C) := by
  refine F.ok scBChk (fun vs H Q E h => ?_) (fun cdv A outer s H vs Q E hr h => ?_)
  · obtain ⟨p, x, y, t, m, rfl, _⟩ := h
    rfl
  · obtain ⟨p, x, y, t, m, rfl, B, R, hw, hy, k⟩ := h
    have hr2 : Room 2 _ := hr.mono (by decide)
    refine ⟨_, pss_cons (ps_expr (pe_call cC.G hr rfl cC.m cC.kp cC.b .nil pass0 (pa_cons (pv 1) pa_nil)))
      (pss_one (ps_expr (pe_call cO.G hr2 rfl cO.m cO.kp cO.b .nil pass0 (pa_cons (pv 1) (pa_cons (pe_fld (pv 0) rfl) pa_nil))))), ?_⟩
    refine ⟨_, rfl, y, rfl, hy, only_all R.st hw, fun H1 s1 => ?_⟩
    obtain ⟨dx, a, us, i1, i2, i3⟩ := B.same s1
    exact ⟨_, rfl, _, rfl, p, C, dx, _, _, rfl, i1, TB.cl, TB.nL, flb_l, y, x, rfl, hy, only_of hw, fun H2 s2 => k H2 (s1.trans s2)⟩
theorem ok_bcallw {f fC : Addr} {fd dC : FuncData} (F : Fun K "__call__" "Box.__call__" sBCall f fd) (GC : FnOk P w K mg base CX0 4 fC dC ["self", "word"] (spBChkW K C)) (bC : Binds K dC ["self", "word"] []) (mC : Meth K C "_check" fC)
    (cL : FnC P w K mg base 1 "led" ["table", "letters", "start", "word"] (spLed K)) (TB : TxB K mg C) : FnOk P w K mg base CX0 5 f fd ["self", "word"] (spBCallW K C) := by
  refine F.ok scBCall (fun vs H Q E h => ?_) (fun cdv A outer s H vs Q E hr h => ?_)
  · obtain ⟨p, x, y, t, m, rfl, _⟩ := h
    rfl
  · obtain ⟨p, x, y, t, m, rfl, B, R, hw, hy, k⟩ := h
    have hr1 : Room 1 _ := hr.mono (by decide)
    refine ⟨_, pss_cons (ps_expr (pe_meth (pv 0) TB.cl mC GC hr bC .nil pass0 (pa_cons (pv 1) pa_nil)))
      (pss_one (ps_ret (pe_call cL.G hr1 rfl cL.m cL.kp cL.b .nil pass0 (pa_cons (pe_fld (pv 0) rfl) (pa_cons (pe_fld (pv 0) rfl) (pa_cons pe_int (pa_cons (pv 1) pa_nil))))))), ?_⟩
    obtain ⟨dx, a, us, i1, i2, i3⟩ := id B
    refine ⟨_, rfl, p, dx, _, rfl, i1, flb_chk, _, rfl, p, x, y, t, m, rfl, B, R, hw, hy, fun H1 s1 => ?_⟩
    refine ⟨_, rfl, p, C, dx, _, _, rfl, s1 _ _ i1, TB.cl, TB.nT, flb_t, _, rfl, p, C, dx, _, _, rfl, s1 _ _ i1, TB.cl, TB.nL, flb_l, _, rfl, a, x, y, 0, t.length, m, t, us, rfl, sqt_same s1 i2, i3.same s1, R.tb, R.st, R.m2, hw, R.t1, ?_⟩
    exact k H1 s1
end
end M3

set_option Elab.async false
set_option linter.all false
set_option maxRecDepth 100000
set_option maxHeartbeats 8000000
/-! # _law_told_box: a box, or the turn that it is refused for -/
namespace M3
open PySem L2 NdefX
abbrev sToldBox : Stmt := top 60
theorem scToldBox : FnScope ["letters", "table", "e"] ["letters", "table"] (defScope sToldBox) := ⟨rfl, rfl, rfl, by decide +kernel, rfl, by decide +kernel, by decide +kernel⟩
def spToldBox (K : PySem.W.Frag) (C : Addr) : Sp := fun vs H Q _ => ∃ (a : Addr) (x : Str) (us : List V) (t : List (List Nat)) (m : Nat), vs = [.str x, .ref a] ∧ SqL K H a us ∧ Tups K H us t ∧ RightB x t m ∧
  (among (bfs t x 256) = none → ∀ (b : Addr) (H' : Hp), H b = none → BoxAt K C H' b x t → Same H H' → Q (.ref b) H') ∧
  (∀ (y : Str) (q : Nat), among (bfs t x 256) = some (y, q) → ∀ (T : Addr) (H' : Hp), H' T = some (.tup [.str y, .int (q : Nat)]) → Same H H' → Q (.ref T) H')
section
variable {P : Program} {w : World} {K : PySem.W.Frag} {mg : Str → Option Value} {base : Heap} {C cG : Addr}
theorem ok_toldbox {f gI : Addr} {fd dI : FuncData} (F : Fun K "_law_told_box" "_law_told_box" sToldBox f fd) (GI : FnOk P w K mg base (L2.CX P w) 4 gI dI ["self", "letters", "table"] (spBoxInit K C cG)) (bI : Binds K dI ["self", "letters", "table"] []) (MK : Mk K C gI) (mC : mg "Box" = some (.ref C)) (TG : TxG P K mg cG) (M : TxM mg) :
    FnOk P w K mg base CX0 6 f fd ["letters", "table"] (spToldBox K C) := by
  refine F.ok scToldBox (fun vs H Q E h => ?_) (fun cdv A outer s H vs Q E hr h => ?_)
  · obtain ⟨a, x, us, t, m, rfl, _⟩ := h
    rfl
  · obtain ⟨a, x, us, t, m, rfl, ha, hT, R, k1, k2⟩ := h
    refine ⟨_, pss_one (ps_try_as (i := 2) (tb := fun W => tRet (NvX.tMakeS C (spBoxInit K C cG) (WE W) (tCons (tVar 0) (tCons (tCB (rTupOf K) (tCons (tVar 1) tNil)) tNil)))) rfl rfl scToldBox.nd rfl rfl ⟨rfl, by decide, .inl TG.a.g⟩ takes0
        (fun W pn xe tk _ => pss_one (ps_ret (NvX.pe_makeS MK GI hr rfl mC bI (fun σ => passAt tk σ) (pa_cons (pv 0) (pa_cons (pe_callTy call_tuple_of (by rfl) M.tuple (by decide +kernel) (pa_cons (pv 1) pa_nil)) pa_nil)))))
        (fun a oe cls d pn hz hf => pss_one (ps_ret (pe_xf TG.xf TG.nf hz hf (pv 2))))), ?_⟩
    refine ⟨_, rfl, _, rfl, a, us, rfl, .inl ⟨ha, fun l nl => ?_⟩⟩
    have s1 : Same H (upd H l (.tup us)) := Same.new (Same.refl H) nl
    have f1 : (upd H l (.tup us)) l = some (.tup us) := upd_same
    generalize upd H l (.tup us) = H1 at s1 f1 ⊢
    intro p dx np ndx nex
    have s2 : Same H1 (upd (upd H1 dx (.own p)) p (.ins C dx [])) := Same.new (Same.new (Same.refl H1) ndx) (by rw [upd_ne (Ne.symm nex)]; exact np)
    have s12 := s1.trans s2
    refine ⟨p, dx, l, x, us, t, m, rfl, upd_same, R, SqT.of (s2 _ _ f1), hT.same s12, fun e H' hp kp => ⟨rfl, ?_⟩, fun y q e d T H' hd hT' s3 => ?_⟩
    · have s3 : Same H H' := fun c' o h => kp c' o (fun z => by rw [z] at h; have := s1 _ _ h; rw [np] at this; cases this) (s12 _ _ h)
      have lp : l ≠ p := fun z => by rw [z, np] at f1; cases f1
      exact k1 e p H' (free_of s1 np) ⟨dx, l, us, hp, SqT.of (kp _ _ lp (s2 _ _ f1)), hT.same s3⟩ s3
    · have s13 := s12.trans s3
      refine ⟨true, TG.a.x, fun _ a9 na => ?_, (fun z => nomatch z)⟩
      exact ⟨_, rfl, rfl, rfl, d, _, _, rfl, hd, by simp [List.lookup], k2 y q e T H' hT' s13⟩
end
end M3

set_option Elab.async false
set_option linter.all false
set_option maxRecDepth 100000
set_option maxHeartbeats 8000000
/-! # _law_all_tables: all tables of so many places -/
namespace M3
open PySem L2 NdefX
def extR (n : Nat) (r : List Nat) : List (List Nat) := (List.range n).map fun p => r ++ [p]
/-- all rows of so many places -/
def rowsN (n : Nat) : Nat → List (List Nat)
  | 0 => [[]]
  | k + 1 => (rowsN n k).flatMap (extR n)
def extT (R : List (List Nat)) (t : List (List Nat)) : List (List (List Nat)) := R.map fun r => t ++ [r]
def tabsN (R : List (List Nat)) : Nat → List (List (List Nat))
  | 0 => [[]]
  | k + 1 => (tabsN R k).flatMap (extT R)
/-- all tables of n places for m letters -/
def allT (n m : Nat) : List (List (List Nat)) := tabsN (rowsN n m) n
theorem rowsN_len (n : Nat) : ∀ k, (rowsN n k).length = n ^ k
  | 0 => rfl
  | k + 1 => by
    show ((rowsN n k).flatMap (extR n)).length = _
    have : ∀ l : List (List Nat), (l.flatMap (extR n)).length = l.length * n := fun l => by
      induction l with
      | nil => simp
      | cons a l ih =>
        rw [List.flatMap_cons, List.length_append, ih, List.length_cons, Nat.succ_mul]
        unfold extR
        rw [List.length_map, List.length_range]
        omega
    rw [this, rowsN_len n k, Nat.pow_succ]
theorem tabsN_len (R : List (List Nat)) : ∀ k, (tabsN R k).length = R.length ^ k
  | 0 => rfl
  | k + 1 => by
    show ((tabsN R k).flatMap (extT R)).length = _
    have : ∀ l : List (List (List Nat)), (l.flatMap (extT R)).length = l.length * R.length := fun l => by
      induction l with
      | nil => simp
      | cons a l ih =>
        rw [List.flatMap_cons, List.length_append, ih, List.length_cons, Nat.succ_mul]
        unfold extT
        rw [List.length_map]
        omega
    rw [this, tabsN_len R k, Nat.pow_succ]
theorem rowsN_mem {n : Nat} : ∀ {k : Nat} {r : List Nat}, r ∈ rowsN n k → r.length = k ∧ ∀ p ∈ r, p < n
  | 0, r, h => by
    have h : r ∈ [[]] := h
    rw [List.mem_singleton.mp h]
    exact ⟨rfl, fun p hp => by cases hp⟩
  | k + 1, r, h => by
    obtain ⟨r0, h0, h1⟩ := List.mem_flatMap.mp h
    obtain ⟨l0, b0⟩ := rowsN_mem h0
    obtain ⟨p, hp, rfl⟩ := List.mem_map.mp h1
    refine ⟨by rw [List.length_append, l0]; rfl, fun q hq => ?_⟩
    rcases List.mem_append.mp hq with hq | hq
    · exact b0 q hq
    · rw [List.mem_singleton.mp hq]
      exact List.mem_range.mp hp
theorem tabsN_mem {R : List (List Nat)} : ∀ {k : Nat} {t : List (List Nat)}, t ∈ tabsN R k → t.length = k ∧ ∀ r ∈ t, r ∈ R
  | 0, t, h => by
    have h : t ∈ [[]] := h
    rw [List.mem_singleton.mp h]
    exact ⟨rfl, fun p hp => by cases hp⟩
  | k + 1, t, h => by
    obtain ⟨t0, h0, h1⟩ := List.mem_flatMap.mp h
    obtain ⟨l0, b0⟩ := tabsN_mem h0
    obtain ⟨r, hr, rfl⟩ := List.mem_map.mp h1
    refine ⟨by rw [List.length_append, l0]; rfl, fun q hq => ?_⟩
    rcases List.mem_append.mp hq with hq | hq
    · exact b0 q hq
    · rw [List.mem_singleton.mp hq]
      exact hr
theorem allT_tab {n m : Nat} {t : List (List Nat)} (h : t ∈ allT n m) : t.length = n ∧ IsTab t n m := by
  obtain ⟨h1, h2⟩ := tabsN_mem h
  exact ⟨h1, h1, fun r hr => rowsN_mem (h2 r hr)⟩
theorem RowsA.app {H : Hp} {us vs : List V} {F G : List (List Nat)} (h : RowsA H us F) (k : RowsA H vs G) : RowsA H (us ++ vs) (F ++ G) := by
  refine ⟨by rw [List.length_append, List.length_append, h.1, k.1], fun i r e => ?_⟩
  by_cases q : i < F.length
  · rw [List.getElem?_append_left q] at e
    obtain ⟨b, b1, b2⟩ := h.2 i r e
    exact ⟨b, by rw [List.getElem?_append_left (by rw [h.1]; exact q)]; exact b1, b2⟩
  · rw [List.getElem?_append_right (by omega)] at e
    obtain ⟨b, b1, b2⟩ := k.2 _ r e
    exact ⟨b, by rw [List.getElem?_append_right (by rw [h.1]; omega), h.1]; exact b1, b2⟩
/-- lists of tuples, none of them one of N -/
def Tbls (N : Addr → Prop) (H : Hp) (us : List V) (ts : List (List (List Nat))) : Prop := us.length = ts.length ∧ ∀ (i : Nat) (t : List (List Nat)), ts[i]? = some t → ∃ (l : Addr) (vs : List V), us[i]? = some (.ref l) ∧ ¬ N l ∧ H l = some (.lst vs) ∧ RowsA H vs t
theorem Tbls.to {N N' : Addr → Prop} {H H' : Hp} {us : List V} {ts : List (List (List Nat))} (h : Tbls N H us ts) (k : ∀ b o, ¬ N b → H b = some o → H' b = some o) (t : ∀ b ys, H b = some (.tup ys) → H' b = some (.tup ys)) (n : ∀ l vs, H l = some (.lst vs) → ¬ N l → ¬ N' l) : Tbls N' H' us ts := ⟨h.1, fun i r e => by
  obtain ⟨l, vs, l1, l2, l3, l4⟩ := h.2 i r e
  exact ⟨l, vs, l1, n l vs l3 l2, k _ _ l2 l3, l4.to t⟩⟩
theorem Tbls.app {N : Addr → Prop} {H : Hp} {us vs : List V} {F G : List (List (List Nat))} (h : Tbls N H us F) (k : Tbls N H vs G) : Tbls N H (us ++ vs) (F ++ G) := by
  refine ⟨by rw [List.length_append, List.length_append, h.1, k.1], fun i r e => ?_⟩
  by_cases q : i < F.length
  · rw [List.getElem?_append_left q] at e
    obtain ⟨b, b0, b1, b2⟩ := h.2 i r e
    exact ⟨b, b0, by rw [List.getElem?_append_left (by rw [h.1]; exact q)]; exact b1, b2⟩
  · rw [List.getElem?_append_right (by omega)] at e
    obtain ⟨b, b0, b1, b2⟩ := k.2 _ r e
    exact ⟨b, b0, by rw [List.getElem?_append_right (by rw [h.1]; omega), h.1]; exact b1, b2⟩
theorem Tbls.one {N : Addr → Prop} {H : Hp} {l : Addr} {vs : List V} {t : List (List Nat)} (n : ¬ N l) (h : H l = some (.lst vs)) (r : RowsA H vs t) : Tbls N H [.ref l] [t] := ⟨rfl, fun i u e => by
  match i, e with
  | 0, e => cases e; exact ⟨l, vs, rfl, n, h, r⟩⟩
abbrev sAllTabs : Stmt := top 59
abbrev nAll : List Str := ["total", "letters", "rows", "letter", "longer", "row", "found", "place", "more", "table"]
theorem scAll : FnScope nAll ["total", "letters"] (defScope sAllTabs) := ⟨rfl, rfl, rfl, by decide +kernel, rfl, by decide +kernel, by decide +kernel⟩
def spAllTabs : Sp := fun vs H Q _ => ∃ (n : Nat) (x : Str), vs = [.int (n : Nat), .str x] ∧ n ≤ 3 ∧ x.length ≤ 2 ∧
  ∀ (A : Addr) (us : List V) (H' : Hp), H' A = some (.lst us) → H A = none → Tbls (· = A) H' us (allT n x.length) → Same H H' → Q (.ref A) H'
section
variable {P : Program} {w : World} {K : PySem.W.Frag} {mg : Str → Option Value} {base : Heap}
theorem ok_alltabs {f : Addr} {fd : FuncData} (F : Fun K "_law_all_tables" "_law_all_tables" sAllTabs f fd) (M : TxM mg) : FnOk P w K mg base CX0 1 f fd ["total", "letters"] spAllTabs := by
  refine F.ok scAll (fun vs H Q E h => ?_) (fun cdv A outer s H vs Q E hr h => ?_)
  · obtain ⟨n, x, rfl, _⟩ := h
    rfl
  · obtain ⟨n, x, rfl, hn, hx, k⟩ := h
    have sz : (1000 : Nat) < sizeLine := by decide
    refine ⟨_, pss_cons (ps_set (i := 2) scAll.nd rfl (Or.inl rfl) (pe_lst (pa_cons (pe_tup pa_nil) pa_nil)))
      (pss_cons (ps_for PassesOwn.never rfl (pi_str (pv 1)) (pg_name (i := 3) scAll.nd rfl (Or.inl rfl))
        (pss_cons (ps_set (i := 4) scAll.nd rfl (Or.inl rfl) (pe_lst pa_nil))
        (pss_cons (ps_for PassesOwn.never rfl (pi_list (pe_callTy call_list_of (by rfl) M.list (by decide +kernel) (pa_cons (pv 2) pa_nil))) (pg_name (i := 5) scAll.nd rfl (Or.inr rfl))
          (pss_one (ps_expr (pe_bm PySem.F.plainAttrs_list PySem.F.slot_list_extend PySem.F.type_list_extend mt_extend (pv 4) (pa_cons (pe_lc (own := [("place", 7)]) (g := gName 7) (tt := tYes) (te := tOp (rCatA K) (tVar 5) (tTup (tCons (tVar 7) tNil))) rfl scAll.nd (pi_range1 rfl M.range (pa_cons (pv 0) pa_nil)) (blkOk_by (N := nAll) (sc := defScope sAllTabs) (by decide +kernel)) (fun _ _ _ _ _ => pg_name (i := 7) scAll.nd rfl (Or.inl rfl)) (fun _ _ _ _ _ => pts_nil)
            (fun _ _ _ _ _ => pe_op op_catA (pv 5) (pe_tup (pa_cons (pv 7) pa_nil)))) pa_nil)))))
        (pss_one (ps_set (i := 2) scAll.nd rfl (Or.inl rfl) (pv 4))))))
      (pss_cons (ps_set (i := 6) scAll.nd rfl (Or.inl rfl) (pe_lst (pa_cons (pe_lst pa_nil) pa_nil)))
      (pss_cons (ps_for PassesOwn.never rfl (pi_range1 rfl M.range (pa_cons (pv 0) pa_nil)) (pg_name (i := 7) scAll.nd rfl (Or.inl rfl))
        (pss_cons (ps_set (i := 8) scAll.nd rfl (Or.inl rfl) (pe_lst pa_nil))
        (pss_cons (ps_for PassesOwn.never rfl (pi_list (pe_callTy call_list_of (by rfl) M.list (by decide +kernel) (pa_cons (pv 6) pa_nil))) (pg_name (i := 9) scAll.nd rfl (Or.inr rfl))
          (pss_one (ps_expr (pe_bm PySem.F.plainAttrs_list PySem.F.slot_list_extend PySem.F.type_list_extend mt_extend (pv 8) (pa_cons (pe_lc (own := [("row", 5)]) (g := gName 5) (tt := tYes) (te := tOp rCat (tVar 9) (tLst (tCons (tVar 5) tNil))) rfl scAll.nd (pi_list (pv 2)) (blkOk_by (N := nAll) (sc := defScope sAllTabs) (by decide +kernel)) (fun _ _ _ _ _ => pg_name (i := 5) scAll.nd rfl (Or.inl rfl)) (fun _ _ _ _ _ => pts_nil)
            (fun _ _ _ _ _ => pe_op op_cat (pv 9) (pe_lst (pa_cons (pv 5) pa_nil)))) pa_nil)))))
        (pss_one (ps_set (i := 6) scAll.nd rfl (Or.inl rfl) (pv 8))))))
      (pss_one (ps_ret (pv 6)))))), ?_⟩
    refine ⟨(by show 0 ≤ sizeLine; omega), fun e0 n0 => ⟨(by show 1 ≤ sizeLine; omega), fun A1 n1 => ?_⟩⟩
    have hA1 : (upd (upd H e0 (.tup [])) A1 (.lst [.ref e0])) A1 = some (.lst [.ref e0]) := upd_same
    have hE1 : (upd (upd H e0 (.tup [])) A1 (.lst [.ref e0])) e0 = some (.tup (nts [])) := keep_new upd_same n1
    have s1 : Same H (upd (upd H e0 (.tup [])) A1 (.lst [.ref e0])) := Same.new (Same.new (Same.refl H) n0) n1
    generalize upd (upd H e0 (.tup [])) A1 (.lst [.ref e0]) = H1 at hA1 hE1 s1 ⊢
    have r0 : RowsA H1 [.ref e0] (rowsN n 0) := ⟨rfl, fun i r e => by
      match i, e with
      | 0, e => cases e; exact ⟨e0, rfl, hE1⟩⟩
    have xl : x.length = x.cps.size := rfl
    have p3 : ∀ {k : Nat}, k ≤ 2 → n ^ k ≤ 9 := fun {k} hk => Nat.le_trans (Nat.pow_le_pow_left hn k) (Nat.le_trans (Nat.pow_le_pow_right (by decide) hk) (by decide))
    refine ⟨_, rfl, x, rfl, for_it walk_str (fun i σ H' => ∃ (A2 : Addr) (us : List V) (v3 v4 v5 v6 v7 v8 v9 : Option V), σ = [some (.int (n : Nat)), some (.str x), some (.ref A2), v3, v4, v5, v6, v7, v8, v9] ∧ H' A2 = some (.lst us) ∧ RowsA H' us (rowsN n i) ∧ H A2 = none ∧ Same H H')
      ⟨A1, _, _, _, _, _, _, _, _, rfl, hA1, r0, (by
        have := free_of (Same.new (Same.refl H) n0) n1
        exact this), s1⟩ (fun _ _ _ _ _ => trivial) ?_ ?_⟩
    · rintro i v σ H2z H2 hi ⟨A2, us, v3, v4, v5, v6, v7, v8, v9, rfl, hA, RA, nA, s2⟩ ⟨e2, c0, hc0, rfl⟩
      subst e2
      have hi : i < 2 := by omega
      refine ⟨(by show 0 ≤ sizeLine; omega), fun C nC => ?_⟩
      have hA3 := keep_new (u := .lst []) hA nC
      have RA3 := RA.to (H' := upd H2 C (.lst [])) fun b ys h => keep_new h nC
      have hC3 : (upd H2 C (.lst [])) C = some (.lst []) := upd_same
      have s3 : Same H (upd H2 C (.lst [])) := Same.new s2 nC
      have nCH : H C = none := free_of s2 nC
      generalize upd H2 C (.lst []) = H3 at hA3 RA3 hC3 s3 ⊢
      refine ⟨_, rfl, A2, _, rfl, .inl (SqL.of hA3), fun L nL => ⟨L, rfl, ⟨_, SqL.of upd_same⟩, ?_⟩⟩
      have RA4 := RA3.to (H' := upd H3 L (.lst us)) fun b ys h => keep_new h nL
      have hC4 := keep_new (u := .lst us) hC3 nL
      have hL4 : (upd H3 L (.lst us)) L = some (.lst us) := upd_same
      have s4 : Same H (upd H3 L (.lst us)) := Same.new s3 nL
      have CL : C ≠ L := fun z => by rw [← z, hC3] at nL; cases nL
      generalize upd H3 L (.lst us) = H4 at RA4 hC4 hL4 s4 ⊢
      clear hA RA nC hA3 RA3 hC3 s3 nL s2
      refine for_list (K := K) (a := L) (xs := us) (fun j σ H' => ∃ (vs : List V) (v5 v6 v7 v8 v9 : Option V), σ = [some (.int (n : Nat)), some (.str x), some (.ref A2), some (.str ⟨#[c0]⟩), some (.ref C), v5, v6, v7, v8, v9] ∧ H' C = some (.lst vs) ∧ RowsA H' vs (((rowsN n i).take j).flatMap (extR n)) ∧ ∀ b o, b ≠ C → H4 b = some o → H' b = some o)
        ⟨[], _, _, _, _, _, rfl, hC4, ⟨rfl, fun i r h => by cases h⟩, fun b o _ h => h⟩ (fun j σ H' _ h => ?_) ?_ ?_
      · obtain ⟨_, _, _, _, _, _, _, _, _, kp⟩ := h
        exact SqL.of (kp _ _ (Ne.symm CL) hL4)
      · rintro j v σ H5 hv ⟨vs, v5, v6, v7, v8, v9, rfl, hC5, RC, kp⟩
        have hj : j < (rowsN n i).length := by
          have := (List.getElem?_eq_some_iff.mp hv).1
          rw [RA4.1] at this
          exact this
        have hw : (rowsN n i)[j]? = some (rowsN n i)[j] := List.getElem?_eq_getElem hj
        generalize (rowsN n i)[j] = r at hw
        obtain ⟨b, b1, b2⟩ := RA4.2 j r hw
        rw [b1] at hv
        cases hv
        obtain ⟨lr, _⟩ := rowsN_mem (List.mem_of_getElem? hw)
        have hb5 : H5 b = some (.tup (nts r)) := kp _ _ (fun z => by rw [z, hC4] at b2; cases b2) b2
        refine ⟨_, rfl, .inl ⟨rfl, _, SqL.of hC5⟩, _, rfl, n, rfl, by omega, by omega, fun D nD => ?_⟩
        have DC : D ≠ C := fun z => by rw [z, hC5] at nD; cases nD
        have sD : ∀ {H9 : Hp}, (∀ b o, b ≠ D → H5 b = some o → H9 b = some o) → Same H5 H9 := fun z b o h => z b o (ne_of_none h nD) h
        have en : ((n : Nat) : Int).toNat = n := by omega
        refine lc_it walk_range (fun l H9 => ∃ ws : List V, H9 D = some (.lst ws) ∧ RowsA H9 ws ((List.range l).map fun p => r ++ [p]) ∧ ∀ b o, b ≠ D → H5 b = some o → H9 b = some o)
          ⟨[], upd_same, ⟨rfl, fun i r h => by cases h⟩, fun b o hb h => keep_new h nD⟩ (fun _ _ _ _ => trivial) ?_ ?_
        · rintro l y H9z H9 hl ⟨ws, q1, q2, q3⟩ ⟨rfl, rfl⟩
          refine ⟨rfl, tYes_if ?_⟩
          refine ⟨_, rfl, _, rfl, (by show 1 ≤ sizeLine; omega), fun e nE => ?_⟩
          have qb := keep_new (u := .tup [.int (0 + (l : Int))]) (sD q3 _ _ hb5) nE
          have q1' := keep_new (u := .tup [.int (0 + (l : Int))]) q1 nE
          have q2' := q2.to (H' := upd H9 e (.tup [.int (0 + (l : Int))])) fun b ys h => keep_new h nE
          have q3' : ∀ b o, b ≠ D → H5 b = some o → (upd H9 e (.tup [.int (0 + (l : Int))])) b = some o := fun b o hb h => keep_new (q3 b o hb h) nE
          have qe : (upd H9 e (.tup [.int (0 + (l : Int))])) e = some (.tup (nts [l])) := by
            rw [upd_same, Int.zero_add]
            rfl
          generalize upd H9 e (.tup [.int (0 + (l : Int))]) = H10 at qb q1' q2' q3' qe ⊢
          have wl : ws.length = l := by rw [q2.1, List.length_map, List.length_range]
          have fin : ∀ (z : Addr) (H11 : Hp), Same H10 H11 → H11 z = some (.tup (nts (r ++ [l]))) → ∃ acc, H11 D = some (.lst acc) ∧ acc.length < sizeLine ∧ ∃ ws', (upd H11 D (.lst (acc ++ [.ref z]))) D = some (.lst ws') ∧ RowsA (upd H11 D (.lst (acc ++ [.ref z]))) ws' ((List.range (l + 1)).map fun p => r ++ [p]) ∧ ∀ b o, b ≠ D → H5 b = some o → (upd H11 D (.lst (acc ++ [.ref z]))) b = some o := fun z H11 sx hz => by
            have hD := sx _ _ q1'
            refine ⟨ws, hD, by omega, ws ++ [.ref z], upd_same, ?_, fun b o hb h => ?_⟩
            · rw [List.range_succ, List.map_append]
              refine (q2'.to fun b ys h => ?_).snoc ?_
              · rw [upd_ne (ne_of (sx _ _ h) hD (fun z => by cases z))]
                exact sx _ _ h
              · rw [upd_ne (ne_of hz hD (fun z => by cases z))]
                exact hz
            · rw [upd_ne hb]
              exact sx _ _ (q3' b o hb h)
          refine ⟨b, e, nts r, nts [l], rfl, rfl, SqT.of qb, SqT.of qe, (by rw [nts_length, nts_length, lr]; show i + 1 ≤ sizeLine; omega), fun z => ?_, fun _ z => (by cases z), fun _ _ z nz => ?_⟩
          · refine fin e H10 (Same.refl _) ?_
            have e0 : r = [] := by
              cases r with
              | nil => rfl
              | cons _ _ => cases z
            rw [e0]
            exact qe
          · refine fin z _ (Same.new (Same.refl H10) nz) ?_
            rw [upd_same]
            unfold nts
            rw [List.map_append]
        · rintro H9 ⟨ws, q1, q2, q3⟩
          rw [en] at q2
          have hC9 := q3 _ _ (Ne.symm DC) hC5
          have lv : vs.length ≤ 9 := by
            have h1 : (((rowsN n i).take j).flatMap (extR n)).length ≤ (rowsN n (i + 1)).length := by
              show _ ≤ ((rowsN n i).flatMap (extR n)).length
              rw [← List.take_append_drop j (rowsN n i)]
              rw [List.flatMap_append, List.length_append]
              rw [List.take_append_drop]
              omega
            have h2 := rowsN_len n (i + 1)
            have h3 := p3 (k := i + 1) (by omega)
            have h4 := RC.1
            omega
          have lw : ws.length = n := by rw [q2.1, List.length_map, List.length_range]
          refine ⟨C, D, _, _, rfl, rfl, hC9, q1, by omega, ?_⟩
          refine ⟨vs ++ ws, _, _, _, _, _, rfl, upd_same, ?_, fun b o hb h => ?_⟩
          · rw [take_snoc hw, List.flatMap_append]
            refine RowsA.app (RC.to fun b ys h => ?_) ?_
            · rw [upd_ne (ne_of (sD q3 _ _ h) hC9 (fun z => by cases z))]
              exact sD q3 _ _ h
            · rw [List.flatMap_cons, List.flatMap_nil, List.append_nil]
              refine q2.to fun b ys h => ?_
              rw [upd_ne (ne_of h hC9 (fun z => by cases z))]
              exact h
          · rw [upd_ne hb]
            exact sD q3 _ _ (kp b o hb h)
      · rintro σ H5 ⟨vs, v5, v6, v7, v8, v9, rfl, hC5, RC, kp⟩
        have et : (rowsN n i).take us.length = rowsN n i := by
          rw [RA4.1]
          exact List.take_length
        rw [et] at RC
        exact ⟨_, rfl, C, vs, _, _, _, _, _, _, _, rfl, hC5, RC, nCH, fun b o h => kp b o (ne_of_none h nCH) (s4 _ _ h)⟩
    · rintro σ H2 ⟨A2, us, v3, v4, v5, v6, v7, v8, v9, rfl, hA, RA, nA, s2⟩
      rw [← xl] at RA
      have r9 : us.length ≤ 9 := by
        have := RA.1
        have h2 := rowsN_len n x.length
        have h3 := p3 (k := x.length) hx
        omega
      generalize hR : rowsN n x.length = R at RA
      refine ⟨(by show 0 ≤ sizeLine; omega), fun L0 m0 => ⟨(by show 1 ≤ sizeLine; omega), fun B1 m1 => ?_⟩⟩
      have hB1 : (upd (upd H2 L0 (.lst [])) B1 (.lst [.ref L0])) B1 = some (.lst [.ref L0]) := upd_same
      have hL1 : (upd (upd H2 L0 (.lst [])) B1 (.lst [.ref L0])) L0 = some (.lst []) := keep_new upd_same m1
      have t2 : Same H2 (upd (upd H2 L0 (.lst [])) B1 (.lst [.ref L0])) := Same.new (Same.new (Same.refl H2) m0) m1
      have nLB : L0 ≠ B1 := fun z => by rw [z] at m1; rw [upd_same] at m1; cases m1
      have mB : H B1 = none := free_of (s2.trans (Same.new (Same.refl H2) m0)) m1
      generalize upd (upd H2 L0 (.lst [])) B1 (.lst [.ref L0]) = H3 at hB1 hL1 t2 ⊢
      have b0 : Tbls (· = B1) H3 [.ref L0] (tabsN R 0) := Tbls.one nLB hL1 ⟨rfl, fun i r h => by cases h⟩
      have hA3 := t2 _ _ hA
      have RA3 := RA.to (H' := H3) fun b ys h => t2 _ _ h
      have s3 := s2.trans t2
      have en : ((n : Nat) : Int).toNat = n := by omega
      have Rl : R.length ≤ 9 := by
        rw [← RA.1]
        exact r9
      have c3 : ∀ {k : Nat}, k ≤ 3 → R.length ^ k ≤ 729 := fun {k} hk => Nat.le_trans (Nat.pow_le_pow_left Rl k) (Nat.le_trans (Nat.pow_le_pow_right (by decide) hk) (by decide))
      refine ⟨_, rfl, n, rfl, by omega, by omega, for_range (lo := 0) (n := ((n : Nat) : Int).toNat) (fun i σ H' => ∃ (B2 : Addr) (ts : List V) (v3 v4 v5 v7 v8 v9 : Option V), σ = [some (.int (n : Nat)), some (.str x), some (.ref A2), v3, v4, v5, some (.ref B2), v7, v8, v9] ∧ H' A2 = some (.lst us) ∧ RowsA H' us R ∧ H' B2 = some (.lst ts) ∧ Tbls (· = B2) H' ts (tabsN R i) ∧ H B2 = none ∧ Same H H')
        ⟨B1, _, _, _, _, _, _, _, rfl, hA3, RA3, hB1, b0, mB, s3⟩ ?_ ?_⟩
      · rintro i σ H4 hi ⟨B2, ts, v3, v4, v5, v7, v8, v9, rfl, hA4, RA4, hB4, T4, nB, s4⟩
        have hi : i < 3 := by omega
        refine ⟨(by show 0 ≤ sizeLine; omega), fun C nC => ?_⟩
        have hA5 := keep_new (u := .lst []) hA4 nC
        have hB5 := keep_new (u := .lst []) hB4 nC
        have RA5 := RA4.to (H' := upd H4 C (.lst [])) fun b ys h => keep_new h nC
        have T5 : Tbls (· = C) (upd H4 C (.lst [])) ts (tabsN R i) := T4.to (fun b o _ h => keep_new h nC) (fun b ys h => keep_new h nC) (fun l vs h _ e => by rw [e, nC] at h; cases h)
        have hC5 : (upd H4 C (.lst [])) C = some (.lst []) := upd_same
        have s5 : Same H (upd H4 C (.lst [])) := Same.new s4 nC
        have nCH : H C = none := free_of s4 nC
        have AC : A2 ≠ C := fun z => by rw [z, nC] at hA4; cases hA4
        generalize upd H4 C (.lst []) = H5 at hA5 hB5 RA5 T5 hC5 s5 ⊢
        refine ⟨_, rfl, B2, _, rfl, .inl (SqL.of hB5), fun L nL => ⟨L, rfl, ⟨_, SqL.of upd_same⟩, ?_⟩⟩
        have hA6 := keep_new (u := .lst ts) hA5 nL
        have RA6 := RA5.to (H' := upd H5 L (.lst ts)) fun b ys h => keep_new h nL
        have T6 : Tbls (· = C) (upd H5 L (.lst ts)) ts (tabsN R i) := T5.to (fun b o _ h => keep_new h nL) (fun b ys h => keep_new h nL) (fun _ _ _ h => h)
        have hC6 := keep_new (u := .lst ts) hC5 nL
        have hL6 : (upd H5 L (.lst ts)) L = some (.lst ts) := upd_same
        have s6 : Same H (upd H5 L (.lst ts)) := Same.new s5 nL
        have CL : C ≠ L := fun z => by rw [← z, hC5] at nL; cases nL
        generalize upd H5 L (.lst ts) = H6 at hA6 RA6 T6 hC6 hL6 s6 ⊢
        clear hA4 RA4 hB4 T4 s4 nC hA5 hB5 RA5 T5 hC5 s5 nL
        refine for_list (K := K) (a := L) (xs := ts) (fun j σ H' => ∃ (vs : List V) (v5 v7 v9 : Option V), σ = [some (.int (n : Nat)), some (.str x), some (.ref A2), v3, v4, v5, some (.ref B2), v7, some (.ref C), v9] ∧ H' C = some (.lst vs) ∧ Tbls (· = C) H' vs (((tabsN R i).take j).flatMap (extT R)) ∧ ∀ b o, b ≠ C → H6 b = some o → H' b = some o)
          ⟨[], _, _, _, rfl, hC6, ⟨rfl, fun i r h => by cases h⟩, fun b o _ h => h⟩ (fun j σ H' _ h => ?_) ?_ ?_
        · obtain ⟨_, _, _, _, _, _, _, kp⟩ := h
          exact SqL.of (kp _ _ (Ne.symm CL) hL6)
        · rintro j v σ H7 hv ⟨vs, v5, v7, v9, rfl, hC7, TC, kp⟩
          have hj : j < (tabsN R i).length := by
            have := (List.getElem?_eq_some_iff.mp hv).1
            rw [T6.1] at this
            exact this
          have hw : (tabsN R i)[j]? = some (tabsN R i)[j] := List.getElem?_eq_getElem hj
          generalize (tabsN R i)[j] = t at hw
          obtain ⟨l, tv, l1, l2, l3, l4⟩ := T6.2 j t hw
          rw [l1] at hv
          cases hv
          obtain ⟨lt, _⟩ := tabsN_mem (List.mem_of_getElem? hw)
          have lC : l ≠ C := l2
          have hl7 : H7 l = some (.lst tv) := kp _ _ lC l3
          have l47 : RowsA H7 tv t := l4.to fun b ys h => kp _ _ (ne_of h hC6 (fun z => by cases z)) h
          have hA7 := kp _ _ AC hA6
          have RA7 : RowsA H7 us R := RA6.to fun b ys h => kp _ _ (ne_of h hC6 (fun z => by cases z)) h
          refine ⟨_, rfl, .inl ⟨rfl, _, SqL.of hC7⟩, _, rfl, A2, rfl, ⟨us, SqL.of hA7⟩, fun D nD => ?_⟩
          have DC : D ≠ C := fun z => by rw [z, hC7] at nD; cases nD
          have sD : ∀ {H9 : Hp}, (∀ b o, b ≠ D → H7 b = some o → H9 b = some o) → Same H7 H9 := fun z b o h => z b o (ne_of_none h nD) h
          refine lc_list (K := K) (a := A2) (xs := us) (fun g H9 => ∃ ws : List V, H9 D = some (.lst ws) ∧ Tbls (fun b => b = C ∨ b = D) H9 ws ((R.take g).map fun r => t ++ [r]) ∧ ∀ b o, b ≠ D → H7 b = some o → H9 b = some o)
            ⟨[], upd_same, ⟨rfl, fun i r h => by cases h⟩, fun b o hb h => keep_new h nD⟩ (fun g H9 _ ⟨_, _, _, z⟩ => SqL.of (sD z _ _ hA7)) ?_ ?_
          · rintro g y H9 hy ⟨ws, q1, q2, q3⟩
            have hg : g < R.length := by
              have := (List.getElem?_eq_some_iff.mp hy).1
              rw [RA7.1] at this
              exact this
            have hr : R[g]? = some R[g] := List.getElem?_eq_getElem hg
            generalize R[g] = r at hr
            obtain ⟨b, b1, b2⟩ := RA7.2 g r hr
            rw [b1] at hy
            cases hy
            refine ⟨rfl, tYes_if ?_⟩
            refine ⟨_, rfl, _, rfl, (by show 1 ≤ sizeLine; omega), fun e nE => ?_⟩
            have hl9 : H9 l = some (.lst tv) := sD q3 _ _ hl7
            have hb9 := sD q3 _ _ b2
            have l49 : RowsA H9 tv t := l47.to fun b ys h => sD q3 _ _ h
            have u1 := keep_new (u := .lst [.ref b]) q1 nE
            have u2 := keep_new (u := .lst [.ref b]) hl9 nE
            have u3 := keep_new (u := .lst [.ref b]) hb9 nE
            have u4 := l49.to (H' := upd H9 e (.lst [.ref b])) fun b ys h => keep_new h nE
            have u5 : Tbls (fun b => b = C ∨ b = D) (upd H9 e (.lst [.ref b])) ws ((R.take g).map fun r => t ++ [r]) := q2.to (fun b o _ h => keep_new h nE) (fun b ys h => keep_new h nE) (fun _ _ _ h => h)
            have u6 : ∀ b' o, b' ≠ D → H7 b' = some o → (upd H9 e (.lst [.ref b])) b' = some o := fun b' o hb h => keep_new (q3 b' o hb h) nE
            have u7 : (upd H9 e (.lst [.ref b])) e = some (.lst [.ref b]) := upd_same
            generalize upd H9 e (.lst [.ref b]) = H10 at u1 u2 u3 u4 u5 u6 u7 ⊢
            have lt4 : tv.length = i := by rw [l4.1, lt]
            refine ⟨l, e, tv, [.ref b], rfl, rfl, u2, u7, (by rw [lt4]; show i + 1 ≤ sizeLine; omega), fun z nz => ?_⟩
            have zC : z ≠ C := fun q => by
              have := u6 C _ (Ne.symm DC) hC7
              rw [← q, nz] at this
              cases this
            have zD : z ≠ D := fun q => by rw [q, u1] at nz; cases nz
            have w1 := keep_new (u := .lst (tv ++ [.ref b])) u1 nz
            have wl : ws.length = g := by
              have := q2.1
              rw [List.length_map, List.length_take] at this
              omega
            refine ⟨ws, w1, by omega, ws ++ [.ref z], upd_same, ?_, fun b' o hb h => ?_⟩
            · rw [take_snoc hr, List.map_append]
              refine Tbls.app (u5.to (fun b' o nb h => ?_) (fun b' ys h => ?_) (fun _ _ _ h => h)) (Tbls.one (vs := tv ++ [.ref b]) (fun q => q.elim zC zD) ?_ (RowsA.snoc (u4.to fun b' ys h => ?_) ?_))
              · rw [upd_ne (fun q => nb (.inr q))]
                exact keep_new h nz
              · rw [upd_ne (ne_of h u1 (fun z => by cases z))]
                exact keep_new h nz
              · rw [upd_ne zD]
                exact upd_same
              · rw [upd_ne (ne_of h u1 (fun z => by cases z))]
                exact keep_new h nz
              · rw [upd_ne (ne_of u3 u1 (fun z => by cases z))]
                exact keep_new u3 nz
            · rw [upd_ne hb]
              exact keep_new (u6 b' o hb h) nz
          · rintro H9 ⟨ws, q1, q2, q3⟩
            have eR : R.take us.length = R := by
              rw [RA7.1]
              exact List.take_length
            rw [eR] at q2
            have hC9 := q3 _ _ (Ne.symm DC) hC7
            have lv : vs.length ≤ 729 := by
              have h1 : (((tabsN R i).take j).flatMap (extT R)).length ≤ (tabsN R (i + 1)).length := by
                show _ ≤ ((tabsN R i).flatMap (extT R)).length
                rw [← List.take_append_drop j (tabsN R i)]
                rw [List.flatMap_append, List.length_append]
                rw [List.take_append_drop]
                omega
              have h2 := tabsN_len R (i + 1)
              have h3 := c3 (k := i + 1) (by omega)
              have h4 := TC.1
              omega
            have lw : ws.length = R.length := by rw [q2.1, List.length_map]
            refine ⟨C, D, _, _, rfl, rfl, hC9, q1, by omega, ?_⟩
            refine ⟨vs ++ ws, _, _, _, rfl, upd_same, ?_, fun b' o hb h => ?_⟩
            · rw [take_snoc hw, List.flatMap_append]
              refine Tbls.app (TC.to (fun b' o nb h => ?_) (fun b' ys h => ?_) (fun _ _ _ h => h)) ?_
              · rw [upd_ne nb]
                exact sD q3 _ _ h
              · rw [upd_ne (ne_of (sD q3 _ _ h) hC9 (fun z => by cases z))]
                exact sD q3 _ _ h
              · rw [List.flatMap_cons, List.flatMap_nil, List.append_nil]
                refine q2.to (fun b' o nb h => ?_) (fun b' ys h => ?_) (fun _ _ _ h e => h (.inl e))
                · rw [upd_ne (fun q => nb (.inl q))]
                  exact h
                · rw [upd_ne (ne_of h hC9 (fun z => by cases z))]
                  exact h
            · rw [upd_ne hb]
              exact sD q3 _ _ (kp b' o hb h)
        · rintro σ H7 ⟨vs, v5, v7, v9, rfl, hC7, TC, kp⟩
          have et : (tabsN R i).take ts.length = tabsN R i := by
            rw [T6.1]
            exact List.take_length
          rw [et] at TC
          exact ⟨_, rfl, C, vs, _, _, _, _, _, _, rfl, kp _ _ AC hA6, RA6.to (fun b' ys h => kp _ _ (ne_of h hC6 (fun z => by cases z)) h), hC7, TC, nCH, fun b' o h => kp b' o (ne_of_none h nCH) (s6 _ _ h)⟩
      · rintro σ H4 ⟨B2, ts, v3, v4, v5, v7, v8, v9, rfl, hA4, RA4, hB4, T4, nB, s4⟩
        rw [en] at T4
        refine ⟨_, rfl, k B2 ts H4 hB4 nB ?_ s4⟩
        unfold allT
        rw [hR]
        exact T4
end
end M3

set_option Elab.async false
set_option linter.all false
set_option maxRecDepth 100000
set_option maxHeartbeats 8000000
/-! # Two tables lead the same short words alike just if their lean tables are equal -/
namespace M3
open PySem L2
/-- words up to this length are led alike or apart by both -/
def AlikeW (t u : List (List Nat)) (x : Str) (n : Nat) : Prop := ∀ y z : Str, IsW x y → IsW x z → y.cps.toList.length ≤ n → z.cps.toList.length ≤ n → (goes t x 0 y.cps.toList = goes t x 0 z.cps.toList ↔ goes u x 0 y.cps.toList = goes u x 0 z.cps.toList)
/-- the places found, with words that lead there, none longer than its place in the row -/
def WdF (t : List (List Nat)) (x : Str) (F : List (Nat × Str)) : Prop := ∀ (k : Nat) (z : Nat × Str), F[k]? = some z → z.1 = goes t x 0 z.2.cps.toList ∧ IsW x z.2 ∧ z.2.cps.toList.length ≤ k
structure Twin (t u : List (List Nat)) (x : Str) (F G : List (Nat × Str)) : Prop where
  f : WdF t x F
  g : WdF u x G
  e : F.map Prod.snd = G.map Prod.snd
theorem Twin.len {t u : List (List Nat)} {x : Str} {F G : List (Nat × Str)} (h : Twin t u x F G) : F.length = G.length := by
  have := congrArg List.length h.e
  rwa [List.length_map, List.length_map] at this
theorem Twin.at_ {t u : List (List Nat)} {x : Str} {F G : List (Nat × Str)} (h : Twin t u x F G) {k : Nat} {z : Nat × Str} (e : F[k]? = some z) : ∃ q, G[k]? = some (q, z.2) := by
  have e2 : (G.map Prod.snd)[k]? = some z.2 := by
    rw [← h.e, List.getElem?_map, e]
    rfl
  rw [List.getElem?_map] at e2
  cases e3 : G[k]? with
  | none =>
    rw [e3] at e2
    cases e2
  | some y =>
    rw [e3] at e2
    have e2 : some y.2 = some z.2 := e2
    exact ⟨y.1, by rw [← Option.some.inj e2]⟩
theorem Twin.sym {t u : List (List Nat)} {x : Str} {F G : List (Nat × Str)} (h : Twin t u x F G) : Twin u t x G F := ⟨h.g, h.f, h.e.symm⟩
theorem AlikeW.sym {t u : List (List Nat)} {x : Str} {n : Nat} (h : AlikeW t u x n) : AlikeW u t x n := fun y z a b c d => (h y z a b c d).symm
theorem mem_at {F : List (Nat × Str)} {q : Nat} (h : q ∈ F.map Prod.fst) : ∃ (k : Nat) (w : Str), F[k]? = some (q, w) := by
  obtain ⟨z, hz, rfl⟩ := List.mem_map.mp h
  obtain ⟨k, hk, e⟩ := List.getElem_of_mem hz
  exact ⟨k, z.2, by rw [List.getElem?_eq_getElem hk, e]⟩
theorem at_mem {F : List (Nat × Str)} {k q : Nat} {w : Str} (h : F[k]? = some (q, w)) : q ∈ F.map Prod.fst := List.mem_map.mpr ⟨_, List.mem_of_getElem? h, rfl⟩
theorem twin_mem {t u : List (List Nat)} {x : Str} {n : Nat} {F G : List (Nat × Str)} (h : Twin t u x F G) (a : AlikeW t u x n) (hn : F.length ≤ n + 1) {y : Str} (hy : IsW x y) (ly : y.cps.toList.length ≤ n) (m : goes t x 0 y.cps.toList ∈ F.map Prod.fst) : goes u x 0 y.cps.toList ∈ G.map Prod.fst := by
  obtain ⟨k, w, e⟩ := mem_at m
  obtain ⟨f1, f2, f3⟩ := h.f k _ e
  obtain ⟨q, e2⟩ := h.at_ e
  obtain ⟨g1, g2, g3⟩ := h.g k _ e2
  have hk := (List.getElem?_eq_some_iff.mp e).1
  have f3 : w.cps.toList.length ≤ k := f3
  have := (a y w hy f2 ly (by omega)).mp f1
  rw [this, ← g1]
  exact at_mem e2
theorem wd_add {t : List (List Nat)} {x w : Str} {c q : Nat} {F : List (Nat × Str)} (h : WdF t x F) (hw : IsW x w) (hc : c ∈ x.cps.toList) (eq : q = goes t x 0 (w.cps.toList ++ [c])) (lw : w.cps.toList.length < F.length) : WdF t x (addF q w c F) := by
  unfold addF
  split
  · exact h
  · intro k y hy
    rcases snoc_at hy with hy | ⟨rfl, rfl⟩
    · exact h k y hy
    · have sn := snoc_cps w c
      refine ⟨?_, fun d hd => ?_, ?_⟩
      · show q = goes t x 0 (w ++ (⟨#[c]⟩ : Str)).cps.toList
        rw [sn]
        exact eq
      · have hd : d ∈ (w ++ (⟨#[c]⟩ : Str)).cps.toList := hd
        rw [sn] at hd
        rcases List.mem_append.mp hd with z | z
        · exact hw d z
        · rw [List.mem_singleton.mp z]
          exact hc
      · show (w ++ (⟨#[c]⟩ : Str)).cps.toList.length ≤ F.length
        rw [sn, List.length_append]
        exact lw
theorem twin_add {t u : List (List Nat)} {x w : Str} {c q p n : Nat} {F G : List (Nat × Str)} (h : Twin t u x F G) (a : AlikeW t u x n) (hn : F.length ≤ n + 1) (hw : IsW x w) (hc : c ∈ x.cps.toList) (eq : q = goes t x 0 (w.cps.toList ++ [c])) (ep : p = goes u x 0 (w.cps.toList ++ [c]))
    (lw : w.cps.toList.length < F.length) (ln : w.cps.toList.length + 1 ≤ n) : Twin t u x (addF q w c F) (addF p w c G) := by
  have sn := snoc_cps w c
  have wy : IsW x (w ++ (⟨#[c]⟩ : Str)) := fun d hd => by
    rw [sn] at hd
    rcases List.mem_append.mp hd with z | z
    · exact hw d z
    · rw [List.mem_singleton.mp z]
      exact hc
  have ly : (w ++ (⟨#[c]⟩ : Str)).cps.toList.length ≤ n := by
    rw [sn, List.length_append]
    exact ln
  refine ⟨wd_add h.f hw hc eq lw, wd_add h.g hw hc ep (by rw [← h.len]; exact lw), ?_⟩
  have i1 : q ∈ F.map Prod.fst → p ∈ G.map Prod.fst := fun z => by
    rw [ep, ← sn]
    refine twin_mem h a hn wy ly ?_
    rw [sn, ← eq]
    exact z
  have i2 : p ∈ G.map Prod.fst → q ∈ F.map Prod.fst := fun z => by
    rw [eq, ← sn]
    refine twin_mem h.sym a.sym (by rw [← h.len]; exact hn) wy ly ?_
    rw [sn, ← ep]
    exact z
  by_cases m : q ∈ F.map Prod.fst
  · rw [addF_old m, addF_old (i1 m)]
    exact h.e
  · rw [addF_new m, addF_new fun z => m (i2 z), List.map_append, List.map_append, h.e]
    rfl
section
variable {t u : List (List Nat)} {x : Str} {m n : Nat}
theorem twin_row (st : IsSet x m) (m2 : m ≤ 2) (tb : IsTab t t.length m) (ub : IsTab u u.length m) (a : AlikeW t u x n) (tn : t.length ≤ n) {F G : List (Nat × Str)} {i : Nat} {z : Nat × Str} {p : Nat} (h : Twin t u x F G) (ff : FF t m i F) (ez : F[i]? = some z) (ep : G[i]? = some (p, z.2)) :
    ∀ j, j ≤ m → Twin t u x (rowF (t.getD z.1 []) x z.2 F j) (rowF (u.getD p []) x z.2 G j)
  | 0, _ => h
  | j + 1, hj => by
    have ih := twin_row st m2 tb ub a tn h ff ez ep j (by omega)
    have hm : x.cps.toList.length = m := by
      have := set_len st
      simpa [Str.length] using this
    have hc : x.cps.toList[j]? = some (x.cps.toList.getD j 0) := by
      rw [List.getD_eq_getElem?_getD, List.getElem?_eq_getElem (by omega)]
      rfl
    have ej := set_ix st m2 hc
    obtain ⟨f1, f2, f3⟩ := h.f i z ez
    obtain ⟨g1, _, _⟩ := h.g i _ ep
    have zt : z.1 < t.length := ff.lt _ (List.mem_map.mpr ⟨_, List.mem_of_getElem? ez, rfl⟩)
    obtain ⟨l1, l2⟩ := row_tab tb zt
    have ln : (rowF (t.getD z.1 []) x z.2 F j).length ≤ t.length := by
      have := nodup_lt_len (rowF_nodup (r := t.getD z.1 []) (x := x) (w := z.2) ff.nd j) (rowF_lt l2 ff.lt j (by omega))
      rwa [List.length_map] at this
    have lr := rowF_len (r := t.getD z.1 []) (x := x) (w := z.2) (F := F) j
    have hi := (List.getElem?_eq_some_iff.mp ez).1
    have g1 : p = goes u x 0 z.2.cps.toList := g1
    refine twin_add ih a (by omega) f2 (List.mem_of_getElem? hc) ?_ ?_ (by omega) (by omega)
    · rw [goes_snoc, ← f1]
      unfold step
      rw [ej]
    · rw [goes_snoc, ← g1]
      unfold step
      rw [ej]
theorem twin_frsL (st : IsSet x m) (m2 : m ≤ 2) (tb : IsTab t t.length m) (ub : IsTab u u.length m) (a : AlikeW t u x n) (tn : t.length ≤ n) : ∀ (k i : Nat) (F G : List (Nat × Str)), Twin t u x F G → FF t m i F → Twin t u x (frsL t x k i F) (frsL u x k i G)
  | 0, _, _, _, h, _ => h
  | k + 1, i, F, G, h, ff => by
    have hm : x.cps.size = m := by
      have := set_len st
      simpa [Str.length] using this
    cases ez : F[i]? with
    | none =>
      have e1 := List.getElem?_eq_none_iff.mp ez
      rw [frsL_stop e1, frsL_stop (by rw [← h.len]; exact e1)]
      exact h
    | some z =>
      obtain ⟨p, ep⟩ := h.at_ ez
      rw [frsL_go ez, frsL_go ep]
      refine twin_frsL st m2 tb ub a tn k (i + 1) _ _ ?_ (ff.step tb hm ez)
      rw [hm]
      exact twin_row st m2 tb ub a tn h ff ez ep m (Nat.le_refl _)
theorem twin_frs (st : IsSet x m) (m2 : m ≤ 2) (tb : IsTab t t.length m) (ub : IsTab u u.length m) (a : AlikeW t u x n) (tn : t.length ≤ n) (t1 : 1 ≤ t.length) : Twin t u x (frs t x) (frs u x) := by
  have w0 : ∀ t : List (List Nat), WdF t x [(0, "")] := fun t k z h => by
    match k, h with
    | 0, h =>
      cases h
      have e0 : ("" : Str).cps.toList = [] := by decide +kernel
      refine ⟨?_, fun c hc => ?_, ?_⟩
      · show 0 = goes t x 0 ("" : Str).cps.toList
        rw [e0]
        rfl
      · have hc : c ∈ ("" : Str).cps.toList := hc
        rw [e0] at hc
        cases hc
      · show ("" : Str).cps.toList.length ≤ 0
        rw [e0]
        exact Nat.le_refl _
  exact twin_frsL st m2 tb ub a tn 100000 0 _ _ ⟨w0 t, w0 u, rfl⟩ (FF.start t1)
theorem lean_eq_of (st : IsSet x m) (m2 : m ≤ 2) (tb : IsTab t t.length m) (ub : IsTab u u.length m) (a : AlikeW t u x n) (tn : t.length ≤ n) (t1 : 1 ≤ t.length) (u1 : 1 ≤ u.length) (tk : t.length ≤ 1000) (uk : u.length ≤ 1000) : leanT t x = leanT u x := by
  have hm : x.cps.size = m := by
    have := set_len st
    simpa [Str.length] using this
  have hml : x.cps.toList.length = m := by simpa using hm
  have tw := twin_frs st m2 tb ub a tn t1
  have f1 := (frs_ff tb hm t1 (by omega)).2
  have f2 := (frs_ff ub hm u1 (by omega)).2
  have len : (leanT t x).length = (leanT u x).length := by
    rw [lean_len, lean_len]
    unfold ordF
    rw [List.length_map, List.length_map]
    exact tw.len
  refine List.ext_getElem? fun i => ?_
  cases ez : (frs t x)[i]? with
  | none =>
    have e1 := List.getElem?_eq_none_iff.mp ez
    have e2 : (leanT t x).length = (frs t x).length := by
      rw [lean_len]
      exact List.length_map _
    rw [List.getElem?_eq_none (by omega), List.getElem?_eq_none (by omega)]
  | some z =>
    obtain ⟨p, ep⟩ := tw.at_ ez
    have ep' : (leanT u x)[i]? = some ((u.getD p []).map fun q => (ordF u x).idxOf q) := lean_at ep
    rw [lean_at ez, ep']
    obtain ⟨g1, g2, g3⟩ := tw.f i z ez
    obtain ⟨g4, _, _⟩ := tw.g i _ ep
    have g4 : p = goes u x 0 z.2.cps.toList := g4
    have zo : z.1 ∈ ordF t x := List.mem_map.mpr ⟨_, List.mem_of_getElem? ez, rfl⟩
    have po : p ∈ ordF u x := List.mem_map.mpr ⟨(p, z.2), List.mem_of_getElem? ep, rfl⟩
    obtain ⟨l1, _⟩ := row_tab tb (f1.lt _ zo)
    obtain ⟨l2, _⟩ := row_tab ub (f2.lt _ po)
    have hi := (List.getElem?_eq_some_iff.mp ez).1
    have li := f1.len
    refine congrArg some (List.ext_getElem? fun j => ?_)
    by_cases hj : j < m
    · rw [List.getElem?_map, List.getElem?_map, List.getElem?_eq_getElem (by omega), List.getElem?_eq_getElem (by omega)]
      have hc : x.cps.toList[j]? = some (x.cps.toList.getD j 0) := by
        rw [List.getD_eq_getElem?_getD, List.getElem?_eq_getElem (by omega)]
        rfl
      have ej := set_ix st m2 hc
      generalize x.cps.toList.getD j 0 = c at hc ej
      have sn := snoc_cps z.2 c
      have wy : IsW x (z.2 ++ (⟨#[c]⟩ : Str)) := fun d hd => by
        rw [sn] at hd
        rcases List.mem_append.mp hd with y | y
        · exact g2 d y
        · rw [List.mem_singleton.mp y]
          exact List.mem_of_getElem? hc
      have ly : (z.2 ++ (⟨#[c]⟩ : Str)).cps.toList.length ≤ n := by
        rw [sn, List.length_append]
        show z.2.cps.toList.length + 1 ≤ n
        omega
      have a1 : (t.getD z.1 [])[j]'(by omega) = goes t x 0 (z.2 ++ (⟨#[c]⟩ : Str)).cps.toList := by
        rw [sn, goes_snoc, ← g1]
        unfold step
        rw [ej, List.getD_eq_getElem?_getD (l := t.getD z.1 []), List.getElem?_eq_getElem (by omega)]
        rfl
      have a2 : (u.getD p [])[j]'(by omega) = goes u x 0 (z.2 ++ (⟨#[c]⟩ : Str)).cps.toList := by
        rw [sn, goes_snoc, ← g4]
        unfold step
        rw [ej, List.getD_eq_getElem?_getD (l := u.getD p []), List.getElem?_eq_getElem (by omega)]
        rfl
      show some ((ordF t x).idxOf _) = some ((ordF u x).idxOf _)
      rw [a1, a2]
      have mo : goes t x 0 (z.2 ++ (⟨#[c]⟩ : Str)).cps.toList ∈ ordF t x := by
        have := ord_closed tb hm t1 (by omega) zo hj
        rw [List.getD_eq_getElem?_getD (l := t.getD z.1 []), List.getElem?_eq_getElem (by omega)] at this
        have this : (t.getD z.1 [])[j]'(by omega) ∈ ordF t x := this
        rwa [a1] at this
      obtain ⟨k, w, ek⟩ := mem_at mo
      obtain ⟨q, eq⟩ := tw.at_ ek
      obtain ⟨k1, k2, k3⟩ := tw.f k _ ek
      obtain ⟨k4, _, _⟩ := tw.g k _ eq
      have hk := (List.getElem?_eq_some_iff.mp ek).1
      have al := (a _ w wy k2 ly (by
        have k3 : w.cps.toList.length ≤ k := k3
        omega)).mp k1
      have o1 : (ordF t x)[k]? = some (goes t x 0 (z.2 ++ (⟨#[c]⟩ : Str)).cps.toList) := by
        unfold ordF
        rw [List.getElem?_map, ek]
        rfl
      have o2 : (ordF u x)[k]? = some (goes u x 0 (z.2 ++ (⟨#[c]⟩ : Str)).cps.toList) := by
        unfold ordF
        rw [List.getElem?_map, eq]
        have k4 : q = goes u x 0 w.cps.toList := k4
        rw [al, ← k4]
        rfl
      have n1 : (ordF t x).Nodup := f1.nd
      have n2 : (ordF u x).Nodup := f2.nd
      rw [idx_at n1 o1, idx_at n2 o2]
    · rw [List.getElem?_eq_none (by rw [List.length_map]; omega), List.getElem?_eq_none (by rw [List.length_map]; omega)]
/-- words that a lean table leads alike are led alike by the table, and the other way round -/
theorem lean_alike (tb : IsTab t t.length m) (hm : x.cps.size = m) (t1 : 1 ≤ t.length) (tk : t.length ≤ 100000) {cs ds : List Nat} (hc : ∀ c ∈ cs, c ∈ x.cps.toList) (hd : ∀ c ∈ ds, c ∈ x.cps.toList) : (goes (leanT t x) x 0 cs = goes (leanT t x) x 0 ds) ↔ goes t x 0 cs = goes t x 0 ds := by
  have z0 := ord_zero tb hm t1 tk
  have i0 : (ordF t x).idxOf 0 = 0 := idx_at (frs_ff tb hm t1 tk).2.nd z0
  obtain ⟨m1, e1⟩ := lean_goes tb hm t1 tk cs 0 (List.mem_of_getElem? z0) hc
  obtain ⟨m2, e2⟩ := lean_goes tb hm t1 tk ds 0 (List.mem_of_getElem? z0) hd
  rw [i0] at e1 e2
  rw [e1, e2]
  exact ⟨fun h => idx_inj m1 m2 h, fun h => by rw [h]⟩
theorem lean_eq (st : IsSet x m) (m2 : m ≤ 2) (tb : IsTab t t.length m) (ub : IsTab u u.length m) (tn : t.length ≤ n) (t1 : 1 ≤ t.length) (u1 : 1 ≤ u.length) (tk : t.length ≤ 1000) (uk : u.length ≤ 1000) : leanT t x = leanT u x ↔ AlikeW t u x n := by
  have hm : x.cps.size = m := by
    have := set_len st
    simpa [Str.length] using this
  refine ⟨fun h y z hy hz _ _ => ?_, fun a => lean_eq_of st m2 tb ub a tn t1 u1 tk uk⟩
  rw [← lean_alike tb hm t1 (by omega) hy hz, ← lean_alike ub hm u1 (by omega) hy hz, h]
theorem prod_goes (hml : x.cps.toList.length = m) (tb : IsTab t t.length m) (ub : IsTab u u.length m) : ∀ (cs : List Nat) (a b : Nat), (∀ c ∈ cs, c ∈ x.cps.toList) → a < t.length → b < u.length → goes (prodT t u m) x (a * u.length + b) cs = goes t x a cs * u.length + goes u x b cs
  | [], _, _, _, _, _ => rfl
  | c :: cs, a, b, hc, ha, hb => by
    have hi : x.cps.toList.idxOf c < m := by
      have := List.idxOf_lt_length_of_mem (hc c List.mem_cons_self)
      omega
    have e := dec_enc (n := u.length) (a := a) (b := b) hb
    unfold dec at e
    injection e with e1 e2
    injection e2 with e2 _
    have es : step (prodT t u m) x (a * u.length + b) c = step t x a c * u.length + step u x b c := by
      unfold step
      rw [prod_at (enc_lt ha hb) hi, e1, e2]
    show goes (prodT t u m) x (step (prodT t u m) x (a * u.length + b) c) cs = _
    rw [es]
    exact prod_goes hml tb ub cs _ _ (fun d hd => hc d (List.mem_cons_of_mem _ hd)) (tab_at tb ha hi) (tab_at ub hb hi)
theorem prod_alike (st : IsSet x m) (tb : IsTab t t.length m) (ub : IsTab u u.length m) (t1 : 1 ≤ t.length) (u1 : 1 ≤ u.length) (tu : t.length * u.length ≤ 1000) {cs ds : List Nat} (hc : ∀ c ∈ cs, c ∈ x.cps.toList) (hd : ∀ c ∈ ds, c ∈ x.cps.toList) :
    (goes (leanT (prodT t u m) x) x 0 cs = goes (leanT (prodT t u m) x) x 0 ds) ↔ (goes t x 0 cs = goes t x 0 ds ∧ goes u x 0 cs = goes u x 0 ds) := by
  have hm : x.cps.size = m := by
    have := set_len st
    simpa [Str.length] using this
  have hml : x.cps.toList.length = m := by simpa using hm
  have p1 : 1 ≤ (prodT t u m).length := by
    rw [prod_len]
    exact Nat.mul_pos t1 u1
  rw [lean_alike (prod_tab tb ub) hm p1 (by rw [prod_len]; omega) hc hd]
  have e1 := prod_goes hml tb ub cs 0 0 hc t1 u1
  have e2 := prod_goes hml tb ub ds 0 0 hd t1 u1
  rw [Nat.zero_mul, Nat.zero_add] at e1 e2
  rw [e1, e2]
  refine ⟨fun h => ?_, fun h => by rw [h.1, h.2]⟩
  have b1 := goes_lt ub hml cs 0 u1 hc
  have b2 := goes_lt ub hml ds 0 u1 hd
  have d1 := dec_enc (n := u.length) (a := goes t x 0 cs) b1
  have d2 := dec_enc (n := u.length) (a := goes t x 0 ds) b2
  rw [h, d2] at d1
  injection d1 with d1 d3
  injection d3 with d3 _
  exact ⟨d1.symm, d3.symm⟩
end
end M3

set_option Elab.async false
set_option linter.all false
set_option maxRecDepth 100000
set_option maxHeartbeats 8000000
/-! # A box called within a comprehension: the reading names no context -/
namespace NvO
open PySem PySem.Spec PyProof.Rows L2
variable {X : Cx} {CX : CXT} {k : Nat} {C : Addr} {sp : Sp} {E : XK} {e fe : Expr} {es : List Expr} {tf : TE} {t : TA} {pos : Pos}
def tCallI (C : Addr) (sp : Sp) (E : XK) (tf : TE) (t : TA) : TE := fun σ H Q => tf σ H fun y H1 => ∃ a, y = V.ref a ∧ t σ H1 fun vs H2 => (∃ dx fs, H2 a = some (.ins C dx fs)) ∧ sp (V.ref a :: vs) H2 Q E
theorem pe_callI {g : Addr} (hf : PE X fe tf) (c : StX.CallO X.K C g) (F : FnR X.prog X.w X.K X.mg X.base CX k g sp) (hr : Room k X.A) (hx : Passes CX X E) (ha : PA X (e :: es) t)
    (ht : eval (.Call fe (e :: es) [] pos) X.env = (do callWith pos (← eval fe X.env) [] (backTo pos (starEach (e :: es) X.env)) (backToKw pos (keywordEach [] X.env))) := by rfl)
    (he : starEach (e :: es) X.env = (false, eval e X.env) :: starEach es X.env := by rfl) (hpl : (backTo pos (starEach es X.env)).any (·.1) = false := by rfl) : PE X (.Call fe (e :: es) [] pos) (tCallI C sp E tf t) := by
  refine ⟨fun pins s σ H Q I h => ?_⟩
  refine Call_ (thn (hf.run pins s σ H _ I h) fun u s1 ⟨y, H1, I1, ry, a, ey, q⟩ => ?_) ht
  subst ey
  obtain rfl : u = Value.ref a := ry
  refine StX.callO_with (thn (ha.run pos pins s1 σ H1 _ I1 q) fun us s2 ⟨vs, H2, I2, r, hi, q2⟩ => ?_) he hpl
  have hi : StX.InsC X H2 a C := .inr hi
  obtain ⟨ox, od, J, hd⟩ := StX.insC_at I2 hi
  exact ⟨⟨C, ox, od, J, hd⟩, StX.run_callO c F hr hx I2 hi r q2⟩
end NvO

set_option Elab.async false
set_option linter.all false
set_option maxRecDepth 100000
set_option maxHeartbeats 8000000
/-! # _law_pair_right -/
namespace M3
open PySem L2 NdefX
abbrev sPairRight : Stmt := top 63
abbrev nPair : List Str := ["one", "other", "words", "both", "same", "rows", "left", "right", "told", "box", "word", "row"]
theorem scPair : FnScope nPair ["one", "other", "words"] (defScope sPairRight) := ⟨rfl, rfl, rfl, by decide +kernel, rfl, by decide +kernel, by decide +kernel⟩
def spPairRight (K : PySem.W.Frag) (C : Addr) : Sp := fun vs H Q _ => ∃ (p q W : Addr) (x : Str) (t u : List (List Nat)) (m n : Nat), vs = [.ref p, .ref q, .ref W] ∧ BoxAt K C H p x t ∧ BoxAt K C H q x u ∧ RightB x t m ∧ RightB x u m ∧ 4 ≤ n ∧ n ≤ 5 ∧ H W = some (.lst ((shortW x n).map V.str)) ∧
  ∀ H' : Hp, Same H H' → Q (.bl true) H'
def tCallW (K : PySem.W.Frag) (C : Addr) : TE := NvO.tCallI C (fun vs H Q E => spBCallW K C (vs ++ []) H Q E) E0 (tVar 9) (tCons (tVar 10) tNil)
def tRowW (K : PySem.W.Frag) (C : Addr) : TE := tLc (iList K (tVar 2)) (gName 10) tYes (tCallW K C) [10]
def tRowEq (K : PySem.W.Frag) : TE := tOp rEq (tOp (rIxL K) (tVar 11) (tVar 6)) (tOp (rIxL K) (tVar 11) (tVar 7))
theorem flb_none {x : Str} {a : Addr} {n : Str} (h1 : ¬ n = ("_table" : Str)) (h2 : ¬ n = ("_letters" : Str)) : (flB x a).lookup n = none := by
  unfold flB
  rw [lookup_putF, if_neg h1, lookup_putF, if_neg h2]
  rfl
/-- lists of numbers, none of them one of N -/
def Lsts (N : Addr → Prop) (H : Hp) (us : List V) (F : List (List Nat)) : Prop := us.length = F.length ∧ ∀ (i : Nat) (r : List Nat), F[i]? = some r → ∃ b : Addr, us[i]? = some (.ref b) ∧ ¬ N b ∧ H b = some (.lst (nts r))
theorem Lsts.to {N N' : Addr → Prop} {H H' : Hp} {us : List V} {F : List (List Nat)} (h : Lsts N H us F) (k : ∀ b o, ¬ N b → H b = some o → H' b = some o) (n : ∀ b, ¬ N b → ¬ N' b) : Lsts N' H' us F := ⟨h.1, fun i r e => by
  obtain ⟨b, b1, b2, b3⟩ := h.2 i r e
  exact ⟨b, b1, n _ b2, k _ _ b2 b3⟩⟩
theorem Lsts.snoc {N : Addr → Prop} {H : Hp} {us : List V} {F : List (List Nat)} {b : Addr} {r : List Nat} (h : Lsts N H us F) (n : ¬ N b) (hb : H b = some (.lst (nts r))) : Lsts N H (us ++ [.ref b]) (F ++ [r]) := by
  refine ⟨by rw [List.length_append, List.length_append, h.1]; rfl, fun i r' e => ?_⟩
  rcases snoc_at e with e | ⟨rfl, rfl⟩
  · obtain ⟨c, c1, c2⟩ := h.2 i r' e
    exact ⟨c, by rw [List.getElem?_append_left (List.getElem?_eq_some_iff.mp c1).1]; exact c1, c2⟩
  · exact ⟨b, by rw [← h.1]; simp, n, hb⟩
/-- where the words lead -/
def led0 (t : List (List Nat)) (x : Str) (ws : List Str) : List Nat := ws.map fun y => goes t x 0 y.cps.toList
/-- the words before the pair of the l-th and the r-th are led alike or apart by both -/
def UpTo (A B : List Nat) (l r : Nat) : Prop := ∀ i j, j < i → (i < l ∨ (i = l ∧ j < r)) → (A.getD i 0 = A.getD j 0 ↔ B.getD i 0 = B.getD j 0)
def tk (F : List Nat) (i j : Nat) : Bool := decide (F.getD i 0 = F.getD j 0)
theorem UpTo.start {A B : List Nat} : UpTo A B 0 0 := fun i j _ h => by omega
theorem UpTo.turn {A B : List Nat} {l : Nat} : UpTo A B l l ↔ UpTo A B (l + 1) 0 := ⟨fun h i j a b => h i j a (by omega), fun h i j a b => h i j a (by omega)⟩
theorem UpTo.step {A B : List Nat} {l r : Nat} (hr : r < l) : UpTo A B l (r + 1) ↔ (UpTo A B l r ∧ tk A l r = tk B l r) := by
  constructor
  · intro h
    refine ⟨fun i j a b => h i j a (by omega), ?_⟩
    unfold tk
    have := h l r hr (.inr ⟨rfl, by omega⟩)
    by_cases c : A.getD l 0 = A.getD r 0
    · rw [decide_eq_true c, decide_eq_true (this.mp c)]
    · rw [decide_eq_false c, decide_eq_false fun z => c (this.mpr z)]
  · rintro ⟨h, e⟩ i j a b
    by_cases c : i = l ∧ j = r
    · obtain ⟨rfl, rfl⟩ := c
      unfold tk at e
      exact decide_eq_decide.mp e
    · exact h i j a (by omega)
theorem led0_at {t : List (List Nat)} {x : Str} {ws : List Str} {i : Nat} {y : Str} (h : ws[i]? = some y) : (led0 t x ws).getD i 0 = goes t x 0 y.cps.toList := by
  unfold led0
  rw [List.getD_eq_getElem?_getD, List.getElem?_map, h]
  rfl
theorem nts_at0 {r : List Nat} {i : Nat} (h : i < r.length) : atI (nts r) (0 + (i : Int)) = some (.int ((r.getD i 0 : Nat) : Int)) := by
  rw [Int.zero_add]
  exact nts_at h
theorem tk_val {F : List Nat} {i j : Nat} : decide (V.int ((F.getD i 0 : Nat) : Int) = V.int ((F.getD j 0 : Nat) : Int)) = tk F i j := by
  unfold tk
  refine decide_eq_decide.mpr ⟨fun h => ?_, fun h => by rw [h]⟩
  injection h with h
  omega
section
variable {P : Program} {w : World} {K : PySem.W.Frag} {mg : Str → Option Value} {base : Heap} {C : Addr}
theorem ok_pairright {f fC : Addr} {fd dC : FuncData} (F : Fun K "_law_pair_right" "_law_pair_right" sPairRight f fd) (kC : StX.CallO K C fC) (GC : FnOk P w K mg base CX0 5 fC dC ["self", "word"] (spBCallW K C)) (bC : Binds K dC ["self", "word"] [])
    (oA : OpC P w K mg base C 7 "__and__" ["self", "other"] (spBAnd K C)) (oE : OpC P w K mg base C 1 "__eq__" ["self", "other"] (spBEq K C)) (mN : OpC P w K mg base C 7 "lean" ["self"] (spBLean K C)) (sf : PySem.W.selfFirst K C = true) (TB : TxB K mg C) (TO : TxOB K C) (M : TxM mg) :
    FnOk P w K mg base CX0 8 f fd ["one", "other", "words"] (spPairRight K C) := by
  refine F.ok scPair (fun vs H Q E h => ?_) (fun cdv A outer s H vs Q E hr h => ?_)
  · obtain ⟨p, q, W, x, t, u, m, n, rfl, _⟩ := h
    rfl
  · obtain ⟨p, q, W, x, t, u, m, n, rfl, B1, B2, R1, R2, n4, n5, hW, k⟩ := h
    have hu := hu_of hr
    have hr7 : Room 7 _ := hr.mono (by decide)
    have hr5 : Room 5 _ := hr.mono (by decide)
    have hr1 : Room 1 _ := hr.mono (by decide)
    refine ⟨_, pss_cons (ps_par (i := 3) (j := 4) (by rfl) scPair.nd rfl rfl (by decide) rfl rfl (pa_cons (pe_op (NvO.op_ownO oA.G hr7 oA.b pass0 sf oA.m.at_ oA.m.fn) (pv 0) (pv 1)) (pa_cons pe_bl pa_nil)) (by rfl))
      (pss_cons (ps_setLc (i := 5) (own := [("box", 9)]) (g := gName 9) (tt := tYes) (te := tRowW K C) rfl scPair.nd rfl rfl (by rfl) (pi_tup (pe_tup (pa_cons (pv 0) (pa_cons (pv 1) (pa_cons (pv 3) pa_nil))))) (blkOk_by (N := nPair) (sc := defScope sPairRight) (by decide +kernel)) (fun _ _ _ _ _ => pg_name (i := 9) scPair.nd rfl (Or.inr rfl)) (fun _ _ _ _ _ => pts_nil)
        (fun _ _ _ _ _ => pe_lc (own := [("word", 10)]) (wi := iList K (tVar 2)) (g := gName 10) (tt := tYes) (te := tCallW K C) rfl scPair.nd (pi_list (pv 2)) (by exact blkOk_by (N := nPair) (sc := ⟨.function, [(".0", .local), ("box", .cell), ("words", .cell)], false, false, []⟩) (scope := ⟨.function, [(".0", .local), ("word", .local), ("box", .free)], false, false, []⟩) (own := [("word", 10)]) (by decide +kernel)) (fun _ _ _ _ _ => pg_name (i := 10) scPair.nd rfl (Or.inl rfl)) (fun _ _ _ _ _ => pts_nil)
          (fun _ _ _ _ _ => NvO.pe_callI (pv 9) kC (GC.raw bC .nil) hr5 pass0 (pa_cons (pv 10) pa_nil))))
      (pss_cons (ps_for PassesOwn.never rfl (pi_range1 rfl M.range (pa_cons (pe_callB call_len_seq (by rfl) M.len PySem.boot_len (pa_cons (pv 2) pa_nil)) pa_nil)) (pg_name (i := 6) scPair.nd rfl (Or.inr rfl))
        (pss_one (ps_for PassesOwn.never rfl (pi_range1 rfl M.range (pa_cons (pv 6) pa_nil)) (pg_name (i := 7) scPair.nd rfl (Or.inr rfl))
          (pss_cons (ps_setLc (i := 8) (own := [("row", 11)]) (g := gName 11) (tt := tYes) (te := tRowEq K) rfl scPair.nd rfl rfl (by rfl) (pi_list (pv 5)) (blkOk_by (N := nPair) (sc := defScope sPairRight) (by decide +kernel)) (fun _ _ _ _ _ => pg_name (i := 11) scPair.nd rfl (Or.inl rfl)) (fun _ _ _ _ _ => pts_nil)
            (fun _ _ _ _ _ => pe_cmpR op_eq (pe_ix ix_list (pv 11) (pv 6) (fun _ _ => rfl)) (pe_ix ix_list (pv 11) (pv 7) (fun _ _ => rfl)) (nomark _)))
          (pss_cons (ps_if (pt_cmpR op_ne (pe_ix ix_list (pv 8) pe_int (fun _ _ => rfl)) (pe_and (pe_ix ix_list (pv 8) pe_int (fun _ _ => rfl)) (pe_one (pe_ix ix_list (pv 8) pe_int (fun _ _ => rfl)))) (nomark _)) (pss_one (ps_ret pe_bl)) pss_nil)
          (pss_one (ps_set (i := 4) scPair.nd rfl (Or.inl rfl) (pe_and (pv 4) (pe_one (pe_cmpR op_eq (pe_ix ix_list (pv 8) pe_int (fun _ _ => rfl)) (pe_ix ix_list (pv 8) pe_int (fun _ _ => rfl)) (nomark _)))))))))))
      (pss_one (ps_ret (pe_cmpR op_eq (pv 4) (pe_cmpR (NvO.op_eqO oE.G hr1 oE.b pass0 oE.m.at_ oE.m.fn) (pe_meth0 (pv 0) TB.cl mN.m mN.G hr7 mN.b .nil pass0) (pe_meth0 (pv 1) TB.cl mN.m mN.G hr7 mN.b .nil pass0) (nomark _)) (nomark _)))))), ?_⟩
    have hm : x.cps.size = m := by
      have := set_len R1.st
      simpa [Str.length] using this
    have hx2 : x.length ≤ 2 := by
      have := set_len R1.st
      have := R1.m2
      omega
    have sc : (shortW x n).length ≤ 64 := Nat.le_trans (short_card hx2 n) (Nat.le_trans (Nat.pow_le_pow_right (by decide) (show n + 1 ≤ 6 by omega)) (by decide))
    have sz : (1000 : Nat) < sizeLine := by decide
    have tu : t.length * u.length ≤ 1000 := Nat.le_trans (Nat.mul_le_mul R1.t4 R2.t4) (by decide)
    have pb := prod_tab R1.tb R2.tb
    have p1 : 1 ≤ (prodT t u m).length := by
      rw [prod_len]
      exact Nat.mul_pos R1.t1 R2.t1
    have WB : WideB x (leanT (prodT t u m) x) m := ⟨R1.st, R1.m1, R1.m2, (lean_tab pb hm p1 (by rw [prod_len]; omega)).1, (lean_tab pb hm p1 (by rw [prod_len]; omega)).2.1⟩
    obtain ⟨dx, a1, us1, i1, i2, i3⟩ := id B1
    obtain ⟨dy, a2, us2, j1, j2, j3⟩ := id B2
    refine ⟨_, rfl, _, rfl, p, q, dx, dy, _, _, rfl, i1, rfl, j1, p, q, x, t, u, m, rfl, B1, B2, R1, R2, fun b H1 nb B3 s1 => ⟨b, rfl, _, _, rfl, ?_⟩⟩
    have hW1 := s1 _ _ hW
    have B1' := B1.same s1
    have B2' := B2.same s1
    have hws : ∀ (g : Nat) (y : Str), (shortW x n)[g]? = some y → IsW x y ∧ y.length ≤ 1000000 := fun g y e => by
      obtain ⟨kk, k1, k2⟩ := short_mem (List.mem_of_getElem? e)
      obtain ⟨l1, l2⟩ := lay_len kk y k2
      have : y.length = y.cps.toList.length := by simp [Str.length]
      exact ⟨l2, by omega⟩
    generalize hws' : shortW x n = ws at hW1 hws sc
    refine ⟨_, rfl, _, rfl, _, rfl, (by show 3 ≤ sizeLine; omega), fun Z nZ => ⟨Z, rfl, ⟨_, SqT.of upd_same⟩, fun R nR => ?_⟩⟩
    have hZ : (upd H1 Z (.tup [.ref p, .ref q, .ref b])) Z = some (.tup [.ref p, .ref q, .ref b]) := upd_same
    have s2 : Same H1 (upd H1 Z (.tup [.ref p, .ref q, .ref b])) := Same.new (Same.refl H1) nZ
    generalize upd H1 Z (.tup [.ref p, .ref q, .ref b]) = H2 at hZ s2 nR ⊢
    have hW2 := s2 _ _ hW1
    have nRH : H R = none := free_of (s1.trans s2) nR
    have box : ∀ (j : Nat) (v : V), [V.ref p, .ref q, .ref b][j]? = some v → ∃ (c : Addr) (s : List (List Nat)), v = .ref c ∧ [t, u, leanT (prodT t u m) x][j]? = some s ∧ BoxAt K C H2 c x s ∧ WideB x s m := fun j v e => by
      match j, e with
      | 0, e => cases e; exact ⟨p, t, rfl, rfl, B1'.same s2, R1.wide⟩
      | 1, e => cases e; exact ⟨q, u, rfl, rfl, B2'.same s2, R2.wide⟩
      | 2, e => cases e; exact ⟨b, _, rfl, rfl, B3.same s2, WB⟩
    have sR : ∀ {H9 : Hp}, (∀ b o, b ≠ R → H2 b = some o → H9 b = some o) → Same H2 H9 := fun z b o h => z b o (ne_of_none h nR) h
    refine lc_tup (K := K) (a := Z) (xs := [.ref p, .ref q, .ref b]) (fun j H9 => ∃ rs : List V, H9 R = some (.lst rs) ∧ Lsts (· = R) H9 rs (([t, u, leanT (prodT t u m) x].take j).map fun s => led0 s x ws) ∧ ∀ b o, b ≠ R → H2 b = some o → H9 b = some o)
      ⟨[], upd_same, ⟨rfl, fun i r h => by cases h⟩, fun b o hb h => keep_new h nR⟩ (fun j H9 _ ⟨_, _, _, z⟩ => sqt_same (sR z) (SqT.of hZ)) ?_ ?_
    · rintro j v H9 hv ⟨rs, r1, r2, r3⟩
      obtain ⟨c, s, rfl, es, Bc, Wc⟩ := box j v hv
      have j3 : j < 3 := (List.getElem?_eq_some_iff.mp hv).1
      have Bc9 := Bc.same (sR r3)
      refine ⟨rfl, tYes_if ?_⟩
      refine ⟨_, rfl, W, rfl, ⟨_, SqL.of (sR r3 _ _ hW2)⟩, fun S nS => ?_⟩
      have sS : ∀ {H11 : Hp}, (∀ b o, b ≠ S → H9 b = some o → H11 b = some o) → Same H9 H11 := fun z b o h => z b o (ne_of_none h nS) h
      have SR : S ≠ R := fun z => by rw [z, r1] at nS; cases nS
      refine lc_list (K := K) (a := W) (xs := ws.map V.str) (fun g H11 => H11 S = some (.lst (nts (led0 s x (ws.take g)))) ∧ ∀ b o, b ≠ S → H9 b = some o → H11 b = some o)
        ⟨upd_same, fun b o hb h => keep_new h nS⟩ (fun g H11 _ ⟨_, z⟩ => SqL.of (sS z _ _ (sR r3 _ _ hW2))) ?_ ?_
      · rintro g y H11 hy ⟨q1, q2⟩
        rw [List.getElem?_map] at hy
        cases ey : ws[g]? with
        | none =>
          rw [ey] at hy
          cases hy
        | some y' =>
          rw [ey] at hy
          cases hy
          obtain ⟨w1, w2⟩ := hws g y' ey
          have Bc11 := Bc9.same (sS q2)
          obtain ⟨dc, ac, uc, c1, c2, c3⟩ := id Bc11
          refine ⟨rfl, tYes_if ?_⟩
          refine ⟨_, rfl, c, rfl, _, rfl, ⟨dc, _, c1⟩, c, x, y', s, m, rfl, Bc11, Wc, w1, w2, fun H12 s12 => ?_⟩
          refine ⟨_, s12 _ _ q1, ?_, ?_, fun b o hb h => by rw [upd_ne hb]; exact s12 _ _ (q2 b o hb h)⟩
          · rw [nts_length]
            unfold led0
            rw [List.length_map, List.length_take]
            omega
          · rw [upd_same, take_snoc ey]
            unfold led0
            rw [List.map_append, nts_append]
            rfl
      · rintro H11 ⟨q1, q2⟩
        rw [List.length_map, List.take_length] at q1
        have r11 := q2 _ _ (Ne.symm SR) r1
        have lr : rs.length = j := by
          have := r2.1
          rw [List.length_map, List.length_take] at this
          have e3 : [t, u, leanT (prodT t u m) x].length = 3 := rfl
          omega
        refine ⟨rs, r11, by omega, rs ++ [.ref S], upd_same, ?_, fun b o hb h => ?_⟩
        · rw [take_snoc es, List.map_append]
          refine Lsts.snoc (r2.to (fun b' o nb h => ?_) (fun _ h => h)) SR ?_
          · rw [upd_ne nb]
            exact sS q2 _ _ h
          · rw [upd_ne SR]
            exact q1
        · rw [upd_ne hb]
          exact sS q2 _ _ (r3 b o hb h)
    · rintro H9 ⟨rs, r1, r2, r3⟩
      have r2 : Lsts (· = R) H9 rs [led0 t x ws, led0 u x ws, led0 (leanT (prodT t u m) x) x ws] := r2
      have s9 := s1.trans (s2.trans (sR r3))
      have hW9 := sR r3 _ _ hW2
      have lA : (led0 t x ws).length = ws.length := List.length_map _
      have lB : (led0 u x ws).length = ws.length := List.length_map _
      have lD : (led0 (leanT (prodT t u m) x) x ws).length = ws.length := List.length_map _
      have prod : ∀ i j, i < ws.length → j < ws.length → tk (led0 (leanT (prodT t u m) x) x ws) i j = (tk (led0 t x ws) i j && tk (led0 u x ws) i j) := fun i j hi hj => by
        have ei : ws[i]? = some ws[i] := List.getElem?_eq_getElem hi
        have ej : ws[j]? = some ws[j] := List.getElem?_eq_getElem hj
        unfold tk
        rw [led0_at ei, led0_at ej, led0_at ei, led0_at ej, led0_at ei, led0_at ej]
        have := prod_alike (cs := ws[i].cps.toList) (ds := ws[j].cps.toList) R1.st R1.tb R2.tb R1.t1 R2.t1 tu (hws i _ ei).1 (hws j _ ej).1
        rw [Bool.eq_iff_iff, Bool.and_eq_true, decide_eq_true_iff, decide_eq_true_iff, decide_eq_true_iff]
        exact this
      have alike : UpTo (led0 t x ws) (led0 u x ws) ws.length 0 ↔ leanT t x = leanT u x := by
        rw [lean_eq (n := n) R1.st R1.m2 R1.tb R2.tb (Nat.le_trans R1.t4 n4) R1.t1 R2.t1 (Nat.le_trans R1.t4 (by decide)) (Nat.le_trans R2.t4 (by decide))]
        constructor
        · intro h y z hy hz ly lz
          have my := short_all hy ly
          have mz := short_all hz lz
          rw [hws'] at my mz
          obtain ⟨i, hi, ei⟩ := List.getElem_of_mem my
          obtain ⟨j, hj, ej⟩ := List.getElem_of_mem mz
          have ei : ws[i]? = some y := by rw [List.getElem?_eq_getElem hi, ei]
          have ej : ws[j]? = some z := by rw [List.getElem?_eq_getElem hj, ej]
          rw [← led0_at ei, ← led0_at ej, ← led0_at ei, ← led0_at ej]
          rcases Nat.lt_trichotomy j i with c | c | c
          · exact h i j c (.inl hi)
          · subst c
            exact ⟨fun _ => rfl, fun _ => rfl⟩
          · have := h j i c (.inl hj)
            exact ⟨fun e => (this.mp e.symm).symm, fun e => (this.mpr e.symm).symm⟩
        · intro h i j ji hi
          have hi : i < ws.length := by omega
          have ei : ws[i]? = some ws[i] := List.getElem?_eq_getElem hi
          have ej : ws[j]? = some ws[j] := List.getElem?_eq_getElem (by omega)
          rw [led0_at ei, led0_at ej, led0_at ei, led0_at ej]
          have sh : ∀ (g : Nat) (y : Str), ws[g]? = some y → y.cps.toList.length ≤ n := fun g y e => by
            rw [← hws'] at e
            obtain ⟨kk, k1, k2⟩ := short_mem (List.mem_of_getElem? e)
            have := (lay_len kk y k2).1
            omega
          exact h _ _ (hws i _ ei).1 (hws j _ ej).1 (sh i _ ei) (sh j _ ej)
      generalize led0 t x ws = A at r2 lA prod alike
      generalize led0 u x ws = B at r2 lB prod alike
      generalize led0 (leanT (prodT t u m) x) x ws = D at r2 lD prod
      have l64 : ((ws.map V.str).length : Int).toNat = ws.length := by
        rw [List.length_map]
        omega
      have lws : (ws.map V.str).length = ws.length := List.length_map _
      refine ⟨_, rfl, W, _, rfl, .inl (SqL.of hW9), (ws.map V.str).length, rfl, by omega, by omega, for_range (lo := 0) (n := ((ws.map V.str).length : Int).toNat) (fun l σ H' => ∃ (sb : Bool) (v6 v7 v8 : Option V), σ = [some (.ref p), some (.ref q), some (.ref W), some (.ref b), some (.bl sb), some (.ref R), v6, v7, v8, none, none, none] ∧ (sb = true ↔ UpTo A B l 0) ∧ Same H9 H')
        ⟨true, _, _, _, rfl, ⟨fun _ => UpTo.start, fun _ => rfl⟩, Same.refl _⟩ ?_ ?_⟩
      · rintro l σ H10 hl ⟨sb, v6, v7, v8, rfl, up, s10⟩
        rw [l64] at hl
        refine ⟨_, rfl, _, rfl, by omega, by omega, for_range (lo := 0) (n := (0 + (l : Int)).toNat) (fun r σ H' => ∃ (sb : Bool) (v7 v8 : Option V), σ = [some (.ref p), some (.ref q), some (.ref W), some (.ref b), some (.bl sb), some (.ref R), some (.int (0 + (l : Int))), v7, v8, none, none, none] ∧ (sb = true ↔ UpTo A B l r) ∧ Same H9 H')
          ⟨sb, _, _, rfl, up, s10⟩ ?_ ?_⟩
        · rintro r σ H11 hr' ⟨sb, v7, v8, rfl, up, s11⟩
          have hrl : r < l := by omega
          refine ⟨_, rfl, R, rfl, ⟨_, SqL.of (s11 _ _ r1)⟩, fun T nT => ?_⟩
          have sT : ∀ {H12 : Hp}, (∀ b o, b ≠ T → H11 b = some o → H12 b = some o) → Same H11 H12 := fun z b o h => z b o (ne_of_none h nT) h
          refine lc_list (K := K) (a := R) (xs := rs) (fun g H12 => H12 T = some (.lst (([A, B, D].take g).map fun F => V.bl (tk F l r))) ∧ ∀ b o, b ≠ T → H11 b = some o → H12 b = some o)
            ⟨upd_same, fun b o hb h => keep_new h nT⟩ (fun g H12 _ ⟨_, z⟩ => SqL.of (sT z _ _ (s11 _ _ r1))) ?_ ?_
          · rintro g y H12 hy ⟨q1, q2⟩
            have hg : g < 3 := by
              have := (List.getElem?_eq_some_iff.mp hy).1
              rw [r2.1] at this
              exact this
            have eF : [A, B, D][g]? = some [A, B, D][g] := List.getElem?_eq_getElem hg
            have lF : [A, B, D][g].length = ws.length := by
              match g, hg with
              | 0, _ => exact lA
              | 1, _ => exact lB
              | 2, _ => exact lD
            generalize [A, B, D][g] = F at eF lF
            obtain ⟨c, c1, _, c2⟩ := r2.2 g F eF
            rw [c1] at hy
            cases hy
            have hc := SqL.of (K := K) (sT q2 _ _ (s11 _ _ c2))
            refine ⟨rfl, tYes_if ?_⟩
            refine ⟨_, rfl, _, rfl, c, nts F, _, _, rfl, rfl, hc, nts_at0 (by omega), _, rfl, _, rfl, c, nts F, _, _, rfl, rfl, hc, nts_at0 (by omega), rfl, ?_⟩
            have lt : (([A, B, D].take g).map fun F => V.bl (tk F l r)).length = g := by
              rw [List.length_map, List.length_take]
              show min g 3 = g
              omega
            refine ⟨_, q1, by omega, ?_, fun b' o hb h => by rw [upd_ne hb]; exact q2 b' o hb h⟩
            rw [upd_same, take_snoc eF, List.map_append, tk_val]
            rfl
          · rintro H12 ⟨q1, q2⟩
            have q1 : H12 T = some (.lst ([A, B, D].map fun F => V.bl (tk F l r))) := by
              rw [r2.1] at q1
              exact q1
            have q1 : H12 T = some (.lst [.bl (tk A l r), .bl (tk B l r), .bl (tk A l r && tk B l r)]) := by
              rw [← prod l r (by omega) (by omega)]
              exact q1
            have s12 := s11.trans (sT q2)
            have hT := SqL.of (K := K) q1
            have st2 : ∀ sb' : Bool, sb' = (sb && (tk A l r == tk B l r)) → (sb' = true ↔ UpTo A B l (r + 1)) := fun sb' e => by
              rw [e, UpTo.step hrl, ← up, Bool.and_eq_true, beq_iff_eq]
            generalize tk A l r = ta at q1 hT st2 ⊢
            generalize tk B l r = tb at q1 hT st2 ⊢
            cases ta with
            | false =>
              have hT : SqL K H12 T [.bl false, .bl tb, .bl false] := hT
              refine ⟨_, rfl, _, _, 2, _, rfl, rfl, hT, rfl, ?_⟩
              refine ⟨_, rfl, _, _, 0, _, rfl, rfl, hT, rfl, _, rfl, ?_⟩
              rw [if_neg (by decide)]
              refine ⟨rfl, _, rfl, ?_⟩
              rw [ne_not rfl]
              refine iteF ?_
              refine ⟨_, rfl, sb, rfl, ?_⟩
              cases sb with
              | false => exact ⟨false, _, _, rfl, st2 _ rfl, s12⟩
              | true =>
                rw [if_pos rfl]
                refine ⟨_, rfl, _, _, 0, _, rfl, rfl, hT, rfl, _, rfl, _, _, 1, _, rfl, rfl, hT, rfl, rfl, ?_⟩
                exact ⟨_, _, _, rfl, st2 _ (by cases tb <;> rfl), s12⟩
            | true =>
              have hT : SqL K H12 T [.bl true, .bl tb, .bl tb] := hT
              refine ⟨_, rfl, _, _, 2, _, rfl, rfl, hT, rfl, ?_⟩
              refine ⟨_, rfl, _, _, 0, _, rfl, rfl, hT, rfl, _, rfl, ?_⟩
              rw [if_pos rfl]
              refine ⟨_, rfl, _, _, 1, _, rfl, rfl, hT, rfl, rfl, _, rfl, ?_⟩
              rw [ne_not rfl]
              refine iteF ?_
              refine ⟨_, rfl, sb, rfl, ?_⟩
              cases sb with
              | false => exact ⟨false, _, _, rfl, st2 _ rfl, s12⟩
              | true =>
                rw [if_pos rfl]
                refine ⟨_, rfl, _, _, 0, _, rfl, rfl, hT, rfl, _, rfl, _, _, 1, _, rfl, rfl, hT, rfl, rfl, ?_⟩
                exact ⟨_, _, _, rfl, st2 _ (by cases tb <;> rfl), s12⟩
        · rintro σ H11 ⟨sb, v7, v8, rfl, up, s11⟩
          have el : (0 + (l : Int)).toNat = l := by omega
          rw [el] at up
          exact ⟨sb, _, _, _, rfl, up.trans UpTo.turn, s11⟩
      · rintro σ H10 ⟨sb, v6, v7, v8, rfl, up, s10⟩
        rw [l64, alike] at up
        have B1a := B1'.same (s2.trans ((sR r3).trans s10))
        have B2a := B2'.same (s2.trans ((sR r3).trans s10))
        obtain ⟨d1, b1, c1, f1, f2, f3⟩ := id B1a
        have WL1 : RightB x (leanT t x) m := by
          obtain ⟨g1, g2, g3⟩ := lean_tab R1.tb hm R1.t1 (Nat.le_trans R1.t4 (by decide))
          exact ⟨R1.st, R1.m1, R1.m2, g1, g2, Nat.le_trans g3 R1.t4⟩
        have WL2 : RightB x (leanT u x) m := by
          obtain ⟨g1, g2, g3⟩ := lean_tab R2.tb hm R2.t1 (Nat.le_trans R2.t4 (by decide))
          exact ⟨R1.st, R1.m1, R1.m2, g1, g2, Nat.le_trans g3 R2.t4⟩
        refine ⟨_, rfl, _, rfl, p, d1, _, rfl, f1, flb_none (by decide +kernel) (by decide +kernel), p, x, t, m, rfl, B1a, R1, fun e HA ne Be sA => ?_⟩
        have B2b := B2a.same sA
        obtain ⟨d2, b2, c2, g1, g2, g3⟩ := id B2b
        refine ⟨_, rfl, q, d2, _, rfl, g1, flb_none (by decide +kernel) (by decide +kernel), q, x, u, m, rfl, B2b, R2, fun f HB nf Bf sB => ?_⟩
        have Be' := Be.same sB
        obtain ⟨de, ae, ue, e1, e2, e3⟩ := id Be'
        obtain ⟨df, af, uf, h1, h2, h3⟩ := id Bf
        refine ⟨e, de, _, .ref C, rfl, e1, .base (.ins h1 TB.cl TO.ha TO.hn TO.tk TO.hm), first_self, e, .ref f, .ref C, true, x, leanT t x, m, rfl, Be', WL1, .base (.ins h1 TB.cl TO.ha TO.hn TO.tk TO.hm), TO.kc, (fun z => by cases z), fun _ => ⟨f, x, leanT u x, m, rfl, Bf, WL2, fun HC sC => ⟨_, rfl, rfl, ?_⟩⟩⟩
        have ee : decide (V.bl sb = V.bl (decide (x = x) && decide (leanT t x = leanT u x))) = true := by
          rw [decide_eq_true rfl, Bool.true_and]
          refine decide_eq_true ?_
          congr 1
          rw [Bool.eq_iff_iff, decide_eq_true_iff]
          exact up
        rw [ee]
        exact k HC (s9.trans (s10.trans (sA.trans (sB.trans sC))))
end
end M3

set_option Elab.async false
set_option linter.all false
set_option maxRecDepth 100000
set_option maxHeartbeats 8000000
/-! # The first word that is told, and the one that the law has -/
namespace M3
open PySem L2 NdefX
theorem told_one {t : List (List Nat)} {x : Str} {q : Nat} : toldTo t x [q] = (valV (entF (frs t x)) (kN q)).getD .non := by
  unfold toldTo
  generalize frs t x = F
  induction F with
  | nil => rfl
  | cons z F ih =>
    by_cases e : z.1 = q
    · have h1 : valV (entF (z :: F)) (kN q) = some (.str z.2) := by
        show valV ((kN z.1, V.str z.2) :: entF F) (kN q) = _
        rw [e]
        exact valV_pos rfl
      have h2 : (z :: F).find? (fun z => decide (z.1 ∈ [q])) = some z := List.find?_cons_of_pos (by rw [e]; simp)
      rw [h1, h2]
      rfl
    · have h1 : valV (entF (z :: F)) (kN q) = valV (entF F) (kN q) := by
        show valV ((kN z.1, V.str z.2) :: entF F) (kN q) = _
        exact valV_neg fun h => e (kN_inj h)
      have h2 : (z :: F).find? (fun z => decide (z.1 ∈ [q])) = F.find? (fun z => decide (z.1 ∈ [q])) := List.find?_cons_of_neg (by simp [e])
      rw [h1, h2]
      exact ih
/-- what an action does over and over, and how often it changes something, in a box -/
theorem lag_word {t : List (List Nat)} {x y : Str} {m : Nat} (R : RightB x t m) (h : among (bfs t x 256) = none) (hw : IsW x y) : ∃ L, L < t.length ∧ Lag (act t x y.cps.toList) L := by
  have hm : x.cps.toList.length = m := by
    have := set_len R.st
    simpa [Str.length] using this
  have lg : (act t x y.cps.toList).length = t.length := by
    unfold act
    rw [List.length_map, List.length_range]
  have wf : ∀ z ∈ act t x y.cps.toList, z < (act t x y.cps.toList).length := fun z hz => by
    rw [lg]
    unfold act at hz
    obtain ⟨q, hq, rfl⟩ := List.mem_map.mp hz
    exact goes_lt R.tb hm _ q (List.mem_range.mp hq) hw
  have no : turned (act t x y.cps.toList) = none := among_none R h hw
  obtain ⟨L, hL, l⟩ := lag_box wf (by rw [lg]; exact R.t1) no
  exact ⟨L, by omega, l⟩
end M3

set_option Elab.async false
set_option linter.all false
set_option maxRecDepth 100000
set_option maxHeartbeats 8000000
/-! # _law_one_right -/
namespace M3
open PySem L2 NdefX
abbrev sOneRight : Stmt := top 62
abbrev nOne : List Str := ["letters", "table", "box", "words", "firsts", "size", "word", "lag", "action", "rows", "turn", "place", "at"]
theorem scOne : FnScope nOne ["letters", "table", "box", "words"] (defScope sOneRight) := ⟨rfl, rfl, rfl, by decide +kernel, rfl, by decide +kernel, by decide +kernel⟩
/-- a text or None as data -/
def dV : V → PyData
  | .str s => .str s
  | _ => .none
def okV (v : V) : Prop := v = .non ∨ ∃ s, v = .str s ∧ PyData.strOk s = true
theorem dp_vs {K : PySem.W.Frag} {H : Hp} : ∀ vs : List V, (∀ v ∈ vs, okV v) → DpAll K H vs (vs.map dV)
  | [], _ => .nil
  | v :: vs, h => .cons (by
      rcases h v List.mem_cons_self with rfl | ⟨s, rfl, _⟩
      · exact .non
      · exact .str s) (dp_vs vs fun w hw => h w (List.mem_cons_of_mem _ hw))
theorem eqv_vs : ∀ vs : List V, (∀ v ∈ vs, okV v) → PyData.eqvAll (vs.map dV) (vs.map dV) = true
  | [], _ => rfl
  | v :: vs, h => by
    have ih := eqv_vs vs fun w hw => h w (List.mem_cons_of_mem _ hw)
    rcases h v List.mem_cons_self with rfl | ⟨s, rfl, _⟩
    · simp only [List.map_cons, dV, PyData.eqvAll, PyData.eqv, ih, Bool.true_and]
    · simp only [List.map_cons, dV, PyData.eqvAll, PyData.eqv, ih, Bool.and_true]
      simp
theorem lay_vs : ∀ vs : List V, (∀ v ∈ vs, okV v) → PyData.canLayAll0 (vs.map dV) = true ∧ PyData.depthAll (vs.map dV) ≤ 1
  | [], _ => ⟨rfl, by decide⟩
  | v :: vs, h => by
    obtain ⟨i1, i2⟩ := lay_vs vs fun w hw => h w (List.mem_cons_of_mem _ hw)
    rcases h v List.mem_cons_self with rfl | ⟨s, rfl, hs⟩
    · simp only [List.map_cons, dV, PyData.canLayAll0, PyData.canLay0, i1, PyData.depthAll, PyData.depth]
      exact ⟨rfl, by omega⟩
    · simp only [List.map_cons, dV, PyData.canLayAll0, PyData.canLay0, i1, hs, PyData.depthAll, PyData.depth]
      exact ⟨rfl, by omega⟩
theorem shaped_vs {vs : List V} (h : ∀ v ∈ vs, okV v) : SeqAt.shaped (.list (vs.map dV)) = true := by
  obtain ⟨i1, i2⟩ := lay_vs vs h
  unfold SeqAt.shaped
  have h1 : (PyData.list (vs.map dV)).canLay0 = true := by
    simp only [PyData.canLay0, i1]
  have h2 : (PyData.list (vs.map dV)).depth ≤ 64 := by
    simp only [PyData.depth]
    omega
  rw [h1, decide_eq_true h2]
  rfl
theorem strok {x w : Str} {m : Nat} (h : IsSet x m) (hw : IsW x w) : PyData.strOk w = true := by
  obtain ⟨cs, rfl, _, _, hm⟩ := h
  show (w.cps.all fun c => decide (c < 1114112)) = true
  rw [← Array.all_toList, List.all_eq_true]
  intro c hc
  have := hm c (by simpa using hw c hc)
  refine decide_eq_true ?_
  simp only [List.mem_cons, List.not_mem_nil, or_false] at this
  omega
theorem told_ok {t : List (List Nat)} {x : Str} {m q : Nat} (st : IsSet x m) (sF : ShortF x (frs t x)) : okV (toldTo t x [q]) := by
  unfold toldTo
  cases e : (frs t x).find? fun z => decide (z.1 ∈ [q]) with
  | none => exact .inl rfl
  | some z =>
    obtain ⟨i, hi, ei⟩ := List.getElem_of_mem (List.mem_of_find?_eq_some e)
    exact .inr ⟨z.2, rfl, strok st (sF i z (by rw [List.getElem?_eq_getElem hi, ei])).2⟩
theorem shaped_dN1 (es : List Nat) : SeqAt.shaped (dN es) = true := by
  unfold SeqAt.shaped
  have h1 : (dN es).canLay0 = true := lay_dN es
  have h2 : (dN es).depth ≤ 64 := by
    unfold dN
    simp only [PyData.depth, dep_nats]
    omega
  rw [h1, decide_eq_true h2]
  rfl
theorem act_len1 (t : List (List Nat)) (x : Str) (cs : List Nat) : (act t x cs).length = t.length := by
  unfold act
  rw [List.length_map, List.length_range]
theorem cut_mem {xs : List V} {lo hi : Option Int} {v : V} (h : v ∈ cutV xs lo hi) : v ∈ xs := by
  unfold cutV at h
  exact List.mem_of_mem_drop (List.mem_of_mem_take h)
def spOneRight (K : PySem.W.Frag) (T : List NTab) (C : Addr) : Sp := fun vs H Q _ => ∃ (a p W : Addr) (x : Str) (us : List V) (t : List (List Nat)) (m n : Nat), vs = [.str x, .ref a, .ref p, .ref W] ∧ SqL K H a us ∧ Tups K H us t ∧ BoxAt K C H p x t ∧ RightB x t m ∧ among (bfs t x 256) = none ∧ 4 ≤ n ∧ n ≤ 5 ∧ SqL K H W ((shortW x n).map V.str) ∧ TabsN T H ∧
  ∀ H' : Hp, Ext T H H' → Q (.bl true) H'
section
variable {P : Program} {w : World} {K : PySem.W.Frag} {mg : Str → Option Value} {base : Heap} {C : Addr}
theorem ok_oneright {T : List NTab} {f : Addr} {fd : FuncData} (F : Fun K "_law_one_right" "_law_one_right" sOneRight f fd) (cF : FnC P w K mg base 1 "_law_firsts" ["table", "letters"] (spFirstsL K))
    (mF : OpC P w K mg base C 4 "first_word" ["self", "place"] (spBFw K C)) (mN : OpC P w K mg base C 7 "lean" ["self"] (spBLean K C)) (oL : OpC P w K mg base C 1 "__len__" ["self"] (spBoxLen K C)) (mG : OpC P w K mg base C 5 "lag" ["self", "word"] (spBLag K T C)) (mA : OpC P w K mg base C 5 "action" ["self", "word"] (spBAct K T C)) (TB : TxB K mg C) (M : TxM mg) :
    FnOk P w K mg base CX0 8 f fd ["letters", "table", "box", "words"] (spOneRight K T C) := by
  refine F.ok scOne (fun vs H Q E h => ?_) (fun cdv A outer s H vs Q E hr h => ?_)
  · obtain ⟨a, p, W, x, us, t, m, n, rfl, _⟩ := h
    rfl
  · obtain ⟨a, p, W, x, us, t, m, n, rfl, ha, hT, B, R, no, n4, n5, hW, tabs, k⟩ := h
    have hu := hu_of hr
    have hr7 : Room 7 _ := hr.mono (by decide)
    have hr5 : Room 5 _ := hr.mono (by decide)
    have hr4 : Room 4 _ := hr.mono (by decide)
    have hr2 : Room 2 _ := hr.mono (by decide)
    have hr1 : Room 1 _ := hr.mono (by decide)
    refine ⟨_, pss_cons (ps_asg (pe_tup (pa_cons (pe_call cF.G hr1 rfl cF.m cF.kp cF.b .nil pass0 (pa_cons (pv 1) (pa_cons (pv 0) pa_nil))) (pa_cons (pe_callB call_len_seq (by rfl) M.len PySem.boot_len (pa_cons (pv 1) pa_nil)) pa_nil)))
        (pg_tup rfl (pgs_cons (pg_name (i := 4) scOne.nd rfl (Or.inr rfl)) (pgs_cons (pg_name (i := 5) scOne.nd rfl (Or.inl rfl)) pgs_nil))))
      (pss_cons (ps_if (pt_cmpR (op_neD hr.units) (pe_lc (own := [("place", 11)]) (g := gName 11) (tt := tYes) rfl scOne.nd (pi_range1 rfl M.range (pa_cons (pv 5) pa_nil)) (blkOk_by (N := nOne) (sc := defScope sOneRight) (by decide +kernel)) (fun _ _ _ _ _ => pg_name (i := 11) scOne.nd rfl (Or.inl rfl)) (fun _ _ _ _ _ => pts_nil)
            (fun _ _ _ _ _ => pe_meth (pv 2) TB.cl mF.m mF.G hr4 mF.b .nil pass0 (pa_cons (pv 11) pa_nil)))
          (pe_lc (own := [("place", 11)]) (g := gName 11) (tt := tYes) rfl scOne.nd (pi_range1 rfl M.range (pa_cons (pv 5) pa_nil)) (blkOk_by (N := nOne) (sc := defScope sOneRight) (by decide +kernel)) (fun _ _ _ _ _ => pg_name (i := 11) scOne.nd rfl (Or.inl rfl)) (fun _ _ _ _ _ => pts_nil)
            (fun _ _ _ _ _ => pe_dget2 hu (pv 4) (pv 11) pe_non ⟨rfl, rfl, rfl, rfl⟩)) (nomark _)) (pss_one (ps_ret pe_bl)) pss_nil)
      (pss_cons (ps_if (pt_cmpR op_ne (pe_callB (NvO.call_lenO oL.G hr2 oL.b pass0 oL.m.at_ oL.m.fn) (by rfl) M.len PySem.boot_len (pa_cons (pe_meth0 (pv 2) TB.cl mN.m mN.G hr7 mN.b .nil pass0) pa_nil)) (pe_callB call_lenD (by rfl) M.len PySem.boot_len (pa_cons (pv 4) pa_nil)) (nomark _)) (pss_one (ps_ret pe_bl)) pss_nil)
      (pss_cons (ps_for PassesOwn.never rfl (pi_list (pe_slice sl_list (pv 3) po_none (po_some pe_int))) (pg_name (i := 6) scOne.nd rfl (Or.inl rfl))
        (pss_cons (ps_asg (pe_tup (pa_cons (pe_meth (pv 2) TB.cl mG.m mG.G hr5 mG.b .nil pass0 (pa_cons (pv 6) pa_nil)) (pa_cons (pe_meth (pv 2) TB.cl mA.m mA.G hr5 mA.b .nil pass0 (pa_cons (pv 6) pa_nil)) pa_nil)))
            (pg_tup rfl (pgs_cons (pg_name (i := 7) scOne.nd rfl (Or.inl rfl)) (pgs_cons (pg_name (i := 8) scOne.nd rfl (Or.inr rfl)) pgs_nil))))
        (pss_cons (ps_set (i := 9) scOne.nd rfl (Or.inr rfl) (pe_lst (pa_cons (pe_tupRg rfl rfl M.tuple (prg_1 rfl M.range (pv 5))) pa_nil)))
        (pss_cons (ps_for PassesOwn.never rfl (pi_range1 rfl M.range (pa_cons (pv 5) pa_nil)) (pg_name (i := 10) scOne.nd rfl (Or.inl rfl))
          (pss_one (ps_expr (pe_bm PySem.F.plainAttrs_list PySem.F.slot_list_append PySem.F.type_list_append mt_append (pv 9) (pa_cons (pe_callTy call_tuple_of (by rfl) M.tuple (by decide +kernel) (pa_cons (pe_lc (own := [("place", 11)]) (g := gName 11) (tt := tYes) (te := tOp (rIxT K) (tVar 8) (tVar 11)) rfl scOne.nd (pi_tup (pe_ix ix_list (pv 9) (pe_un un_neg pe_int) (fun _ _ => rfl))) (blkOk_by (N := nOne) (sc := defScope sOneRight) (by decide +kernel)) (fun _ _ _ _ _ => pg_name (i := 11) scOne.nd rfl (Or.inl rfl)) (fun _ _ _ _ _ => pts_nil)
            (fun _ _ _ _ _ => pe_ix ix_tup (pv 8) (pv 11) (fun _ _ => rfl))) pa_nil)) pa_nil)))))
        (pss_one (ps_if (PW.pt (pw_or (pt_cmpR (op_neD hr.units) (pe_ix ix_list (pv 9) (pv 7) (fun _ _ => rfl)) (pe_ix ix_list (pv 9) (pe_op op_add (pv 7) pe_int) (fun _ _ => rfl)) (nomark _))
            (pw_or1 (pt_cmpR (op_neD hr.units) (pe_lc (own := [("at", 12)]) (g := gName 12) (tt := tTest (tOp (rEqD K) (tOp (rIxL K) (tVar 9) (tVar 12)) (tOp (rIxL K) (tVar 9) (tOp (rI0 fun i j => .int (i + j)) (tVar 12) (tC (.int 1)))))) (te := tVar 12) rfl scOne.nd (pi_range1 rfl M.range (pa_cons (pv 7) pa_nil)) (blkOk_by (N := nOne) (sc := defScope sOneRight) (by decide +kernel)) (fun _ _ _ _ _ => pg_name (i := 12) scOne.nd rfl (Or.inl rfl))
              (fun _ _ _ _ _ => pts_one (pt_cmpR (op_eqD hr.units) (pe_ix ix_list (pv 9) (pv 12) (fun _ _ => rfl)) (pe_ix ix_list (pv 9) (pe_op op_add (pv 12) pe_int) (fun _ _ => rfl)) (nomark _))) (fun _ _ _ _ _ => pv 12)) (pe_lst pa_nil) (nomark _))))) (pss_one (ps_ret pe_bl)) pss_nil))))))
      (pss_one (ps_ret pe_bl))))), ?_⟩
    have sz : (1000 : Nat) < sizeLine := by decide
    have hm : x.cps.size = m := by
      have := set_len R.st
      simpa [Str.length] using this
    have hml : x.cps.toList.length = m := by simpa using hm
    have t1 := R.t1
    have t4 := R.t4
    have m2 := R.m2
    refine ⟨_, rfl, _, rfl, a, us, t, m, x, rfl, ha, hT, R.tb, t1, by omega, hm, fun D H1 nD hD sF s1 => ?_⟩
    refine ⟨_, rfl, a, us, rfl, .inl (s1.seq ha), (by show 2 ≤ sizeLine; omega), fun Z nZ => ⟨Z, _, rfl, SqT.of upd_same, rfl, _, _, rfl, _, _, rfl, rfl, ?_⟩⟩
    rw [hT.1]
    have hD2 := keep_new (u := .tup [.ref D, .int ((t.length : Nat) : Int)]) hD nZ
    have s2 : Same H (upd H1 Z (.tup [.ref D, .int ((t.length : Nat) : Int)])) := Same.new s1 nZ
    generalize upd H1 Z (.tup [.ref D, .int ((t.length : Nat) : Int)]) = H2 at hD2 s2 ⊢
    clear hD s1 nZ
    have B2 := B.same s2
    have okT : ∀ q, okV (toldTo t x [q]) := fun q => told_ok R.st sF
    have lcomp : ∀ g, ((List.range g).map fun q => toldTo t x [q]).length = g := fun g => by rw [List.length_map, List.length_range]
    have ent : ((t.length : Nat) : Int).toNat = t.length := by omega
    refine ⟨_, rfl, ((t.length : Nat) : Int), rfl, by omega, by omega, fun G nG => ?_⟩
    have sG : ∀ {H9 : Hp}, (∀ b o, b ≠ G → H2 b = some o → H9 b = some o) → Same H2 H9 := fun z b o h => z b o (ne_of_none h nG) h
    refine lc_it walk_range (fun l H9 => H9 G = some (.lst ((List.range l).map fun q => toldTo t x [q])) ∧ ∀ b o, b ≠ G → H2 b = some o → H9 b = some o)
      ⟨upd_same, fun b o hb h => keep_new h nG⟩ (fun _ _ _ _ => trivial) ?_ ?_
    · rintro l y H9z H9 hl ⟨q1, q2⟩ ⟨rfl, rfl⟩
      rw [ent] at hl
      refine ⟨rfl, tYes_if ?_⟩
      have B9 := B2.same (sG q2)
      obtain ⟨dx, a', us', j1, j2, j3⟩ := id B9
      refine ⟨_, rfl, p, dx, _, rfl, j1, flb_none (by decide +kernel) (by decide +kernel), _, rfl, p, x, t, m, l, (by show [V.ref p, V.int (0 + (l : Int))] = _; rw [Int.zero_add]), B9, R, hl, fun H10 s10 => ?_⟩
      refine ⟨_, s10 _ _ q1, by rw [lcomp]; omega, ?_, fun b o hb h => by rw [upd_ne hb]; exact s10 _ _ (q2 b o hb h)⟩
      rw [upd_same, List.range_succ, List.map_append]
      rfl
    · rintro H3 ⟨g1, g2⟩
      rw [ent] at g1
      have s3 := s2.trans (sG g2)
      have hD3 := sG g2 _ _ hD2
      refine ⟨_, rfl, ((t.length : Nat) : Int), rfl, by omega, by omega, fun G2 nG2 => ?_⟩
      have sG2 : ∀ {H9 : Hp}, (∀ b o, b ≠ G2 → H3 b = some o → H9 b = some o) → Same H3 H9 := fun z b o h => z b o (ne_of_none h nG2) h
      refine lc_it walk_range (fun l H9 => H9 G2 = some (.lst ((List.range l).map fun q => toldTo t x [q])) ∧ ∀ b o, b ≠ G2 → H3 b = some o → H9 b = some o)
        ⟨upd_same, fun b o hb h => keep_new h nG2⟩ (fun _ _ _ _ => trivial) ?_ ?_
      · rintro l y H9z H9 hl ⟨q1, q2⟩ ⟨rfl, rfl⟩
        rw [ent] at hl
        refine ⟨rfl, tYes_if ?_⟩
        have hD9 := sG2 q2 _ _ hD3
        refine ⟨_, rfl, D, rfl, (.inl ⟨_, .inl hD9⟩), _, rfl, valV (entF (frs t x)) (kN l), ?_, ?_⟩
        · have g := DGet.k (k := kN l) hD9
          show DGet H9 D (V.int (0 + (l : Int))) _
          rw [Int.zero_add]
          exact g
        · rw [← told_one]
          refine ⟨_, q1, by rw [lcomp]; omega, ?_, fun b o hb h => by rw [upd_ne hb]; exact q2 b o hb h⟩
          rw [upd_same, List.range_succ, List.map_append]
          rfl
      · rintro H4 ⟨h1, h2⟩
        rw [ent] at h1
        have s4 := s3.trans (sG2 h2)
        have g4 := sG2 h2 _ _ g1
        have hD4 := sG2 h2 _ _ hD3
        have okL : ∀ v ∈ (List.range t.length).map fun q => toldTo t x [q], okV v := fun v hv => by
          obtain ⟨q, _, rfl⟩ := List.mem_map.mp hv
          exact okT q
        refine ⟨_, _, .lst (SqL.of g4) (dp_vs _ okL), .lst (SqL.of h1) (dp_vs _ okL), shaped_vs okL, shaped_vs okL, _, rfl, ?_⟩
        have e1 : (PyData.list (((List.range t.length).map fun q => toldTo t x [q]).map dV)).eqv (.list (((List.range t.length).map fun q => toldTo t x [q]).map dV)) = true := by
          rw [PyData.eqv]
          exact eqv_vs _ okL
        rw [e1]
        refine iteF ?_
        have B4 := B.same s4
        obtain ⟨dx, a', us', j1, j2, j3⟩ := id B4
        refine ⟨_, rfl, p, dx, _, rfl, j1, flb_none (by decide +kernel) (by decide +kernel), p, x, t, m, rfl, B4, R, fun c H5 nc Bc s5 => ?_⟩
        obtain ⟨dc, ac, uc, c1, c2, c3⟩ := id Bc
        have l1 : (leanT t x).length = (entF (frs t x)).length := by
          rw [lean_len]
          unfold ordF entF
          rw [List.length_map, List.length_map]
        have l2 := (lean_tab R.tb hm t1 (by omega)).2.2
        refine ⟨c, dc, _, rfl, c1, c, x, leanT t x, rfl, Bc, ((leanT t x).length : Nat), rfl, by omega, by omega, ?_⟩
        refine ⟨_, rfl, D, _, rfl, s5 _ _ hD4, ?_⟩
        rw [l1]
        refine ⟨rfl, _, rfl, ?_⟩
        rw [ne_not rfl]
        refine iteF ?_
        have s6 := s4.trans s5
        refine ⟨_, rfl, 7, rfl, W, _, rfl, s6.seq hW, fun G3 nG3 => ⟨G3, rfl, ⟨_, SqL.of upd_same⟩, ?_⟩⟩
        have s7 : Same H (upd H5 G3 (.lst (cutV ((shortW x n).map V.str) none (some 7)))) := Same.new s6 nG3
        have hG3 : (upd H5 G3 (.lst (cutV ((shortW x n).map V.str) none (some 7)))) G3 = some (.lst (cutV ((shortW x n).map V.str) none (some 7))) := upd_same
        have hws : ∀ v ∈ cutV ((shortW x n).map V.str) none (some 7), ∃ y, v = .str y ∧ IsW x y ∧ y.length ≤ 1000000 := fun v hv => by
          obtain ⟨y, hy, rfl⟩ := List.mem_map.mp (cut_mem hv)
          obtain ⟨kk, k1, k2⟩ := short_mem hy
          obtain ⟨l1, l2⟩ := lay_len kk y k2
          have : y.length = y.cps.toList.length := by simp [Str.length]
          exact ⟨y, rfl, l2, by omega⟩
        generalize cutV ((shortW x n).map V.str) none (some 7) = ws at s7 hG3 hws ⊢
        generalize upd H5 G3 (.lst ws) = H6 at s7 hG3 ⊢
        have tab6 := tabs.ext s7
        refine for_list (K := K) (a := G3) (xs := ws) (fun j σ H' => ∃ v6 v7 v8 v9 v10 : Option V, σ = [some (.str x), some (.ref a), some (.ref p), some (.ref W), some (.ref D), some (.int ((t.length : Nat) : Int)), v6, v7, v8, v9, v10, none, none] ∧ Ext T H6 H')
          ⟨_, _, _, _, _, rfl, Ext.refl tab6⟩ (fun j σ H' _ h => ?_) ?_ ?_
        · obtain ⟨_, _, _, _, _, _, e⟩ := h
          exact sql_ext e.ext (SqL.of hG3)
        · rintro j v σ H7 hv ⟨v6, v7, v8, v9, v10, rfl, e7⟩
          obtain ⟨y, rfl, hw, ly⟩ := hws v (List.mem_of_getElem? hv)
          obtain ⟨Lg, Ll, hL⟩ := lag_word R no hw
          have B7 := (B.same s7).ext e7.ext
          obtain ⟨dx, a', us', j1, j2, j3⟩ := id B7
          refine ⟨_, rfl, p, dx, _, rfl, j1, flb_none (by decide +kernel) (by decide +kernel), _, rfl, p, x, y, t, m, Lg, rfl, B7, R, hw, ly, e7.tab, hL, by omega, fun H8 e8 => ?_⟩
          have e78 := e7.trans e8
          have B8 := B7.ext e8.ext
          obtain ⟨dx, a', us', j1, j2, j3⟩ := id B8
          refine ⟨_, rfl, p, dx, _, rfl, j1, flb_none (by decide +kernel) (by decide +kernel), _, rfl, p, x, y, t, m, rfl, B8, R, hw, ly, e78.tab, fun c H9 hc e9 => ?_⟩
          have e79 := e78.trans e9
          generalize hg : act t x y.cps.toList = g at hc hL
          have lg : g.length = t.length := by rw [← hg, act_len1]
          have gl : ∀ q ∈ g, q < g.length := by
            rw [lg, ← hg]
            exact act_lt R.tb hml hw
          refine ⟨(by show 2 ≤ sizeLine; omega), fun Z nZ => ⟨Z, _, rfl, SqT.of upd_same, rfl, _, _, rfl, _, _, rfl, rfl, ?_⟩⟩
          have hc1 := keep_new (u := .tup [.int ((Lg : Nat) : Int), .ref c]) hc nZ
          have s10 : Same H9 (upd H9 Z (.tup [.int ((Lg : Nat) : Int), .ref c])) := Same.new (Same.refl H9) nZ
          generalize upd H9 Z (.tup [.int ((Lg : Nat) : Int), .ref c]) = H10 at hc1 s10 ⊢
          refine ⟨_, rfl, _, rfl, .of_le (by decide) (by omega) (by decide) (by omega), fun p0 np => ?_⟩
          rw [rgV_nats]
          have hc2 := keep_new (u := .tup (nts (List.range t.length))) hc1 np
          have hp2 : (upd H10 p0 (.tup (nts (List.range t.length)))) p0 = some (.tup (nts (List.range t.length))) := upd_same
          have s11 : Same H9 (upd H10 p0 (.tup (nts (List.range t.length)))) := Same.new s10 np
          generalize upd H10 p0 (.tup (nts (List.range t.length))) = H11 at hc2 hp2 s11 ⊢
          refine ⟨(by show 1 ≤ sizeLine; omega), fun L nL => ?_⟩
          have hL3 : (upd H11 L (.lst [.ref p0])) L = some (.lst [.ref p0]) := upd_same
          have hc3 := keep_new (u := .lst [.ref p0]) hc2 nL
          have hp3 := keep_new (u := .lst [.ref p0]) hp2 nL
          have s12 : Same H9 (upd H11 L (.lst [.ref p0])) := Same.new s11 nL
          have fL : H9 L = none := free_of s11 nL
          generalize upd H11 L (.lst [.ref p0]) = H12 at hL3 hc3 hp3 s12 ⊢
          clear hc1 hc2 hp2 s10 s11 nL np nZ
          refine ⟨_, rfl, ((t.length : Nat) : Int), rfl, by omega, by omega, for_range (lo := 0) (n := ((t.length : Nat) : Int).toNat) (fun i σ H' => (∃ v : Option V, σ = [some (.str x), some (.ref a), some (.ref p), some (.ref W), some (.ref D), some (.int ((t.length : Nat) : Int)), some (.str y), some (.int ((Lg : Nat) : Int)), some (.ref c), some (.ref L), v, none, none]) ∧ (∃ us' : List V, H' L = some (.lst us') ∧ RowsA H' us' (pws g (i + 1))) ∧ H' c = some (.tup (nts g)) ∧ Same H9 H') ⟨⟨_, rfl⟩, ⟨[.ref p0], hL3, rfl, fun i r e => ?_⟩, hc3, s12⟩ ?_ ?_⟩
          · match i, e with
            | 0, e =>
              refine ⟨p0, rfl, ?_⟩
              cases e
              show H12 p0 = some (.tup (nts (List.range g.length)))
              rw [lg]
              exact hp3
          · rintro i σ H5 hi ⟨⟨v, rfl⟩, ⟨us', hL, RA⟩, hc, s5⟩
            have lus : us'.length = i + 1 := by rw [RA.1, pws_length]
            obtain ⟨bq, b1, b2⟩ := RA.2 i _ (pws_at (Nat.lt_succ_self i))
            have qL : bq ≠ L := ne_of b2 hL (fun z => by cases z)
            refine ⟨_, rfl, .inl ⟨rfl, _, SqL.of hL⟩, _, rfl, _, rfl, L, us', _, _, rfl, rfl, SqL.of hL, at_last lus b1, bq, rfl, ⟨_, SqT.of b2⟩, fun D nD => ?_⟩
            have sm : ∀ {H9 : Hp}, (∀ b' o, b' ≠ D → H5 b' = some o → H9 b' = some o) → Same H5 H9 := fun z b' o h => z b' o (fun q => by rw [q, nD] at h; cases h) h
            refine lc_tup (K := K) (a := bq) (xs := nts (pw g i)) (fun j H9 => H9 D = some (.lst (nts (comp ((pw g i).take j) g))) ∧ ∀ b' o, b' ≠ D → H5 b' = some o → H9 b' = some o)
              ⟨upd_same, fun b' o hb' h => keep_new h nD⟩ (fun i H9 _ ⟨_, z⟩ => sqt_same (sm z) (SqT.of b2)) ?_ ?_
            · rintro j v H9 hv ⟨q1, q2⟩
              have hj : j < (pw g i).length := by
                have := (List.getElem?_eq_some_iff.mp hv).1
                rw [nts_length] at this
                exact this
              unfold nts at hv
              rw [List.getElem?_map, List.getElem?_eq_getElem hj] at hv
              cases hv
              refine ⟨rfl, tYes_if ?_⟩
              have hlt := pw_lt gl i (pw g i)[j] (List.getElem_mem hj)
              have l4 : (pw g i).length ≤ 4 := by rw [pw_length, lg]; exact t4
              refine ⟨_, rfl, _, rfl, c, nts g, _, _, rfl, rfl, SqT.of (sm q2 _ _ hc), nts_at hlt, _, q1, ?_, ?_, fun b' o hb' h => by rw [upd_ne hb']; exact q2 b' o hb' h⟩
              · unfold comp
                rw [nts_length, List.length_map, List.length_take]
                omega
              · rw [upd_same]
                unfold comp nts
                rw [map_take_snoc hj, List.map_append]
                rfl
            · rintro H9 ⟨q1, q2⟩
              have et : (pw g i).take (nts (pw g i)).length = pw g i := by
                rw [nts_length]
                exact List.take_length
              rw [et] at q1
              refine ⟨D, _, rfl, .inl ⟨SqL.of q1, fun l nl => ?_⟩⟩
              have s9 := sm q2
              have lL : l ≠ L := fun z => by
                rw [z, s9 _ _ hL] at nl
                cases nl
              refine ⟨L, us', .ref l, rfl, rfl, keep_new (s9 _ _ hL) nl, (by rw [lus]; omega), ⟨_, rfl⟩, ⟨us' ++ [.ref l], upd_same, ?_⟩, ?_, fun b' o h => ?_⟩
              · rw [pws_succ]
                refine (RA.to fun b' ys h => ?_).snoc ?_
                · rw [upd_ne (ne_of h hL (fun z => by cases z))]
                  exact keep_new (s9 _ _ h) nl
                · rw [upd_ne lL]
                  exact upd_same
              · rw [upd_ne (ne_of hc hL (fun z => by cases z))]
                exact keep_new (s9 _ _ hc) nl
              · rw [upd_ne (ne_of_none h fL)]
                exact keep_new (s9 _ _ (s5 _ _ h)) nl
          · rintro σ H5 ⟨⟨v, rfl⟩, ⟨us', hL5, RA⟩, hc, s5⟩
            rw [ent] at RA
            obtain ⟨u1, e1, f1⟩ := RA.2 Lg _ (pws_at (show Lg < t.length + 1 by omega))
            obtain ⟨u2, e2, f2⟩ := RA.2 (Lg + 1) _ (pws_at (show Lg + 1 < t.length + 1 by omega))
            refine ⟨_, rfl, _, rfl, L, us', _, _, rfl, rfl, SqL.of hL5, atI_nat e1, _, rfl, _, rfl, _, _, rfl, rfl, L, us', _, _, rfl, rfl, SqL.of hL5, (by rw [show ((Lg : Nat) : Int) + 1 = ((Lg + 1 : Nat) : Int) by omega]; exact atI_nat e2), dN (pw g Lg), dN (pw g (Lg + 1)), .tup (SqT.of f1) (dp_nats _), .tup (SqT.of f2) (dp_nats _), shaped_dN1 _, shaped_dN1 _, _, rfl, ?_⟩
            rw [eqv_dN, decide_eq_true hL.1.symm]
            refine iteF ?_
            refine ⟨_, rfl, ((Lg : Nat) : Int), rfl, by omega, by omega, fun G nG => ?_⟩
            have sm : ∀ {H9 : Hp}, (∀ b' o, b' ≠ G → H5 b' = some o → H9 b' = some o) → Same H5 H9 := fun z b' o h => z b' o (ne_of_none h nG) h
            refine lc_range (lo := 0) (n := ((Lg : Nat) : Int).toNat) (fun j H9 => H9 G = some (.lst (nts [])) ∧ ∀ b o, b ≠ G → H5 b = some o → H9 b = some o)
              ⟨upd_same, fun b o hb h => keep_new h nG⟩ ?_ ?_
            · rintro j H9 hj ⟨q1, q2⟩
              have hj : j < Lg := by omega
              have s9 := sm q2
              refine ⟨rfl, ?_⟩
              obtain ⟨w1, x1, y1⟩ := RA.2 j _ (pws_at (show j < t.length + 1 by omega))
              obtain ⟨w2, x2, y2⟩ := RA.2 (j + 1) _ (pws_at (show j + 1 < t.length + 1 by omega))
              have ej : (0 : Int) + (j : Int) = ((j : Nat) : Int) := by omega
              have ej2 : (0 : Int) + (j : Int) + 1 = ((j + 1 : Nat) : Int) := by omega
              have hL9 := SqL.of (K := K) (s9 _ _ hL5)
              refine ⟨_, rfl, _, rfl, L, us', _, _, rfl, rfl, hL9, (by rw [ej]; exact atI_nat x1), _, rfl, _, rfl, _, _, rfl, rfl, L, us', _, _, rfl, rfl, hL9, (by rw [ej2]; exact atI_nat x2), dN (pw g j), dN (pw g (j + 1)), .tup (SqT.of (s9 _ _ y1)) (dp_nats _), .tup (SqT.of (s9 _ _ y2)) (dp_nats _), shaped_dN1 _, shaped_dN1 _, _, rfl, ?_⟩
              rw [eqv_dN, decide_eq_false fun e => hL.2 j hj e.symm]
              refine iteF ?_
              exact ⟨q1, q2⟩
            · rintro H9 ⟨q1, q2⟩
              refine ⟨(by show 0 ≤ sizeLine; omega), fun G2 nG2 => ?_⟩
              have g1 := keep_new (u := .lst []) q1 nG2
              refine ⟨.list [], .list [], .lst (SqL.of g1) .nil, .lst (SqL.of upd_same) .nil, shaped_l0, shaped_l0, _, rfl, ?_⟩
              have e0 : (PyData.list []).eqv (.list []) = true := eqv_l0 []
              rw [e0]
              refine iteF ?_
              exact ⟨_, _, _, _, _, rfl, e79.trans (Ext.of e79.tab (s5.trans (Same.new (sm q2) nG2)))⟩
        · rintro σ H7 ⟨v6, v7, v8, v9, v10, rfl, e7⟩
          exact k H7 ((Ext.of tabs s7).trans e7)
end
end M3

set_option Elab.async false
set_option linter.all false
set_option maxRecDepth 100000
set_option maxHeartbeats 8000000
/-! # The law itself -/
namespace M3
open PySem L2 NdefX
abbrev sLaw : Stmt := top 64
abbrev nLaw : List Str := ["script", "at", "dice", "letters", "total", "boxes", "words", "table", "due", "told", "some", "turn", "pair"]
theorem scLaw : FnScope nLaw ["script"] (defScope sLaw) := ⟨rfl, rfl, rfl, by decide +kernel, rfl, by decide +kernel, by decide +kernel⟩
structure TxL (mg : Str → Option Value) : Prop where
  max : mg "max" = none
  min : mg "min" = none
/-- a table that never turns -/
def calm (x : Str) (t : List (List Nat)) : Bool := (among (bfs t x 256)).isNone
theorem calm_none {x : Str} {t : List (List Nat)} (h : calm x t = true) : among (bfs t x 256) = none := by
  unfold calm at h
  cases e : among (bfs t x 256) with
  | none => rfl
  | some z =>
    rw [e] at h
    cases h
theorem calm_some {x : Str} {t : List (List Nat)} (h : calm x t = false) : ∃ y q, among (bfs t x 256) = some (y, q) := by
  unfold calm at h
  cases e : among (bfs t x 256) with
  | none =>
    rw [e] at h
    cases h
  | some z => exact ⟨z.1, z.2, rfl⟩
theorem its_zero {n : Nat} : ∀ {q k : Nat}, its (List.replicate n 0) q (k + 1) = 0 := fun {q k} => by
  show (List.replicate n 0).getD _ 0 = 0
  rw [List.getD_eq_getElem?_getD]
  by_cases h : its (List.replicate n 0) q k < n
  · rw [List.getElem?_replicate, if_pos h]
    rfl
  · rw [List.getElem?_eq_none (by rw [List.length_replicate]; omega)]
    rfl
theorem turned_zero {n : Nat} : turned (List.replicate n 0) = none := by
  unfold turned
  rw [List.find?_eq_none]
  intro q _
  by_cases h : q = 0
  · subst h
    rw [turnedB_one (its_zero (k := 0))]
    decide
  · rw [turnedB_no fun j h1 _ => by
      obtain ⟨k, rfl⟩ : ∃ k, j = k + 1 := ⟨j - 1, by omega⟩
      rw [its_zero]
      exact fun e => h e.symm]
    decide
theorem turned_id {n : Nat} : turned (List.range n) = none := by
  unfold turned
  rw [List.find?_eq_none]
  intro q hq
  have hq : q < n := by
    have := List.mem_range.mp hq
    rwa [List.length_range] at this
  rw [turnedB_one (by
    show (List.range n).getD q 0 = q
    rw [List.getD_eq_getElem?_getD, List.getElem?_range hq]
    rfl)]
  decide
theorem goes_zero {n m : Nat} {x : Str} : ∀ (cs : List Nat) (q c : Nat), goes (List.replicate n (List.replicate m 0)) x q (c :: cs) = 0
  | [], q, c => by
    show ((List.replicate n (List.replicate m 0)).getD q []).getD _ 0 = 0
    rw [List.getD_eq_getElem?_getD (l := List.replicate n (List.replicate m 0))]
    by_cases h : q < n
    · rw [List.getElem?_replicate, if_pos h]
      show (List.replicate m 0).getD _ 0 = 0
      rw [List.getD_eq_getElem?_getD]
      by_cases h2 : x.cps.toList.idxOf c < m
      · rw [List.getElem?_replicate, if_pos h2]
        rfl
      · rw [List.getElem?_eq_none (by rw [List.length_replicate]; omega)]
        rfl
    · rw [List.getElem?_eq_none (by rw [List.length_replicate]; omega)]
      rfl
  | d :: cs, q, c => goes_zero cs _ d
theorem zero_calm {n m : Nat} {x : Str} (R : RightB x (List.replicate n (List.replicate m 0)) m) : calm x (List.replicate n (List.replicate m 0)) = true := by
  cases e : calm x (List.replicate n (List.replicate m 0)) with
  | true => rfl
  | false =>
    obtain ⟨y, q, h⟩ := calm_some e
    obtain ⟨_, h2, _⟩ := among_spec R h
    unfold hasTurn at h2
    have ea : act (List.replicate n (List.replicate m 0)) x y.cps.toList = List.range n ∨ act (List.replicate n (List.replicate m 0)) x y.cps.toList = List.replicate n 0 := by
      unfold act
      rw [List.length_replicate]
      cases y.cps.toList with
      | nil =>
        left
        have : ∀ q ∈ List.range n, goes (List.replicate n (List.replicate m 0)) x q [] = q := fun q _ => rfl
        rw [List.map_congr_left this]
        exact List.map_id _
      | cons c cs =>
        right
        have : ∀ q ∈ List.range n, goes (List.replicate n (List.replicate m 0)) x q (c :: cs) = 0 := fun q _ => goes_zero cs q c
        rw [List.map_congr_left this]
        rw [List.map_const', List.length_range]
    rcases ea with ea | ea
    · rw [ea, turned_id] at h2
      cases h2
    · rw [ea, turned_zero] at h2
      cases h2
theorem zeros_row {n m : Nat} (h : 1 ≤ n) : ∀ k, List.replicate k 0 ∈ rowsN n k
  | 0 => List.mem_cons_self
  | k + 1 => List.mem_flatMap.mpr ⟨_, zeros_row (m := m) h k, List.mem_map.mpr ⟨0, List.mem_range.mpr h, by rw [List.replicate_succ']⟩⟩
theorem zeros_tab {R : List (List Nat)} {r : List Nat} (h : r ∈ R) : ∀ k, List.replicate k r ∈ tabsN R k
  | 0 => List.mem_cons_self
  | k + 1 => List.mem_flatMap.mpr ⟨_, zeros_tab h k, List.mem_map.mpr ⟨r, h, by rw [List.replicate_succ']⟩⟩
theorem calm_ex {n m : Nat} {x : Str} (st : IsSet x m) (m1 : 1 ≤ m) (m2 : m ≤ 2) (n1 : 1 ≤ n) (n3 : n ≤ 3) : 1 ≤ (allT n m).countP (calm x) := by
  have mem : List.replicate n (List.replicate m 0) ∈ allT n m := zeros_tab (zeros_row (m := m) n1 m) n
  obtain ⟨l, tb⟩ := allT_tab mem
  refine List.countP_pos_iff.mpr ⟨_, mem, zero_calm ⟨st, m1, m2, by rw [l]; exact tb, by omega, by omega⟩⟩
theorem count1 : (allT 1 1).countP (calm "a") = 1 := by decide +kernel
theorem count2 : (allT 2 1).countP (calm "a") = 3 := by decide +kernel
theorem count3 : (allT 3 1).countP (calm "a") = 16 := by decide +kernel
theorem set_a : IsSet "a" 1 := ⟨[97], by decide +kernel, rfl, by decide, by decide⟩
theorem right_of {n m : Nat} {x : Str} {t : List (List Nat)} (st : IsSet x m) (m1 : 1 ≤ m) (m2 : m ≤ 2) (n1 : 1 ≤ n) (n3 : n ≤ 3) (h : t ∈ allT n m) : RightB x t m := by
  obtain ⟨l, tb⟩ := allT_tab h
  exact ⟨st, m1, m2, by rw [l]; exact tb, by omega, by omega⟩
/-- all stays but lists in N -/
structure Keep (N : Addr → Prop) (H H' : Hp) : Prop where
  k : ∀ b o, ¬ N b → H b = some o → (∀ ps, o ≠ .tbl ps) → H' b = some o
  l : ∀ b o, N b → H b = some o → ∃ us, o = .lst us
theorem sqt_keep {K : PySem.W.Frag} {N : Addr → Prop} {H H' : Hp} {a : Addr} {xs : List V} (s : Keep N H H') (h : SqT K H a xs) : SqT K H' a xs := by
  rcases h with (h | ⟨u, h⟩) | h
  · exact .inl (.inl (s.k _ _ (fun n => by obtain ⟨_, e⟩ := s.l _ _ n h; cases e) h (fun ps e => by cases e)))
  · exact .inl (.inr ⟨u, s.k _ _ (fun n => by obtain ⟨_, e⟩ := s.l _ _ n h; cases e) h (fun ps e => by cases e)⟩)
  · exact .inr h
/-- a table as a list, and its box -/
def PrOK (K : PySem.W.Frag) (C : Addr) (N : Addr → Prop) (x : Str) (m : Nat) (H : Hp) (v : V) : Prop := ∃ (z l b : Addr) (vs : List V) (t : List (List Nat)), v = .ref z ∧ SqT K H z [.ref l, .ref b] ∧ ¬ N l ∧ H l = some (.lst vs) ∧ Tups K H vs t ∧ BoxAt K C H b x t ∧ RightB x t m ∧ among (bfs t x 256) = none
theorem PrOK.keep {K : PySem.W.Frag} {C : Addr} {N : Addr → Prop} {x : Str} {m : Nat} {H H' : Hp} {v : V} (h : PrOK K C N x m H v) (s : Keep N H H') : PrOK K C N x m H' v := by
  obtain ⟨z, l, b, vs, t, e, h1, h2, h3, h4, ⟨dx, a, us, b1, b2, b3⟩, h6, h7⟩ := h
  refine ⟨z, l, b, vs, t, e, sqt_keep s h1, h2, s.k _ _ h2 h3 (fun ps e => by cases e), ⟨h4.1, fun i r e => ?_⟩, ⟨dx, a, us, s.k _ _ (fun n => by obtain ⟨_, e⟩ := s.l _ _ n b1; cases e) b1 (fun ps e => by cases e), sqt_keep s b2, b3.1, fun i r e => ?_⟩, h6, h7⟩
  · obtain ⟨c, c1, c2⟩ := h4.2 i r e
    exact ⟨c, c1, sqt_keep s c2⟩
  · obtain ⟨c, c1, c2⟩ := b3.2 i r e
    exact ⟨c, c1, sqt_keep s c2⟩
theorem PrOK.ext {K : PySem.W.Frag} {C : Addr} {N : Addr → Prop} {T : List NTab} {x : Str} {m : Nat} {H H' : Hp} {v : V} (h : PrOK K C N x m H v) (l : ∀ b o, N b → H b = some o → ∃ us, o = .lst us) (e : Ext T H H') : PrOK K C N x m H' v := h.keep ⟨fun b o _ h n => e.ext b o h n, l⟩
theorem ite_45 {c : Prop} [Decidable c] {σ : L2.St} {H : Hp} {Q' : VK} (h : ∀ n : Nat, 4 ≤ n → n ≤ 5 → Q' (.int (n : Nat)) H) : if c then tC (.int 5) σ H Q' else tC (.int 4) σ H Q' := by
  split
  · exact h 5 (by decide) (by decide)
  · exact h 4 (by decide) (by decide)
theorem shaped_yq {y : Str} {q : Int} (h : PyData.strOk y = true) : SeqAt.shaped (.tuple [.str y, .int q]) = true := by
  unfold SeqAt.shaped
  have h1 : (PyData.tuple [.str y, .int q]).canLay0 = true := by
    simp only [PyData.canLay0, PyData.canLayAll0, h, Bool.and_self]
  have h2 : (PyData.tuple [.str y, .int q]).depth ≤ 64 := by
    simp only [PyData.depth, PyData.depthAll]
    decide
  rw [h1, decide_eq_true h2]
  rfl
theorem eqv_yq {y : Str} {q : Int} : (PyData.tuple [.str y, .int q]).eqv (.tuple [.str y, .int q]) = true := by
  rw [PyData.eqv]
  simp [PyData.eqvAll, PyData.eqv]
theorem one_three : ∀ n : Nat, n ≤ 63 → ∀ m : Int, m = (if (if (n : Int) < 3 then (n : Int) else 3) > 1 then (if (n : Int) < 3 then (n : Int) else 3) else 1) → 1 ≤ m ∧ m ≤ 3 := fun n hn m hm => by
  rw [hm]
  by_cases h8 : (n : Int) < 3
  · rw [if_pos h8]
    by_cases h1 : (n : Int) > 1
    · rw [if_pos h1]
      omega
    · rw [if_neg h1]
      omega
  · rw [if_neg h8]
    decide
def spLaw (K : PySem.W.Frag) (T : List NTab) : Sp := fun vs H Q _ => ∃ (a : Addr) (ns : List Int), vs = [.ref a] ∧ TabsN T H ∧ SqL K H a (ns.map V.int) ∧ ns.length ≤ 63 ∧ ∀ H', Q (.bl true) H'
section
variable {P : Program} {w : World} {K : PySem.W.Frag} {mg : Str → Option Value} {base : Heap} {C : Addr} {T : List NTab}
theorem ok_law {f : Addr} {fd : FuncData} (F : Fun K "law" "law" sLaw f fd)
    (cD : FnC P w K mg base 1 "_law_dice" ["script", "at"] (spDice K)) (cR : FnC P w K mg base 1 "_law_roll" ["dice", "total"] spDraw) (cL : FnC P w K mg base 3 "_law_letters" ["dice", "total"] spLetters)
    (cW : FnC P w K mg base 1 "_law_short_words" ["letters", "most"] spShort) (cT : FnC P w K mg base 1 "_law_all_tables" ["total", "letters"] spAllTabs) (cF : FnC P w K mg base 2 "_law_first_turn" ["table", "letters"] (spFirstT K))
    (cB : FnC P w K mg base 6 "_law_told_box" ["letters", "table"] (spToldBox K C)) (cO : FnC P w K mg base 2 "_law_one_of" ["dice", "items"] (spOneOf K)) (cQ : FnC P w K mg base 8 "_law_one_right" ["letters", "table", "box", "words"] (spOneRight K T C)) (cP : FnC P w K mg base 8 "_law_pair_right" ["one", "other", "words"] (spPairRight K C))
    (TB : TxB K mg C) (TO : TxOB K C) (mC : mg "Box" = some (.ref C)) (W : TxW mg) (M : TxM mg) (TL : TxL mg) :
    FnOk P w K mg base CX0 9 f fd ["script"] (spLaw K T) := by
  refine F.ok scLaw (fun vs H Q E h => ?_) (fun cdv A outer s H vs Q E hr h => ?_)
  · obtain ⟨a, ns, rfl, _⟩ := h
    rfl
  · obtain ⟨a, ns, rfl, tabs, ha, hl, k⟩ := h
    have hu := hu_of hr
    have hr8 : Room 8 _ := hr.mono (by decide)
    have hr6 : Room 6 _ := hr.mono (by decide)
    have hr3 : Room 3 _ := hr.mono (by decide)
    have hr2 : Room 2 _ := hr.mono (by decide)
    have hr1 : Room 1 _ := hr.mono (by decide)
    refine ⟨_, (pss_cons (ps_for PassesOwn.never rfl (pi_range1 rfl M.range (pa_cons (pe_callB (call_max2 rfl) (by rfl) TL.max (by decide +kernel) (pa_cons pe_int (pa_cons (pe_callB (call_min2 rfl) (by rfl) TL.min (by decide +kernel) (pa_cons pe_int (pa_cons (pe_callB call_len_seq (by rfl) M.len PySem.boot_len (pa_cons (pv 0) pa_nil)) pa_nil))) pa_nil))) pa_nil)) (pg_name (i := 1) scLaw.nd rfl (Or.inl rfl))
          (pss_cons (ps_set (i := 2) scLaw.nd rfl (Or.inr rfl) (pe_call cD.G hr1 rfl cD.m cD.kp cD.b .nil pass0 (pa_cons (pv 0) (pa_cons (pv 1) pa_nil))))
        (pss_cons (ps_set (i := 3) scLaw.nd rfl (Or.inr rfl) (pe_call cL.G hr3 rfl cL.m cL.kp cL.b .nil pass0 (pa_cons (pv 2) (pa_cons (pe_op op_add pe_int (pe_call cR.G hr1 rfl cR.m cR.kp cR.b .nil pass0 (pa_cons (pv 2) (pa_cons pe_int pa_nil)))) pa_nil))))
        (pss_cons (ps_asg (pe_tup (pa_cons (pe_op op_add pe_int (pe_call cR.G hr1 rfl cR.m cR.kp cR.b .nil pass0 (pa_cons (pv 2) (pa_cons pe_int pa_nil)))) (pa_cons (pe_lst pa_nil) pa_nil))) (pg_tup rfl (pgs_cons (pg_name (i := 4) scLaw.nd rfl (Or.inl rfl)) (pgs_cons (pg_name (i := 5) scLaw.nd rfl (Or.inr rfl)) pgs_nil))))
        (pss_cons (ps_set (i := 6) scLaw.nd rfl (Or.inr rfl) (pe_call cW.G hr1 rfl cW.m cW.kp cW.b .nil pass0 (pa_cons (pv 3) (pa_cons (pe_ifExp (pt_cmpR op_eq (pe_callB call_len_str (by rfl) M.len PySem.boot_len (pa_cons (pv 3) pa_nil)) pe_int (nomark _)) pe_int pe_int) pa_nil))))
        (pss_cons (ps_for PassesOwn.never rfl (pi_list (pe_call cT.G hr1 rfl cT.m cT.kp cT.b .nil pass0 (pa_cons (pv 4) (pa_cons (pv 3) pa_nil)))) (pg_name (i := 7) scLaw.nd rfl (Or.inl rfl))
          (pss_cons (ps_par (i := 8) (j := 9) (by rfl) scLaw.nd rfl rfl (by decide) rfl rfl (pa_cons (pe_call cF.G hr2 rfl cF.m cF.kp cF.b .nil pass0 (pa_cons (pv 7) (pa_cons (pv 3) pa_nil))) (pa_cons (pe_call cB.G hr6 rfl cB.m cB.kp cB.b .nil pass0 (pa_cons (pv 3) (pa_cons (pv 7) pa_nil))) pa_nil)) (by rfl))
        (pss_cons (ps_if (PW.pt (pw_or (PW.pt (pw_and (pt_cmpR op_notN (pv 8) pe_non (nomark _)) (pw_and1 (pt_cmpR (op_neD hr.units) (pv 9) (pv 8) (nomark _))))) (pw_or1 (PW.pt (pw_and (pt_cmpR op_isN (pv 8) pe_non (nomark _)) (pw_and1 (pt_not (pt_val (pe_callB call_isi (by rfl) W.isi (by decide +kernel) (pa_cons (pv 9) (pa_cons (pe_glob (v := .ref C) rfl mC rfl) pa_nil))))))))))) (pss_one (ps_ret pe_bl)) pss_nil)
        (pss_one (ps_expr (pe_bm PySem.F.plainAttrs_list PySem.F.slot_list_extend PySem.F.type_list_extend mt_extend (pv 5) (pa_cons (pe_ifExp (pt_cmpR op_isN (pv 8) pe_non (nomark _)) (pe_lst (pa_cons (pe_tup (pa_cons (pv 7) (pa_cons (pv 9) pa_nil))) pa_nil)) (pe_lst pa_nil)) pa_nil)))))))
        (pss_cons (ps_setLc (i := 10) (own := [("turn", 11)]) (g := gName 11) (tt := tYes) rfl scLaw.nd rfl rfl (by rfl) (pi_range1 rfl M.range (pa_cons pe_int pa_nil)) (blkOk_by (N := nLaw) (sc := defScope sLaw) (by decide +kernel)) (fun _ _ _ _ _ => pg_name (i := 11) scLaw.nd rfl (Or.inl rfl))
            (fun _ _ _ _ _ => pts_nil) (fun _ _ _ _ _ => (pe_call cO.G hr2 rfl cO.m cO.kp cO.b .nil pass0 (pa_cons (pv 2) (pa_cons (pv 5) pa_nil)))))
        (pss_cons (ps_if (pt_cmpR (op_neD hr.units) (pe_lc (own := [("pair", 12)]) (g := gName 12) (tt := tNot (tTest (tCall (spOneRight K T C) [] E0 (tCons (tVar 3) (tCons (tOp (rIxT K) (tVar 12) (tC (.int 0))) (tCons (tOp (rIxT K) (tVar 12) (tC (.int 1))) (tCons (tVar 6) tNil))))))) (te := tVar 12) rfl scLaw.nd (pi_list (pv 10)) (blkOk_by (N := nLaw) (sc := defScope sLaw) (by decide +kernel)) (fun _ _ _ _ _ => pg_name (i := 12) scLaw.nd rfl (Or.inl rfl))
            (fun _ _ _ _ _ => pts_one (pt_not (pt_val (pe_call cQ.G hr8 rfl cQ.m cQ.kp cQ.b .nil pass0 (pa_cons (pv 3) (pa_cons (pe_ix ix_tup (pv 12) pe_int (fun _ _ => rfl)) (pa_cons (pe_ix ix_tup (pv 12) pe_int (fun _ _ => rfl)) (pa_cons (pv 6) pa_nil)))))))) (fun _ _ _ _ _ => pv 12)) (pe_lst pa_nil) (nomark _)) (pss_one (ps_ret pe_bl)) pss_nil)
        (pss_one (ps_for PassesOwn.never rfl (pi_range1 rfl M.range (pa_cons pe_int pa_nil)) (pg_name (i := 11) scLaw.nd rfl (Or.inl rfl))
          (pss_one (ps_if (pt_not (pt_val (pe_call cP.G hr8 rfl cP.m cP.kp cP.b .nil pass0 (pa_cons (pe_ix ix_tup (pe_ix ix_list (pv 10) (pv 11) (fun _ _ => rfl)) pe_int (fun _ _ => rfl)) (pa_cons (pe_ix ix_tup (pe_ix ix_list (pv 10) (pe_op op_add (pv 11) pe_int) (fun _ _ => rfl)) pe_int (fun _ _ => rfl)) (pa_cons (pv 6) pa_nil)))))) (pss_one (ps_ret pe_bl)) pss_nil))))))))))))
        (pss_cons (ps_set (i := 9) scLaw.nd rfl (Or.inl rfl) (pe_lst pa_nil))
        (pss_cons (ps_for PassesOwn.never rfl (pi_tup (pe_tup (pa_cons pe_int (pa_cons pe_int (pa_cons pe_int pa_nil))))) (pg_name (i := 4) scLaw.nd rfl (Or.inl rfl))
          (pss_one (ps_expr (pe_bm PySem.F.plainAttrs_list PySem.F.slot_list_append PySem.F.type_list_append mt_append (pv 9) (pa_cons (pe_callB call_len_seq (by rfl) M.len PySem.boot_len (pa_cons (pe_lc (own := [("table", 7)]) (g := gName 7) (tt := tTest (tCB (rIsi K) (tCons (tCall (spToldBox K C) [] E0 (tCons (tC (.str "a")) (tCons (tVar 7) tNil))) (tCons (tC (.ref C)) tNil)))) (te := tC (.int 1)) rfl scLaw.nd (pi_list (pe_call cT.G hr1 rfl cT.m cT.kp cT.b .nil pass0 (pa_cons (pv 4) (pa_cons pe_str pa_nil)))) (blkOk_by (N := nLaw) (sc := defScope sLaw) (by decide +kernel)) (fun _ _ _ _ _ => pg_name (i := 7) scLaw.nd rfl (Or.inl rfl))
            (fun _ _ _ _ _ => pts_one (pt_val (pe_callB call_isi (by rfl) W.isi (by decide +kernel) (pa_cons (pe_call cB.G hr6 rfl cB.m cB.kp cB.b .nil pass0 (pa_cons pe_str (pa_cons (pv 7) pa_nil))) (pa_cons (pe_glob (v := .ref C) rfl mC rfl) pa_nil))))) (fun _ _ _ _ _ => pe_int)) pa_nil)) pa_nil)))))
        (pss_one (ps_ret (pe_cmpR (op_eqD hr.units) (pv 9) (pe_lst (pa_cons pe_int (pa_cons pe_int (pa_cons pe_int pa_nil)))) (nomark _))))))), ?_⟩
    have sz : (1000 : Nat) < sizeLine := by decide
    refine ⟨_, rfl, a, _, rfl, .inl ha, _, _, rfl, _, _, rfl, ?_⟩
    have ln : (ns.map V.int).length = ns.length := List.length_map _
    rw [ln]
    have lb := one_three _ hl _ rfl
    generalize (if (if (ns.length : Int) < 3 then (ns.length : Int) else 3) > 1 then (if (ns.length : Int) < 3 then (ns.length : Int) else 3) else 1) = mm at lb ⊢
    refine ⟨mm, rfl, by omega, by omega, for_range (lo := 0) (n := mm.toNat) (fun i σ H' => (∃ v1 v2 v3 v4 v5 v6 v7 v8 v9 v10 v11 : Option V, σ = [some (.ref a), v1, v2, v3, v4, v5, v6, v7, v8, v9, v10, v11, none]) ∧ Ext T H H') ⟨⟨_, _, _, _, _, _, _, _, _, _, _, rfl⟩, Ext.refl tabs⟩ ?_ ?_⟩
    · rintro i σ H1 hi ⟨⟨v1, v2, v3, v4, v5, v6, v7, v8, v9, v10, v11, rfl⟩, e1⟩
      refine ⟨_, rfl, _, rfl, a, ns, _, rfl, sql_ext e1.ext ha, by omega, hl, fun d l0 q0 nd l00 q00 => ?_⟩
      have Z2 : Dz (upd H1 d (.lst [.int l0, .int q0, .int 0])) d := ⟨l0, q0, 0, upd_same, l00, q00, by decide⟩
      have e2 : Ext T H1 (upd H1 d (.lst [.int l0, .int q0, .int 0])) := Ext.of e1.tab (Same.new (Same.refl H1) nd)
      generalize upd H1 d (.lst [.int l0, .int q0, .int 0]) = H2 at Z2 e2 ⊢
      refine ⟨_, rfl, _, rfl, d, 2, rfl, Z2, by decide, by decide, fun r H3 rn Z3 S3 => ⟨_, _, rfl, rfl, ?_⟩⟩
      have er : [V.ref d, V.int (1 + (r : Int))] = [V.ref d, V.int ((1 + r : Nat) : Int)] := by rw [show ((1 + r : Nat) : Int) = 1 + (r : Int) by omega]
      refine ⟨d, 1 + r, er, Z3, by omega, by omega, fun x H4 hx Z4 S4 => ?_⟩
      generalize hm : 1 + r = m at hx
      have m1 : 1 ≤ m := by omega
      have m2 : m ≤ 2 := by omega
      have lx := set_len hx
      have S : Stl T d H2 H4 := Stl.of e2.tab Z2 Z4 (S3.trans S4)
      clear er S3 S4 Z3
      refine ⟨_, rfl, d, 3, rfl, Z4, by decide, by decide, fun r2 H5 r2n Z5 S5 => ⟨_, _, rfl, rfl, ?_⟩⟩
      have S := S.still Z4 Z5 S5
      clear S5 Z4
      refine ⟨(by show 0 ≤ sizeLine; omega), fun Bx nB => ⟨(by show 2 ≤ sizeLine; omega), fun Zt nZ => ⟨Zt, _, rfl, SqT.of upd_same, rfl, _, _, rfl, _, _, rfl, rfl, ?_⟩⟩⟩
      have hB6 := keep_new (u := .tup [.int (1 + (r2 : Int)), .ref Bx]) (upd_same (H := H5) (a := Bx) (o := .lst [])) nZ
      have s6 : Same H5 (upd (upd H5 Bx (.lst [])) Zt (.tup [.int (1 + (r2 : Int)), .ref Bx])) := Same.new (Same.new (Same.refl H5) nB) nZ
      have dB : Bx ≠ d := Z5.not nB
      generalize upd (upd H5 Bx (.lst [])) Zt (.tup [.int (1 + (r2 : Int)), .ref Bx]) = H6 at hB6 s6 ⊢
      have Z6 := same_dz' s6 Z5
      refine ⟨_, rfl, _, rfl, x, rfl, Nat.le_trans (show x.length ≤ 2 by omega) (by decide), rfl, _, rfl, ite_45 fun n n4 n5 => ?_⟩
      refine ⟨x, n, rfl, by omega, n5, fun Wd H7 hW nW s7 => ?_⟩
      have et : [V.int (1 + (r2 : Int)), V.str x] = [V.int ((1 + r2 : Nat) : Int), V.str x] := by rw [show ((1 + r2 : Nat) : Int) = 1 + (r2 : Int) by omega]
      refine ⟨_, rfl, _, rfl, 1 + r2, x, et, by omega, by omega, fun A0 us H8 hA nA TT s8 => ?_⟩
      rw [lx] at TT
      generalize htt : 1 + r2 = tt at TT
      have n1 : 1 ≤ tt := by omega
      have n3 : tt ≤ 3 := by omega
      have s78 := s7.trans s8
      have hB8 := s78 _ _ hB6
      have Z8 := same_dz' s78 Z6
      have hW8 := s8 _ _ hW
      have AB : A0 ≠ Bx := fun e => by rw [e] at nA; have := s7 _ _ hB6; rw [nA] at this; cases this
      have lt : ∀ t ∈ allT tt m, RightB x t m := fun t h => right_of hx m1 m2 n1 n3 h
      have tbl : ∀ (j : Nat) (t : List (List Nat)), (allT tt m)[j]? = some t → ∃ (l : Addr) (vs : List V), us[j]? = some (.ref l) ∧ l ≠ d ∧ l ≠ Bx ∧ H8 l = some (.lst vs) ∧ RowsA H8 vs t := fun j t h => by
        obtain ⟨l, vs, h1, _, h3, h4⟩ := TT.2 j t h
        have R := lt t (List.mem_of_getElem? h)
        have t1 := R.t1
        obtain ⟨b, b1, _⟩ := h4.2 0 _ (List.getElem?_eq_getElem (by omega))
        refine ⟨l, vs, h1, fun e => ?_, fun e => ?_, h3, h4⟩
        · obtain ⟨_, _, _, hd, _⟩ := Z8
          rw [e, hd] at h3
          cases h3
          cases b1
        · rw [e, hB8] at h3
          cases h3
          cases b1
      have Sb : Stl T Bx H5 H8 := Stl.ofE (Ext.of S.tab (s6.trans s78))
      refine ⟨A0, rfl, ⟨_, SqL.of hA⟩, ?_⟩
      refine for_list (K := K) (a := A0) (xs := us) (fun j σ H' => ∃ (prs : List V) (v7 v8 v9 v10 v11 : Option V), σ = [some (.ref a), some (.int (0 + (i : Int))), some (.ref d), some (.str x), some (.int (1 + (r2 : Int))), some (.ref Bx), some (.ref Wd), v7, v8, v9, v10, v11, none] ∧ H' Bx = some (.lst prs) ∧ prs.length = ((allT tt m).take j).countP (calm x) ∧ (∀ v ∈ prs, PrOK K C (fun l => l = d ∨ l = Bx) x m H' v) ∧ (∀ b o, b ≠ Bx → H8 b = some o → H' b = some o) ∧ Stl T Bx H5 H')
        ⟨[], _, _, _, _, _, rfl, hB8, by rw [List.take_zero]; rfl, (fun v hv => by cases hv), fun b o _ h => h, Sb⟩ (fun j σ H' _ h => ?_) ?_ ?_
      · obtain ⟨_, _, _, _, _, _, _, _, _, _, kp, _⟩ := h
        exact SqL.of (kp _ _ AB hA)
      · rintro j v σ H9 hv ⟨prs, v7, v8, v9, v10, v11, rfl, hB9, lp, ok, kp, Sb⟩
        have hj : j < (allT tt m).length := by
          have := (List.getElem?_eq_some_iff.mp hv).1
          rw [TT.1] at this
          exact this
        have hw : (allT tt m)[j]? = some (allT tt m)[j] := List.getElem?_eq_getElem hj
        generalize (allT tt m)[j] = t at hw
        obtain ⟨l, vs, l1, ld, lB, l3, l4⟩ := tbl j t hw
        rw [l1] at hv
        cases hv
        have R := lt t (List.mem_of_getElem? hw)
        have hl9 := kp _ _ lB l3
        have l49 : RowsA H9 vs t := l4.to fun b ys h => kp _ _ (ne_of h hB8 (fun z => by cases z)) h
        refine ⟨_, rfl, _, rfl, l, x, vs, t, m, rfl, SqL.of hl9, l49.tups, R, fun v1 H10 tv s10 => ?_⟩
        have l410 : RowsA H10 vs t := l49.to fun b ys h => s10 _ _ h
        have hl10 := s10 _ _ hl9
        have take1 := take_snoc hw
        have cnt : ((allT tt m).take (j + 1)).countP (calm x) = ((allT tt m).take j).countP (calm x) + (if calm x t then 1 else 0) := by
          rw [take1, List.countP_append]
          congr 1
          rw [List.countP_cons, List.countP_nil, Nat.zero_add]
        have few : ((allT tt m).take j).countP (calm x) ≤ 729 := by
          have h1 := List.countP_le_length (p := calm x) (l := (allT tt m).take j)
          have h2 : (allT tt m).length ≤ 729 := by
            unfold allT
            rw [tabsN_len, rowsN_len]
            have a1 : tt ^ m ≤ 9 := Nat.le_trans (Nat.pow_le_pow_left n3 m) (Nat.le_trans (Nat.pow_le_pow_right (by decide) m2) (by decide))
            exact Nat.le_trans (Nat.pow_le_pow_left a1 tt) (Nat.le_trans (Nat.pow_le_pow_right (by decide) n3) (by decide))
          rw [List.length_take] at h1
          omega
        refine ⟨_, rfl, _, rfl, l, x, vs, t, m, rfl, SqL.of hl10, l410.tups, R, fun hn b H11 nb B11 s11 => ⟨_, _, rfl, ?_⟩, fun y q e TT' H11 hT s11 => ⟨_, _, rfl, ?_⟩⟩
        · -- it never turns: a box
          have hv1 : v1 = .non := by
            rw [hn] at tv
            exact tv
          subst hv1
          have s911 := s10.trans s11
          obtain ⟨db, ab, ub, b1, b2, b3⟩ := id B11
          refine ⟨_, rfl, rfl, _, rfl, ?_⟩
          rw [ne_not rfl]
          refine iteF ?_
          refine iteF ?_
          refine ⟨_, rfl, rfl, _, rfl, ?_⟩
          rw [decide_eq_true rfl]
          refine iteT ?_
          refine ⟨_, rfl, .ref b, .ref C, .ref C, .ref C, true, rfl, .own C, .base (.ins b1 TB.cl TO.ha TO.hn TO.tk TO.hm), TO.kc, _, rfl, ?_⟩
          refine iteF ?_
          have hB11 := s911 _ _ hB9
          refine ⟨_, rfl, .inl ⟨rfl, _, SqL.of hB11⟩, _, rfl, rfl, _, rfl, ?_⟩
          rw [decide_eq_true rfl]
          refine iteT ?_
          refine ⟨_, rfl, _, rfl, (by show 2 ≤ sizeLine; omega), fun Zp nZp => ⟨(by show 1 ≤ sizeLine; omega), fun D nD => ?_⟩⟩
          have hZ12 := keep_new (u := .lst [.ref Zp]) (upd_same (H := H11) (a := Zp) (o := .tup [.ref l, .ref b])) nD
          have hD12 := upd_same (H := upd H11 Zp (.tup [.ref l, .ref b])) (a := D) (o := .lst [.ref Zp])
          have s12 : Same H11 (upd (upd H11 Zp (.tup [.ref l, .ref b])) D (.lst [.ref Zp])) := Same.new (Same.new (Same.refl H11) nZp) nD
          generalize upd (upd H11 Zp (.tup [.ref l, .ref b])) D (.lst [.ref Zp]) = H12 at hZ12 hD12 s12 ⊢
          have s912 := s911.trans s12
          have hB12 := s12 _ _ hB11
          refine ⟨Bx, D, _, _, rfl, rfl, hB12, hD12, (by show prs.length + 1 ≤ sizeLine; omega), ?_⟩
          have KP : Keep (fun l => l = d ∨ l = Bx) H12 (upd H12 Bx (.lst (prs ++ [.ref Zp]))) := ⟨fun b' o nb' h _ => by rw [upd_ne (fun e => nb' (.inr e))]; exact h, fun b' o nb' h => by
            rcases nb' with e | e
            · obtain ⟨_, _, _, hd, _⟩ := Z8
              have := s912 _ _ (kp _ _ (Ne.symm dB) hd)
              rw [e, this] at h
              exact ⟨_, (Option.some.inj h).symm⟩
            · rw [e, hB12] at h
              exact ⟨_, (Option.some.inj h).symm⟩⟩
          have ok12 : ∀ {v : V}, PrOK K C (fun l => l = d ∨ l = Bx) x m H9 v → PrOK K C (fun l => l = d ∨ l = Bx) x m H12 v := fun h => h.keep ⟨fun b' o _ h _ => s912 _ _ h, fun b' o nb' h => KP.l b' o nb' (s912 _ _ h)⟩
          refine ⟨prs ++ [.ref Zp], _, _, _, _, _, rfl, upd_same, ?_, fun v hv => ?_, fun b' o hb' h => ?_, ?_⟩
          · rw [cnt, List.length_append, lp]
            have : calm x t = true := by
              unfold calm
              rw [hn]
              rfl
            rw [if_pos this]
            rfl
          · rcases List.mem_append.mp hv with hv | hv
            · exact (ok12 (ok v hv)).keep KP
            · rw [List.mem_singleton.mp hv]
              have l412 : RowsA H12 vs t := l410.to fun b ys h => s12 _ _ (s11 _ _ h)
              exact PrOK.keep ⟨Zp, l, b, vs, t, rfl, SqT.of hZ12, (fun e => e.elim ld lB), s912 _ _ hl9, l412.tups, B11.same s12, R, hn⟩ KP
          · rw [upd_ne hb']
            exact s912 _ _ (kp b' o hb' h)
          · exact (Sb.same s912).put hB12
        · -- it turns: told so
          have s911 := s10.trans s11
          rw [e] at tv
          obtain ⟨T1, rfl, hT1⟩ := tv
          have hT1 := sqt_same s11 hT1
          have sp := shaped_yq (q := ((q : Nat) : Int)) (strok hx (among_spec R e).1)
          refine ⟨_, rfl, rfl, _, rfl, ?_⟩
          rw [decide_eq_false (show ¬ V.ref T1 = V.non by intro h; cases h)]
          refine iteT ?_
          refine ⟨_, rfl, _, rfl, .tuple [.str y, .int ((q : Nat) : Int)], .tuple [.str y, .int ((q : Nat) : Int)], .tup (SqT.of hT) (.cons (.str y) (.cons (.int _) .nil)), .tup hT1 (.cons (.str y) (.cons (.int _) .nil)), sp, sp, _, rfl, ?_⟩
          rw [eqv_yq]
          refine iteF ?_
          refine ⟨_, rfl, rfl, _, rfl, ?_⟩
          rw [decide_eq_false (show ¬ V.ref T1 = V.non by intro h; cases h)]
          refine iteF ?_
          refine iteF ?_
          have hB11 := s911 _ _ hB9
          refine ⟨_, rfl, .inl ⟨rfl, _, SqL.of hB11⟩, _, rfl, rfl, _, rfl, ?_⟩
          rw [decide_eq_false (show ¬ V.ref T1 = V.non by intro h; cases h)]
          refine iteF ?_
          refine ⟨(by show 0 ≤ sizeLine; omega), fun D nD => ?_⟩
          have hB12 := keep_new (u := .lst []) hB11 nD
          have s12 : Same H11 (upd H11 D (.lst [])) := Same.new (Same.refl H11) nD
          have hD12 := upd_same (H := H11) (a := D) (o := .lst [])
          generalize upd H11 D (.lst []) = H12 at hB12 s12 hD12 ⊢
          have s912 := s911.trans s12
          refine ⟨Bx, D, _, _, rfl, rfl, hB12, hD12, (by show prs.length + 0 ≤ sizeLine; omega), ?_⟩
          rw [List.append_nil]
          have KP : Keep (fun l => l = d ∨ l = Bx) H12 (upd H12 Bx (.lst prs)) := ⟨fun b' o nb' h _ => by rw [upd_ne (fun e => nb' (.inr e))]; exact h, fun b' o nb' h => by
            rcases nb' with e | e
            · obtain ⟨_, _, _, hd, _⟩ := Z8
              have := s912 _ _ (kp _ _ (Ne.symm dB) hd)
              rw [e, this] at h
              exact ⟨_, (Option.some.inj h).symm⟩
            · rw [e, hB12] at h
              exact ⟨_, (Option.some.inj h).symm⟩⟩
          refine ⟨prs, _, _, _, _, _, rfl, upd_same, ?_, fun v hv => ?_, fun b' o hb' h => ?_, ?_⟩
          · rw [cnt, lp]
            have : ¬ calm x t = true := by
              unfold calm
              rw [e]
              exact fun h => by cases h
            rw [if_neg this]
            rfl
          · exact ((ok v hv).keep ⟨fun b' o _ h _ => s912 _ _ h, fun b' o nb' h => KP.l b' o nb' (s912 _ _ h)⟩).keep KP
          · rw [upd_ne hb']
            exact s912 _ _ (kp b' o hb' h)
          · exact (Sb.same s912).put hB12
      · rintro σ H9 ⟨prs, v7, v8, v9, v10, v11, rfl, hB9, lp, ok, kp, Sb⟩
        rw [TT.1, List.take_length] at lp
        have cnt := calm_ex (x := x) hx m1 m2 n1 n3
        have tot : (allT tt m).length ≤ 729 := by
          unfold allT
          rw [tabsN_len, rowsN_len]
          have a1 : tt ^ m ≤ 9 := Nat.le_trans (Nat.pow_le_pow_left n3 m) (Nat.le_trans (Nat.pow_le_pow_right (by decide) m2) (by decide))
          exact Nat.le_trans (Nat.pow_le_pow_left a1 tt) (Nat.le_trans (Nat.pow_le_pow_right (by decide) n3) (by decide))
        have cle := List.countP_le_length (p := calm x) (l := allT tt m)
        have hd8 := id Z8
        have Z9 : Dz H9 d := by
          obtain ⟨u1, u2, u3, hd, hh⟩ := hd8
          exact ⟨u1, u2, u3, kp _ _ (Ne.symm dB) hd, hh⟩
        have hW9 : H9 Wd = some (.lst ((shortW x n).map V.str)) := kp _ _ (fun e => by rw [e, hB6] at nW; cases nW) hW8
        have eB : Ext T H5 H9 := Sb.one nB S.tab
        have S9 : Stl T d H2 H9 := S.trans (Stl.ofE eB)
        have NL : ∀ {H' : Hp}, Dz H' d → H' Bx = some (.lst prs) → ∀ b o, (b = d ∨ b = Bx) → H' b = some o → ∃ us, o = .lst us := fun {H'} Z h b o e q => by
          rcases e with e | e
          · obtain ⟨_, _, _, hd, _⟩ := Z
            rw [e, hd] at q
            exact ⟨_, (Option.some.inj q).symm⟩
          · rw [e, h] at q
            exact ⟨_, (Option.some.inj q).symm⟩
        refine ⟨8, rfl, by decide, by decide, fun G nG => ?_⟩
        have Gd : G ≠ d := Z9.not nG
        refine lc_it walk_range (fun j H' => ∃ vs : List V, H' G = some (.lst vs) ∧ vs.length = j ∧ (∀ v ∈ vs, v ∈ prs) ∧ Dz H' d ∧ ∀ b o, b ≠ G → b ≠ d → H9 b = some o → H' b = some o)
          ⟨[], upd_same, rfl, (fun v hv => by cases hv), Z9.new nG, fun b o hb _ h => keep_new h nG⟩ (fun _ _ _ _ => trivial) ?_ ?_
        · rintro j v H10z H10 hj ⟨vs, q1, q2, q3, q4, q5⟩ ⟨rfl, rfl⟩
          have hj : j < 8 := hj
          have hB10 := q5 _ _ (fun e => by rw [e, nG] at hB9; cases hB9) dB hB9
          refine ⟨rfl, tYes_if ?_⟩
          refine ⟨_, rfl, _, rfl, d, Bx, prs, rfl, q4, SqL.of hB10, dB, by omega, by omega, fun v H11 hv tu => ?_⟩
          have g11 : H11 G = some (.lst vs) := by
            rw [tu.ne Gd]
            exact q1
          refine ⟨vs, g11, by omega, vs ++ [v], upd_same, by rw [List.length_append, q2]; rfl, fun w hw => ?_, tu.dz.ne Gd, fun b o hb hd h => ?_⟩
          · rcases List.mem_append.mp hw with hw | hw
            · exact q3 w hw
            · rw [List.mem_singleton.mp hw]
              exact hv
          · rw [upd_ne hb, tu.ne hd]
            exact q5 b o hb hd h
        · rintro H10 ⟨vs, q1, q2, q3, Z10, q5⟩
          have q2 : vs.length = 8 := q2
          have st10 : Still d H9 H10 := fun b o hb h => q5 b o (fun e => by rw [e, nG] at h; cases h) hb h
          have S10 := S9.still Z9 Z10 st10
          have hB10 := st10 _ _ dB hB9
          have Wne : Wd ≠ d := Z6.not nW
          have hW10 := st10 _ _ Wne hW9
          have ok10 : ∀ v ∈ vs, PrOK K C (fun l => l = d ∨ l = Bx) x m H10 v := fun v hv => (ok v (q3 v hv)).keep ⟨fun b o nb h _ => st10 _ _ (fun e => nb (.inl e)) h, NL Z9 hB9⟩
          refine ⟨_, rfl, G, rfl, ⟨_, SqL.of q1⟩, fun G2 nG2 => ?_⟩
          have tab10 := S10.tab
          refine lc_list (K := K) (a := G) (xs := vs) (fun j H' => H' G2 = some (.lst (nts [])) ∧ Ext T H10 H')
            ⟨upd_same, Ext.of tab10 (Same.new (Same.refl H10) nG2)⟩ (fun j H' _ ⟨_, e⟩ => sql_ext e.ext (SqL.of q1)) ?_ ?_
          · rintro j v H11 hv ⟨g1, e11⟩
            obtain ⟨z, l, b, lv, t, rfl, hz, nl, hl, hT, B, R, no⟩ := (ok10 v (List.mem_of_getElem? hv)).ext (NL Z10 hB10) e11
            refine ⟨rfl, ?_⟩
            refine ⟨_, rfl, _, rfl, z, _, _, _, rfl, rfl, hz, rfl, _, rfl, z, _, _, _, rfl, rfl, hz, rfl, _, rfl, l, b, Wd, x, lv, t, m, n, rfl, SqL.of hl, hT, B, R, no, n4, n5, sql_ext e11.ext (SqL.of hW10), e11.tab, fun H12 e12 => ⟨_, rfl, ?_⟩⟩
            refine iteF ?_
            exact ⟨exn_at e12.ext g1, e11.trans e12⟩
          · rintro H11 ⟨g1, e11⟩
            refine ⟨(by show 0 ≤ sizeLine; omega), fun G3 nG3 => ?_⟩
            have g2 := keep_new (u := .lst []) g1 nG3
            have e12 : Ext T H10 (upd H11 G3 (.lst [])) := e11.trans (Ext.of e11.tab (Same.new (Same.refl H11) nG3))
            have g3 := upd_same (H := H11) (a := G3) (o := .lst [])
            generalize upd H11 G3 (.lst []) = H12 at g2 e12 g3 ⊢
            refine ⟨.list [], .list [], .lst (SqL.of g2) .nil, .lst (SqL.of g3) .nil, shaped_l0, shaped_l0, _, rfl, ?_⟩
            have e0 : (PyData.list []).eqv (.list []) = true := eqv_l0 []
            rw [e0]
            refine iteF ?_
            have hW12 := exn_at e12.ext hW10
            have vs12 := sql_ext e12.ext (SqL.of (K := K) q1)
            have ok12 : ∀ v ∈ vs, PrOK K C (fun l => l = d ∨ l = Bx) x m H12 v := fun v hv => (ok10 v hv).ext (NL Z10 hB10) e12
            have NL12 := NL (dz_ext e12.ext Z10) (exn_at e12.ext hB10)
            have E12 : Ext T H1 H12 := Stl.toE e2 (S10.trans (Stl.ofE e12)) nd
            refine ⟨4, rfl, by decide, by decide, for_range (lo := 0) (n := 4) (fun j σ H' => (∃ w7 w8 w9 w11 : Option V, σ = [some (.ref a), some (.int (0 + (i : Int))), some (.ref d), some (.str x), some (.int (1 + (r2 : Int))), some (.ref Bx), some (.ref Wd), w7, w8, w9, some (.ref G), w11, none]) ∧ Same H12 H') ⟨⟨_, _, _, _, rfl⟩, Same.refl H12⟩ ?_ ?_⟩
            · rintro j σ H13 hj ⟨⟨w7, w8, w9, w11, rfl⟩, s13⟩
              have x1 : vs[j]? = some vs[j] := List.getElem?_eq_getElem (by omega)
              have x2 : vs[j + 4]? = some vs[j + 4] := List.getElem?_eq_getElem (by omega)
              have hS := s13.seq vs12
              have a1 : atI vs (0 + (j : Int)) = some vs[j] := by rw [Int.zero_add]; exact atI_nat x1
              have a2 : atI vs (0 + (j : Int) + 4) = some vs[j + 4] := by rw [show (0 : Int) + (j : Int) + 4 = ((j + 4 : Nat) : Int) by omega]; exact atI_nat x2
              have o1 := (ok12 _ (List.mem_of_getElem? x1)).keep ⟨fun b o _ h _ => s13 b o h, NL12⟩
              have o2 := (ok12 _ (List.mem_of_getElem? x2)).keep ⟨fun b o _ h _ => s13 b o h, NL12⟩
              generalize vs[j] = p1 at a1 o1
              generalize vs[j + 4] = p2 at a2 o2
              obtain ⟨z1, l1, b1, lv1, t1, rfl, hz1, _, _, _, B1, R1, _⟩ := o1
              obtain ⟨z2, l2, b2, lv2, t2, rfl, hz2, _, _, _, B2, R2, _⟩ := o2
              refine ⟨_, rfl, _, rfl, G, vs, _, _, rfl, rfl, hS, a1, z1, _, _, _, rfl, rfl, hz1, rfl, _, rfl, _, rfl, _, _, rfl, rfl, G, vs, _, _, rfl, rfl, hS, a2, z2, _, _, _, rfl, rfl, hz2, rfl, _, rfl, b1, b2, Wd, x, t1, t2, m, n, rfl, B1, B2, R1, R2, n4, n5, s13 _ _ hW12, fun H14 s14 => ⟨_, rfl, iteF ⟨⟨_, _, _, _, rfl⟩, s13.trans s14⟩⟩⟩
            · rintro σ H13 ⟨⟨w7, w8, w9, w11, rfl⟩, s13⟩
              exact ⟨⟨_, _, _, _, _, _, _, _, _, _, _, rfl⟩, e1.trans (E12.same s13)⟩
    · rintro σ H1 ⟨⟨v1, v2, v3, v4, v5, v6, v7, v8, v9, v10, v11, rfl⟩, e1⟩
      refine ⟨(by show 0 ≤ sizeLine; omega), fun Tl nT => ?_⟩
      have hT1 := upd_same (H := H1) (a := Tl) (o := .lst [])
      generalize upd H1 Tl (.lst []) = H2 at hT1 ⊢
      refine ⟨(by show 3 ≤ sizeLine; omega), fun Zt nZ => ?_⟩
      have hT2 := keep_new (u := .tup [.int 1, .int 2, .int 3]) hT1 nZ
      have hZ2 := upd_same (H := H2) (a := Zt) (o := .tup [.int 1, .int 2, .int 3])
      generalize upd H2 Zt (.tup [.int 1, .int 2, .int 3]) = H3 at hT2 hZ2 ⊢
      have TZ : Zt ≠ Tl := ne_of hZ2 hT2 (fun z => by cases z)
      refine ⟨Zt, rfl, ⟨_, SqT.of hZ2⟩, for_it (walk_tup (K := K) (a := Zt) (xs := [.int 1, .int 2, .int 3])) (fun j σ H' => (∃ v1 v2 v3 v4 v5 v6 v7 v8 v10 v11 : Option V, σ = [some (.ref a), v1, v2, v3, v4, v5, v6, v7, v8, some (.ref Tl), v10, v11, none]) ∧ H' Tl = some (.lst (nts ([1, 3, 16].take j))) ∧ H' Zt = some (.tup [.int 1, .int 2, .int 3]))
        ⟨⟨_, _, _, _, _, _, _, _, _, _, rfl⟩, hT2, hZ2⟩ (fun j σ H' _ h => SqT.of h.2.2) ?_ ?_⟩
      · rintro j v σ H4z H4 hj ⟨⟨v1, v2, v3, v4, v5, v6, v7, v8, v10, v11, rfl⟩, hT4, hZ4⟩ ⟨rfl, hv⟩
        have hj : j < 3 := hj
        have ev : v = .int ((j + 1 : Nat) : Int) := by
          match j, hj, hv with
          | 0, _, hv => cases hv; rfl
          | 1, _, hv => cases hv; rfl
          | 2, _, hv => cases hv; rfl
        subst ev
        have hc : (allT (j + 1) 1).countP (calm "a") = ([1, 3, 16] : List Nat).getD j 0 := by
          match j, hj with
          | 0, _ => exact count1
          | 1, _ => exact count2
          | 2, _ => exact count3
        have la : ("a" : Str).length = 1 := by decide +kernel
        have few : (allT (j + 1) 1).length ≤ 729 := by
          unfold allT
          rw [tabsN_len, rowsN_len, Nat.pow_one]
          exact Nat.le_trans (Nat.pow_le_pow_left (show j + 1 ≤ 3 by omega) (j + 1)) (Nat.le_trans (Nat.pow_le_pow_right (by decide) (show j + 1 ≤ 3 by omega)) (by decide))
        refine ⟨_, rfl, .inl ⟨rfl, _, SqL.of hT4⟩, _, rfl, j + 1, "a", rfl, by omega, by rw [la]; decide, fun A0 us H5 hA nA TT s5 => ?_⟩
        rw [la] at TT
        refine ⟨A0, rfl, ⟨_, SqL.of hA⟩, fun G nG => ?_⟩
        have GA : A0 ≠ G := fun e => by rw [e, nG] at hA; cases hA
        refine lc_list (K := K) (a := A0) (xs := us) (fun g H' => ∃ vs : List V, H' G = some (.lst vs) ∧ vs.length = ((allT (j + 1) 1).take g).countP (calm "a") ∧ ∀ b o, b ≠ G → H5 b = some o → H' b = some o)
          ⟨[], upd_same, by rw [List.take_zero]; rfl, fun b o hb h => keep_new h nG⟩ (fun g H' _ ⟨_, _, _, kp⟩ => SqL.of (kp _ _ GA hA)) ?_ ?_
        · rintro g v H6 hv ⟨vs, q1, q2, q3⟩
          have hg : g < (allT (j + 1) 1).length := by
            have := (List.getElem?_eq_some_iff.mp hv).1
            rw [TT.1] at this
            exact this
          have hw : (allT (j + 1) 1)[g]? = some (allT (j + 1) 1)[g] := List.getElem?_eq_getElem hg
          generalize (allT (j + 1) 1)[g] = t at hw
          obtain ⟨l, lv, l1, _, l3, l4⟩ := TT.2 g t hw
          rw [l1] at hv
          cases hv
          have R := right_of set_a (by decide) (by decide) (by omega) (by omega) (List.mem_of_getElem? hw)
          have lG : l ≠ G := fun e => by rw [e, nG] at l3; cases l3
          have hl6 := q3 _ _ lG l3
          have l46 : RowsA H6 lv t := l4.to fun b ys h => q3 _ _ (fun e => by rw [e, nG] at h; cases h) h
          have cnt : ((allT (j + 1) 1).take (g + 1)).countP (calm "a") = ((allT (j + 1) 1).take g).countP (calm "a") + (if calm "a" t then 1 else 0) := by
            rw [take_snoc hw, List.countP_append]
            congr 1
            rw [List.countP_cons, List.countP_nil, Nat.zero_add]
          have cle := List.countP_le_length (p := calm "a") (l := (allT (j + 1) 1).take g)
          rw [List.length_take] at cle
          refine ⟨rfl, ?_⟩
          refine ⟨_, rfl, l, "a", lv, t, 1, rfl, SqL.of hl6, l46.tups, R, fun hn b H7 nb B7 s7 => ?_, fun y q e TT' H7 hT7 s7 => ?_⟩
          · obtain ⟨db, ab, ub, b1, b2, b3⟩ := id B7
            refine ⟨.ref b, .ref C, .ref C, .ref C, true, rfl, .own C, .base (.ins b1 TB.cl TO.ha TO.hn TO.tk TO.hm), TO.kc, _, rfl, ?_⟩
            refine iteT ?_
            refine ⟨vs, s7 _ _ q1, by omega, vs ++ [.int 1], upd_same, ?_, fun b' o hb h => by rw [upd_ne hb]; exact s7 _ _ (q3 b' o hb h)⟩
            rw [cnt, List.length_append, q2]
            have : calm "a" t = true := by
              unfold calm
              rw [hn]
              rfl
            rw [if_pos this]
            rfl
          · refine ⟨.ref TT', .ref C, .type "tuple", .ref C, false, rfl, .own C, .base (.tup hT7), TO.ku, _, rfl, ?_⟩
            refine iteF ?_
            refine ⟨vs, s7 _ _ q1, ?_, fun b' o hb h => s7 _ _ (q3 b' o hb h)⟩
            rw [cnt, q2]
            have : ¬ calm "a" t = true := by
              unfold calm
              rw [e]
              exact fun h => by cases h
            rw [if_neg this]
            rfl
        · rintro H6 ⟨vs, q1, q2, q3⟩
          rw [TT.1, List.take_length, hc] at q2
          have hT5 := s5 _ _ hT4
          have hT6 := q3 _ _ (fun e => by rw [e, nG] at hT5; cases hT5) hT5
          have hZ6 := q3 _ _ (fun e => by have := s5 _ _ hZ4; rw [e, nG] at this; cases this) (s5 _ _ hZ4)
          refine ⟨G, vs, rfl, .inl (SqL.of q1), Tl, _, _, rfl, rfl, hT6, (by rw [nts_length, List.length_take]; show min j 3 < sizeLine; omega), ⟨_, _, _, _, _, _, _, _, _, _, rfl⟩, ?_, ?_⟩
          · rw [upd_same, q2]
            have e3 : ([1, 3, 16] : List Nat)[j]? = some (([1, 3, 16] : List Nat).getD j 0) := by
              rw [List.getD_eq_getElem?_getD, List.getElem?_eq_getElem hj]
              rfl
            rw [take_snoc e3, nts_append]
          · rw [upd_ne TZ]
            exact hZ6
      · rintro σ H4 ⟨⟨v1, v2, v3, v4, v5, v6, v7, v8, v10, v11, rfl⟩, hT4, hZ4⟩
        refine ⟨_, rfl, (by show 3 ≤ sizeLine; omega), fun L nL => ?_⟩
        have h5 := keep_new (u := .lst [.int 1, .int 3, .int 16]) hT4 nL
        refine ⟨.list [.int 1, .int 3, .int 16], .list [.int 1, .int 3, .int 16], .lst (SqL.of h5) (.cons (.int _) (.cons (.int _) (.cons (.int _) .nil))), .lst (SqL.of upd_same) (.cons (.int _) (.cons (.int _) (.cons (.int _) .nil))), by decide +kernel, by decide +kernel, ?_⟩
        rw [show (PyData.list [.int 1, .int 3, .int 16]).eqv (.list [.int 1, .int 3, .int 16]) = true by decide +kernel]
        exact k _
end
end M3

set_option Elab.async false
set_option linter.all false
set_option maxRecDepth 100000
set_option maxHeartbeats 8000000
/-! # What the top has made, put together -/
namespace M3
open PySem L2
/-- a def of the top: where it stands, what it is -/
structure DefAt (K : PySem.W.Frag) (x : Str) (st : Stmt) : Prop where
  ex : ∃ (f : Addr) (fd : FuncData), Fun K x x st f fd ∧ PySem.W.nsIn K mainGlobals x = some (some (.ref f))
theorem def_mk {K : PySem.W.Frag} {x : Str} {st : Stmt} {f : Addr} {oc : Value} {od an : Option Addr} {osl : Array (Option Value)} {kV doc pm cdv ct : Value} (a : PySem.W.nsIn K mainGlobals x = some (some (.ref f)))
    (l : K.lookup f = some ⟨oc, od, .func (PySem.W.fnOf x x (defArgs st) (defBody st) (defScope st) .none kV doc pm an cdv ct), osl⟩) (c : PySem.W.codeIn K cdv x = true) (k : PySem.W.keepIn K (.ref f) = true) : DefAt K x st := ⟨f, _, fun_mk l c k, a⟩
/-- a method -/
structure MetAt (K : PySem.W.Frag) (C : Addr) (x qual : Str) (st : Stmt) : Prop where
  ex : ∃ (f : Addr) (fd : FuncData), Fun K x qual st f fd ∧ Meth K C x f
theorem met_mk {K : PySem.W.Frag} {C : Addr} {x qual : Str} {st : Stmt} {f : Addr} {oc : Value} {od an : Option Addr} {osl : Array (Option Value)} {kV doc pm cdv ct : Value} (a : PySem.W.findIn K (.ref C) x = some (some (.ref f))) (fn : PySem.W.isFn K (.ref f) = true)
    (l : K.lookup f = some ⟨oc, od, .func (PySem.W.fnOf x qual (defArgs st) (defBody st) (defScope st) .none kV doc pm an cdv ct), osl⟩) (c : PySem.W.codeIn K cdv qual = true) (k : PySem.W.keepIn K (.ref f) = true) : MetAt K C x qual st := ⟨f, _, fun_mk l c k, ⟨a, fn, k⟩⟩
/-- a property -/
structure PropAt (K : PySem.W.Frag) (C : Addr) (x qual : Str) (st : Stmt) : Prop where
  ex : ∃ (p f : Addr) (fd : FuncData), Fun K x qual st f fd ∧ PropOf K C x p f
theorem prop_mk {K : PySem.W.Frag} {C : Addr} {x qual : Str} {st : Stmt} {p f : Addr} {rest : List Value} {oc : Value} {od an : Option Addr} {osl : Array (Option Value)} {kV doc pm cdv ct : Value} (a : PySem.W.findIn K (.ref C) x = some (some (.ref p)))
    (g : PySem.W.specialIn K (.ref p) "__get__" = some (some (.builtin "property.__get__"))) (t : PySem.W.takesIn K (.ref p) = some true) (r : PySem.W.recIn K p "property" = some (.ref f :: rest))
    (l : K.lookup f = some ⟨oc, od, .func (PySem.W.fnOf x qual (defArgs st) (defBody st) (defScope st) .none kV doc pm an cdv ct), osl⟩) (c : PySem.W.codeIn K cdv qual = true) (k : PySem.W.keepIn K (.ref f) = true) : PropAt K C x qual st := ⟨p, f, _, fun_mk l c k, ⟨a, g, t, ⟨rest, r⟩⟩⟩
theorem vals_app {vs zs : List V} {us ws : List Value} (h : Vals vs us) (k : Vals zs ws) : Vals (vs ++ zs) (us ++ ws) := h.append k
/-- the package's errors over TurnError -/
def errN (K : PySem.W.Frag) (c : Addr) : Bool := PySem.W.keepIn K (.ref c) && (decide (PySem.W.subIn K (.ref c) (.type "BaseException") = some true) && decide (PySem.W.typeIn K (.ref c) = some (.type "type")))
def errB (K : PySem.W.Frag) (c : Addr) : Bool := PySem.W.excIn K c [.type "ValueError", .type "Exception", .type "BaseException", .type "object"] "ValueError.__new__" && errN K c
theorem errR {K : PySem.W.Frag} {mg : Str → Option Value} {nm : Str} {c : Addr} (h : errB K c = true) (g : mg nm = some (.ref c)) : TxR K mg nm c := by
  obtain ⟨h1, h⟩ := Bool.and_eq_true_iff.mp h
  obtain ⟨h2, h⟩ := Bool.and_eq_true_iff.mp h
  obtain ⟨h3, h4⟩ := Bool.and_eq_true_iff.mp h
  exact ⟨h1, g, h2, of_decide_eq_true h3, of_decide_eq_true h4⟩
theorem errN_ok {P : Program} {K : PySem.W.Frag} {mg : Str → Option Value} {c i : Addr} (h : errN K c = true) (t : PySem.NvE.InitTxt P K c i "RuntimeError" "RuntimeError.__init__" "RuntimeError" "RuntimeError.__new__" "value" "InvalidNumber.__init__") (g : mg "InvalidNumber" = some (.ref c)) : TxN P K mg c := by
  obtain ⟨h2, h⟩ := Bool.and_eq_true_iff.mp h
  obtain ⟨h3, h4⟩ := Bool.and_eq_true_iff.mp h
  exact ⟨⟨_, _, _, _, _, _, t⟩, g, h2, of_decide_eq_true h3, of_decide_eq_true h4⟩
/-- TooMany, which keeps the limit -/
def errA (K : PySem.W.Frag) (c : Addr) : Bool := decide (PySem.W.exmOne K (.ref c) (.ref c) = some true) && errN K c
open PySem.Spec PyProof.Rows in
/-- a law's end, its promise over what the top has left -/
theorem walk_ofK {l : PySem.W.OpenLaw} {n k : Nat} {q : Program} {loose : List Str} {XP : (Str → Option Value) → Heap → Prop} {YP : World → Heap → Prop} {d : PySem.DefRec} {K : Params → PySem.W.Frag} {sp : PySem.W.Frag → Sp} {x : Str}
    (hn : l.most = some n) (hn2 : n ≤ sizeLine) (hdf : d.params.defaults = []) (hr : Room k callerA) (hY : ∀ (w : World) (h : Heap), YP w h → (K w.params).In h)
    (F : ∀ (w : World) (mg : Str → Option Value) (fa : Addr) (h : Heap), (K w.params).In h → h.Ns mainGlobals mg → mg d.name = some (.ref fa) →
      ∃ fd : FuncData, (∀ (s : Shared) (u : Value), BindsTo s fd ⟨[u], []⟩ [(x, u)]) ∧ ∀ base : Heap, (K w.params).In base → base.Ns mainGlobals mg → FnOk l.prog w (K w.params) mg base CX0 k fa fd [x] (sp (K w.params)))
    (hsp : ∀ (K : PySem.W.Frag) (H : Hp) (a : Addr) (ns : List Int), ns.length ≤ n → Only H → SqL K H a (ns.map V.int) → sp K [.ref a] H (fun v _ => v = .bl true) fun _ _ _ => False) :
    PySem.W.WalkO q loose XP YP l.row.toRowW d [] (fun f vs => PySem.call f vs) :=
  walk_of (CX := fun _ => CX0) (sp := fun w => sp (K w.params)) hn hn2 hdf hr hY F (fun w H a ns h1 h2 h3 => hsp (K w.params) H a ns h1 h2 h3) (fun _ _ _ _ _ h => h)

end M3

set_option Elab.async false
set_option linter.all false
set_option maxRecDepth 100000
set_option maxHeartbeats 8000000
/-! # What the top has made of boxes -/
namespace M3
open PySem L2
structure BInitAt (K : PySem.W.Frag) (C : Addr) : Prop where
  ex : ∃ (f : Addr) (fd : FuncData), Fun K "__init__" "Box.__init__" sBoxInit f fd ∧ Mk K C f
theorem binit_at {K : PySem.W.Frag} {C f : Addr} {oc : Value} {od an : Option Addr} {osl : Array (Option Value)} {kV doc pm cdv ct : Value}
    (i : PySem.W.findIn K (.ref C) "__init__" = some (some (.ref f))) (mk : PySem.W.makesIn K C = true) (fn : PySem.W.isFn K (.ref f) = true) (kp : PySem.W.keepIn K (.ref C) = true)
    (l : K.lookup f = some ⟨oc, od, .func (PySem.W.fnOf "__init__" "Box.__init__" (defArgs sBoxInit) (defBody sBoxInit) (defScope sBoxInit) .none kV doc pm an cdv ct), osl⟩) (c : PySem.W.codeIn K cdv "Box.__init__" = true) (k : PySem.W.keepIn K (.ref f) = true) : BInitAt K C :=
  ⟨f, _, fun_mk l c k, ⟨mk, i, fn, kp⟩⟩
/-- the class of boxes -/
def clsX (K : PySem.W.Frag) (C : Addr) : List Bool := [PySem.W.plainGet K C Str.empty, PySem.W.hasDictIn K C, PySem.W.plainOver K C, decide (PySem.W.findIn K (.ref C) "__setattr__" = some (some (.builtin "object.__setattr__"))),
  decide (PySem.W.findIn K (.ref C) "_letters" = some none), decide (PySem.W.findIn K (.ref C) "_table" = some none)]
def clsXB (K : PySem.W.Frag) (C : Addr) : Bool := (clsX K C).all id
theorem clsXB_ok {K : PySem.W.Frag} {C : Addr} (h : clsXB K C = true) : Cls K C ∧ NoAttr K C "_letters" ∧ NoAttr K C "_table" := by
  have h := List.all_eq_true.mp h
  have q : ∀ (i : Nat) (b : Bool), (clsX K C)[i]? = some b → b = true := fun i b e => h b (List.mem_of_getElem? e)
  exact ⟨⟨q 0 _ rfl, q 1 _ rfl, q 2 _ rfl, of_decide_eq_true (q 3 _ rfl)⟩, (of_decide_eq_true (q 4 _ rfl) : PySem.W.findIn K (.ref C) "_letters" = some none), (of_decide_eq_true (q 5 _ rfl) : PySem.W.findIn K (.ref C) "_table" = some none)⟩
/-- GoesRound, which keeps the turn -/
def errG (K : PySem.W.Frag) (c : Addr) : Bool := xfB K c && (decide (PySem.W.findIn K (.ref c) "turn" = some none) && errA K c)
theorem errG_ok {P : Program} {K : PySem.W.Frag} {mg : Str → Option Value} {c i : Addr} (h : errG K c = true) (t : PySem.NvE.InitTxt P K c i "LookupError" "LookupError.__init__" "LookupError" "LookupError.__new__" "turn" "GoesRound.__init__") (g : mg "GoesRound" = some (.ref c)) : TxG P K mg c := by
  obtain ⟨h1, h⟩ := Bool.and_eq_true_iff.mp h
  obtain ⟨h2, h⟩ := Bool.and_eq_true_iff.mp h
  obtain ⟨h3, h⟩ := Bool.and_eq_true_iff.mp h
  obtain ⟨h4, h⟩ := Bool.and_eq_true_iff.mp h
  obtain ⟨h5, h6⟩ := Bool.and_eq_true_iff.mp h
  exact ⟨⟨⟨_, _, _, _, _, _, t⟩, g, h4, of_decide_eq_true h5, of_decide_eq_true h6, of_decide_eq_true h3⟩, xfB_ok h1, of_decide_eq_true h2⟩
/-- a box called -/
structure CallAt (K : PySem.W.Frag) (C : Addr) : Prop where
  ex : ∃ (f : Addr) (fd : FuncData), Fun K "__call__" "Box.__call__" sBCall f fd ∧ StX.CallO K C f
theorem call_mk {K : PySem.W.Frag} {C f : Addr} {oc : Value} {od an : Option Addr} {osl : Array (Option Value)} {kV doc pm cdv ct : Value} (a : PySem.W.findIn K (.ref C) "__call__" = some (some (.ref f))) (fn : PySem.W.isFn K (.ref f) = true) (fi : PySem.W.fnIn K f = true)
    (l : K.lookup f = some ⟨oc, od, .func (PySem.W.fnOf "__call__" "Box.__call__" (defArgs sBCall) (defBody sBCall) (defScope sBCall) .none kV doc pm an cdv ct), osl⟩) (c : PySem.W.codeIn K cdv "Box.__call__" = true) (k : PySem.W.keepIn K (.ref f) = true) : CallAt K C := ⟨f, _, fun_mk l c k, ⟨a, fn, fi⟩⟩
/-- the class of boxes, seen from outside -/
def clsO (K : PySem.W.Frag) (C : Addr) : List Bool := [decide (PySem.W.findIn K (.ref C) "__class__" = some (some (.builtin "object.__class__"))), decide (PySem.W.specialIn K (.builtin "object.__class__") "__get__" = some (some (.builtin "getset_descriptor.__get__"))), decide (PySem.W.takesIn K (.builtin "object.__class__") = some true), decide (PySem.W.mroIn K C (.type "object") = some true),
  decide (PySem.W.kitOne K (.ref C) (.ref C) = some true), decide (PySem.W.kitOne K (.type "int") (.ref C) = some false), decide (PySem.W.kitOne K (.type "str") (.ref C) = some false), decide (PySem.W.kitOne K (.type "tuple") (.ref C) = some false),
  PySem.W.notFirst K C (.type "int"), PySem.W.notFirst K C (.type "str"), PySem.W.notFirst K C (.type "tuple"), decide (PySem.W.findIn K (.ref C) "__ne__" = some (some (.builtin "object.__ne__")))]
def clsOB (K : PySem.W.Frag) (C : Addr) : Bool := (clsO K C).all id
theorem clsOB_ok {K : PySem.W.Frag} {C : Addr} (h : clsOB K C = true) : TxOB K C := by
  have h := List.all_eq_true.mp h
  have q : ∀ (i : Nat) (b : Bool), (clsO K C)[i]? = some b → b = true := fun i b e => h b (List.mem_of_getElem? e)
  exact ⟨of_decide_eq_true (q 0 _ rfl), of_decide_eq_true (q 1 _ rfl), of_decide_eq_true (q 2 _ rfl), of_decide_eq_true (q 3 _ rfl), of_decide_eq_true (q 4 _ rfl), of_decide_eq_true (q 5 _ rfl), of_decide_eq_true (q 6 _ rfl), of_decide_eq_true (q 7 _ rfl), q 8 _ rfl, q 9 _ rfl, q 10 _ rfl, of_decide_eq_true (q 11 _ rfl)⟩
end M3

set_option Elab.async false
set_option linter.all false
set_option maxRecDepth 100000
set_option maxHeartbeats 8000000
/-! # What the top has made: a def whose code object is known; a law's end with tables of code objects -/
namespace M3
open PySem L2 NdefX
structure DefAtC (K : PySem.W.Frag) (x : Str) (st : Stmt) (c : Addr) : Prop where
  ex : ∃ (f : Addr) (fd : FuncData), Fun K x x st f fd ∧ PySem.W.nsIn K mainGlobals x = some (some (.ref f)) ∧ fd.code = .ref c
theorem defc_mk {K : PySem.W.Frag} {x : Str} {st : Stmt} {f c : Addr} {oc : Value} {od an : Option Addr} {osl : Array (Option Value)} {kV doc pm ct : Value} (a : PySem.W.nsIn K mainGlobals x = some (some (.ref f)))
    (l : K.lookup f = some ⟨oc, od, .func (PySem.W.fnOf x x (defArgs st) (defBody st) (defScope st) .none kV doc pm an (.ref c) ct), osl⟩) (c' : PySem.W.codeIn K (.ref c) x = true) (k : PySem.W.keepIn K (.ref f) = true) : DefAtC K x st c := ⟨f, _, fun_mk l c' k, a, rfl⟩
open PySem.Spec PyProof.Rows in
/-- a law's end over one table of code objects: c the code object, P its table -/
theorem lawAt_of {l : PySem.W.OpenLaw} {w : World} {K : PySem.W.Frag} {mg : Str → Option Value} {fa c P : Addr} {h : Heap} {nm : Nat → Nat → Str} {sp : Sp} {k n : Nat} {x : Str}
    (A : ∃ fd : FuncData, (∀ (s : Shared) (v : Value), BindsTo s fd ⟨[v], []⟩ [(x, v)]) ∧ ∀ base : Heap, K.In base → base.Ns mainGlobals mg → LamX.TabB base mg c P → FnOk l.prog w K mg base CX0 k fa fd [x] sp)
    (hsp : ∀ (H : Hp) (a : Addr) (ns : List Int), ns.length ≤ n → TabsN [(P, nm)] H → SqL K H a (ns.map V.int) → sp [.ref a] H (fun v _ => v = .bl true) fun _ _ _ => False)
    (hT : h.get? P = some { cls := .none, data := .fields #[] }) (nT : K.lookup P = none) (hC : PySem.W.CodeHd h c P) : LamX.LawAtS l w K CX0 k n x mg fa h := by
  obtain ⟨fd, hb, hF⟩ := A
  have one : ∀ p ∈ [(c, P)], p = (c, P) := fun p hp => List.mem_singleton.mp hp
  refine ⟨fd, [(c, P)], sp, fun p hp => ?_, fun p hp => ?_, fun p hp => ?_, hb, fun H a ns hl _ hH hS => hsp H a ns hl (fun p hp => ?_) hS, fun base k1 k2 tb => hF base k1 k2 (tb (c, P) (List.mem_singleton.mpr rfl))⟩
  · rw [one p hp]
    exact hT
  · rw [one p hp]
    exact nT
  · rw [one p hp]
    exact hC
  · rw [List.mem_singleton.mp hp]
    exact TabN.nil (hH (c, P) (List.mem_singleton.mpr rfl))
open PySem.Spec PyProof.Rows in
theorem walk_ofKT {l : PySem.W.OpenLaw} {n k : Nat} {q : Program} {loose : List Str} {XP : (Str → Option Value) → Heap → Prop} {YP : World → Heap → Prop} {d : PySem.DefRec} {K : Params → PySem.W.Frag} {x : Str}
    (hn : l.most = some n) (hn2 : n ≤ sizeLine) (hdf : d.params.defaults = []) (hr : Room k callerA) (hY : ∀ (w : World) (h : Heap), YP w h → (K w.params).In h)
    (F : ∀ (w : World) (mg : Str → Option Value) (fa : Addr) (h : Heap), YP w h → (K w.params).In h → h.Ns mainGlobals mg → mg d.name = some (.ref fa) → LamX.LawAtS l w (K w.params) CX0 k n x mg fa h) :
    PySem.W.WalkO q loose XP YP l.row.toRowW d [] (fun f vs => PySem.call f vs) :=
  LamX.walk_ofTs (CX := fun _ => CX0) hn hn2 hdf hr hY F (fun _ _ _ _ _ h => h)
end M3

set_option Elab.async false
set_option linter.all false
set_option maxRecDepth 100000
set_option maxHeartbeats 8000000
/-! # What the top has made, put together (k68) -/
namespace M3
open PySem L2
theorem all_mk {P : Program} {w : World} {K : PySem.W.Frag} {h : Heap} {mg : Str → Option Value} {fa : Addr} (X : K.In h) (G : h.Ns mainGlobals mg) (hfa : mg "law" = some (.ref fa))
    {tk_a tk_c tk_l tk_p tk_t : Tok}
    {cAct Pt : Addr}
    {cBx cB cG iG cN iN cW cO : Addr}
    (dLaw : DefAt K "law" sLaw)
    (dDice : DefAt K "_law_dice" sDice)
    (dRoll : DefAt K "_law_roll" sRoll)
    (dLetters : DefAt K "_law_letters" sLetters)
    (dMixed : DefAt K "_law_mixed" sMixed)
    (dOneOf : DefAt K "_law_one_of" sOneOf)
    (dShort : DefAt K "_law_short_words" sShort)
    (dAllTabs : DefAt K "_law_all_tables" sAllTabs)
    (dFirstT : DefAt K "_law_first_turn" sFirstT)
    (dLawActs : DefAt K "_law_actions" sLawActs)
    (dGoes : DefAt K "_law_goes_round" sGoes)
    (dToldBox : DefAt K "_law_told_box" sToldBox)
    (dIsLetters : DefAt K "is_letters" sIsLetters)
    (dBetween : DefAt K "is_between" sBetween)
    (dIsWord : DefAt K "is_word" sIsWord)
    (dHasOnly : DefAt K "has_only" sHasOnly)
    (dIsTable : DefAt K "is_table" sIsTable)
    (dIsLine : DefAt K "is_line" sIsLine)
    (dActWords : DefAt K "action_words" sActWords)
    (dUnmoved : DefAt K "unmoved" sUnmoved)
    (dLedOn : DefAt K "led_on" sLedOn)
    (dAmong : DefAt K "turn_among" sAmong)
    (dTurned : DefAt K "turned_state" sTurned)
    (dComes : DefAt K "comes_back" sComes)
    (dOneRight : DefAt K "_law_one_right" sOneRight)
    (dFirstsL : DefAt K "_law_firsts" sFirstsL)
    (dChkPlace : DefAt K "check_place" sChkPlace)
    (dFirstTo : DefAt K "first_word_to" sFirstTo)
    (dMarked : DefAt K "marked" sMarked)
    (dSpelled : DefAt K "spelled" sSpelled)
    (dMadeB : DefAt K "made_box" sMadeB)
    (dLeanT : DefAt K "lean_table" sLeanT)
    (dReached : DefAt K "reached" sReached)
    (dCheck : DefAt K "check_word" sCheck)
    (dOnlyC : DefAt K "check_only" sOnlyC)
    (dActed : DefAtC K "acted" sActed cAct)
    (dWalked : DefAt K "walked" sWalked)
    (dRepeats : DefAt K "repeats" sRepeats)
    (dComposed : DefAt K "composed" sComposed)
    (dPairRight : DefAt K "_law_pair_right" sPairRight)
    (dLed : DefAt K "led" sLed)
    (dChkBox : DefAt K "check_box" sChkBox)
    (dSameL : DefAt K "check_same_letters" sSameL)
    (dBeside : DefAt K "beside" sBeside)
    (vA : PySem.W.nsIn K mainGlobals "ALPHABET" = some (some (.str "abcdefghijklmnopqrstuvwxyz" tk_a)))
    (vL : PySem.W.nsIn K mainGlobals "MAX_LETTERS" = some (some (.int 2 tk_l)))
    (hBx : clsXB K cBx = true)
    (vP : PySem.W.nsIn K mainGlobals "MAX_PLACES" = some (some (.int 4 tk_p)))
    (vC : PySem.W.nsIn K mainGlobals "ALL_ACTIONS" = some (some (.int 256 tk_c)))
    (vT : PySem.W.nsIn K mainGlobals "MAX_TIMES" = some (some (.int 100000000000 tk_t)))
    (eB : errB K cB = true)
    (gB : PySem.W.nsIn K mainGlobals "InvalidBox" = some (some (.ref cB)))
    (eG : errG K cG = true)
    (tG : PySem.NvE.InitTxt P K cG iG "LookupError" "LookupError.__init__" "LookupError" "LookupError.__new__" "turn" "GoesRound.__init__")
    (gG : PySem.W.nsIn K mainGlobals "GoesRound" = some (some (.ref cG)))
    (mBI : BInitAt K cBx)
    (gBx : PySem.W.nsIn K mainGlobals "Box" = some (some (.ref cBx)))
    (eN : errN K cN = true)
    (tN : PySem.NvE.InitTxt P K cN iN "RuntimeError" "RuntimeError.__init__" "RuntimeError" "RuntimeError.__new__" "value" "InvalidNumber.__init__")
    (gN : PySem.W.nsIn K mainGlobals "InvalidNumber" = some (some (.ref cN)))
    (eW : errB K cW = true)
    (gW : PySem.W.nsIn K mainGlobals "InvalidWord" = some (some (.ref cW)))
    (eO : errB K cO = true)
    (gO : PySem.W.nsIn K mainGlobals "InvalidOperation" = some (some (.ref cO)))
    (mCl : CallAt K cBx)
    (hOB : clsOB K cBx = true)
    (hSF : PySem.W.selfFirst K cBx = true)
    (mBFw : MetAt K cBx "first_word" "Box.first_word" sBFw)
    (mBoxLen : MetAt K cBx "__len__" "Box.__len__" sBoxLen)
    (mBLean : MetAt K cBx "lean" "Box.lean" sBLean)
    (mBLag : MetAt K cBx "lag" "Box.lag" sBLag)
    (mBChk : MetAt K cBx "_check" "Box._check" sBChk)
    (mBAct : MetAt K cBx "action" "Box.action" sBAct)
    (mBAnd : MetAt K cBx "__and__" "Box.__and__" sBAnd)
    (pBLet : PropAt K cBx "letters" "Box.letters" sBLet)
    (mBEq : MetAt K cBx "__eq__" "Box.__eq__" sBEq)
    (z_int : PySem.W.nsIn K mainGlobals "int" = some none)
    (z_abs : PySem.W.nsIn K mainGlobals "abs" = some none)
    (z_len : PySem.W.nsIn K mainGlobals "len" = some none)
    (z_list : PySem.W.nsIn K mainGlobals "list" = some none)
    (z_sorted : PySem.W.nsIn K mainGlobals "sorted" = some none)
    (z_range : PySem.W.nsIn K mainGlobals "range" = some none)
    (z_tuple : PySem.W.nsIn K mainGlobals "tuple" = some none)
    (z_zip : PySem.W.nsIn K mainGlobals "zip" = some none)
    (z_isinstance : PySem.W.nsIn K mainGlobals "isinstance" = some none)
    (z_bool : PySem.W.nsIn K mainGlobals "bool" = some none)
    (z_str : PySem.W.nsIn K mainGlobals "str" = some none)
    (z_all : PySem.W.nsIn K mainGlobals "all" = some none)
    (z_enumerate : PySem.W.nsIn K mainGlobals "enumerate" = some none)
    (z_max : PySem.W.nsIn K mainGlobals "max" = some none)
    (z_min : PySem.W.nsIn K mainGlobals "min" = some none)
    : ∃ fd : FuncData, (∀ (s : Shared) (v : Value), BindsTo s fd ⟨[v], []⟩ [("script", v)]) ∧ ∀ base : Heap, K.In base → base.Ns mainGlobals mg → LamX.TabB base mg cAct Pt → FnOk P w K mg base CX0 9 fa fd ["script"] (spLaw K [(Pt, nmActed)]) := by
  obtain ⟨fLaw, DLaw, FLaw, aLaw⟩ := dLaw.ex
  have mLaw_ := PySem.W.mg_of X G aLaw
  have bLaw := FLaw.binds (ps := ["script"]) fun _ _ _ _ _ _ us hl => match us, hl with | [_], _ => rfl
  obtain ⟨fDice, DDice, FDice, aDice⟩ := dDice.ex
  have mDice_ := PySem.W.mg_of X G aDice
  have bDice := FDice.binds (ps := ["script", "at"]) fun _ _ _ _ _ _ us hl => match us, hl with | [_, _], _ => rfl
  obtain ⟨fRoll, DRoll, FRoll, aRoll⟩ := dRoll.ex
  have mRoll_ := PySem.W.mg_of X G aRoll
  have bRoll := FRoll.binds (ps := ["dice", "total"]) fun _ _ _ _ _ _ us hl => match us, hl with | [_, _], _ => rfl
  obtain ⟨fLetters, DLetters, FLetters, aLetters⟩ := dLetters.ex
  have mLetters_ := PySem.W.mg_of X G aLetters
  have bLetters := FLetters.binds (ps := ["dice", "total"]) fun _ _ _ _ _ _ us hl => match us, hl with | [_, _], _ => rfl
  obtain ⟨fMixed, DMixed, FMixed, aMixed⟩ := dMixed.ex
  have mMixed_ := PySem.W.mg_of X G aMixed
  have bMixed := FMixed.binds (ps := ["dice", "items"]) fun _ _ _ _ _ _ us hl => match us, hl with | [_, _], _ => rfl
  obtain ⟨fOneOf, DOneOf, FOneOf, aOneOf⟩ := dOneOf.ex
  have mOneOf_ := PySem.W.mg_of X G aOneOf
  have bOneOf := FOneOf.binds (ps := ["dice", "items"]) fun _ _ _ _ _ _ us hl => match us, hl with | [_, _], _ => rfl
  obtain ⟨fShort, DShort, FShort, aShort⟩ := dShort.ex
  have mShort_ := PySem.W.mg_of X G aShort
  have bShort := FShort.binds (ps := ["letters", "most"]) fun _ _ _ _ _ _ us hl => match us, hl with | [_, _], _ => rfl
  obtain ⟨fAllTabs, DAllTabs, FAllTabs, aAllTabs⟩ := dAllTabs.ex
  have mAllTabs_ := PySem.W.mg_of X G aAllTabs
  have bAllTabs := FAllTabs.binds (ps := ["total", "letters"]) fun _ _ _ _ _ _ us hl => match us, hl with | [_, _], _ => rfl
  obtain ⟨fFirstT, DFirstT, FFirstT, aFirstT⟩ := dFirstT.ex
  have mFirstT_ := PySem.W.mg_of X G aFirstT
  have bFirstT := FFirstT.binds (ps := ["table", "letters"]) fun _ _ _ _ _ _ us hl => match us, hl with | [_, _], _ => rfl
  obtain ⟨fLawActs, DLawActs, FLawActs, aLawActs⟩ := dLawActs.ex
  have mLawActs_ := PySem.W.mg_of X G aLawActs
  have bLawActs := FLawActs.binds (ps := ["table", "letters", "most"]) fun _ _ _ _ _ _ us hl => match us, hl with | [_, _, _], _ => rfl
  obtain ⟨fGoes, DGoes, FGoes, aGoes⟩ := dGoes.ex
  have mGoes_ := PySem.W.mg_of X G aGoes
  have bGoes := FGoes.binds (ps := ["action", "place"]) fun _ _ _ _ _ _ us hl => match us, hl with | [_, _], _ => rfl
  obtain ⟨fToldBox, DToldBox, FToldBox, aToldBox⟩ := dToldBox.ex
  have mToldBox_ := PySem.W.mg_of X G aToldBox
  have bToldBox := FToldBox.binds (ps := ["letters", "table"]) fun _ _ _ _ _ _ us hl => match us, hl with | [_, _], _ => rfl
  obtain ⟨fIsLetters, DIsLetters, FIsLetters, aIsLetters⟩ := dIsLetters.ex
  have mIsLetters_ := PySem.W.mg_of X G aIsLetters
  have bIsLetters := FIsLetters.binds (ps := ["value"]) fun _ _ _ _ _ _ us hl => match us, hl with | [_], _ => rfl
  obtain ⟨fBetween, DBetween, FBetween, aBetween⟩ := dBetween.ex
  have mBetween_ := PySem.W.mg_of X G aBetween
  have bBetween := FBetween.binds (ps := ["value", "low", "high"]) fun _ _ _ _ _ _ us hl => match us, hl with | [_, _, _], _ => rfl
  obtain ⟨fIsWord, DIsWord, FIsWord, aIsWord⟩ := dIsWord.ex
  have mIsWord_ := PySem.W.mg_of X G aIsWord
  have bIsWord := FIsWord.binds (ps := ["value"]) fun _ _ _ _ _ _ us hl => match us, hl with | [_], _ => rfl
  obtain ⟨fHasOnly, DHasOnly, FHasOnly, aHasOnly⟩ := dHasOnly.ex
  have mHasOnly_ := PySem.W.mg_of X G aHasOnly
  have bHasOnly := FHasOnly.binds (ps := ["word", "letters"]) fun _ _ _ _ _ _ us hl => match us, hl with | [_, _], _ => rfl
  obtain ⟨fIsTable, DIsTable, FIsTable, aIsTable⟩ := dIsTable.ex
  have mIsTable_ := PySem.W.mg_of X G aIsTable
  have bIsTable := FIsTable.binds (ps := ["value", "width", "most"]) fun _ _ _ _ _ _ us hl => match us, hl with | [_, _, _], _ => rfl
  obtain ⟨fIsLine, DIsLine, FIsLine, aIsLine⟩ := dIsLine.ex
  have mIsLine_ := PySem.W.mg_of X G aIsLine
  have bIsLine := FIsLine.binds (ps := ["value", "width", "size"]) fun _ _ _ _ _ _ us hl => match us, hl with | [_, _, _], _ => rfl
  obtain ⟨fActWords, DActWords, FActWords, aActWords⟩ := dActWords.ex
  have mActWords_ := PySem.W.mg_of X G aActWords
  have bActWords := FActWords.binds (ps := ["table", "letters", "most"]) fun _ _ _ _ _ _ us hl => match us, hl with | [_, _, _], _ => rfl
  obtain ⟨fUnmoved, DUnmoved, FUnmoved, aUnmoved⟩ := dUnmoved.ex
  have mUnmoved_ := PySem.W.mg_of X G aUnmoved
  have bUnmoved := FUnmoved.binds (ps := ["table"]) fun _ _ _ _ _ _ us hl => match us, hl with | [_], _ => rfl
  obtain ⟨fLedOn, DLedOn, FLedOn, aLedOn⟩ := dLedOn.ex
  have mLedOn_ := PySem.W.mg_of X G aLedOn
  have bLedOn := FLedOn.binds (ps := ["table", "states", "column"]) fun _ _ _ _ _ _ us hl => match us, hl with | [_, _, _], _ => rfl
  obtain ⟨fAmong, DAmong, FAmong, aAmong⟩ := dAmong.ex
  have mAmong_ := PySem.W.mg_of X G aAmong
  have bAmong := FAmong.binds (ps := ["words"]) fun _ _ _ _ _ _ us hl => match us, hl with | [_], _ => rfl
  obtain ⟨fTurned, DTurned, FTurned, aTurned⟩ := dTurned.ex
  have mTurned_ := PySem.W.mg_of X G aTurned
  have bTurned := FTurned.binds (ps := ["action"]) fun _ _ _ _ _ _ us hl => match us, hl with | [_], _ => rfl
  obtain ⟨fComes, DComes, FComes, aComes⟩ := dComes.ex
  have mComes_ := PySem.W.mg_of X G aComes
  have bComes := FComes.binds (ps := ["action", "state"]) fun _ _ _ _ _ _ us hl => match us, hl with | [_, _], _ => rfl
  obtain ⟨fOneRight, DOneRight, FOneRight, aOneRight⟩ := dOneRight.ex
  have mOneRight_ := PySem.W.mg_of X G aOneRight
  have bOneRight := FOneRight.binds (ps := ["letters", "table", "box", "words"]) fun _ _ _ _ _ _ us hl => match us, hl with | [_, _, _, _], _ => rfl
  obtain ⟨fFirstsL, DFirstsL, FFirstsL, aFirstsL⟩ := dFirstsL.ex
  have mFirstsL_ := PySem.W.mg_of X G aFirstsL
  have bFirstsL := FFirstsL.binds (ps := ["table", "letters"]) fun _ _ _ _ _ _ us hl => match us, hl with | [_, _], _ => rfl
  obtain ⟨fChkPlace, DChkPlace, FChkPlace, aChkPlace⟩ := dChkPlace.ex
  have mChkPlace_ := PySem.W.mg_of X G aChkPlace
  have bChkPlace := FChkPlace.binds (ps := ["box", "value"]) fun _ _ _ _ _ _ us hl => match us, hl with | [_, _], _ => rfl
  obtain ⟨fFirstTo, DFirstTo, FFirstTo, aFirstTo⟩ := dFirstTo.ex
  have mFirstTo_ := PySem.W.mg_of X G aFirstTo
  have bFirstTo := FFirstTo.binds (ps := ["table", "letters", "states"]) fun _ _ _ _ _ _ us hl => match us, hl with | [_, _, _], _ => rfl
  obtain ⟨fMarked, DMarked, FMarked, aMarked⟩ := dMarked.ex
  have mMarked_ := PySem.W.mg_of X G aMarked
  have bMarked := FMarked.binds (ps := ["states"]) fun _ _ _ _ _ _ us hl => match us, hl with | [_], _ => rfl
  obtain ⟨fSpelled, DSpelled, FSpelled, aSpelled⟩ := dSpelled.ex
  have mSpelled_ := PySem.W.mg_of X G aSpelled
  have bSpelled := FSpelled.binds (ps := ["came", "state"]) fun _ _ _ _ _ _ us hl => match us, hl with | [_, _], _ => rfl
  obtain ⟨fMadeB, DMadeB, FMadeB, aMadeB⟩ := dMadeB.ex
  have mMadeB_ := PySem.W.mg_of X G aMadeB
  have bMadeB := FMadeB.binds (ps := ["letters", "table"]) fun _ _ _ _ _ _ us hl => match us, hl with | [_, _], _ => rfl
  obtain ⟨fLeanT, DLeanT, FLeanT, aLeanT⟩ := dLeanT.ex
  have mLeanT_ := PySem.W.mg_of X G aLeanT
  have bLeanT := FLeanT.binds (ps := ["table"]) fun _ _ _ _ _ _ us hl => match us, hl with | [_], _ => rfl
  obtain ⟨fReached, DReached, FReached, aReached⟩ := dReached.ex
  have mReached_ := PySem.W.mg_of X G aReached
  have bReached := FReached.binds (ps := ["table"]) fun _ _ _ _ _ _ us hl => match us, hl with | [_], _ => rfl
  obtain ⟨fCheck, DCheck, FCheck, aCheck⟩ := dCheck.ex
  have mCheck_ := PySem.W.mg_of X G aCheck
  have bCheck := FCheck.binds (ps := ["value"]) fun _ _ _ _ _ _ us hl => match us, hl with | [_], _ => rfl
  obtain ⟨fOnlyC, DOnlyC, FOnlyC, aOnlyC⟩ := dOnlyC.ex
  have mOnlyC_ := PySem.W.mg_of X G aOnlyC
  have bOnlyC := FOnlyC.binds (ps := ["word", "letters"]) fun _ _ _ _ _ _ us hl => match us, hl with | [_, _], _ => rfl
  obtain ⟨fActed, DActed, FActed, aActed, cAct_⟩ := dActed.ex
  have mActed_ := PySem.W.mg_of X G aActed
  have bActed := FActed.binds (ps := ["table", "letters", "word"]) fun _ _ _ _ _ _ us hl => match us, hl with | [_, _, _], _ => rfl
  obtain ⟨fWalked, DWalked, FWalked, aWalked⟩ := dWalked.ex
  have mWalked_ := PySem.W.mg_of X G aWalked
  have bWalked := FWalked.binds (ps := ["start", "step", "word"]) fun _ _ _ _ _ _ us hl => match us, hl with | [_, _, _], _ => rfl
  obtain ⟨fRepeats, DRepeats, FRepeats, aRepeats⟩ := dRepeats.ex
  have mRepeats_ := PySem.W.mg_of X G aRepeats
  have bRepeats := FRepeats.binds (ps := ["action"]) fun _ _ _ _ _ _ us hl => match us, hl with | [_], _ => rfl
  obtain ⟨fComposed, DComposed, FComposed, aComposed⟩ := dComposed.ex
  have mComposed_ := PySem.W.mg_of X G aComposed
  have bComposed := FComposed.binds (ps := ["first", "second"]) fun _ _ _ _ _ _ us hl => match us, hl with | [_, _], _ => rfl
  obtain ⟨fPairRight, DPairRight, FPairRight, aPairRight⟩ := dPairRight.ex
  have mPairRight_ := PySem.W.mg_of X G aPairRight
  have bPairRight := FPairRight.binds (ps := ["one", "other", "words"]) fun _ _ _ _ _ _ us hl => match us, hl with | [_, _, _], _ => rfl
  obtain ⟨fLed, DLed, FLed, aLed⟩ := dLed.ex
  have mLed_ := PySem.W.mg_of X G aLed
  have bLed := FLed.binds (ps := ["table", "letters", "start", "word"]) fun _ _ _ _ _ _ us hl => match us, hl with | [_, _, _, _], _ => rfl
  obtain ⟨fChkBox, DChkBox, FChkBox, aChkBox⟩ := dChkBox.ex
  have mChkBox_ := PySem.W.mg_of X G aChkBox
  have bChkBox := FChkBox.binds (ps := ["value"]) fun _ _ _ _ _ _ us hl => match us, hl with | [_], _ => rfl
  obtain ⟨fSameL, DSameL, FSameL, aSameL⟩ := dSameL.ex
  have mSameL_ := PySem.W.mg_of X G aSameL
  have bSameL := FSameL.binds (ps := ["one", "other"]) fun _ _ _ _ _ _ us hl => match us, hl with | [_, _], _ => rfl
  obtain ⟨fBeside, DBeside, FBeside, aBeside⟩ := dBeside.ex
  have mBeside_ := PySem.W.mg_of X G aBeside
  have bBeside := FBeside.binds (ps := ["one", "other"]) fun _ _ _ _ _ _ us hl => match us, hl with | [_, _], _ => rfl
  obtain ⟨fBFw, DBFw, FBFw, MBFw⟩ := mBFw.ex
  have bBFw := FBFw.binds (ps := ["self", "place"]) fun _ _ _ _ _ _ us hl => match us, hl with | [_, _], _ => rfl
  obtain ⟨fBoxLen, DBoxLen, FBoxLen, MBoxLen⟩ := mBoxLen.ex
  have bBoxLen := FBoxLen.binds (ps := ["self"]) fun _ _ _ _ _ _ us hl => match us, hl with | [_], _ => rfl
  obtain ⟨fBLean, DBLean, FBLean, MBLean⟩ := mBLean.ex
  have bBLean := FBLean.binds (ps := ["self"]) fun _ _ _ _ _ _ us hl => match us, hl with | [_], _ => rfl
  obtain ⟨fBLag, DBLag, FBLag, MBLag⟩ := mBLag.ex
  have bBLag := FBLag.binds (ps := ["self", "word"]) fun _ _ _ _ _ _ us hl => match us, hl with | [_, _], _ => rfl
  obtain ⟨fBChk, DBChk, FBChk, MBChk⟩ := mBChk.ex
  have bBChk := FBChk.binds (ps := ["self", "word"]) fun _ _ _ _ _ _ us hl => match us, hl with | [_, _], _ => rfl
  obtain ⟨fBAct, DBAct, FBAct, MBAct⟩ := mBAct.ex
  have bBAct := FBAct.binds (ps := ["self", "word"]) fun _ _ _ _ _ _ us hl => match us, hl with | [_, _], _ => rfl
  obtain ⟨fBAnd, DBAnd, FBAnd, MBAnd⟩ := mBAnd.ex
  have bBAnd := FBAnd.binds (ps := ["self", "other"]) fun _ _ _ _ _ _ us hl => match us, hl with | [_, _], _ => rfl
  obtain ⟨qBLet, fBLet, DBLet, FBLet, QBLet⟩ := pBLet.ex
  have bBLet := FBLet.binds (ps := ["self"]) fun _ _ _ _ _ _ us hl => match us, hl with | [_], _ => rfl
  obtain ⟨fBEq, DBEq, FBEq, MBEq⟩ := mBEq.ex
  have bBEq := FBEq.binds (ps := ["self", "other"]) fun _ _ _ _ _ _ us hl => match us, hl with | [_, _], _ => rfl
  have e := hfa.symm.trans mLaw_
  cases e
  have TI : TxI mg := ⟨(PySem.W.mg_none_of X G z_int), (PySem.W.mg_none_of X G z_abs), (PySem.W.mg_none_of X G z_len)⟩
  have DD : DefsD K mg := ⟨fRoll, fOneOf, DRoll, DOneOf, FRoll, bRoll, mRoll_, FOneOf, bOneOf, mOneOf_⟩
  have TM : TxM mg := ⟨(PySem.W.mg_none_of X G z_list), (PySem.W.mg_none_of X G z_sorted), (PySem.W.mg_none_of X G z_range), (PySem.W.mg_none_of X G z_tuple), (PySem.W.mg_none_of X G z_len)⟩
  have zZ : mg "zip" = none := (PySem.W.mg_none_of X G z_zip)
  have DW : DefsW K mg := ⟨fBetween, fIsWord, fHasOnly, DBetween, DIsWord, DHasOnly, FBetween, bBetween, mBetween_, FIsWord, bIsWord, mIsWord_, FHasOnly, bHasOnly, mHasOnly_⟩
  have TW : TxW mg := ⟨(PySem.W.mg_none_of X G z_isinstance), (PySem.W.mg_none_of X G z_bool), (PySem.W.mg_none_of X G z_int), (PySem.W.mg_none_of X G z_str), (PySem.W.mg_none_of X G z_tuple), (PySem.W.mg_none_of X G z_all), ⟨_, PySem.W.mg_of X G vA⟩⟩
  have TZ : TxZ mg := ⟨(PySem.W.mg_none_of X G z_zip), (PySem.W.mg_none_of X G z_len), ⟨_, PySem.W.mg_of X G vL⟩⟩
  have zE : mg "enumerate" = none := (PySem.W.mg_none_of X G z_enumerate)
  have clBx : Cls K cBx ∧ NoAttr K cBx "_letters" ∧ NoAttr K cBx "_table" := clsXB_ok hBx
  have TB : TxB K mg cBx := ⟨clBx.1, clBx.2.1, clBx.2.2, ⟨_, PySem.W.mg_of X G vP⟩, ⟨_, PySem.W.mg_of X G vC⟩, ⟨_, PySem.W.mg_of X G vT⟩⟩
  have TRB : TxR K mg "InvalidBox" cB := errR eB (PySem.W.mg_of X G gB)
  have TG : TxG P K mg cG := errG_ok eG tG (PySem.W.mg_of X G gG)
  obtain ⟨fBI, DBI, FBI, MKBI⟩ := mBI.ex
  have bBI := FBI.binds (ps := ["self", "letters", "table"]) fun _ _ _ _ _ _ us hl => match us, hl with | [_, _, _], _ => rfl
  have mCBx : mg "Box" = some (.ref cBx) := PySem.W.mg_of X G gBx
  have TN : TxN P K mg cN := errN_ok eN tN (PySem.W.mg_of X G gN)
  have TRW : TxR K mg "InvalidWord" cW := errR eW (PySem.W.mg_of X G gW)
  have TRO : TxR K mg "InvalidOperation" cO := errR eO (PySem.W.mg_of X G gO)
  obtain ⟨fBCall, DBCall, FBCall, kBCall⟩ := mCl.ex
  have bBCall := FBCall.binds (ps := ["self", "word"]) fun _ _ _ _ _ _ us hl => match us, hl with | [_, _], _ => rfl
  have TOB : TxOB K cBx := clsOB_ok hOB
  have TL : TxL mg := ⟨(PySem.W.mg_none_of X G z_max), (PySem.W.mg_none_of X G z_min)⟩
  refine ⟨DLaw, ?_, fun base _ _ TBt => ?_⟩
  rotate_left
  · let _u := ()
    have hin : ((Pt, nmActed) : NdefX.NTab) ∈ [(Pt, nmActed)] := List.mem_singleton.mpr rfl
    have hun : ∀ p ∈ ([(Pt, nmActed)] : List NdefX.NTab), p.1 = Pt → p.2 = nmActed := fun p hp _ => by rw [List.mem_singleton.mp hp]
    let cDice : FnC P w K mg base 1 "_law_dice" ["script", "at"] (spDice K) := ⟨fDice, DDice, ok_dice FDice TI, bDice, mDice_, FDice.kp⟩
    let cRoll : FnC P w K mg base 1 "_law_roll" ["dice", "total"] spDraw := ⟨fRoll, DRoll, ok_draw FRoll TI, bRoll, mRoll_, FRoll.kp⟩
    let cLetters : FnC P w K mg base 3 "_law_letters" ["dice", "total"] spLetters := ⟨fLetters, DLetters, ok_letters FLetters FMixed bMixed mMixed_ DD TI TM, bLetters, mLetters_, FLetters.kp⟩
    let cShort : FnC P w K mg base 1 "_law_short_words" ["letters", "most"] spShort := ⟨fShort, DShort, ok_short FShort TM, bShort, mShort_, FShort.kp⟩
    let cAllTabs : FnC P w K mg base 1 "_law_all_tables" ["total", "letters"] spAllTabs := ⟨fAllTabs, DAllTabs, ok_alltabs FAllTabs TM, bAllTabs, mAllTabs_, FAllTabs.kp⟩
    let cLA : FnC P w K mg base 1 "_law_actions" ["table", "letters", "most"] (spLawActs K) := ⟨fLawActs, DLawActs, ok_lawacts FLawActs TM zZ, bLawActs, mLawActs_, FLawActs.kp⟩
    let cGoes : FnC P w K mg base 1 "_law_goes_round" ["action", "place"] (spGoes K) := ⟨fGoes, DGoes, ok_goes FGoes TM, bGoes, mGoes_, FGoes.kp⟩
    let cFirstT : FnC P w K mg base 2 "_law_first_turn" ["table", "letters"] (spFirstT K) := ⟨fFirstT, DFirstT, ok_firstt FFirstT cLA cGoes TM, bFirstT, mFirstT_, FFirstT.kp⟩
    let cIsLet : FnC P w K mg base 3 "is_letters" ["value"] (spIsLetters K) := ⟨fIsLetters, DIsLetters, ok_isletters FIsLetters DW TW TZ, bIsLetters, mIsLetters_, FIsLetters.kp⟩
    let cIsTab : FnC P w K mg base 3 "is_table" ["value", "width", "most"] (spIsTable K) := ⟨fIsTable, DIsTable, ok_istable FIsTable FIsLine bIsLine mIsLine_ DW TW TZ, bIsTable, mIsTable_, FIsTable.kp⟩
    let cWds : FnC P w K mg base 2 "action_words" ["table", "letters", "most"] (spActWordsE K) := ⟨fActWords, DActWords, ok_actwordsE FActWords FUnmoved bUnmoved mUnmoved_ FLedOn bLedOn mLedOn_ TM zE, bActWords, mActWords_, FActWords.kp⟩
    have GTurned : FnOk P w K mg base CX0 2 fTurned DTurned ["action"] (spTurned K) := ok_turned FTurned FComes bComes mComes_ zE
    let cAmong : FnC P w K mg base 3 "turn_among" ["words"] spAmong := ⟨fAmong, DAmong, ok_among FAmong GTurned FTurned.kp bTurned mTurned_, bAmong, mAmong_, FAmong.kp⟩
    have GBI : FnOk P w K mg base (L2.CX P w) 4 fBI DBI ["self", "letters", "table"] (spBoxInit K cBx cG) := ok_boxinit FBI cIsLet cIsTab cWds cAmong TZ TB TRB TG.a /- obBI -/
    let cToldBox : FnC P w K mg base 6 "_law_told_box" ["letters", "table"] (spToldBox K cBx) := ⟨fToldBox, DToldBox, ok_toldbox FToldBox GBI bBI MKBI mCBx TG TM, bToldBox, mToldBox_, FToldBox.kp⟩
    let cOneOf : FnC P w K mg base 2 "_law_one_of" ["dice", "items"] (spOneOf K) := ⟨fOneOf, DOneOf, ok_oneof FOneOf FRoll bRoll mRoll_ TI, bOneOf, mOneOf_, FOneOf.kp⟩
    let cFirstsL : FnC P w K mg base 1 "_law_firsts" ["table", "letters"] (spFirstsL K) := ⟨fFirstsL, DFirstsL, ok_firstsl FFirstsL TM zZ, bFirstsL, mFirstsL_, FFirstsL.kp⟩
    let oBLen : OpC P w K mg base cBx 1 "__len__" ["self"] (spBoxLen K cBx) := ⟨fBoxLen, DBoxLen, ok_boxlen FBoxLen TZ TB, bBoxLen, MBoxLen⟩
    let cChkPlace : FnC P w K mg base 3 "check_place" ["box", "value"] (spChkPlace K cBx) := ⟨fChkPlace, DChkPlace, ok_chkplace FChkPlace DW TW TM oBLen TN, bChkPlace, mChkPlace_, FChkPlace.kp⟩
    let cFirstTo : FnC P w K mg base 2 "first_word_to" ["table", "letters", "states"] (spFirstTo K) := ⟨fFirstTo, DFirstTo, ok_firstto FFirstTo FMarked bMarked mMarked_ FSpelled bSpelled mSpelled_ TM zZ, bFirstTo, mFirstTo_, FFirstTo.kp⟩
    let oBFw : OpC P w K mg base cBx 4 "first_word" ["self", "place"] (spBFw K cBx) := ⟨fBFw, DBFw, ok_bfw (fC := fBFw) FBFw cChkPlace cFirstTo TB, bBFw, MBFw⟩
    let cMadeB : FnC P w K mg base 6 "made_box" ["letters", "table"] (spMadeB K cBx) := ⟨fMadeB, DMadeB, ok_madeb FMadeB MKBI GBI bBI mCBx TM TB, bMadeB, mMadeB_, FMadeB.kp⟩
    let cLeanT : FnC P w K mg base 2 "lean_table" ["table"] (spLeanT K) := ⟨fLeanT, DLeanT, ok_leant FLeanT FReached bReached mReached_ TI TM zE, bLeanT, mLeanT_, FLeanT.kp⟩
    let oBLean : OpC P w K mg base cBx 7 "lean" ["self"] (spBLean K cBx) := ⟨fBLean, DBLean, ok_blean FBLean cMadeB cLeanT TB, bBLean, MBLean⟩
    let cCheck : FnC P w K mg base 3 "check_word" ["value"] spCheck := ⟨fCheck, DCheck, ok_check FCheck DW TW TRW, bCheck, mCheck_, FCheck.kp⟩
    let cOnlyC : FnC P w K mg base 2 "check_only" ["word", "letters"] spOnlyC := ⟨fOnlyC, DOnlyC, ok_onlyc FOnlyC DW TW TRO, bOnlyC, mOnlyC_, FOnlyC.kp⟩
    have GChk : FnOk P w K mg base CX0 4 fBChk DBChk ["self", "word"] (spBChk K cBx) := ok_bchk FBChk cCheck cOnlyC TB
    let cActed : FnC P w K mg base 4 "acted" ["table", "letters", "word"] (spActed K [(Pt, nmActed)]) := ⟨fActed, DActed, ok_acted FActed cAct_ TBt hin hun FUnmoved bUnmoved mUnmoved_ FLedOn bLedOn mLedOn_ FWalked bWalked mWalked_ TM, bActed, mActed_, FActed.kp⟩
    let cRepeats : FnC P w K mg base 2 "repeats" ["action"] (spRepeats K) := ⟨fRepeats, DRepeats, ok_repeats FRepeats FComposed bComposed mComposed_ TM, bRepeats, mRepeats_, FRepeats.kp⟩
    let oBLag : OpC P w K mg base cBx 5 "lag" ["self", "word"] (spBLag K [(Pt, nmActed)] cBx) := ⟨fBLag, DBLag, ok_blag FBLag GChk bBChk MBChk cActed cRepeats TB, bBLag, MBLag⟩
    let oBAct : OpC P w K mg base cBx 5 "action" ["self", "word"] (spBAct K [(Pt, nmActed)] cBx) := ⟨fBAct, DBAct, ok_bact FBAct GChk bBChk MBChk cActed TB, bBAct, MBAct⟩
    let cOneR : FnC P w K mg base 8 "_law_one_right" ["letters", "table", "box", "words"] (spOneRight K [(Pt, nmActed)] cBx) := ⟨fOneRight, DOneRight, ok_oneright FOneRight cFirstsL oBFw oBLean oBLen oBLag oBAct TB TM, bOneRight, mOneRight_, FOneRight.kp⟩
    have GChkW : FnOk P w K mg base CX0 4 fBChk DBChk ["self", "word"] (spBChkW K cBx) := ok_bchkw FBChk cCheck cOnlyC TB
    let cLed : FnC P w K mg base 1 "led" ["table", "letters", "start", "word"] (spLed K) := ⟨fLed, DLed, ok_led FLed, bLed, mLed_, FLed.kp⟩
    have GCallW : FnOk P w K mg base CX0 5 fBCall DBCall ["self", "word"] (spBCallW K cBx) := ok_bcallw FBCall GChkW bBChk MBChk cLed TB /- obCl -/
    let cChkBox : FnC P w K mg base 1 "check_box" ["value"] (spChkBox K cBx) := ⟨fChkBox, DChkBox, ok_chkbox FChkBox TW TB TOB mCBx TRB, bChkBox, mChkBox_, FChkBox.kp⟩
    let pBL : PrC P w K mg base cBx 1 "letters" (spBLet K cBx) := ⟨qBLet, fBLet, DBLet, QBLet, ok_blet FBLet TB, bBLet⟩
    let cSameLB : FnC P w K mg base 3 "check_same_letters" ["one", "other"] (spSameLB K cBx) := ⟨fSameL, DSameL, ok_samelb FSameL pBL TB TRO, bSameL, mSameL_, FSameL.kp⟩
    let cBeside : FnC P w K mg base 1 "beside" ["one", "other"] (spBeside K) := ⟨fBeside, DBeside, ok_beside FBeside TI TM zZ, bBeside, mBeside_, FBeside.kp⟩
    let oBAnd : OpC P w K mg base cBx 7 "__and__" ["self", "other"] (spBAnd K cBx) := ⟨fBAnd, DBAnd, ok_band FBAnd cChkBox cSameLB cMadeB cBeside TB, bBAnd, MBAnd⟩
    let oBE : OpC P w K mg base cBx 1 "__eq__" ["self", "other"] (spBEq K cBx) := ⟨fBEq, DBEq, ok_beq FBEq TW TB mCBx, bBEq, MBEq⟩
    let cPairR : FnC P w K mg base 8 "_law_pair_right" ["one", "other", "words"] (spPairRight K cBx) := ⟨fPairRight, DPairRight, ok_pairright FPairRight kBCall GCallW bBCall oBAnd oBE oBLean hSF TB TOB TM, bPairRight, mPairRight_, FPairRight.kp⟩
    exact ok_law FLaw cDice cRoll cLetters cShort cAllTabs cFirstT cToldBox cOneOf cOneR cPairR TB TOB mCBx TW TM TL
  · obtain ⟨oc, od, kV, doc, pm, an, cdv, ct, osl, el, lk, hcd⟩ := FLaw.ex
    subst el
    exact fun s v => .of_eq rfl
end M3

set_option Elab.async false
set_option linter.all false
set_option maxRecDepth 100000
open PySem PySem.W PyProof.Rows
set_option maxHeartbeats 0 in
theorem PySem.Challenge.cw_neverturns_k68_whole_boxes_by_force_holds : PySem.Challenge.rw_neverturns_k68_whole_boxes_by_force.Holds := by
  w_on; o_law; k_head; (case hw => w_witness2)
  k_fill
  refine M3.walk_ofKT (l := PySem.Challenge.rw_neverturns_k68_whole_boxes_by_force) (n := 63) (k := 9) (x := "script") rfl (by decide) rfl ⟨rfl, by decide, by decide⟩ (fun w h Y => PySem.W.km_in_of Y) ?F
  intro w mg fa h Y KX G hmg
  refine M3.lawAt_of (c := ?nvcc) (P := _) (nm := M3.nmActed) (sp := M3.spLaw _ [(_, M3.nmActed)]) ?nvA (fun H a ns hl hT hS => ⟨a, ns, rfl, hT, hS, hl, fun _ => rfl⟩) (PySem.W.km_tabs_of Y _ (.head _)) ?nvN ?nvC
  case nvN => kernel_rfl
  case nvA =>
    refine' M3.all_mk KX G hmg ?nvdLaw ?nvdDice ?nvdRoll ?nvdLetters ?nvdMixed ?nvdOneOf ?nvdShort ?nvdAllTabs ?nvdFirstT ?nvdLawActs ?nvdGoes ?nvdToldBox ?nvdIsLetters ?nvdBetween ?nvdIsWord ?nvdHasOnly ?nvdIsTable ?nvdIsLine ?nvdActWords ?nvdUnmoved ?nvdLedOn ?nvdAmong ?nvdTurned ?nvdComes ?nvdOneRight ?nvdFirstsL ?nvdChkPlace ?nvdFirstTo ?nvdMarked ?nvdSpelled ?nvdMadeB ?nvdLeanT ?nvdReached ?nvdCheck ?nvdOnlyC ?nvdActed ?nvdWalked ?nvdRepeats ?nvdComposed ?nvdPairRight ?nvdLed ?nvdChkBox ?nvdSameL ?nvdBeside ?nvvA ?nvvL ?nvhBx ?nvvP ?nvvC ?nvvT ?nveB ?nvgB ?nveG ?nvtG ?nvgG ?nvmBI ?nvgBx ?nveN ?nvtN ?nvgN ?nveW ?nvgW ?nveO ?nvgO ?nvmCl ?nvhOB ?nvhSF ?nvmBFw ?nvmBoxLen ?nvmBLean ?nvmBLag ?nvmBChk ?nvmBAct ?nvmBAnd ?nvpBLet ?nvmBEq ?nvz_int ?nvz_abs ?nvz_len ?nvz_list ?nvz_sorted ?nvz_range ?nvz_tuple ?nvz_zip ?nvz_isinstance ?nvz_bool ?nvz_str ?nvz_all ?nvz_enumerate ?nvz_max ?nvz_min
    case nvdLaw => (refine' M3.def_mk ?a ?l ?c ?k; (case a => k_is); (case l => k_is); (case c => k_is); (case k => k_is))
    case nvdDice => (refine' M3.def_mk ?a ?l ?c ?k; (case a => k_is); (case l => k_is); (case c => k_is); (case k => k_is))
    case nvdRoll => (refine' M3.def_mk ?a ?l ?c ?k; (case a => k_is); (case l => k_is); (case c => k_is); (case k => k_is))
    case nvdLetters => (refine' M3.def_mk ?a ?l ?c ?k; (case a => k_is); (case l => k_is); (case c => k_is); (case k => k_is))
    case nvdMixed => (refine' M3.def_mk ?a ?l ?c ?k; (case a => k_is); (case l => k_is); (case c => k_is); (case k => k_is))
    case nvdOneOf => (refine' M3.def_mk ?a ?l ?c ?k; (case a => k_is); (case l => k_is); (case c => k_is); (case k => k_is))
    case nvdShort => (refine' M3.def_mk ?a ?l ?c ?k; (case a => k_is); (case l => k_is); (case c => k_is); (case k => k_is))
    case nvdAllTabs => (refine' M3.def_mk ?a ?l ?c ?k; (case a => k_is); (case l => k_is); (case c => k_is); (case k => k_is))
    case nvdFirstT => (refine' M3.def_mk ?a ?l ?c ?k; (case a => k_is); (case l => k_is); (case c => k_is); (case k => k_is))
    case nvdLawActs => (refine' M3.def_mk ?a ?l ?c ?k; (case a => k_is); (case l => k_is); (case c => k_is); (case k => k_is))
    case nvdGoes => (refine' M3.def_mk ?a ?l ?c ?k; (case a => k_is); (case l => k_is); (case c => k_is); (case k => k_is))
    case nvdToldBox => (refine' M3.def_mk ?a ?l ?c ?k; (case a => k_is); (case l => k_is); (case c => k_is); (case k => k_is))
    case nvdIsLetters => (refine' M3.def_mk ?a ?l ?c ?k; (case a => k_is); (case l => k_is); (case c => k_is); (case k => k_is))
    case nvdBetween => (refine' M3.def_mk ?a ?l ?c ?k; (case a => k_is); (case l => k_is); (case c => k_is); (case k => k_is))
    case nvdIsWord => (refine' M3.def_mk ?a ?l ?c ?k; (case a => k_is); (case l => k_is); (case c => k_is); (case k => k_is))
    case nvdHasOnly => (refine' M3.def_mk ?a ?l ?c ?k; (case a => k_is); (case l => k_is); (case c => k_is); (case k => k_is))
    case nvdIsTable => (refine' M3.def_mk ?a ?l ?c ?k; (case a => k_is); (case l => k_is); (case c => k_is); (case k => k_is))
    case nvdIsLine => (refine' M3.def_mk ?a ?l ?c ?k; (case a => k_is); (case l => k_is); (case c => k_is); (case k => k_is))
    case nvdActWords => (refine' M3.def_mk ?a ?l ?c ?k; (case a => k_is); (case l => k_is); (case c => k_is); (case k => k_is))
    case nvdUnmoved => (refine' M3.def_mk ?a ?l ?c ?k; (case a => k_is); (case l => k_is); (case c => k_is); (case k => k_is))
    case nvdLedOn => (refine' M3.def_mk ?a ?l ?c ?k; (case a => k_is); (case l => k_is); (case c => k_is); (case k => k_is))
    case nvdAmong => (refine' M3.def_mk ?a ?l ?c ?k; (case a => k_is); (case l => k_is); (case c => k_is); (case k => k_is))
    case nvdTurned => (refine' M3.def_mk ?a ?l ?c ?k; (case a => k_is); (case l => k_is); (case c => k_is); (case k => k_is))
    case nvdComes => (refine' M3.def_mk ?a ?l ?c ?k; (case a => k_is); (case l => k_is); (case c => k_is); (case k => k_is))
    case nvdOneRight => (refine' M3.def_mk ?a ?l ?c ?k; (case a => k_is); (case l => k_is); (case c => k_is); (case k => k_is))
    case nvdFirstsL => (refine' M3.def_mk ?a ?l ?c ?k; (case a => k_is); (case l => k_is); (case c => k_is); (case k => k_is))
    case nvdChkPlace => (refine' M3.def_mk ?a ?l ?c ?k; (case a => k_is); (case l => k_is); (case c => k_is); (case k => k_is))
    case nvdFirstTo => (refine' M3.def_mk ?a ?l ?c ?k; (case a => k_is); (case l => k_is); (case c => k_is); (case k => k_is))
    case nvdMarked => (refine' M3.def_mk ?a ?l ?c ?k; (case a => k_is); (case l => k_is); (case c => k_is); (case k => k_is))
    case nvdSpelled => (refine' M3.def_mk ?a ?l ?c ?k; (case a => k_is); (case l => k_is); (case c => k_is); (case k => k_is))
    case nvdMadeB => (refine' M3.def_mk ?a ?l ?c ?k; (case a => k_is); (case l => k_is); (case c => k_is); (case k => k_is))
    case nvdLeanT => (refine' M3.def_mk ?a ?l ?c ?k; (case a => k_is); (case l => k_is); (case c => k_is); (case k => k_is))
    case nvdReached => (refine' M3.def_mk ?a ?l ?c ?k; (case a => k_is); (case l => k_is); (case c => k_is); (case k => k_is))
    case nvdCheck => (refine' M3.def_mk ?a ?l ?c ?k; (case a => k_is); (case l => k_is); (case c => k_is); (case k => k_is))
    case nvdOnlyC => (refine' M3.def_mk ?a ?l ?c ?k; (case a => k_is); (case l => k_is); (case c => k_is); (case k => k_is))
    case nvdActed => (refine' M3.defc_mk ?a ?l ?c' ?k; (case a => k_is); (case l => k_is); (case c' => k_is); (case k => k_is))
    case nvdWalked => (refine' M3.def_mk ?a ?l ?c ?k; (case a => k_is); (case l => k_is); (case c => k_is); (case k => k_is))
    case nvdRepeats => (refine' M3.def_mk ?a ?l ?c ?k; (case a => k_is); (case l => k_is); (case c => k_is); (case k => k_is))
    case nvdComposed => (refine' M3.def_mk ?a ?l ?c ?k; (case a => k_is); (case l => k_is); (case c => k_is); (case k => k_is))
    case nvdPairRight => (refine' M3.def_mk ?a ?l ?c ?k; (case a => k_is); (case l => k_is); (case c => k_is); (case k => k_is))
    case nvdLed => (refine' M3.def_mk ?a ?l ?c ?k; (case a => k_is); (case l => k_is); (case c => k_is); (case k => k_is))
    case nvdChkBox => (refine' M3.def_mk ?a ?l ?c ?k; (case a => k_is); (case l => k_is); (case c => k_is); (case k => k_is))
    case nvdSameL => (refine' M3.def_mk ?a ?l ?c ?k; (case a => k_is); (case l => k_is); (case c => k_is); (case k => k_is))
    case nvdBeside => (refine' M3.def_mk ?a ?l ?c ?k; (case a => k_is); (case l => k_is); (case c => k_is); (case k => k_is))
    case nvvA => k_is
    case nvvL => k_is
    case nvvP => k_is
    case nvvC => k_is
    case nvvT => k_is
    case nvgB => k_is
    case nvgG => k_is
    case nvgBx => k_is
    case nvgN => k_is
    case nvgW => k_is
    case nvgO => k_is
    case nvz_int => k_is
    case nvz_abs => k_is
    case nvz_len => k_is
    case nvz_list => k_is
    case nvz_sorted => k_is
    case nvz_range => k_is
    case nvz_tuple => k_is
    case nvz_zip => k_is
    case nvz_isinstance => k_is
    case nvz_bool => k_is
    case nvz_str => k_is
    case nvz_all => k_is
    case nvz_enumerate => k_is
    case nvz_max => k_is
    case nvz_min => k_is
    case nvhSF => kernel_rfl
    case nvhOB => kernel_rfl
    case nveO => kernel_rfl
    case nveW => kernel_rfl
    case nveN => kernel_rfl
    case nveG => kernel_rfl
    case nveB => kernel_rfl
    case nvhBx => kernel_rfl
    case nvtG =>
      refine' NvI.init_mk ?nvic ?nvl1 ?nvc1 ?nvl2 ?nvv2 ?nvfl ?nvl3 ?nvev ?nvl4 ?nvrl ?nvob ?nvnb PySem.F.excBase_LookupError ?nvti ?nvself ?nvup ?nvisb ?nvstat ?nvsa ?nvnof (PySem.NvE.inF_of PySem.F.excBase_LookupError PySem.W.kxs_LookupError) ?nvsup (by decide +kernel) (by decide +kernel) (by decide +kernel) (by decide +kernel) (by decide +kernel) (by decide +kernel) (by decide +kernel) (fun _ _ _ _ _ _ _ _ _ _ _ => rfl)
      case nvic => k_is
      case nvl1 => k_is
      case nvc1 => k_is
      case nvl2 => k_is
      case nvv2 => rfl
      case nvfl => decide +kernel
      case nvl3 => k_is
      case nvev => exact fun _ _ _ _ => ⟨_, rfl⟩
      case nvl4 => k_is
      case nvrl => exact fun _ => rfl
      case nvob => decide +kernel
      case nvnb => exact ⟨by decide +kernel, by decide +kernel, by decide +kernel⟩
      case nvti => k_is
      case nvself => k_is
      case nvup => kernel_rfl
      case nvisb => k_is
      case nvstat => k_is
      case nvsa => k_is
      case nvnof => k_is
      case nvsup => k_is
    case nvmBI => (refine' M3.binit_at ?i ?mk ?fn ?kp ?l ?c ?k; (case i => k_is); (case mk => k_is); (case fn => k_is); (case kp => k_is); (case l => k_is); (case c => k_is); (case k => k_is))
    case nvtN =>
      refine' NvI.init_mk ?nvic ?nvl1 ?nvc1 ?nvl2 ?nvv2 ?nvfl ?nvl3 ?nvev ?nvl4 ?nvrl ?nvob ?nvnb PySem.F.excBase_RuntimeError ?nvti ?nvself ?nvup ?nvisb ?nvstat ?nvsa ?nvnof (PySem.NvE.inF_of PySem.F.excBase_RuntimeError PySem.W.kxs_RuntimeError) ?nvsup (by decide +kernel) (by decide +kernel) (by decide +kernel) (by decide +kernel) (by decide +kernel) (by decide +kernel) (by decide +kernel) (fun _ _ _ _ _ _ _ _ _ _ _ => rfl)
      case nvic => k_is
      case nvl1 => k_is
      case nvc1 => k_is
      case nvl2 => k_is
      case nvv2 => rfl
      case nvfl => decide +kernel
      case nvl3 => k_is
      case nvev => exact fun _ _ _ _ => ⟨_, rfl⟩
      case nvl4 => k_is
      case nvrl => exact fun _ => rfl
      case nvob => decide +kernel
      case nvnb => exact ⟨by decide +kernel, by decide +kernel, by decide +kernel⟩
      case nvti => k_is
      case nvself => k_is
      case nvup => kernel_rfl
      case nvisb => k_is
      case nvstat => k_is
      case nvsa => k_is
      case nvnof => k_is
      case nvsup => k_is
    case nvmCl => (refine' M3.call_mk ?a ?f ?i ?l ?c ?k; (case a => k_is); (case f => k_is); (case i => k_is); (case l => k_is); (case c => k_is); (case k => k_is))
    case nvmBFw => (refine' M3.met_mk ?a ?f ?l ?c ?k; (case a => k_is); (case f => k_is); (case l => k_is); (case c => k_is); (case k => k_is))
    case nvmBoxLen => (refine' M3.met_mk ?a ?f ?l ?c ?k; (case a => k_is); (case f => k_is); (case l => k_is); (case c => k_is); (case k => k_is))
    case nvmBLean => (refine' M3.met_mk ?a ?f ?l ?c ?k; (case a => k_is); (case f => k_is); (case l => k_is); (case c => k_is); (case k => k_is))
    case nvmBLag => (refine' M3.met_mk ?a ?f ?l ?c ?k; (case a => k_is); (case f => k_is); (case l => k_is); (case c => k_is); (case k => k_is))
    case nvmBChk => (refine' M3.met_mk ?a ?f ?l ?c ?k; (case a => k_is); (case f => k_is); (case l => k_is); (case c => k_is); (case k => k_is))
    case nvmBAct => (refine' M3.met_mk ?a ?f ?l ?c ?k; (case a => k_is); (case f => k_is); (case l => k_is); (case c => k_is); (case k => k_is))
    case nvmBAnd => (refine' M3.met_mk ?a ?f ?l ?c ?k; (case a => k_is); (case f => k_is); (case l => k_is); (case c => k_is); (case k => k_is))
    case nvpBLet => (refine' M3.prop_mk ?a ?g ?t ?r ?l ?c ?k; (case a => k_is); (case g => k_is); (case t => k_is); (case r => k_is); (case l => k_is); (case c => k_is); (case k => k_is))
    case nvmBEq => (refine' M3.met_mk ?a ?f ?l ?c ?k; (case a => k_is); (case f => k_is); (case l => k_is); (case c => k_is); (case k => k_is))
  case nvC => exact PySem.W.codeHd_of_K KX (by kernel_rfl)
