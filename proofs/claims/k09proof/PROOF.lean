import PyProof.Rows.All
import Wide.All
import OpenK.AllK
import Wide.FinOn
import Lean
import PyProof.EqAt
import PyProof.EqKinds
import PyProof.TupleCall
import PyProof.Lay0
import KE.KIntText
import OpenK.KTop
import KE.KNestM
import KE.KRevIter
import KE.LcSums
import PyProof.SetKind
import PyProof.Rows.SetFrom
import PyProof.DictWalks
import PyProof.FactsAll.set
import PyProof.CollectWalk
import PyProof.Rows.SortShell
import KE.KDictSum
import PyProof.TupleKey
import PyProof.IsRules
import PyProof.SetRoads
import PyProof.P3In
import PySem.Challenge.RW_choicenet_k09_graphs_judged
set_option hygiene false in
local macro_rules | `(tactic| simp only [rdA]) => `(tactic| simp only [rd_ret, rd_retN, rd_drop, rd_asg, rd_name, rd_next, rd_cont, rd_break, rd_never, rd_var, rd_c, rd_op, rd_un, rd_rI0, rd_rI, rd_rU, rd_eqI, rd_eqS, rd_neI, rd_neS, rd_test, rd_tB, rd_and, rd_or, rd_not, rd_andV, rd_orV, rd_notV, rd_ife, rd_nil, rd_cons, rd_tup, rd_lst, rd_call, rd_callL, rd_cb, rd_bm, rd_bm0, rd_sl, rd_nopart, rd_part, rd_exbl, rd_exint, rd_exsome, rd_tyL, rd_app, rd_pop, rd_ins0, rd_ext, rd_rev, rd_cat, rd_ixT, rd_ixL, rd_slL, rd_inS, rd_dispC, kvC, rd_fldC, rd_dget, rd_din, rd_dnotin, rd_dput, rd_meth, rd_dget2, cx_K, CDiv, L2.start, cx_K2, List.map_cons, List.map_nil, List.length_cons, List.length_nil, Nat.reduceAdd, Nat.reduceSub, List.replicate_succ, List.replicate_zero, List.cons_append, List.nil_append, List.append_nil, List.getElem?_cons_zero, List.getElem?_cons_succ, List.set_cons_zero, List.set_cons_succ, V.ref.injEq, V.int.injEq, V.str.injEq, V.bl.injEq, List.cons.injEq, Option.some.injEq, and_true, true_and, exists_eq_left, exists_eq_left', exists_and_left, exists_eq', Nat.zero_add, if_true, if_false, Bool.false_eq_true, V.ty.injEq, and_assoc, Int.zero_add, Int.reduceLT, Int.reduceLE, Nat.reduceLeDiff, Int.reduceNeg, reduceCtorEq, false_and, exists_false, false_or, or_false, rd_s0, rd_s1, rd_s2, rd_s3, rd_s4, rd_s5, rd_s6, rd_s7, rd_s8, rd_s9])
set_option hygiene false in
local macro_rules | `(tactic| simp only [rdA, $xs,*]) => `(tactic| simp only [$xs,*, rd_ret, rd_retN, rd_drop, rd_asg, rd_name, rd_next, rd_cont, rd_break, rd_never, rd_var, rd_c, rd_op, rd_un, rd_rI0, rd_rI, rd_rU, rd_eqI, rd_eqS, rd_neI, rd_neS, rd_test, rd_tB, rd_and, rd_or, rd_not, rd_andV, rd_orV, rd_notV, rd_ife, rd_nil, rd_cons, rd_tup, rd_lst, rd_call, rd_callL, rd_cb, rd_bm, rd_bm0, rd_sl, rd_nopart, rd_part, rd_exbl, rd_exint, rd_exsome, rd_tyL, rd_app, rd_pop, rd_ins0, rd_ext, rd_rev, rd_cat, rd_ixT, rd_ixL, rd_slL, rd_inS, rd_dispC, kvC, rd_fldC, rd_dget, rd_din, rd_dnotin, rd_dput, rd_meth, rd_dget2, cx_K, CDiv, L2.start, cx_K2, List.map_cons, List.map_nil, List.length_cons, List.length_nil, Nat.reduceAdd, Nat.reduceSub, List.replicate_succ, List.replicate_zero, List.cons_append, List.nil_append, List.append_nil, List.getElem?_cons_zero, List.getElem?_cons_succ, List.set_cons_zero, List.set_cons_succ, V.ref.injEq, V.int.injEq, V.str.injEq, V.bl.injEq, List.cons.injEq, Option.some.injEq, and_true, true_and, exists_eq_left, exists_eq_left', exists_and_left, exists_eq', Nat.zero_add, if_true, if_false, Bool.false_eq_true, V.ty.injEq, and_assoc, Int.zero_add, Int.reduceLT, Int.reduceLE, Nat.reduceLeDiff, Int.reduceNeg, reduceCtorEq, false_and, exists_false, false_or, or_false, rd_s0, rd_s1, rd_s2, rd_s3, rd_s4, rd_s5, rd_s6, rd_s7, rd_s8, rd_s9])
section
set_option Elab.async false
set_option linter.all false
set_option maxRecDepth 100000
namespace L2
open PySem PySem.Spec PyProof.Rows
noncomputable abbrev Key := Sum Int Str
noncomputable def keyIs : Key → Value → Bool
  | .inl k, v => Value.isInt k v
  | .inr x, v => Value.isStrOf x v
noncomputable def keyH (w : World) : Key → Int
  | .inl k => hashInt k
  | .inr x => hashStr w x
theorem keyIs_shape : ∀ {k : Key} {v : Value}, keyIs k v = true → (∃ i t, k = Sum.inl i ∧ v = Value.int i t) ∨ (∃ x t, k = Sum.inr x ∧ v = Value.str x t)
  | .inl i, v, h => by
    obtain ⟨t, e⟩ := Value.isInt_shape (k := i) (v := v) h
    exact .inl ⟨i, t, rfl, e⟩
  | .inr x, v, h => by
    obtain ⟨t, e⟩ := Value.isStrOf_shape (x := x) (v := v) h
    exact .inr ⟨x, t, rfl, e⟩
theorem keyIs_int (i : Int) (t : Tok) : keyIs (.inl i) (.int i t) = true := by simp [keyIs, Value.isInt]
theorem keyIs_str (x : Str) (t : Tok) : keyIs (.inr x) (.str x t) = true := by simp [keyIs, Value.isStrOf]
theorem key_ll (a b : Int) : decide ((Sum.inl a : Key) = Sum.inl b) = (a == b) := by
  by_cases e : a = b
  · subst e; simp
  · have h : ¬ (Sum.inl a : Key) = Sum.inl b := fun q => e (Sum.inl.inj q)
    rw [decide_eq_false h]
    exact (beq_eq_false_iff_ne.mpr e).symm
theorem key_rr (a b : Str) : decide ((Sum.inr a : Key) = Sum.inr b) = decide (a = b) := by
  by_cases e : a = b
  · subst e; simp
  · have h : ¬ (Sum.inr a : Key) = Sum.inr b := fun q => e (Sum.inr.inj q)
    rw [decide_eq_false h, decide_eq_false e]
theorem key_lr (a : Int) (b : Str) : decide ((Sum.inl a : Key) = Sum.inr b) = false := decide_eq_false (fun q => nomatch q)
theorem key_rl (a : Str) (b : Int) : decide ((Sum.inr a : Key) = Sum.inl b) = false := decide_eq_false (fun q => nomatch q)
noncomputable def mixKind (prog : Program) (w : World) : PySem.KeyKind prog w Key where
  is := keyIs
  hash := keyH w
  inj := fun v a b ha hb => by
    rcases keyIs_shape ha with ⟨i, t, rfl, rfl⟩ | ⟨x, t, rfl, rfl⟩
    · rcases keyIs_shape hb with ⟨j, u, rfl, e⟩ | ⟨y, u, rfl, e⟩
      · injection e with e1 _; rw [e1]
      · exact nomatch e
    · rcases keyIs_shape hb with ⟨j, u, rfl, e⟩ | ⟨y, u, rfl, e⟩
      · exact nomatch e
      · injection e with e1 _; rw [e1]
  byValue := fun k v h => by
    rcases keyIs_shape h with ⟨i, t, rfl, rfl⟩ | ⟨x, t, rfl, rfl⟩ <;> rfl
  pyHash := fun hv h => by
    rcases keyIs_shape hv with ⟨i, t, rfl, rfl⟩ | ⟨x, t, rfl, rfl⟩
    · exact wpAny_pyHash_int h
    · exact wpAny_pyHash_str h
  eqBool := fun hu hv h => by
    rcases keyIs_shape hu with ⟨i, t, rfl, rfl⟩ | ⟨x, t, rfl, rfl⟩
    · rcases keyIs_shape hv with ⟨j, u, rfl, rfl⟩ | ⟨y, u, rfl, rfl⟩
      · rw [key_ll] at h; exact wpAny_eqBool_int h
      · rw [key_lr] at h; exact SeqAt.EqAt.int_str i t y u _ _ _ _ h
    · rcases keyIs_shape hv with ⟨j, u, rfl, rfl⟩ | ⟨y, u, rfl, rfl⟩
      · rw [key_rl] at h; exact SeqAt.EqAt.str_int x t j u _ _ _ _ h
      · rw [key_rr] at h; exact wpAny_eqBool_str h
  «strs» := fun k x t v h => by
    rcases keyIs_shape h with ⟨i, u, rfl, e⟩ | ⟨y, u, rfl, e⟩
    · exact nomatch e
    · injection e with e1 _
      subst e1
      cases v <;> rfl
noncomputable def bInt (b : Bool) : Int := if b = true then 1 else 0
noncomputable def keyB : Key → Value → Bool
  | k, .bool b => decide (k = Sum.inl (bInt b))
  | k, v => keyIs k v
theorem keyB_shape {k : Key} {v : Value} (h : keyB k v = true) : (∃ i t, k = Sum.inl i ∧ v = Value.int i t) ∨ (∃ x t, k = Sum.inr x ∧ v = Value.str x t) ∨ ∃ b, k = Sum.inl (bInt b) ∧ v = Value.bool b := by
  by_cases hb : ∃ b, v = .bool b
  · obtain ⟨b, rfl⟩ := hb
    exact .inr (.inr ⟨b, of_decide_eq_true h, rfl⟩)
  · have e : keyB k v = keyIs k v := by
      cases v <;> first | rfl | exact absurd ⟨_, rfl⟩ hb
    rw [e] at h
    rcases keyIs_shape h with h | h
    · exact .inl h
    · exact .inr (.inl h)
theorem pyHash_bl {prog : Program} {w : World} {A : Around} {E : Value → Shared → Prop} {s : Shared} {b : Bool} {Q : Int → Shared → Prop} (h : Q (hashInt (bInt b)) { s with toks := s.toks + 1 }) :
    wpAny (model prog w) A (PySem.pyHash (.bool b)) Q E s := by
  refine PySem.W.pyHash_slot (v := .bool b) (T := "bool") rfl F.slot_bool_hash entry_int_hash (args_int_hash _) (beq_builtin_none _) (.inl rfl) ?_
  cases b
  · exact (show wpAny _ _ (do ret (← mkInt 0)) _ _ s from wpAny_bind (wpAny_mkInt (wpAny_pure ⟨_, _, rfl, h⟩)))
  · exact (show wpAny _ _ (do ret (← mkInt 1)) _ _ s from wpAny_bind (wpAny_mkInt (wpAny_pure ⟨_, _, rfl, h⟩)))
theorem bInt_beq (a b : Bool) : (bInt a == bInt b) = (a == b) := by cases a <;> cases b <;> rfl
noncomputable def mixB (prog : Program) (w : World) : PySem.KeyKind prog w Key where
  is := keyB
  hash := keyH w
  inj := fun v a b ha hb => by
    rcases keyB_shape ha with ⟨i, t, rfl, rfl⟩ | ⟨x, t, rfl, rfl⟩ | ⟨c, rfl, rfl⟩
    · rcases keyB_shape hb with ⟨j, u, rfl, e⟩ | ⟨y, u, rfl, e⟩ | ⟨d, rfl, e⟩
      · injection e with e1 _; rw [e1]
      · exact nomatch e
      · exact nomatch e
    · rcases keyB_shape hb with ⟨j, u, rfl, e⟩ | ⟨y, u, rfl, e⟩ | ⟨d, rfl, e⟩
      · exact nomatch e
      · injection e with e1 _; rw [e1]
      · exact nomatch e
    · rcases keyB_shape hb with ⟨j, u, rfl, e⟩ | ⟨y, u, rfl, e⟩ | ⟨d, rfl, e⟩
      · exact nomatch e
      · exact nomatch e
      · injection e with e1; rw [e1]
  byValue := fun k v h => by
    rcases keyB_shape h with ⟨i, t, rfl, rfl⟩ | ⟨x, t, rfl, rfl⟩ | ⟨b, rfl, rfl⟩ <;> rfl
  pyHash := fun hv h => by
    rcases keyB_shape hv with ⟨i, t, rfl, rfl⟩ | ⟨x, t, rfl, rfl⟩ | ⟨b, rfl, rfl⟩
    · exact wpAny_pyHash_int h
    · exact wpAny_pyHash_str h
    · exact pyHash_bl h
  eqBool := fun hu hv h => by
    rcases keyB_shape hu with ⟨i, t, rfl, rfl⟩ | ⟨x, t, rfl, rfl⟩ | ⟨b, rfl, rfl⟩
    · rcases keyB_shape hv with ⟨j, u, rfl, rfl⟩ | ⟨y, u, rfl, rfl⟩ | ⟨c, rfl, rfl⟩
      · rw [key_ll] at h; exact wpAny_eqBool_int h
      · rw [key_lr] at h; exact SeqAt.EqAt.int_str i t y u _ _ _ _ h
      · rw [key_ll] at h; exact SeqAt.EqAt.int_bool i t c _ _ _ _ h
    · rcases keyB_shape hv with ⟨j, u, rfl, rfl⟩ | ⟨y, u, rfl, rfl⟩ | ⟨c, rfl, rfl⟩
      · rw [key_rl] at h; exact SeqAt.EqAt.str_int x t j u _ _ _ _ h
      · rw [key_rr] at h; exact wpAny_eqBool_str h
      · rw [key_rl] at h; exact SeqAt.EqAt.str_bool x t c _ _ _ _ h
    · rcases keyB_shape hv with ⟨j, u, rfl, rfl⟩ | ⟨y, u, rfl, rfl⟩ | ⟨c, rfl, rfl⟩
      · rw [key_ll] at h; exact SeqAt.EqAt.bool_int b j u _ _ _ _ h
      · rw [key_lr] at h; exact SeqAt.EqAt.bool_str b y u _ _ _ _ h
      · rw [key_ll, bInt_beq] at h; exact SeqAt.EqAt.bool_bool b c _ _ _ _ h
  «strs» := fun k x t v h => by
    rcases keyB_shape h with ⟨i, u, rfl, e⟩ | ⟨y, u, rfl, e⟩ | ⟨b, rfl, e⟩
    · exact nomatch e
    · injection e with e1 _
      subst e1
      cases v <;> rfl
    · exact nomatch e
theorem mixKind_int (prog : Program) (w : World) (i : Int) (t : Tok) : (mixKind prog w).is (.inl i) (.int i t) = true := keyIs_int i t
theorem mixKind_str (prog : Program) (w : World) (x : Str) (t : Tok) : (mixKind prog w).is (.inr x) (.str x t) = true := keyIs_str x t
end L2
namespace L2
open PySem PySem.Spec PyProof.Rows
inductive V where
  | non | bl (b : Bool) | int (i : Int) | str (x : Str) | byt (b : Array UInt8) | flt (b : UInt64) | ref (a : Addr) | ty (n : String)
  deriving DecidableEq
noncomputable def RelV : V → Value → Prop
  | .non, u => u = Value.none
  | .bl b, u => u = Value.bool b
  | .int i, u => ∃ t, u = Value.int i t
  | .str x, u => ∃ t, u = Value.str x t
  | .byt b, u => ∃ t, u = Value.bytes b t
  | .flt b, u => ∃ t, u = Value.float b t
  | .ref a, u => u = Value.ref a
  | .ty n, u => u = Value.type n
noncomputable abbrev Vals : List V → List Value → Prop := Paired RelV
theorem Vals.length {xs : List V} {us : List Value} (r : Vals xs us) : xs.length = us.length := Paired.length r
theorem Vals.get : ∀ {xs : List V} {us : List Value} {i : Nat} {x : V}, Vals xs us → xs[i]? = some x → ∃ u, us[i]? = some u ∧ RelV x u
  | _, _, _, _, .nil, e => by simp at e
  | _, _, 0, _, .cons r _, e => by simp at e; subst e; exact ⟨_, rfl, r⟩
  | _, _, i + 1, x, .cons _ t, e => by
    obtain ⟨u, h1, h2⟩ := Vals.get (i := i) (x := x) t (by simpa using e)
    exact ⟨u, by simpa using h1, h2⟩
theorem Vals.set {x : V} {u : Value} (r : RelV x u) : ∀ {xs : List V} {us : List Value} (i : Nat), Vals xs us → Vals (xs.set i x) (us.set i u)
  | _, _, _, .nil => .nil
  | _, _, 0, .cons _ t => .cons r t
  | _, _, i + 1, .cons q t => .cons q (Vals.set r i t)
theorem Vals.append : ∀ {xs ys : List V} {us ws : List Value}, Vals xs us → Vals ys ws → Vals (xs ++ ys) (us ++ ws)
  | _, _, _, _, .nil, s => s
  | _, _, _, _, .cons r t, s => .cons r (Vals.append t s)
theorem Vals.take : ∀ {xs : List V} {us : List Value} (n : Nat), Vals xs us → Vals (xs.take n) (us.take n)
  | _, _, 0, _ => .nil
  | _, _, _ + 1, .nil => .nil
  | _, _, n + 1, .cons r t => .cons r (Vals.take n t)
theorem Vals.drop : ∀ {xs : List V} {us : List Value} (n : Nat), Vals xs us → Vals (xs.drop n) (us.drop n)
  | _, _, 0, r => r
  | _, _, _ + 1, .nil => .nil
  | _, _, n + 1, .cons _ t => Vals.drop n t
noncomputable def RelO : Option V → Option Value → Prop
  | some v, some u => RelV v u
  | none, none => True
  | _, _ => False
noncomputable def KV {κ : Type} : List (κ × V) → List (κ × Value) → Prop := Paired fun (p : κ × V) (q : κ × Value) => p.1 = q.1 ∧ RelV p.2 q.2
noncomputable def kV : Key → V
  | .inl i => .int i
  | .inr x => .str x
noncomputable def kB (k : Key) (v : V) : Prop := v = kV k ∨ ∃ b, v = .bl b ∧ k = Sum.inl (bInt b)
theorem kB_all : ∀ ks : List Key, Paired kB ks (ks.map kV)
  | [] => .nil
  | k :: ks => .cons (.inl rfl) (kB_all ks)
inductive HO where
  | lst (xs : List V)
  | tup (xs : List V)
  | dK (kvs : List (Key × V)) | dT (kvs : List (List Key × V))
  | set (S : Int → Bool) (n : Nat)
  | ins (C dx : Addr) (fs : List (Str × V))
  | own (x : Addr)
  | xd (fs : List (Str × V))
  | met (f x : Addr)
  | rng (lo hi : Int)
  | frz (o : Obj) (u : HO)
  | tbl (ps : Array Value)
  | ext (φ : Heap → Prop)
noncomputable abbrev Hp := Addr → Option HO
noncomputable def upd (H : Hp) (a : Addr) (o : HO) : Hp := fun b => if b = a then some o else H b
theorem upd_same {H : Hp} {a : Addr} {o : HO} : upd H a o a = some o := by unfold upd; rw [if_pos rfl]
theorem upd_ne {H : Hp} {a b : Addr} {o : HO} (h : b ≠ a) : upd H a o b = H b := by unfold upd; rw [if_neg h]
theorem upd_upd {H : Hp} {a : Addr} {o u : HO} : upd (upd H a o) a u = upd H a u := by
  funext b; unfold upd; split <;> rfl
theorem ne_of {H : Hp} {a b : Addr} {o u : HO} (h : H a = some o) (h' : H b = some u) (d : o ≠ u) : a ≠ b := by
  intro e; subst e; rw [h] at h'; exact d (Option.some.inj h')
theorem ne_of_none {H : Hp} {a b : Addr} {o : HO} (h : H a = some o) (h' : H b = none) : a ≠ b := by
  intro e; subst e; rw [h] at h'; cases h'
section
variable (P : Program) (w : World)
noncomputable def ObjOk (H : Hp) (h : Heap) (a : Addr) : HO → Prop
  | .lst xs => xs.length ≤ sizeLine ∧ ∃ (its : List Value) (n : Nat), Vals xs its ∧ h.get? a = some { cls := .type "list", data := .seq its.toArray n }
  | .tup xs => xs.length ≤ sizeLine ∧ ∃ its : List Value, Vals xs its ∧ IsTup h a its.toArray
  | .dK kvs => kvs.length ≤ sizeLine ∧ (a == sysModules) = false ∧ ∃ vs, KV kvs vs ∧ h.DictOf (mixKind P w) a vs
  | .dT kvs => kvs.length ≤ sizeLine ∧ (a == sysModules) = false ∧ ∃ xs : List (List Key × Addr × Value),
      Paired (fun (p : List Key × V) (q : List Key × Addr × Value) => p.1 = q.1 ∧ (∃ ys, H q.2.1 = some (.tup ys) ∧ Paired kB p.1 ys) ∧ RelV p.2 q.2.2) kvs xs ∧
      ∃ o es ep, h.get? a = some o ∧ o.ExactDict ∧ o.data = .dict es ep ∧ es.toList = xs.map (entryOfKey (tupleKind (mixB P w))) ∧ (xs.map (·.1)).Nodup
  | .set S n => h.SetOf (intKind P w) a S n
  | .ins C dx fs => H dx = some (.own a) ∧ fs.length ≤ 1000 ∧ dx ≠ a ∧ h.get? a = some (PySem.W.instObj C dx) ∧
      ∃ mA, h.Ns1 dx mA ∧ (∀ f, RelO (fs.lookup f) (mA f)) ∧ PySem.Within mA (fs.map (·.1))
  | .own _ => ∃ o, h.get? a = some o
  | .xd fs => ∃ mA, h.Ns1 a mA ∧ ∀ f, RelO (fs.lookup f) (mA f)
  | .rng lo hi => ∃ t u v, h.get? a = some { cls := .type "range", data := .fields #[.int lo t, .int hi u, .int 1 v] }
  | .frz o u => h.get? a = some o ∧ ObjOk H h a u
  | .tbl ps => h.get? a = some { cls := .none, data := .fields ps }
  | .met f x => h.get? a = some (PySem.W.methodObj (.ref f) (.ref x))
  | .ext φ => φ h ∧ (∃ o, h.get? a = some o) ∧ ∀ h1 h2 : Heap, φ h1 → (∀ o, h1.get? a = some o → h2.get? a = some o) → φ h2
noncomputable def HOk (H : Hp) (h : Heap) : Prop := ∀ a o, H a = some o → ObjOk P w H h a o
end
section
variable {P : Program} {w : World} {H H' : Hp} {h h' : Heap} {a : Addr} {o : HO}
theorem ObjOk.lt (x : ObjOk P w H h a o) : a < h.objs.size := by
  cases o with
  | lst xs => obtain ⟨_, _, _, _, e⟩ := x; exact Heap.lt_size e
  | tup xs => obtain ⟨_, _, _, p⟩ := x; exact p.lt
  | dK kvs => obtain ⟨_, _, _, _, o, _, _, e, _⟩ := x; exact Heap.lt_size e
  | dT kvs => obtain ⟨_, _, _, _, o, _, _, e, _⟩ := x; exact Heap.lt_size e
  | set S n => obtain ⟨o, _, _, _, e, _⟩ := x; exact Heap.lt_size e
  | ins C dx fs => obtain ⟨_, _, _, e, _⟩ := x; exact Heap.lt_size e
  | own y => obtain ⟨_, e⟩ := x; exact Heap.lt_size e
  | xd fs => obtain ⟨_, ⟨_, _, _, e, _⟩, _⟩ := x; exact Heap.lt_size e
  | rng lo hi => obtain ⟨_, _, _, e⟩ := x; exact Heap.lt_size e
  | frz ob u => obtain ⟨e, _⟩ := x; exact Heap.lt_size e
  | tbl ps => exact Heap.lt_size (show h.get? a = some _ from x)
  | met f y => exact Heap.lt_size (show h.get? a = some _ from x)
  | ext φ => obtain ⟨_, ⟨_, e⟩, _⟩ := x; exact Heap.lt_size e
theorem Paired.mapP {α β : Type} {F G : α → β → Prop} : ∀ {l₁ : List α} {l₂ : List β}, Paired F l₁ l₂ → (∀ a b, F a b → G a b) → Paired G l₁ l₂
  | _, _, .nil, _ => .nil
  | _, _, .cons r t, f => .cons (f _ _ r) (Paired.mapP t f)
theorem ObjOk.stay (x : ObjOk P w H h a o) (k : ∀ b u, (b = a ∨ H b = some (.own a)) → h.get? b = some u → h'.get? b = some u)
    (ho : ∀ b, H b = some (.own a) → H' b = some (.own a)) (ht : ∀ b xs, H b = some (.tup xs) → H' b = some (.tup xs)) : ObjOk P w H' h' a o := by
  induction o with
  | lst xs => obtain ⟨z, its, n, r, e⟩ := x; exact ⟨z, its, n, r, k _ _ (.inl rfl) e⟩
  | tup xs => obtain ⟨z, its, r, ob, e, c⟩ := x; exact ⟨z, its, r, ob, k _ _ (.inl rfl) e, c⟩
  | dK kvs => obtain ⟨z, y, vs, r, ob, es, ep, e, c⟩ := x; exact ⟨z, y, vs, r, ob, es, ep, k _ _ (.inl rfl) e, c⟩
  | dT kvs =>
    obtain ⟨z, y, xs, r, ob, es, ep, e, c⟩ := x
    exact ⟨z, y, xs, Paired.mapP r fun p q z => ⟨z.1, z.2.1.imp fun _ y => ⟨ht _ _ y.1, y.2⟩, z.2.2⟩, ob, es, ep, k _ _ (.inl rfl) e, c⟩
  | set S n => obtain ⟨ob, es, ep, t, e, c⟩ := x; exact ⟨ob, es, ep, t, k _ _ (.inl rfl) e, c⟩
  | ins C dx fs =>
    obtain ⟨d, z, ne, e, mA, ⟨od, es, ep, e2, c⟩, r⟩ := x
    exact ⟨ho _ d, z, ne, k _ _ (.inl rfl) e, mA, ⟨od, es, ep, k _ _ (.inr d) e2, c⟩, r⟩
  | own y => obtain ⟨ob, e⟩ := x; exact ⟨ob, k _ _ (.inl rfl) e⟩
  | xd fs => obtain ⟨mA, ⟨od, es, ep, e, c⟩, r⟩ := x; exact ⟨mA, ⟨od, es, ep, k _ _ (.inl rfl) e, c⟩, r⟩
  | rng lo hi => obtain ⟨t, u, v, e⟩ := x; exact ⟨t, u, v, k _ _ (.inl rfl) e⟩
  | frz ob u ih => obtain ⟨e, q⟩ := x; exact ⟨k _ _ (.inl rfl) e, ih q⟩
  | tbl ps =>
    have e : h.get? a = some { cls := .none, data := .fields ps } := x
    show h'.get? a = some { cls := .none, data := .fields ps }
    exact k a _ (.inl rfl) e
  | met f y =>
    have e : h.get? a = some (PySem.W.methodObj (.ref f) (.ref y)) := x
    show h'.get? a = some (PySem.W.methodObj (.ref f) (.ref y))
    exact k a _ (.inl rfl) e
  | ext φ => obtain ⟨p, ⟨o, e⟩, st⟩ := x; exact ⟨st _ _ p fun o q => k _ _ (.inl rfl) q, ⟨o, k _ _ (.inl rfl) e⟩, st⟩
theorem HOk.lt (x : HOk P w H h) (e : H a = some o) : a < h.objs.size := (x a o e).lt
theorem HOk.fresh (x : HOk P w H h) (e : h.objs.size ≤ a) : H a = none := by
  cases q : H a with
  | none => rfl
  | some u => exact absurd (Nat.lt_of_lt_of_le (x.lt q) e) (Nat.lt_irrefl _)
theorem HOk.kept (x : HOk P w H h) (k : ∀ b u, h.get? b = some u → h'.get? b = some u) : HOk P w H h' := fun a o e =>
  (x a o e).stay (fun b u _ q => k b u q) (fun _ q => q) fun _ _ q => q
theorem HOk.laid (x : HOk P w H h) (k : ∀ b u, h.get? b = some u → h'.get? b = some u) (hp : h.objs.size ≤ a) (new : ObjOk P w (upd H a o) h' a o) : HOk P w (upd H a o) h' := fun b u e => by
  have hn := x.fresh hp
  by_cases hb : b = a
  · subst hb; rw [upd_same] at e; cases e; exact new
  · rw [upd_ne hb] at e
    exact (x b u e).stay (fun c v _ q => k c v q) (fun c q => by rw [upd_ne (ne_of_none q hn)]; exact q) fun c xs q => by rw [upd_ne (ne_of_none q hn)]; exact q
end
noncomputable def Rd (H : Hp) (a : Addr) (u : HO) : Prop := H a = some u ∨ ∃ o, H a = some (.frz o u)
theorem Rd.of {H : Hp} {a : Addr} {u : HO} (h : H a = some u) : Rd H a u := .inl h
theorem Rd.ok {P : Program} {w : World} {H : Hp} {h : Heap} {a : Addr} {u : HO} (r : Rd H a u) (x : HOk P w H h) : ObjOk P w H h a u := by
  rcases r with r | ⟨o, r⟩
  · exact x a u r
  · obtain ⟨_, q⟩ := x a _ r
    exact q
noncomputable def Mut : Option HO → Prop
  | some (.lst _) => True
  | some (.dK _) => True
  | some (.dT _) => True
  | some (.set _ _) => True
  | some (.ins _ _ _) => True
  | some (.ext _) => True
  | _ => False
section
variable {P : Program} {w : World} {H : Hp} {h h' : Heap} {x e : Addr} {o' : HO}
theorem HOk.write (ok : HOk P w H h) (mu : Mut (H x)) (he : e = x ∨ H e = some (.own x)) (k : ∀ b u, b ≠ e → h.get? b = some u → h'.get? b = some u) (heo : ∃ u, h'.get? e = some u)
    (new : ObjOk P w (upd H x o') h' x o') : HOk P w (upd H x o') h' := fun b u q => by
  have nown : ∀ c y, H c = some (.own y) → c ≠ x := fun c y r z => by subst z; rw [r] at mu; exact mu
  have ntup : ∀ c xs, H c = some (.tup xs) → c ≠ x := fun c xs r z => by subst z; rw [r] at mu; exact mu
  by_cases hb : b = x
  · subst hb; rw [upd_same] at q; cases q; exact new
  · rw [upd_ne hb] at q
    by_cases hbe : b = e
    · have q' : H b = some (.own x) := by
        rcases he with z | z
        · exact absurd (hbe.trans z) hb
        · rw [hbe]; exact z
      rw [q] at q'; cases q'
      obtain ⟨v, hv⟩ := heo
      exact ⟨v, by rw [hbe]; exact hv⟩
    · refine (ok b u q).stay (fun c v hc r => k c v ?_ r) (fun c r => by rw [upd_ne (nown c b r)]; exact r) fun c xs r => by rw [upd_ne (ntup c xs r)]; exact r
      rcases hc with rfl | hc
      · exact hbe
      · rintro rfl
        rcases he with z | z
        · exact nown c b hc z
        · rw [hc] at z; cases z; exact hb rfl
end
structure Un (fs ex : List Addr) (H H' : Hp) (h h' : Heap) : Prop where
  keep : ∀ b o, h.get? b = some o → H b = none → b ∉ fs → b ∉ ex → h'.get? b = some o
  slot : ∀ b o, h.get? b = some o → H b = none → b ∈ fs → b ∉ ex → ∃ sl, h'.get? b = some { o with slots := sl }
  free : ∀ b o, h.get? b = some o → H b = none → b ∉ ex → H' b = none
  there : ∀ b o, h.get? b = some o → b ∉ ex → ∃ o', h'.get? b = some o'
  tups : ∀ b xs, H b = some (.tup xs) → H' b = some (.tup xs)
  frzs : ∀ b o u, H b = some (.frz o u) → H' b = some (.frz o u)
  tbls : ∀ b ps, H b = some (.tbl ps) → ∃ more, H' b = some (.tbl (ps ++ more))
section
variable {fs fs' ex ex' : List Addr} {H H1 H2 : Hp} {h h1 h2 h' : Heap} {a x e : Addr} {o : HO}
theorem Un.any (u : Un fs ex H H1 h h1) {b : Addr} {ob : Obj} (q : h.get? b = some ob) (n : H b = none) (hx : b ∉ ex) : ∃ sl, h1.get? b = some { ob with slots := sl } := by
  by_cases hb : b ∈ fs
  · exact u.slot b ob q n hb hx
  · exact ⟨ob.slots, u.keep b ob q n hb hx⟩
theorem Un.trans (a : Un fs ex H H1 h h1) (b : Un fs ex H1 H2 h1 h2) : Un fs ex H H2 h h2 where
  keep := fun c ob q n hc hx => b.keep c ob (a.keep c ob q n hc hx) (a.free c ob q n hx) hc hx
  slot := fun c ob q n hc hx => by
    obtain ⟨sl, e1⟩ := a.slot c ob q n hc hx
    obtain ⟨sl', e2⟩ := b.slot c _ e1 (a.free c ob q n hx) hc hx
    exact ⟨sl', e2⟩
  free := fun c ob q n hx => by
    obtain ⟨o', e1⟩ := a.there c ob q hx
    exact b.free c o' e1 (a.free c ob q n hx) hx
  there := fun c ob q hx => by
    obtain ⟨o', e1⟩ := a.there c ob q hx
    exact b.there c o' e1 hx
  tups := fun c xs q => b.tups c xs (a.tups c xs q)
  frzs := fun c ob xs q => b.frzs c ob xs (a.frzs c ob xs q)
  tbls := fun c ps q => by
    obtain ⟨m1, e1⟩ := a.tbls c ps q
    obtain ⟨m2, e2⟩ := b.tbls c _ e1
    exact ⟨m1 ++ m2, by rw [e2, Array.append_assoc]⟩
theorem Un.kept (k : ∀ b u, h.get? b = some u → h'.get? b = some u) : Un fs ex H H h h' :=
  ⟨fun b ob q _ _ _ => k b ob q, fun b ob q _ _ _ => ⟨ob.slots, k b ob q⟩, fun _ _ _ n _ => n, fun b ob q _ => ⟨ob, k b ob q⟩, fun _ _ q => q, fun _ _ _ q => q, fun _ ps q => ⟨#[], by rw [q]; simp⟩⟩
theorem Un.refl : Un fs ex H H h h := Un.kept fun _ _ q => q
theorem Un.laid (k : ∀ b u, h.get? b = some u → h'.get? b = some u) (hp : h.objs.size ≤ a) (hn : H a = none) : Un fs ex H (upd H a o) h h' where
  keep := fun b u q _ _ _ => k b u q
  slot := fun b u q _ _ _ => ⟨u.slots, k b u q⟩
  free := fun b u q n _ => by rw [upd_ne (Nat.ne_of_lt (Nat.lt_of_lt_of_le (Heap.lt_size q) hp))]; exact n
  there := fun b u q _ => ⟨u, k b u q⟩
  tups := fun b xs q => by rw [upd_ne (ne_of_none q hn)]; exact q
  frzs := fun b u xs q => by rw [upd_ne (ne_of_none q hn)]; exact q
  tbls := fun b ps q => ⟨#[], by rw [upd_ne (ne_of_none q hn), q]; simp⟩
theorem Un.write (mu : Mut (H x)) (he : e = x ∨ H e = some (.own x)) (k : ∀ b u, b ≠ e → h.get? b = some u → h'.get? b = some u) (heo : ∃ u, h'.get? e = some u) : Un fs ex H (upd H x o) h h' := by
  have hx : ∀ b, H b = none → b ≠ x := fun b n z => by subst z; rw [n] at mu; exact mu
  have hb : ∀ b, H b = none → b ≠ e := fun b n z => by
    subst z
    rcases he with r | r
    · exact hx b n r
    · rw [n] at r; cases r
  have hm : ∀ b u, H b = some u → ¬ Mut (some u) → b ≠ x := fun b u q nm z => by subst z; rw [q] at mu; exact nm mu
  refine ⟨fun b u q n _ _ => k b u (hb b n) q, fun b u q n _ _ => ⟨u.slots, k b u (hb b n) q⟩, fun b u q n _ => by rw [upd_ne (hx b n)]; exact n, fun b u q _ => ?_,
    fun b xs q => by rw [upd_ne (hm b _ q fun z => z)]; exact q, fun b u xs q => by rw [upd_ne (hm b _ q fun z => z)]; exact q, fun b ps q => ⟨#[], by rw [upd_ne (hm b _ q fun z => z), q]; simp⟩⟩
  by_cases hbe : b = e
  · subst hbe; exact heo
  · exact ⟨u, k b u hbe q⟩
end
noncomputable def trk (h : Heap) (H : Hp) : List Addr := (List.range h.objs.size).filter fun a => (H a).isSome
noncomputable def hidT (h : Heap) (H : Hp) : Heap := PySem.W.hideAll h (trk h H)
theorem hidT_size (h : Heap) (H : Hp) : (hidT h H).objs.size = h.objs.size := PySem.W.hideAll_size _ _
theorem hidT_get {h : Heap} {H : Hp} {b : Addr} {o : Obj} (e : h.get? b = some o) (n : H b = none) : (hidT h H).get? b = some o :=
  PySem.W.hideAll_get _ e fun hm => by
    have q : (H b).isSome = true := (List.mem_filter.mp hm).2
    rw [n] at q; simp at q
theorem of_hidT {h : Heap} {H : Hp} {b : Addr} {o : Obj} (e : (hidT h H).get? b = some o) : h.get? b = some o ∧ H b = none := by
  have e' : h.get? b = some o := PySem.W.of_hideAll (trk h H) e
  refine ⟨e', ?_⟩
  cases q : H b with
  | none => rfl
  | some x =>
    have hm : b ∈ trk h H := List.mem_filter.mpr ⟨List.mem_range.mpr (Heap.lt_size e'), by simp [q]⟩
    have z : (hidT h H).get? b = none := PySem.W.hideAll_none (trk h H) hm
    rw [z] at e; cases e
noncomputable def allNews (g h : Heap) (L : Addr) : List (Addr × Obj) := (List.range h.objs.size).filterMap fun a => if a = L ∨ (g.get? a).isSome = true then none else (h.get? a).map fun o => (a, o)
noncomputable def rest (g h : Heap) (L d : Addr) : List (Addr × Obj) := (allNews g h L).filter fun p => decide (p.1 ≠ d)
end L2
namespace L2
open PySem PySem.Spec PyProof.Rows
structure Mod (K : PySem.W.Frag) (mg : Str → Option Value) (base : Heap) : Prop where
  kin : K.In base
  glob : base.Ns mainGlobals mg
  blt : ∃ mb, base.Ns builtinsNs mb ∧ ∀ x : Str, x ≠ "__name__" → mb x = bootBuiltins x
  nolimit : base.NoLimit
structure Cx where
  prog : Program
  w : World
  K : PySem.W.Frag
  mg : Str → Option Value
  base : Heap
  A : Around
  N : List Str
  s₀ : Shared
  H₀ : Hp
  env : Env
  outer : List Env
  stack : List Env
  ex : List Addr
  fn : Str → Bool
  calm : Bool
  pn : List (Addr × Obj)
  xe : Value → Shared → Prop
noncomputable def frs (l : List Env) : List Addr := l.filterMap (·.frame)
noncomputable abbrev Cx.fs (X : Cx) : List Addr := frs X.outer
noncomputable def Vis (sc : Scope) (x : Str) : Prop := sc.names.lookup x = some .local ∨ sc.names.lookup x = some .cell ∨ sc.names.lookup x = some .free
noncomputable def Loc (sc : Scope) (x : Str) : Prop := sc.names.lookup x = some .local ∨ sc.names.lookup x = some .cell
noncomputable def Look (env : Env) (h : Heap) (m : Str → Option Value) (x : Str) (u : Value) : Prop :=
  (env.kindOf x = some .local ∧ m x = some u) ∨ ((env.kindOf x = some .cell ∨ env.kindOf x = some .free) ∧ ∃ c, env.cells.lookup x = some c ∧ h.IsCell c (some u))
structure Cx.Ok (X : Cx) : Prop where
  mod : Mod X.K X.mg X.base
  kind : X.env.scope.kind = .function
  glob : X.env.globals = mainGlobals
  blt : X.env.builtins = builtinsNs
  above : X.s₀.heap.objs.size ≤ X.env.locals
  inj : ∀ x y c, X.env.cells.lookup x = some c → X.env.cells.lookup y = some c → x = y
  has : ∀ x, (X.env.kindOf x = some .cell ∨ X.env.kindOf x = some .free) → ∃ c, X.env.cells.lookup x = some c
  cab : ∀ x c, X.fn x = true → X.env.cells.lookup x = some c → X.s₀.heap.objs.size ≤ c
  hd : X.calm = true → X.A.handled = none
  frames : X.A.frames = some X.stack
  stk : X.stack = X.outer ∨ (X.stack = X.env :: X.outer ∧ X.env.frame = some X.env.locals)
  exf : ∀ b ∈ X.ex, b ≠ X.env.locals ∧ ∀ x c, X.env.cells.lookup x = some c → c ≠ b
  bs : ∀ b o, X.base.get? b = some o → X.s₀.heap.get? b = some o ∧ X.H₀ b = none
  bsz : X.base.objs.size ≤ X.s₀.heap.objs.size
  noex : ∀ b o, X.base.get? b = some o → b ∉ X.ex
  exfs : ∀ b ∈ X.ex, b ∉ X.fs
  funs : X.s₀.heap.FunFrames X.base X.outer
  frf : ∀ b ∈ X.fs, X.H₀ b = none
structure Inv (X : Cx) (pins : List (Addr × Obj)) (σ : List (Option V)) (H : Hp) (s : Shared) : Prop where
  ok : X.Ok
  os : s.os = X.s₀.os
  bare : AllBare s.gens
  base : Un X.fs X.ex X.H₀ H X.s₀.heap s.heap
  loc : ∃ m, s.heap.Ns X.env.locals m ∧ ∀ (i : Nat) (x : Str) (v : V), X.N[i]? = some x → σ[i]? = some (some v) → Vis X.env.scope x → ∃ u, RelV v u ∧ Look X.env s.heap m x u
  cell : ∀ x c, X.env.cells.lookup x = some c → ∃ v, s.heap.IsCell c v
  free : H X.env.locals = none
  freeC : ∀ x c, X.env.cells.lookup x = some c → H c = none
  pin : ∀ p ∈ X.pn ++ pins, s.heap.get? p.1 = some p.2 ∧ H p.1 = none ∧ p.1 ≠ X.env.locals ∧ p.1 ∉ X.fs ∧ ∀ v, p.2.data ≠ .cell v
  hok : HOk X.prog X.w H s.heap
  len : σ.length = X.N.length
section
variable {X : Cx} {pins : List (Addr × Obj)} {σ : List (Option V)} {H H' : Hp} {s : Shared} {h' : Heap}
theorem Cx.Ok.nofr (ok : X.Ok) {b : Addr} {o : Obj} (e : X.base.get? b = some o) : b ∉ X.fs := fun hb => by
  have := (ok.funs.mem hb).1
  rw [e] at this; cases this
theorem Inv.bs (I : Inv X pins σ H s) : ∀ b o, X.base.get? b = some o → s.heap.get? b = some o ∧ H b = none := fun b o e =>
  ⟨I.base.keep b o (I.ok.bs b o e).1 (I.ok.bs b o e).2 (I.ok.nofr e) (I.ok.noex b o e), I.base.free b o (I.ok.bs b o e).1 (I.ok.bs b o e).2 (I.ok.noex b o e)⟩
theorem Inv.bk (I : Inv X pins σ H s) : ∀ b o, X.base.get? b = some o → s.heap.get? b = some o := fun b o e => (I.bs b o e).1
theorem Inv.mod (I : Inv X pins σ H s) : Mod X.K X.mg X.base := I.ok.mod
theorem Inv.kIn (I : Inv X pins σ H s) : X.K.In s.heap := I.ok.mod.kin.keeps I.bk
theorem Inv.lt (I : Inv X pins σ H s) : X.env.locals < s.heap.objs.size := let ⟨_, hn, _⟩ := I.loc; hn.lt
theorem Inv.sz (I : Inv X pins σ H s) : X.s₀.heap.objs.size ≤ s.heap.objs.size := Nat.le_trans I.ok.above (Nat.le_of_lt I.lt)
theorem Inv.nofs (I : Inv X pins σ H s) {a : Addr} (h : s.heap.objs.size ≤ a) : a ∉ X.fs := fun hb => by
  obtain ⟨_, o, ho, _⟩ := I.ok.funs.mem hb
  exact absurd (Nat.lt_of_lt_of_le (Heap.lt_size ho) (Nat.le_trans I.sz h)) (Nat.lt_irrefl _)
theorem Inv.cne (I : Inv X pins σ H s) : ∀ x c, X.env.cells.lookup x = some c → c ≠ X.env.locals := fun x c e z => by
  obtain ⟨v, o, ho, hd⟩ := I.cell x c e
  obtain ⟨m, ⟨o', es, ep, ho', hd', _⟩, _⟩ := I.loc
  rw [z, ho'] at ho; cases ho; rw [hd'] at hd; cases hd
theorem Inv.funs (I : Inv X pins σ H s) : s.heap.FunFrames X.base X.outer := by
  have all : ∀ (l : List Env), (∀ b ∈ frs l, b ∈ X.fs) → X.s₀.heap.FunFrames X.base l → s.heap.FunFrames X.base l := by
    intro l
    induction l with
    | nil => intro _ _; trivial
    | cons env r ih =>
      intro hs hl
      obtain ⟨hk, ⟨L, o, hf, hn, ho, hd⟩, hr⟩ := hl
      have hL : L ∈ X.fs := hs L (by unfold frs; rw [List.filterMap_cons, hf]; exact List.mem_cons_self)
      obtain ⟨sl, e⟩ := I.base.slot L o ho (I.ok.frf L hL) hL fun z => I.ok.exfs L z hL
      exact ⟨hk, ⟨L, _, hf, hn, e, hd⟩, ih (fun b hb => hs b (by unfold frs; rw [List.filterMap_cons, hf]; exact List.mem_cons_of_mem _ hb)) hr⟩
  exact all X.outer (fun _ hb => hb) I.ok.funs
theorem Inv.stack (I : Inv X pins σ H s) : s.heap.FunFrames X.base X.stack := by
  rcases I.ok.stk with e | ⟨e, hf⟩
  · rw [e]; exact I.funs
  · rw [e]
    obtain ⟨m, hn, _⟩ := I.loc
    refine .cons (by rw [I.ok.kind]; decide) hf hn ?_ I.funs
    exact Heap.get?_none_of_le (Nat.le_trans I.ok.bsz I.ok.above)
theorem Inv.stkSub (I : Inv X pins σ H s) : ∀ b ∈ frs X.stack, b ∈ X.env.locals :: X.fs := fun b hb => by
  rcases I.ok.stk with e | ⟨e, hf⟩
  · rw [e] at hb; exact List.mem_cons_of_mem _ hb
  · rw [e] at hb
    unfold frs at hb
    rw [List.filterMap_cons, hf] at hb
    exact hb
theorem Inv.stkFree (I : Inv X pins σ H s) : ∀ b ∈ frs X.stack, H b = none := fun b hb => by
  rcases List.mem_cons.mp (I.stkSub b hb) with e | hb
  · rw [e]; exact I.free
  · obtain ⟨_, o, ho, _⟩ := I.ok.funs.mem hb
    exact I.base.free b o ho (I.ok.frf b hb) fun z => I.ok.exfs b z hb
theorem Inv.step {g' : Array GenState} {t' : Nat} {d' : Drawn} {ch : List Addr} (I : Inv X pins σ H s)
    (hch : ∀ b ∈ ch, (b ∈ X.ex ∨ X.s₀.heap.objs.size ≤ b) ∧ b ≠ X.env.locals ∧ (∀ x c, X.env.cells.lookup x = some c → c ≠ b) ∧ ∀ p ∈ X.pn ++ pins, p.1 ≠ b)
    (keep : ∀ b o, b ≠ X.env.locals → b ∉ X.fs → b ∉ ch → s.heap.get? b = some o → H b = none → h'.get? b = some o)
    (slot : ∀ b o, b ≠ X.env.locals → b ∈ X.fs → b ∉ ch → s.heap.get? b = some o → H b = none → ∃ sl, h'.get? b = some { o with slots := sl }) (free : ∀ b o, b ∉ ch → s.heap.get? b = some o → H b = none → H' b = none)
    (there : ∀ b o, b ∉ ch → s.heap.get? b = some o → ∃ o', h'.get? b = some o')
    (tups : ∀ b xs, H b = some (.tup xs) → H' b = some (.tup xs)) (frzs : ∀ b o u, H b = some (.frz o u) → H' b = some (.frz o u)) (tbls : ∀ b ps, H b = some (.tbl ps) → ∃ more, H' b = some (.tbl (ps ++ more)))
    (ns : ∀ m, s.heap.Ns X.env.locals m → h'.Ns X.env.locals m) (hok : HOk X.prog X.w H' h') (hg : AllBare g') :
    Inv X pins σ H' { s with heap := h', gens := g', drawn := d', toks := t' } := by
  have neL : ∀ b o, X.s₀.heap.get? b = some o → b ≠ X.env.locals := fun b o e => Nat.ne_of_lt (Nat.lt_of_lt_of_le (Heap.lt_size e) I.ok.above)
  have neC : ∀ b o, X.s₀.heap.get? b = some o → b ∉ X.ex → b ∉ ch := fun b o e hx hb => by
    rcases (hch b hb).1 with z | z
    · exact hx z
    · exact absurd (Nat.lt_of_lt_of_le (Heap.lt_size e) z) (Nat.lt_irrefl _)
  have cellK : ∀ x c, X.env.cells.lookup x = some c → ∀ v, s.heap.IsCell c v → h'.IsCell c v := fun x c e v ⟨o, ho, hd⟩ => by
    have nch : c ∉ ch := fun z => (hch c z).2.2.1 x c e rfl
    by_cases hc : c ∈ X.fs
    · obtain ⟨sl, q⟩ := slot c o (I.cne x c e) hc nch ho (I.freeC x c e)
      exact ⟨_, q, hd⟩
    · exact ⟨o, keep c o (I.cne x c e) hc nch ho (I.freeC x c e), hd⟩
  refine ⟨I.ok, I.os, hg, ⟨fun b o e n hb hx => ?_, fun b o e n hb hx => ?_, fun b o e n hx => ?_, fun b o e hx => ?_, fun b xs e => tups b xs (I.base.tups b xs e), fun b o xs e => frzs b o xs (I.base.frzs b o xs e), fun b ps e => ?_⟩, ?_, fun x c e => ?_, ?_, fun x c e => ?_, fun p hp => ?_, hok, I.len⟩
  · exact keep b o (neL b o e) hb (neC b o e hx) (I.base.keep b o e n hb hx) (I.base.free b o e n hx)
  · obtain ⟨sl, e1⟩ := I.base.slot b o e n hb hx
    obtain ⟨sl', e2⟩ := slot b _ (neL b o e) hb (neC b o e hx) e1 (I.base.free b o e n hx)
    exact ⟨sl', e2⟩
  · obtain ⟨o', e1⟩ := I.base.there b o e hx
    exact free b o' (neC b o e hx) e1 (I.base.free b o e n hx)
  · obtain ⟨o', e1⟩ := I.base.there b o e hx
    exact there b o' (neC b o e hx) e1
  · obtain ⟨m1, e1⟩ := I.base.tbls b ps e
    obtain ⟨m2, e2⟩ := tbls b _ e1
    exact ⟨m1 ++ m2, by rw [e2, Array.append_assoc]⟩
  · obtain ⟨m, hn, hl⟩ := I.loc
    refine ⟨m, ns m hn, fun i x v e1 e2 e3 => ?_⟩
    obtain ⟨u, r, l⟩ := hl i x v e1 e2 e3
    refine ⟨u, r, ?_⟩
    rcases l with l | ⟨k, c, e, z⟩
    · exact .inl l
    · exact .inr ⟨k, c, e, cellK x c e _ z⟩
  · obtain ⟨v, z⟩ := I.cell x c e
    exact ⟨v, cellK x c e v z⟩
  · obtain ⟨m, ⟨o, _, _, ho, _⟩, _⟩ := I.loc
    exact free _ o (fun z => (hch _ z).2.1 rfl) ho I.free
  · obtain ⟨v, o, ho, hd⟩ := I.cell x c e
    exact free c o (fun z => (hch c z).2.2.1 x c e rfl) ho (I.freeC x c e)
  · obtain ⟨e, n, ne, nf, d⟩ := I.pin p hp
    have nch : p.1 ∉ ch := fun z => (hch p.1 z).2.2.2 p hp rfl
    exact ⟨keep p.1 p.2 ne nf nch e n, free p.1 p.2 nch e n, ne, nf, d⟩
theorem Inv.un {t' : Nat} (I : Inv X pins σ H s) (u : Un X.fs [] H H' s.heap h') (hok : HOk X.prog X.w H' h') : Inv X pins σ H' { s with heap := h', toks := t' } := by
  obtain ⟨m, ⟨o, es, ep, ho, r⟩, _⟩ := id I.loc
  obtain ⟨sl, hL⟩ := u.any ho I.free (by simp)
  exact I.step (g' := s.gens) (d' := s.drawn) (ch := []) (fun _ z => nomatch z) (fun b o _ hb _ e n => u.keep b o e n hb (by simp)) (fun b o _ hb _ e n => u.slot b o e n hb (by simp)) (fun b o _ e n => u.free b o e n (by simp)) (fun b o _ e => u.there b o e (by simp)) u.tups u.frzs u.tbls (fun m' hm => by
    obtain ⟨o', es', ep', ho', r'⟩ := hm
    rw [ho] at ho'; cases ho'
    exact ⟨_, es', ep', hL, r'⟩) hok I.bare
theorem Inv.call {g' : Array GenState} {t' : Nat} {d' : Drawn} {ch : List Addr} (I : Inv X pins σ H s) (u : Un (frs X.stack) ch H H' s.heap h') (hok : HOk X.prog X.w H' h') (hg : AllBare g')
    (hch : ∀ b ∈ ch, (b ∈ X.ex ∨ X.s₀.heap.objs.size ≤ b) ∧ b ≠ X.env.locals ∧ (∀ x c, X.env.cells.lookup x = some c → c ≠ b) ∧ ∀ p ∈ X.pn ++ pins, p.1 ≠ b) :
    Inv X pins σ H' { s with heap := h', gens := g', drawn := d', toks := t' } := by
  obtain ⟨m, ⟨o, es, ep, ho, r⟩, _⟩ := id I.loc
  obtain ⟨sl, hL⟩ := u.any ho I.free fun z => (hch _ z).2.1 rfl
  exact I.step (ch := ch) hch (fun b o hL hb hc e n => u.keep b o e n (fun z => (List.mem_cons.mp (I.stkSub b z)).elim hL hb) hc) (fun b o _ _ hc e n => u.any e n hc) (fun b o hc e n => u.free b o e n hc) (fun b o hc e => u.there b o e hc) u.tups u.frzs u.tbls (fun m' hm => by
    obtain ⟨o', es', ep', ho', r'⟩ := hm
    rw [ho] at ho'; cases ho'
    exact ⟨_, es', ep', hL, r'⟩) hok hg
theorem Inv.turned {t' : Nat} {it : Addr} (I : Inv X pins σ H s) (k : ∀ b o, b ≠ it → s.heap.get? b = some o → h'.get? b = some o) (hn : H it = none) (hL : it ≠ X.env.locals)
    (h1 : it ∈ X.ex ∨ X.s₀.heap.objs.size ≤ it) (h2 : ∀ x c, X.env.cells.lookup x = some c → c ≠ it) (h3 : ∀ p ∈ X.pn ++ pins, p.1 ≠ it) : Inv X pins σ H { s with heap := h', toks := t' } := by
  have nit : ∀ b u, H b = some u → b ≠ it := fun b u e z => by rw [z, hn] at e; cases e
  refine I.step (g' := s.gens) (d' := s.drawn) (ch := [it]) (fun b hb => ?_) (fun b o _ _ hc e _ => k b o (fun z => hc (by simp [z])) e) (fun b o _ _ hc e _ => ⟨o.slots, k b o (fun z => hc (by simp [z])) e⟩) (fun _ _ _ _ n => n)
    (fun b o hc e => ⟨o, k b o (fun z => hc (by simp [z])) e⟩) (fun _ _ e => e) (fun _ _ _ e => e) (fun b ps e => ⟨#[], by rw [e]; simp⟩) (fun m hm => ?_) (fun b u e => ?_) I.bare
  · have e : b = it := by simpa using hb
    subst e
    exact ⟨h1, hL, h2, h3⟩
  · obtain ⟨o, es, ep, ho, r⟩ := hm
    exact ⟨o, es, ep, k _ o (Ne.symm hL) ho, r⟩
  · refine (I.hok b u e).stay (fun c v hc q => k c v ?_ q) (fun _ q => q) fun _ _ q => q
    rcases hc with z | z
    · rw [z]; exact nit b u e
    · exact nit c _ z
theorem Inv.tok (I : Inv X pins σ H s) (t : Nat) : Inv X pins σ H { s with toks := t } := I.un (h' := s.heap) (t' := t) Un.refl I.hok
theorem Inv.kept {t' : Nat} (I : Inv X pins σ H s) (k : ∀ b u, s.heap.get? b = some u → h'.get? b = some u) : Inv X pins σ H { s with heap := h', toks := t' } := I.un (Un.kept k) (I.hok.kept k)
theorem Inv.laid {a : Addr} {o : HO} {t' : Nat} (I : Inv X pins σ H s) (k : ∀ b u, s.heap.get? b = some u → h'.get? b = some u) (hp : s.heap.objs.size ≤ a) (new : ObjOk X.prog X.w (upd H a o) h' a o) :
    Inv X pins σ (upd H a o) { s with heap := h', toks := t' } := I.un (Un.laid k hp (I.hok.fresh hp)) (I.hok.laid k hp new)
theorem Inv.write {x e : Addr} {o : HO} {t' : Nat} (I : Inv X pins σ H s) (mu : Mut (H x)) (he : e = x ∨ H e = some (.own x)) (k : ∀ b u, b ≠ e → s.heap.get? b = some u → h'.get? b = some u) (heo : ∃ u, h'.get? e = some u)
    (new : ObjOk X.prog X.w (upd H x o) h' x o) : Inv X pins σ (upd H x o) { s with heap := h', toks := t' } := I.un (Un.write mu he k heo) (I.hok.write mu he k heo new)
theorem Inv.pins_of {pins' : List (Addr × Obj)} (I : Inv X pins σ H s) (h : ∀ p ∈ pins', s.heap.get? p.1 = some p.2 ∧ H p.1 = none ∧ p.1 ≠ X.env.locals ∧ p.1 ∉ X.fs ∧ ∀ v, p.2.data ≠ .cell v) : Inv X pins' σ H s :=
  ⟨I.ok, I.os, I.bare, I.base, I.loc, I.cell, I.free, I.freeC, fun p hp => (List.mem_append.mp hp).elim (fun z => I.pin p (List.mem_append_left _ z)) (h p), I.hok, I.len⟩
theorem nodup_ix {N : List Str} (hN : N.Nodup) {i j : Nat} {x : Str} (a : N[i]? = some x) (b : N[j]? = some x) : i = j := by
  obtain ⟨h1, e1⟩ := List.getElem?_eq_some_iff.mp a
  obtain ⟨h2, e2⟩ := List.getElem?_eq_some_iff.mp b
  exact (List.getElem_inj hN).mp (e1.trans e2.symm)
theorem store_ok2 {M : Model} {A : Around} {E : Value → Shared → Prop} {i : Nat} {x : Str} {v : V} {u : Value} {Q : Unit → Shared → Prop} (I : Inv X pins σ H s) (hN : X.N.Nodup) (hi : X.N[i]? = some x) (hx : Loc X.env.scope x) (r : RelV v u)
    (h : ∀ s', Inv X pins (σ.set i (some v)) H s' → (∃ a, Heap.SameBut a s.heap s'.heap ∧ (a = X.env.locals ∨ X.env.cells.lookup x = some a)) → Q () s') (hf : X.fn x = true ∨ X.env.scope.names.lookup x = some .local := by first | exact .inl rfl | exact .inr rfl | assumption) : wpAny M A (storeName X.env x u) Q E s := by
  obtain ⟨m, hn, hl⟩ := id I.loc
  have hcls : (X.env.scope.kind == .class || (X.env.scope.kind == .module && X.env.locals != X.env.globals)) = false := by rw [I.ok.kind]; rfl
  have hiσ : i < σ.length := by rw [I.len]; exact (List.getElem?_eq_some_iff.mp hi).1
  have cne := I.cne
  have tracked : ∀ {a : Addr} {h' : Heap}, (∃ o, s.heap.get? a = some o ∧ H a = none) → Heap.SameBut a s.heap h' → HOk X.prog X.w H h' := fun {a h'} ha hs b ob e => by
    obtain ⟨_, _, hfree⟩ := ha
    refine (I.hok b ob e).stay (fun c w' hc q => (hs.2 c ?_).trans q) (fun _ q => q) fun _ _ q => q
    rintro rfl
    rcases hc with rfl | hc
    · rw [hfree] at e; cases e
    · rw [hfree] at hc; cases hc
  rcases hx with hk | hk
  · refine wpAny_storeName_local hk hn (fun h' hn' hs => ?_) hcls
    obtain ⟨oL, _, _, hoL, _⟩ := id hn
    refine h _ ⟨I.ok, I.os, I.bare, ⟨fun b o e n hb hx => ?_, fun b o e n hb hx => ?_, I.base.free, fun b o e hx => ?_, I.base.tups, I.base.frzs, I.base.tbls⟩, ⟨_, hn', fun j y v' e1 e2 e3 => ?_⟩, fun y c e => ?_, I.free, I.freeC, fun p hp => ?_, tracked ⟨oL, hoL, I.free⟩ hs, by simpa using I.len⟩ ⟨_, hs, .inl rfl⟩
    · exact (hs.2 b (Nat.ne_of_lt (Nat.lt_of_lt_of_le (Heap.lt_size e) I.ok.above))).trans (I.base.keep b o e n hb hx)
    · obtain ⟨sl, e1⟩ := I.base.slot b o e n hb hx
      exact ⟨sl, (hs.2 b (Nat.ne_of_lt (Nat.lt_of_lt_of_le (Heap.lt_size e) I.ok.above))).trans e1⟩
    · obtain ⟨o', e1⟩ := I.base.there b o e hx
      exact ⟨o', (hs.2 b (Nat.ne_of_lt (Nat.lt_of_lt_of_le (Heap.lt_size e) I.ok.above))).trans e1⟩
    · by_cases hj : j = i
      · subst hj
        rw [hi] at e1; cases e1
        rw [List.getElem?_set_self hiσ] at e2
        cases e2
        exact ⟨u, r, .inl ⟨hk, by simp⟩⟩
      · rw [List.getElem?_set_ne (Ne.symm hj)] at e2
        obtain ⟨u', r', q⟩ := hl j y v' e1 e2 e3
        refine ⟨u', r', ?_⟩
        rcases q with ⟨k, e⟩ | ⟨k, c, e, z⟩
        · refine .inl ⟨k, ?_⟩
          have : y ≠ x := fun e => hj (nodup_ix hN e1 (e ▸ hi))
          simp [this, e]
        · exact .inr ⟨k, c, e, z.sameBut hs (cne y c e)⟩
    · obtain ⟨w', z⟩ := I.cell y c e
      exact ⟨w', z.sameBut hs (cne y c e)⟩
    · obtain ⟨e, n, ne, nf, d⟩ := I.pin p hp
      exact ⟨(hs.2 p.1 ne).trans e, n, ne, nf, d⟩
  · have hfn : X.fn x = true := by
      rcases hf with z | z
      · exact z
      · rw [z] at hk; cases hk
    obtain ⟨c, hc⟩ := I.ok.has x (.inl hk)
    obtain ⟨w', z⟩ := I.cell x c hc
    refine wpAny_storeName_cell I.ok.kind hk hc z (fun h' hc' hs => ?_)
    obtain ⟨oc, hoc, hocd⟩ := id z
    refine h { s with heap := h' } ⟨I.ok, I.os, I.bare, ⟨fun b o e n hb hx => ?_, fun b o e n hb hx => ?_, I.base.free, fun b o e hx => ?_, I.base.tups, I.base.frzs, I.base.tbls⟩, ⟨m, hn.sameBut hs (Ne.symm (cne x c hc)), fun j y v' e1 e2 e3 => ?_⟩, fun y c' e => ?_, I.free, I.freeC, fun p hp => ?_, tracked ⟨oc, hoc, I.freeC x c hc⟩ hs, by simpa using I.len⟩ ⟨c, hs, .inr hc⟩
    · exact (hs.2 b (Nat.ne_of_lt (Nat.lt_of_lt_of_le (Heap.lt_size e) (I.ok.cab x c hfn hc)))).trans (I.base.keep b o e n hb hx)
    · obtain ⟨sl, e1⟩ := I.base.slot b o e n hb hx
      exact ⟨sl, (hs.2 b (Nat.ne_of_lt (Nat.lt_of_lt_of_le (Heap.lt_size e) (I.ok.cab x c hfn hc)))).trans e1⟩
    · obtain ⟨o', e1⟩ := I.base.there b o e hx
      exact ⟨o', (hs.2 b (Nat.ne_of_lt (Nat.lt_of_lt_of_le (Heap.lt_size e) (I.ok.cab x c hfn hc)))).trans e1⟩
    · by_cases hj : j = i
      · subst hj
        rw [hi] at e1; cases e1
        rw [List.getElem?_set_self hiσ] at e2
        cases e2
        exact ⟨u, r, .inr ⟨.inl hk, c, hc, hc'⟩⟩
      · rw [List.getElem?_set_ne (Ne.symm hj)] at e2
        obtain ⟨u', r', q⟩ := hl j y v' e1 e2 e3
        refine ⟨u', r', ?_⟩
        rcases q with q | ⟨k, c', e, z'⟩
        · exact .inl q
        · refine .inr ⟨k, c', e, z'.sameBut hs ?_⟩
          rintro rfl
          exact hj (nodup_ix hN e1 (I.ok.inj _ _ _ e hc ▸ hi))
    · by_cases hcc : c' = c
      · subst hcc; exact ⟨_, hc'⟩
      · obtain ⟨w2, z2⟩ := I.cell y c' e
        exact ⟨w2, z2.sameBut hs hcc⟩
    · obtain ⟨e, n, ne, nf, d⟩ := I.pin p hp
      refine ⟨(hs.2 p.1 ?_).trans e, n, ne, nf, d⟩
      intro q
      rw [q, hoc] at e
      have q' : oc = p.2 := Option.some.inj e
      exact d w' (by rw [← q']; exact hocd)
theorem store_ok {M : Model} {A : Around} {E : Value → Shared → Prop} {i : Nat} {x : Str} {v : V} {u : Value} {Q : Unit → Shared → Prop} (I : Inv X pins σ H s) (hN : X.N.Nodup) (hi : X.N[i]? = some x) (hx : Loc X.env.scope x) (r : RelV v u)
    (h : ∀ s', Inv X pins (σ.set i (some v)) H s' → Q () s') (hf : X.fn x = true ∨ X.env.scope.names.lookup x = some .local := by first | exact .inl rfl | exact .inr rfl | assumption) : wpAny M A (storeName X.env x u) Q E s :=
  store_ok2 I hN hi hx r (fun s' I' _ => h s' I') hf
theorem Inv.call' {s' : Shared} {ch : List Addr} (I : Inv X pins σ H s) (ho : s'.os = s.os) (u : Un (frs X.stack) ch H H' s.heap s'.heap) (hok : HOk X.prog X.w H' s'.heap) (hg : AllBare s'.gens)
    (hch : ∀ b ∈ ch, (b ∈ X.ex ∨ X.s₀.heap.objs.size ≤ b) ∧ b ≠ X.env.locals ∧ (∀ x c, X.env.cells.lookup x = some c → c ≠ b) ∧ ∀ p ∈ X.pn ++ pins, p.1 ≠ b) : Inv X pins σ H' s' := by
  obtain ⟨h', g', d', t', o'⟩ := s'
  have e : o' = s.os := ho
  subst e
  exact I.call (g' := g') (t' := t') (d' := d') u hok hg hch
end
noncomputable abbrev XK := Value → Option Addr → Hp → Prop
noncomputable abbrev St := List (Option V)
noncomputable abbrev VK := V → Hp → Prop
noncomputable abbrev TE := St → Hp → VK → Prop
noncomputable abbrev TT := St → Hp → (Bool → Hp → Prop) → Prop
noncomputable abbrev TA := St → Hp → (List V → Hp → Prop) → Prop
structure Ends where
  nx : St → Hp → Prop
  rt : VK
  bk : St → Hp → Prop := fun _ _ => False
  ct : St → Hp → Prop := fun _ _ => False
noncomputable abbrev TS := Ends → St → Hp → Prop
noncomputable def EP (X : Cx) (pins : List (Addr × Obj)) (σ : St) (Q : VK) (u : Value) (s' : Shared) : Prop := ∃ v H', Inv X pins σ H' s' ∧ RelV v u ∧ Q v H'
noncomputable def TP (X : Cx) (pins : List (Addr × Obj)) (σ : St) (Q : Bool → Hp → Prop) (b : Bool) (s' : Shared) : Prop := ∃ H', Inv X pins σ H' s' ∧ Q b H'
noncomputable def AP (X : Cx) (pins : List (Addr × Obj)) (σ : St) (Q : List V → Hp → Prop) (us : List Value) (s' : Shared) : Prop := ∃ vs H', Inv X pins σ H' s' ∧ Vals vs us ∧ Q vs H'
noncomputable def SP (X : Cx) (pins : List (Addr × Obj)) (D : Ends) (f : Flow) (s' : Shared) : Prop :=
  match f with
  | .next => ∃ σ' H', Inv X pins σ' H' s' ∧ D.nx σ' H'
  | .brk => ∃ σ' H', Inv X pins σ' H' s' ∧ D.bk σ' H'
  | .cont => ∃ σ' H', Inv X pins σ' H' s' ∧ D.ct σ' H'
  | .ret u => ∃ v σ' H', Inv X pins σ' H' s' ∧ RelV v u ∧ D.rt v H'
noncomputable def PE (X : Cx) (e : Expr) (t : TE) : Prop :=
  ∀ (pins : List (Addr × Obj)) (s : Shared) (σ : St) (H : Hp) (Q : VK), Inv X pins σ H s → t σ H Q → wpAny (model X.prog X.w) X.A (eval e X.env) (EP X pins σ Q) X.xe s
noncomputable def PT (X : Cx) (e : Expr) (t : TT) : Prop :=
  ∀ (pins : List (Addr × Obj)) (s : Shared) (σ : St) (H : Hp) (Q : Bool → Hp → Prop), Inv X pins σ H s → t σ H Q → wpAny (model X.prog X.w) X.A (isTrue e X.env (eval e X.env)) (TP X pins σ Q) X.xe s
noncomputable def PW (X : Cx) (e : Expr) (t : TT) : Prop :=
  ∀ (whole : Sem Value) (pins : List (Addr × Obj)) (s : Shared) (σ : St) (H : Hp) (Q : Bool → Hp → Prop), Inv X pins σ H s → t σ H Q → wpAny (model X.prog X.w) X.A (isTrue e X.env whole) (TP X pins σ Q) X.xe s
theorem PW.pt {X : Cx} {e : Expr} {t : TT} (h : PW X e t) : PT X e t := h _
noncomputable def PA (X : Cx) (es : List Expr) (t : TA) : Prop :=
  ∀ (pos : Pos) (pins : List (Addr × Obj)) (s : Shared) (σ : St) (H : Hp) (Q : List V → Hp → Prop), Inv X pins σ H s → t σ H Q → wpAny (model X.prog X.w) X.A (spliced (backTo pos (starEach es X.env))) (AP X pins σ Q) X.xe s
noncomputable def PS (X : Cx) (st : Stmt) (t : TS) : Prop :=
  ∀ (pins : List (Addr × Obj)) (s : Shared) (σ : St) (H : Hp) (D : Ends), Inv X pins σ H s → t D σ H → wpAny (model X.prog X.w) X.A (exec st X.env) (SP X pins D) X.xe s
noncomputable def PSs (X : Cx) (st : List Stmt) (t : TS) : Prop :=
  ∀ (pins : List (Addr × Obj)) (s : Shared) (σ : St) (H : Hp) (D : Ends), Inv X pins σ H s → t D σ H → wpAny (model X.prog X.w) X.A (execs st X.env) (SP X pins D) X.xe s
theorem thn {α : Type} {t : Sem α} {Q Q' : α → Shared → Prop} {M : Model} {A : Around} {E : Value → Shared → Prop} {s : Shared} (h : wpAny M A t Q E s) (hQ : ∀ a s, Q a s → Q' a s) : wpAny M A t Q' E s := wpAny_mono h hQ fun _ _ x => x
end L2
namespace L2
open PySem PySem.Spec PyProof.Rows
section
variable {X : Cx}
noncomputable def tVar (i : Nat) : TE := fun σ H Q => ∃ v, σ[i]? = some (some v) ∧ Q v H
noncomputable def tC (v : V) : TE := fun _ H Q => Q v H
theorem pe_var {i : Nat} {x : Str} {pos : Pos} (hN : X.N[i]? = some x) (hv : Vis X.env.scope x) (hd : (x == ("__debug__" : Str)) = false := by decide) (hcd : (x == ("__classdict__" : Str)) = false := by decide) : PE X (.Name x pos) (tVar i) := by
  intro pins s σ H Q I h
  obtain ⟨v, e, h⟩ := h
  obtain ⟨m, hn, hl⟩ := I.loc
  obtain ⟨u, r, l⟩ := hl i x v hN e hv
  have fin : EP X pins σ Q u s := ⟨v, H, I, r, h⟩
  rcases l with ⟨hk, hm⟩ | ⟨hk, c, hc, hcell⟩
  · exact wpAny_Name (wpAny_loadName_local I.ok.kind hk hn hm fin) hd
  · rcases hk with hk | hk
    · exact wpAny_Name (wpAny_loadName_cell I.ok.kind hk hc hcell fin) hd
    · exact wpAny_Name (wpAny_loadName_free I.ok.kind hk hc hcell fin hcd) hd
theorem pe_int {i j pos} : PE X (.Constant (.int i) j pos) (tC (.int i)) := fun _ _ _ H _ I h => wpAny_Constant_int ⟨.int i, H, I.tok _, ⟨_, rfl⟩, h⟩
theorem pe_bl {b j pos} : PE X (.Constant (.bool b) j pos) (tC (.bl b)) := fun _ _ _ H _ I h => Constant_bool ⟨.bl b, H, I, rfl, h⟩
theorem pe_non {j pos} : PE X (.Constant .none j pos) (tC .non) := fun _ _ _ H _ I h => Constant_none ⟨.non, H, I, rfl, h⟩
theorem pe_str {x j pos} : PE X (.Constant (.str x) j pos) (tC (.str x)) := fun _ _ _ H _ I h => Calls.Constant_str ⟨.str x, H, I.tok _, ⟨_, rfl⟩, h⟩
noncomputable def Gl (X : Cx) (x : Str) : Prop := X.env.kindOf x = some .globalImplicit
theorem ld_glob {E : Value → Shared → Prop} {pins : List (Addr × Obj)} {s : Shared} {σ : St} {H : Hp} {x : Str} {u : Value} {pos : Pos} {Q : Value → Shared → Prop} (I : Inv X pins σ H s) (hg : Gl X x) (hm : X.mg x = some u) (h : Q u s)
    (hd : (x == ("__debug__" : Str)) = false := by decide) : wpAny (model X.prog X.w) X.A (eval (.Name x pos) X.env) Q E s :=
  Calls.Name_function_global I.ok.kind hg (Calls.loadGlobal_global (by rw [I.ok.glob]; exact I.mod.glob.keeps I.bk) hm h) hd
theorem ld_blt {E : Value → Shared → Prop} {pins : List (Addr × Obj)} {s : Shared} {σ : St} {H : Hp} {x : Str} {u : Value} {pos : Pos} {Q : Value → Shared → Prop} (I : Inv X pins σ H s) (hg : Gl X x) (hm : X.mg x = none) (hv : bootBuiltins x = some u) (h : Q u s)
    (hn : x ≠ "__name__" := by decide) (hd : (x == ("__debug__" : Str)) = false := by decide) : wpAny (model X.prog X.w) X.A (eval (.Name x pos) X.env) Q E s := by
  obtain ⟨mb, h1, h2⟩ := I.mod.blt
  exact Calls.Name_function_global I.ok.kind hg (Calls.loadGlobal_builtin (by rw [I.ok.glob]; exact I.mod.glob.keeps I.bk) hm (by rw [I.ok.blt]; exact h1.keeps I.bk) ((h2 x hn).trans hv) h) hd
theorem pe_bltn {x : Str} {v : V} {u : Value} {pos : Pos} (hg : Gl X x) (hm : X.mg x = none) (hv : bootBuiltins x = some u) (r : RelV v u) (hn : x ≠ "__name__" := by decide) (hd : (x == ("__debug__" : Str)) = false := by decide) : PE X (.Name x pos) (tC v) :=
  fun _ _ _ H _ I h => ld_blt I hg hm hv ⟨v, H, I, r, h⟩ hn hd
variable {a b : Expr} {ta tb : TE} {pos : Pos}
noncomputable def PC (X : Cx) (op : CmpOp) (a b : Expr) (t : TE) : Prop :=
  ∀ (pins : List (Addr × Obj)) (s : Shared) (σ : St) (H : Hp) (Q : VK), Inv X pins σ H s → t σ H Q →
    wpAny (model X.prog X.w) X.A (eval a X.env) (fun v s₁ => wpAny (model X.prog X.w) X.A (eval b X.env) (fun u s₂ => wpAny (model X.prog X.w) X.A (compareOp op v u) (EP X pins σ Q) X.xe s₂) X.xe s₁) X.xe s
theorem nobehind (b : Expr) {op : CmpOp} (h : op ≠ .In) (h2 : op ≠ .NotIn) : behindInMarks op b = false := by
  have e1 : (op == CmpOp.In) = false := by cases op <;> first | rfl | exact absurd rfl h
  have e2 : (op == CmpOp.NotIn) = false := by cases op <;> first | rfl | exact absurd rfl h2
  cases b <;> simp [behindInMarks, e1, e2]
theorem RelV.none_iff {x : V} {v : Value} (r : RelV x v) : (v == Value.none) = decide (x = .non) := by
  cases x with
  | non => cases r; rfl
  | bl _ => cases r; rfl
  | int _ => obtain ⟨t, rfl⟩ := r; rfl
  | str _ => obtain ⟨t, rfl⟩ := r; rfl
  | byt _ => obtain ⟨t, rfl⟩ := r; rfl
  | flt _ => obtain ⟨t, rfl⟩ := r; rfl
  | ref _ => cases r; rfl
  | ty _ => cases r; rfl
noncomputable def tB (t : TE) : TT := fun σ H Q => t σ H fun x H1 => ∃ c, x = .bl c ∧ Q c H1
theorem pt_cmp {op : CmpOp} {t : TE} (h : PC X op a b t) (h1 : behindInMarks op b = false := by first | exact nobehind _ (by decide) (by decide) | rfl) : PT X (.Compare a [op] [b] pos) (tB t) := by
  intro pins s σ H Q I hw
  refine wpAny_isTrue_Compare1 (thn (h pins s σ H _ I hw) fun v s1 h1 => thn h1 fun u s2 h2 => thn h2 fun c s3 ⟨x, H1, I1, r1, q1⟩ => ?_) h1
  obtain ⟨d, rfl, q⟩ := q1
  cases r1
  exact wpAny_truthy_bool ⟨H1, I1, q⟩
theorem pt_val {e : Expr} {t : TE} (h : PE X e t) (he : ∀ whole, isTrue e X.env whole = (do let v ← whole; standAt e.pos; holding [v] (truthy v)) := by intro _; rfl) : PT X e (tB t) := by
  intro pins s σ H Q I hw
  refine isTrue_plain (thn (h pins s σ H _ I hw) fun v s1 ⟨x, H1, I1, r1, q1⟩ => ?_) (he _)
  obtain ⟨d, rfl, q⟩ := q1
  cases r1
  exact wpAny_truthy_bool ⟨H1, I1, q⟩
variable {tA tB' : TT} {rest : List Expr}
noncomputable def tAnd (t u : TT) : TT := fun σ H Q => t σ H fun c H1 => if c = true then u σ H1 Q else Q false H1
noncomputable def tOr (t u : TT) : TT := fun σ H Q => t σ H fun c H1 => if c = true then Q true H1 else u σ H1 Q
noncomputable def tNot (t : TT) : TT := fun σ H Q => t σ H fun c H1 => Q (!c) H1
theorem pw_and1 (ha : PT X a tA) : PW X (.BoolOp .And [a] pos) tA := by
  intro wh pins s σ H Q I h
  refine isTrue_and (thn (ha pins s σ H Q I h) fun c s1 e => ?_)
  cases c with
  | true => exact isTrue_and_nil e
  | false => exact e
theorem pw_or1 (ha : PT X a tA) : PW X (.BoolOp .Or [a] pos) tA := by
  intro wh pins s σ H Q I h
  refine isTrue_or (thn (ha pins s σ H Q I h) fun c s1 e => ?_)
  cases c with
  | false => exact isTrue_or_nil e
  | true => exact e
theorem pw_and (ha : PT X a tA) (hb : PW X (.BoolOp .And (b :: rest) pos) tB') : PW X (.BoolOp .And (a :: b :: rest) pos) (tAnd tA tB') := by
  intro wh pins s σ H Q I h
  refine isTrue_and (thn (ha pins s σ H _ I h) fun c s1 ⟨H1, I1, q1⟩ => ?_)
  cases c with
  | true => exact hb wh pins s1 σ H1 Q I1 q1
  | false => exact ⟨H1, I1, q1⟩
theorem pw_or (ha : PT X a tA) (hb : PW X (.BoolOp .Or (b :: rest) pos) tB') : PW X (.BoolOp .Or (a :: b :: rest) pos) (tOr tA tB') := by
  intro wh pins s σ H Q I h
  refine isTrue_or (thn (ha pins s σ H _ I h) fun c s1 ⟨H1, I1, q1⟩ => ?_)
  cases c with
  | true => exact ⟨H1, I1, q1⟩
  | false => exact hb wh pins s1 σ H1 Q I1 q1
theorem pt_not (ha : PT X a tA) : PT X (.UnaryOp .Not a pos) (tNot tA) := by
  intro pins s σ H Q I h
  exact isTrue_not (ha pins s σ H (fun c H1 => Q (!c) H1) I h)
noncomputable def tAndV (ta tb : TE) : TE := fun σ H Q => ta σ H fun x H1 => ∃ c, x = .bl c ∧ if c = true then tb σ H1 Q else Q (.bl false) H1
noncomputable def tOrV (ta tb : TE) : TE := fun σ H Q => ta σ H fun x H1 => ∃ c, x = .bl c ∧ if c = true then Q (.bl true) H1 else tb σ H1 Q
noncomputable def tNotV (ta : TE) : TE := fun σ H Q => ta σ H fun x H1 => ∃ c, x = .bl c ∧ Q (.bl (!c)) H1
theorem pe_one {op} {t : TE} (h : PE X a t) : PE X (.BoolOp op [a] pos) t := fun pins s σ H Q I hw => BoolOp_one (h pins s σ H Q I hw)
theorem pe_and (ha : PE X a ta) (hb : PE X (.BoolOp .And (b :: rest) pos) tb) : PE X (.BoolOp .And (a :: b :: rest) pos) (tAndV ta tb) := by
  intro pins s σ H Q I h
  refine BoolOp_and (thn (ha pins s σ H _ I h) fun v s1 ⟨x, H1, I1, r1, q1⟩ => ?_)
  obtain ⟨c, rfl, q1⟩ := q1
  cases r1
  refine wpAny_truthy_bool ?_
  cases c with
  | true => exact hb pins s1 σ H1 Q I1 q1
  | false => exact ⟨.bl false, H1, I1, rfl, q1⟩
theorem pe_or (ha : PE X a ta) (hb : PE X (.BoolOp .Or (b :: rest) pos) tb) : PE X (.BoolOp .Or (a :: b :: rest) pos) (tOrV ta tb) := by
  intro pins s σ H Q I h
  refine BoolOp_or (thn (ha pins s σ H _ I h) fun v s1 ⟨x, H1, I1, r1, q1⟩ => ?_)
  obtain ⟨c, rfl, q1⟩ := q1
  cases r1
  refine wpAny_truthy_bool ?_
  cases c with
  | false => exact hb pins s1 σ H1 Q I1 q1
  | true => exact ⟨.bl true, H1, I1, rfl, q1⟩
theorem pe_not (ha : PE X a ta) : PE X (.UnaryOp .Not a pos) (tNotV ta) := by
  intro pins s σ H Q I h
  refine UnaryOp_ (thn (ha pins s σ H _ I h) fun v s1 ⟨x, H1, I1, r1, q1⟩ => ?_)
  obtain ⟨c, rfl, q1⟩ := q1
  cases r1
  exact not_of (wpAny_truthy_bool ⟨.bl (!c), H1, I1, rfl, q1⟩)
noncomputable def tIf (t : TT) (ta tb : TE) : TE := fun σ H Q => t σ H fun c H1 => if c = true then ta σ H1 Q else tb σ H1 Q
end
end L2
namespace L2
open PySem PySem.Spec PyProof.Rows
noncomputable def SqL (K : PySem.W.Frag) (H : Hp) (a : Addr) (xs : List V) : Prop :=
  Rd H a (.lst xs) ∨
    ∃ (o : Obj) (its : Array Value) (n : Nat), K.lookup a = some o ∧ o.cls = .type "list" ∧ o.dict = none ∧ o.data = .seq its n ∧ its.size ≤ sizeLine ∧ Vals xs its.toList
noncomputable def SqT (K : PySem.W.Frag) (H : Hp) (a : Addr) (xs : List V) : Prop :=
  Rd H a (.tup xs) ∨
    ∃ (o : Obj) (its : Array Value) (n : Nat), K.lookup a = some o ∧ o.cls = .type "tuple" ∧ o.data = .seq its n ∧ its.size ≤ sizeLine ∧ Vals xs its.toList
noncomputable def absV : Value → Option V
  | .none => some .non
  | .bool b => some (.bl b)
  | .int i _ => some (.int i)
  | .str x _ => some (.str x)
  | .bytes b _ => some (.byt b)
  | .float b _ => some (.flt b)
  | .ref a => some (.ref a)
  | .type n => some (.ty n)
  | _ => none
theorem RelV.abs {x : V} {u : Value} (r : RelV x u) : absV u = some x := by
  cases x with
  | non => cases r; rfl
  | bl _ => cases r; rfl
  | int _ => obtain ⟨t, rfl⟩ := r; rfl
  | str _ => obtain ⟨t, rfl⟩ := r; rfl
  | byt _ => obtain ⟨t, rfl⟩ := r; rfl
  | flt _ => obtain ⟨t, rfl⟩ := r; rfl
  | ref _ => cases r; rfl
  | ty _ => cases r; rfl
theorem RelV.inj {x y : V} {u : Value} (r : RelV x u) (q : RelV y u) : x = y := Option.some.inj (r.abs.symm.trans q.abs)
theorem Vals.inj : ∀ {xs ys : List V} {us : List Value}, Vals xs us → Vals ys us → xs = ys
  | _, _, _, .nil, .nil => rfl
  | _, _, _, .cons r t, .cons r' t' => by rw [r.inj r', Vals.inj t t']
section
variable {X : Cx} {pins : List (Addr × Obj)} {σ : St} {H : Hp} {s : Shared} {a : Addr} {xs ys : List V}
theorem SqL.of {K : PySem.W.Frag} (h : H a = some (.lst xs)) : SqL K H a xs := .inl (.inl h)
theorem SqT.of {K : PySem.W.Frag} (h : H a = some (.tup xs)) : SqT K H a xs := .inl (.inl h)
theorem Inv.list (I : Inv X pins σ H s) (h : SqL X.K H a xs) : ∃ its : List Value, Vals xs its ∧ PlainL s.heap a its.toArray ∧ xs.length ≤ sizeLine := by
  rcases h with h | ⟨o, its, n, hk, hc, hd, hs, hz, r⟩
  · obtain ⟨z, its, n, r, e⟩ := h.ok I.hok
    exact ⟨its, r, ⟨_, n, e, rfl, rfl, rfl⟩, z⟩
  · refine ⟨its.toList, r, ⟨o, n, I.kIn a o hk, hc, hd, by simpa using hs⟩, ?_⟩
    have e := r.length
    simp only [Array.length_toList] at e
    omega
theorem Inv.tuple (I : Inv X pins σ H s) (h : SqT X.K H a xs) : ∃ its : List Value, Vals xs its ∧ IsTup s.heap a its.toArray ∧ xs.length ≤ sizeLine := by
  rcases h with h | ⟨o, its, n, hk, hc, hs, hz, r⟩
  · obtain ⟨z, its, r, p⟩ := h.ok I.hok
    exact ⟨its, r, p, z⟩
  · refine ⟨its.toList, r, ⟨o, I.kIn a o hk, hc, n, by simpa using hs⟩, ?_⟩
    have e := r.length
    simp only [Array.length_toList] at e
    omega
theorem Inv.list_inj (I : Inv X pins σ H s) (h : SqL X.K H a xs) (h' : SqL X.K H a ys) : xs = ys := by
  obtain ⟨its, r, ⟨o, n, e, _, _, d⟩, _⟩ := I.list h
  obtain ⟨its', r', ⟨o', n', e', _, _, d'⟩, _⟩ := I.list h'
  rw [e] at e'; cases e'
  rw [d] at d'
  injection d' with d1 _
  have : its = its' := by simpa using congrArg Array.toList d1
  subst this
  exact r.inj r'
theorem Inv.tuple_inj (I : Inv X pins σ H s) (h : SqT X.K H a xs) (h' : SqT X.K H a ys) : xs = ys := by
  obtain ⟨its, r, ⟨o, e, _, n, d⟩, _⟩ := I.tuple h
  obtain ⟨its', r', ⟨o', e', _, n', d'⟩, _⟩ := I.tuple h'
  rw [e] at e'; cases e'
  rw [d] at d'
  injection d' with d1 _
  have : its = its' := by simpa using congrArg Array.toList d1
  subst this
  exact r.inj r'
end
noncomputable abbrev Cx.wish (X : Cx) (E : Value → Shared → Prop) : Cx := { X with xe := E }
noncomputable abbrev Cx.nox (X : Cx) : Cx := X.wish fun _ _ => False
theorem Cx.Ok.wish {X : Cx} (ok : X.Ok) (E : Value → Shared → Prop) : (X.wish E).Ok :=
  ⟨ok.mod, ok.kind, ok.glob, ok.blt, ok.above, ok.inj, ok.has, ok.cab, ok.hd, ok.frames, ok.stk, ok.exf, ok.bs, ok.bsz, ok.noex, ok.exfs, ok.funs, ok.frf⟩
theorem Cx.Ok.unwish {X : Cx} {E : Value → Shared → Prop} (ok : (X.wish E).Ok) : X.Ok :=
  ⟨ok.mod, ok.kind, ok.glob, ok.blt, ok.above, ok.inj, ok.has, ok.cab, ok.hd, ok.frames, ok.stk, ok.exf, ok.bs, ok.bsz, ok.noex, ok.exfs, ok.funs, ok.frf⟩
section
variable {X : Cx} {pins : List (Addr × Obj)} {σ : St} {H : Hp} {s : Shared} {E : Value → Shared → Prop}
theorem Inv.wish (I : Inv X pins σ H s) (E : Value → Shared → Prop) : Inv (X.wish E) pins σ H s := ⟨I.ok.wish E, I.os, I.bare, I.base, I.loc, I.cell, I.free, I.freeC, I.pin, I.hok, I.len⟩
theorem Inv.unwish (I : Inv (X.wish E) pins σ H s) : Inv X pins σ H s := ⟨I.ok.unwish, I.os, I.bare, I.base, I.loc, I.cell, I.free, I.freeC, I.pin, I.hok, I.len⟩
theorem SP.unwish {D : Ends} {f : Flow} {s' : Shared} (h : SP (X.wish E) pins D f s') : SP X pins D f s' := by
  cases f with
  | next => obtain ⟨σ', H', I, q⟩ := h; exact ⟨σ', H', I.unwish, q⟩
  | brk => obtain ⟨σ', H', I, q⟩ := h; exact ⟨σ', H', I.unwish, q⟩
  | cont => obtain ⟨σ', H', I, q⟩ := h; exact ⟨σ', H', I.unwish, q⟩
  | ret u => obtain ⟨v, σ', H', I, r, q⟩ := h; exact ⟨v, σ', H', I.unwish, r, q⟩
theorem PE.nox {e : Expr} {t : TE} (h : PE X.nox e t) : PE X e t := fun pins s σ H Q I hw =>
  wpAny_mono (h pins s σ H Q (I.wish _) hw) (fun _ _ ⟨v, H', I', r, q⟩ => ⟨v, H', I'.unwish, r, q⟩) fun _ _ z => False.elim z
theorem PT.nox {e : Expr} {t : TT} (h : PT X.nox e t) : PT X e t := fun pins s σ H Q I hw =>
  wpAny_mono (h pins s σ H Q (I.wish _) hw) (fun _ _ ⟨H', I', q⟩ => ⟨H', I'.unwish, q⟩) fun _ _ z => False.elim z
theorem PSs.nox {st : List Stmt} {t : TS} (h : PSs X.nox st t) : PSs X st t := fun pins s σ H D I hw =>
  wpAny_mono (h pins s σ H D (I.wish _) hw) (fun _ _ q => q.unwish) fun _ _ z => False.elim z
end
section
variable {X : Cx} {st : Stmt} {rest : List Stmt} {t u : TS} {e : Expr} {te : TE} {pos : Pos}
noncomputable def tNext : TS := fun D σ H => D.nx σ H
noncomputable def tSeq (t u : TS) : TS := fun D σ H => t { D with nx := u D } σ H
theorem pss_nil : PSs X [] tNext := fun _ _ σ H _ I h => wpAny_execs_nil ⟨σ, H, I, h⟩
theorem pss_cons (h1 : PS X st t) (h2 : PSs X rest u) : PSs X (st :: rest) (tSeq t u) := by
  intro pins s σ H D I h
  refine wpAny_execs_cons (thn (h1 pins s σ H { D with nx := u D } I h) fun f s1 q => ?_)
  cases f with
  | next =>
    obtain ⟨σ', H', I', q⟩ := q
    exact h2 pins s1 σ' H' D I' q
  | ret v => exact q
  | brk => exact q
  | cont => exact q
theorem pss_one (h1 : PS X st t) : PSs X [st] t := by
  intro pins s σ H D I h
  refine wpAny_execs_cons (thn (h1 pins s σ H D I h) fun f s1 q => ?_)
  cases f with
  | next => exact wpAny_execs_nil q
  | ret v => exact q
  | brk => exact q
  | cont => exact q
noncomputable def tBreak : TS := fun D σ H => D.bk σ H
noncomputable def tCont : TS := fun D σ H => D.ct σ H
theorem ps_continue : PS X (.Continue pos) tCont := fun _ _ σ H _ I h => wpAny_Continue ⟨σ, H, I, h⟩
theorem Inv.quiet {pins : List (Addr × Obj)} {σ : St} {H : Hp} {s : Shared} (I : Inv X pins σ H s) : interactive X.env = false := by simp [interactive, I.ok.kind]
noncomputable def tDrop (te : TE) : TS := fun D σ H => te σ H fun _ H1 => D.nx σ H1
theorem ps_expr (he : PE X e te) (hs : swapsWith e none pos.line X.env = pure false := by rfl) : PS X (.Expr e pos) (tDrop te) := by
  intro pins s σ H D I h
  exact wpAny_Expr_any (thn (he pins s σ H _ I h) fun v s1 ⟨x, H1, I1, r1, q1⟩ => ⟨σ, H1, I1, q1⟩) I.quiet hs
noncomputable def tRet (te : TE) : TS := fun D σ H => te σ H D.rt
theorem ps_ret (he : PE X e te) : PS X (.Return (some e) pos) (tRet te) := by
  intro pins s σ H D I h
  exact wpAny_Return_some (thn (he pins s σ H _ I h) fun v s1 ⟨x, H1, I1, r1, q1⟩ => ⟨x, σ, H1, I1, r1, q1⟩)
noncomputable def tRetN : TS := fun D _ H => D.rt .non H
noncomputable def tIfS (c : TT) (t u : TS) : TS := fun D σ H => c σ H fun b H1 => if b = true then t D σ H1 else u D σ H1
theorem ps_if {c : Expr} {a b : List Stmt} {tc : TT} (hc : PT X c tc) (ha : PSs X a t) (hb : PSs X b u) : PS X (.If c a b pos) (tIfS tc t u) := by
  intro pins s σ H D I h
  refine wpAny_If (thn (hc pins s σ H _ I h) fun d s1 ⟨H1, I1, q1⟩ => ?_)
  cases d with
  | true => exact ha pins s1 σ H1 D I1 q1
  | false => exact hb pins s1 σ H1 D I1 q1
noncomputable def tNever : TS := fun _ _ _ => False
end
noncomputable abbrev TG := V → St → Hp → (St → Hp → Prop) → Prop
noncomputable abbrev TGs := List V → St → Hp → (St → Hp → Prop) → Prop
noncomputable def PG (X : Cx) (target : Expr) (t : TG) : Prop :=
  ∀ (pins : List (Addr × Obj)) (s : Shared) (σ : St) (H : Hp) (v : V) (u : Value) (Q : St → Hp → Prop), Inv X pins σ H s → RelV v u → t v σ H Q →
    wpAny (model X.prog X.w) X.A (assign target X.env u) (fun _ s' => ∃ σ' H', Inv X pins σ' H' s' ∧ Q σ' H') X.xe s
noncomputable def PGs (X : Cx) (ts : List Expr) (t : TGs) : Prop :=
  ∀ (pins : List (Addr × Obj)) (s : Shared) (σ : St) (H : Hp) (vs : List V) (us : List Value) (Q : St → Hp → Prop), Inv X pins σ H s → Vals vs us → t vs σ H Q →
    wpAny (model X.prog X.w) X.A (assignInOrder ((assignEach ts X.env).map (·.2)) us) (fun _ s' => ∃ σ' H', Inv X pins σ' H' s' ∧ Q σ' H') X.xe s
noncomputable abbrev TSet := V → V → V → Hp → (Hp → Prop) → Prop
noncomputable def PSet (X : Cx) (t : TSet) : Prop :=
  ∀ (pins : List (Addr × Obj)) (s : Shared) (σ : St) (H : Hp) (o i v : V) (ov iv u : Value) (Q : Hp → Prop), Inv X pins σ H s → RelV o ov → RelV i iv → RelV v u → t o i v H Q →
    wpAny (model X.prog X.w) X.A (setItem ov iv u) (fun _ s' => ∃ H', Inv X pins σ H' s' ∧ Q H') X.xe s
section
variable {X : Cx} {pos : Pos}
noncomputable def gName (i : Nat) : TG := fun v σ H Q => Q (σ.set i (some v)) H
theorem pg_name {i : Nat} {x : Str} (hN : X.N.Nodup) (hi : X.N[i]? = some x) (hx : Loc X.env.scope x) (hf : X.fn x = true ∨ X.env.scope.names.lookup x = some .local := by first | exact .inl rfl | exact .inr rfl | assumption) : PG X (.Name x pos) (gName i) := by
  intro pins s σ H v u Q I r h
  exact wpAny_assign_Name (store_ok I hN hi hx r (fun s' I' => ⟨_, H, I', h⟩) hf)
noncomputable def gNil : TGs := fun vs σ H Q => vs = [] ∧ Q σ H
noncomputable def gCons (t : TG) (u : TGs) : TGs := fun vs σ H Q => ∃ v r, vs = v :: r ∧ t v σ H fun σ' H' => u r σ' H' Q
theorem pgs_nil : PGs X [] gNil := by
  intro pins s σ H vs us Q I r h
  obtain ⟨e, h⟩ := h
  subst e
  cases r
  exact assignInOrder_nil ⟨σ, H, I, h⟩
theorem pgs_cons {e : Expr} {es : List Expr} {t : TG} {u : TGs} (h1 : PG X e t) (h2 : PGs X es u)
    (hs : (assignEach (e :: es) X.env).map (·.2) = assign e X.env :: (assignEach es X.env).map (·.2) := by rfl) : PGs X (e :: es) (gCons t u) := by
  intro pins s σ H vs us Q I r h
  obtain ⟨v, vr, e1, h⟩ := h
  subst e1
  cases r with
  | cons r rr =>
    rw [hs]
    refine assignInOrder_cons (thn (h1 pins s σ H _ _ _ I r h) fun _ s1 ⟨σ1, H1, I1, q1⟩ => ?_)
    exact h2 pins s1 σ1 H1 _ _ Q I1 rr q1
noncomputable def gTup (K : PySem.W.Frag) (n : Nat) (t : TGs) : TG := fun v σ H Q => ∃ a xs, v = .ref a ∧ SqT K H a xs ∧ xs.length = n ∧ t xs σ H Q
theorem pg_tup {es : List Expr} {k : Nat} {t : TGs} {n : Nat} (hc : X.calm = true) (h : PGs X es t)
    (hn : (assignEach es X.env).length = n := by rfl) (hst : (assignEach es X.env).findIdx? (·.1) = none := by rfl) : PG X (.Tuple es k pos) (gTup X.K n t) := by
  intro pins s σ H v u Q I r hw
  obtain ⟨a, xs, e1, hq, hl, hw⟩ := hw
  subst e1
  cases r
  obtain ⟨its, rv, ht, hz⟩ := I.tuple hq
  refine assign_Tuple_tuple (I.ok.hd hc) ht (by simp [hn, ← hl, rv.length]) hst fun h' hx => ?_
  have I1 : Inv X pins σ H { s with heap := h' } := I.kept (t' := s.toks) fun b o e => hx b o (Nat.ne_of_lt (Heap.lt_size e)) e
  exact h pins _ σ H xs _ Q I1 (by simpa using rv) hw
noncomputable def gSub (to ti : TE) (t : TSet) : TG := fun v σ H Q => to σ H fun o H1 => ti σ H1 fun i H2 => t o i v H2 fun H3 => Q σ H3
theorem pg_sub {o i : Expr} {to ti : TE} {t : TSet} (ho : PE X o to) (hi : PE X i ti) (hs : PSet X t)
    (ha : ∀ v, assign (.Subscript o i pos) X.env v = (do
      let ov ← holding [v] (eval o X.env)
      let iv ← holding [v, ov] (eval i X.env)
      standAt pos
      holding [v, ov, iv] (setItem ov iv v)
      release [v, ov, iv] []) := by intro _; rfl) : PG X (.Subscript o i pos) (gSub to ti t) := by
  intro pins s σ H v u Q I r h
  rw [ha]
  refine wpAny_bind (wpAny_holding (thn (ho pins s σ H _ I h) fun ov s1 ⟨x, H1, I1, r1, q1⟩ => ?_))
  refine wpAny_bind (wpAny_holding (thn (hi pins s1 σ H1 _ I1 q1) fun iv s2 ⟨y, H2, I2, r2, q2⟩ => ?_))
  refine wpAny_bind (wpAny_standAt (wpAny_bind (wpAny_holding (thn (hs pins s2 σ H2 x y v ov iv u _ I2 r1 r2 r q2) fun _ s3 ⟨H3, I3, q3⟩ => ?_))))
  exact wpAny_release ⟨σ, H3, I3, q3⟩
noncomputable def tAsg (te : TE) (g : TG) : TS := fun D σ H => te σ H fun x H1 => g x σ H1 D.nx
theorem ps_asg {tg e : Expr} {te : TE} {g : TG} (he : PE X e te) (hg : PG X tg g) (hs : swapsWithSole [tg] e pos.line X.env = pure false := by rfl) (hw : swappedStores [tg] e X.env = pure none := by rfl)
    (h1 : (assignEach [tg] X.env).map (·.2) = [assign tg X.env] := by rfl) : PS X (.Assign [tg] e pos) (tAsg te g) := by
  intro pins s σ H D I h
  refine wpAny_Assign_stores (thn (he pins s σ H _ I h) fun v s1 ⟨x, H1, I1, r1, q1⟩ => ?_) hs hw
  rw [h1]
  exact thn (hg pins s1 σ H1 x v _ I1 r1 q1) fun _ s2 q => q
theorem ps_set {i : Nat} {x : Str} {e : Expr} {te : TE} {pos' : Pos} (hN : X.N.Nodup) (hi : X.N[i]? = some x) (hx : Loc X.env.scope x) (he : PE X e te) (hs : swapsWith e (some (.Name x pos')) pos.line X.env = pure false := by rfl) (hf : X.fn x = true ∨ X.env.scope.names.lookup x = some .local := by first | exact .inl rfl | exact .inr rfl | assumption) :
    PS X (.Assign [.Name x pos'] e pos) (tAsg te (gName i)) := by
  intro pins s σ H D I h
  refine wpAny_Assign_Name (thn (he pins s σ H _ I h) fun v s1 ⟨y, H1, I1, r1, q1⟩ => ?_) hs
  exact store_ok I1 hN hi hx r1 (fun s2 I2 => ⟨_, H1, I2, q1⟩) hf
end
section
variable {X : Cx} {pos : Pos}
noncomputable def tWhile (c : TT) (tb : TS) : TS := fun D σ H => ∃ W : Nat → St → Hp → Prop, (∃ m, W m σ H) ∧ ∀ m σ H, W m σ H →
  c σ H fun b H1 => if b = true then ∃ N : St → Hp → Prop, (∀ σ' H', N σ' H' → ∃ m', m' < m ∧ W m' σ' H') ∧ tb { D with nx := N, ct := N, bk := D.nx } σ H1 else D.nx σ H1
theorem ps_while {c : Expr} {body : List Stmt} {tc : TT} {tb : TS} (hp : PassesOwn (model X.prog X.w) X.A X.env X.xe) (hc : PT X c tc) (hb : PSs X body tb) : PS X (.While c body [] pos) (tWhile tc tb) := by
  intro pins s σ H D I h
  obtain ⟨W, ⟨m0, w0⟩, turn⟩ := h
  refine wpAny_While (codeAny_whileLoop (fun n s' => ∃ σ' H', Inv X pins σ' H' s' ∧ W n σ' H') ?_ m0 ⟨σ, H, I, w0⟩)
  rintro n s1 ⟨σ1, H1, I1, w1⟩
  refine wpAny_passesOwn hp (thn (hc pins s1 σ1 H1 _ I1 (turn n σ1 H1 w1)) fun b s2 ⟨H2, I2, q2⟩ => ?_)
  cases b with
  | true =>
    obtain ⟨N, hN, q2⟩ := q2
    rw [if_pos rfl]
    refine wpAny_passesOwn hp (thn (hb pins s2 σ1 H2 _ I2 q2) fun f s3 q3 => ?_)
    cases f with
    | next =>
      obtain ⟨σ3, H3, I3, n3⟩ := q3
      obtain ⟨m', hm, w3⟩ := hN σ3 H3 n3
      exact ⟨m', hm, σ3, H3, I3, w3⟩
    | cont =>
      obtain ⟨σ3, H3, I3, n3⟩ := q3
      obtain ⟨m', hm, w3⟩ := hN σ3 H3 n3
      exact ⟨m', hm, σ3, H3, I3, w3⟩
    | brk => exact q3
    | ret v => exact q3
  | false =>
    rw [if_neg Bool.false_ne_true]
    exact wpAny_execs_nil ⟨σ1, H2, I2, q2⟩
end
structure It where
  go : Nat → Hp → Prop
  yld : Nat → Hp → V → Hp → Prop
  stop : Nat → Hp → Prop
noncomputable def FpOk (X : Cx) (pins : List (Addr × Obj)) (H : Hp) (b : Addr) : Prop :=
  H b = none ∧ b ≠ X.env.locals ∧ b ∉ X.fs ∧ (b ∈ X.ex ∨ X.s₀.heap.objs.size ≤ b) ∧ (∀ x c, X.env.cells.lookup x = some c → c ≠ b) ∧ ∀ p ∈ X.pn ++ pins, p.1 ≠ b
theorem Inv.fpOk {X : Cx} {pins : List (Addr × Obj)} {σ : St} {H H' : Hp} {s : Shared} {b : Addr} (I : Inv X pins σ H s) (hb : s.heap.objs.size ≤ b) (hn : H' b = none) : FpOk X pins H' b := by
  refine ⟨hn, Nat.ne_of_gt (Nat.lt_of_lt_of_le I.lt hb), I.nofs hb, .inr (Nat.le_trans I.sz hb), fun x c e z => ?_, fun p hp z => ?_⟩
  · obtain ⟨v, q⟩ := I.cell x c e
    exact absurd (Nat.lt_of_lt_of_le q.lt (by rw [z]; exact hb)) (Nat.lt_irrefl _)
  · exact absurd (Nat.lt_of_lt_of_le (Heap.lt_size (I.pin p hp).1) (by rw [z]; exact hb)) (Nat.lt_irrefl _)
structure Turn (P : Program) (w : World) (K : PySem.W.Frag) (tg : Expr) (J : It) (fp : List Addr) (it : Addr) (tn : Nat → Heap → Prop) : Prop where
  mem : it ∈ fp
  obj : ∀ i h, tn i h → ∀ b ∈ fp, ∃ o, h.get? b = some o ∧ ∀ v, o.data ≠ .cell v
  keep : ∀ i h h', tn i h → (∀ b ∈ fp, ∀ o, h.get? b = some o → h'.get? b = some o) → tn i h'
  item : ∀ (X : Cx), X.prog = P → X.w = w → X.K = K → X.calm = true → ∀ (i : Nat) (pins : List (Addr × Obj)) (s : Shared) (σ : St) (H : Hp) (E : Value → Shared → Prop), Inv X pins σ H s → (∀ b ∈ fp, FpOk X pins H b) → tn i s.heap → J.go i H →
    wpAny (model P w) X.A (pyNext (.ref it)) (fun r s1 => ∃ u, r = some u ∧
      wpAny (model P w) X.A (letOwnedTupleGo tg (.ref it) u) (fun _ s2 => ∃ x H', Inv X pins σ H' s2 ∧ RelV x u ∧ J.yld i H x H' ∧ tn (i + 1) s2.heap ∧ ∀ b ∈ fp, H' b = none) E s1) E s
  done : ∀ (X : Cx), X.prog = P → X.w = w → X.K = K → X.calm = true → ∀ (i : Nat) (pins : List (Addr × Obj)) (s : Shared) (σ : St) (H : Hp) (E : Value → Shared → Prop), Inv X pins σ H s → (∀ b ∈ fp, FpOk X pins H b) → tn i s.heap → J.stop i H →
    wpAny (model P w) X.A (pyNext (.ref it)) (fun r s1 => r = none ∧ Inv X pins σ H s1) E s
  self : ∀ (A : Around) (i : Nat) (s : Shared) (Q : Value → Shared → Prop) (E : Value → Shared → Prop), tn i s.heap → Q (.ref it) s → wpAny (model P w) A (pyIter (.ref it)) Q E s
noncomputable abbrev TI := St → Hp → (It → Hp → Prop) → Prop
noncomputable def PIE (X : Cx) (pins : List (Addr × Obj)) (σ : St) (tg : Expr) (R : It → Hp → Prop) (itv : Value) (s2 : Shared) : Prop :=
  ∃ (it : Addr) (fp : List Addr) (tn : Nat → Heap → Prop) (J : It) (H' : Hp), itv = .ref it ∧ Inv X pins σ H' s2 ∧ Turn X.prog X.w X.K tg J fp it tn ∧ tn 0 s2.heap ∧ (∀ b ∈ fp, FpOk X pins H' b) ∧ R J H'
noncomputable def PI (X : Cx) (tg iter : Expr) (wi : TI) : Prop :=
  ∀ (pins : List (Addr × Obj)) (s : Shared) (σ : St) (H : Hp) (R : It → Hp → Prop), Inv X pins σ H s → wi σ H R →
    wpAny (model X.prog X.w) X.A (eval iter X.env) (fun v s1 => wpAny (model X.prog X.w) X.A (pyIter v) (PIE X pins σ tg R) X.xe s1) X.xe s
theorem go_of {M : Model} {A : Around} {E : Value → Shared → Prop} {s : Shared} {tg : Expr} {it : Addr} {u : Value} {o : Obj} {n : String} {vs : Array Value} {Q : Unit → Shared → Prop} (ho : s.heap.get? it = some o) (hc : o.cls = .type n) (hd : o.data = .fields vs)
    (hn : ["enumerate", "zip", "dict_itemiterator", "dict_reverseitemiterator", "odict_iterator", "itertools.zip_longest", "itertools.pairwise"].contains n = false) (hQ : Q () s) : wpAny M A (letOwnedTupleGo tg (.ref it) u) Q E s := by
  unfold letOwnedTupleGo
  cases tg <;> first
    | exact wpAny_pure hQ
    | (cases u <;> first
        | exact wpAny_pure hQ
        | (refine wpAny_bind (wpAny_load ho ?_)
           rw [hc, hd]
           show wpAny M A (if (["enumerate", "zip", "dict_itemiterator", "dict_reverseitemiterator", "odict_iterator", "itertools.zip_longest", "itertools.pairwise"].contains n && vs[0]? == some (rawInt _)) = true then _ else _) Q E s
           rw [if_neg (by intro h; rw [hn, Bool.false_and] at h; cases h)]
           exact wpAny_pure hQ))
noncomputable def Itl (K : PySem.W.Frag) (a : Addr) : It :=
  ⟨fun i H => ∃ xs x, SqL K H a xs ∧ xs[i]? = some x, fun i H x H' => H' = H ∧ ∀ xs, SqL K H a xs → xs[i]? = some x, fun i H => ∃ xs, SqL K H a xs ∧ xs.length ≤ i⟩
noncomputable def Itt (K : PySem.W.Frag) (a : Addr) : It :=
  ⟨fun i H => ∃ xs x, SqT K H a xs ∧ xs[i]? = some x, fun i H x H' => H' = H ∧ ∀ xs, SqT K H a xs → xs[i]? = some x, fun i H => ∃ xs, SqT K H a xs ∧ xs.length ≤ i⟩
noncomputable def Itr (lo : Int) (n : Nat) : It := ⟨fun i _ => i < n, fun i H x H' => H' = H ∧ x = .int (lo + i), fun i _ => n ≤ i⟩
theorem turn_list {P : Program} {w : World} {K : PySem.W.Frag} {tg : Expr} (a it : Addr) : Turn P w K tg (Itl K a) [it] it (fun i h => h.IsListIter it a i) where
  mem := by simp
  obj := fun i h st b hb => by
    have e : b = it := by simpa using hb
    subst e
    obtain ⟨o, e, c, d⟩ := st
    exact ⟨o, e, fun v z => by rw [d] at z; cases z⟩
  keep := fun i h h' st k => st.at fun o e => k it (by simp) o e
  item := by
    intro X hP hw hK hc i pins s σ H E I hf st hg
    subst hP hw hK
    obtain ⟨xs, x, hq, hx⟩ := hg
    obtain ⟨its, rv, p, hz⟩ := I.list hq
    obtain ⟨u, hu, ru⟩ := rv.get hx
    obtain ⟨f0, f1, f2, f3, f4, f5⟩ := hf it (by simp)
    refine wpAny_pyNext_list_item st p.isList (x := u) (by simpa using hu) fun h' st' sb => ?_
    have I1 : Inv X pins σ H { s with heap := h' } := I.turned (t' := s.toks) (fun b o hb e => (sb.2 b hb).trans e) f0 f1 f3 f4 f5
    obtain ⟨o, e, c, d⟩ := id st'
    exact ⟨u, rfl, go_of (s := { s with heap := h' }) e c d (by decide) ⟨x, H, I1, ru, ⟨rfl, fun ys hy => by rw [I.list_inj hy hq]; exact hx⟩, st', fun b hb => (hf b hb).1⟩⟩
  done := by
    intro X hP hw hK hc i pins s σ H E I hf st hg
    subst hP hw hK
    obtain ⟨xs, hq, hx⟩ := hg
    obtain ⟨its, rv, p, hz⟩ := I.list hq
    obtain ⟨f0, f1, f2, f3, f4, f5⟩ := hf it (by simp)
    have hl := rv.length
    exact wpAny_pyNext_list_end (I.ok.hd hc) st p.isList (by simp; omega) fun h' eb => ⟨rfl, I.turned (t' := s.toks) (fun b o hb e => eb b o hb e) f0 f1 f3 f4 f5⟩
  self := fun _ _ _ _ _ st h => wpAny_pyIter_listiter st h
theorem turn_tuple {P : Program} {w : World} {K : PySem.W.Frag} {tg : Expr} (a it : Addr) : Turn P w K tg (Itt K a) [it] it (fun i h => h.IsTupleIter it a i) where
  mem := by simp
  obj := fun i h st b hb => by
    have e : b = it := by simpa using hb
    subst e
    obtain ⟨o, e, c, d⟩ := st
    exact ⟨o, e, fun v z => by rw [d] at z; cases z⟩
  keep := fun i h h' st k => st.at fun o e => k it (by simp) o e
  item := by
    intro X hP hw hK hc i pins s σ H E I hf st hg
    subst hP hw hK
    obtain ⟨xs, x, hq, hx⟩ := hg
    obtain ⟨its, rv, p, hz⟩ := I.tuple hq
    obtain ⟨u, hu, ru⟩ := rv.get hx
    obtain ⟨f0, f1, f2, f3, f4, f5⟩ := hf it (by simp)
    refine wpAny_pyNext_tuple_item st (show s.heap.IsTuple a its.toArray from p) (x := u) (by simpa using hu) fun h' st' sb => ?_
    have I1 : Inv X pins σ H { s with heap := h' } := I.turned (t' := s.toks) (fun b o hb e => (sb.2 b hb).trans e) f0 f1 f3 f4 f5
    obtain ⟨o, e, c, d⟩ := id st'
    exact ⟨u, rfl, go_of (s := { s with heap := h' }) e c d (by decide) ⟨x, H, I1, ru, ⟨rfl, fun ys hy => by rw [I.tuple_inj hy hq]; exact hx⟩, st', fun b hb => (hf b hb).1⟩⟩
  done := by
    intro X hP hw hK hc i pins s σ H E I hf st hg
    subst hP hw hK
    obtain ⟨xs, hq, hx⟩ := hg
    obtain ⟨its, rv, p, hz⟩ := I.tuple hq
    obtain ⟨f0, f1, f2, f3, f4, f5⟩ := hf it (by simp)
    have hl := rv.length
    exact wpAny_pyNext_tuple_end (I.ok.hd hc) st (show s.heap.IsTuple a its.toArray from p) (by simp; omega) fun h' eb => ⟨rfl, I.turned (t' := s.toks) (fun b o hb e => eb b o hb e) f0 f1 f3 f4 f5⟩
  self := fun _ _ _ _ _ st h => wpAny_pyIter_tupleiter st h
theorem turn_range {P : Program} {w : World} {K : PySem.W.Frag} {tg : Expr} (it : Addr) (lo : Int) (n : Nat) : Turn P w K tg (Itr lo n) [it] it (fun i h => IsRangeIter h it (lo + (i : Nat) * 1) ((n : Int) - (i : Nat)) 1) where
  mem := by simp
  obj := fun i h st b hb => by
    have e : b = it := by simpa using hb
    subst e
    exact ⟨_, st, fun v z => by
      have z' : Data.fields _ = Data.cell v := z
      cases z'⟩
  keep := fun i h h' st k => k it (by simp) _ st
  item := by
    intro X hP hw hK hc i pins s σ H E I hf st hg
    subst hP hw hK
    obtain ⟨f0, f1, f2, f3, f4, f5⟩ := hf it (by simp)
    have W := Walks.range (prog := X.prog) (w := X.w) (I.ok.hd hc) it lo 1 n
    refine W.item i s _ _ hg st fun v h' tk hv st' kk => ?_
    obtain ⟨t, rfl⟩ := hv
    have I1 : Inv X pins σ H { s with heap := h', toks := tk } := I.turned (fun b o hb e => kk b o (by simpa using hb) e) f0 f1 f3 f4 f5
    refine ⟨_, rfl, go_of (s := { s with heap := h', toks := tk }) (n := "range_iterator") st' rfl rfl (by decide) ⟨.int (lo + i), H, I1, ⟨t, ?_⟩, ⟨rfl, rfl⟩, st', fun b hb => (hf b hb).1⟩⟩
    rw [Int.mul_one]
  done := by
    intro X hP hw hK hc i pins s σ H E I hf st hg
    subst hP hw hK
    obtain ⟨f0, f1, f2, f3, f4, f5⟩ := hf it (by simp)
    exact wpAny_pyNext_range_end (I.ok.hd hc) st (by have : n ≤ i := hg; omega) fun h' eb => ⟨rfl, I.turned (t' := s.toks) (fun b o hb e => eb b o hb e) f0 f1 f3 f4 f5⟩
  self := fun _ _ _ _ _ st h => wpAny_pyIter_rangeiter st h
end L2
namespace L2
open PySem PySem.Spec PyProof.Rows
section
variable {X : Cx} {tg : Expr}
noncomputable def iList (K : PySem.W.Frag) (tl : TE) : TI := fun σ H R => tl σ H fun x H1 => ∃ a, x = .ref a ∧ (∃ xs, SqL K H1 a xs) ∧ R (Itl K a) H1
noncomputable def iTup (K : PySem.W.Frag) (tl : TE) : TI := fun σ H R => tl σ H fun x H1 => ∃ a, x = .ref a ∧ (∃ xs, SqT K H1 a xs) ∧ R (Itt K a) H1
theorem pi_list {l : Expr} {tl : TE} (hl : PE X l tl) : PI X tg l (iList X.K tl) := by
  intro pins s σ H R I h
  refine thn (hl pins s σ H _ I h) fun v s1 ⟨x, H1, I1, r1, q1⟩ => ?_
  obtain ⟨a, e, ⟨xs, hq⟩, q⟩ := q1
  subst e
  cases r1
  obtain ⟨its, rv, p, hz⟩ := I1.list hq
  refine wpAny_pyIter_list p.isList ?_
  refine ⟨s1.heap.objs.size, [s1.heap.objs.size], _, _, H1, rfl, I1.kept (t' := s1.toks) fun b o e => Heap.get?_push_of_some _ e, turn_list a _, ⟨_, Heap.get?_push_size _ rfl, rfl, rfl⟩, fun b hb => ?_, q⟩
  have e : b = s1.heap.objs.size := by simpa using hb
  subst e
  exact I1.fpOk (Nat.le_refl _) (I1.hok.fresh (Nat.le_refl _))
theorem pi_tup {l : Expr} {tl : TE} (hl : PE X l tl) : PI X tg l (iTup X.K tl) := by
  intro pins s σ H R I h
  refine thn (hl pins s σ H _ I h) fun v s1 ⟨x, H1, I1, r1, q1⟩ => ?_
  obtain ⟨a, e, ⟨xs, hq⟩, q⟩ := q1
  subst e
  cases r1
  obtain ⟨its, rv, p, hz⟩ := I1.tuple hq
  refine wpAny_pyIter_tuple (show s1.heap.IsTuple a its.toArray from p) ?_
  refine ⟨s1.heap.objs.size, [s1.heap.objs.size], _, _, H1, rfl, I1.kept (t' := s1.toks) fun b o e => Heap.get?_push_of_some _ e, turn_tuple a _, ⟨_, Heap.get?_push_size _ rfl, rfl, rfl⟩, fun b hb => ?_, q⟩
  have e : b = s1.heap.objs.size := by simpa using hb
  subst e
  exact I1.fpOk (Nat.le_refl _) (I1.hok.fresh (Nat.le_refl _))
theorem range_it {pins : List (Addr × Obj)} {σ : St} {H : Hp} {s : Shared} {R : It → Hp → Prop} {E : Value → Shared → Prop} {lo hi : Int} {t u v : Tok} {tk : Nat} (I : Inv X pins σ H s) (h1 : -(2 ^ 62) ≤ lo) (h2 : lo < 2 ^ 62) (h3 : -(2 ^ 62) ≤ hi) (h4 : hi < 2 ^ 62)
    (q : R (Itr lo (hi - lo).toNat) H) : wpAny (model X.prog X.w) X.A (pyIter (.ref s.heap.objs.size)) (PIE X pins σ tg R) E { s with heap := s.heap.push { cls := .type "range", data := .fields #[.int lo t, .int hi u, .int 1 v] }, toks := tk } := by
  refine wpAny_pyIter_range (IsRange.new ..) (small_one h1 h2 h3 h4) ?_
  have I1 : Inv X pins σ H { s with heap := s.heap.push { cls := .type "range", data := .fields #[.int lo t, .int hi u, .int 1 v] }, toks := tk } := I.kept fun b o e => Heap.get?_push_of_some _ e
  refine ⟨(s.heap.push { cls := .type "range", data := .fields #[.int lo t, .int hi u, .int 1 v] }).objs.size, [(s.heap.push { cls := .type "range", data := .fields #[.int lo t, .int hi u, .int 1 v] }).objs.size], _, _, H, rfl,
    I1.kept (t' := tk) fun b o e => Heap.get?_push_of_some _ e, turn_range _ lo (hi - lo).toNat, ?_, fun b hb => ?_, q⟩
  · have e1 : lo + ((0 : Nat) : Int) * 1 = lo := by simp
    have e2 : (((hi - lo).toNat : Nat) : Int) - ((0 : Nat) : Int) = Builtin.Range.rangeSize lo hi 1 := by rw [rangeSize_one]; split <;> omega
    show IsRangeIter _ _ (lo + ((0 : Nat) : Int) * 1) ((((hi - lo).toNat : Nat) : Int) - ((0 : Nat) : Int)) 1
    rw [e1, e2]
    exact Heap.get?_push_size _ rfl
  · have e : b = (s.heap.push { cls := .type "range", data := .fields #[.int lo t, .int hi u, .int 1 v] }).objs.size := by simpa using hb
    subst e
    exact I1.fpOk (Nat.le_refl _) (I1.hok.fresh (Nat.le_refl _))
noncomputable def iRng1 (ta : TA) : TI := fun σ H R => ta σ H fun vs H1 => ∃ j : Int, vs = [.int j] ∧ -(2 ^ 62) ≤ j ∧ j < 2 ^ 62 ∧ R (Itr 0 j.toNat) H1
noncomputable def iRng2 (ta : TA) : TI := fun σ H R => ta σ H fun vs H1 => ∃ i j : Int, vs = [.int i, .int j] ∧ (-(2 ^ 62) ≤ i ∧ i < 2 ^ 62 ∧ -(2 ^ 62) ≤ j ∧ j < 2 ^ 62) ∧ R (Itr i (j - i).toNat) H1
theorem pi_range1 {a : Expr} {ta : TA} {p pos : Pos} (hg : Gl X "range") (hm : X.mg "range" = none) (ha : PA X [a] ta) (hs : starEach [a] X.env = [(false, eval a X.env)] := by rfl) : PI X tg (.Call (.Name "range" p) [a] [] pos) (iRng1 ta) := by
  intro pins s σ H R I h
  refine Call_ (ld_blt I hg hm boot_range (PyProof.Rows.callWith_type1 (thn (ha pos pins s σ H _ I h) fun us s1 ⟨vs, H1, I1, r1, q1⟩ => ?_) hs rfl))
  obtain ⟨j, e, q1, q2, q⟩ := q1
  subst e
  cases r1 with
  | cons r rr =>
    cases rr
    obtain ⟨t, rfl⟩ := r
    exact call_range_1 (range_it I1 (by omega) (by omega) q1 q2 (by simpa using q))
theorem pi_range2 {a b : Expr} {ta : TA} {p pos : Pos} (hg : Gl X "range") (hm : X.mg "range" = none) (ha : PA X [a, b] ta) (hs : starEach [a, b] X.env = [(false, eval a X.env), (false, eval b X.env)] := by rfl) (hs2 : starEach [b] X.env = [(false, eval b X.env)] := by rfl) :
    PI X tg (.Call (.Name "range" p) [a, b] [] pos) (iRng2 ta) := by
  intro pins s σ H R I h
  refine Call_ (ld_blt I hg hm boot_range (PyProof.Rows.callWith_type1 (thn (ha pos pins s σ H _ I h) fun us s1 ⟨vs, H1, I1, r1, q1⟩ => ?_) (by rw [hs, hs2]) (by rw [hs2]; rfl)))
  obtain ⟨i, j, e, ⟨q1, q2, q3, q4⟩, q⟩ := q1
  subst e
  cases r1 with
  | cons r rr =>
    cases rr with
    | cons r' rr =>
      cases rr
      obtain ⟨t, rfl⟩ := r
      obtain ⟨t', rfl⟩ := r'
      exact call_range_2 (range_it I1 q1 q2 q3 q4 q)
noncomputable def tFor (wi : TI) (g : TG) (tb : TS) : TS := fun D σ H => wi σ H fun J H1 => ∃ W : Nat → Nat → St → Hp → Prop, (∃ m, W 0 m σ H1) ∧ ∀ i m σ H, W i m σ H →
  (J.stop i H ∧ D.nx σ H) ∨ (J.go i H ∧ ∃ N : St → Hp → Prop, (∀ σ' H', N σ' H' → ∃ m', m' < m ∧ W (i + 1) m' σ' H') ∧ ∀ x H', J.yld i H x H' → g x σ H' fun σ2 H2 => tb { D with nx := N, ct := N, bk := D.nx } σ2 H2)
noncomputable def pinsAt (fp : List Addr) (h : Heap) : List (Addr × Obj) := fp.filterMap fun b => (h.get? b).map fun o => (b, o)
theorem mem_pinsAt {fp : List Addr} {h : Heap} {b : Addr} {o : Obj} (hb : b ∈ fp) (e : h.get? b = some o) : (b, o) ∈ pinsAt fp h := List.mem_filterMap.mpr ⟨b, hb, by rw [e]; rfl⟩
theorem of_pinsAt {fp : List Addr} {h : Heap} {p : Addr × Obj} (hp : p ∈ pinsAt fp h) : p.1 ∈ fp ∧ h.get? p.1 = some p.2 := by
  obtain ⟨b, hb, e⟩ := List.mem_filterMap.mp hp
  cases q : h.get? b with
  | none => rw [q] at e; cases e
  | some o =>
    rw [q] at e
    have e' : (b, o) = p := Option.some.inj e
    subst e'
    exact ⟨hb, q⟩
theorem Inv.pinned {pins : List (Addr × Obj)} {σ : St} {H : Hp} {s : Shared} {fp : List Addr} (I : Inv X pins σ H s) (hf : ∀ b ∈ fp, FpOk X pins H b) (ho : ∀ b ∈ fp, ∃ o, s.heap.get? b = some o ∧ ∀ v, o.data ≠ .cell v) : Inv X (pins ++ pinsAt fp s.heap) σ H s :=
  I.pins_of fun p hp => (List.mem_append.mp hp).elim (fun z => I.pin p (List.mem_append_right _ z)) fun z => by
    obtain ⟨hb, e⟩ := of_pinsAt z
    obtain ⟨f0, f1, f2, _⟩ := hf p.1 hb
    obtain ⟨o, e', d⟩ := ho p.1 hb
    rw [e] at e'; cases e'
    exact ⟨e, f0, f1, f2, d⟩
theorem Inv.unpinned {pins pl : List (Addr × Obj)} {σ : St} {H : Hp} {s : Shared} (I : Inv X (pins ++ pl) σ H s) : Inv X pins σ H s := I.pins_of fun p hp => I.pin p (List.mem_append_right _ (List.mem_append_left _ hp))
theorem ps_for {iter : Expr} {body : List Stmt} {wi : TI} {g : TG} {tb : TS} {pos : Pos} (hp : PassesOwn (model X.prog X.w) X.A X.env X.xe) (hc : X.calm = true) (hi : PI X tg iter wi) (hg : PG X tg g) (hb : PSs X body tb)
    (hs : ∀ x, foldedSetIterable iter X.env x = pure x := by intro _; rfl) : PS X (.For tg iter body [] pos) (tFor wi g tb) := by
  intro pins s σ H D I h
  refine wpAny_For (thn (hi pins s σ H _ I h) fun v s1 h1 => thn h1 fun itv s2 h2 => ?_) hs
  obtain ⟨it, fp, tn, J, H2, e, I2, T, st2, f2, W, ⟨m0, w0⟩, turn⟩ := h2
  subst e
  have stat : ∀ {H' : Hp}, (∀ b ∈ fp, H' b = none) → ∀ b ∈ fp, FpOk X pins H' b := fun hn b hb => ⟨hn b hb, (f2 b hb).2⟩
  refine codeAny_forLoop_any (fun n s' => ∃ i σ' H', Inv X pins σ' H' s' ∧ tn i s'.heap ∧ (∀ b ∈ fp, H' b = none) ∧ W i n σ' H') ?_ m0 ⟨0, σ, H2, I2, st2, fun b hb => (f2 b hb).1, w0⟩
  rintro n s3 ⟨i, σ3, H3, I3, st3, fr3, w3⟩
  rcases turn i n σ3 H3 w3 with ⟨stop, qn⟩ | ⟨go, N, hN, step⟩
  · refine wpAny_passesOwn hp (thn (T.done X rfl rfl rfl hc i pins s3 σ3 H3 X.xe I3 (stat fr3) st3 stop) fun r s4 ⟨hr, I4⟩ => ?_)
    subst hr
    exact wpAny_execs_nil ⟨σ3, H3, I4, qn⟩
  · refine wpAny_passesOwn hp (thn (T.item X rfl rfl rfl hc i pins s3 σ3 H3 X.xe I3 (stat fr3) st3 go) fun r s4 ⟨u, hr, h4⟩ => ?_)
    subst hr
    refine wpAny_passesOwn hp (thn h4 fun _ s5 ⟨x, H5, I5, r5, y5, st5, fr5⟩ => ?_)
    have I5' := I5.pinned (stat fr5) (T.obj _ _ st5)
    refine wpAny_passesOwn hp (thn (hg _ s5 σ3 H5 x u _ I5' r5 (step x H5 y5)) fun _ s6 ⟨σ6, H6, I6, q6⟩ => ?_)
    refine wpAny_passesOwn hp (thn (hb _ s6 σ6 H6 _ I6 q6) fun f s7 q7 => ?_)
    have again : ∀ {σ7 : St} {H7 : Hp}, Inv X (pins ++ pinsAt fp s5.heap) σ7 H7 s7 → N σ7 H7 → ∃ m, m < n ∧ ∃ i σ' H', Inv X pins σ' H' s7 ∧ tn i s7.heap ∧ (∀ b ∈ fp, H' b = none) ∧ W i m σ' H' := fun {σ7 H7} I7 n7 => by
      obtain ⟨m', hm, w7⟩ := hN σ7 H7 n7
      refine ⟨m', hm, i + 1, σ7, H7, I7.unpinned, T.keep _ _ _ st5 fun b hb o e => (I7.pin (b, o) (List.mem_append_right _ (List.mem_append_right _ (mem_pinsAt hb e)))).1, fun b hb => ?_, w7⟩
      obtain ⟨o, e, d⟩ := T.obj _ _ st5 b hb
      exact (I7.pin (b, o) (List.mem_append_right _ (List.mem_append_right _ (mem_pinsAt hb e)))).2.1
    cases f with
    | next => obtain ⟨σ7, H7, I7, n7⟩ := q7; exact again I7 n7
    | cont => obtain ⟨σ7, H7, I7, n7⟩ := q7; exact again I7 n7
    | brk => obtain ⟨σ7, H7, I7, q7⟩ := q7; exact ⟨σ7, H7, I7.unpinned, q7⟩
    | ret v => obtain ⟨x7, σ7, H7, I7, r7, q7⟩ := q7; exact ⟨x7, σ7, H7, I7.unpinned, r7, q7⟩
end
theorem for_list {K : PySem.W.Frag} {a : Addr} {xs : List V} {g : TG} {tb : TS} {D : Ends} {σ : St} {H : Hp} (Pv : Nat → St → Hp → Prop) (h0 : Pv 0 σ H) (hl : ∀ i σ H, i ≤ xs.length → Pv i σ H → SqL K H a xs)
    (hs : ∀ i x σ H, xs[i]? = some x → Pv i σ H → g x σ H fun σ2 H2 => tb { D with nx := Pv (i + 1), ct := Pv (i + 1), bk := D.nx } σ2 H2) (hd : ∀ σ H, Pv xs.length σ H → D.nx σ H) :
    ∃ W : Nat → Nat → St → Hp → Prop, (∃ m, W 0 m σ H) ∧ ∀ i m σ H, W i m σ H →
      ((Itl K a).stop i H ∧ D.nx σ H) ∨ ((Itl K a).go i H ∧ ∃ N : St → Hp → Prop, (∀ σ' H', N σ' H' → ∃ m', m' < m ∧ W (i + 1) m' σ' H') ∧ ∀ x H', (Itl K a).yld i H x H' → g x σ H' fun σ2 H2 => tb { D with nx := N, ct := N, bk := D.nx } σ2 H2) := by
  refine ⟨fun i m σ H => m = xs.length - i ∧ i ≤ xs.length ∧ Pv i σ H, ⟨xs.length, by simp, Nat.zero_le _, h0⟩, ?_⟩
  rintro i m σ H ⟨rfl, hi, p⟩
  have q := hl i σ H hi p
  by_cases hlt : i < xs.length
  · refine .inr ⟨⟨xs, xs[i], q, by simp [hlt]⟩, Pv (i + 1), fun σ' H' p' => ⟨xs.length - (i + 1), by omega, rfl, hlt, p'⟩, fun x H' y => ?_⟩
    obtain ⟨e, y⟩ := y
    subst e
    exact hs i x σ _ (y xs q) p
  · have e : i = xs.length := by omega
    subst e
    exact .inl ⟨⟨xs, q, Nat.le_refl _⟩, hd σ H p⟩
theorem for_tup {K : PySem.W.Frag} {a : Addr} {xs : List V} {g : TG} {tb : TS} {D : Ends} {σ : St} {H : Hp} (Pv : Nat → St → Hp → Prop) (h0 : Pv 0 σ H) (hl : ∀ i σ H, i ≤ xs.length → Pv i σ H → SqT K H a xs)
    (hs : ∀ i x σ H, xs[i]? = some x → Pv i σ H → g x σ H fun σ2 H2 => tb { D with nx := Pv (i + 1), ct := Pv (i + 1), bk := D.nx } σ2 H2) (hd : ∀ σ H, Pv xs.length σ H → D.nx σ H) :
    ∃ W : Nat → Nat → St → Hp → Prop, (∃ m, W 0 m σ H) ∧ ∀ i m σ H, W i m σ H →
      ((Itt K a).stop i H ∧ D.nx σ H) ∨ ((Itt K a).go i H ∧ ∃ N : St → Hp → Prop, (∀ σ' H', N σ' H' → ∃ m', m' < m ∧ W (i + 1) m' σ' H') ∧ ∀ x H', (Itt K a).yld i H x H' → g x σ H' fun σ2 H2 => tb { D with nx := N, ct := N, bk := D.nx } σ2 H2) := by
  refine ⟨fun i m σ H => m = xs.length - i ∧ i ≤ xs.length ∧ Pv i σ H, ⟨xs.length, by simp, Nat.zero_le _, h0⟩, ?_⟩
  rintro i m σ H ⟨rfl, hi, p⟩
  have q := hl i σ H hi p
  by_cases hlt : i < xs.length
  · refine .inr ⟨⟨xs, xs[i], q, by simp [hlt]⟩, Pv (i + 1), fun σ' H' p' => ⟨xs.length - (i + 1), by omega, rfl, hlt, p'⟩, fun x H' y => ?_⟩
    obtain ⟨e, y⟩ := y
    subst e
    exact hs i x σ _ (y xs q) p
  · have e : i = xs.length := by omega
    subst e
    exact .inl ⟨⟨xs, q, Nat.le_refl _⟩, hd σ H p⟩
theorem for_range {lo : Int} {n : Nat} {g : TG} {tb : TS} {D : Ends} {σ : St} {H : Hp} (Pv : Nat → St → Hp → Prop) (h0 : Pv 0 σ H)
    (hs : ∀ i σ H, i < n → Pv i σ H → g (.int (lo + i)) σ H fun σ2 H2 => tb { D with nx := Pv (i + 1), ct := Pv (i + 1), bk := D.nx } σ2 H2) (hd : ∀ σ H, Pv n σ H → D.nx σ H) :
    ∃ W : Nat → Nat → St → Hp → Prop, (∃ m, W 0 m σ H) ∧ ∀ i m σ H, W i m σ H →
      ((Itr lo n).stop i H ∧ D.nx σ H) ∨ ((Itr lo n).go i H ∧ ∃ N : St → Hp → Prop, (∀ σ' H', N σ' H' → ∃ m', m' < m ∧ W (i + 1) m' σ' H') ∧ ∀ x H', (Itr lo n).yld i H x H' → g x σ H' fun σ2 H2 => tb { D with nx := N, ct := N, bk := D.nx } σ2 H2) := by
  refine ⟨fun i m σ H => m = n - i ∧ i ≤ n ∧ Pv i σ H, ⟨n, by simp, Nat.zero_le _, h0⟩, ?_⟩
  rintro i m σ H ⟨rfl, hi, p⟩
  by_cases hlt : i < n
  · refine .inr ⟨hlt, Pv (i + 1), fun σ' H' p' => ⟨n - (i + 1), by omega, rfl, hlt, p'⟩, fun x H' y => ?_⟩
    obtain ⟨e, y⟩ := y
    subst e y
    exact hs i σ _ hlt p
  · have e : i = n := by omega
    subst e
    exact .inl ⟨Nat.le_refl _, hd σ H p⟩
end L2
namespace L2
open PySem PySem.Spec PyProof.Rows
noncomputable abbrev R2 := V → V → Hp → VK → Prop
noncomputable def OpR (X : Cx) (f : Value → Value → Sem Value) (r : R2) : Prop :=
  ∀ (pins : List (Addr × Obj)) (s : Shared) (σ : St) (H : Hp) (x y : V) (v u : Value) (Q : VK), Inv X pins σ H s → RelV x v → RelV y u → r x y H Q →
    wpAny (model X.prog X.w) X.A (f v u) (EP X pins σ Q) X.xe s
noncomputable def UnR (X : Cx) (f : Value → Sem Value) (r : V → Hp → VK → Prop) : Prop :=
  ∀ (pins : List (Addr × Obj)) (s : Shared) (σ : St) (H : Hp) (x : V) (v : Value) (Q : VK), Inv X pins σ H s → RelV x v → r x H Q →
    wpAny (model X.prog X.w) X.A (f v) (EP X pins σ Q) X.xe s
noncomputable def CallR (X : Cx) (f : Value) (r : List V → Hp → VK → Prop) : Prop :=
  ∀ (pins : List (Addr × Obj)) (s : Shared) (σ : St) (H : Hp) (xs : List V) (us : List Value) (Q : VK), Inv X pins σ H s → Vals xs us → r xs H Q →
    wpAny (model X.prog X.w) X.A (call f us) (EP X pins σ Q) X.xe s
noncomputable def tOp (r : R2) (ta tb : TE) : TE := fun σ H Q => ta σ H fun x H1 => tb σ H1 fun y H2 => r x y H2 Q
noncomputable def tUn (r : V → Hp → VK → Prop) (ta : TE) : TE := fun σ H Q => ta σ H fun x H1 => r x H1 Q
noncomputable def rI (C : Int → Int → Prop) (g : Int → Int → V) : R2 := fun x y H Q => ∃ i j, x = .int i ∧ y = .int j ∧ C i j ∧ Q (g i j) H
noncomputable def rI0 (g : Int → Int → V) : R2 := fun x y H Q => ∃ i j, x = .int i ∧ y = .int j ∧ Q (g i j) H
noncomputable def rU (g : Int → V) : V → Hp → VK → Prop := fun x H Q => ∃ i, x = .int i ∧ Q (g i) H
section
variable {X : Cx} {a b c : Expr} {ta tb tc : TE} {pos : Pos}
theorem binT (ha : PE X a ta) (hb : PE X b tb) {pins : List (Addr × Obj)} {s : Shared} {σ : St} {H : Hp} {R : V → V → Hp → Prop} (I : Inv X pins σ H s)
    (h : ta σ H fun x H1 => tb σ H1 fun y H2 => R x y H2) {Q : Value → Shared → Prop} {f : Value → Value → Sem Value}
    (hf : ∀ v u s2 x y H2, Inv X pins σ H2 s2 → RelV x v → RelV y u → R x y H2 → wpAny (model X.prog X.w) X.A (f v u) Q X.xe s2) :
    wpAny (model X.prog X.w) X.A (eval a X.env) (fun v s₁ => wpAny (model X.prog X.w) X.A (eval b X.env) (fun u s₂ => wpAny (model X.prog X.w) X.A (f v u) Q X.xe s₂) X.xe s₁) X.xe s := by
  refine thn (ha pins s σ H _ I h) fun v s1 ⟨x, H1, I1, r1, q1⟩ => ?_
  refine thn (hb pins s1 σ H1 _ I1 q1) fun u s2 ⟨y, H2, I2, r2, q2⟩ => ?_
  exact hf v u s2 x y H2 I2 r1 r2 q2
theorem pe_op {op : Operator} {r : R2} (ho : OpR X (binaryOp op) r) (ha : PE X a ta) (hb : PE X b tb) : PE X (.BinOp a op b pos) (tOp r ta tb) := by
  intro pins s σ H Q I h
  exact wpAny_BinOp (binT ha hb I h fun v u s2 x y H2 I2 rx ry q => ho pins s2 σ H2 x y v u Q I2 rx ry q)
theorem pe_un {op : UnaryOp} {r : V → Hp → VK → Prop} (ho : UnR X (unaryOp op) r) (ha : PE X a ta) : PE X (.UnaryOp op a pos) (tUn r ta) := by
  intro pins s σ H Q I h
  exact UnaryOp_ (thn (ha pins s σ H _ I h) fun v s1 ⟨x, H1, I1, r1, q1⟩ => ho pins s1 σ H1 x v Q I1 r1 q1)
theorem opI {f : Value → Value → Sem Value} {C : Int → Int → Prop} {g : Int → Int → Int}
    (rule : ∀ (i j : Int) (t u : Tok) (s : Shared) (Q : Value → Shared → Prop) (E : Value → Shared → Prop), C i j → Q (.int (g i j) s.toks) { s with toks := s.toks + 1 } → wpAny (model X.prog X.w) X.A (f (.int i t) (.int j u)) Q E s) :
    OpR X f (rI C fun i j => .int (g i j)) := by
  intro pins s σ H x y v u Q I rx ry h
  obtain ⟨i, j, rfl, rfl, hc, q⟩ := h
  obtain ⟨t, rfl⟩ := rx
  obtain ⟨t', rfl⟩ := ry
  exact rule i j t t' s _ _ hc ⟨.int (g i j), H, I.tok _, ⟨_, rfl⟩, q⟩
theorem opI0 {f : Value → Value → Sem Value} {g : Int → Int → Int}
    (rule : ∀ (i j : Int) (t u : Tok) (s : Shared) (Q : Value → Shared → Prop) (E : Value → Shared → Prop), Q (.int (g i j) s.toks) { s with toks := s.toks + 1 } → wpAny (model X.prog X.w) X.A (f (.int i t) (.int j u)) Q E s) :
    OpR X f (rI0 fun i j => .int (g i j)) := by
  intro pins s σ H x y v u Q I rx ry h
  obtain ⟨i, j, rfl, rfl, q⟩ := h
  obtain ⟨t, rfl⟩ := rx
  obtain ⟨t', rfl⟩ := ry
  exact rule i j t t' s _ _ ⟨.int (g i j), H, I.tok _, ⟨_, rfl⟩, q⟩
theorem opB0 {f : Value → Value → Sem Value} {g : Int → Int → Bool}
    (rule : ∀ (i j : Int) (t u : Tok) (s : Shared) (Q : Value → Shared → Prop) (E : Value → Shared → Prop), Q (.bool (g i j)) s → wpAny (model X.prog X.w) X.A (f (.int i t) (.int j u)) Q E s) :
    OpR X f (rI0 fun i j => .bl (g i j)) := by
  intro pins s σ H x y v u Q I rx ry h
  obtain ⟨i, j, rfl, rfl, q⟩ := h
  obtain ⟨t, rfl⟩ := rx
  obtain ⟨t', rfl⟩ := ry
  exact rule i j t t' s _ _ ⟨.bl (g i j), H, I, rfl, q⟩
noncomputable def CDiv (i j : Int) : Prop := 0 < j ∧ j < 1073741824
noncomputable def CPow (i j : Int) : Prop := 0 ≤ j ∧ j ≤ 1000000 ∧ i.natAbs < 2 ^ 64
noncomputable def CMul (i j : Int) : Prop := (-(2 ^ 64) < i ∧ i < 2 ^ 64) ∨ (-(2 ^ 64) < j ∧ j < 2 ^ 64)
theorem CMul.ok {i j : Int} (h : CMul i j) : IntMulOk i j := by
  rcases h with ⟨h1, h2⟩ | ⟨h1, h2⟩
  · exact .of_left (intBits_le_64 h1 h2)
  · exact .of_right (intBits_le_64 h1 h2)
theorem op_add : OpR X (binaryOp .Add) (rI0 fun i j => .int (i + j)) := opI0 fun _ _ _ _ _ _ _ q => add_int q
theorem op_sub : OpR X (binaryOp .Sub) (rI0 fun i j => .int (i - j)) := opI0 fun _ _ _ _ _ _ _ q => sub_int q
theorem op_mul : OpR X (binaryOp .Mult) (rI CMul fun i j => .int (i * j)) := opI fun _ _ _ _ _ _ _ hc q => mul_int q hc.ok
theorem op_fdiv : OpR X (binaryOp .FloorDiv) (rI CDiv fun i j => .int (i / j)) := opI fun i j _ _ _ _ _ hc q => by
  have h1 : (0 : Int) < j := hc.1
  have h2 : j < 1073741824 := hc.2
  exact floordiv_int (by omega) (by rw [Int.fdiv_eq_ediv_of_nonneg i (by omega)]; exact q) (.inl (PyProof.noPylong_small (by omega)))
theorem op_mod : OpR X (binaryOp .Mod) (rI (fun _ j => 0 < j) fun i j => .int (i % j)) := opI fun i j _ _ _ _ _ hc q => by
  have h1 : (0 : Int) < j := hc
  exact mod_int' (by omega) (by rw [Int.fmod_eq_emod_of_nonneg i (by omega)]; exact q)
theorem op_pow : OpR X (binaryOp .Pow) (rI CPow fun i j => .int (i ^ j.toNat)) := opI fun _ _ _ _ _ _ _ hc q => pow_int_small hc.1 hc.2.1 hc.2.2 q
theorem unI {f : Value → Sem Value} {g : Int → Int}
    (rule : ∀ (i : Int) (t : Tok) (s : Shared) (Q : Value → Shared → Prop) (E : Value → Shared → Prop), Q (.int (g i) s.toks) { s with toks := s.toks + 1 } → wpAny (model X.prog X.w) X.A (f (.int i t)) Q E s) :
    UnR X f (rU fun i => .int (g i)) := by
  intro pins s σ H x v Q I rx h
  obtain ⟨i, rfl, q⟩ := h
  obtain ⟨t, rfl⟩ := rx
  exact rule i t s _ _ ⟨.int (g i), H, I.tok _, ⟨_, rfl⟩, q⟩
theorem un_neg : UnR X (unaryOp .USub) (rU fun i => .int (-i)) := unI fun _ _ _ _ _ q => neg_int q
end
noncomputable def scal : V → V → Bool
  | .non, .non => true | .non, .int _ => true | .int _, .non => true | .non, .bl _ => true | .bl _, .non => true | .non, .str _ => true | .str _, .non => true
  | .int _, .int _ => true | .bl _, .bl _ => true | .str _, .str _ => true | .byt _, .byt _ => true
  | .int _, .str _ => true | .str _, .int _ => true | .bl _, .str _ => true | .str _, .bl _ => true
  | _, _ => false
noncomputable def rEq : R2 := fun x y H Q => scal x y = true ∧ Q (.bl (decide (x = y))) H
noncomputable def rNe : R2 := fun x y H Q => scal x y = true ∧ Q (.bl (!decide (x = y))) H
theorem dec_int {i j : Int} : decide (V.int i = V.int j) = (i == j) := by
  rw [Bool.eq_iff_iff]
  simp
theorem dec_bl {i j : Bool} : decide (V.bl i = V.bl j) = (i == j) := by
  rw [Bool.eq_iff_iff]
  simp
theorem dec_str {i j : Str} : decide (V.str i = V.str j) = (i == j) := by
  rw [Bool.eq_iff_iff]
  simp
theorem dec_byt {i j : Array UInt8} : decide (V.byt i = V.byt j) = (i.toList == j.toList) := by
  rw [Bool.eq_iff_iff]
  cases i
  cases j
  simp
section
variable {X : Cx} {a b c : Expr} {ta tb tc : TE} {pos : Pos}
theorem fin_bl {pins : List (Addr × Obj)} {σ : St} {H : Hp} {s : Shared} {Q : VK} {k k' : Bool} (I : Inv X pins σ H s) (q : Q (.bl k) H) (e : k = k') : EP X pins σ Q (.bool k') s := by
  subst e
  exact ⟨.bl k, H, I, rfl, q⟩
theorem op_eq : OpR X (compareOp .Eq) rEq := by
  intro pins s σ H x y v u Q I rx ry h
  obtain ⟨hs, q⟩ := h
  cases x with
  | non =>
    cases rx
    cases y with
    | non => cases ry; exact PySem.EqNone.eq_none_none (fin_bl I q (by simp))
    | bl j => cases ry; exact PySem.EqNone.eq_none_bool (fin_bl I q (by simp))
    | int j => obtain ⟨t', rfl⟩ := ry; exact PySem.EqNone.eq_none_int (fin_bl I q (by simp))
    | str j => obtain ⟨t', rfl⟩ := ry; exact PySem.EqNone.eq_none_str (fin_bl I q (by simp))
    | _ => exact absurd (show false = true from hs) Bool.false_ne_true
  | bl i =>
    cases rx
    cases y with
    | non => cases ry; exact PySem.EqNone.eq_bool_none (fin_bl I q (by simp))
    | bl j => cases ry; exact eq_bool (fin_bl I q dec_bl)
    | str j => obtain ⟨t', rfl⟩ := ry; exact PySem.EqMixed.eq_bool_str (fin_bl I q (by simp))
    | _ => exact absurd (show false = true from hs) Bool.false_ne_true
  | int i =>
    obtain ⟨t, rfl⟩ := rx
    cases y with
    | non => cases ry; exact PySem.EqNone.eq_int_none (fin_bl I q (by simp))
    | int j => obtain ⟨t', rfl⟩ := ry; exact eq_int (fin_bl I q dec_int)
    | str j => obtain ⟨t', rfl⟩ := ry; exact PySem.EqMixed.eq_int_str (fin_bl I q (by simp))
    | _ => exact absurd (show false = true from hs) Bool.false_ne_true
  | str i =>
    obtain ⟨t, rfl⟩ := rx
    cases y with
    | non => cases ry; exact PySem.EqNone.eq_str_none (fin_bl I q (by simp))
    | bl j => cases ry; exact PySem.EqMixed.eq_str_bool (fin_bl I q (by simp))
    | int j => obtain ⟨t', rfl⟩ := ry; exact PySem.EqMixed.eq_str_int (fin_bl I q (by simp))
    | str j => obtain ⟨t', rfl⟩ := ry; exact eq_str (fin_bl I q dec_str)
    | _ => exact absurd (show false = true from hs) Bool.false_ne_true
  | byt i =>
    obtain ⟨t, rfl⟩ := rx
    cases y with
    | byt j => obtain ⟨t', rfl⟩ := ry; exact PySem.W.eq_bytes (fin_bl I q dec_byt)
    | _ => exact absurd (show false = true from hs) Bool.false_ne_true
  | _ => cases y <;> exact absurd (show false = true from hs) Bool.false_ne_true
theorem op_ne : OpR X (compareOp .NotEq) rNe := by
  intro pins s σ H x y v u Q I rx ry h
  obtain ⟨hs, q⟩ := h
  cases x with
  | non =>
    cases rx
    cases y with
    | non => cases ry; exact PySem.EqNone.ne_none_none (fin_bl I q (by simp))
    | bl j => cases ry; exact PySem.EqNone.ne_none_bool (fin_bl I q (by simp))
    | int j => obtain ⟨t', rfl⟩ := ry; exact PySem.EqNone.ne_none_int (fin_bl I q (by simp))
    | str j => obtain ⟨t', rfl⟩ := ry; exact PySem.EqNone.ne_none_str (fin_bl I q (by simp))
    | _ => exact absurd (show false = true from hs) Bool.false_ne_true
  | bl i =>
    cases rx
    cases y with
    | non => cases ry; exact PySem.EqNone.ne_bool_none (fin_bl I q (by simp))
    | bl j => cases ry; exact ne_bool (fin_bl I q (congrArg not dec_bl))
    | str j => obtain ⟨t', rfl⟩ := ry; exact PySem.EqMixed.ne_bool_str (fin_bl I q (by simp))
    | _ => exact absurd (show false = true from hs) Bool.false_ne_true
  | int i =>
    obtain ⟨t, rfl⟩ := rx
    cases y with
    | non => cases ry; exact PySem.EqNone.ne_int_none (fin_bl I q (by simp))
    | int j => obtain ⟨t', rfl⟩ := ry; exact ne_int (fin_bl I q (congrArg not dec_int))
    | str j => obtain ⟨t', rfl⟩ := ry; exact PySem.EqMixed.ne_int_str (fin_bl I q (by simp))
    | _ => exact absurd (show false = true from hs) Bool.false_ne_true
  | str i =>
    obtain ⟨t, rfl⟩ := rx
    cases y with
    | non => cases ry; exact PySem.EqNone.ne_str_none (fin_bl I q (by simp))
    | bl j => cases ry; exact PySem.EqMixed.ne_str_bool (fin_bl I q (by simp))
    | int j => obtain ⟨t', rfl⟩ := ry; exact PySem.EqMixed.ne_str_int (fin_bl I q (by simp))
    | str j => obtain ⟨t', rfl⟩ := ry; exact ne_str (fin_bl I q (congrArg not dec_str))
    | _ => exact absurd (show false = true from hs) Bool.false_ne_true
  | byt i =>
    obtain ⟨t, rfl⟩ := rx
    cases y with
    | byt j => obtain ⟨t', rfl⟩ := ry; exact PySem.W.ne_bytes (fin_bl I q (congrArg not dec_byt))
    | _ => exact absurd (show false = true from hs) Bool.false_ne_true
  | _ => cases y <;> exact absurd (show false = true from hs) Bool.false_ne_true
theorem op_lt : OpR X (compareOp .Lt) (rI0 fun i j => .bl (decide (i < j))) := opB0 fun _ _ _ _ _ _ _ q => lt_int q
theorem op_le : OpR X (compareOp .LtE) (rI0 fun i j => .bl (decide (i ≤ j))) := opB0 fun _ _ _ _ _ _ _ q => le_int q
theorem op_gt : OpR X (compareOp .Gt) (rI0 fun i j => .bl (decide (j < i))) := opB0 fun _ _ _ _ _ _ _ q => gt_int q
theorem op_ge : OpR X (compareOp .GtE) (rI0 fun i j => .bl (decide (j ≤ i))) := opB0 fun _ _ _ _ _ _ _ q => ge_int q
theorem op_isN : OpR X (compareOp .Is) (fun x y H Q => y = .non ∧ Q (.bl (decide (x = .non))) H) := by
  intro pins s σ H x y v u Q I rx ry h
  obtain ⟨rfl, q⟩ := h
  cases ry
  refine is_none_gen (fin_bl I q ?_)
  cases x <;> first
    | (cases rx; rfl)
    | (obtain ⟨t, rfl⟩ := rx; rfl)
theorem op_notN : OpR X (compareOp .IsNot) (fun x y H Q => y = .non ∧ Q (.bl (!decide (x = .non))) H) := by
  intro pins s σ H x y v u Q I rx ry h
  obtain ⟨rfl, q⟩ := h
  cases ry
  refine isnot_none_gen (fin_bl I q ?_)
  cases x <;> first
    | (cases rx; rfl)
    | (obtain ⟨t, rfl⟩ := rx; rfl)
theorem nomark (b : Expr) {op : CmpOp} (h : op ≠ .In := by decide) (h2 : op ≠ .NotIn := by decide) : behindInMarks op b = false := by
  have e1 : (op == CmpOp.In) = false := by cases op <;> first | rfl | exact absurd rfl h
  have e2 : (op == CmpOp.NotIn) = false := by cases op <;> first | rfl | exact absurd rfl h2
  cases b <;> simp [behindInMarks, e1, e2]
theorem pe_cmpR {op : CmpOp} {r : R2} (ho : OpR X (compareOp op) r) (ha : PE X a ta) (hb : PE X b tb) (hm : behindInMarks op b = false) : PE X (.Compare a [op] [b] pos) (tOp r ta tb) := by
  intro pins s σ H Q I h
  exact wpAny_Compare1 (binT ha hb I h fun v u s2 x y H2 I2 rx ry q => ho pins s2 σ H2 x y v u Q I2 rx ry q) hm
noncomputable def tTest (t : TE) : TT := fun σ H Q => t σ H fun x H' => ∃ k, x = .bl k ∧ Q k H'
theorem pt_cmpR {op : CmpOp} {r : R2} (ho : OpR X (compareOp op) r) (ha : PE X a ta) (hb : PE X b tb) (hm : behindInMarks op b = false) : PT X (.Compare a [op] [b] pos) (tTest (tOp r ta tb)) := by
  intro pins s σ H Q I h
  refine wpAny_isTrue_Compare1 (thn (ha pins s σ H _ I h) fun v s1 ⟨x, H1, I1, r1, q1⟩ => thn (hb pins s1 σ H1 _ I1 q1) fun u s2 ⟨y, H2, I2, r2, q2⟩ =>
    thn (ho pins s2 σ H2 x y v u _ I2 r1 r2 q2) fun c s3 ⟨z, H3, I3, r3, k, e, q3⟩ => ?_) hm
  subst e
  cases r3
  exact wpAny_truthy_bool ⟨H3, I3, q3⟩
theorem line63 : (sizeLine : Nat) < 2 ^ 63 := by rw [sizeLine_eq]; decide
theorem vals1 {x : V} {us : List Value} (r : Vals [x] us) : ∃ u, us = [u] ∧ RelV x u := by
  cases r with
  | cons r1 r2 => cases r2; exact ⟨_, rfl, r1⟩
theorem call_int1 : CallR X (.type "int") (fun xs H Q => (∃ i, xs = [.int i] ∧ Q (.int i) H) ∨ ∃ k, xs = [.bl k] ∧ Q (.int (if k then 1 else 0)) H) := by
  intro pins s σ H xs us Q I r h
  rcases h with ⟨i, rfl, q⟩ | ⟨k, rfl, q⟩
  · obtain ⟨u, rfl, t, rfl⟩ := vals1 r
    exact call_int_int ⟨.int i, H, I, ⟨_, rfl⟩, q⟩
  · obtain ⟨u, rfl, r1⟩ := vals1 r
    cases r1
    exact call_int_bool ⟨.int (if k then 1 else 0), H, I.tok _, ⟨_, rfl⟩, q⟩
end
end L2
namespace L2
open PySem PySem.Spec PyProof.Rows
structure ObjM (h : Heap) (x dx C : Addr) (mA : Str → Option Value) : Prop where
  obj : h.get? x = some (PySem.W.instObj C dx)
  ns : h.Ns1 dx mA
  ne : dx ≠ x
theorem lookIn_ns {h : Heap} {dx : Addr} {mA : Str → Option Value} (n : h.Ns1 dx mA) : ∃ od, h.get? dx = some od ∧ ∀ name, PySem.W.lookIn name od = some (mA name) := by
  obtain ⟨o, es, ep, ho, hd, hk, _, hm⟩ := n
  refine ⟨o, ho, fun name => ?_⟩
  have e := hm name
  unfold nsFind findBy at e
  rw [← Array.find?_toList] at e
  unfold PySem.W.lookIn
  rw [hd]
  dsimp only
  split
  · rename_i y q
    rw [q] at e
    exact congrArg some e
  · rename_i q
    rw [q] at e
    have a : es.toList.any (·.refKey) = false := by
      rw [List.any_eq_false]
      intro y hy
      obtain ⟨z, t, hkey⟩ := hk y (Array.mem_toList_iff.mp hy)
      simp [DictEntry.refKey, hkey]
    have a' : ¬ es.toList.any (·.refKey) = true := by rw [a]; exact Bool.false_ne_true
    rw [if_neg a']
    exact congrArg some e
theorem ObjM.look {h : Heap} {x dx C : Addr} {mA : Str → Option Value} (I : ObjM h x dx C mA) : ∃ od, PySem.W.InstAt h x (PySem.W.instObj C dx) C (some od) ∧ ∀ name, PySem.W.lookIn name od = some (mA name) :=
  let ⟨od, ho, hl⟩ := lookIn_ns I.ns
  ⟨od, ⟨I.obj, rfl, rfl, ho⟩, hl⟩
section
variable {prog : Program} {w : World} {A : Around} {E : Value → Shared → Prop} {s : Shared} {K : PySem.W.Frag} {x dx C f : Addr} {mA : Str → Option Value} {name : Str} {v : Value}
end
noncomputable def putF (f : Str) (v : V) : List (Str × V) → List (Str × V)
  | [] => [(f, v)]
  | (g, x) :: r => if g = f then (g, v) :: r else (g, x) :: putF f v r
theorem RelO.some_of {v : V} {o : Option Value} (r : RelO (some v) o) : ∃ u, o = some u ∧ RelV v u := by
  cases o with
  | none => exact (show False from r).elim
  | some u => exact ⟨u, rfl, r⟩
section
variable {P : Program} {w : World} {H H' : Hp} {h h' : Heap} {a C dx : Addr} {fs fs' : List (Str × V)}
theorem ins_get (hok : HOk P w H h) (e : H a = some (.ins C dx fs)) : ∃ mA, ObjM h a dx C mA ∧ (∀ f, RelO (fs.lookup f) (mA f)) ∧ PySem.Within mA (fs.map (·.1)) ∧ fs.length ≤ 1000 ∧ H dx = some (.own a) := by
  obtain ⟨d, z, ne, ob, mA, n, r, q⟩ := (show ObjOk P w H h a (.ins C dx fs) from hok a _ e)
  exact ⟨mA, ⟨ob, n, ne⟩, r, q, z, d⟩
end
structure Cls (K : PySem.W.Frag) (C : Addr) : Prop where
  pg : PySem.W.plainGet K C Str.empty = true
  hd : PySem.W.hasDictIn K C = true
  po : PySem.W.plainOver K C = true
  sa : PySem.W.findIn K (.ref C) "__setattr__" = some (some (.builtin "object.__setattr__"))
theorem Cls.get {K : PySem.W.Frag} {C : Addr} (c : Cls K C) (f : Str) : PySem.W.plainGet K C f = true := c.pg
section
variable {X : Cx} {pins : List (Addr × Obj)} {σ : St} {H : Hp} {s : Shared} {a C dx : Addr} {fs : List (Str × V)} {f : Str} {v : V} {A : Around} {E : Value → Shared → Prop}
end
section
variable {X : Cx} {o e value : Expr} {f : Str} {pos pos' tpos : Pos} {ta tv : TE}
end
section
variable {X : Cx} {pins : List (Addr × Obj)} {σ : St} {H : Hp} {s : Shared} {A : Around} {E : Value → Shared → Prop} {Q : Value → Shared → Prop} {c : Value} {b : Bool}
inductive TyOf (K : PySem.W.Frag) (H : Hp) : V → Value → Prop where
  | non : TyOf K H .non (.type "NoneType")
  | bl (x : Bool) : TyOf K H (.bl x) (.type "bool")
  | int (i : Int) : TyOf K H (.int i) (.type "int")
  | str (x : Str) : TyOf K H (.str x) (.type "str")
  | flt (x : UInt64) : TyOf K H (.flt x) (.type "float")
  | lst {a : Addr} {xs : List V} (e : H a = some (.lst xs)) : TyOf K H (.ref a) (.type "list")
  | frz {a : Addr} {o : Obj} {xs : List V} (e : H a = some (.frz o (.lst xs))) : TyOf K H (.ref a) (.type "list")
  | tup {a : Addr} {xs : List V} (e : H a = some (.tup xs)) : TyOf K H (.ref a) (.type "tuple")
  | dK {a : Addr} {kvs : List (Key × V)} (e : H a = some (.dK kvs)) : TyOf K H (.ref a) (.type "dict")
  | dT {a : Addr} {kvs : List (List Key × V)} (e : H a = some (.dT kvs)) : TyOf K H (.ref a) (.type "dict")
  | ins {a C dx : Addr} {fs : List (Str × V)} (e : H a = some (.ins C dx fs)) (cl : Cls K C) (ha : PySem.W.findIn K (.ref C) "__class__" = some (some (.builtin "object.__class__")))
      (hn : PySem.W.specialIn K (.builtin "object.__class__") "__get__" = some (some (.builtin "getset_descriptor.__get__"))) (htk : PySem.W.takesIn K (.builtin "object.__class__") = some true)
      (hm : PySem.W.mroIn K C (.type "object") = some true) : TyOf K H (.ref a) (.ref C)
theorem isinst_ok {x : V} {u t : Value} (I : Inv X pins σ H s) (rx : RelV x u) (ty : TyOf X.K H x t) (e : PySem.W.kitOne X.K t c = some b) (h : ∀ tk, Q (.bool b) { s with toks := tk }) :
    wpAny (model X.prog X.w) A (call (.builtin "isinstance") [u, c]) Q E s := by
  cases ty with
  | non => cases (show u = Value.none from rx); exact PySem.W.kia_one PySem.W.kitx_none I.kIn True.intro e (fun z => nomatch z) h
  | bl y => cases (show u = Value.bool y from rx); exact PySem.W.kia_one PySem.W.kitx_bool I.kIn True.intro e (fun z => nomatch z) h
  | int i => obtain ⟨t, q⟩ := (show ∃ t, u = Value.int i t from rx); cases q; exact PySem.W.kia_one PySem.W.kitx_int I.kIn True.intro e (fun z => nomatch z) h
  | str y => obtain ⟨t, q⟩ := (show ∃ t, u = Value.str y t from rx); cases q; exact PySem.W.kia_one PySem.W.kitx_str I.kIn True.intro e (fun z => nomatch z) h
  | flt y => obtain ⟨t, q⟩ := (show ∃ t, u = Value.float y t from rx); cases q; exact PySem.W.kia_one PySem.W.kitx_float I.kIn True.intro e (fun z => nomatch z) h
  | @lst a xs ea =>
    cases (show u = Value.ref a from rx)
    obtain ⟨_, _, n, _, h1⟩ := (show ObjOk X.prog X.w H s.heap a (.lst xs) from I.hok a _ ea)
    exact PySem.W.kia_one PySem.W.kitx_list I.kIn ⟨_, h1, rfl⟩ e (fun z => nomatch z) h
  | @frz a ob xs ea =>
    cases (show u = Value.ref a from rx)
    obtain ⟨_, _, _, n, _, h1⟩ := (show ObjOk X.prog X.w H s.heap a (.frz ob (.lst xs)) from I.hok a _ ea)
    exact PySem.W.kia_one PySem.W.kitx_list I.kIn ⟨_, h1, rfl⟩ e (fun z => nomatch z) h
  | @tup a xs ea =>
    cases (show u = Value.ref a from rx)
    obtain ⟨_, _, _, p⟩ := (show ObjOk X.prog X.w H s.heap a (.tup xs) from I.hok a _ ea)
    obtain ⟨o, h1, h2, _⟩ := p
    exact PySem.W.kia_one PySem.W.kitx_tuple I.kIn ⟨o, h1, h2⟩ e (fun z => nomatch z) h
  | @dK a kvs ea =>
    cases (show u = Value.ref a from rx)
    obtain ⟨_, _, vs, _, p⟩ := (show ObjOk X.prog X.w H s.heap a (.dK kvs) from I.hok a _ ea)
    obtain ⟨o, es, ep, h1, h2, _⟩ := p
    exact PySem.W.kia_one PySem.W.kitx_dict I.kIn ⟨o, h1, h2.1⟩ e (fun z => nomatch z) h
  | @dT a kvs ea =>
    cases (show u = Value.ref a from rx)
    obtain ⟨_, _, xs, _, o, es, ep, h1, h2, _⟩ := (show ObjOk X.prog X.w H s.heap a (.dT kvs) from I.hok a _ ea)
    exact PySem.W.kia_one PySem.W.kitx_dict I.kIn ⟨o, h1, h2.1⟩ e (fun z => nomatch z) h
  | @ins a C dx fs ea cl ha hn htk hm =>
    cases (show u = Value.ref a from rx)
    obtain ⟨mA, O, _⟩ := ins_get I.hok ea
    obtain ⟨od, J, _⟩ := O.look
    exact PySem.W.kia_one (PySem.W.kitx_own (cl.get _) cl.hd ha hn htk hm) I.kIn J e (fun z => nomatch z) h
end
end L2
namespace L2
open PySem PySem.Spec PyProof.Rows
structure Room (k : Nat) (A : Around) : Prop where
  hd : A.handled = none
  dp : A.depth + 3 * k + 5 < recursionLimit
  un : A.units + 16 * k + 200 < cLine
theorem Room.mono {j k : Nat} {A : Around} (r : Room k A) (h : j ≤ k) : Room j A := ⟨r.hd, by have := r.dp; omega, by have := r.un; omega⟩
theorem Room.deeper {k : Nat} {A : Around} (r : Room (k + 1) A) (env : Env) : Room k (A.deeper env) :=
  ⟨r.hd, by have := r.dp; show A.depth + 1 + 3 * k + 5 < _; omega, by have := r.un; show A.units + 3 + 16 * k + 200 < _; omega⟩
theorem Room.depth {k : Nat} {A : Around} (r : Room k A) : A.depth < recursionLimit := by have := r.dp; omega
theorem Room.units {k : Nat} {A : Around} (r : Room k A) : A.units + 64 < cLine := by have := r.un; omega
theorem Room.units0 {k : Nat} {A : Around} (r : Room k A) : A.units < cLine := by have := r.un; omega
noncomputable def tNil : TA := fun _ H Q => Q [] H
noncomputable def tCons (ta : TE) (tr : TA) : TA := fun σ H Q => ta σ H fun x H1 => tr σ H1 fun xs H2 => Q (x :: xs) H2
section
variable {X : Cx} {e : Expr} {es : List Expr} {te : TE} {t : TA} {pos : Pos}
theorem pa_nil : PA X [] tNil := fun _ _ _ _ H Q I h => Calls.spliced_nil ⟨[], H, I, .nil, h⟩
theorem pa_cons (ha : PE X e te) (hr : PA X es t) (hs : starEach (e :: es) X.env = (false, eval e X.env) :: starEach es X.env := by rfl) : PA X (e :: es) (tCons te t) := by
  intro pos pins s σ H Q I h
  rw [hs]
  show wpAny _ _ (spliced ((false, eval e X.env) :: backTo pos (starEach es X.env))) _ _ s
  refine Calls.spliced_cons (thn (ha pins s σ H _ I h) fun u s1 ⟨x, H1, I1, r1, q1⟩ => ?_)
  exact thn (hr pos pins s1 σ H1 _ I1 q1) fun us s2 ⟨xs, H2, I2, r2, q2⟩ => ⟨x :: xs, H2, I2, .cons r1 r2, q2⟩
noncomputable def tTup (t : TA) : TE := fun σ H Q => t σ H fun xs H1 => xs.length ≤ sizeLine ∧ ∀ p, H1 p = none → Q (.ref p) (upd H1 p (.tup xs))
noncomputable def tLst (t : TA) : TE := fun σ H Q => t σ H fun xs H1 => xs.length ≤ sizeLine ∧ ∀ p, H1 p = none → Q (.ref p) (upd H1 p (.lst xs))
theorem pe_tup {x1} (h : PA X es t) : PE X (.Tuple es x1 pos) (tTup t) := by
  intro pins s σ H Q I hq
  refine wpAny_Tuple_spliced (thn (h pos pins s σ H _ I hq) fun us s1 ⟨xs, H1, I1, r, z, q⟩ => ⟨by rw [← r.length]; exact z, ?_⟩)
  have hf : H1 s1.heap.objs.size = none := I1.hok.fresh (Nat.le_refl _)
  refine ⟨.ref s1.heap.objs.size, upd H1 s1.heap.objs.size (.tup xs), I1.laid (t' := s1.toks) (fun b u e => Heap.get?_push_of_some _ e) (Nat.le_refl _) ?_, rfl, q _ hf⟩
  exact ⟨z, us, r, ⟨_, Heap.get?_push_size _ rfl, rfl, _, rfl⟩⟩
theorem pe_lst (h : PA X es t) : PE X (.List es pos) (tLst t) := by
  intro pins s σ H Q I hq
  refine wpAny_List_spliced (thn (h pos pins s σ H _ I hq) fun us s1 ⟨xs, H1, I1, r, z, q⟩ => ⟨by rw [← r.length]; exact z, ?_⟩)
  have hf : H1 s1.heap.objs.size = none := I1.hok.fresh (Nat.le_refl _)
  refine ⟨.ref s1.heap.objs.size, upd H1 s1.heap.objs.size (.lst xs), I1.laid (t' := s1.toks) (fun b u e => Heap.get?_push_of_some _ e) (Nat.le_refl _) ?_, rfl, q _ hf⟩
  exact ⟨z, us, 0, r, Heap.get?_push_size _ rfl⟩
end
noncomputable abbrev Sp := List V → Hp → VK → XK → Prop
noncomputable abbrev CXT := List Env → Hp → Shared → XK → Value → Shared → Prop
structure Env0 (P : Program) (w : World) (K : PySem.W.Frag) (mg : Str → Option Value) (base : Heap) (A : Around) (outer : List Env) (s : Shared) (H : Hp) : Prop where
  frames : A.frames = some outer
  mod : Mod K mg base
  bs : ∀ b o, base.get? b = some o → s.heap.get? b = some o ∧ H b = none
  bsz : base.objs.size ≤ s.heap.objs.size
  funs : s.heap.FunFrames base outer
  frf : ∀ b ∈ frs outer, H b = none
  hok : HOk P w H s.heap
  bare : AllBare s.gens
noncomputable def CE (outer : List Env) (P : Program) (w : World) (H : Hp) (s : Shared) (Q : VK) (u : Value) (s' : Shared) : Prop :=
  ∃ v H', s'.os = s.os ∧ AllBare s'.gens ∧ Un (frs outer) [] H H' s.heap s'.heap ∧ HOk P w H' s'.heap ∧ RelV v u ∧ Q v H'
noncomputable def CR (CX : CXT) (outer : List Env) (P : Program) (w : World) (H : Hp) (s : Shared) (Q : VK) (E : XK) (r : Result) (s' : Shared) : Prop :=
  match r with
  | .ok (.ret u) => CE outer P w H s Q u s'
  | .ok _ => False
  | .error e => CX outer H s E e s'
structure FnOk (P : Program) (w : World) (K : PySem.W.Frag) (mg : Str → Option Value) (base : Heap) (CX : CXT) (k : Nat) (f : Addr) (fd : FuncData) (ps : List Str) (sp : Sp) : Prop where
  len : ∀ vs H Q E, sp vs H Q E → vs.length = ps.length
  run : ∀ (A : Around) (outer : List Env) (s : Shared) (H : Hp) (args : Args) (us : List Value) (vs : List V) (Q : VK) (E : XK), Room k A → Env0 P w K mg base A outer s H → BindsTo s fd args (ps.zip us) → Vals vs us → sp vs H Q E →
    codeAny (model P w) A (.call (.ref f) args) (CR CX outer P w H s Q E) s
theorem FnOk.mono {P : Program} {w : World} {K : PySem.W.Frag} {mg : Str → Option Value} {base : Heap} {CX : CXT} {j k : Nat} {f : Addr} {fd : FuncData} {ps : List Str} {sp : Sp} (F : FnOk P w K mg base CX j f fd ps sp) (h : j ≤ k) :
    FnOk P w K mg base CX k f fd ps sp := ⟨F.len, fun A outer s H args us vs Q E hr => F.run A outer s H args us vs Q E (hr.mono h)⟩
section
variable {X : Cx} {pins : List (Addr × Obj)} {σ : St} {H : Hp} {s s' : Shared}
theorem Inv.env0 (I : Inv X pins σ H s) : Env0 X.prog X.w X.K X.mg X.base X.A X.stack s H :=
  ⟨I.ok.frames, I.ok.mod, I.bs, Nat.le_trans I.ok.bsz I.sz, I.stack, I.stkFree, I.hok, I.bare⟩
theorem Inv.after {Q : VK} {u : Value} (I : Inv X pins σ H s) (h : CE X.stack X.prog X.w H s Q u s') : EP X pins σ Q u s' := by
  obtain ⟨v, H', os, bare, un, hok, r, q⟩ := h
  obtain ⟨hh, g, d, t, os'⟩ := s'
  obtain rfl : os' = s.os := os
  exact ⟨v, H', I.call (h' := hh) (g' := g) (d' := d) (t' := t) (ch := []) un hok bare (fun b z => absurd z (by simp)), r, q⟩
end
noncomputable def tCall (sp : Sp) (dvs : List V) (E : XK) (t : TA) : TE := fun σ H Q => t σ H fun vs H1 => sp (vs ++ dvs) H1 Q E
noncomputable def tMeth (C : Addr) (m : Str) (sp : Sp) (dvs : List V) (E : XK) (ta : TE) (t : TA) : TE := fun σ H Q => ta σ H fun x H1 => ∃ a dx fs, x = .ref a ∧ H1 a = some (.ins C dx fs) ∧ fs.lookup m = none ∧
  t σ H1 fun vs H2 => sp (x :: (vs ++ dvs)) H2 Q E
noncomputable def tMake (C : Addr) (sp : Sp) (dvs : List V) (E : XK) (t : TA) : TE := fun σ H Q => t σ H fun vs H1 => ∀ x dx, H1 x = none → H1 dx = none → dx ≠ x →
  sp (.ref x :: (vs ++ dvs)) (upd (upd H1 dx (.own x)) x (.ins C dx [])) (fun v H2 => v = .non ∧ Q (.ref x) H2) E
noncomputable def Binds (K : PySem.W.Frag) (fd : FuncData) (ps : List Str) (ds : List Value) : Prop :=
  ∀ (s : Shared) (us : List Value), K.In s.heap → (us ++ ds).length = ps.length → BindsTo s fd ⟨us, []⟩ (ps.zip (us ++ ds))
theorem Binds.all {K : PySem.W.Frag} {fd : FuncData} {ps : List Str} (h : ∀ us : List Value, us.length = ps.length → bindArgs fd ⟨us, []⟩ = pure (ps.zip us)) : Binds K fd ps [] := fun s us _ hl => by
  rw [List.append_nil] at hl ⊢
  exact .of_eq (h us hl)
noncomputable def Passes (CX : CXT) (X : Cx) (E : XK) : Prop := ∀ (pins : List (Addr × Obj)) (σ : St) (H : Hp) (s : Shared) (e : Value) (s' : Shared), Inv X pins σ H s → CX X.stack H s E e s' → X.xe e s'
section
variable {X : Cx} {CX : CXT} {k : Nat} {f C : Addr} {fd : FuncData} {ps : List Str} {sp : Sp} {dvs : List V} {ds : List Value} {E : XK} {x m : Str} {p pos apos : Pos} {e o : Expr} {es : List Expr} {ta : TE} {t : TA}
theorem run_fn {pins : List (Addr × Obj)} {σ : St} {H : Hp} {s : Shared} {Q : VK} {us : List Value} {vs : List V} (F : FnOk X.prog X.w X.K X.mg X.base CX k f fd ps sp) (hr : Room k X.A) (hb : Binds X.K fd ps ds) (hd : Vals dvs ds) (hx : Passes CX X E)
    (I : Inv X pins σ H s) (r : Vals vs us) (h : sp (vs ++ dvs) H Q E) : wpAny (model X.prog X.w) X.A (call (.ref f) us) (EP X pins σ Q) X.xe s := by
  have r2 : Vals (vs ++ dvs) (us ++ ds) := r.append hd
  have hl : (us ++ ds).length = ps.length := by rw [← r2.length]; exact F.len _ _ _ _ h
  refine wpAny_call (codeAny_mono (F.run X.A X.stack s H ⟨us, []⟩ (us ++ ds) (vs ++ dvs) Q E hr I.env0 (hb s us I.kIn hl) r2 h) fun r s' hq => ?_)
  cases r with
  | error e => exact hx pins σ H s e s' I hq
  | ok fl =>
    cases fl with
    | ret u => exact I.after hq
    | next => exact False.elim hq
    | brk => exact False.elim hq
    | cont => exact False.elim hq
theorem pe_call (F : FnOk X.prog X.w X.K X.mg X.base CX k f fd ps sp) (hr : Room k X.A) (hg : Gl X x) (hm : X.mg x = some (.ref f)) (hk : PySem.W.keepIn X.K (.ref f) = true) (hb : Binds X.K fd ps ds) (hd : Vals dvs ds) (hx : Passes CX X E)
    (ha : PA X (e :: es) t) (hdb : (x == ("__debug__" : Str)) = false := by decide) (he : starEach (e :: es) X.env = (false, eval e X.env) :: starEach es X.env := by rfl) (hpl : (backTo pos (starEach es X.env)).any (·.1) = false := by rfl) :
    PE X (.Call (.Name x p) (e :: es) [] pos) (tCall sp dvs E t) := by
  intro pins s σ H Q I h
  refine wpAny_Call_Name_kw (ld_glob I hg hm ?_ hdb)
  refine PySem.W.callWith_K (h₀ := X.base) I.ok.mod.kin hk (thn (ha pos pins s σ H _ I h) fun us s1 ⟨vs, H1, I1, r, q⟩ => ⟨I1.kIn, ?_⟩) he hpl
  exact run_fn F hr hb hd hx I1 r q
end
section
variable {X : Cx} {CX : CXT} {k : Nat} {f C : Addr} {fd : FuncData} {ps ks : List Str} {sp : Sp} {E : XK} {x m : Str} {p pos apos kpos : Pos} {e o : Expr} {es : List Expr} {kws : List Keyword} {te ta : TE} {t tk : TA} {nm : Option Str}
variable {g : List Value → List Value → List Value} {gV : List V → List V → List V}
end
structure FnScope (N P : List Str) (sc : Scope) : Prop where
  kind : sc.kind = .function
  co : sc.isCoroutine = false
  gen : sc.isGenerator = false
  nd : N.Nodup
  pre : N.take P.length = P
  par : ∀ x ∈ P, sc.names.lookup x = some .local ∨ sc.names.lookup x = some .cell
  nofree : ∀ y ∈ sc.names, y.2 ≠ .free
theorem bindL_out {kindOf : Str → Option NameKind} {x : Str} : ∀ {binds : List (Str × Value)} {m : Str → Option Value}, (∀ v, (x, v) ∉ binds) → bindL kindOf binds m x = m x
  | [], _, _ => rfl
  | (n, v) :: r, m, h => by
    unfold bindL
    rw [bindL_out fun w hw => h w (List.mem_cons_of_mem _ hw)]
    split
    · have : x ≠ n := by rintro rfl; exact h v List.mem_cons_self
      simp [this]
    · rfl
theorem bindC_out {kindOf : Str → Option NameKind} {x : Str} : ∀ {binds : List (Str × Value)} {m : Str → Option Value}, (∀ v, (x, v) ∉ binds) → bindC kindOf binds m x = m x
  | [], _, _ => rfl
  | (n, v) :: r, m, h => by
    unfold bindC
    rw [bindC_out fun w hw => h w (List.mem_cons_of_mem _ hw)]
    split
    · rfl
    · have : x ≠ n := by rintro rfl; exact h v List.mem_cons_self
      simp [this]
theorem bindL_get {kindOf : Str → Option NameKind} {x : Str} {v : Value} : ∀ {P : List Str} {vs : List Value} {i : Nat} {m : Str → Option Value}, P.Nodup → P[i]? = some x → vs[i]? = some v → kindOf x = some .local →
    bindL kindOf (P.zip vs) m x = some v
  | [], _, _, _, _, h, _, _ => by simp at h
  | _ :: _, [], _, _, _, _, h, _ => by simp at h
  | p :: P, w :: vs, 0, m, nd, h1, h2, hk => by
    simp at h1 h2; subst h1; subst h2
    show bindL kindOf ((p, w) :: P.zip vs) m p = _
    unfold bindL
    rw [bindL_out fun v hv => (List.nodup_cons.mp nd).1 (List.of_mem_zip hv).1, if_pos hk]
    simp
  | p :: P, w :: vs, i + 1, m, nd, h1, h2, hk => by
    show bindL kindOf ((p, w) :: P.zip vs) m x = _
    unfold bindL
    exact bindL_get (i := i) (List.nodup_cons.mp nd).2 (by simpa using h1) (by simpa using h2) hk
theorem bindC_get {kindOf : Str → Option NameKind} {x : Str} {v : Value} : ∀ {P : List Str} {vs : List Value} {i : Nat} {m : Str → Option Value}, P.Nodup → P[i]? = some x → vs[i]? = some v → kindOf x ≠ some .local →
    bindC kindOf (P.zip vs) m x = some v
  | [], _, _, _, _, h, _, _ => by simp at h
  | _ :: _, [], _, _, _, _, h, _ => by simp at h
  | p :: P, w :: vs, 0, m, nd, h1, h2, hk => by
    simp at h1 h2; subst h1; subst h2
    show bindC kindOf ((p, w) :: P.zip vs) m p = _
    unfold bindC
    rw [bindC_out fun v hv => (List.nodup_cons.mp nd).1 (List.of_mem_zip hv).1, if_neg hk]
    simp
  | p :: P, w :: vs, i + 1, m, nd, h1, h2, hk => by
    show bindC kindOf ((p, w) :: P.zip vs) m x = _
    unfold bindC
    exact bindC_get (i := i) (List.nodup_cons.mp nd).2 (by simpa using h1) (by simpa using h2) hk
noncomputable def start (N : List Str) (vs : List V) : St := vs.map some ++ List.replicate (N.length - vs.length) none
noncomputable def cxOf (CX : CXT) (P : Program) (w : World) (K : PySem.W.Frag) (mg : Str → Option Value) (base : Heap) (N : List Str) (qual : Str) (scope : Scope) (f : Addr) (cd : Value) (A : Around) (outer : List Env) (s : Shared) (H : Hp) (E : XK) : Cx where
  prog := P
  w := w
  K := K
  mg := mg
  base := base
  A := A.deeper (envOfC qual scope s.heap.objs.size f cd)
  N := N
  s₀ := s
  H₀ := H
  env := envOfC qual scope s.heap.objs.size f cd
  outer := outer
  stack := envOfC qual scope s.heap.objs.size f cd :: outer
  ex := []
  calm := true
  fn := fun _ => true
  pn := []
  xe := fun e s' => wpAny (model P w) (A.deeper (envOfC qual scope s.heap.objs.size f cd)) (leaving (envOfC qual scope s.heap.objs.size f cd) e) (fun _ s'' => CX outer H s E e s'') (fun e' s'' => CX outer H s E e' s'') s'
theorem cell_has {sc : Scope} {n : Nat} {x : Str} (h : sc.names.lookup x = some .cell) : ∃ c, (cellsFrom n sc.names []).lookup x = some c := by
  have q := PySem.W.cellsFrom_some sc.names n [] (.inl h)
  exact Option.isSome_iff_exists.mp q
theorem inv_start {CX : CXT} {P : Program} {w : World} {K : PySem.W.Frag} {mg : Str → Option Value} {base : Heap} {N ps : List Str} {qual : Str} {scope : Scope} {f : Addr} {cd : Value} {A : Around} {outer : List Env} {s s1 : Shared} {H : Hp} {E : XK} {us : List Value} {vs : List V}
    (S : FnScope N ps scope) (hd : A.handled = none) (e0 : Env0 P w K mg base A outer s H) (hl : vs.length = ps.length) (r : Vals vs us)
    (x : InCallC s s.heap.objs.size (bindL (envOfC qual scope s.heap.objs.size f cd).kindOf (ps.zip us) fun _ => none) (cellsFrom (s.heap.objs.size + 1) scope.names []) (bindC (envOfC qual scope s.heap.objs.size f cd).kindOf (ps.zip us) fun _ => none) s1) :
    Inv (cxOf CX P w K mg base N qual scope f cd A outer s H E) [] (start N vs) H s1 := by
  have hpl : ps.length ≤ N.length := by have := congrArg List.length S.pre; rw [List.length_take] at this; omega
  obtain ⟨h1, tk, rfl, hk⟩ := x.done
  have noA : ∀ b : Addr, b ∉ (cxOf CX P w K mg base N qual scope f cd A outer s H E).ex := fun b z => absurd (show b ∈ ([] : List Addr) from z) (by simp)
  refine ⟨⟨e0.mod, S.kind, rfl, rfl, Nat.le_refl _, fun y z c h1 h2 => ?_, fun y hy => ?_, fun y c _ h => ?_, fun _ => hd, Around.frames_deeper e0.frames, .inr ⟨rfl, rfl⟩, fun b z => absurd z (noA b), e0.bs, e0.bsz, fun b _ _ => noA b, fun b z => absurd z (noA b), e0.funs, e0.frf⟩,
    rfl, e0.bare, Un.kept hk, ⟨_, x.toInCall.ns, fun i y v h1 h2 h3 => ?_⟩, fun y c h => ⟨_, x.cell y c h⟩, e0.hok.fresh (Nat.le_refl _), fun y c h => ?_, fun p hp => absurd (show p ∈ ([] : List (Addr × Obj)) from hp) (by simp), e0.hok.kept hk, ?_⟩
  · exact name_of_addr x.apart (PySem.mem_of_lookup h1) (PySem.mem_of_lookup h2)
  · have hy : scope.names.lookup y = some .cell ∨ scope.names.lookup y = some .free := hy
    rcases hy with hy | hy
    · exact cell_has hy
    · exact absurd rfl (S.nofree _ (PySem.mem_of_lookup hy))
  · exact Nat.le_of_lt (x.above y c (PySem.mem_of_lookup h))
  · have hi : i < vs.length := by
      unfold start at h2
      by_cases hi : i < vs.length
      · exact hi
      · rw [List.getElem?_append_right (by simpa using hi)] at h2
        rw [List.getElem?_replicate] at h2
        split at h2 <;> cases h2
    have ha : vs[i]? = some v := by
      unfold start at h2
      rw [List.getElem?_append_left (by simpa using hi), List.getElem?_map] at h2
      cases e : vs[i]? with
      | none => rw [e] at h2; cases h2
      | some a => rw [e] at h2; cases h2; rfl
    obtain ⟨u, hu, rv⟩ := r.get ha
    have hp : ps[i]? = some y := by
      rw [← S.pre, List.getElem?_take_of_lt (by omega)]; exact h1
    have ndP : ps.Nodup := by rw [← S.pre]; exact S.nd.sublist (List.take_sublist _ _)
    refine ⟨u, rv, ?_⟩
    rcases S.par y (List.mem_of_getElem? hp) with k | k
    · exact .inl ⟨k, bindL_get ndP hp hu k⟩
    · obtain ⟨c, e⟩ := cell_has (n := s.heap.objs.size + 1) k
      refine .inr ⟨.inl k, c, e, ?_⟩
      have q := x.cell y c e
      rw [bindC_get ndP hp hu (by show scope.names.lookup y ≠ _; rw [k]; decide)] at q
      exact q
  · exact e0.hok.fresh (Nat.le_of_lt (x.above y c (PySem.mem_of_lookup h)))
  · unfold start
    show _ = N.length
    rw [List.length_append, List.length_map, List.length_replicate]
    omega
theorem fn_of {CX : CXT} {P : Program} {w : World} {K : PySem.W.Frag} {mg : Str → Option Value} {base : Heap} {k : Nat} {f : Addr} {name qual : Str} {params : Arguments} {body : List Stmt} {scope : Scope} {dV kV doc pm cdv ct oc : Value} {an od : Option Addr}
    {osl : Array (Option Value)} {N ps : List Str} {sp : Sp} (lk : K.lookup f = some ⟨oc, od, .func (PySem.W.fnOf name qual params body scope dV kV doc pm an cdv ct), osl⟩) (hcd : PySem.W.codeIn K cdv qual = true) (S : FnScope N ps scope)
    (len : ∀ vs H Q E, sp vs H Q E → vs.length = ps.length)
    (hbody : ∀ (A : Around) (outer : List Env) (s : Shared) (H : Hp) (vs : List V) (Q : VK) (E : XK), Room k (A.deeper (envOfC qual scope s.heap.objs.size f cdv)) → sp vs H Q E →
      ∃ t, PSs (cxOf CX P w K mg base N qual scope f cdv A outer s H E) body t ∧ t { nx := fun _ H' => Q .non H', rt := Q } (start N vs) H) :
    FnOk P w K mg base CX (k + 1) f (PySem.W.fnOf name qual params body scope dV kV doc pm an cdv ct) ps sp := by
  refine ⟨len, fun A outer s H args us vs Q E hr e0 hb r hsp => ?_⟩
  have hl := len _ _ _ _ hsp
  have KX : K.In s.heap := e0.mod.kin.keeps fun b o e => (e0.bs b o e).1
  have lim : s.heap.NoLimit := e0.mod.nolimit.keeps fun b o e => (e0.bs b o e).1
  have hkind : ∀ y ∈ ps.zip us, scope.names.lookup y.1 = some .local ∨ (scope.names.lookup y.1 = some .cell ∧ ((cellsFrom (s.heap.objs.size + 1) scope.names []).lookup y.1).isSome = true) := fun ⟨n, v⟩ hy => by
    rcases S.par n (List.of_mem_zip hy).1 with q | q
    · exact .inl q
    · exact .inr ⟨q, PySem.W.cellsFrom_some _ _ _ (.inl q)⟩
  refine codeAny_call_function hr.depth (KX _ _ lk) rfl S.co S.gen rfl (PySem.W.codeRec_of KX hcd) (hb _ _ _ _ ?_)
  refine wpAny_newFunctionEnv_cells S.kind hkind fun env he s1 x => ?_
  subst he
  refine ⟨lim.keeps x.toInCall.keep, codeAny_func ?_⟩
  obtain ⟨t, ht, hq⟩ := hbody A outer s H vs Q E (hr.deeper _) hsp
  have I : Inv (cxOf CX P w K mg base N qual scope f cdv A outer s H E) [] (start N vs) H s1 := inv_start S hr.hd e0 hl r x
  refine wpAny_mono (ht [] s1 (start N vs) H _ I hq) (fun fl s' hs => ?_) fun e s' hs => hs
  have fin : ∀ {σ' : St} {H' : Hp} {v : V} {u : Value}, Inv (cxOf CX P w K mg base N qual scope f cdv A outer s H E) [] σ' H' s' → RelV v u → Q v H' → CE outer P w H s Q u s' :=
    fun {σ' H' v u} J rv q => ⟨v, H', J.os, J.bare, J.base, J.hok, rv, q⟩
  cases fl with
  | ret u =>
    obtain ⟨v, σ', H', J, rv, q⟩ := hs
    exact fin J rv q
  | next =>
    obtain ⟨σ', H', J, q⟩ := hs
    exact fin (v := V.non) (u := Value.none) J rfl q
  | brk =>
    obtain ⟨_, _, _, q⟩ := hs
    exact False.elim q
  | cont =>
    obtain ⟨_, _, _, q⟩ := hs
    exact False.elim q
end L2
namespace L2
open PySem PySem.Spec PyProof.Rows
section
variable {X : Cx} {x : Str} {p pos : Pos} {e : Expr} {es : List Expr} {t : TA} {id T : String} {r : List V → Hp → VK → Prop}
noncomputable def tCB (r : List V → Hp → VK → Prop) (t : TA) : TE := fun σ H Q => t σ H fun vs H1 => r vs H1 Q
theorem pe_callB (hc : CallR X (.builtin id) r) (hg : Gl X x) (hm : X.mg x = none) (hv : bootBuiltins x = some (.builtin id)) (ha : PA X (e :: es) t) (hn : x ≠ "__name__" := by decide) (hdb : (x == ("__debug__" : Str)) = false := by decide)
    (he : starEach (e :: es) X.env = (false, eval e X.env) :: starEach es X.env := by rfl) (hpl : (backTo pos (starEach es X.env)).any (·.1) = false := by rfl) : PE X (.Call (.Name x p) (e :: es) [] pos) (tCB r t) := by
  intro pins s σ H Q I h
  refine wpAny_Call_Name_kw (ld_blt I hg hm hv ?_ hn hdb)
  exact PyProof.Rows.callWith_builtin1 (thn (ha pos pins s σ H _ I h) fun us s1 ⟨vs, H1, I1, r1, q1⟩ => hc pins s1 σ H1 vs us Q I1 r1 q1) he hpl
theorem pe_callTy (hc : CallR X (.type T) r) (hg : Gl X x) (hm : X.mg x = none) (hv : bootBuiltins x = some (.type T)) (ha : PA X (e :: es) t) (hn : x ≠ "__name__" := by decide) (hdb : (x == ("__debug__" : Str)) = false := by decide)
    (he : starEach (e :: es) X.env = (false, eval e X.env) :: starEach es X.env := by rfl) (hpl : (backTo pos (starEach es X.env)).any (·.1) = false := by rfl) : PE X (.Call (.Name x p) (e :: es) [] pos) (tCB r t) := by
  intro pins s σ H Q I h
  refine wpAny_Call_Name_kw (ld_blt I hg hm hv ?_ hn hdb)
  exact PyProof.Rows.callWith_type1 (thn (ha pos pins s σ H _ I h) fun us s1 ⟨vs, H1, I1, r1, q1⟩ => hc pins s1 σ H1 vs us Q I1 r1 q1) he hpl
end
end L2
namespace HT
open PySem PyProof.Rows
section
open PySem.SeqAt
open PySem.AutoSeq1 (wpAny_loadPart')
open PySem.MeetsSeq PySem.MeetsSeq2 PySem.MeetsSeq3
end
section
variable {prog : Program} {w : World} {A : Around} {E : Value → Shared → Prop} {s : Shared}
noncomputable def sIx (n d : Nat) : Option Int → Nat
  | none => d
  | some v => if v < 0 then (v + (n : Int)).toNat else min v.toNat n
theorem sIx_none (n d : Nat) : sIx n d none = d := rfl
theorem sIx_nat (n d k : Nat) : sIx n d (some (k : Int)) = min k n := by
  show (if (k : Int) < 0 then ((k : Int) + (n : Int)).toNat else min (k : Int).toNat n) = min k n
  rw [if_neg (by omega), Int.toNat_natCast]
theorem sIx_le (n d : Nat) (hd : d ≤ n) (o : Option Int) : sIx n d o ≤ n := by
  cases o with
  | none => exact hd
  | some v =>
    show (if v < 0 then (v + (n : Int)).toNat else min v.toNat n) ≤ n
    by_cases hv : v < 0
    · rw [if_pos hv]; omega
    · rw [if_neg hv]; exact Nat.min_le_right _ _
theorem clip_eq (v : Int) (n d : Nat) : (if v < 0 then max (v + (n : Int)) 0 else min v (n : Int)) = ((sIx n d (some v) : Nat) : Int) := by
  show (if v < 0 then max (v + (n : Int)) 0 else min v (n : Int)) = (((if v < 0 then (v + (n : Int)).toNat else min v.toNat n) : Nat) : Int)
  by_cases hv : v < 0
  · simp only [if_pos hv]; omega
  · simp only [if_neg hv]; omega
theorem adjust_gen (lo hi : Option Int) (n : Nat) : Builtin.Slice.sliceAdjust lo hi 1 (n : Int) = (((sIx n 0 lo : Nat) : Int), ((sIx n n hi : Nat) : Int)) := by
  have h1 : ¬ ((1 : Int) < 0) := by omega
  unfold Builtin.Slice.sliceAdjust
  simp only [h1, if_false]
  refine Prod.ext ?_ ?_
  · cases lo with
    | none => rfl
    | some v => exact clip_eq v n 0
  · cases hi with
    | none => rfl
    | some v => exact clip_eq v n n
theorem places_gen (i j : Nat) : Builtin.Slice.slicePlaces (i : Int) (j : Int) 1 = j - i := by
  unfold Builtin.Slice.slicePlaces
  have h1 : (1 : Int) > 0 := by omega
  simp only [h1, if_true, Int.ediv_one]
  split <;> omega
theorem slicePart_ {v : Value} {o : Option Int} {Q : Option Int → Shared → Prop} (p : IsPart v o) (h : Q o s) : wpAny (model prog w) A (Builtin.Slice.slicePartIndex v) Q E s := by
  cases p with
  | none => exact slicePart_none h
  | int i t => exact slicePart_int h
theorem sliceApplied_gen {sl : Addr} {vl vu : Value} {lo hi : Option Int} {n : Nat} {Q : Int × Int × Nat → Shared → Prop} (hs : s.heap.IsSliceOf sl vl vu .none) (pl : IsPart vl lo) (pu : IsPart vu hi)
    (h : Q (((sIx n 0 lo : Nat) : Int), 1, sIx n n hi - sIx n 0 lo) s) : wpAny (model prog w) A (Builtin.Slice.sliceApplied (.ref sl) (pure (n : Int))) Q E s := by
  obtain ⟨os, hos, hcs, hds⟩ := id hs
  unfold Builtin.Slice.sliceApplied Builtin.Slice.sliceFields
  refine wpAny_bind (wpAny_bind (wpAny_field hos hds (x := vl) rfl (wpAny_bind (wpAny_field hos hds (x := vu) rfl (wpAny_bind (wpAny_field hos hds (x := .none) rfl (wpAny_pure ?_)))))))
  refine wpAny_bind (slicePart_none ?_)
  show wpAny _ _ (if ((1 : Int) == 0) = true then _ else _) _ _ s
  rw [if_neg (by decide)]
  refine wpAny_bind (slicePart_ pl (wpAny_bind (slicePart_ pu (wpAny_bind (wpAny_pure ?_)))))
  show wpAny _ _ (match Builtin.Slice.sliceAdjust lo hi 1 (n : Int) with | (lo, hi) => pure (lo, (1 : Int), Builtin.Slice.slicePlaces lo hi 1)) _ _ s
  rw [adjust_gen lo hi n]
  show wpAny _ _ (pure (((sIx n 0 lo : Nat) : Int), (1 : Int), Builtin.Slice.slicePlaces ((sIx n 0 lo : Nat) : Int) ((sIx n n hi : Nat) : Int) 1)) _ _ s
  rw [places_gen]
  exact wpAny_pure h
theorem pick_gen (xs : Array Value) (i k : Nat) : ((List.range k).filterMap fun (m : Nat) => xs[((i : Int) + (m : Int) * 1).toNat]?).toArray = ((xs.toList.drop i).take k).toArray := by
  have e : (fun (m : Nat) => xs[((i : Int) + (m : Int) * 1).toNat]?) = fun m => xs[i + m]? := by
    funext m
    have : ((i : Int) + (m : Int) * 1).toNat = i + m := by omega
    rw [this]
  rw [e]
  have := pick_run xs i k
  rw [List.filterMap_map] at this
  have e2 : ((fun x => xs[x]?) ∘ fun x => i + x) = fun m => xs[i + m]? := rfl
  rw [e2] at this
  rw [this]
theorem getItem_tuple_cut {t sl : Addr} {items : Array Value} {vl vu : Value} {lo hi : Option Int} {Q : Value → Shared → Prop} (ht : IsTup s.heap t items) (hs : s.heap.IsSliceOf sl vl vu .none) (pl : IsPart vl lo) (pu : IsPart vu hi)
    (hw : ¬ (sIx items.size 0 lo = 0 ∧ sIx items.size items.size hi = items.size))
    (h : Q (.ref s.heap.objs.size) { s with heap := s.heap.push { cls := .type "tuple", data := .seq ((items.toList.drop (sIx items.size 0 lo)).take (sIx items.size items.size hi - sIx items.size 0 lo)).toArray } })
    (hsz : items.size ≤ sizeLine) : wpAny (model prog w) A (getItem (.ref t) (.ref sl)) Q E s := by
  have htake : sizeOk (.seq ((items.toList.drop (sIx items.size 0 lo)).take (sIx items.size items.size hi - sIx items.size 0 lo)).toArray) := by
    show ((items.toList.drop (sIx items.size 0 lo)).take (sIx items.size items.size hi - sIx items.size 0 lo)).toArray.size ≤ sizeLine
    rw [List.size_toArray, List.length_take, List.length_drop, Array.length_toList]
    omega
  have hj : sIx items.size items.size hi ≤ items.size := sIx_le _ _ (Nat.le_refl _) hi
  obtain ⟨os, hos, hcs, hds⟩ := id hs
  have hTs : s.TypeIs (.ref sl) "slice" := ⟨os, hos, hcs⟩
  unfold getItem
  try with_reducible refine wpAny_holding ?_
  first | refine wpAny_bind (wpAny_pure ?_) | skip
  refine wpAny_bind (wpAny_sequenceKey ht.typeIs (by decide) ?_)
  refine wpAny_bind (wpAny_callSpecial?_slot (name := Str.ofString "__getitem__") ht.typeIs PyProof.Rows.slot_tuple_getitem
    (wpAny_call_entry PyProof.Rows.slot_tuple_getitem ht.typeIs entry_tuple_getitem ?_ (args_tuple_getitem _ _)))
  show wpAny _ _ (Builtin.Tuple.tupleItemsOf (.ref t) >>= _) _ _ s
  refine wpAny_bind (tupleItemsOf_ ht ?_)
  refine wpAny_bind (wpAny_typeOf hTs ?_)
  rw [if_pos (by decide)]
  refine wpAny_bind (sliceApplied_gen hs pl pu ?_)
  have hno : ¬ ((((sIx items.size 0 lo : Nat) : Int) == 0 && (1 : Int) == 1 && (sIx items.size items.size hi - sIx items.size 0 lo) == items.size) = true) := by
    intro q
    rw [Bool.and_eq_true, Bool.and_eq_true] at q
    have q1 : ((sIx items.size 0 lo : Nat) : Int) = 0 := eq_of_beq q.1.1
    have q2 : sIx items.size items.size hi - sIx items.size 0 lo = items.size := eq_of_beq q.2
    exact hw ⟨by omega, by omega⟩
  show wpAny _ _ (if (((sIx items.size 0 lo : Nat) : Int) == 0 && (1 : Int) == 1 && (sIx items.size items.size hi - sIx items.size 0 lo) == items.size) = true then _ else _) _ _ s
  rw [if_neg hno, pick_gen]
  first
    | exact wpAny_bind (m := Builtin.Tuple.tupleExact _) (wpAny_newObj_type (wpAny_pure ⟨_, rfl, wpAny_pure h⟩) htake)
    | exact wpAny_bind (m := Builtin.Tuple.tupleExact _) (wpAny_newObj_type (wpAny_bind (wpAny_pure (wpAny_pure ⟨_, rfl, wpAny_pure h⟩))) htake)
    | exact wpAny_bind (wpAny_bind (m := Builtin.Tuple.tupleExact _) (wpAny_newObj_type (wpAny_pure (wpAny_pure ⟨_, rfl, wpAny_pure h⟩)) htake))
    | exact wpAny_bind (wpAny_bind (m := Builtin.Tuple.tupleExact _) (wpAny_newObj_type (wpAny_pure ⟨_, rfl, wpAny_pure h⟩) htake))
end
end HT
namespace L2
open PySem PySem.Spec PyProof.Rows
noncomputable abbrev TO := St → Hp → (Option Int → Hp → Prop) → Prop
noncomputable def PO (X : Cx) (e : Option Expr) (t : TO) : Prop :=
  ∀ (pins : List (Addr × Obj)) (s : Shared) (σ : St) (H : Hp) (Q : Option Int → Hp → Prop), Inv X pins σ H s → t σ H Q →
    wpAny (model X.prog X.w) X.A (evalPart e X.env) (fun u s' => ∃ o H', Inv X pins σ H' s' ∧ IsPart u o ∧ Q o H') X.xe s
noncomputable def tNoPart : TO := fun _ H Q => Q none H
noncomputable def tPart (t : TE) : TO := fun σ H Q => t σ H fun x H1 => ∃ i, x = .int i ∧ Q (some i) H1
section
variable {X : Cx} {e : Expr} {te : TE} {lo hi : Option Expr} {tl th : TO} {pos p2 : Pos}
theorem po_none : PO X none tNoPart := by
  intro pins s σ H Q I h
  rw [evalPart_none]
  exact wpAny_pure ⟨none, H, I, .none, h⟩
theorem po_some (h : PE X e te) : PO X (some e) (tPart te) := by
  intro pins s σ H Q I hw
  rw [evalPart_some]
  refine thn (h pins s σ H _ I hw) fun u s1 ⟨x, H1, I1, r1, q1⟩ => ?_
  obtain ⟨i, rfl, q⟩ := q1
  obtain ⟨t, rfl⟩ := r1
  exact ⟨some i, H1, I1, .int i t, q⟩
noncomputable def SlR (X : Cx) (r : V → Option Int → Option Int → Hp → VK → Prop) : Prop :=
  ∀ (pins : List (Addr × Obj)) (s : Shared) (σ : St) (H : Hp) (x : V) (v vl vu : Value) (lo hi : Option Int) (sl : Addr) (Q : VK), Inv X pins σ H s → RelV x v → s.heap.IsSliceOf sl vl vu .none → IsPart vl lo → IsPart vu hi → r x lo hi H Q →
    ∃ T id, typeLookup (.type T) "__getitem__" = pure (some (.builtin id)) ∧ s.TypeIs v T ∧ wpAny (model X.prog X.w) X.A (getItem v (.ref sl)) (EP X pins σ Q) X.xe s
noncomputable def tSl (r : V → Option Int → Option Int → Hp → VK → Prop) (te : TE) (tl th : TO) : TE := fun σ H Q => te σ H fun x H1 => tl σ H1 fun l H2 => th σ H2 fun u H3 => r x l u H3 Q
theorem pe_slice {r : V → Option Int → Option Int → Hp → VK → Prop} (hr : SlR X r) (he : PE X e te) (hl : PO X lo tl) (hu : PO X hi th) : PE X (.Subscript e (.Slice lo hi none p2) pos) (tSl r te tl th) := by
  intro pins s σ H Q I h
  refine Subscript_ (thn (he pins s σ H _ I h) fun v s1 ⟨x, H1, I1, r1, q1⟩ => ?_)
  refine wpAny_Slice (thn (hl pins s1 σ H1 _ I1 q1) fun vl s2 ⟨l, H2, I2, pl, q2⟩ => thn (hu pins s2 σ H2 _ I2 q2) fun vu s3 ⟨u, H3, I3, pu, q3⟩ => ?_)
  rw [evalPart_none]
  refine wpAny_pure ?_
  have I4 : Inv X pins σ H3 { s3 with heap := s3.heap.push { cls := .type "slice", data := .fields #[vl, vu, .none] } } := I3.kept (t' := s3.toks) fun b ob q => Heap.get?_push_of_some _ q
  obtain ⟨T, id, hT, ht, hg⟩ := hr pins { s3 with heap := s3.heap.push { cls := .type "slice", data := .fields #[vl, vu, .none] } } σ H3 x v vl vu l u s3.heap.objs.size Q I4 r1 (Heap.IsSliceOf.new ..) pl pu q3
  show wpAny (model X.prog X.w) X.A (subscriptTail e (.Slice lo hi none p2) v (.ref s3.heap.objs.size)) (EP X pins σ Q) X.xe { s3 with heap := s3.heap.push { cls := .type "slice", data := .fields #[vl, vu, .none] } }
  exact tail_any (ops := [.ref s3.heap.objs.size, v]) ht hT hg (by with_unfolding_all rfl)
noncomputable def cutV (xs : List V) (lo hi : Option Int) : List V := (xs.drop (HT.sIx xs.length 0 lo)).take (HT.sIx xs.length xs.length hi - HT.sIx xs.length 0 lo)
theorem cutV_length (xs : List V) (lo hi : Option Int) : (cutV xs lo hi).length ≤ xs.length := by
  unfold cutV
  rw [List.length_take, List.length_drop]
  omega
noncomputable def rSlT (K : PySem.W.Frag) : V → Option Int → Option Int → Hp → VK → Prop := fun x lo hi H Q => ∃ a xs, x = .ref a ∧ SqT K H a xs ∧
  ¬ (HT.sIx xs.length 0 lo = 0 ∧ HT.sIx xs.length xs.length hi = xs.length) ∧ ∀ p, H p = none → Q (.ref p) (upd H p (.tup (cutV xs lo hi)))
theorem sl_tup : SlR X (rSlT X.K) := by
  intro pins s σ H x v vl vu lo hi sl Q I rx hs pl pu h
  obtain ⟨a, xs, rfl, hx, hw, q⟩ := h
  cases rx
  obtain ⟨its, r, ht, hz⟩ := I.tuple hx
  have hlen : its.toArray.size = xs.length := by rw [List.size_toArray]; exact r.length.symm
  refine ⟨"tuple", _, PyProof.Rows.slot_tuple_getitem.lookup, ht.typeIs, ?_⟩
  refine HT.getItem_tuple_cut ht hs pl pu (by rw [hlen]; exact hw) ?_ (by rw [hlen]; exact hz)
  rw [hlen]
  refine ⟨.ref s.heap.objs.size, _, I.laid (t' := s.toks) (o := .tup (cutV xs lo hi)) (fun b ob q => Heap.get?_push_of_some _ q) (Nat.le_refl _) ?_, rfl, q _ (I.hok.fresh (Nat.le_refl _))⟩
  exact ⟨Nat.le_trans (cutV_length xs lo hi) hz, _, (r.drop (HT.sIx xs.length 0 lo)).take (HT.sIx xs.length xs.length hi - HT.sIx xs.length 0 lo), IsTup.new _ _⟩
end
end L2
namespace L2
open PySem PySem.Spec PyProof.Rows
noncomputable def ixN (n : Nat) (i : Int) : Option Nat := if 0 ≤ i then (if i < n then some i.toNat else none) else if -(n : Int) ≤ i then some (i + n).toNat else none
noncomputable def atI {α : Type} (xs : List α) (i : Int) : Option α := (ixN xs.length i).bind fun j => xs[j]?
theorem ixN_seq {n : Nat} {i : Int} {j : Nat} (h : ixN n i = some j) : seqIndex? i n = some j ∧ j < n ∧ -(n : Int) ≤ i ∧ i < n := by
  unfold ixN at h
  by_cases h0 : 0 ≤ i
  · rw [if_pos h0] at h
    by_cases h1 : i < n
    · rw [if_pos h1] at h
      have e : i.toNat = j := Option.some.inj h
      exact ⟨by rw [seqIndex_of h0 h1, e], by omega, by omega, h1⟩
    · rw [if_neg h1] at h; cases h
  · rw [if_neg h0] at h
    by_cases h1 : -(n : Int) ≤ i
    · rw [if_pos h1] at h
      have e : (i + n).toNat = j := Option.some.inj h
      exact ⟨by rw [seqIndex_neg (by omega) h1, e], by omega, h1, by omega⟩
    · rw [if_neg h1] at h; cases h
theorem atI_get {α : Type} {xs : List α} {i : Int} {v : α} (h : atI xs i = some v) : ∃ j, seqIndex? i xs.length = some j ∧ xs[j]? = some v ∧ j < xs.length ∧ -(xs.length : Int) ≤ i ∧ i < xs.length := by
  unfold atI at h
  cases e : ixN xs.length i with
  | none => rw [e] at h; cases h
  | some j =>
    rw [e] at h
    obtain ⟨h1, h2, h3, h4⟩ := ixN_seq e
    exact ⟨j, h1, h, h2, h3, h4⟩
theorem atI_nat {α : Type} {xs : List α} {j : Nat} {v : α} (h : xs[j]? = some v) : atI xs (j : Int) = some v := by
  have hj : j < xs.length := (List.getElem?_eq_some_iff.mp h).1
  have e : ixN xs.length (j : Int) = some j := by
    unfold ixN
    rw [if_pos (by omega), if_pos (by omega)]; simp
  unfold atI; rw [e]; exact h
theorem atI_last {α : Type} (xs : List α) (v : α) : atI (xs ++ [v]) (-1) = some v := by
  have hl : (xs ++ [v]).length = xs.length + 1 := by simp
  have e : ixN (xs ++ [v]).length (-1) = some xs.length := by
    unfold ixN
    rw [hl, if_neg (by decide), if_pos (by omega)]
    congr 1
    omega
  unfold atI
  rw [e]
  show (xs ++ [v])[xs.length]? = some v
  simp
noncomputable def PlainIx (b : Expr) : Prop := ∀ o i, subscripted b false o i = operate [o, i] (getItem o i)
noncomputable def IxR (X : Cx) (r : R2) : Prop :=
  ∀ (value slice : Expr) (pins : List (Addr × Obj)) (s : Shared) (σ : St) (H : Hp) (x y : V) (v u : Value) (Q : VK), Inv X pins σ H s → RelV x v → RelV y u → r x y H Q →
    subscripted slice false v u = operate [v, u] (getItem v u) → wpAny (model X.prog X.w) X.A (subscriptTail value slice v u) (EP X pins σ Q) X.xe s
noncomputable def MtR (X : Cx) (id : String) (r : V → List V → Hp → VK → Prop) : Prop :=
  ∀ (pins : List (Addr × Obj)) (s : Shared) (σ : St) (H : Hp) (x : V) (xs : List V) (v : Value) (us : List Value) (Q : VK), Inv X pins σ H s → RelV x v → Vals xs us → r x xs H Q →
    wpAny (model X.prog X.w) X.A (call (.builtin id) (v :: us)) (EP X pins σ Q) X.xe s
section
variable {X : Cx} {a b : Expr} {ta tb : TE} {pos : Pos}
theorem IxR.or {r r' : R2} (h : IxR X r) (h' : IxR X r') : IxR X (fun x y H Q => r x y H Q ∨ r' x y H Q) := by
  intro value slice pins s σ H x y v u Q I rx ry q hs
  rcases q with q | q
  · exact h value slice pins s σ H x y v u Q I rx ry q hs
  · exact h' value slice pins s σ H x y v u Q I rx ry q hs
theorem pe_ix {r : R2} (hr : IxR X r) (ha : PE X a ta) (hb : PE X b tb) (hs : PlainIx b) : PE X (.Subscript a b pos) (tOp r ta tb) := by
  intro pins s σ H Q I h
  exact Subscript_ (binT ha hb I h fun v u s2 x y H2 I2 rx ry q => hr a b pins s2 σ H2 x y v u Q I2 rx ry q (hs _ _))
noncomputable def rIxL (K : PySem.W.Frag) : R2 := fun x y H Q => ∃ p xs i v, x = .ref p ∧ y = .int i ∧ SqL K H p xs ∧ atI xs i = some v ∧ Q v H
noncomputable def rIxT (K : PySem.W.Frag) : R2 := fun x y H Q => ∃ p xs i v, x = .ref p ∧ y = .int i ∧ SqT K H p xs ∧ atI xs i = some v ∧ Q v H
noncomputable def rIxS : R2 := fun x y H Q => ∃ z i c, x = .str z ∧ y = .int i ∧ z.length ≤ sizeLine ∧ atI z.cps.toList i = some c ∧ Q (.str ⟨#[c]⟩) H
theorem ix_list : IxR X (rIxL X.K) := by
  intro value slice pins s σ H x y v u Q I rx ry h hs
  obtain ⟨p, xs, i, z, rfl, rfl, hq, he, q⟩ := h
  cases rx
  obtain ⟨t, rfl⟩ := ry
  obtain ⟨its, r, pl, hz⟩ := I.list hq
  obtain ⟨j, h1, h2, h3, h4, h5⟩ := atI_get he
  obtain ⟨w, ew, rw'⟩ := r.get h2
  have hl := r.length
  have hn := line63
  have fin : EP X pins σ Q w s := ⟨z, H, I, rw', q⟩
  by_cases h0 : 0 ≤ i
  · have hj : i.toNat = j := by
      rw [seqIndex_of h0 h5] at h1
      exact Option.some.inj h1
    exact item_listR pl.isList h0 (by omega) (by rw [hj]; simpa using ew) fin hs
  · have hj : (i + (its.toArray.size : Int)).toNat = j := by
      rw [seqIndex_neg (by omega) h4] at h1
      rw [List.size_toArray, ← hl]
      exact Option.some.inj h1
    exact subscriptTail_builtinR (x := w) pl.isList.typeIs slot_list_getitem.lookup
      (wpAny_getItem_list_neg (Q := fun r s' => r = w ∧ EP X pins σ Q r s') pl.isList (by omega) (by rw [List.size_toArray] <;> omega) (by omega) (by rw [hj]; simpa using ew) ⟨rfl, fin⟩) hs
theorem ix_tup : IxR X (rIxT X.K) := by
  intro value slice pins s σ H x y v u Q I rx ry h hs
  obtain ⟨p, xs, i, z, rfl, rfl, hq, he, q⟩ := h
  cases rx
  obtain ⟨t, rfl⟩ := ry
  obtain ⟨its, r, pl, hz⟩ := I.tuple hq
  obtain ⟨j, h1, h2, h3, h4, h5⟩ := atI_get he
  obtain ⟨w, ew, rw'⟩ := r.get h2
  have hl := r.length
  have hn := line63
  have fin : EP X pins σ Q w s := ⟨z, H, I, rw', q⟩
  exact subscriptTail_builtinR (x := w) pl.typeIs slot_tuple_getitem.lookup
    (getItem_tuple (j := j) (Q := fun r s' => r = w ∧ EP X pins σ Q r s') pl (by omega) (by omega) (by rw [List.size_toArray, ← hl]; exact h1) (by simpa using ew) ⟨rfl, fin⟩) hs
theorem ix_str : IxR X rIxS := by
  intro value slice pins s σ H x y v u Q I rx ry h hs
  obtain ⟨z, i, c, rfl, rfl, hz, he, q⟩ := h
  obtain ⟨t, rfl⟩ := rx
  obtain ⟨t', rfl⟩ := ry
  obtain ⟨j, h1, h2, h3, h4, h5⟩ := atI_get he
  have hl : z.cps.toList.length = z.length := by simp [Str.length]
  rw [hl] at h1 h4 h5
  have hn := line63
  exact tail_any (typeIs_str s z t) slot_str_getitem.lookup (getItem_str (c := c) (by
    have e1 : decide (i < -(2 ^ 63 : Int)) = false := decide_eq_false (by omega)
    have e2 : decide (i ≥ 2 ^ 63) = false := decide_eq_false (by omega)
    rw [e1, e2, Bool.or_false]) (by rw [h1]; simpa using h2) ⟨.str ⟨#[c]⟩, H, I.tok _, ⟨_, rfl⟩, q⟩) hs
noncomputable def rIx (K : PySem.W.Frag) : R2 := fun x y H Q => rIxL K x y H Q ∨ rIxT K x y H Q ∨ rIxS x y H Q
theorem ix_seq : IxR X (rIx X.K) := ix_list.or (ix_tup.or ix_str)
theorem mapSeq_set (its : List Value) (n j : Nat) (u : Value) : Obj.mapSeq (·.setIfInBounds j u) { cls := .type "list", data := .seq its.toArray n } = { cls := .type "list", data := .seq (its.set j u).toArray n } := by
  simp [Obj.mapSeq]
theorem Inv.lst {pins : List (Addr × Obj)} {σ : St} {H : Hp} {s : Shared} {p : Addr} {xs : List V} (I : Inv X pins σ H s) (h : H p = some (.lst xs)) :
    ∃ (its : List Value) (n : Nat), Vals xs its ∧ s.heap.get? p = some { cls := .type "list", data := .seq its.toArray n } ∧ xs.length ≤ sizeLine := by
  obtain ⟨z, its, n, r, e⟩ := I.hok p _ h
  exact ⟨its, n, r, e, z⟩
theorem Inv.lstUpd {pins : List (Addr × Obj)} {σ : St} {H : Hp} {s : Shared} {p : Addr} {xs ys : List V} {its its' : List Value} {n n' : Nat} {f : Obj → Obj} (I : Inv X pins σ H s) (h : H p = some (.lst xs))
    (ho : s.heap.get? p = some { cls := .type "list", data := .seq its.toArray n }) (hf : f { cls := .type "list", data := .seq its.toArray n } = { cls := .type "list", data := .seq its'.toArray n' }) (r : Vals ys its') (hz : ys.length ≤ sizeLine) (t : Nat) :
    Inv X pins σ (upd H p (.lst ys)) { s with heap := s.heap.update p f, toks := t } := by
  have e : (s.heap.update p f).get? p = some { cls := .type "list", data := .seq its'.toArray n' } := by
    rw [Heap.get?_update_self f ho (by rw [hf] <;> rfl), hf]
  refine I.write (x := p) (e := p) (by rw [h]; trivial) (.inl rfl) (fun b u hb q => (Heap.get?_update_other _ _ (Ne.symm hb)).trans q) ⟨_, e⟩ ?_
  exact ⟨hz, its', n', r, e⟩
noncomputable def rSetL : V → V → V → Hp → (Hp → Prop) → Prop := fun o i v H Q => ∃ p xs k j, o = .ref p ∧ i = .int k ∧ H p = some (.lst xs) ∧ ixN xs.length k = some j ∧ Q (upd H p (.lst (xs.set j v)))
theorem set_list : PSet X rSetL := by
  intro pins s σ H o i v ov iv u Q I ro ri rv h
  obtain ⟨p, xs, k, j, rfl, rfl, hp, hj, q⟩ := h
  cases ro
  obtain ⟨t, rfl⟩ := ri
  obtain ⟨its, n, r, ho, hz⟩ := I.lst hp
  obtain ⟨h1, h2, h3, h4⟩ := ixN_seq hj
  have hl := r.length
  have hn := line63
  have I' : Inv X pins σ (upd H p (.lst (xs.set j v))) { s with heap := s.heap.update p (Obj.mapSeq (·.setIfInBounds j u)) } :=
    I.lstUpd hp ho (mapSeq_set its n j u) (r.set rv j) (by rw [List.length_set]; exact hz) s.toks
  by_cases h0 : 0 ≤ k
  · have hk : k.toNat = j := by
      rw [seqIndex_of h0 h4] at h1
      exact Option.some.inj h1
    exact PySem.W.ki_setAt ho h0 (by omega) (by rw [List.size_toArray, ← hl]; exact h4) (by rw [hk]; exact ⟨_, I', q⟩)
  · have hk : (k + (its.toArray.size : Int)).toNat = j := by
      rw [seqIndex_neg (by omega) h3] at h1
      rw [List.size_toArray, ← hl]
      exact Option.some.inj h1
    exact PySem.W.ki_setBack ho (by omega) (by rw [List.size_toArray, ← hl]; exact h3) (by omega) (by rw [hk]; exact ⟨_, I', q⟩)
theorem slice_bounds (lo hi : Option Int) (n : Nat) : (sliceBounds lo hi none n).1 = ((HT.sIx n 0 lo : Nat) : Int) ∧ (sliceBounds lo hi none n).2.1 = ((HT.sIx n n hi : Nat) : Int) ∧ (sliceBounds lo hi none n).2.2 = 1 := by
  refine ⟨?_, ?_, rfl⟩
  · cases lo with
    | none => simp [sliceBounds, HT.sIx]
    | some i =>
      simp only [sliceBounds, HT.sIx, Option.getD_none, show (1 : Int) > 0 by decide, if_true]
      by_cases h : i < 0
      · simp only [h, if_true] <;> omega
      · simp only [h, if_false] <;> omega
  · cases hi with
    | none => simp [sliceBounds, HT.sIx]
    | some i =>
      simp only [sliceBounds, HT.sIx, Option.getD_none, show (1 : Int) > 0 by decide, if_true]
      by_cases h : i < 0
      · simp only [h, if_true] <;> omega
      · simp only [h, if_false] <;> omega
theorem slicePick_cut (its : List Value) (lo hi : Option Int) : slicePick its.toArray lo hi none = ((its.drop (HT.sIx its.length 0 lo)).take (HT.sIx its.length its.length hi - HT.sIx its.length 0 lo)).toArray := by
  obtain ⟨h1, h2, h3⟩ := slice_bounds lo hi its.toArray.size
  unfold slicePick
  rw [h1, h2, h3]
  simp only [sliceRange_one, pick_run, List.size_toArray] <;> rfl
noncomputable def rSlL (K : PySem.W.Frag) : V → Option Int → Option Int → Hp → VK → Prop := fun x lo hi H Q => ∃ a xs, x = .ref a ∧ SqL K H a xs ∧ ∀ p, H p = none → Q (.ref p) (upd H p (.lst (cutV xs lo hi)))
theorem sl_list : SlR X (rSlL X.K) := by
  intro pins s σ H x v vl vu lo hi sl Q I rx hs pl pu h
  obtain ⟨a, xs, rfl, hx, q⟩ := h
  cases rx
  obtain ⟨its, r, ht, hz⟩ := I.list hx
  have hlen := r.length
  refine ⟨"list", _, slot_list_getitem.lookup, ht.isList.typeIs, ?_⟩
  refine wpAny_getItem_list_slice ht.isList hs pl pu .none (by simp) ?_ (by rw [List.size_toArray] <;> omega)
  rw [slicePick_cut, ← hlen]
  refine ⟨.ref s.heap.objs.size, _, I.laid (t' := s.toks) (o := .lst (cutV xs lo hi)) (fun b ob q => Heap.get?_push_of_some _ q) (Nat.le_refl _) ?_, rfl, q _ (I.hok.fresh (Nat.le_refl _))⟩
  exact ⟨Nat.le_trans (cutV_length xs lo hi) hz, _, 0, (r.drop (HT.sIx xs.length 0 lo)).take (HT.sIx xs.length xs.length hi - HT.sIx xs.length 0 lo), Heap.get?_push_size _ rfl⟩
noncomputable def flatV : V → Bool
  | .non => true
  | .bl _ => true
  | .int _ => true
  | .str _ => true
  | _ => false
noncomputable def eqV : V → V → Bool
  | .non, .non => true
  | .bl a, .bl b => a == b
  | .bl a, .int b => (if a then 1 else 0) == b
  | .int a, .bl b => a == (if b then 1 else 0)
  | .int a, .int b => a == b
  | .str a, .str b => a == b
  | _, _ => false
theorem eqAt_V {A : Around} {s : Shared} {y x : V} {u v : Value} (ry : RelV y u) (rx : RelV x v) (fy : flatV y = true) (fx : flatV x = true) : SeqAt.EqAt A s u v (eqV y x) := by
  cases y with
  | non =>
    cases ry
    cases x with
    | non => cases rx; exact SeqAt.EqAt.same _
    | bl b => cases rx; exact SeqAt.EqAt.none_bool b
    | int b => obtain ⟨t, rfl⟩ := rx; exact SeqAt.EqAt.none_int b t
    | str b => obtain ⟨t, rfl⟩ := rx; exact SeqAt.EqAt.none_str b t
    | _ => exact absurd (show false = true from fx) Bool.false_ne_true
  | bl a =>
    cases ry
    cases x with
    | non => cases rx; exact SeqAt.EqAt.bool_none a
    | bl b => cases rx; exact SeqAt.EqAt.bool_bool a b
    | int b => obtain ⟨t, rfl⟩ := rx; exact SeqAt.EqAt.bool_int a b t
    | str b => obtain ⟨t, rfl⟩ := rx; exact SeqAt.EqAt.bool_str a b t
    | _ => exact absurd (show false = true from fx) Bool.false_ne_true
  | int a =>
    obtain ⟨t', rfl⟩ := ry
    cases x with
    | non => cases rx; exact SeqAt.EqAt.int_none a t'
    | bl b => cases rx; exact SeqAt.EqAt.int_bool a t' b
    | int b => obtain ⟨t, rfl⟩ := rx; exact SeqAt.EqAt.int_int a t' b t
    | str b => obtain ⟨t, rfl⟩ := rx; exact SeqAt.EqAt.int_str a t' b t
    | _ => exact absurd (show false = true from fx) Bool.false_ne_true
  | str a =>
    obtain ⟨t', rfl⟩ := ry
    cases x with
    | non => cases rx; exact SeqAt.EqAt.str_none a t'
    | bl b => cases rx; exact SeqAt.EqAt.str_bool a t' b
    | int b => obtain ⟨t, rfl⟩ := rx; exact SeqAt.EqAt.str_int a t' b t
    | str b => obtain ⟨t, rfl⟩ := rx; exact SeqAt.EqAt.str_str a t' b t
    | _ => exact absurd (show false = true from fx) Bool.false_ne_true
  | _ => exact absurd (show false = true from fy) Bool.false_ne_true
noncomputable def eqU (x : V) (u : Value) : Bool := match u with
  | .none => eqV .non x
  | .bool b => eqV (.bl b) x
  | .int i _ => eqV (.int i) x
  | .str z _ => eqV (.str z) x
  | _ => false
theorem eqU_of {x y : V} {u : Value} (r : RelV y u) (f : flatV y = true) : eqU x u = eqV y x := by
  cases y with
  | non => cases r; rfl
  | bl b => cases r; rfl
  | int i => obtain ⟨t, rfl⟩ := r; rfl
  | str z => obtain ⟨t, rfl⟩ := r; rfl
  | _ => exact absurd (show false = true from f) Bool.false_ne_true
theorem any_eqU {x : V} : ∀ {xs : List V} {us : List Value}, Vals xs us → xs.all flatV = true → us.any (eqU x) = xs.any fun y => eqV y x
  | _, _, .nil, _ => rfl
  | y :: xs, u :: us, .cons r t, f => by
    rw [List.all_cons, Bool.and_eq_true] at f
    rw [List.any_cons, List.any_cons, eqU_of r f.1, any_eqU t f.2]
theorem mem_eqAt {A : Around} {s : Shared} {x : V} {v : Value} (rx : RelV x v) (fx : flatV x = true) : ∀ {xs : List V} {us : List Value}, Vals xs us → xs.all flatV = true → ∀ u ∈ us, SeqAt.EqAt A s u v (eqU x u)
  | _, _, .nil, _ => fun u hu => by cases hu
  | y :: xs, u :: us, .cons r t, f => fun u' hu => by
    rw [List.all_cons, Bool.and_eq_true] at f
    rcases List.mem_cons.mp hu with rfl | hu
    · rw [eqU_of r f.1]; exact eqAt_V r rx f.1 fx
    · exact mem_eqAt rx fx t f.2 u' hu
noncomputable def inV (x : V) (xs : List V) : Bool := xs.any fun y => eqV y x
noncomputable def rIn (K : PySem.W.Frag) (neg : Bool) : R2 := fun x y H Q => ∃ p xs, y = .ref p ∧ (SqL K H p xs ∨ SqT K H p xs) ∧ flatV x = true ∧ xs.all flatV = true ∧ Q (.bl (if neg then !inV x xs else inV x xs)) H
theorem op_in_seq : OpR X (compareOp .In) (rIn X.K false) := by
  intro pins s σ H x y v u Q I rx ry h
  obtain ⟨p, xs, rfl, hq, fx, fs, q⟩ := h
  cases ry
  rcases hq with hq | hq
  · obtain ⟨its, r, pl, hz⟩ := I.list hq
    refine SeqAt.in_listAt (eqU x) pl.isList (fun w hw => mem_eqAt rx fx r fs w (by simpa using hw)) ⟨.bl _, H, I, rfl, ?_⟩
    rw [show its.toArray.any (eqU x) = its.any (eqU x) by simp, any_eqU r fs]
    exact q
  · obtain ⟨its, r, pl, hz⟩ := I.tuple hq
    refine SeqAt.in_tupleAt (eqU x) pl (fun w hw => mem_eqAt rx fx r fs w (by simpa using hw)) ⟨.bl _, H, I, rfl, ?_⟩
    rw [show its.toArray.any (eqU x) = its.any (eqU x) by simp, any_eqU r fs]
    exact q
theorem call_len_seq : CallR X (.builtin "len") (fun xs H Q => ∃ p ys, xs = [.ref p] ∧ (SqL X.K H p ys ∨ SqT X.K H p ys) ∧ Q (.int ys.length) H) := by
  intro pins s σ H xs us Q I r h
  obtain ⟨p, ys, rfl, hq, q⟩ := h
  obtain ⟨u, rfl, rx⟩ := vals1 r
  cases rx
  have hn := line63
  rcases hq with hq | hq
  · obtain ⟨its, r', pl, hz⟩ := I.list hq
    have hlen := r'.length
    exact Calls.call_len_list pl.isList (by simp only [List.size_toArray] <;> omega) ⟨.int ys.length, H, I.tok _, ⟨s.toks + 1, by rw [List.size_toArray, hlen]⟩, q⟩
  · obtain ⟨its, r', pl, hz⟩ := I.tuple hq
    have hlen := r'.length
    exact len_tuple pl (by simp only [List.size_toArray] <;> omega) ⟨.int ys.length, H, I.tok _, ⟨s.toks + 1, by rw [List.size_toArray, hlen]⟩, q⟩
theorem call_list_of : CallR X (.type "list") (fun xs H Q => ∃ p ys, xs = [.ref p] ∧ (SqL X.K H p ys ∨ SqT X.K H p ys) ∧ ∀ l, H l = none → Q (.ref l) (upd H l (.lst ys))) := by
  intro pins s σ H xs us Q I r h
  obtain ⟨p, ys, rfl, hq, q⟩ := h
  obtain ⟨u, rfl, rx⟩ := vals1 r
  cases rx
  have fin : ∀ (its : List Value), Vals ys its → ys.length ≤ sizeLine → ∀ (h' : Heap) (c' : Nat), (∀ b o', s.heap.get? b = some o' → h'.get? b = some o') →
      h'.get? s.heap.objs.size = some { cls := .type "list", dict := none, data := .seq its.toArray c', slots := #[] } → EP X pins σ Q (.ref s.heap.objs.size) { s with heap := h' } := fun its r' hz h' c' kp e =>
    ⟨.ref s.heap.objs.size, _, I.laid (t' := s.toks) kp (Nat.le_refl _) (show ObjOk X.prog X.w _ h' _ (.lst ys) from ⟨hz, its, c', r', e⟩), rfl, q _ (I.hok.fresh (Nat.le_refl _))⟩
  rcases hq with hq | hq
  · obtain ⟨its, r', pl, hz⟩ := I.list hq
    have hlen := r'.length
    obtain ⟨o, ho, hc, n, hd⟩ := pl.isList
    exact call_list_seq p (.inl rfl) ho hc hd (fun h' c' kp e => fin its r' hz h' c' kp e) (by simp only [List.size_toArray] <;> omega)
  · obtain ⟨its, r', pl, hz⟩ := I.tuple hq
    have hlen := r'.length
    obtain ⟨o, ho, hc, n, hd⟩ := pl
    exact call_list_seq p (.inr rfl) ho hc hd (fun h' c' kp e => fin its r' hz h' c' kp e) (by simp only [List.size_toArray] <;> omega)
noncomputable def tyV (K : PySem.W.Frag) (T : String) (x : V) (H : Hp) : Prop := match x with
  | .str _ => T = "str"
  | .int _ => T = "int"
  | .ref p => (T = "list" ∧ ∃ xs, SqL K H p xs) ∨ (T = "tuple" ∧ ∃ o, K.lookup p = some o ∧ o.cls = .type "tuple" ∧ o.dict = none) ∨
      (T = "dict" ∧ ((∃ kvs, H p = some (.dK kvs)) ∨ ∃ kvs, H p = some (.dT kvs))) ∨ (T = "set" ∧ ∃ S n, H p = some (.set S n))
  | _ => False
theorem tyV_is {pins : List (Addr × Obj)} {σ : St} {H : Hp} {s : Shared} {T : String} {x : V} {v : Value} (I : Inv X pins σ H s) (r : RelV x v) (ty : tyV X.K T x H) :
    s.TypeIs v T ∧ ∀ a, v = .ref a → ∃ ob, s.heap.get? a = some ob ∧ ob.dict = none := by
  cases x with
  | str z =>
    obtain ⟨t, rfl⟩ := r
    cases (show T = "str" from ty)
    exact ⟨typeIs_str s z t, fun _ e => nomatch e⟩
  | int i =>
    obtain ⟨t, rfl⟩ := r
    cases (show T = "int" from ty)
    exact ⟨typeIs_int s i t, fun _ e => nomatch e⟩
  | ref p =>
    cases r
    rcases ty with ⟨rfl, xs, hq⟩ | ⟨rfl, o, hk, hc, hd⟩ | ⟨rfl, hk⟩ | ⟨rfl, S, n, hk⟩
    · obtain ⟨its, _, pl, _⟩ := I.list hq
      refine ⟨pl.isList.typeIs, fun a e => ?_⟩
      cases e
      obtain ⟨o, n, e, c, hd, _⟩ := pl
      exact ⟨o, e, hd⟩
    · refine ⟨⟨o, I.kIn p o hk, hc⟩, fun a e => ?_⟩
      cases e
      exact ⟨o, I.kIn _ o hk, hd⟩
    · have z : ∃ o, s.heap.get? p = some o ∧ o.ExactDict := by
        rcases hk with ⟨kvs, hk⟩ | ⟨kvs, hk⟩
        · obtain ⟨_, _, _, _, o, _, _, e, ex, _⟩ := I.hok p _ hk
          exact ⟨o, e, ex⟩
        · obtain ⟨_, _, _, _, o, _, _, e, ex, _⟩ := I.hok p _ hk
          exact ⟨o, e, ex⟩
      obtain ⟨o, e, ex⟩ := z
      refine ⟨⟨o, e, ex.1⟩, fun a e2 => ?_⟩
      cases e2
      exact ⟨o, e, ex.2.1⟩
    · obtain ⟨o, _, _, _, e, ex, _⟩ := I.hok p _ hk
      refine ⟨⟨o, e, ex.1⟩, fun a e2 => ?_⟩
      cases e2
      exact ⟨o, e, ex.2.1⟩
  | _ => exact False.elim ty
noncomputable def tBM0 (K : PySem.W.Frag) (T : String) (r : V → List V → Hp → VK → Prop) (to : TE) : TE := fun σ H Q => to σ H fun x H1 => tyV K T x H1 ∧ r x [] H1 Q
noncomputable def tBM (K : PySem.W.Frag) (T : String) (r : V → List V → Hp → VK → Prop) (to : TE) (t : TA) : TE := fun σ H Q => to σ H fun x H1 => tyV K T x H1 ∧ t σ H1 fun xs H2 => r x xs H2 Q
variable {o e : Expr} {es : List Expr} {to : TE} {t : TA} {name : Str} {apos cpos : Pos} {T id : String} {r : V → List V → Hp → VK → Prop}
theorem pe_bm0 (pa : PlainAttrs T) (slot : Slot T name id) (hty : typeOf (.builtin id) = pure (.type "method_descriptor")) (hm : MtR X id r) (ho : PE X o to)
    (hbase : attributeBase o name X.env (eval o X.env) = eval o X.env := by rfl) (hline : (apos.endLine == cpos.line) = true := by rfl) : PE X (.Call (.Attribute o name apos) [] [] cpos) (tBM0 X.K T r to) := by
  intro pins s σ H Q I h
  refine wpAny_Call_method0_late hbase hline (thn (ho pins s σ H _ I h) fun v s1 ⟨x, H1, I1, r1, ty, q1⟩ => ?_)
  obtain ⟨h1, h2⟩ := tyV_is I1 r1 ty
  exact ⟨T, id, pa, slot, hty, h1, h2, Calls.callWith_builtin rfl (PySem.evalArgs_none (hm pins s1 σ H1 x [] v [] Q I1 r1 .nil q1))⟩
theorem pe_bm (pa : PlainAttrs T) (slot : Slot T name id) (hty : typeOf (.builtin id) = pure (.type "method_descriptor")) (hm : MtR X id r) (ho : PE X o to) (ha : PA X (e :: es) t)
    (hbase : attributeBase o name X.env (eval o X.env) = eval o X.env := by rfl)
    (hfew : ((backTo cpos (starEach (e :: es) X.env)).all (fun x => !x.1) && (backToKw cpos (keywordEach [] X.env)).all (fun x => x.1.isSome)
      && decide ((e :: es).length + ([] : List Keyword).length + (if ([] : List Keyword).isEmpty then 0 else 1) < 30)) = true := by rfl)
    (hline : (apos.endLine == cpos.line) = true := by rfl) (hs : starEach (e :: es) X.env = (false, eval e X.env) :: starEach es X.env := by rfl) (hplain : (backTo cpos (starEach es X.env)).any (·.1) = false := by rfl) :
    PE X (.Call (.Attribute o name apos) (e :: es) [] cpos) (tBM X.K T r to t) := by
  intro pins s σ H Q I h
  refine wpAny_Call_method_late hbase hfew hline rfl (thn (ho pins s σ H _ I h) fun v s1 ⟨x, H1, I1, r1, ty, q1⟩ => ?_)
  obtain ⟨h1, h2⟩ := tyV_is I1 r1 ty
  refine ⟨T, id, pa, slot, hty, h1, h2, ?_⟩
  have hA := ha cpos pins s1 σ H1 _ I1 q1
  rw [hs] at hA ⊢
  refine Calls.callWith_builtin (by show (false || (backTo cpos (starEach es X.env)).any (·.1)) = false; rw [hplain] <;> rfl) (Calls.evalArgs_plain ?_)
  exact thn hA fun us s2 ⟨vs, H2, I2, r2, q2⟩ => hm pins s2 σ H2 x vs v us Q I2 r1 r2 q2
end
end L2
namespace L2
open PySem PySem.Spec PyProof.Rows
noncomputable def MtM (X : Cx) (id : String) (r : V → List V → Hp → VK → Prop) : Prop :=
  ∀ (pins : List (Addr × Obj)) (s : Shared) (σ : St) (H : Hp) (x : V) (xs : List V) (v : Value) (us : List Value) (Q : VK), Inv X pins σ H s → RelV x v → Vals xs us → r x xs H Q →
    wpAny (model X.prog X.w) X.A (call (.builtin id) (v :: us)) (EP X pins σ Q) X.xe s
theorem Vals.one : ∀ {x : V} {us : List Value}, Vals [x] us → ∃ u, us = [u] ∧ RelV x u
  | _, _, .cons r .nil => ⟨_, rfl, r⟩
theorem Vals.two : ∀ {x y : V} {us : List Value}, Vals [x, y] us → ∃ u v, us = [u, v] ∧ RelV x u ∧ RelV y v
  | _, _, _, .cons r (.cons q .nil) => ⟨_, _, rfl, r, q⟩
theorem Vals.zero : ∀ {us : List Value}, Vals [] us → us = []
  | _, .nil => rfl
theorem Vals.dropLast {xs : List V} {us : List Value} (h : Vals xs us) : Vals xs.dropLast us.dropLast := by
  induction h with
  | nil => exact .nil
  | cons r t ih =>
    cases t with
    | nil => exact .nil
    | cons q t' => exact .cons r ih
theorem Vals.reverse {xs : List V} {us : List Value} (h : Vals xs us) : Vals xs.reverse us.reverse := by
  induction h with
  | nil => exact .nil
  | cons r t ih => rw [List.reverse_cons, List.reverse_cons]; exact Vals.append ih (.cons r .nil)
theorem Vals.rep {xs : List V} {us : List Value} (h : Vals xs us) : ∀ k : Nat, Vals (List.replicate k xs).flatten (List.replicate k us).flatten
  | 0 => .nil
  | k + 1 => by
    rw [List.replicate_succ, List.replicate_succ, List.flatten_cons, List.flatten_cons]
    exact Vals.append h (Vals.rep h k)
theorem erase_last {α : Type} (l : List α) : l.eraseIdx (l.length - 1) = l.dropLast := by
  induction l with
  | nil => rfl
  | cons a r ih =>
    cases r with
    | nil => rfl
    | cons b r =>
      have e : (a :: b :: r).length - 1 = ((b :: r).length - 1) + 1 := by
        have h1 : (a :: b :: r).length = r.length + 2 := rfl
        have h2 : (b :: r).length = r.length + 1 := rfl
        omega
      rw [e, List.eraseIdx_cons_succ, ih]
      all_goals rfl
theorem foldl_rep (its : List Value) : ∀ (k : Nat) (acc : List Value),
    List.foldl (fun x1 x2 => x1 ++ x2) acc.toArray (List.replicate k its.toArray) = (acc ++ (List.replicate k its).flatten).toArray
  | 0, acc => by simp
  | k + 1, acc => by
    have e : acc.toArray ++ its.toArray = (acc ++ its).toArray := by simp
    have e2 : (acc ++ its) ++ (List.replicate k its).flatten = acc ++ (List.replicate (k + 1) its).flatten := by
      rw [List.replicate_succ, List.flatten_cons, List.append_assoc]
    rw [← e2, ← foldl_rep its k (acc ++ its), ← e, List.replicate_succ, List.foldl_cons]
section
variable {X : Cx} {pins : List (Addr × Obj)} {σ : St} {H : Hp} {s : Shared} {l b : Addr} {xs ys zs : List V}
theorem Inv.lset {its its' : List Value} {n : Nat} {f : Array Value → Array Value} {t' : Nat} (I : Inv X pins σ H s) (hH : H l = some (.lst xs))
    (e : s.heap.get? l = some { cls := .type "list", data := .seq its.toArray n }) (hf : f its.toArray = its'.toArray) (hv : Vals ys its') (hz : ys.length ≤ sizeLine) :
    Inv X pins σ (upd H l (.lst ys)) { s with heap := s.heap.update l (Obj.mapSeq f), toks := t' } := by
  have q := PySem.IsL.update e f
  rw [hf] at q
  refine I.write (x := l) (e := l) (by rw [hH]; exact trivial) (.inl rfl) (fun b' u hb hu => (Heap.get?_update_other s.heap (Obj.mapSeq f) (Ne.symm hb)).trans hu) ⟨_, q⟩ ?_
  exact ⟨hz, its', _, hv, q⟩
theorem Inv.lnew {its : List Value} {t' : Nat} (I : Inv X pins σ H s) (hv : Vals ys its) (hz : ys.length ≤ sizeLine) :
    Inv X pins σ (upd H s.heap.objs.size (.lst ys)) { s with heap := s.heap.push { cls := .type "list", data := .seq its.toArray }, toks := t' } :=
  I.laid (fun _ _ q => Heap.get?_push_of_some _ q) (Nat.le_refl _) ⟨hz, its, 0, hv, Heap.get?_push_size _ rfl⟩
theorem Inv.fresh (I : Inv X pins σ H s) : H s.heap.objs.size = none := I.hok.fresh (Nat.le_refl _)
theorem Inv.lstM (I : Inv X pins σ H s) (hH : H l = some (.lst xs)) : xs.length ≤ sizeLine ∧ ∃ (its : List Value) (n : Nat), Vals xs its ∧ xs.length = its.length ∧ s.heap.get? l = some { cls := .type "list", data := .seq its.toArray n } := by
  obtain ⟨z, its, n, r, e⟩ := I.hok l _ hH
  exact ⟨z, its, n, r, r.length, e⟩
theorem notLongL {n : Nat} (h : n ≤ sizeLine) : Builtin.List.listTooLong n = false := by
  unfold Builtin.List.listTooLong
  exact decide_eq_false (by omega)
end
section
variable {X : Cx}
noncomputable def rAppend : V → List V → Hp → VK → Prop := fun x vs H Q => ∃ l xs y, x = .ref l ∧ vs = [y] ∧ H l = some (.lst xs) ∧ xs.length < sizeLine ∧ Q .non (upd H l (.lst (xs ++ [y])))
theorem mt_append : MtM X "list.append" rAppend := by
  intro pins s σ H x vs v us Q I rx rv h
  obtain ⟨l, xs, y, rfl, rfl, hH, hz, q⟩ := h
  cases rx
  obtain ⟨u, rfl, ru⟩ := rv.one
  obtain ⟨z, its, n, r, hl, e⟩ := I.lstM hH
  refine call_meets F.slot_list_append ⟨_, e, rfl⟩ F.entry_list_append (F.args_list_append_2 _ _) (PySem.list_append l its.toArray n u (by rw [List.size_toArray]; omega)) ⟨e, ?_⟩
  refine ⟨.non, _, I.lset (its' := its ++ [u]) hH e (by simp) (r.append (.cons ru .nil)) ?_, rfl, q⟩
  rw [List.length_append, List.length_singleton]
  omega
noncomputable def rExtend : V → List V → Hp → VK → Prop := fun x vs H Q => ∃ l b xs zs, x = .ref l ∧ vs = [.ref b] ∧ H l = some (.lst xs) ∧ H b = some (.lst zs) ∧ xs.length + zs.length ≤ sizeLine ∧ Q .non (upd H l (.lst (xs ++ zs)))
noncomputable def rPop : V → List V → Hp → VK → Prop := fun x vs H Q => ∃ l xs y, x = .ref l ∧ vs = [] ∧ H l = some (.lst xs) ∧ xs[xs.length - 1]? = some y ∧ Q y (upd H l (.lst xs.dropLast))
theorem mt_pop : MtM X "list.pop" rPop := by
  intro pins s σ H x vs v us Q I rx rv h
  obtain ⟨l, xs, y, rfl, rfl, hH, hy, q⟩ := h
  cases rx
  have hus := rv.zero
  subst hus
  obtain ⟨z, its, n, r, hl, e⟩ := I.lstM hH
  obtain ⟨u, hu, ru⟩ := r.get hy
  have hy' : its.toArray[its.toArray.size - 1]? = some u := by
    show its.toArray[its.length - 1]? = some u
    rw [← Array.getElem?_toList, ← hl]
    exact hu
  refine call_meets F.slot_list_pop ⟨_, e, rfl⟩ F.entry_list_pop (F.args_list_pop_1 _) (MeetsSeq.list_pop_last l its.toArray n u hy' (by rw [List.size_toArray]; omega)) ⟨e, ?_⟩
  refine ⟨y, _, I.lset (its' := its.dropLast) hH e ?_ r.dropLast ?_, ru, q⟩
  · show its.toArray.eraseIdxIfInBounds (its.toArray.size - 1) = its.dropLast.toArray
    rw [List.size_toArray, List.eraseIdxIfInBounds_toArray, erase_last]
  · rw [List.length_dropLast]
    omega
noncomputable def rReverse : V → List V → Hp → VK → Prop := fun x vs H Q => ∃ l xs, x = .ref l ∧ vs = [] ∧ H l = some (.lst xs) ∧ Q .non (upd H l (.lst xs.reverse))
noncomputable def rCat : R2 := fun x y H Q => ∃ l b xs zs, x = .ref l ∧ y = .ref b ∧ H l = some (.lst xs) ∧ H b = some (.lst zs) ∧ xs.length + zs.length ≤ sizeLine ∧ ∀ p, H p = none → Q (.ref p) (upd H p (.lst (xs ++ zs)))
theorem op_cat : OpR X (binaryOp .Add) rCat := by
  intro pins s σ H x y v u Q I rx ry h
  obtain ⟨l, b, xs, zs, rfl, rfl, hH, hB, hz, q⟩ := h
  cases rx
  cases ry
  obtain ⟨z, its, n, r, hl, e⟩ := I.lstM hH
  obtain ⟨z2, its2, n2, r2, hl2, e2⟩ := I.lstM hB
  refine PySem.P.add_list e e2 ?_ (by rw [List.size_toArray, List.size_toArray]; omega)
  have ea : its.toArray ++ its2.toArray = (its ++ its2).toArray := by simp
  rw [ea]
  exact ⟨.ref _, _, I.lnew (t' := s.toks) (r.append r2) (by rw [List.length_append]; omega), rfl, q _ I.fresh⟩
noncomputable def rRep : R2 := fun x y H Q => ∃ l k xs, x = .ref l ∧ y = .int k ∧ H l = some (.lst xs) ∧ -(2 ^ 63) ≤ k ∧ k < 2 ^ 63 ∧ xs.length * k.toNat ≤ sizeLine ∧
  ∀ p, H p = none → Q (.ref p) (upd H p (.lst (List.replicate k.toNat xs).flatten))
theorem len_rep {α : Type} (xs : List α) (k : Nat) : (List.replicate k xs).flatten.length = k * xs.length := by
  induction k with
  | zero => simp
  | succ k ih => rw [List.replicate_succ, List.flatten_cons, List.length_append, ih, Nat.succ_mul, Nat.add_comm]
theorem op_rep : OpR X (binaryOp .Mult) rRep := by
  intro pins s σ H x y v u Q I rx ry h
  obtain ⟨l, k, xs, rfl, rfl, hH, h1, h2, hz, q⟩ := h
  cases rx
  obtain ⟨t, rfl⟩ := ry
  obtain ⟨z, its, n, r, hl, e⟩ := I.lstM hH
  have hlen : its.toArray.size * k.toNat ≤ sizeLine := by rw [List.size_toArray, ← hl]; exact hz
  have hcap : ¬ its.toArray.size * k.toNat > (2 ^ 63 - 1) / 8 := by
    have : (sizeLine : Nat) ≤ (2 ^ 63 - 1) / 8 := by decide
    omega
  have hfit : ¬ (!Builtin.List.listFitsIndex k) = true := by
    rw [fitsIndex_both h1 h2]
    exact Bool.false_ne_true
  have hlong : ¬ Builtin.List.listTooLong (its.toArray.size * k.toNat) = true := by
    rw [notLongL hlen]
    exact Bool.false_ne_true
  have hnew : List.foldl (fun x1 x2 => x1 ++ x2) #[] (List.replicate (if its.toArray.isEmpty = true then 0 else k.toNat) its.toArray) = (List.replicate k.toNat its).flatten.toArray := by
    have f0 : ∀ m : Nat, List.foldl (fun x1 x2 => x1 ++ x2) #[] (List.replicate m its.toArray) = (List.replicate m its).flatten.toArray := fun m => by
      have := foldl_rep its m []
      rw [List.nil_append] at this
      exact this
    rw [f0]
    cases its with
    | nil => simp
    | cons a r' => rw [if_neg (by simp)]
  refine wpAny_binaryOp_repeat_ref (T := "list") (U := "int") (by decide) ⟨_, e, rfl⟩ (fun s' => typeIs_int s' k t) noFill_list_mul F.fills_int_mul F.slot_int_rmul repeat_list F.slot_int_index.lookup
    (call_meets F.slot_int_rmul (typeIs_int s k t) F.entry_int_rmul (F.args_int_rmul_2 _ _) (int___rmul___int_list k t l its.toArray n)
      ⟨e, rfl, ⟨_, e, rfl⟩, call_meets F.slot_list_mul ⟨_, e, rfl⟩ F.entry_list_mul (F.args_list_mul_2 _ _) (AutoListH.list___mul___list_int_3 l its.toArray n k t hfit hcap hlong) ⟨e, ?_⟩⟩)
  rw [hnew]
  exact ⟨.ref _, _, I.lnew (t' := s.toks) (r.rep k.toNat) (by rw [len_rep, Nat.mul_comm]; exact hz), rfl, q _ I.fresh⟩
end
section
variable {prog : Program} {w : World} {A : Around} {E : Value → Shared → Prop} {s : Shared}
end
section
variable {X : Cx}
end
end L2
namespace L2
open PySem PySem.Spec PyProof.Rows
section
variable {κ : Type} [DecidableEq κ]
noncomputable def valV (kvs : List (κ × V)) (k : κ) : Option V := (kvs.find? fun kv => decide (kv.1 = k)).map (·.2)
noncomputable def putK (kvs : List (κ × V)) (k : κ) (v : V) : List (κ × V) :=
  if (kvs.any fun kv => decide (kv.1 = k)) = true then kvs.map (fun kv => if kv.1 = k then (kv.1, v) else kv) else kvs ++ [(k, v)]
noncomputable def dropK (kvs : List (κ × V)) (k : κ) : List (κ × V) := kvs.filter fun kv => decide (kv.1 ≠ k)
theorem valV_pos {p : κ × V} {r : List (κ × V)} {k : κ} (e : p.1 = k) : valV (p :: r) k = some p.2 := by simp [valV, List.find?_cons, e]
theorem valV_neg {p : κ × V} {r : List (κ × V)} {k : κ} (e : ¬ p.1 = k) : valV (p :: r) k = valV r k := by simp [valV, List.find?_cons, e]
theorem valV_any (k : κ) : ∀ kvs : List (κ × V), (kvs.any fun kv => decide (kv.1 = k)) = (valV kvs k).isSome
  | [] => rfl
  | p :: r => by
    rw [List.any_cons]
    by_cases e : p.1 = k
    · simp only [valV_pos e, decide_eq_true e, Bool.true_or, Option.isSome_some]
    · rw [valV_neg e, decide_eq_false e, Bool.false_or]; exact valV_any k r
theorem valV_map (k j : κ) (y : V) : ∀ kvs : List (κ × V), valV (kvs.map fun kv => if kv.1 = k then (kv.1, y) else kv) j = (valV kvs j).map fun x => if j = k then y else x
  | [] => rfl
  | p :: r => by
    have ih := valV_map k j y r
    rw [List.map_cons]
    by_cases h : p.1 = k
    · rw [if_pos h]
      by_cases e : p.1 = j
      · rw [valV_pos (p := (p.1, y)) e, valV_pos e, Option.map_some, if_pos (e.symm.trans h)]
      · rw [valV_neg (p := (p.1, y)) e, valV_neg e, ih]
    · rw [if_neg h]
      by_cases e : p.1 = j
      · rw [valV_pos (p := p) e, valV_pos e, Option.map_some, if_neg (fun z => h (e.trans z))]
      · rw [valV_neg (p := p) e, valV_neg e, ih]
theorem valV_snoc (k j : κ) (y : V) : ∀ kvs : List (κ × V), valV kvs k = none → valV (kvs ++ [(k, y)]) j = if j = k then some y else valV kvs j
  | [], _ => by
    by_cases e : k = j
    · rw [if_pos e.symm]; exact valV_pos (p := (k, y)) e
    · rw [if_neg (fun z => e z.symm)]; exact valV_neg (p := (k, y)) e
  | p :: r, hn => by
    rw [List.cons_append]
    have hk : ¬ p.1 = k := fun z => by rw [valV_pos z] at hn; cases hn
    rw [valV_neg hk] at hn
    have ih := valV_snoc k j y r hn
    by_cases e : p.1 = j
    · rw [valV_pos e, valV_pos e, if_neg (fun z => hk (e.trans z))]
    · rw [valV_neg e, valV_neg e, ih]
theorem valV_put (kvs : List (κ × V)) (k j : κ) (y : V) : valV (putK kvs k y) j = if j = k then some y else valV kvs j := by
  unfold putK
  by_cases a : (kvs.any fun kv => decide (kv.1 = k)) = true
  · rw [if_pos a, valV_map]
    rw [valV_any] at a
    by_cases e : j = k
    · obtain ⟨x, hx⟩ := Option.isSome_iff_exists.mp a
      rw [if_pos e, e, hx, Option.map_some, if_pos rfl]
    · rw [if_neg e]
      cases valV kvs j with
      | none => rfl
      | some x => rw [Option.map_some, if_neg e]
  · rw [if_neg a]
    refine valV_snoc k j y kvs ?_
    rw [valV_any] at a
    cases q : valV kvs k with
    | none => rfl
    | some x => rw [q] at a; exact (a rfl).elim
theorem length_putK (kvs : List (κ × V)) (k : κ) (v : V) : (putK kvs k v).length ≤ kvs.length + 1 := by
  unfold putK
  split
  · rw [List.length_map]; omega
  · rw [List.length_append, List.length_cons, List.length_nil]; omega
theorem RelO.isSome_eq {o : Option V} {u : Option Value} (r : RelO o u) : o.isSome = u.isSome := by
  cases o with
  | none => cases u with
    | none => rfl
    | some _ => exact (show False from r).elim
  | some _ => cases u with
    | none => exact (show False from r).elim
    | some _ => rfl
theorem RelO.getD {o : Option V} {u : Option Value} {d : V} {d' : Value} (r : RelO o u) (rd : RelV d d') : RelV (o.getD d) (u.getD d') := by
  cases o with
  | none => cases u with
    | none => exact rd
    | some _ => exact (show False from r).elim
  | some _ => cases u with
    | none => exact (show False from r).elim
    | some _ => exact r
theorem KV.val {kvs : List (κ × V)} {vs : List (κ × Value)} (r : KV kvs vs) (k : κ) : RelO (valV kvs k) (valueAt vs k) := by
  unfold KV at r
  induction r with
  | nil => exact True.intro
  | @cons p q ps qs h t ih =>
    obtain ⟨h1, h2⟩ := h
    by_cases e : p.1 = k
    · have e' : q.1 = k := h1.symm.trans e
      have b : valueAt (q :: qs) k = some q.2 := by simp [valueAt, List.find?_cons, e']
      rw [valV_pos e, b]; exact h2
    · have e' : ¬ q.1 = k := fun z => e (h1.trans z)
      have b : valueAt (q :: qs) k = valueAt qs k := by simp [valueAt, List.find?_cons, e']
      rw [valV_neg e, b]; exact ih
theorem KV.any {kvs : List (κ × V)} {vs : List (κ × Value)} (r : KV kvs vs) (k : κ) : (kvs.any fun kv => decide (kv.1 = k)) = vs.any fun kv => decide (kv.1 = k) := by
  unfold KV at r
  induction r with
  | nil => rfl
  | cons h t ih => rw [List.any_cons, List.any_cons, ih, h.1]
theorem KV.repl {kvs : List (κ × V)} {vs : List (κ × Value)} (r : KV kvs vs) (k : κ) {y : V} {u : Value} (ry : RelV y u) :
    KV (kvs.map fun kv => if kv.1 = k then (kv.1, y) else kv) (vs.map fun kv => if kv.1 = k then (kv.1, u) else kv) := by
  unfold KV at r ⊢
  induction r with
  | nil => exact .nil
  | @cons p q ps qs h t ih =>
    rw [List.map_cons, List.map_cons]
    refine .cons ?_ ih
    obtain ⟨h1, h2⟩ := h
    by_cases e : p.1 = k
    · rw [if_pos e, if_pos (h1.symm.trans e)]; exact ⟨h1, ry⟩
    · rw [if_neg e, if_neg (fun z => e (h1.trans z))]; exact ⟨h1, h2⟩
theorem KV.put {kvs : List (κ × V)} {vs : List (κ × Value)} (r : KV kvs vs) (k : κ) {y : V} {u : Value} (ry : RelV y u) : KV (putK kvs k y) (stored vs k u) := by
  unfold putK stored
  rw [r.any k]
  by_cases e : (vs.any fun kv => decide (kv.1 = k)) = true
  · rw [if_pos e, if_pos e]; exact r.repl k ry
  · rw [if_neg e, if_neg e]; exact Paired.snoc r ⟨rfl, ry⟩
theorem KV.drop {kvs : List (κ × V)} {vs : List (κ × Value)} (r : KV kvs vs) (k : κ) : KV (dropK kvs k) (without vs k) := by
  unfold KV at r ⊢
  unfold dropK without
  induction r with
  | nil => exact .nil
  | @cons p q ps qs h t ih =>
    obtain ⟨h1, h2⟩ := h
    rw [List.filter_cons, List.filter_cons]
    by_cases e : p.1 = k
    · have a : ¬ decide (p.1 ≠ k) = true := by simp [e]
      have b : ¬ decide (q.1 ≠ k) = true := by simp [h1.symm.trans e]
      rw [if_neg a, if_neg b]; exact ih
    · have e' : ¬ q.1 = k := fun z => e (h1.trans z)
      have a : decide (p.1 ≠ k) = true := by simp [e]
      have b : decide (q.1 ≠ k) = true := by simp [e']
      rw [if_pos a, if_pos b]; exact .cons ⟨h1, h2⟩ ih
theorem KV.length {kvs : List (κ × V)} {vs : List (κ × Value)} (r : KV kvs vs) : kvs.length = vs.length := Paired.length r
end
theorem kV_is {P : Program} {w : World} {k : Key} {u : Value} (r : RelV (kV k) u) : (mixKind P w).is k u = true := by
  cases k with
  | inl i => obtain ⟨t, e⟩ := (show ∃ t, u = Value.int i t from r); subst e; exact mixKind_int P w i t
  | inr x => obtain ⟨t, e⟩ := (show ∃ t, u = Value.str x t from r); subst e; exact mixKind_str P w x t
noncomputable def KeyAt (H : Hp) (b : Addr) (ks : List Key) : Prop := ∃ ys, H b = some (.tup ys) ∧ Paired kB ks ys
theorem KeyAt.of {H : Hp} {b : Addr} {ks : List Key} (h : H b = some (.tup (ks.map kV))) : KeyAt H b ks := ⟨_, h, kB_all ks⟩
theorem kB_is {P : Program} {w : World} {k : Key} {v : V} {u : Value} (h : kB k v) (r : RelV v u) : (mixB P w).is k u = true := by
  rcases h with rfl | ⟨b, rfl, rfl⟩
  · cases k with
    | inl i => obtain ⟨t, e⟩ := (show ∃ t, u = Value.int i t from r); subst e; exact keyIs_int i t
    | inr x => obtain ⟨t, e⟩ := (show ∃ t, u = Value.str x t from r); subst e; exact keyIs_str x t
  · have e : u = Value.bool b := r
    subst e
    exact decide_eq_true rfl
theorem itemsB_are {P : Program} {w : World} : ∀ {ks : List Key} {ys : List V} {us : List Value}, Paired kB ks ys → Vals ys us → ItemsAre (mixB P w) ks us
  | [], _, _, p, r => by cases p; cases r; exact .nil
  | k :: ks, _, _, p, r => by
    cases p with
    | cons h t => cases r with
      | cons h2 t2 => exact .cons (kB_is h h2) (itemsB_are t t2)
noncomputable abbrev KT (H : Hp) : List (List Key × V) → List (List Key × Addr × Value) → Prop := Paired fun p q => p.1 = q.1 ∧ KeyAt H q.2.1 p.1 ∧ RelV p.2 q.2.2
theorem KT.val {H : Hp} {kvs : List (List Key × V)} {xs : List (List Key × Addr × Value)} (r : KT H kvs xs) (k : List Key) : RelO (valV kvs k) ((atKey xs k).map (·.2)) := by
  induction r with
  | nil => exact True.intro
  | @cons p q ps qs h t ih =>
    obtain ⟨h1, _, h2⟩ := h
    by_cases e : p.1 = k
    · have e' : q.1 = k := h1.symm.trans e
      have b : atKey (q :: qs) k = some q.2 := by simp [atKey, List.find?_cons, e']
      rw [valV_pos e, b]; exact h2
    · have e' : ¬ q.1 = k := fun z => e (h1.trans z)
      have b : atKey (q :: qs) k = atKey qs k := by simp [atKey, List.find?_cons, e']
      rw [valV_neg e, b]; exact ih
theorem KT.repl {H : Hp} {kvs : List (List Key × V)} {xs : List (List Key × Addr × Value)} (r : KT H kvs xs) (k : List Key) {y : V} {u : Value} (ry : RelV y u) :
    KT H (kvs.map fun kv => if kv.1 = k then (kv.1, y) else kv) (xs.map (putAt k u)) := by
  induction r with
  | nil => exact .nil
  | @cons p q ps qs h t ih =>
    rw [List.map_cons, List.map_cons]
    refine .cons ?_ ih
    obtain ⟨h1, h2, h3⟩ := h
    unfold putAt
    by_cases e : p.1 = k
    · rw [if_pos e, if_pos (h1.symm.trans e)]; exact ⟨h1, h2, ry⟩
    · rw [if_neg e, if_neg (fun z => e (h1.trans z))]; exact ⟨h1, h2, h3⟩
theorem KT.put {H : Hp} {kvs : List (List Key × V)} {xs : List (List Key × Addr × Value)} (r : KT H kvs xs) (k : List Key) {b : Addr} {y : V} {u : Value} (hb : KeyAt H b k) (ry : RelV y u) :
    KT H (putK kvs k y) (storedH xs k b u) := by
  have e : (kvs.any fun kv => decide (kv.1 = k)) = (atKey xs k).isSome := by
    rw [valV_any, (r.val k).isSome_eq, Option.isSome_map]
  unfold putK storedH
  rw [e]
  by_cases q : (atKey xs k).isSome = true
  · rw [if_pos q, if_pos q]; exact r.repl k ry
  · rw [if_neg q, if_neg q]; exact Paired.snoc r ⟨rfl, hb, ry⟩
theorem KT.keeps {H H' : Hp} {kvs : List (List Key × V)} {xs : List (List Key × Addr × Value)} (r : KT H kvs xs) (ht : ∀ b ys, H b = some (.tup ys) → H' b = some (.tup ys)) : KT H' kvs xs :=
  Paired.mapP r fun _ _ z => ⟨z.1, z.2.1.imp fun _ y => ⟨ht _ _ y.1, y.2⟩, z.2.2⟩
section
variable {P : Program} {w : World} {H : Hp} {h : Heap} {a : Addr}
theorem rd_of {u : HO} (ok : HOk P w H h) (e : Rd H a u) : ObjOk P w H h a u := e.ok ok
theorem dk_rd {kvs : List (Key × V)} (ok : HOk P w H h) (e : Rd H a (.dK kvs)) : kvs.length ≤ sizeLine ∧ (a == sysModules) = false ∧ ∃ vs, KV kvs vs ∧ h.DictOf (mixKind P w) a vs :=
  show ObjOk P w H h a (.dK kvs) from rd_of ok e
theorem dk_of {kvs : List (Key × V)} (ok : HOk P w H h) (e : H a = some (.dK kvs)) : kvs.length ≤ sizeLine ∧ (a == sysModules) = false ∧ ∃ vs, KV kvs vs ∧ h.DictOf (mixKind P w) a vs := dk_rd ok (.inl e)
theorem key_of {ks : List Key} (ok : HOk P w H h) (e : KeyAt H a ks) : (tupleKind (mixB P w)).is h ks a := by
  obtain ⟨ys, e, kb⟩ := e
  obtain ⟨_, its, r, o, h1, h2, n, h3⟩ := (show ObjOk P w H h a (.tup ys) from ok a _ e)
  exact ⟨o, its.toArray, n, h1, h2, h3, by simpa using itemsB_are kb r⟩
theorem dt_rd {kvs : List (List Key × V)} (ok : HOk P w H h) (e : Rd H a (.dT kvs)) : kvs.length ≤ sizeLine ∧ (a == sysModules) = false ∧
    ∃ xs, KT H kvs xs ∧ h.DictOfH (tupleKind (mixB P w)) a xs := by
  obtain ⟨z, y, xs, r, o, es, ep, h1, h2, h3, h4, h5⟩ := (show ObjOk P w H h a (.dT kvs) from rd_of ok e)
  refine ⟨z, y, xs, r, o, es, ep, h1, h2, h3, h4, fun x hx => ?_, h5⟩
  have all : ∀ {l : List (List Key × V)} {m : List (List Key × Addr × Value)}, KT H l m → ∀ x ∈ m, (tupleKind (mixB P w)).is h x.1 x.2.1 := by
    intro l m q
    induction q with
    | nil => intro x hx; exact nomatch hx
    | @cons p q ps qs hq t ih =>
      intro x hx
      rcases List.mem_cons.mp hx with e | hx
      · subst e
        exact key_of ok (by rw [← hq.1]; exact hq.2.1)
      · exact ih x hx
  exact all r x hx
theorem dt_of {kvs : List (List Key × V)} (ok : HOk P w H h) (e : H a = some (.dT kvs)) : kvs.length ≤ sizeLine ∧ (a == sysModules) = false ∧
    ∃ xs, KT H kvs xs ∧ h.DictOfH (tupleKind (mixB P w)) a xs := dt_rd ok (.inl e)
end
noncomputable def DGet (H : Hp) (a : Addr) (y : V) (r : Option V) : Prop :=
  (∃ kvs k, Rd H a (.dK kvs) ∧ y = kV k ∧ r = valV kvs k) ∨ ∃ kvs k b, Rd H a (.dT kvs) ∧ y = .ref b ∧ KeyAt H b k ∧ r = valV kvs k
noncomputable def DPut (H : Hp) (a : Addr) (y v : V) (H' : Hp) : Prop :=
  (∃ kvs k, H a = some (.dK kvs) ∧ y = kV k ∧ kvs.length < sizeLine ∧ H' = upd H a (.dK (putK kvs k v))) ∨
  ∃ kvs k b, H a = some (.dT kvs) ∧ y = .ref b ∧ KeyAt H b k ∧ kvs.length < sizeLine ∧ H' = upd H a (.dT (putK kvs k v))
theorem DGet.k {H : Hp} {a : Addr} {kvs : List (Key × V)} {k : Key} (e : H a = some (.dK kvs)) : DGet H a (kV k) (valV kvs k) := .inl ⟨kvs, k, .inl e, rfl, rfl⟩
theorem DGet.t {H : Hp} {a b : Addr} {kvs : List (List Key × V)} {k : List Key} (e : H a = some (.dT kvs)) (eb : H b = some (.tup (k.map kV))) : DGet H a (.ref b) (valV kvs k) := .inr ⟨kvs, k, b, .inl e, rfl, KeyAt.of eb, rfl⟩
theorem DGet.b {H : Hp} {a b : Addr} {kvs : List (List Key × V)} {k : List Key} (e : H a = some (.dT kvs)) (eb : KeyAt H b k) : DGet H a (.ref b) (valV kvs k) := .inr ⟨kvs, k, b, .inl e, rfl, eb, rfl⟩
theorem DPut.k {H : Hp} {a : Addr} {kvs : List (Key × V)} {k : Key} {v : V} (e : H a = some (.dK kvs)) (hl : kvs.length < sizeLine) : DPut H a (kV k) v (upd H a (.dK (putK kvs k v))) := .inl ⟨kvs, k, e, rfl, hl, rfl⟩
theorem DPut.t {H : Hp} {a b : Addr} {kvs : List (List Key × V)} {k : List Key} {v : V} (e : H a = some (.dT kvs)) (eb : H b = some (.tup (k.map kV))) (hl : kvs.length < sizeLine) :
    DPut H a (.ref b) v (upd H a (.dT (putK kvs k v))) := .inr ⟨kvs, k, b, e, rfl, KeyAt.of eb, hl, rfl⟩
theorem DPut.b {H : Hp} {a b : Addr} {kvs : List (List Key × V)} {k : List Key} {v : V} (e : H a = some (.dT kvs)) (eb : KeyAt H b k) (hl : kvs.length < sizeLine) :
    DPut H a (.ref b) v (upd H a (.dT (putK kvs k v))) := .inr ⟨kvs, k, b, e, rfl, eb, hl, rfl⟩
section
variable {X : Cx} {pins : List (Addr × Obj)} {σ : St} {H : Hp} {s : Shared} {a : Addr} {y v : V} {u r : Value} {o : Option V} {A : Around} {E : Value → Shared → Prop}
theorem Inv.big (I : Inv X pins σ H s) : sysModules < s.heap.objs.size := by
  have h : mainGlobals < s.heap.objs.size := (I.mod.glob.keeps I.bk).lt
  exact Nat.lt_trans (by decide) h
theorem d_getItem {Q : Value → Shared → Prop} (hu : A.units + 1 < cLine) (I : Inv X pins σ H s) (g : DGet H a y (some v)) (ry : RelV y u) (h : ∀ w' s', Inv X pins σ H s' → RelV v w' → Q w' s') :
    wpAny (model X.prog X.w) A (getItem (.ref a) u) Q E s := by
  rcases g with ⟨kvs, k, e, ey, l⟩ | ⟨kvs, k, b, e, ey, eb, l⟩
  · subst ey
    obtain ⟨z, hd, vs, rel, dd⟩ := dk_rd I.hok e
    obtain ⟨w', hw, rw'⟩ := RelO.some_of (v := v) (o := valueAt vs k) (by rw [l]; exact rel.val k)
    exact wpAny_getItem_of (kV_is ry) dd.mapOf hw (h w' _ (I.tok _) rw')
  · subst ey
    cases (show u = Value.ref b from ry)
    obtain ⟨z, hd, xs, rel, dd⟩ := dt_rd I.hok e
    obtain ⟨w', hw, rw'⟩ := RelO.some_of (v := v) (o := (atKey xs k).map (·.2)) (by rw [l]; exact rel.val k)
    obtain ⟨p, hp, hp2⟩ := Option.map_eq_some_iff.mp hw
    refine wpAny_getItem_heap (tupleKind_room_in1 hu) (key_of I.hok eb) dd hp ?_
    rw [hp2]
    exact h w' _ (I.tok _) rw'
theorem d_in {Q : Value → Shared → Prop} (hu : A.units + 1 < cLine) (I : Inv X pins σ H s) (g : DGet H a y o) (ry : RelV y u) (h : ∀ s', Inv X pins σ H s' → Q (.bool o.isSome) s') :
    wpAny (model X.prog X.w) A (compareOp .In u (.ref a)) Q E s := by
  rcases g with ⟨kvs, k, e, ey, l⟩ | ⟨kvs, k, b, e, ey, eb, l⟩
  · subst ey
    obtain ⟨z, hd, vs, rel, dd⟩ := dk_rd I.hok e
    refine wpAny_in_of (kV_is ry) hd dd.mapOf ?_
    rw [← (rel.val k).isSome_eq, ← l]
    exact h _ (I.tok _)
  · subst ey
    cases (show u = Value.ref b from ry)
    obtain ⟨z, hd, xs, rel, dd⟩ := dt_rd I.hok e
    refine wpAny_in_heap (tupleKind_room_in1 hu) (key_of I.hok eb) hd dd ?_
    have q := (rel.val k).isSome_eq
    rw [Option.isSome_map] at q
    rw [← q, ← l]
    exact h _ (I.tok _)
theorem d_notIn {Q : Value → Shared → Prop} (hu : A.units + 1 < cLine) (I : Inv X pins σ H s) (g : DGet H a y o) (ry : RelV y u) (h : ∀ s', Inv X pins σ H s' → Q (.bool (!o.isSome)) s') :
    wpAny (model X.prog X.w) A (compareOp .NotIn u (.ref a)) Q E s := by
  rcases g with ⟨kvs, k, e, ey, l⟩ | ⟨kvs, k, b, e, ey, eb, l⟩
  · subst ey
    obtain ⟨z, hd, vs, rel, dd⟩ := dk_rd I.hok e
    refine wpAny_notIn_of (kV_is ry) hd dd.mapOf ?_
    rw [← (rel.val k).isSome_eq, ← l]
    exact h _ (I.tok _)
  · subst ey
    cases (show u = Value.ref b from ry)
    obtain ⟨z, hd, xs, rel, dd⟩ := dt_rd I.hok e
    refine wpAny_notIn_heap (tupleKind_room_in1 hu) (key_of I.hok eb) hd dd ?_
    have q := (rel.val k).isSome_eq
    rw [Option.isSome_map] at q
    rw [← q, ← l]
    exact h _ (I.tok _)
theorem d_write {h' : Heap} {t' : Nat} {ob : HO} (I : Inv X pins σ H s) (mu : Mut (H a)) (hs : Heap.SameBut a s.heap h') (he : ∃ q, h'.get? a = some q) (new : ObjOk X.prog X.w (upd H a ob) h' a ob) :
    Inv X pins σ (upd H a ob) { s with heap := h', toks := t' } :=
  I.write (x := a) (e := a) mu (.inl rfl) (fun b q hb z => (hs.2 b hb).trans z) he new
theorem dk_new {P : Program} {w : World} {H' : Hp} {h' : Heap} {kvs : List (Key × V)} {vs : List (Key × Value)} (z : kvs.length ≤ sizeLine) (hd : (a == sysModules) = false) (rel : KV kvs vs) (dd : h'.DictOf (mixKind P w) a vs) :
    ObjOk P w H' h' a (.dK kvs) := ⟨z, hd, vs, rel, dd⟩
theorem d_setItem {H' : Hp} {Q : Unit → Shared → Prop} (hu : A.units + 1 < cLine) (I : Inv X pins σ H s) (g : DPut H a y v H') (ry : RelV y u) (rv : RelV v r) (h : ∀ s', Inv X pins σ H' s' → Q () s') :
    wpAny (model X.prog X.w) A (setItem (.ref a) u r) Q E s := by
  rcases g with ⟨kvs, k, e, ey, l, eH⟩ | ⟨kvs, k, b, e, ey, eb, l, eH⟩
  · subst ey eH
    obtain ⟨z, hd, vs, rel, dd⟩ := dk_of I.hok e
    have hz : vs.length ≤ sizeLine := by rw [← rel.length]; exact z
    have hl : (putK kvs k v).length ≤ sizeLine := by have := length_putK kvs k v; omega
    refine wpAny_setItem_pairs (hsz := hz) (kV_is ry) dd fun h' dd' hs => h _ ?_
    have he : ∃ q, h'.get? a = some q := let ⟨q, _, _, hq, _⟩ := dd'; ⟨q, hq⟩
    exact d_write I (by rw [e]; exact True.intro) hs he (dk_new hl hd (rel.put k rv) dd')
  · subst ey eH
    cases (show u = Value.ref b from ry)
    obtain ⟨z, hd, xs, rel, dd⟩ := dt_of I.hok e
    have hz : xs.length ≤ sizeLine := by rw [← Paired.length rel]; exact z
    have hl : (putK kvs k v).length ≤ sizeLine := by have := length_putK kvs k v; omega
    refine wpAny_setItem_heap (hsz := hz) (tupleKind_room_in1 hu) (key_of I.hok eb) dd fun h' dd' hs => h _ ?_
    obtain ⟨q, es, ep, hq, h2, h3, h4, _, h5⟩ := dd'
    refine d_write I (by rw [e]; exact True.intro) hs ⟨q, hq⟩ ⟨hl, hd, _, (rel.put k eb rv).keeps fun c ys ec => ?_, q, es, ep, hq, h2, h3, h4, h5⟩
    rw [upd_ne (ne_of ec e (fun z => nomatch z))]
    exact ec
end
section
variable {X : Cx} {pins : List (Addr × Obj)} {σ : St} {H : Hp} {s : Shared} {a : Addr} {kvs : List (Key × V)} {k : Key} {u : Value} {A : Around} {E : Value → Shared → Prop}
end
noncomputable def NoSl (i : Expr) : Prop := ∀ ov iv, subscripted i false ov iv = operate [ov, iv] (getItem ov iv)
theorem subD_of {prog : Program} {w : World} {A : Around} {E : Value → Shared → Prop} {s : Shared} {env : Env} {value slice : Expr} {pos : Pos} {T id : String} {Q : Value → Shared → Prop}
    (hl : typeLookup (.type T) "__getitem__" = pure (some (.builtin id))) (hs : NoSl slice)
    (h : wpAny (model prog w) A (eval value env) (fun o s₁ => wpAny (model prog w) A (eval slice env) (fun i s₂ => s₂.TypeIs o T ∧ wpAny (model prog w) A (getItem o i) Q E s₂) E s₁) E s) :
    wpAny (model prog w) A (eval (.Subscript value slice pos) env) Q E s := by
  refine Subscript_ (wpAny_mono h (fun o s₁ h₁ => wpAny_mono h₁ (fun i s₂ h₂ => ?_) fun _ _ x => x) fun _ _ x => x)
  obtain ⟨hT, h₂⟩ := h₂
  unfold subscriptTail
  refine wpAny_bind ?_
  rw [getitemInPython_of_ne hT.not_modules]
  refine wpAny_bind (wpAny_specialOf hT hl ?_)
  have fin : wpAny (model prog w) A (subscripted slice false o i) (fun r s₃ => wpAny (model prog w) A (letTemporaryGo value o r >>= fun _ => pure r) Q E s₃) E s₂ := by
    rw [hs o i]
    exact wpAny_operating (wpAny_mono h₂ (fun r s₃ h₃ => wpAny_bind (wpAny_letTemporaryGo (wpAny_pure h₃))) fun _ _ x => x)
  first
    | exact wpAny_pure (wpAny_bind fin)
    | exact wpAny_bind (wpAny_pure (wpAny_bind fin))
    | exact wpAny_bind fin
theorem dict_typeIs {X : Cx} {pins : List (Addr × Obj)} {σ : St} {H : Hp} {s : Shared} {a : Addr} {y : V} {o : Option V} (I : Inv X pins σ H s) (g : DGet H a y o) : s.TypeIs (.ref a) "dict" := by
  rcases g with ⟨kvs, k, e, _, _⟩ | ⟨kvs, k, b, e, _, _, _⟩
  · obtain ⟨_, _, vs, _, dd⟩ := dk_rd I.hok e
    exact dd.typeIs
  · obtain ⟨_, _, xs, _, dd⟩ := dt_rd I.hok e
    exact dd.typeIs
noncomputable def tDGet (td ty : TE) : TE := fun σ H Q => td σ H fun x H1 => ty σ H1 fun y H2 => ∃ a v, x = .ref a ∧ DGet H2 a y (some v) ∧ Q v H2
noncomputable def tDIn (ty td : TE) : TE := fun σ H Q => ty σ H fun y H1 => td σ H1 fun x H2 => ∃ a o, x = .ref a ∧ DGet H2 a y o ∧ Q (.bl o.isSome) H2
noncomputable def tDNotIn (ty td : TE) : TE := fun σ H Q => ty σ H fun y H1 => td σ H1 fun x H2 => ∃ a o, x = .ref a ∧ DGet H2 a y o ∧ Q (.bl (!o.isSome)) H2
noncomputable def sDPut (td ty tv : TE) : TS := fun D σ H => tv σ H fun v H1 => td σ H1 fun x H2 => ty σ H2 fun y H3 => ∃ a H4, x = .ref a ∧ DPut H3 a y v H4 ∧ D.nx σ H4
section
variable {X : Cx} {o i e value : Expr} {pos pos' tpos : Pos} {td ty tv : TE}
theorem pe_dget (hu : X.A.units + 1 < cLine) (ho : PE X o td) (hi : PE X i ty) (hs : NoSl i) : PE X (.Subscript o i pos) (tDGet td ty) := by
  intro pins s σ H Q I h
  refine subD_of PySem.F.slot_dict_getitem.lookup hs (thn (ho pins s σ H _ I h) fun u s1 ⟨x, H1, I1, rx, q1⟩ => thn (hi pins s1 σ H1 _ I1 q1) fun iv s2 ⟨y, H2, I2, ry, a, v, ex, g, q2⟩ => ?_)
  subst ex
  obtain rfl : u = Value.ref a := rx
  exact ⟨dict_typeIs I2 g, d_getItem hu I2 g ry fun w' s3 I3 rw' => ⟨v, H2, I3, rw', q2⟩⟩
theorem pc_din (hu : X.A.units + 1 < cLine) (hi : PE X i ty) (ho : PE X o td) : PC X .In i o (tDIn ty td) := by
  intro pins s σ H Q I h
  refine thn (hi pins s σ H _ I h) fun iv s1 ⟨y, H1, I1, ry, q1⟩ => thn (ho pins s1 σ H1 _ I1 q1) fun u s2 ⟨x, H2, I2, rx, a, ov, ex, g, q2⟩ => ?_
  subst ex
  obtain rfl : u = Value.ref a := rx
  exact d_in hu I2 g ry fun s3 I3 => ⟨.bl ov.isSome, H2, I3, rfl, q2⟩
theorem pc_dnotin (hu : X.A.units + 1 < cLine) (hi : PE X i ty) (ho : PE X o td) : PC X .NotIn i o (tDNotIn ty td) := by
  intro pins s σ H Q I h
  refine thn (hi pins s σ H _ I h) fun iv s1 ⟨y, H1, I1, ry, q1⟩ => thn (ho pins s1 σ H1 _ I1 q1) fun u s2 ⟨x, H2, I2, rx, a, ov, ex, g, q2⟩ => ?_
  subst ex
  obtain rfl : u = Value.ref a := rx
  exact d_notIn hu I2 g ry fun s3 I3 => ⟨.bl (!ov.isSome), H2, I3, rfl, q2⟩
theorem ps_dput (hu : X.A.units + 1 < cLine) (ho : PE X o td) (hi : PE X i ty) (hv : PE X value tv) (hs : swapsWith value (some (.Subscript o i pos')) pos.line X.env = pure false) :
    PS X (.Assign [.Subscript o i pos'] value pos) (sDPut td ty tv) := by
  intro pins s σ H D I h
  refine wpAny_Assign_Subscript (thn (hv pins s σ H _ I h) fun r s1 ⟨v, H1, I1, rv, q1⟩ => thn (ho pins s1 σ H1 _ I1 q1) fun u s2 ⟨x, H2, I2, rx, q2⟩ => thn (hi pins s2 σ H2 _ I2 q2) fun iv s3 ⟨y, H3, I3, ry, a, H4, ex, g, q3⟩ => ?_) hs
  subst ex
  obtain rfl : u = Value.ref a := rx
  exact d_setItem hu I3 g ry rv fun s4 I4 => ⟨σ, H4, I4, q3⟩
end
theorem dk_empty {P : Program} {w : World} {H : Hp} (h : Heap) (hb : sysModules < h.objs.size) : ObjOk P w H (h.push { cls := .type "dict", data := .dict #[] }) h.objs.size (.dK []) :=
  ⟨Nat.zero_le _, beq_eq_false_iff_ne.mpr (Ne.symm (Nat.ne_of_lt hb)), [], .nil, Heap.DictOf.new h⟩
section
variable {X : Cx} {pos : Pos}
end
noncomputable def tPairs : List (TE × TE) → St → Hp → (List (V × V) → Hp → Prop) → Prop
  | [], _, H, Q => Q [] H
  | (tk, tv) :: r, σ, H, Q => tk σ H fun x H1 => tv σ H1 fun y H2 => tPairs r σ H2 fun ps H3 => Q ((x, y) :: ps) H3
noncomputable abbrev VV : List (V × V) → List (Value × Value) → Prop := Paired fun p q => RelV p.1 q.1 ∧ RelV p.2 q.2
noncomputable def PPs (X : Cx) (pos : Pos) (keys : List (Option Expr)) (values : List Expr) (trs : List (TE × TE)) : Prop :=
  ∀ (pins : List (Addr × Obj)) (s : Shared) (σ : St) (H : Hp) (Q : List (V × V) → Hp → Prop), Inv X pins σ H s → tPairs trs σ H Q →
    wpAny (model X.prog X.w) X.A (evalPairs (pairTrees keys values X.env pos)) (fun vs s' => ∃ ps H', Inv X pins σ H' s' ∧ VV ps vs ∧ Q ps H') X.xe s
theorem pps_nil {X : Cx} {pos : Pos} : PPs X pos [] [] [] := fun pins s σ H Q I h => pairTrees_nil_walk ⟨[], H, I, .nil, h⟩
theorem pps_cons {X : Cx} {pos : Pos} {k v : Expr} {ks : List (Option Expr)} {vs : List Expr} {tk tv : TE} {trs : List (TE × TE)} (hk : PE X k tk) (hv : PE X v tv) (hr : PPs X pos ks vs trs) :
    PPs X pos (some k :: ks) (v :: vs) ((tk, tv) :: trs) := fun pins s σ H Q I h =>
  pairTrees_cons_walk (thn (hk pins s σ H _ I h) fun u s1 ⟨x, H1, I1, rx, q1⟩ => thn (hv pins s1 σ H1 _ I1 q1) fun w2 s2 ⟨y, H2, I2, ry, q2⟩ =>
    thn (hr pins s2 σ H2 _ I2 q2) fun ws s3 ⟨ps, H3, I3, rel, q3⟩ => ⟨(x, y) :: ps, H3, I3, .cons ⟨rx, ry⟩ rel, q3⟩)
noncomputable def mergeK (kvs more : List (Key × V)) : List (Key × V) := more.foldl (fun acc kv => putK acc kv.1 kv.2) kvs
theorem KV.merge : ∀ {more : List (Key × V)} {rs : List (Key × Value)} {kvs : List (Key × V)} {vs : List (Key × Value)}, KV more rs → KV kvs vs → KV (mergeK kvs more) (merged vs rs) := by
  intro more rs kvs vs r
  unfold KV at r
  induction r generalizing kvs vs with
  | nil => intro q; exact q
  | @cons p q ps qs h t ih =>
    intro r0
    have e : KV (putK kvs p.1 p.2) (stored vs q.1 q.2) := by
      have := r0.put p.1 h.2
      rw [← h.1]; exact this
    exact ih e
theorem length_mergeK : ∀ (more kvs : List (Key × V)), (mergeK kvs more).length ≤ kvs.length + more.length
  | [], kvs => by show kvs.length ≤ kvs.length + 0; omega
  | p :: r, kvs => by
    have h1 := length_mergeK r (putK kvs p.1 p.2)
    have h2 := length_putK kvs p.1 p.2
    show (mergeK (putK kvs p.1 p.2) r).length ≤ _
    rw [List.length_cons]; omega
theorem carries_of {P : Program} {w : World} : ∀ {kvs : List (Key × V)} {ws : List (Value × Value)}, VV (kvs.map fun kv => (kV kv.1, kv.2)) ws → ∃ rs, Carries (mixKind P w) ws rs ∧ KV kvs rs
  | [], _, r => by rw [List.map_nil] at r; cases r; exact ⟨[], True.intro, .nil⟩
  | p :: kvs, _, r => by
    rw [List.map_cons] at r
    cases r with
    | @cons a b as bs h t =>
      obtain ⟨rs, c, q⟩ := carries_of (P := P) (w := w) t
      obtain ⟨b1, b2⟩ := b
      exact ⟨(p.1, b2) :: rs, ⟨kV_is h.1, rfl, c⟩, .cons ⟨rfl, h.2⟩ q⟩
noncomputable def tDisp (trs : List (TE × TE)) : TE := fun σ H Q => ∀ p, H p = none → tPairs trs σ (upd H p (.dK [])) fun ps H2 => H2 p = some (.dK []) ∧ ∃ kvs : List (Key × V), ps = kvs.map (fun kv => (kV kv.1, kv.2)) ∧ kvs.length ≤ 15 ∧ Q (.ref p) (upd H2 p (.dK (mergeK [] kvs)))
theorem pe_disp {X : Cx} {pos : Pos} {keys : List (Option Expr)} {values : List Expr} {trs : List (TE × TE)} (h : PPs X pos keys values trs) (hall : keys.all (·.isSome) = true) (hl : keys.length = values.length) (h0 : keys ≠ [])
    (h15 : keys.length ≤ 15) : PE X (.Dict keys values pos) (tDisp trs) := by
  intro pins s σ H Q I q
  have hn := I.hok.fresh (Nat.le_refl s.heap.objs.size)
  have I1 := I.laid (a := s.heap.objs.size) (o := .dK []) (h' := s.heap.push { cls := .type "dict", data := .dict #[] }) (t' := s.toks) (fun _ _ q => Heap.get?_push_of_some _ q) (Nat.le_refl _) (dk_empty s.heap I.big)
  refine wpAny_Dict_walk (knd := mixKind X.prog X.w) hall hl h0 h15 (thn (h pins _ σ _ _ I1 (q _ hn)) fun ws s2 ⟨ps, H2, I2, rel, e, kvs, ep, lk, q2⟩ => ?_)
  subst ep
  obtain ⟨rs, c, rk⟩ := carries_of (P := X.prog) (w := X.w) rel
  obtain ⟨z, hd, vs0, r0, dd⟩ := dk_of I2.hok e
  cases r0
  refine ⟨rs, c, dd, fun h' dd' hs => ⟨.ref s.heap.objs.size, _, ?_, rfl, q2⟩⟩
  have hz : (mergeK [] kvs).length ≤ sizeLine := by
    have h1 := length_mergeK kvs []
    rw [List.length_nil] at h1
    rw [sizeLine_eq]; omega
  have he : ∃ q, h'.get? s.heap.objs.size = some q := let ⟨q, _, _, hq, _⟩ := dd'; ⟨q, hq⟩
  exact d_write I2 (by rw [e]; exact True.intro) hs he (dk_new hz hd (rk.merge .nil) dd')
noncomputable def IsD (H : Hp) (a : Addr) : Prop := (∃ kvs, Rd H a (.dK kvs)) ∨ ∃ kvs, Rd H a (.dT kvs)
section
variable {X : Cx} {pins : List (Addr × Obj)} {σ : St} {H : Hp} {s : Shared} {a : Addr} {y d : V} {u r : Value} {o : Option V} {A : Around} {E : Value → Shared → Prop}
end
noncomputable def tDGet2 (td ty tx : TE) : TE := fun σ H Q => td σ H fun x H1 => ∃ a, x = .ref a ∧ IsD H1 a ∧ ty σ H1 fun y H2 => tx σ H2 fun z H3 => ∃ o, DGet H3 a y o ∧ Q (o.getD z) H3
section
variable {X : Cx} {o e f : Expr} {apos cpos : Pos} {td ty tx : TE}
end
section
variable {X : Cx} {pins : List (Addr × Obj)} {σ : St} {H : Hp} {s : Shared} {a : Addr} {kvs : List (Key × V)} {A : Around} {E : Value → Shared → Prop}
end
section
variable {X : Cx} {pins : List (Addr × Obj)} {σ : St} {H : Hp} {s : Shared} {a : Addr} {y : V} {u : Value} {A : Around} {E : Value → Shared → Prop}
end
end L2
namespace Att
open PySem PySem.W PySem.Calls PyProof.Rows
theorem ints_of_wellAll {P : Params} {h : Heap} : ∀ (ns : List Int) (vs : List Value), WellAll P h vs (ns.map WData.int) → IntsAre vs ns := by
  intro ns
  induction ns with
  | nil =>
    intro vs w
    rw [List.map_nil] at w
    cases w
    exact .nil
  | cons n ns ih =>
    intro vs w
    rw [List.map_cons] at w
    cases w with
    | cons a b =>
      cases a
      exact .cons _ _ (ih _ b)
theorem script_of {l : OpenLaw} {n : Nat} (hn : l.most = some n) {P : Params} {h : Heap} {args : List WData} {vals : List Value}
    (hpre : l.row.toRowW.claim.pre args = true) (hwl : WellAll P h vals args) :
    ∃ a vs ns, vals = [Value.ref a] ∧ args = [WData.list (ns.map WData.int)] ∧ h.get? a = some { cls := .type "list", data := .seq vs.toArray } ∧ IntsAre vs ns ∧ ns.length ≤ n := by
  have hsh : WShape.hasAll [] args [.list .int] = true := (pre_splitW hpre).1
  have hc : l.pre.holds [] { args := args } = true := (pre_splitW hpre).2
  obtain ⟨d, r, rfl, h1, h2⟩ := hasAllW_cons hsh
  obtain rfl := hasAllW_nil h2
  obtain ⟨xs, rfl, h3⟩ := hasW_list h1
  obtain ⟨ns, rfl⟩ := items_int h3
  have hlen : ns.length ≤ n := by
    unfold OpenLaw.pre at hc
    have h4 : (WTm.not (.lt (.lit (.int (n : Int))) (.len (.arg 0)))).holds [] { args := [.list (ns.map .int)] } = true := by
      have h4 := (holds_andW hc).1
      rw [hn] at h4
      exact h4
    have h5 := condW_of h4 (w_not (w_lt w_lit (w_len_list (w_arg rfl))))
    rw [List.length_map] at h5
    refine Nat.le_of_not_lt fun q => ?_
    have q' : (n : Int) < ((ns.length : Nat) : Int) := by omega
    first
      | (rw [decide_eq_true q'] at h5; exact absurd h5 (by decide))
      | (simp at h5; omega)
  cases hwl with
  | cons w1 w2 =>
    cases w2
    cases w1 with
    | list ho hall => exact ⟨_, _, ns, rfl, rfl, ho, ints_of_wellAll ns _ hall, hlen⟩
theorem post_true (l : OpenLaw) (args : List WData) : l.row.toRowW.claim.post args (.bool true) args = true :=
  postW_of (r := l.row.toRowW) (X := (true == true))
    (show WShape.has [] (.bool true) .bool = true by first | rfl | decide | simp [WShape.has, WShape.arms, WShape.armsAll])
    (show (WTm.eq .res (.lit (.bool true))).value [] { args := args, res := some (.bool true), after := args } = some (.bool (true == true)) from w_eq_bool (w_res rfl) w_lit) rfl
theorem attach_call {l : OpenLaw} {n : Nat} {q : Program} {loose : List Str} {XP : (Str → Option Value) → Heap → Prop} {YP : World → Heap → Prop} {d : DefRec}
    (hn : l.most = some n) (hdf : d.params.defaults = [])
    (call : ∀ (w : World) (s₀ s₁ : Shared) (mg mb : Str → Option Value) (fa : Addr) (o : Obj) (pm cd doc : Value) (a : Addr) (vs : List Value) (ns : List Int),
      Ground q loose [] XP w s₀ mg mb s₁.heap → YP w s₁.heap →
      s₁.heap.get? fa = some o → o.data = .func (docDef d.name d.params d.body d.scope pm cd doc) → s₁.heap.CodeRec cd d.name → mg d.name = some (.ref fa) →
      s₁.heap.get? a = some { cls := .type "list", data := .seq vs.toArray } → IntsAre vs ns → ns.length ≤ n → s₁.gens = #[] →
      codeAny (model l.prog w) callerA (.call (.ref fa) ⟨[.ref a], []⟩) (fun r s' => r = .ok (.ret (.bool true)) ∧ OldK s₁.heap s'.heap ∧ s'.os = s₁.os ∧ AllBare s'.gens) s₁) :
    WalkO q loose XP YP l.row.toRowW d [] (fun f vs => PySem.call f vs) := by
  intro w s₀ s₁ mg mb G Y fa o pm cd doc dV kV ho hd hcd hD hmg hg args vals as hpre hlay hrd hwl hlo
  obtain rfl : dV = .none := Dflts.none hD hdf
  obtain rfl : kV = .none := Dflts.noKw hD
  obtain ⟨a, vs, ns, rfl, rfl, hobj, hints, hlen⟩ := script_of hn hpre hwl
  refine enter_call (codeAny_mono (call w s₀ s₁ mg mb fa o pm cd doc a vs ns G Y ho (fd_plain hd) hcd hmg hobj hints hlen hg) fun r s' hq => ?_)
  obtain ⟨rfl, h2, h3, h4⟩ := hq
  exact ⟨.inl ⟨.bool true, .bool true, [], rfl, fun _ => rfl, .bool true, post_true l _, fun _ => ⟨List.Pairwise.nil, fun _ hm => (nomatch hm)⟩⟩, h2, h3, h4⟩
section
variable {prog : Program} {w : World} {A : Around} {E : Value → Shared → Prop} {s : Shared} {K : Frag}
end
end Att
namespace L2
open PySem PySem.Spec PyProof.Rows
theorem vals_ints : ∀ {vs : List Value} {ns : List Int}, IntsAre vs ns → Vals (ns.map V.int) vs
  | _, _, .nil => .nil
  | _, _, .cons n t h => .cons ⟨t, rfl⟩ (vals_ints h)
noncomputable def Only (H : Hp) : Prop := ∀ b, H b = none ∨ ∃ o xs, H b = some (.frz o (.lst xs))
theorem law_call {P : Program} {w : World} {K : PySem.W.Frag} {mg mb : Str → Option Value} {CX : CXT} {k : Nat} {fa a : Addr} {fd : FuncData} {x : Str} {sp : Sp} {s₁ : Shared} {vs : List Value} {ns : List Int}
    (KX : K.In s₁.heap) (hns : s₁.heap.Ns mainGlobals mg) (hb : s₁.heap.Ns builtinsNs mb) (hbb : ∀ x : Str, x ≠ "__name__" → mb x = bootBuiltins x) (hlim : s₁.heap.NoLimit) (hg : s₁.gens = #[])
    (ha : s₁.heap.get? a = some { cls := .type "list", data := .seq vs.toArray }) (hi : IntsAre vs ns) (hl : ns.length ≤ sizeLine) (hr : Room k callerA)
    (F : ∀ base : Heap, K.In base → base.Ns mainGlobals mg → FnOk P w K mg base CX k fa fd [x] sp) (hbind : ∀ (s : Shared) (u : Value), BindsTo s fd ⟨[u], []⟩ [(x, u)])
    (hsp : ∀ H : Hp, Only H → SqL K H a (ns.map V.int) → sp [.ref a] H (fun v _ => v = .bl true) fun _ _ _ => False)
    (hCX : ∀ H e s', CX [] H s₁ (fun _ _ _ => False) e s' → False) :
    codeAny (model P w) callerA (.call (.ref fa) ⟨[.ref a], []⟩) (fun r s' => r = .ok (.ret (.bool true)) ∧ OldK s₁.heap s'.heap ∧ s'.os = s₁.os ∧ AllBare s'.gens) s₁ := by
  have rv := vals_ints hi
  have lenV := hi.length
  have core : ∀ H : Hp, Only H → SqL K H a (ns.map V.int) → HOk P w H s₁.heap → (∀ b, H b ≠ none → b = a) → (H a ≠ none → K.lookup a = none) →
      codeAny (model P w) callerA (.call (.ref fa) ⟨[.ref a], []⟩) (fun r s' => r = .ok (.ret (.bool true)) ∧ OldK s₁.heap s'.heap ∧ s'.os = s₁.os ∧ AllBare s'.gens) s₁ := by
    intro H hO hS hok hA hK
    have base_of : ∀ {b : Addr} {o : Obj}, s₁.heap.get? b = some o → H b = none → (hidT s₁.heap H).get? b = some o := fun e n => hidT_get e n
    have noA : ∀ {b : Addr} {o : Obj} {es : Array DictEntry} {ep : Nat}, s₁.heap.get? b = some o → o.data = .dict es ep → H b = none := fun {b o es ep} e d => by
      cases q : H b with
      | none => rfl
      | some u =>
        have e' : b = a := hA b (by rw [q]; simp)
        subst e'
        rw [ha] at e; cases e
        have d' : Data.seq vs.toArray _ = Data.dict es ep := d
        cases d'
    have nsK : ∀ {b : Addr} {m : Str → Option Value}, s₁.heap.Ns b m → (hidT s₁.heap H).Ns b m := fun {b m} ⟨o, es, ep, e, d, r⟩ => ⟨o, es, ep, base_of e (noA e d), d, r⟩
    have hKb : K.In (hidT s₁.heap H) := fun b o e => base_of (KX b o e) (by
      cases q : H b with
      | none => rfl
      | some u =>
        have e' : b = a := hA b (by rw [q]; simp)
        subst e'
        rw [hK (by rw [q]; simp)] at e; cases e)
    have hM : Mod K mg (hidT s₁.heap H) := ⟨hKb, nsK hns, ⟨mb, nsK hb, hbb⟩, let ⟨mc, h1, h2⟩ := hlim; ⟨mc, nsK h1, h2⟩⟩
    have e0 : Env0 P w K mg (hidT s₁.heap H) callerA [] s₁ H := ⟨rfl, hM, fun b o e => of_hidT e, Nat.le_of_eq (hidT_size _ _), trivial, fun b hb => absurd (show b ∈ ([] : List Addr) from hb) (by simp), hok, .of_eq hg⟩
    refine codeAny_mono ((F _ hKb (nsK hns)).run callerA [] s₁ H ⟨[.ref a], []⟩ [.ref a] [.ref a] _ _ hr e0 (hbind s₁ (.ref a)) (.cons rfl .nil) (hsp H hO hS)) fun r s' h => ?_
    cases r with
    | error e => exact (hCX H e s' h).elim
    | ok fl =>
      cases fl with
      | next => exact False.elim h
      | brk => exact False.elim h
      | cont => exact False.elim h
      | ret u =>
        obtain ⟨v, H', os, bare, un, hok', r', q⟩ := h
        have q' : v = .bl true := q
        subst q'
        obtain rfl : u = Value.bool true := r'
        refine ⟨rfl, OldK.of_keep fun b o e => ?_, os, bare⟩
        cases q : H b with
        | none => exact un.keep b o e q (by intro z; exact absurd (show b ∈ ([] : List Addr) from z) (by simp)) (by simp)
        | some u =>
          rcases hO b with z | ⟨ob, xs, z⟩
          · rw [q] at z; cases z
          · have z2 := un.frzs b ob _ z
            obtain ⟨e1, _⟩ := hok b _ z
            obtain ⟨e2, _⟩ := hok' b _ z2
            rw [e] at e1; cases e1
            exact e2
  cases hk : K.lookup a with
  | some o =>
    have e := KX a o hk
    rw [ha] at e
    cases e
    refine core (fun _ => none) (fun _ => .inl rfl) (.inr ⟨_, vs.toArray, _, hk, rfl, rfl, rfl, by rw [List.size_toArray, lenV]; exact hl, by simpa using rv⟩) (fun b u z => by have z' : (none : Option HO) = some u := z; cases z') (fun b z => absurd rfl z) fun z => absurd rfl z
  | none =>
    refine core (fun b => if b = a then some (.frz { cls := .type "list", data := .seq vs.toArray } (.lst (ns.map V.int))) else none) (fun b => ?_) (.inl (.inr ⟨{ cls := .type "list", data := .seq vs.toArray }, if_pos rfl⟩)) (fun b u z => ?_) (fun b z => ?_) fun _ => hk
    · by_cases hb : b = a
      · exact .inr ⟨_, _, if_pos hb⟩
      · exact .inl (if_neg hb)
    · by_cases hb : b = a
      · have z' := (if_pos hb).symm.trans z
        cases z'
        subst hb
        exact ⟨ha, by rw [List.length_map]; exact hl, vs, _, rv, ha⟩
      · have z' := (if_neg hb).symm.trans z
        cases z'
    · by_cases hb : b = a
      · exact hb
      · exact absurd (if_neg hb) z
end L2
namespace L2
open PySem PySem.Spec PyProof.Rows
theorem walk_of {l : PySem.W.OpenLaw} {n k : Nat} {q : Program} {loose : List Str} {XP : (Str → Option Value) → Heap → Prop} {YP : World → Heap → Prop} {d : DefRec} {K : Params → PySem.W.Frag} {CX : World → CXT} {sp : World → Sp} {x : Str}
    (hn : l.most = some n) (hn2 : n ≤ sizeLine) (hdf : d.params.defaults = []) (hr : Room k callerA)
    (hY : ∀ (w : World) (h : Heap), YP w h → (K w.params).In h)
    (F : ∀ (w : World) (mg : Str → Option Value) (fa : Addr) (h : Heap), (K w.params).In h → h.Ns mainGlobals mg → mg d.name = some (.ref fa) →
      ∃ fd : FuncData, (∀ (s : Shared) (u : Value), BindsTo s fd ⟨[u], []⟩ [(x, u)]) ∧
        ∀ base : Heap, (K w.params).In base → base.Ns mainGlobals mg → FnOk l.prog w (K w.params) mg base (CX w) k fa fd [x] (sp w))
    (hsp : ∀ (w : World) (H : Hp) (a : Addr) (ns : List Int), ns.length ≤ n → Only H → SqL (K w.params) H a (ns.map V.int) → sp w [.ref a] H (fun v _ => v = .bl true) fun _ _ _ => False)
    (hCX : ∀ (w : World) (H : Hp) (s : Shared) (e : Value) (s' : Shared), CX w [] H s (fun _ _ _ => False) e s' → False) :
    PySem.W.WalkO q loose XP YP l.row.toRowW d [] (fun f vs => PySem.call f vs) := by
  refine Att.attach_call hn hdf fun w s₀ s₁ mg mb fa o pm cd doc a vs ns G Y ho hd hcd hmg hobj hints hlen hg => ?_
  have KX := hY w _ Y
  obtain ⟨fd, hb, hF⟩ := F w mg fa _ KX G.T.g hmg
  exact law_call KX G.T.g G.T.b G.T.builtins G.T.nolimit hg hobj hints (Nat.le_trans hlen hn2) hr hF hb (fun H hO hS => hsp w H a ns hlen hO hS) fun H e s' => hCX w H s₁ e s'
end L2
namespace L2
open PySem PySem.Spec PyProof.Rows
noncomputable def defArgs (s : Stmt) : Arguments := match s with
  | .FunctionDef _ a _ _ _ _ _ _ _ _ => a
  | _ => { posonlyargs := [], args := [], vararg := none, kwonlyargs := [], kw_defaults := [], kwarg := none, defaults := [] }
noncomputable def defBody (s : Stmt) : List Stmt := match s with
  | .FunctionDef _ _ b _ _ _ _ _ _ _ => b
  | _ => []
noncomputable def defScope (s : Stmt) : Scope := match s with
  | .FunctionDef _ _ _ _ _ _ sc _ _ _ => sc
  | _ => { kind := .function, names := [], isGenerator := false, isCoroutine := false }
noncomputable abbrev CX0 : CXT := fun _ _ _ _ _ _ => False
noncomputable abbrev E0 : XK := fun _ _ _ => False
theorem pass0 {X : Cx} : Passes CX0 X E0 := fun _ _ _ _ _ _ _ h => h.elim
structure Fun (K : PySem.W.Frag) (x qual : Str) (st : Stmt) (f : Addr) (fd : FuncData) : Prop where
  ex : ∃ (oc : Value) (od : Option Addr) (kV doc pm : Value) (an : Option Addr) (cdv ct : Value) (osl : Array (Option Value)),
    fd = PySem.W.fnOf x qual (defArgs st) (defBody st) (defScope st) .none kV doc pm an cdv ct ∧ K.lookup f = some ⟨oc, od, .func fd, osl⟩ ∧ PySem.W.codeIn K cdv qual = true
  kp : PySem.W.keepIn K (.ref f) = true
section
variable {P : Program} {w : World} {K : PySem.W.Frag} {mg : Str → Option Value} {base : Heap}
theorem Fun.ok {x qual : Str} {st : Stmt} {f : Addr} {fd : FuncData} {N ps : List Str} {k : Nat} {sp : Sp} (F : Fun K x qual st f fd) (S : FnScope N ps (defScope st)) (len : ∀ vs H Q E, sp vs H Q E → vs.length = ps.length)
    (hbody : ∀ (cdv : Value) (A : Around) (outer : List Env) (s : Shared) (H : Hp) (vs : List V) (Q : VK) (E : XK), Room k (A.deeper (envOfC qual (defScope st) s.heap.objs.size f cdv)) → sp vs H Q E →
      ∃ t, PSs (cxOf CX0 P w K mg base N qual (defScope st) f cdv A outer s H E).nox (defBody st) t ∧ t { nx := fun _ H' => Q .non H', rt := Q } (start N vs) H) : FnOk P w K mg base CX0 (k + 1) f fd ps sp := by
  obtain ⟨oc, od, kV, doc, pm, an, cdv, ct, osl, rfl, lk, hcd⟩ := F.ex
  refine fn_of lk hcd S len fun A outer s H vs Q E hr hsp => ?_
  obtain ⟨t, h, q⟩ := hbody cdv A outer s H vs Q E hr hsp
  exact ⟨t, h.nox, q⟩
theorem Fun.binds {x qual : Str} {st : Stmt} {f : Addr} {fd : FuncData} {ps : List Str} (F : Fun K x qual st f fd)
    (h : ∀ (kV doc pm : Value) (an : Option Addr) (cdv ct : Value) (us : List Value), us.length = ps.length → bindArgs (PySem.W.fnOf x qual (defArgs st) (defBody st) (defScope st) .none kV doc pm an cdv ct) ⟨us, []⟩ = pure (ps.zip us)) : Binds K fd ps [] := by
  obtain ⟨oc, od, kV, doc, pm, an, cdv, ct, osl, rfl, lk, hcd⟩ := F.ex
  exact .all (h kV doc pm an cdv ct)
theorem fun_mk {x qual : Str} {st : Stmt} {f : Addr} {oc : Value} {od an : Option Addr} {osl : Array (Option Value)} {kV doc pm cdv ct : Value} (l : K.lookup f = some ⟨oc, od, .func (PySem.W.fnOf x qual (defArgs st) (defBody st) (defScope st) .none kV doc pm an cdv ct), osl⟩)
    (c : PySem.W.codeIn K cdv qual = true) (k : PySem.W.keepIn K (.ref f) = true) : Fun K x qual st f (PySem.W.fnOf x qual (defArgs st) (defBody st) (defScope st) .none kV doc pm an cdv ct) := ⟨⟨oc, od, kV, doc, pm, an, cdv, ct, osl, rfl, l, c⟩, k⟩
end
theorem hu_of {A : Around} {k : Nat} (hr : Room k A) : A.units + 1 < cLine := Nat.lt_of_le_of_lt (Nat.add_le_add_left (by decide : 1 ≤ 64) _) hr.units
theorem small1000 {n : Nat} (h : n ≤ 1000) : n < sizeLine := Nat.lt_of_le_of_lt h (by decide)
section
variable {X : Cx}
theorem pv (i : Nat) {x : Str} {pos : Pos} (hN : X.N[i]? = some x := by rfl) (hv : Vis X.env.scope x := by first | exact Or.inl rfl | exact Or.inr (Or.inl rfl) | exact Or.inr (Or.inr rfl)) (hd : (x == ("__debug__" : Str)) = false := by decide)
    (hcd : (x == ("__classdict__" : Str)) = false := by decide) : PE X (.Name x pos) (tVar i) := pe_var hN hv hd hcd
end
theorem iteF {A B : Prop} (h : B) : if false = true then A else B := by
  rw [if_neg Bool.false_ne_true]
  exact h
theorem iteT {A B : Prop} (h : A) : if true = true then A else B := by
  rw [if_pos rfl]
  exact h
theorem ite2 {c A B : Prop} [Decidable c] (h1 : c → A) (h2 : ¬ c → B) : if c then A else B := by
  by_cases h : c
  · rw [if_pos h]
    exact h1 h
  · rw [if_neg h]
    exact h2 h
theorem iteNS {c A B : Prop} [Decidable c] (hc : c) (h : B) : if (!decide c) = true then A else B := by
  rw [decide_eq_true hc]
  exact iteF h
noncomputable def Same (H H' : Hp) : Prop := ∀ b o, H b = some o → H' b = some o
theorem Same.refl (H : Hp) : Same H H := fun _ _ h => h
theorem Same.trans {H H1 H2 : Hp} (a : Same H H1) (b : Same H1 H2) : Same H H2 := fun c o h => b c o (a c o h)
theorem Same.free {H H' : Hp} (e : Same H H') {l : Addr} (h : H' l = Option.none) : H l = Option.none := by
  cases q : H l with
  | none => rfl
  | some o =>
    rw [e l o q] at h
    cases h
theorem Same.seq {K : PySem.W.Frag} {H H' : Hp} {a : Addr} {xs : List V} (e : Same H H') (h : SqL K H a xs) : SqL K H' a xs := by
  rcases h with (h | ⟨o, h⟩) | h
  · exact .inl (.inl (e _ _ h))
  · exact .inl (.inr ⟨o, e _ _ h⟩)
  · exact .inr h
section
variable {κ : Type} [DecidableEq κ]
end
end L2
end
section
set_option Elab.async false
set_option linter.all false
namespace CN
open PySem
inductive Stm where
  | yes | no
  | sw (n : Int)
  | nt (a : Stm)
  | an (a b : Stm)
  | og (a b : Stm)
  | al (n : Int) (a : Stm)
  | sm (n : Int) (a : Stm)
  
noncomputable abbrev tS (x : String) : PyData := .str (Str.ofString x)
noncomputable def dat : Stm → PyData
  | .yes => .tuple [tS "yes"]
  | .no => .tuple [tS "no"]
  | .sw n => .tuple [tS "switch", .int n]
  | .nt a => .tuple [tS "not", dat a]
  | .an a b => .tuple [tS "and", dat a, dat b]
  | .og a b => .tuple [tS "or", dat a, dat b]
  | .al n a => .tuple [tS "all", .int n, dat a]
  | .sm n a => .tuple [tS "some", .int n, dat a]
noncomputable def Stm.size : Stm → Nat
  | .yes => 1 | .no => 1 | .sw _ => 1
  | .nt a => a.size + 1
  | .an a b => a.size + b.size + 1
  | .og a b => a.size + b.size + 1
  | .al _ a => a.size + 1
  | .sm _ a => a.size + 1
theorem Stm.size_pos (a : Stm) : 0 < a.size := by cases a <;> simp only [Stm.size] <;> omega
noncomputable def Stm.ok (b : Int) : Stm → Prop
  | .yes => True | .no => True
  | .sw n => 0 ≤ n ∧ n < b
  | .nt a => a.ok b
  | .an x y => x.ok b ∧ y.ok b
  | .og x y => x.ok b ∧ y.ok b
  | .al n a => (0 ≤ n ∧ n < b) ∧ a.ok b
  | .sm n a => (0 ≤ n ∧ n < b) ∧ a.ok b
noncomputable def numS (n : Int) : Str := Str.ofString (toString n)
noncomputable def line : Stm → Str
  | .yes => Str.ofString "Y"
  | .no => Str.ofString "N"
  | .sw n => numS n
  | .nt a => Str.ofString "!" ++ line a
  | .an a b => Str.ofString "(" ++ line a ++ Str.ofString "&" ++ line b ++ Str.ofString ")"
  | .og a b => Str.ofString "(" ++ line a ++ Str.ofString "|" ++ line b ++ Str.ofString ")"
  | .al n a => Str.ofString "A" ++ numS n ++ Str.ofString "." ++ line a
  | .sm n a => Str.ofString "S" ++ numS n ++ Str.ofString "." ++ line a
end CN
end
section
set_option Elab.async false
set_option linter.all false
set_option maxRecDepth 100000
namespace CN
open PySem
noncomputable def tx (x : Str) : List Nat := x.cps.toList
noncomputable def ch (c : Nat) : Str := ⟨#[c]⟩
noncomputable def mkS (l : List Nat) : Str := ⟨l.toArray⟩
theorem of_nt : Str.ofString "!" = ch 33 := by decide +kernel
inductive Frm where
  | nt
  | op (c : Bool) (b : Stm)
  | sd (c : Bool) (a : Stm)
  | al (n : Int)
  | sm (n : Int)
noncomputable def two (c : Bool) (a b : Stm) : Stm := if c = true then .an a b else .og a b
noncomputable def sg (c : Bool) : Nat := if c = true then 38 else 124
noncomputable def rest : List Frm → List Nat
  | [] => []
  | .nt :: g => rest g
  | .op c b :: g => sg c :: (tx (line b) ++ 41 :: rest g)
  | .sd _ _ :: g => 41 :: rest g
  | .al _ :: g => rest g
  | .sm _ :: g => rest g
end CN
end
section
set_option Elab.async false
set_option linter.all false
set_option maxRecDepth 100000
namespace L2
open PySem PySem.Spec PyProof.Rows
mutual
inductive DT (H : Hp) : V → PyData → Prop
  | non : DT H .non .none
  | bl (b : Bool) : DT H (.bl b) (.bool b)
  | int (i : Int) : DT H (.int i) (.int i)
  | str (x : Str) : DT H (.str x) (.str x)
  | tup {a : Addr} {xs : List V} {ds : List PyData} : H a = some (.tup xs) → DTs H xs ds → DT H (.ref a) (.tuple ds)
inductive DTs (H : Hp) : List V → List PyData → Prop
  | nil : DTs H [] []
  | cons {x : V} {d : PyData} {xs : List V} {ds : List PyData} : DT H x d → DTs H xs ds → DTs H (x :: xs) (d :: ds)
end
noncomputable def Tk (H H' : Hp) : Prop := ∀ b xs, H b = some (.tup xs) → H' b = some (.tup xs)
theorem Tk.trans {H H1 H2 : Hp} (a : Tk H H1) (b : Tk H1 H2) : Tk H H2 := fun c o h => b c o (a c o h)
theorem Same.tk {H H' : Hp} (s : Same H H') : Tk H H' := fun b xs h => s b _ h
theorem Same.new {H : Hp} {p : Addr} {o : HO} (h : H p = none) : Same H (upd H p o) := fun b u e => by
  rw [upd_ne (ne_of_none e h)]; exact e
theorem Same.mut {H H2 : Hp} {p : Addr} {o : HO} (s : Same H H2) (hp : H p = none) : Same H (upd H2 p o) := fun b u e => by
  rw [upd_ne (ne_of_none e hp)]; exact s b u e
theorem Tk.lst {H : Hp} {p : Addr} {o : HO} {xs : List V} (h : H p = some (.lst xs)) : Tk H (upd H p o) := fun b u e => by
  rw [upd_ne (ne_of e h (by intro z; cases z))]; exact e
mutual
theorem DT.tk {H H' : Hp} (k : Tk H H') : ∀ (d : PyData) (v : V), DT H v d → DT H' v d
  | .none, v, x => by cases x; exact .non
  | .bool b, v, x => by cases x; exact .bl _
  | .int i, v, x => by cases x; exact .int _
  | .str y, v, x => by cases x; exact .str _
  | .tuple ds, v, x => by
    cases x with
    | tup e xs => exact .tup (k _ _ e) (DTs.tk k ds _ xs)
  | .list _, v, x => nomatch x
  | .dict _, v, x => nomatch x
theorem DTs.tk {H H' : Hp} (k : Tk H H') : ∀ (ds : List PyData) (vs : List V), DTs H vs ds → DTs H' vs ds
  | [], vs, x => by cases x; exact .nil
  | d :: ds, vs, x => by
    cases x with
    | cons a b => exact .cons (DT.tk k d _ a) (DTs.tk k ds _ b)
end
theorem DT.to {H H' : Hp} {d : PyData} {v : V} (x : DT H v d) (k : Tk H H') : DT H' v d := DT.tk k d v x
theorem DTs.to {H H' : Hp} {ds : List PyData} {vs : List V} (x : DTs H vs ds) (k : Tk H H') : DTs H' vs ds := DTs.tk k ds vs x
section
variable {P : Program} {w : World} {H : Hp} {h : Heap}
mutual
theorem dt_reads (ok : HOk P w H h) : ∀ (d : PyData) (v : V) (u : Value), DT H v d → RelV v u → ∃ as, Reads h u d as
  | .none, v, u, x, r => by cases x; cases (show u = Value.none from r); exact ⟨_, .none⟩
  | .bool b, v, u, x, r => by cases x; cases (show u = Value.bool b from r); exact ⟨_, .bool _⟩
  | .int i, v, u, x, r => by cases x; obtain ⟨t, q⟩ := (show ∃ t, u = Value.int i t from r); cases q; exact ⟨_, .int _ _⟩
  | .str y, v, u, x, r => by cases x; obtain ⟨t, q⟩ := (show ∃ t, u = Value.str y t from r); cases q; exact ⟨_, .str _ _⟩
  | .tuple ds, v, u, x, r => by
    cases x with
    | @tup a xs _ e xs' =>
      cases (show u = Value.ref a from r)
      obtain ⟨_, its, rv, o, h1, h2, n, h3⟩ := (show ObjOk P w H h a (.tup xs) from ok a _ e)
      obtain ⟨as, q⟩ := dts_reads ok ds xs its xs' rv
      exact ⟨as, .tuple h1 h2 h3 q⟩
  | .list _, v, _, x, _ => nomatch x
  | .dict _, v, _, x, _ => nomatch x
theorem dts_reads (ok : HOk P w H h) : ∀ (ds : List PyData) (vs : List V) (us : List Value), DTs H vs ds → Vals vs us → ∃ as, ReadsAll h us ds as
  | [], vs, us, x, r => by cases x; cases r; exact ⟨_, .nil⟩
  | d :: ds, vs, us, x, r => by
    cases x with
    | cons a b =>
      cases r with
      | cons r1 r2 =>
        obtain ⟨as, q⟩ := dt_reads ok d _ _ a r1
        obtain ⟨bs, q2⟩ := dts_reads ok ds _ _ b r2
        exact ⟨_, .cons q q2⟩
end
end
section
variable {X : Cx} {k : Nat}
theorem op_eqNil (hr : Room k X.A) : OpR X (compareOp .Eq) (fun x y H Q => ∃ a b xs, x = .ref a ∧ y = .ref b ∧ H a = some (.lst xs) ∧ H b = some (.lst []) ∧ Q (.bl xs.isEmpty) H) := by
  intro pins s σ H x y v u Q I rx ry h
  obtain ⟨a, b, xs, rfl, rfl, ha, hb, q⟩ := h
  cases (show v = Value.ref a from rx)
  cases (show u = Value.ref b from ry)
  obtain ⟨i1, r1, p1, _⟩ := I.list (SqL.of ha)
  obtain ⟨i2, r2, p2, _⟩ := I.list (SqL.of hb)
  have e2 : i2 = [] := r2.zero
  subst e2
  have hu := hr.units0
  cases xs with
  | nil =>
    have e1 : i1 = [] := r1.zero
    subst e1
    exact SeqAt.eq_listAt (e := fun _ => true) p1.isList p2.isList rfl hu (fun j h1 _ => absurd h1 (Nat.not_lt_zero _)) ⟨.bl true, H, I, rfl, q⟩
  | cons z zs =>
    have l1 : i1.length = zs.length + 1 := by rw [← r1.length]; rfl
    exact SeqAt.eq_list_lengthsAt p1.isList p2.isList (by rw [List.size_toArray, List.size_toArray, l1]; rfl) hu ⟨.bl false, H, I, rfl, q⟩
theorem op_neNil (hr : Room k X.A) : OpR X (compareOp .NotEq) (fun x y H Q => ∃ a b xs, x = .ref a ∧ y = .ref b ∧ H a = some (.lst xs) ∧ H b = some (.lst []) ∧ Q (.bl (!xs.isEmpty)) H) := by
  intro pins s σ H x y v u Q I rx ry h
  obtain ⟨a, b, xs, rfl, rfl, ha, hb, q⟩ := h
  cases (show v = Value.ref a from rx)
  cases (show u = Value.ref b from ry)
  obtain ⟨i1, r1, p1, _⟩ := I.list (SqL.of ha)
  obtain ⟨i2, r2, p2, _⟩ := I.list (SqL.of hb)
  have e2 : i2 = [] := r2.zero
  subst e2
  have hu := hr.units0
  cases xs with
  | nil =>
    have e1 : i1 = [] := r1.zero
    subst e1
    exact SeqAt.RcNeAt.lists (e := fun _ => true) p1.isList p2.isList rfl hu (fun j h1 _ => absurd h1 (Nat.not_lt_zero _)) _ _ _ _ ⟨.bl false, H, I, rfl, q⟩
  | cons z zs =>
    have l1 : i1.length = zs.length + 1 := by rw [← r1.length]; rfl
    exact SeqAt.RcNeAt.lists_lengths p1.isList p2.isList (by rw [List.size_toArray, List.size_toArray, l1]; rfl) hu _ _ _ _ ⟨.bl true, H, I, rfl, q⟩
theorem call_isinst : CallR X (.builtin "isinstance") (fun xs H Q => ∃ x T t b, xs = [x, .ty T] ∧ TyOf X.K H x t ∧ PySem.W.kitOne X.K t (.type T) = some b ∧ Q (.bl b) H) := by
  intro pins s σ H xs us Q I r h
  obtain ⟨x, T, t, b, rfl, ty, e, q⟩ := h
  obtain ⟨u, c, rfl, ru, rc⟩ := r.two
  cases (show c = Value.type T from rc)
  exact isinst_ok I ru ty e fun tk => ⟨.bl b, H, I.tok tk, rfl, q⟩
noncomputable def tCallL (i : Nat) (f : Addr) (sp : Sp) (dvs : List V) (E : XK) (t : TA) : TE := fun σ H Q => σ[i]? = some (some (.ref f)) ∧ t σ H fun vs H1 => sp (vs ++ dvs) H1 Q E
noncomputable def rInsert0 : V → List V → Hp → VK → Prop := fun x vs H Q => ∃ l xs y, x = .ref l ∧ vs = [.int 0, y] ∧ H l = some (.lst xs) ∧ xs.length < sizeLine ∧ Q .non (upd H l (.lst (y :: xs)))
end
theorem PE.imp {X : Cx} {e : Expr} {t t' : TE} (h : PE X e t) (hi : ∀ σ H Q, t' σ H Q → t σ H Q) : PE X e t' := fun pins s σ H Q I q => h pins s σ H Q I (hi σ H Q q)
noncomputable abbrev CR4 := Str × Int × Pos × Pos
noncomputable def kvC (l : List CR4) : List (Key × V) := l.map fun x => (Sum.inr x.1, .int x.2.1)
noncomputable def tDispC (l : List CR4) : TE := fun _ H Q => ∀ p, H p = none → Q (.ref p) (upd H p (.dK (mergeK [] (kvC l))))
noncomputable def tFldC (C : Addr) (ta : TE) (f : Str) : TE := fun σ H Q => ta σ H fun x H1 => ∃ a dx fs v, x = .ref a ∧ H1 a = some (.ins C dx fs) ∧ fs.lookup f = some v ∧ Q v H1
section
variable {D : Ends} {σ : St} {H : Hp} {Q : VK} {R : Bool → Hp → Prop} {A : List V → Hp → Prop} {t u : TS} {c d : TT} {ta tb tc : TE} {tr : TA}
theorem rd_seq : tSeq t u D σ H = t { D with nx := u D } σ H := rfl
theorem rd_if : tIfS c t u D σ H = c σ H fun b H1 => if b = true then t D σ H1 else u D σ H1 := rfl
theorem rd_ret : tRet ta D σ H = ta σ H D.rt := rfl
theorem rd_retN : tRetN D σ H = D.rt .non H := rfl
theorem rd_drop : tDrop ta D σ H = ta σ H fun _ H1 => D.nx σ H1 := rfl
theorem rd_asg {g : TG} : tAsg ta g D σ H = ta σ H fun x H1 => g x σ H1 D.nx := rfl
theorem rd_name {i : Nat} {v : V} {N : St → Hp → Prop} : gName i v σ H N = N (σ.set i (some v)) H := rfl
theorem rd_next : tNext D σ H = D.nx σ H := rfl
theorem rd_cont : tCont D σ H = D.ct σ H := rfl
theorem rd_break : tBreak D σ H = D.bk σ H := rfl
theorem rd_never : tNever D σ H = False := rfl
theorem rd_var {i : Nat} : tVar i σ H Q = ∃ v, σ[i]? = some (some v) ∧ Q v H := rfl
theorem rd_c {v : V} : tC v σ H Q = Q v H := rfl
theorem rd_op {r : R2} : tOp r ta tb σ H Q = ta σ H fun x H1 => tb σ H1 fun y H2 => r x y H2 Q := rfl
theorem rd_un {r : V → Hp → VK → Prop} : tUn r ta σ H Q = ta σ H fun x H1 => r x H1 Q := rfl
theorem rd_rI0 {g : Int → Int → V} {i j : Int} : rI0 g (.int i) (.int j) H Q = Q (g i j) H := by
  apply propext; constructor
  · rintro ⟨_, _, e, f, q⟩; cases e; cases f; exact q
  · intro q; exact ⟨_, _, rfl, rfl, q⟩
theorem rd_rI {C : Int → Int → Prop} {g : Int → Int → V} {i j : Int} : rI C g (.int i) (.int j) H Q = (C i j ∧ Q (g i j) H) := by
  apply propext; constructor
  · rintro ⟨_, _, e, f, q⟩; cases e; cases f; exact q
  · intro q; exact ⟨_, _, rfl, rfl, q⟩
theorem rd_rU {g : Int → V} {i : Int} : rU g (.int i) H Q = Q (g i) H := by
  apply propext; constructor
  · rintro ⟨_, e, q⟩; cases e; exact q
  · intro q; exact ⟨_, rfl, q⟩
theorem rd_eqI {i j : Int} : rEq (.int i) (.int j) H Q = Q (.bl (decide (i = j))) H := by
  have e : decide (V.int i = V.int j) = decide (i = j) := by simp
  unfold rEq; rw [e]; simp [scal]
theorem rd_eqS {x y : Str} : rEq (.str x) (.str y) H Q = Q (.bl (decide (x = y))) H := by
  have e : decide (V.str x = V.str y) = decide (x = y) := by simp
  unfold rEq; rw [e]; simp [scal]
theorem rd_neI {i j : Int} : rNe (.int i) (.int j) H Q = Q (.bl (!decide (i = j))) H := by
  have e : decide (V.int i = V.int j) = decide (i = j) := by simp
  unfold rNe; rw [e]; simp [scal]
theorem rd_neS {x y : Str} : rNe (.str x) (.str y) H Q = Q (.bl (!decide (x = y))) H := by
  have e : decide (V.str x = V.str y) = decide (x = y) := by simp
  unfold rNe; rw [e]; simp [scal]
theorem rd_test : tTest ta σ H R = ta σ H fun x H' => ∃ k, x = .bl k ∧ R k H' := rfl
theorem rd_tB : tB ta σ H R = ta σ H fun x H' => ∃ k, x = .bl k ∧ R k H' := rfl
theorem rd_and : tAnd c d σ H R = c σ H fun b H1 => if b = true then d σ H1 R else R false H1 := rfl
theorem rd_or : tOr c d σ H R = c σ H fun b H1 => if b = true then R true H1 else d σ H1 R := rfl
theorem rd_not : tNot c σ H R = c σ H fun b H1 => R (!b) H1 := rfl
theorem rd_andV : tAndV ta tb σ H Q = ta σ H fun x H1 => ∃ b, x = .bl b ∧ if b = true then tb σ H1 Q else Q (.bl false) H1 := rfl
theorem rd_orV : tOrV ta tb σ H Q = ta σ H fun x H1 => ∃ b, x = .bl b ∧ if b = true then Q (.bl true) H1 else tb σ H1 Q := rfl
theorem rd_notV : tNotV ta σ H Q = ta σ H fun x H1 => ∃ b, x = .bl b ∧ Q (.bl (!b)) H1 := rfl
theorem rd_ife : tIf c ta tb σ H Q = c σ H fun b H1 => if b = true then ta σ H1 Q else tb σ H1 Q := rfl
theorem rd_nil : tNil σ H A = A [] H := rfl
theorem rd_cons : tCons ta tr σ H A = ta σ H fun x H1 => tr σ H1 fun xs H2 => A (x :: xs) H2 := rfl
theorem rd_tup : tTup tr σ H Q = tr σ H fun xs H1 => xs.length ≤ sizeLine ∧ ∀ p, H1 p = none → Q (.ref p) (upd H1 p (.tup xs)) := rfl
theorem rd_lst : tLst tr σ H Q = tr σ H fun xs H1 => xs.length ≤ sizeLine ∧ ∀ p, H1 p = none → Q (.ref p) (upd H1 p (.lst xs)) := rfl
theorem rd_call {sp : Sp} {dvs : List V} {E : XK} : tCall sp dvs E tr σ H Q = tr σ H fun vs H1 => sp (vs ++ dvs) H1 Q E := rfl
theorem rd_callL {i : Nat} {f : Addr} {sp : Sp} {dvs : List V} {E : XK} : tCallL i f sp dvs E tr σ H Q = (σ[i]? = some (some (.ref f)) ∧ tr σ H fun vs H1 => sp (vs ++ dvs) H1 Q E) := rfl
theorem rd_cb {r : List V → Hp → VK → Prop} : tCB r tr σ H Q = tr σ H fun vs H1 => r vs H1 Q := rfl
theorem rd_bm {K : PySem.W.Frag} {T : String} {r : V → List V → Hp → VK → Prop} : tBM K T r ta tr σ H Q = ta σ H fun x H1 => tyV K T x H1 ∧ tr σ H1 fun xs H2 => r x xs H2 Q := rfl
theorem rd_bm0 {K : PySem.W.Frag} {T : String} {r : V → List V → Hp → VK → Prop} : tBM0 K T r ta σ H Q = ta σ H fun x H1 => tyV K T x H1 ∧ r x [] H1 Q := rfl
theorem rd_sl {r : V → Option Int → Option Int → Hp → VK → Prop} {tl th : TO} : tSl r ta tl th σ H Q = ta σ H fun x H1 => tl σ H1 fun l H2 => th σ H2 fun u H3 => r x l u H3 Q := rfl
theorem rd_nopart {O : Option Int → Hp → Prop} : tNoPart σ H O = O none H := rfl
theorem rd_part {O : Option Int → Hp → Prop} : tPart ta σ H O = ta σ H fun x H1 => ∃ i, x = .int i ∧ O (some i) H1 := rfl
theorem rd_exbl {b : Bool} {P : Bool → Prop} : (∃ k, V.bl b = V.bl k ∧ P k) = P b := by
  apply propext; constructor
  · rintro ⟨_, e, q⟩; cases e; exact q
  · intro q; exact ⟨_, rfl, q⟩
theorem rd_exint {b : Int} {P : Int → Prop} : (∃ k, V.int b = V.int k ∧ P k) = P b := by
  apply propext; constructor
  · rintro ⟨_, e, q⟩; cases e; exact q
  · intro q; exact ⟨_, rfl, q⟩
theorem rd_exsome {α : Type} {v : α} {P : α → Prop} : (∃ k, (some (some v) : Option (Option α)) = some (some k) ∧ P k) = P v := by
  apply propext; constructor
  · rintro ⟨_, e, q⟩; cases e; exact q
  · intro q; exact ⟨_, rfl, q⟩
theorem rd_tyL {K : PySem.W.Frag} {p : Addr} : tyV K "list" (.ref p) H = ∃ xs, SqL K H p xs := by
  apply propext; constructor
  · rintro (⟨_, x⟩ | ⟨e, _⟩ | ⟨e, _⟩ | ⟨e, _⟩)
    · exact x
    · exact absurd e (by decide)
    · exact absurd e (by decide)
    · exact absurd e (by decide)
  · intro x; exact .inl ⟨rfl, x⟩
theorem rd_app {p : Addr} {y : V} : rAppend (.ref p) [y] H Q = ∃ xs, H p = some (.lst xs) ∧ xs.length < sizeLine ∧ Q .non (upd H p (.lst (xs ++ [y]))) := by
  apply propext; constructor
  · rintro ⟨l, xs, z, e, f, q⟩; cases e; cases f; exact ⟨xs, q⟩
  · rintro ⟨xs, q⟩; exact ⟨p, xs, y, rfl, rfl, q⟩
theorem rd_pop {p : Addr} : rPop (.ref p) [] H Q = ∃ xs y, H p = some (.lst xs) ∧ xs[xs.length - 1]? = some y ∧ Q y (upd H p (.lst xs.dropLast)) := by
  apply propext; constructor
  · rintro ⟨l, xs, z, e, f, q⟩; cases e; exact ⟨xs, z, q⟩
  · rintro ⟨xs, y, q⟩; exact ⟨p, xs, y, rfl, rfl, q⟩
theorem rd_ins0 {p : Addr} {y : V} : rInsert0 (.ref p) [.int 0, y] H Q = ∃ xs, H p = some (.lst xs) ∧ xs.length < sizeLine ∧ Q .non (upd H p (.lst (y :: xs))) := by
  apply propext; constructor
  · rintro ⟨l, xs, z, e, f, q⟩; cases e; cases f; exact ⟨xs, q⟩
  · rintro ⟨xs, q⟩; exact ⟨p, xs, y, rfl, rfl, q⟩
theorem rd_ext {p b : Addr} : rExtend (.ref p) [.ref b] H Q = ∃ xs zs, H p = some (.lst xs) ∧ H b = some (.lst zs) ∧ xs.length + zs.length ≤ sizeLine ∧ Q .non (upd H p (.lst (xs ++ zs))) := by
  apply propext; constructor
  · rintro ⟨l, b, xs, z, e, f, q⟩; cases e; cases f; exact ⟨xs, z, q⟩
  · rintro ⟨xs, zs, q⟩; exact ⟨p, b, xs, zs, rfl, rfl, q⟩
theorem rd_rev {p : Addr} : rReverse (.ref p) [] H Q = ∃ xs, H p = some (.lst xs) ∧ Q .non (upd H p (.lst xs.reverse)) := by
  apply propext; constructor
  · rintro ⟨l, xs, e, f, q⟩; cases e; exact ⟨xs, q⟩
  · rintro ⟨xs, q⟩; exact ⟨p, xs, rfl, rfl, q⟩
theorem rd_cat {p b : Addr} : rCat (.ref p) (.ref b) H Q = ∃ xs zs, H p = some (.lst xs) ∧ H b = some (.lst zs) ∧ xs.length + zs.length ≤ sizeLine ∧ ∀ q, H q = none → Q (.ref q) (upd H q (.lst (xs ++ zs))) := by
  apply propext; constructor
  · rintro ⟨l, b, xs, z, e, f, q⟩; cases e; cases f; exact ⟨xs, z, q⟩
  · rintro ⟨xs, zs, q⟩; exact ⟨p, b, xs, zs, rfl, rfl, q⟩
theorem rd_ixT {K : PySem.W.Frag} {p : Addr} {i : Int} : rIxT K (.ref p) (.int i) H Q = ∃ xs v, SqT K H p xs ∧ atI xs i = some v ∧ Q v H := by
  apply propext; constructor
  · rintro ⟨l, xs, z, v, e, f, q⟩; cases e; cases f; exact ⟨xs, v, q⟩
  · rintro ⟨xs, v, q⟩; exact ⟨p, xs, i, v, rfl, rfl, q⟩
theorem rd_ixL {K : PySem.W.Frag} {p : Addr} {i : Int} : rIxL K (.ref p) (.int i) H Q = ∃ xs v, SqL K H p xs ∧ atI xs i = some v ∧ Q v H := by
  apply propext; constructor
  · rintro ⟨l, xs, z, v, e, f, q⟩; cases e; cases f; exact ⟨xs, v, q⟩
  · rintro ⟨xs, v, q⟩; exact ⟨p, xs, i, v, rfl, rfl, q⟩
theorem rd_slL {K : PySem.W.Frag} {p : Addr} {lo hi : Option Int} : rSlL K (.ref p) lo hi H Q = ∃ xs, SqL K H p xs ∧ ∀ q, H q = none → Q (.ref q) (upd H q (.lst (cutV xs lo hi))) := by
  apply propext; constructor
  · rintro ⟨l, xs, e, q⟩; cases e; exact ⟨xs, q⟩
  · rintro ⟨xs, q⟩; exact ⟨p, xs, rfl, q⟩
theorem rd_inS {K : PySem.W.Frag} {neg : Bool} {x : V} {p : Addr} : rIn K neg x (.ref p) H Q = ∃ xs, (SqL K H p xs ∨ SqT K H p xs) ∧ flatV x = true ∧ xs.all flatV = true ∧ Q (.bl (if neg then !inV x xs else inV x xs)) H := by
  apply propext; constructor
  · rintro ⟨l, xs, e, q⟩; cases e; exact ⟨xs, q⟩
  · rintro ⟨xs, q⟩; exact ⟨p, xs, rfl, q⟩
theorem rd_dispC {l : List CR4} : tDispC l σ H Q = ∀ p, H p = none → Q (.ref p) (upd H p (.dK (mergeK [] (kvC l)))) := rfl
theorem rd_dget2 : tDGet2 ta tb tc σ H Q = ta σ H fun x H1 => ∃ a, x = .ref a ∧ IsD H1 a ∧ tb σ H1 fun y H2 => tc σ H2 fun z H3 => ∃ o, DGet H3 a y o ∧ Q (o.getD z) H3 := rfl
noncomputable def tForIn (J : It) (g : TG) (tb : TS) : TS := fun D σ H1 => ∃ W : Nat → Nat → St → Hp → Prop, (∃ m, W 0 m σ H1) ∧ ∀ i m σ H, W i m σ H →
  (J.stop i H ∧ D.nx σ H) ∨ (J.go i H ∧ ∃ N : St → Hp → Prop, (∀ σ' H', N σ' H' → ∃ m', m' < m ∧ W (i + 1) m' σ' H') ∧ ∀ x H', J.yld i H x H' → g x σ H' fun σ2 H2 => tb { D with nx := N, ct := N, bk := D.nx } σ2 H2)
theorem rd_forL {K : PySem.W.Frag} {g : TG} {tb : TS} : tFor (iList K ta) g tb D σ H = ta σ H fun x H1 => ∃ a, x = .ref a ∧ (∃ xs, SqL K H1 a xs) ∧ tForIn (Itl K a) g tb D σ H1 := rfl
theorem rd_forR {g : TG} {tb : TS} : tFor (iRng1 tr) g tb D σ H = tr σ H fun vs H1 => ∃ j : Int, vs = [.int j] ∧ -(2 ^ 62) ≤ j ∧ j < 2 ^ 62 ∧ tForIn (Itr 0 j.toNat) g tb D σ H1 := rfl
theorem rd_fldC {C : Addr} {f : Str} : tFldC C ta f σ H Q = ta σ H fun x H1 => ∃ a dx fs v, x = .ref a ∧ H1 a = some (.ins C dx fs) ∧ fs.lookup f = some v ∧ Q v H1 := rfl
theorem rd_dget : tDGet ta tb σ H Q = ta σ H fun x H1 => tb σ H1 fun y H2 => ∃ a v, x = .ref a ∧ DGet H2 a y (some v) ∧ Q v H2 := rfl
theorem rd_din : tDIn ta tb σ H Q = ta σ H fun y H1 => tb σ H1 fun x H2 => ∃ a o, x = .ref a ∧ DGet H2 a y o ∧ Q (.bl o.isSome) H2 := rfl
theorem rd_dnotin : tDNotIn ta tb σ H Q = ta σ H fun y H1 => tb σ H1 fun x H2 => ∃ a o, x = .ref a ∧ DGet H2 a y o ∧ Q (.bl (!o.isSome)) H2 := rfl
theorem rd_dput : sDPut ta tb tc D σ H = tc σ H fun v H1 => ta σ H1 fun x H2 => tb σ H2 fun y H3 => ∃ a H4, x = .ref a ∧ DPut H3 a y v H4 ∧ D.nx σ H4 := rfl
theorem rd_meth {C : Addr} {m : Str} {sp : Sp} {dvs : List V} {E : XK} : tMeth C m sp dvs E ta tr σ H Q = ta σ H fun x H1 => ∃ a dx fs, x = .ref a ∧ H1 a = some (.ins C dx fs) ∧ fs.lookup m = none ∧ tr σ H1 fun vs H2 => sp (x :: (vs ++ dvs)) H2 Q E := rfl
end
theorem rd_s0 : (0 ≤ sizeLine) = True := eq_true (by decide)
theorem rd_s1 : (1 ≤ sizeLine) = True := eq_true (by decide)
theorem rd_s2 : (2 ≤ sizeLine) = True := eq_true (by decide)
theorem rd_s3 : (3 ≤ sizeLine) = True := eq_true (by decide)
theorem rd_s4 : (4 ≤ sizeLine) = True := eq_true (by decide)
theorem rd_s5 : (5 ≤ sizeLine) = True := eq_true (by decide)
theorem rd_s6 : (6 ≤ sizeLine) = True := eq_true (by decide)
theorem rd_s7 : (7 ≤ sizeLine) = True := eq_true (by decide)
theorem rd_s8 : (8 ≤ sizeLine) = True := eq_true (by decide)
theorem rd_s9 : (9 ≤ sizeLine) = True := eq_true (by decide)
theorem atI0 {α : Type} (a : α) (xs : List α) : atI (a :: xs) 0 = some a := by simp [atI, ixN]
theorem atI1 {α : Type} (a b : α) (xs : List α) : atI (a :: b :: xs) 1 = some b := atI_nat (j := 1) rfl
theorem atI2 {α : Type} (a b c : α) (xs : List α) : atI (a :: b :: c :: xs) 2 = some c := atI_nat (j := 2) rfl
section
variable {P : Program} {w : World} {K : PySem.W.Frag} {mg : Str → Option Value} {base : Heap} {N : List Str} {qual : Str} {scope : Scope} {f : Addr} {cd : Value} {A : Around} {outer : List Env} {s : Shared} {H : Hp} {E : XK} {CX : CXT}
theorem cx_K2 : (cxOf CX P w K mg base N qual scope f cd A outer s H E).K = K := rfl
theorem cx_K : (cxOf CX P w K mg base N qual scope f cd A outer s H E).nox.K = K := rfl
end
theorem bo_len : bootBuiltins "len" = some (.builtin "len") := by decide +kernel
theorem bo_isinstance : bootBuiltins "isinstance" = some (.builtin "isinstance") := by decide +kernel
theorem bo_int : bootBuiltins "int" = some (.type "int") := by decide +kernel
theorem bo_str : bootBuiltins "str" = some (.type "str") := by decide +kernel
theorem bo_bool : bootBuiltins "bool" = some (.type "bool") := by decide +kernel
theorem bo_list : bootBuiltins "list" = some (.type "list") := by decide +kernel
theorem bo_tuple : bootBuiltins "tuple" = some (.type "tuple") := by decide +kernel
theorem bo_reversed : bootBuiltins "reversed" = some (.type "reversed") := by decide +kernel
theorem kit_same (K : PySem.W.Frag) (T : String) : PySem.W.kitOne K (.type T) (.type T) = some true := by
  unfold PySem.W.kitOne
  rw [if_pos (beq_self_eq_true _)]
theorem kit_ib (K : PySem.W.Frag) : PySem.W.kitOne K (.type "int") (.type "bool") = some false := by rfl
structure Df (K : PySem.W.Frag) (mg : Str → Option Value) (x : Str) (st : Stmt) (ps : List Str) (f : Addr) (fd : FuncData) : Prop where
  F : Fun K x x st f fd
  b : Binds K fd ps []
  m : mg x = some (.ref f)
end L2
end
section
set_option Elab.async false
set_option linter.all false
set_option maxRecDepth 100000
namespace CN
open PySem L2
noncomputable abbrev sv (x : String) : V := .str (Str.ofString x)
noncomputable abbrev IsSt (H : Hp) (v : V) (a : Stm) : Prop := DT H v (dat a)
noncomputable def Sh (H : Hp) : Stm → List V → Prop
  | .yes, xs => xs = [sv "yes"]
  | .no, xs => xs = [sv "no"]
  | .sw n, xs => xs = [sv "switch", .int n]
  | .nt a, xs => ∃ v, xs = [sv "not", v] ∧ IsSt H v a
  | .an a b, xs => ∃ v u, xs = [sv "and", v, u] ∧ IsSt H v a ∧ IsSt H u b
  | .og a b, xs => ∃ v u, xs = [sv "or", v, u] ∧ IsSt H v a ∧ IsSt H u b
  | .al n a, xs => ∃ v, xs = [sv "all", .int n, v] ∧ IsSt H v a
  | .sm n a, xs => ∃ v, xs = [sv "some", .int n, v] ∧ IsSt H v a
theorem dt_str {H : Hp} {v : V} {x : Str} (h : DT H v (.str x)) : v = .str x := by cases h; rfl
theorem dt_int {H : Hp} {v : V} {i : Int} (h : DT H v (.int i)) : v = .int i := by cases h; rfl
theorem dts1 {H : Hp} {xs : List V} {d : PyData} (h : DTs H xs [d]) : ∃ x, xs = [x] ∧ DT H x d := by
  cases h with
  | cons a b => cases b; exact ⟨_, rfl, a⟩
theorem dts2 {H : Hp} {xs : List V} {d e : PyData} (h : DTs H xs [d, e]) : ∃ x y, xs = [x, y] ∧ DT H x d ∧ DT H y e := by
  cases h with
  | cons a b => obtain ⟨y, rfl, k⟩ := dts1 b; exact ⟨_, _, rfl, a, k⟩
theorem dts3 {H : Hp} {xs : List V} {d e f : PyData} (h : DTs H xs [d, e, f]) : ∃ x y z, xs = [x, y, z] ∧ DT H x d ∧ DT H y e ∧ DT H z f := by
  cases h with
  | cons a b => obtain ⟨y, z, rfl, k, l⟩ := dts2 b; exact ⟨_, _, _, rfl, a, k, l⟩
theorem st_get {H : Hp} {v : V} {a : Stm} (h : IsSt H v a) : ∃ p xs, v = .ref p ∧ H p = some (.tup xs) ∧ Sh H a xs := by
  cases a with
  | yes =>
    cases h with
    | tup e k => obtain ⟨x, rfl, k1⟩ := dts1 k; cases dt_str k1; exact ⟨_, _, rfl, e, rfl⟩
  | no =>
    cases h with
    | tup e k => obtain ⟨x, rfl, k1⟩ := dts1 k; cases dt_str k1; exact ⟨_, _, rfl, e, rfl⟩
  | sw n =>
    cases h with
    | tup e k => obtain ⟨x, y, rfl, k1, k2⟩ := dts2 k; cases dt_str k1; cases dt_int k2; exact ⟨_, _, rfl, e, rfl⟩
  | nt a =>
    cases h with
    | tup e k => obtain ⟨x, y, rfl, k1, k2⟩ := dts2 k; cases dt_str k1; exact ⟨_, _, rfl, e, _, rfl, k2⟩
  | an a b =>
    cases h with
    | tup e k => obtain ⟨x, y, z, rfl, k1, k2, k3⟩ := dts3 k; cases dt_str k1; exact ⟨_, _, rfl, e, _, _, rfl, k2, k3⟩
  | og a b =>
    cases h with
    | tup e k => obtain ⟨x, y, z, rfl, k1, k2, k3⟩ := dts3 k; cases dt_str k1; exact ⟨_, _, rfl, e, _, _, rfl, k2, k3⟩
  | al n a =>
    cases h with
    | tup e k => obtain ⟨x, y, z, rfl, k1, k2, k3⟩ := dts3 k; cases dt_str k1; cases dt_int k2; exact ⟨_, _, rfl, e, _, rfl, k3⟩
  | sm n a =>
    cases h with
    | tup e k => obtain ⟨x, y, z, rfl, k1, k2, k3⟩ := dts3 k; cases dt_str k1; cases dt_int k2; exact ⟨_, _, rfl, e, _, rfl, k3⟩
theorem st_mk {H : Hp} {p : Addr} {xs : List V} {a : Stm} (h : H p = some (.tup xs)) (s : Sh H a xs) : IsSt H (.ref p) a := by
  cases a with
  | yes => cases s; exact .tup h (.cons (.str _) .nil)
  | no => cases s; exact .tup h (.cons (.str _) .nil)
  | sw n => cases s; exact .tup h (.cons (.str _) (.cons (.int _) .nil))
  | nt a => obtain ⟨v, rfl, k⟩ := s; exact .tup h (.cons (.str _) (.cons k .nil))
  | an a b => obtain ⟨v, u, rfl, k, l⟩ := s; exact .tup h (.cons (.str _) (.cons k (.cons l .nil)))
  | og a b => obtain ⟨v, u, rfl, k, l⟩ := s; exact .tup h (.cons (.str _) (.cons k (.cons l .nil)))
  | al n a => obtain ⟨v, rfl, k⟩ := s; exact .tup h (.cons (.str _) (.cons (.int _) (.cons k .nil)))
  | sm n a => obtain ⟨v, rfl, k⟩ := s; exact .tup h (.cons (.str _) (.cons (.int _) (.cons k .nil)))
structure Bt (mg : Str → Option Value) : Prop where
  n_len : mg "len" = none
  n_range : mg "range" = none
  n_isinstance : mg "isinstance" = none
  n_int : mg "int" = none
  n_str : mg "str" = none
  n_bool : mg "bool" = none
  n_list : mg "list" = none
  n_tuple : mg "tuple" = none
  n_abs : mg "abs" = none
noncomputable def word : Stm → Str
  | .yes => Str.ofString "yes" | .no => Str.ofString "no" | .sw _ => Str.ofString "switch" | .nt _ => Str.ofString "not" | .an _ _ => Str.ofString "and" | .og _ _ => Str.ofString "or" | .al _ _ => Str.ofString "all" | .sm _ _ => Str.ofString "some"
noncomputable def arity : Stm → Nat
  | .yes => 1 | .no => 1 | .sw _ => 2 | .nt _ => 2 | .an _ _ => 3 | .og _ _ => 3 | .al _ _ => 3 | .sm _ _ => 3
theorem sh_head {H : Hp} {a : Stm} {cs : List V} (s : Sh H a cs) : ∃ rest, cs = .str (word a) :: rest ∧ rest.length + 1 = arity a := by
  cases a with
  | yes => cases s; exact ⟨_, rfl, rfl⟩
  | no => cases s; exact ⟨_, rfl, rfl⟩
  | sw n => cases s; exact ⟨_, rfl, rfl⟩
  | nt a => obtain ⟨v, rfl, _⟩ := s; exact ⟨_, rfl, rfl⟩
  | an a b => obtain ⟨v, u, rfl, _⟩ := s; exact ⟨_, rfl, rfl⟩
  | og a b => obtain ⟨v, u, rfl, _⟩ := s; exact ⟨_, rfl, rfl⟩
  | al n a => obtain ⟨v, rfl, _⟩ := s; exact ⟨_, rfl, rfl⟩
  | sm n a => obtain ⟨v, rfl, _⟩ := s; exact ⟨_, rfl, rfl⟩
noncomputable abbrev Sts (H : Hp) : List V → List Stm → Prop := Paired (IsSt H)
theorem Sts.to {H H' : Hp} (k : Tk H H') : ∀ {xs : List V} {as : List Stm}, Sts H xs as → Sts H' xs as
  | _, _, .nil => .nil
  | _, _, .cons a b => .cons (DT.to a k) (Sts.to k b)
theorem Sts.app {H : Hp} : ∀ {xs ys : List V} {as bs : List Stm}, Sts H xs as → Sts H ys bs → Sts H (xs ++ ys) (as ++ bs)
  | _, _, _, _, .nil, s => s
  | _, _, _, _, .cons r t, s => .cons r (Sts.app t s)
theorem Sts.one {H : Hp} {v : V} {a : Stm} (h : IsSt H v a) : Sts H [v] [a] := .cons h .nil
theorem Sts.snoc {H : Hp} : ∀ {xs : List V} {x : V} {as : List Stm}, Sts H (xs ++ [x]) as → ∃ bs b, as = bs ++ [b] ∧ Sts H xs bs ∧ IsSt H x b
  | [], x, _, .cons a .nil => ⟨[], _, rfl, .nil, a⟩
  | y :: xs, x, _, .cons a r => by
    obtain ⟨bs, b, rfl, h1, h2⟩ := Sts.snoc (xs := xs) r
    exact ⟨_ :: bs, b, rfl, .cons a h1, h2⟩
theorem Sts.get {H : Hp} : ∀ {xs : List V} {as : List Stm} {i : Nat} {x : V}, Sts H xs as → xs[i]? = some x → ∃ a, as[i]? = some a ∧ IsSt H x a
  | _, _, _, _, .nil, e => by simp at e
  | _, _, 0, _, .cons r _, e => by simp at e; subst e; exact ⟨_, rfl, r⟩
  | _, _, i + 1, x, .cons _ t, e => by
    obtain ⟨u, h1, h2⟩ := Sts.get (i := i) (x := x) t (by simpa using e)
    exact ⟨u, by simpa using h1, h2⟩
noncomputable def sizes (as : List Stm) : Nat := (as.map Stm.size).sum
theorem sizes_app (as bs : List Stm) : sizes (as ++ bs) = sizes as + sizes bs := by simp [sizes]
theorem sizes_one (a : Stm) : sizes [a] = a.size := by simp [sizes]
theorem sizes_len (as : List Stm) : as.length ≤ sizes as := by
  induction as with
  | nil => simp [sizes]
  | cons a as ih =>
    have := a.size_pos
    simp only [sizes, List.map_cons, List.sum_cons, List.length_cons] at *
    omega
theorem snoc_of {α : Type} : ∀ {xs : List α}, xs ≠ [] → ∃ ys y, xs = ys ++ [y]
  | [], h => absurd rfl h
  | [x], _ => ⟨[], x, rfl⟩
  | x :: y :: r, _ => by
    obtain ⟨ys, z, e⟩ := snoc_of (xs := y :: r) (by simp)
    exact ⟨x :: ys, z, by rw [e]; rfl⟩
theorem last_of {α : Type} (xs : List α) (x : α) : (xs ++ [x])[(xs ++ [x]).length - 1]? = some x := by simp
theorem drop_of {α : Type} (xs : List α) (x : α) : (xs ++ [x]).dropLast = xs := List.dropLast_concat
end CN
end
section
set_option Elab.async false
set_option linter.all false
set_option maxRecDepth 100000
namespace L2
open PySem PySem.Spec PyProof.Rows
noncomputable def Tq (K : PySem.W.Frag) (H : Hp) (a : Addr) (xs : List V) : Prop :=
  H a = some (.tup xs) ∨ ∃ (o : Obj) (its : Array Value) (n : Nat), K.lookup a = some o ∧ o.cls = .type "tuple" ∧ o.data = .seq its n ∧ its.size ≤ sizeLine ∧ Vals xs its.toList
section
variable {K : PySem.W.Frag} {H H' : Hp} {a : Addr} {xs : List V}
theorem Tq.of (h : H a = some (.tup xs)) : Tq K H a xs := .inl h
theorem Tq.to (h : Tq K H a xs) (k : Tk H H') : Tq K H' a xs := by
  rcases h with h | h
  · exact .inl (k _ _ h)
  · exact .inr h
end
mutual
inductive DK (K : PySem.W.Frag) (H : Hp) : V → PyData → Prop
  | non : DK K H .non .none
  | bl (b : Bool) : DK K H (.bl b) (.bool b)
  | int (i : Int) : DK K H (.int i) (.int i)
  | str (x : Str) : DK K H (.str x) (.str x)
  | tup {a : Addr} {xs : List V} {ds : List PyData} : Tq K H a xs → DKs K H xs ds → DK K H (.ref a) (.tuple ds)
inductive DKs (K : PySem.W.Frag) (H : Hp) : List V → List PyData → Prop
  | nil : DKs K H [] []
  | cons {x : V} {d : PyData} {xs : List V} {ds : List PyData} : DK K H x d → DKs K H xs ds → DKs K H (x :: xs) (d :: ds)
end
mutual
theorem DK.tk {K : PySem.W.Frag} {H H' : Hp} (k : Tk H H') : ∀ (d : PyData) (v : V), DK K H v d → DK K H' v d
  | .none, v, x => by cases x; exact .non
  | .bool b, v, x => by cases x; exact .bl _
  | .int i, v, x => by cases x; exact .int _
  | .str y, v, x => by cases x; exact .str _
  | .tuple ds, v, x => by
    cases x with
    | tup e xs => exact .tup (e.to k) (DKs.tk k ds _ xs)
  | .list _, v, x => nomatch x
  | .dict _, v, x => nomatch x
theorem DKs.tk {K : PySem.W.Frag} {H H' : Hp} (k : Tk H H') : ∀ (ds : List PyData) (vs : List V), DKs K H vs ds → DKs K H' vs ds
  | [], vs, x => by cases x; exact .nil
  | d :: ds, vs, x => by
    cases x with
    | cons a b => exact .cons (DK.tk k d _ a) (DKs.tk k ds _ b)
end
theorem DK.to {K : PySem.W.Frag} {H H' : Hp} {d : PyData} {v : V} (x : DK K H v d) (k : Tk H H') : DK K H' v d := DK.tk k d v x
mutual
theorem DK.ofT {K : PySem.W.Frag} {H : Hp} : ∀ (d : PyData) (v : V), DT H v d → DK K H v d
  | .none, v, x => by cases x; exact .non
  | .bool b, v, x => by cases x; exact .bl _
  | .int i, v, x => by cases x; exact .int _
  | .str y, v, x => by cases x; exact .str _
  | .tuple ds, v, x => by
    cases x with
    | tup e xs => exact .tup (.inl e) (DKs.ofT ds _ xs)
  | .list _, v, x => nomatch x
  | .dict _, v, x => nomatch x
theorem DKs.ofT {K : PySem.W.Frag} {H : Hp} : ∀ (ds : List PyData) (vs : List V), DTs H vs ds → DKs K H vs ds
  | [], vs, x => by cases x; exact .nil
  | d :: ds, vs, x => by
    cases x with
    | cons a b => exact .cons (DK.ofT d _ a) (DKs.ofT ds _ b)
end
section
variable {P : Program} {w : World} {K : PySem.W.Frag} {H : Hp} {h : Heap}
end
section
variable {X : Cx} {k : Nat}
end
noncomputable def KD (K : PySem.W.Frag) (P : Params) (a : Addr) (g : Str → Option V) : Prop :=
  (a == sysModules) = false ∧ ∃ (es : Array DictEntry) (n : Nat), K.lookup a = some ⟨.type "dict", none, .dict es n, #[]⟩ ∧ PySem.W.KeysLit P es.toList ∧ ∀ x, RelO (g x) (findBy Value.isStrOf es x)
noncomputable def tKGet (K : PySem.W.Frag) (P : Params) (td ty : TE) : TE := fun σ H Q => td σ H fun x H1 => ty σ H1 fun y H2 => ∃ a g k v, x = .ref a ∧ y = .str k ∧ KD K P a g ∧ g k = some v ∧ Q v H2
noncomputable def tKIn (K : PySem.W.Frag) (P : Params) (ty td : TE) : TE := fun σ H Q => ty σ H fun y H1 => td σ H1 fun x H2 => ∃ a g k, x = .ref a ∧ y = .str k ∧ KD K P a g ∧ Q (.bl (g k).isSome) H2
section
variable {X : Cx} {o i : Expr} {pos : Pos} {td ty : TE}
end
noncomputable def gOf (l : List (Str × V)) (x : Str) : Option V := (l.find? fun e => decide (e.1 = x)).map (·.2)
noncomputable def rSlS : V → Option Int → Option Int → Hp → VK → Prop := fun x lo hi H Q => ∃ (z : Str) (i j : Nat), x = .str z ∧ lo = some (i : Int) ∧ hi = some (j : Int) ∧ z.length ≤ sizeLine ∧ Q (.str (CN.mkS (((CN.tx z).drop i).take (j - i)))) H
noncomputable def sFldC (C : Addr) (ta tv : TE) (f : Str) : TS := fun D σ H => tv σ H fun y H1 => ta σ H1 fun x H2 => ∃ a dx fs, x = .ref a ∧ H2 a = some (.ins C dx fs) ∧ fs.length < 1000 ∧ D.nx σ (upd H2 a (.ins C dx (putF f y fs)))
section
variable {D : Ends} {σ : St} {H : Hp} {Q : VK} {ta tb tc : TE} {tr : TA}
theorem rd_kget {K : PySem.W.Frag} {P : Params} : tKGet K P ta tb σ H Q = ta σ H fun x H1 => tb σ H1 fun y H2 => ∃ a g k v, x = .ref a ∧ y = .str k ∧ KD K P a g ∧ g k = some v ∧ Q v H2 := rfl
theorem rd_kin {K : PySem.W.Frag} {P : Params} : tKIn K P ta tb σ H Q = ta σ H fun y H1 => tb σ H1 fun x H2 => ∃ a g k, x = .ref a ∧ y = .str k ∧ KD K P a g ∧ Q (.bl (g k).isSome) H2 := rfl
theorem rd_fldP {C : Addr} {f : Str} : sFldC C ta tc f D σ H = tc σ H fun y H1 => ta σ H1 fun x H2 => ∃ a dx fs, x = .ref a ∧ H2 a = some (.ins C dx fs) ∧ fs.length < 1000 ∧ D.nx σ (upd H2 a (.ins C dx (putF f y fs))) := rfl
theorem rd_make {C : Addr} {sp : Sp} {dvs : List V} {E : XK} : tMake C sp dvs E tr σ H Q = tr σ H fun vs H1 => ∀ x dx, H1 x = none → H1 dx = none → dx ≠ x → sp (.ref x :: (vs ++ dvs)) (upd (upd H1 dx (.own x)) x (.ins C dx [])) (fun v H2 => v = .non ∧ Q (.ref x) H2) E := rfl
theorem rd_slS {z : Str} {lo hi : Option Int} : rSlS (.str z) lo hi H Q = ∃ (i j : Nat), lo = some (i : Int) ∧ hi = some (j : Int) ∧ z.length ≤ sizeLine ∧ Q (.str (CN.mkS (((CN.tx z).drop i).take (j - i)))) H := by
  apply propext; constructor
  · rintro ⟨z', i, j, e, q⟩; cases e; exact ⟨i, j, q⟩
  · rintro ⟨i, j, q⟩; exact ⟨z, i, j, rfl, q⟩
end
section
variable {P : Program} {w : World} {K : PySem.W.Frag} {mg : Str → Option Value} {base : Heap} {N : List Str} {qual : Str} {scope : Scope} {f : Addr} {cd : Value} {A : Around} {outer : List Env} {s : Shared} {H : Hp} {E : XK} {CX : CXT}
theorem cx_w2 : (cxOf CX P w K mg base N qual scope f cd A outer s H E).w = w := rfl
theorem cx_w : (cxOf CX P w K mg base N qual scope f cd A outer s H E).nox.w = w := rfl
end
end L2
namespace CN
open PySem L2
noncomputable abbrev IsSk (K : PySem.W.Frag) (H : Hp) (v : V) (a : Stm) : Prop := DK K H v (dat a)
theorem IsSt.k {K : PySem.W.Frag} {H : Hp} {v : V} {a : Stm} (h : IsSt H v a) : IsSk K H v a := DK.ofT _ _ h
noncomputable def Shk (K : PySem.W.Frag) (H : Hp) : Stm → List V → Prop
  | .yes, xs => xs = [sv "yes"]
  | .no, xs => xs = [sv "no"]
  | .sw n, xs => xs = [sv "switch", .int n]
  | .nt a, xs => ∃ v, xs = [sv "not", v] ∧ IsSk K H v a
  | .an a b, xs => ∃ v u, xs = [sv "and", v, u] ∧ IsSk K H v a ∧ IsSk K H u b
  | .og a b, xs => ∃ v u, xs = [sv "or", v, u] ∧ IsSk K H v a ∧ IsSk K H u b
  | .al n a, xs => ∃ v, xs = [sv "all", .int n, v] ∧ IsSk K H v a
  | .sm n a, xs => ∃ v, xs = [sv "some", .int n, v] ∧ IsSk K H v a
section
variable {K : PySem.W.Frag} {H H' : Hp}
theorem Shk.to {a : Stm} {xs : List V} (s : Shk K H a xs) (k : Tk H H') : Shk K H' a xs := by
  cases a with
  | yes => exact s
  | no => exact s
  | sw n => exact s
  | nt a => obtain ⟨v, e, h⟩ := s; exact ⟨v, e, DK.to h k⟩
  | an a b => obtain ⟨v, u, e, h, l⟩ := s; exact ⟨v, u, e, DK.to h k, DK.to l k⟩
  | og a b => obtain ⟨v, u, e, h, l⟩ := s; exact ⟨v, u, e, DK.to h k, DK.to l k⟩
  | al n a => obtain ⟨v, e, h⟩ := s; exact ⟨v, e, DK.to h k⟩
  | sm n a => obtain ⟨v, e, h⟩ := s; exact ⟨v, e, DK.to h k⟩
noncomputable abbrev Stk (K : PySem.W.Frag) (H : Hp) : List V → List Stm → Prop := Paired (IsSk K H)
theorem Stk.to (k : Tk H H') : ∀ {xs : List V} {as : List Stm}, Stk K H xs as → Stk K H' xs as
  | _, _, .nil => .nil
  | _, _, .cons a b => .cons (DK.to a k) (Stk.to k b)
end
end CN
end
section
set_option Elab.async false
set_option linter.all false
set_option maxRecDepth 100000
set_option maxHeartbeats 1000000
namespace L2
open PySem PySem.Spec PyProof.Rows
section
variable {prog : Program} {w : World} {A : Around} {E : Value → Shared → Prop} {R : Result → Shared → Prop} {s : Shared}
theorem comp_loop {elt target iter : Expr} {ifs : List Expr} {scope : Scope} {pos : Pos} {it acc : Value} {env : Env} (I : Nat → Shared → Prop)
    (turn : ∀ n s, I n s → wpAny (model prog w) A (pyNext it) (fun r s₁ => match r with
      | none => R (.ok .next) s₁
      | some v => wpAny (model prog w) A (letOwnedTupleGo target it v) (fun _ s₀ => wpAny (model prog w) A (assign target env v) (fun _ s₂ =>
          wpAny (model prog w) A (forIn ifs true fun c r => if r = true then do let ok ← isTrue c env (eval c env); pure (ForInStep.yield ok) else pure (ForInStep.yield r)) (fun ok s₃ =>
            if ok = true then wpAny (model prog w) A (eval elt env) (fun x s₄ =>
              wpAny (model prog w) A (call (.builtin "list.append") [acc, x]) (fun _ s₅ => ∃ m, m < n ∧ I m s₅) (fun _ _ => False) s₄) (fun _ _ => False) s₃
            else ∃ m, m < n ∧ I m s₃) (fun _ _ => False) s₂) (fun _ _ => False) s₀) (fun _ _ => False) s₁) (fun _ _ => False) s)
    (n : Nat) (h : I n s) :
    codeAny (model prog w) A (.compLoop (.ListComp elt [⟨target, iter, ifs, 0⟩] scope pos) 0 it acc env) R s := by
  refine codeAny_loop rfl I (fun n s hI => ?_) n h
  show wpAny _ A ((compTurn (.ListComp elt [⟨target, iter, ifs, 0⟩] scope pos) 0 it acc env).onRaise (fun x => do noteFrame x env; theTreesLotGoes x)) _ _ s
  refine wpAny_noted ?_
  rw [compTurn_list]
  refine wpAny_bind (wpAny_standAt (wpAny_bind (wpAny_mono (turn n s hI) (fun r s₁ h₁ => ?_) fun _ _ h' => h'.elim)))
  cases r with
  | none => exact wpAny_pure h₁
  | some v =>
    refine wpAny_bind (wpAny_mono h₁ (fun _ s₀ h₀ => ?_) fun _ _ h' => h'.elim)
    refine wpAny_bind (wpAny_mono h₀ (fun _ s₂ h₂ => wpAny_bind (wpAny_mono h₂ (fun ok s₃ h₃ => ?_) fun _ _ h' => h'.elim)) fun _ _ h' => h'.elim)
    cases ok with
    | false => exact wpAny_pure ⟨rfl, h₃⟩
    | true =>
      exact wpAny_bind (wpAny_bind (wpAny_mono h₃ (fun x s₄ h₄ => wpAny_bind (wpAny_mono h₄ (fun _ s₅ h₅ => wpAny_pure (wpAny_pure ⟨rfl, h₅⟩)) fun _ _ h' => h'.elim)) fun _ _ h' => h'.elim))
end
theorem lookup_relabel_free {env : Env} : ∀ {names : List (Str × NameKind)} {x : Str}, names.lookup x = some .free →
    (names.map fun (n, k) => if (k == NameKind.free && env.scope.kind == .function && env.kindOf n == some .cell) then (n, NameKind.cell) else (n, k)).lookup x = some .cell ∨
    (names.map fun (n, k) => if (k == NameKind.free && env.scope.kind == .function && env.kindOf n == some .cell) then (n, NameKind.cell) else (n, k)).lookup x = some .free
  | [], _, h => by simp at h
  | (n, k) :: r, x, h => by
    have ih := @lookup_relabel_free env r x
    cases hx : x == n with
    | true =>
      simp only [List.lookup_cons, hx] at h
      cases h
      rw [List.map_cons]
      dsimp only
      by_cases hc : (NameKind.free == NameKind.free && env.scope.kind == .function && env.kindOf n == some .cell) = true
      · left; rw [if_pos hc, List.lookup_cons, hx]
      · right; rw [if_neg hc, List.lookup_cons, hx]
    | false =>
      simp only [List.lookup_cons, hx] at h
      rw [List.map_cons]
      dsimp only
      by_cases hc : (k == NameKind.free && env.scope.kind == .function && env.kindOf n == some .cell) = true
      · rw [if_pos hc, List.lookup_cons, hx]; exact ih h
      · rw [if_neg hc, List.lookup_cons, hx]; exact ih h
theorem lookup_relabel_vis {env : Env} : ∀ {names : List (Str × NameKind)} {x : Str} {k : NameKind},
    (names.map fun (n, k) => if (k == NameKind.free && env.scope.kind == .function && env.kindOf n == some .cell) then (n, NameKind.cell) else (n, k)).lookup x = some k → names.lookup x = some k ∨ (k = .cell ∧ names.lookup x = some .free)
  | [], _, _, h => by simp at h
  | (n, j) :: r, x, k, h => by
    have ih := @lookup_relabel_vis env r x k
    rw [List.map_cons] at h
    dsimp only at h
    cases hx : x == n with
    | true =>
      by_cases hc : (j == NameKind.free && env.scope.kind == .function && env.kindOf n == some .cell) = true
      · rw [if_pos hc, List.lookup_cons, hx] at h
        cases h
        right
        refine ⟨rfl, ?_⟩
        rw [List.lookup_cons, hx]
        have : j = .free := by
          have := (Bool.and_eq_true _ _).mp ((Bool.and_eq_true _ _).mp hc).1
          simpa using this.1
        rw [this]
      · rw [if_neg hc, List.lookup_cons, hx] at h
        left; rw [List.lookup_cons, hx]; exact h
    | false =>
      have h' : (r.map fun (n, k) => if (k == NameKind.free && env.scope.kind == .function && env.kindOf n == some .cell) then (n, NameKind.cell) else (n, k)).lookup x = some k := by
        by_cases hc : (j == NameKind.free && env.scope.kind == .function && env.kindOf n == some .cell) = true
        · rw [if_pos hc, List.lookup_cons, hx] at h; exact h
        · rw [if_neg hc, List.lookup_cons, hx] at h; exact h
      rw [List.lookup_cons, hx]
      exact ih h'
structure CSc (X : Cx) (scope : Scope) (cl : List (Str × Addr)) (x : Str) (M : List Str) : Prop where
  kind : scope.kind = .function
  nocell : ∀ y ∈ scope.names, y.2 ≠ .cell
  names : ∀ y ∈ scope.names, y.2 = .local → scope.names.lookup y.1 = some .local
  hx : scope.names.lookup x = some .local
  clos : closureFor scope X.env = pure cl
  sub : ∀ y c, cl.lookup y = some c → X.env.cells.lookup y = some c
  has : ∀ y, scope.names.lookup y = some .free → ∃ c, cl.lookup y = some c
  up : ∀ y, scope.names.lookup y = some .free → X.env.kindOf y = some .cell ∨ X.env.kindOf y = some .free
  len : M.length = X.N.length
  nd : (x :: M).Nodup
  slot : ∀ (i : Nat) (y : Str), M[i]? = some y → scope.names.lookup y = none ∨ scope.names.lookup y = some .globalImplicit ∨ (scope.names.lookup y = some .free ∧ X.N[i]? = some y)
noncomputable def compCx (X : Cx) (scope : Scope) (cl : List (Str × Addr)) (x : Str) (M : List Str) (fp : List Addr) (pins : List (Addr × Obj)) (s : Shared) (H : Hp) : Cx :=
  { X with N := x :: M, s₀ := s, H₀ := H, env := compEnvC scope cl s.heap.objs.size X.env, outer := X.stack, stack := X.stack, ex := fp, fn := fun _ => false, pn := X.pn ++ pins, xe := fun _ _ => False }
section
variable {X : Cx} {pins : List (Addr × Obj)} {σ : St} {H : Hp} {s : Shared} {scope : Scope} {cl : List (Str × Addr)} {x : Str} {M : List Str} {fp : List Addr}
theorem comp_ok (I : Inv X pins σ H s) (S : CSc X scope cl x M) (hf : ∀ b ∈ fp, FpOk X pins H b ∧ b < s.heap.objs.size) : (compCx X scope cl x M fp pins s H).Ok where
  mod := I.ok.mod
  kind := S.kind
  glob := I.ok.glob
  blt := I.ok.blt
  above := Nat.le_refl _
  inj := fun y z c h1 h2 => I.ok.inj y z c (S.sub y c h1) (S.sub z c h2)
  has := fun y h => by
    have : scope.names.lookup y = some .free := by
      rcases h with h | h
      · rcases lookup_relabel_vis h with e | ⟨_, e⟩
        · obtain ⟨k, hk⟩ : ∃ p, p ∈ scope.names ∧ p.2 = .cell := by
            exact absurd e (fun e => by
              have := List.lookup_eq_some_iff.mp e
              obtain ⟨l1, l2, e2, _⟩ := this
              exact S.nocell (y, .cell) (by rw [e2]; simp) rfl)
          exact absurd hk.2 (S.nocell _ hk.1)
        · exact e
      · rcases lookup_relabel_vis h with e | ⟨e, _⟩
        · exact e
        · cases e
    exact S.has y this
  cab := fun y c h _ => by cases h
  hd := I.ok.hd
  frames := I.ok.frames
  stk := .inl rfl
  exf := fun b hb => ⟨Nat.ne_of_lt (hf b hb).2, fun y c h => (hf b hb).1.2.2.2.2.1 y c (S.sub y c h)⟩
  bs := I.bs
  bsz := Nat.le_trans I.ok.bsz I.sz
  noex := fun b o e hb => by
    rcases (hf b hb).1.2.2.2.1 with h | h
    · exact I.ok.noex b o e h
    · exact absurd (Nat.lt_of_lt_of_le (Heap.lt_size e) I.ok.bsz) (Nat.not_lt.mpr h)
  exfs := fun b hb hm => by
    have h := I.stkSub b hm
    rcases List.mem_cons.mp h with h | h
    · exact (hf b hb).1.2.1 h
    · exact (hf b hb).1.2.2.1 h
  funs := I.stack
  frf := fun b hb => I.stkFree b hb
theorem comp_inv {h' : Heap} {t' : Nat} {m0 : Str → Option Value} {o : Option V} (ho : o = none) (I : Inv X pins σ H s) (S : CSc X scope cl x M) (hf : ∀ b ∈ fp, FpOk X pins H b ∧ b < s.heap.objs.size) (hns : h'.Ns s.heap.objs.size m0)
    (hk : ∀ b u, s.heap.get? b = some u → h'.get? b = some u) : Inv (compCx X scope cl x M fp pins s H) [] (o :: σ) H { s with heap := h', toks := t' } where
  ok := comp_ok I S hf
  os := rfl
  bare := I.bare
  base := Un.kept hk
  loc := by
    refine ⟨m0, hns, fun i y v e1 e2 e3 => ?_⟩
    cases i with
    | zero => subst ho; simp at e2
    | succ i =>
      have e1' : M[i]? = some y := e1
      have e2' : σ[i]? = some (some v) := e2
      have vis : scope.names.lookup y = some .free ∧ X.N[i]? = some y := by
        rcases S.slot i y e1' with h | h | h
        · exfalso
          rcases e3 with q | q | q <;> rcases lookup_relabel_vis q with e | ⟨_, e⟩ <;> rw [h] at e <;> cases e
        · exfalso
          rcases e3 with q | q | q <;> rcases lookup_relabel_vis q with e | ⟨_, e⟩ <;> rw [h] at e <;> cases e
        · exact h
      obtain ⟨m, hn, hl⟩ := I.loc
      have up := S.up y vis.1
      have vx : Vis X.env.scope y := by
        rcases up with q | q
        · exact .inr (.inl q)
        · exact .inr (.inr q)
      obtain ⟨u, r, lk⟩ := hl i y v vis.2 e2' vx
      refine ⟨u, r, .inr ⟨?_, ?_⟩⟩
      · exact lookup_relabel_free vis.1
      · obtain ⟨c, hc⟩ := S.has y vis.1
        rcases lk with ⟨q, _⟩ | ⟨_, c', hc', ic⟩
        · exfalso
          rcases up with z | z <;> rw [z] at q <;> cases q
        · rw [S.sub y c hc] at hc'
          cases hc'
          exact ⟨c, hc, ic.keeps hk⟩
  cell := fun y c h => by
    obtain ⟨v, hv⟩ := I.cell y c (S.sub y c h)
    exact ⟨v, hv.keeps hk⟩
  free := I.hok.fresh (Nat.le_refl _)
  freeC := fun y c h => I.freeC y c (S.sub y c h)
  pin := fun p hp => by
    have hp' : p ∈ X.pn ++ pins := by
      have z : p ∈ (X.pn ++ pins) ++ [] := hp
      rwa [List.append_nil] at z
    obtain ⟨h1, h2, h3, h4, h5⟩ := I.pin p hp'
    refine ⟨hk _ _ h1, h2, Nat.ne_of_lt (Heap.lt_size h1), fun hm => ?_, h5⟩
    rcases List.mem_cons.mp (I.stkSub _ hm) with q | q
    · exact h3 q
    · exact h4 q
  hok := I.hok.kept hk
  len := by
    show σ.length + 1 = M.length + 1
    rw [I.len, S.len]
end
noncomputable def PTs (X : Cx) (ifs : List Expr) (t : TT) : Prop :=
  ∀ (pins : List (Addr × Obj)) (s : Shared) (σ : St) (H : Hp) (Q : Bool → Hp → Prop), Inv X pins σ H s → t σ H Q →
    wpAny (model X.prog X.w) X.A (forIn ifs true fun c r => if r = true then do let ok ← isTrue c X.env (eval c X.env); pure (ForInStep.yield ok) else pure (ForInStep.yield r)) (TP X pins σ Q) X.xe s
noncomputable def tYes : TT := fun _ H Q => Q true H
theorem pts_nil {X : Cx} : PTs X [] tYes := fun pins s σ H Q I h => wpAny_tests_nil ⟨H, I, h⟩
theorem pts_one {X : Cx} {c : Expr} {t : TT} (h : PT X c t) : PTs X [c] t := fun pins s σ H Q I q => wpAny_tests_one (h pins s σ H Q I q)
noncomputable def tComp (wi : TI) (ti : TT) (te : TE) : TE := fun σ H Q => wi σ H fun J H1 => ∀ D, H1 D = none → ∃ W : Nat → Nat → List V → Hp → Prop, (∃ m, W 0 m [] (upd H1 D (.lst []))) ∧ ∀ i m ys H2, W i m ys H2 →
  (J.stop i H2 ∧ Q (.ref D) H2) ∨ (J.go i H2 ∧ ∀ x H3, J.yld i H2 x H3 → ti (some x :: σ) H3 fun b H4 =>
    if b = true then te (some x :: σ) H4 fun y H5 => H5 D = some (.lst ys) ∧ ys.length < sizeLine ∧ ∃ m', m' < m ∧ W (i + 1) m' (ys ++ [y]) (upd H5 D (.lst (ys ++ [y]))) else ∃ m', m' < m ∧ W (i + 1) m' ys H4)
noncomputable def CQ (X : Cx) (pins : List (Addr × Obj)) (σ : St) (Q : VK) (acc : Value) (C : Addr) (r : Result) (s' : Shared) : Prop := match r with
  | .ok _ => ∃ D H', acc = .ref D ∧ Inv X pins σ H' s' ∧ Q (.ref D) H' ∧ (∃ m, s'.heap.Ns C m) ∧ FpOk X pins H' C
  | .error _ => False
section
variable {X : Cx} {elt iter : Expr} {ifs : List Expr} {scope : Scope} {cl : List (Str × Addr)} {x : Str} {px pos : Pos} {M : List Str} {wi : TI} {ti : TT} {te : TE}
theorem comp_core (hc : X.calm = true) (hi : PI X (.Name x px) iter wi) (S : CSc X scope cl x M)
    (ht : ∀ fp pins s H, PTs (compCx X scope cl x M fp pins s H) ifs ti) (he : ∀ fp pins s H, PE (compCx X scope cl x M fp pins s H) elt te)
    {pins : List (Addr × Obj)} {σ : St} {H : Hp} {s : Shared} {Q : VK} (I : Inv X pins σ H s) (h : tComp wi ti te σ H Q) :
    wpAny (model X.prog X.w) X.A (eval iter X.env) (fun xv s₁ => wpAny (model X.prog X.w) X.A (pyIter xv) (fun itv s₂ => wpAny (model X.prog X.w) X.A (newList []) (fun acc s₃ =>
      wpAny (model X.prog X.w) X.A (newFunctionEnv scope X.env.globals cl [] X.env.qual none .none (some X.env)) (fun cenv s₄ =>
        codeAny (model X.prog X.w) X.A (.compStart (.ListComp elt [⟨.Name x px, iter, ifs, 0⟩] scope pos) 0 itv acc { cenv with scope := relabel scope X.env }) (CQ X pins σ Q acc cenv.locals) s₄) X.xe s₃) X.xe s₂) X.xe s₁) X.xe s := by
  refine thn (hi pins s σ H _ I h) fun v s1 h1 => thn h1 fun itv s2 h2 => ?_
  obtain ⟨it, fp, tn, J, H2, e, I2, T, st2, f2, q2⟩ := h2
  subst e
  obtain ⟨W, ⟨m0, w0⟩, turn⟩ := q2 s2.heap.objs.size (I2.hok.fresh (Nat.le_refl _))
  refine wpAny_newObj_type ?_
  have I3 : Inv X pins σ (upd H2 s2.heap.objs.size (.lst [])) { s2 with heap := s2.heap.push { cls := .type "list", dict := none, data := .seq ([] : List Value).toArray } } := I2.lnew (its := []) (ys := []) .nil (Nat.zero_le _)
  have hlt2 : ∀ b ∈ fp, b < s2.heap.objs.size := fun b hb => by
    obtain ⟨o, eo, _⟩ := T.obj _ _ st2 b hb
    exact Heap.lt_size eo
  have hfp3 : ∀ b ∈ fp, FpOk X pins (upd H2 s2.heap.objs.size (.lst [])) b ∧ b < (s2.heap.push { cls := .type "list", dict := none, data := .seq ([] : List Value).toArray }).objs.size := fun b hb =>
    ⟨⟨by rw [upd_ne (Nat.ne_of_lt (hlt2 b hb))]; exact (f2 b hb).1, (f2 b hb).2⟩, by rw [Heap.size_push]; exact Nat.lt_succ_of_lt (hlt2 b hb)⟩
  have st3 : tn 0 (s2.heap.push { cls := .type "list", dict := none, data := .seq ([] : List Value).toArray }) := T.keep _ _ _ st2 fun b _ o eo => Heap.get?_push_of_some _ eo
  generalize hD : s2.heap.objs.size = D at *
  generalize hs3 : ({ s2 with heap := s2.heap.push { cls := .type "list", dict := none, data := .seq ([] : List Value).toArray } } : Shared) = s3 at *
  have eh : s2.heap.push { cls := .type "list", dict := none, data := .seq ([] : List Value).toArray } = s3.heap := by rw [← hs3]
  rw [eh] at hfp3 st3
  generalize upd H2 D (.lst []) = H3 at *
  refine wpAny_newFunctionEnv S.nocell (by intro y hy; simp at hy) (fun h4 hns4 hsb4 => ?_) S.kind
  have hk4 : ∀ b u, s3.heap.get? b = some u → h4.get? b = some u := fun b u eb => hsb4.extBut b u (Nat.ne_of_lt (Heap.lt_size eb)) (Heap.get?_push_of_some _ eb)
  have I4 := comp_inv (x := x) (M := M) (cl := cl) (scope := scope) (fp := fp) (t' := s3.toks + ([] : List (Str × Value)).length) (o := none) rfl I3 S hfp3 hns4 hk4
  have st4 : tn 0 h4 := T.keep _ _ _ st3 fun b _ o eo => hk4 b o eo
  have hcc : (compCx X scope cl x M fp pins s3 H3).calm = true := hc
  have stat : ∀ {H' : Hp}, (∀ b ∈ fp, H' b = none) → ∀ b ∈ fp, FpOk (compCx X scope cl x M fp pins s3 H3) [] H' b := fun {H'} hn b hb => by
    have f := (hfp3 b hb).1
    refine ⟨hn b hb, Nat.ne_of_lt (hfp3 b hb).2, fun hm => ?_, .inl hb, fun y c hy => f.2.2.2.2.1 y c (S.sub y c hy), fun p hp => ?_⟩
    · rcases List.mem_cons.mp (I3.stkSub b hm) with q | q
      · exact f.2.1 q
      · exact f.2.2.1 q
    · refine f.2.2.2.2.2 p ?_
      have z : p ∈ (X.pn ++ pins) ++ [] := hp
      rwa [List.append_nil] at z
  have back : ∀ {o : Option V} {H' : Hp} {s' : Shared}, Inv (compCx X scope cl x M fp pins s3 H3) [] (o :: σ) H' s' → Inv X pins σ H' s' ∧ (∃ m, s'.heap.Ns s3.heap.objs.size m) ∧ FpOk X pins H' s3.heap.objs.size := fun {o H' s'} I' => by
    refine ⟨I3.call' (ch := fp) I'.os I'.base I'.hok I'.bare fun b hb => ?_, ?_, I3.fpOk (Nat.le_refl _) I'.free⟩
    · have f := (hfp3 b hb).1
      exact ⟨f.2.2.2.1, f.2.1, f.2.2.2.2.1, f.2.2.2.2.2⟩
    · obtain ⟨m, hn, _⟩ := I'.loc
      exact ⟨m, hn⟩
  have loop : codeAny (model X.prog X.w) X.A (.compLoop (.ListComp elt [⟨.Name x px, iter, ifs, 0⟩] scope pos) 0 (.ref it) (.ref D) (compEnvC scope cl s3.heap.objs.size X.env)) (CQ X pins σ Q (.ref D) s3.heap.objs.size)
      { s3 with heap := h4, toks := s3.toks + ([] : List (Str × Value)).length } := by
    refine comp_loop (fun n s' => ∃ i o ys H', Inv (compCx X scope cl x M fp pins s3 H3) [] (o :: σ) H' s' ∧ tn i s'.heap ∧ (∀ b ∈ fp, H' b = none) ∧ W i n ys H') ?_ m0 ⟨0, none, [], H3, I4, st4, fun b hb => (hfp3 b hb).1.1, w0⟩
    rintro n s5 ⟨i, o, ys, H5, I5, st5, fr5, w5⟩
    rcases turn i n ys H5 w5 with ⟨stop, qn⟩ | ⟨go, step⟩
    · refine thn (T.done (compCx X scope cl x M fp pins s3 H3) rfl rfl rfl hcc i [] s5 (o :: σ) H5 _ I5 (stat fr5) st5 stop) fun r s6 ⟨hr, I6⟩ => ?_
      subst hr
      obtain ⟨b1, b2, b3⟩ := back I6
      exact ⟨D, H5, rfl, b1, qn, b2, b3⟩
    · refine thn (T.item (compCx X scope cl x M fp pins s3 H3) rfl rfl rfl hcc i [] s5 (o :: σ) H5 _ I5 (stat fr5) st5 go) fun r s6 ⟨u, hr, h6⟩ => ?_
      subst hr
      refine thn h6 fun _ s7 ⟨y, H7, I7, r7, y7, st7, fr7⟩ => ?_
      have I7' := I7.pinned (stat fr7) (T.obj _ _ st7)
      have hN0 : (compCx X scope cl x M fp pins s3 H3).N[0]? = some x := rfl
      have hloc : Loc (compCx X scope cl x M fp pins s3 H3).env.scope x := .inl (lookup_relabel_local S.hx)
      refine wpAny_assign_Name (store_ok I7' S.nd hN0 hloc r7 (fun s8 I8 => ?_) (.inr (lookup_relabel_local S.hx)))
      have I8' : Inv (compCx X scope cl x M fp pins s3 H3) ([] ++ pinsAt fp s7.heap) (some y :: σ) H7 s8 := I8
      have again : ∀ {H9 : Hp} {s9 : Shared} {ys' : List V} {m' : Nat}, m' < n → Inv (compCx X scope cl x M fp pins s3 H3) ([] ++ pinsAt fp s7.heap) (some y :: σ) H9 s9 → W (i + 1) m' ys' H9 →
          ∃ m, m < n ∧ ∃ i o ys H', Inv (compCx X scope cl x M fp pins s3 H3) [] (o :: σ) H' s9 ∧ tn i s9.heap ∧ (∀ b ∈ fp, H' b = none) ∧ W i m ys H' := fun {H9 s9 ys' m'} hm I9 w9 => by
        refine ⟨m', hm, i + 1, some y, ys', H9, I9.unpinned, T.keep _ _ _ st7 fun b hb oo eo => (I9.pin (b, oo) (List.mem_append_right _ (List.mem_append_right _ (mem_pinsAt hb eo)))).1, fun b hb => ?_, w9⟩
        obtain ⟨oo, eo, _⟩ := T.obj _ _ st7 b hb
        exact (I9.pin (b, oo) (List.mem_append_right _ (List.mem_append_right _ (mem_pinsAt hb eo)))).2.1
      refine thn (ht fp pins s3 H3 _ s8 (some y :: σ) H7 _ I8' (step y H7 y7)) fun ok s9 ⟨H9, I9, q9⟩ => ?_
      cases ok with
      | false =>
        rw [if_neg (by simp)] at q9 ⊢
        obtain ⟨m', hm, w9⟩ := q9
        exact again hm I9 w9
      | true =>
        rw [if_pos rfl] at q9 ⊢
        refine thn (he fp pins s3 H3 _ s9 (some y :: σ) H9 _ I9 q9) fun z s10 ⟨zv, H10, I10, r10, hd10, hz10, m', hm, w10⟩ => ?_
        refine thn (mt_append _ s10 (some y :: σ) H10 (.ref D) [zv] (.ref D) [z] (fun _ H' => ∃ m', m' < n ∧ W (i + 1) m' (ys ++ [zv]) H') I10 rfl (.cons r10 .nil) ⟨D, ys, zv, rfl, rfl, hd10, hz10, m', hm, w10⟩) fun _ s11 ⟨_, H11, I11, _, m2, hm2, w11⟩ => ?_
        exact again hm2 I11 w11
  exact codeAny_compStart_list loop (T.self _ 0 _ _ _ st4 loop)
theorem pe_comp (hc : X.calm = true) (hi : PI X (.Name x px) iter wi) (S : CSc X scope cl x M)
    (ht : ∀ fp pins s H, PTs (compCx X scope cl x M fp pins s H) ifs ti) (he : ∀ fp pins s H, PE (compCx X scope cl x M fp pins s H) elt te)
    (hs : ∀ x, foldedSetIterable iter X.env x = pure x := by intro _; rfl) : PE X (.ListComp elt [⟨.Name x px, iter, ifs, 0⟩] scope pos) (tComp wi ti te) := by
  intro pins s σ H Q I h
  rw [eval_ListComp]
  refine wpAny_comprehension_free (use := none) rfl hs S.clos S.kind S.names (wpAny_mono (comp_core (pos := pos) hc hi S ht he I h) (fun xv s1 h1 => wpAny_mono h1 (fun itv s2 h2 => wpAny_mono h2 (fun acc s3 h3 => wpAny_mono h3 (fun cenv s4 h4 => codeAny_mono h4 fun r s5 h5 => ?_) fun _ _ e => e) fun _ _ e => e) fun _ _ e => e) fun _ _ e => e)
  cases r with
  | error e => exact h5.elim
  | ok f =>
    obtain ⟨D, H', rfl, I5, q5, ⟨m, hn⟩, f5⟩ := h5
    refine ⟨m, hn, fun h' hsb => ⟨.ref D, H', ?_, rfl, q5⟩⟩
    exact I5.turned (t' := s5.toks) (fun b o hb eb => hsb.extBut b o hb eb) f5.1 f5.2.1 f5.2.2.2.1 f5.2.2.2.2.1 f5.2.2.2.2.2
theorem ps_setC {i : Nat} {y : Str} {py spos : Pos} (hN : X.N.Nodup) (hiy : X.N[i]? = some y) (hy : Loc X.env.scope y) (hc : X.calm = true) (hi : PI X (.Name x px) iter wi) (S : CSc X scope cl x M)
    (ht : ∀ fp pins s H, PTs (compCx X scope cl x M fp pins s H) ifs ti) (he : ∀ fp pins s H, PE (compCx X scope cl x M fp pins s H) elt te)
    (hsw : swapsWith (.ListComp elt [⟨.Name x px, iter, ifs, 0⟩] scope pos) (some (.Name y py)) spos.line X.env = pure true) (hs : ∀ x, foldedSetIterable iter X.env x = pure x := by intro _; rfl)
    (hf : X.fn y = true ∨ X.env.scope.names.lookup y = some .local := by first | exact .inl rfl | exact .inr rfl | assumption) :
    PS X (.Assign [.Name y py] (.ListComp elt [⟨.Name x px, iter, ifs, 0⟩] scope pos) spos) (tAsg (tComp wi ti te) (gName i)) := by
  intro pins s σ H D I h
  rw [exec_Assign_Name_used _ _ _ _ hsw]
  refine wpAny_bind (wpAny_standAt (wpAny_bind ?_))
  show wpAny _ X.A (do let _ ← comprehension (.ListComp elt [⟨.Name x px, iter, ifs, 0⟩] scope pos) scope X.env _ (newList []) false (eval iter X.env) (some (assign (.Name y py) X.env))) _ _ s
  refine wpAny_bind (wpAny_mono (wpAny_comprehension_free (use := some (assign (.Name y py) X.env)) (Q := fun _ s' => SP X pins D .next s') rfl hs S.clos S.kind S.names
    (wpAny_mono (comp_core (pos := pos) hc hi S ht he I h) (fun xv s1 h1 => wpAny_mono h1 (fun itv s2 h2 => wpAny_mono h2 (fun acc s3 h3 => wpAny_mono h3 (fun cenv s4 h4 => codeAny_mono h4 fun r s5 h5 => ?_) fun _ _ e => e) fun _ _ e => e) fun _ _ e => e) fun _ _ e => e)) (fun _ s' hq => wpAny_pure (wpAny_pure hq)) fun _ _ e => e)
  cases r with
  | error e => exact h5.elim
  | ok f =>
    obtain ⟨E, H', rfl, I5, q5, ⟨m, hn⟩, f5⟩ := h5
    refine wpAny_assign_Name (store_ok2 I5 hN hiy hy (v := .ref E) rfl (fun s6 I6 hsb => ?_) hf)
    obtain ⟨a, hsb, ha⟩ := hsb
    have hca : cenv.locals ≠ a := by
      rcases ha with ha | ha
      · rw [ha]; exact f5.2.1
      · exact fun z => f5.2.2.2.2.1 y a ha z.symm
    refine ⟨m, hn.sameBut hsb hca, fun h' hsb' => ⟨_, H', ?_, q5⟩⟩
    exact I6.turned (t' := s6.toks) (fun b o hb eb => hsb'.extBut b o hb eb) f5.1 f5.2.1 f5.2.2.2.1 f5.2.2.2.2.1 f5.2.2.2.2.2
end
noncomputable def clOf (env : Env) : List (Str × NameKind) → List (Str × Addr) → List (Str × Addr)
  | [], cs => cs
  | (n, k) :: r, cs => clOf env r (if k == .free then (n, (env.cells.lookup n).getD 0) :: cs else cs)
theorem closure_of {scope : Scope} {env : Env} (h : ∀ p ∈ scope.names, p.2 = .free → ∃ c, env.cells.lookup p.1 = some c) : closureFor scope env = pure (clOf env scope.names []) := by
  simp only [closureFor]
  suffices ∀ (l : List (Str × NameKind)) (cs : List (Str × Addr)), (∀ p ∈ l, p.2 = .free → ∃ c, env.cells.lookup p.1 = some c) →
      (forIn l cs fun x r => match x with
        | (name, kind) => if (kind == NameKind.free) = true then do let a ← cellOf env name; pure (ForInStep.yield ((name, a) :: r)) else pure (ForInStep.yield r)) = (pure (clOf env l cs) : Sem (List (Str × Addr))) by
    rw [this _ _ h]; rfl
  intro l
  induction l with
  | nil => intro cs _; rfl
  | cons p r ih =>
    obtain ⟨n, k⟩ := p
    intro cs hp
    rw [List.forIn_cons]
    by_cases hk : (k == NameKind.free) = true
    · have hk' : k = .free := by simpa using hk
      obtain ⟨c, hc⟩ := hp (n, k) (List.mem_cons_self ..) hk'
      simp only [hk, if_true, cellOf, hc]
      rw [clOf, if_pos hk, hc]
      exact ih _ fun q hq => hp q (List.mem_cons_of_mem _ hq)
    · simp only [hk, if_false]
      rw [clOf, if_neg hk]
      exact ih _ fun q hq => hp q (List.mem_cons_of_mem _ hq)
theorem clOf_sub {env : Env} : ∀ (l : List (Str × NameKind)) (cs : List (Str × Addr)), (∀ p ∈ l, p.2 = .free → ∃ c, env.cells.lookup p.1 = some c) → (∀ y c, cs.lookup y = some c → env.cells.lookup y = some c) →
    ∀ y c, (clOf env l cs).lookup y = some c → env.cells.lookup y = some c
  | [], cs, _, h, y, c, e => h y c e
  | (n, k) :: r, cs, hp, h, y, c, e => by
    rw [clOf] at e
    refine clOf_sub r _ (fun q hq => hp q (List.mem_cons_of_mem _ hq)) ?_ y c e
    intro z d hz
    by_cases hk : (k == NameKind.free) = true
    · rw [if_pos hk, List.lookup_cons] at hz
      have hk' : k = .free := by simpa using hk
      obtain ⟨c', hc'⟩ := hp (n, k) (List.mem_cons_self ..) hk'
      cases hzn : z == n with
      | true =>
        rw [hzn] at hz
        have : z = n := by simpa using hzn
        rw [this]
        simp only [hc', Option.getD_some, Option.some.injEq] at hz
        rw [hc', hz]
      | false => rw [hzn] at hz; exact h z d hz
    · rw [if_neg hk] at hz; exact h z d hz
theorem clOf_has {env : Env} {y : Str} : ∀ (l : List (Str × NameKind)) (cs : List (Str × Addr)), ((∃ c, cs.lookup y = some c) ∨ (y, NameKind.free) ∈ l) → ∃ c, (clOf env l cs).lookup y = some c
  | [], cs, h => by
    rcases h with h | h
    · exact h
    · simp at h
  | (n, k) :: r, cs, h => by
    rw [clOf]
    refine clOf_has r _ ?_
    rcases h with ⟨c, hc⟩ | h
    · left
      by_cases hk : (k == NameKind.free) = true
      · rw [if_pos hk, List.lookup_cons]
        cases y == n with
        | true => exact ⟨_, rfl⟩
        | false => exact ⟨c, hc⟩
      · rw [if_neg hk]; exact ⟨c, hc⟩
    · rcases List.mem_cons.mp h with e | e
      · cases e
        left
        rw [if_pos (beq_self_eq_true _), List.lookup_cons, beq_self_eq_true]
        exact ⟨_, rfl⟩
      · exact .inr e
theorem mem_of_lookup {l : List (Str × NameKind)} {y : Str} {k : NameKind} (h : l.lookup y = some k) : (y, k) ∈ l := by
  obtain ⟨l1, l2, e, _⟩ := List.lookup_eq_some_iff.mp h
  rw [e]; simp
noncomputable def cscB (scF scope : Scope) (x : Str) (N M : List Str) : Bool :=
  scope.names.all (fun p => p.2 != .cell) && scope.names.all (fun p => p.2 != .local || scope.names.lookup p.1 == some .local) && scope.names.lookup x == some .local &&
  scope.names.all (fun p => p.2 != .free || scF.names.lookup p.1 == some .cell) && M.length == N.length &&
  (N.zip M).all (fun p => match scope.names.lookup p.2 with | none => true | some .globalImplicit => true | some .free => p.1 == p.2 | _ => false)
theorem csc_of {CX : CXT} {P : Program} {w : World} {K : PySem.W.Frag} {mg : Str → Option Value} {base : Heap} {N : List Str} {qual : Str} {scF scope : Scope} {f : Addr} {cd : Value} {A : Around} {outer : List Env} {s : Shared} {H : Hp} {E : XK} {x : Str} {M : List Str}
    (hk : scope.kind = .function) (hb : cscB scF scope x N M = true) (hnd : (x :: M).Nodup) :
    CSc (cxOf CX P w K mg base N qual scF f cd A outer s H E).nox scope (clOf (envOfC qual scF s.heap.objs.size f cd) scope.names []) x M := by
  simp only [cscB, Bool.and_eq_true, List.all_eq_true, beq_iff_eq] at hb
  obtain ⟨⟨⟨⟨⟨h1, h2⟩, h3⟩, h4⟩, h5⟩, h6⟩ := hb
  have hcell : ∀ p ∈ scope.names, p.2 = .free → scF.names.lookup p.1 = some .cell := fun p hp hf => by
    have := h4 p hp
    rw [hf] at this
    simpa using this
  have hfc : ∀ p ∈ scope.names, p.2 = .free → ∃ c, (envOfC qual scF s.heap.objs.size f cd).cells.lookup p.1 = some c := fun p hp hf => cell_has (hcell p hp hf)
  refine ⟨hk, fun p hp => by simpa using h1 p hp, fun p hp hl => ?_, h3, closure_of hfc, clOf_sub _ _ hfc (fun _ _ e => by simp at e), fun y hy => clOf_has _ _ (.inr (mem_of_lookup hy)), fun y hy => .inl (hcell (y, .free) (mem_of_lookup hy) rfl), h5, hnd, fun i y hy => ?_⟩
  · have := h2 p hp
    rw [hl] at this
    simpa using this
  · obtain ⟨hi, hg⟩ := List.getElem?_eq_some_iff.mp hy
    have hiN : i < N.length := by omega
    have hz : (N[i], y) ∈ N.zip M := by
      have : (N.zip M)[i]? = some (N[i], y) := by
        rw [List.getElem?_zip_eq_some]
        exact ⟨List.getElem?_eq_getElem hiN, hy⟩
      exact List.mem_of_getElem? this
    have h := h6 _ hz
    simp only at h
    cases hq : scope.names.lookup y with
    | none => exact .inl rfl
    | some k =>
      rw [hq] at h
      cases k with
      | globalImplicit => exact .inr (.inl rfl)
      | free =>
        have e : N[i] = y := by simpa using h
        exact .inr (.inr ⟨rfl, by show N[i]? = some y; rw [List.getElem?_eq_getElem hiN, e]⟩)
      | _ => simp at h
theorem ix_listK {X : Cx} {K : PySem.W.Frag} (h : X.K = K) : IxR X (rIxL K) := by subst h; exact ix_list
noncomputable def tCompIn (J : It) (D : Addr) (ti : TT) (te : TE) (σ : St) (Q : VK) (H1 : Hp) : Prop := ∃ W : Nat → Nat → List V → Hp → Prop, (∃ m, W 0 m [] (upd H1 D (.lst []))) ∧ ∀ i m ys H2, W i m ys H2 →
  (J.stop i H2 ∧ Q (.ref D) H2) ∨ (J.go i H2 ∧ ∀ x H3, J.yld i H2 x H3 → ti (some x :: σ) H3 fun b H4 =>
    if b = true then te (some x :: σ) H4 fun y H5 => H5 D = some (.lst ys) ∧ ys.length < sizeLine ∧ ∃ m', m' < m ∧ W (i + 1) m' (ys ++ [y]) (upd H5 D (.lst (ys ++ [y]))) else ∃ m', m' < m ∧ W (i + 1) m' ys H4)
section
variable {σ : St} {H : Hp} {Q : VK} {ti : TT} {te ta : TE} {tr : TA} {K : PySem.W.Frag}
theorem rd_compT : tComp (iTup K ta) ti te σ H Q = ta σ H fun x H1 => ∃ a, x = .ref a ∧ (∃ xs, SqT K H1 a xs) ∧ ∀ D, H1 D = none → tCompIn (Itt K a) D ti te σ Q H1 := rfl
theorem rd_compL : tComp (iList K ta) ti te σ H Q = ta σ H fun x H1 => ∃ a, x = .ref a ∧ (∃ xs, SqL K H1 a xs) ∧ ∀ D, H1 D = none → tCompIn (Itl K a) D ti te σ Q H1 := rfl
theorem rd_compR : tComp (iRng1 tr) ti te σ H Q = tr σ H fun vs H1 => ∃ j : Int, vs = [.int j] ∧ -(2 ^ 62) ≤ j ∧ j < 2 ^ 62 ∧ ∀ D, H1 D = none → tCompIn (Itr 0 j.toNat) D ti te σ Q H1 := rfl
theorem rd_tyes {R : Bool → Hp → Prop} : tYes σ H R = R true H := rfl
end
theorem comp_list {K : PySem.W.Frag} {a D : Addr} {xs : List V} {ti : TT} {te : TE} {σ : St} {H1 : Hp} {Q : VK} (Pv : Nat → List V → Hp → Prop) (h0 : Pv 0 [] (upd H1 D (.lst []))) (hl : ∀ i ys H, i ≤ xs.length → Pv i ys H → SqL K H a xs)
    (hs : ∀ i x ys H, xs[i]? = some x → Pv i ys H → ti (some x :: σ) H fun b H4 => if b = true then te (some x :: σ) H4 fun y H5 => H5 D = some (.lst ys) ∧ ys.length < sizeLine ∧ ∃ m', m' < xs.length - i ∧ (m' = xs.length - (i + 1) ∧ i + 1 ≤ xs.length ∧ Pv (i + 1) (ys ++ [y]) (upd H5 D (.lst (ys ++ [y])))) else ∃ m', m' < xs.length - i ∧ (m' = xs.length - (i + 1) ∧ i + 1 ≤ xs.length ∧ Pv (i + 1) ys H4))
    (hd : ∀ ys H, Pv xs.length ys H → Q (.ref D) H) : tCompIn (Itl K a) D ti te σ Q H1 := by
  refine ⟨fun i m ys H => m = xs.length - i ∧ i ≤ xs.length ∧ Pv i ys H, ⟨xs.length, by simp, Nat.zero_le _, h0⟩, ?_⟩
  rintro i m ys H ⟨rfl, hi, p⟩
  have q := hl i ys H hi p
  by_cases hlt : i < xs.length
  · refine .inr ⟨⟨xs, xs[i], q, by simp [hlt]⟩, fun x H' y => ?_⟩
    obtain ⟨e, y⟩ := y
    subst e
    exact hs i x ys _ (y xs q) p
  · have e : i = xs.length := by omega
    subst e
    exact .inl ⟨⟨xs, q, Nat.le_refl _⟩, hd ys H p⟩
theorem comp_range {n : Nat} {D : Addr} {ti : TT} {te : TE} {σ : St} {H1 : Hp} {Q : VK} (Pv : Nat → List V → Hp → Prop) (h0 : Pv 0 [] (upd H1 D (.lst [])))
    (hs : ∀ i ys H, i < n → Pv i ys H → ti (some (.int (0 + (i : Nat))) :: σ) H fun b H4 => if b = true then te (some (.int (0 + (i : Nat))) :: σ) H4 fun y H5 => H5 D = some (.lst ys) ∧ ys.length < sizeLine ∧ ∃ m', m' < n - i ∧ (m' = n - (i + 1) ∧ i + 1 ≤ n ∧ Pv (i + 1) (ys ++ [y]) (upd H5 D (.lst (ys ++ [y])))) else ∃ m', m' < n - i ∧ (m' = n - (i + 1) ∧ i + 1 ≤ n ∧ Pv (i + 1) ys H4))
    (hd : ∀ ys H, Pv n ys H → Q (.ref D) H) : tCompIn (Itr 0 n) D ti te σ Q H1 := by
  refine ⟨fun i m ys H => m = n - i ∧ i ≤ n ∧ Pv i ys H, ⟨n, by simp, Nat.zero_le _, h0⟩, ?_⟩
  rintro i m ys H ⟨rfl, hi, p⟩
  by_cases hlt : i < n
  · refine .inr ⟨hlt, fun x H' y => ?_⟩
    obtain ⟨e, rfl⟩ := y
    subst e
    exact hs i ys _ hlt p
  · have e : i = n := by omega
    subst e
    exact .inl ⟨Nat.le_refl _, hd ys H p⟩
end L2
end
section
set_option Elab.async false
set_option linter.all false
set_option maxRecDepth 100000
set_option maxHeartbeats 4000000
namespace L2
open PySem PySem.Spec PyProof.Rows
noncomputable def CodeO (c : Addr) (q : Str) : HO := .ext fun h => h.CodeRec (.ref c) q
noncomputable def TabAt (H : Hp) (P : Addr) (pos : Pos) (q : Str) : Prop :=
  ∃ ps : Array Value, H P = some (.tbl ps) ∧ TriplesOk ps.toList ∧ (codeAmong pos ps.toList = none ∨ ∃ c, codeAmong pos ps.toList = some (.ref c) ∧ H c = some (CodeO c q))
section
variable {X : Cx} {pins : List (Addr × Obj)} {σ : St} {H : Hp} {s : Shared} {A : Around} {E : Value → Shared → Prop}
end
end L2
end
section
set_option Elab.async false
set_option linter.all false
set_option maxRecDepth 100000
set_option maxHeartbeats 4000000
namespace L2
open PySem PySem.Spec PyProof.Rows
section
variable {P : Program} {w : World} {K : PySem.W.Frag} {mg : Str → Option Value} {base : Heap}
end
end L2
end
section
set_option Elab.async false
set_option linter.all false
set_option maxRecDepth 100000
set_option maxHeartbeats 4000000
namespace L2
open PySem PySem.Spec PyProof.Rows
end L2
end
section
set_option Elab.async false
set_option linter.all false
set_option maxRecDepth 100000
namespace L2
open PySem PySem.Spec PyProof.Rows
noncomputable def Itv (K : PySem.W.Frag) (a : Addr) (n : Nat) : It :=
  ⟨fun i H => ∃ xs x, SqL K H a xs ∧ xs.length = n ∧ i < n ∧ xs[n - 1 - i]? = some x, fun i H x H' => H' = H ∧ ∀ xs, SqL K H a xs → xs[n - 1 - i]? = some x, fun i H => n ≤ i⟩
theorem turn_rev {P : Program} {w : World} {K : PySem.W.Frag} {tg : Expr} (a it : Addr) (n : Nat) : Turn P w K tg (Itv K a n) [it] it (fun i h => i ≤ n ∧ h.IsRevIter it a ((n : Int) - 1 - (i : Int))) where
  mem := by simp
  obj := fun i h st b hb => by
    have e : b = it := by simpa using hb
    subst e
    obtain ⟨_, o, e, c, d⟩ := st
    exact ⟨o, e, fun v z => by rw [d] at z; cases z⟩
  keep := fun i h h' st k => ⟨st.1, st.2.at fun o e => k it (by simp) o e⟩
  item := by
    intro X hP hw hK hc i pins s σ H E I hf st hg
    subst hP hw hK
    obtain ⟨xs, x, hq, hl, hi, hx⟩ := hg
    obtain ⟨its, rv, p, hz⟩ := I.list hq
    obtain ⟨u, hu, ru⟩ := rv.get hx
    obtain ⟨f0, f1, f2, f3, f4, f5⟩ := hf it (by simp)
    have st2 : s.heap.IsRevIter it a (((n - 1 - i : Nat) : Int)) := by
      rw [show (((n - 1 - i : Nat) : Int)) = (n : Int) - 1 - (i : Int) by omega]; exact st.2
    refine wpAny_pyNext_rev_item st2 p.isList (x := u) (by simpa using hu) fun h' st' sb => ?_
    have I1 : Inv X pins σ H { s with heap := h' } := I.turned (t' := s.toks) (fun b o hb e => (sb.2 b hb).trans e) f0 f1 f3 f4 f5
    obtain ⟨o, e, c, d⟩ := id st'
    refine ⟨u, rfl, go_of (s := { s with heap := h' }) e c d (by decide) ⟨x, H, I1, ru, ⟨rfl, fun ys hy => by rw [I.list_inj hy hq]; exact hx⟩, ⟨hi, ?_⟩, fun b hb => (hf b hb).1⟩⟩
    rw [show (n : Int) - 1 - ((i + 1 : Nat) : Int) = ((n - 1 - i : Nat) : Int) - 1 by omega]; exact st'
  done := by
    intro X hP hw hK hc i pins s σ H E I hf st hg
    subst hP hw hK
    obtain ⟨f0, f1, f2, f3, f4, f5⟩ := hf it (by simp)
    have hg : n ≤ i := hg
    have h1 := st.1
    have st2 : s.heap.IsRevIter it a (-1) := by
      have := st.2
      rwa [show (n : Int) - 1 - (i : Int) = -1 by omega] at this
    exact wpAny_pyNext_rev_end (I.ok.hd hc) st2 fun h' eb => ⟨rfl, I.turned (t' := s.toks) (fun b o hb e => eb b o hb e) f0 f1 f3 f4 f5⟩
  self := fun A i s Q E st q => wpAny_pyIter_revIter st.2 q
noncomputable def iRev (K : PySem.W.Frag) (tr : TA) : TI := fun σ H R => tr σ H fun vs H1 => ∃ a xs, vs = [.ref a] ∧ SqL K H1 a xs ∧ R (Itv K a xs.length) H1
theorem pi_rev {X : Cx} {tg : Expr} {x : Str} {p pos : Pos} {e : Expr} {t : TA} (hg : Gl X x) (hm : X.mg x = none) (hv : bootBuiltins x = some (.type "reversed")) (ha : PA X [e] t) (hn : x ≠ "__name__" := by decide) (hdb : (x == ("__debug__" : Str)) = false := by decide)
    (he : starEach [e] X.env = (false, eval e X.env) :: starEach [] X.env := by rfl) (hpl : (backTo pos (starEach [] X.env)).any (·.1) = false := by rfl) : PI X tg (.Call (.Name x p) [e] [] pos) (iRev X.K t) := by
  intro pins s σ H R I h
  refine wpAny_Call_Name_kw (ld_blt I hg hm hv ?_ hn hdb)
  refine PyProof.Rows.callWith_type1 (thn (ha pos pins s σ H _ I h) fun us s1 ⟨vs, H1, I1, r, q⟩ => ?_) he hpl
  obtain ⟨a, xs, rfl, hq, q⟩ := q
  obtain ⟨u, rfl, rx⟩ := vals1 r
  cases (show u = Value.ref a from rx)
  obtain ⟨its, rv, pl, hz⟩ := I1.list hq
  have hlen := rv.length
  refine call_reversed_list pl.isList ?_
  have I2 : Inv X pins σ H1 { s1 with heap := s1.heap.push (revObj a ((its.toArray.size : Int) - 1)) } := I1.kept (t' := s1.toks) fun b o e => Heap.get?_push_of_some _ e
  have ri : (s1.heap.push (revObj a ((its.toArray.size : Int) - 1))).IsRevIter s1.heap.objs.size a ((xs.length : Int) - 1 - ((0 : Nat) : Int)) := ⟨_, Heap.get?_push_size _ rfl, rfl, by rw [List.size_toArray, ← hlen]; simp [revObj]⟩
  refine wpAny_pyIter_revIter ri ?_
  refine ⟨s1.heap.objs.size, [s1.heap.objs.size], _, _, H1, rfl, I2, turn_rev a _ xs.length, ⟨Nat.zero_le _, ri⟩, fun b hb => ?_, q⟩
  have e : b = s1.heap.objs.size := by simpa using hb
  subst e
  exact I1.fpOk (Nat.le_refl _) (I1.hok.fresh (Nat.le_refl _))
theorem rd_forV {K : PySem.W.Frag} {g : TG} {tb : TS} {tr : TA} {D : Ends} {σ : St} {H : Hp} : tFor (iRev K tr) g tb D σ H = tr σ H fun vs H1 => ∃ a xs, vs = [.ref a] ∧ SqL K H1 a xs ∧ tForIn (Itv K a xs.length) g tb D σ H1 := rfl
theorem for_rev {K : PySem.W.Frag} {a : Addr} {xs : List V} {g : TG} {tb : TS} {D : Ends} {σ : St} {H : Hp} (Pv : Nat → St → Hp → Prop) (h0 : Pv 0 σ H) (hl : ∀ i σ H, i ≤ xs.length → Pv i σ H → SqL K H a xs)
    (hs : ∀ i x σ H, xs.reverse[i]? = some x → Pv i σ H → g x σ H fun σ2 H2 => tb { D with nx := Pv (i + 1), ct := Pv (i + 1), bk := D.nx } σ2 H2) (hd : ∀ σ H, Pv xs.length σ H → D.nx σ H) :
    tForIn (Itv K a xs.length) g tb D σ H := by
  refine ⟨fun i m σ H => m = xs.length - i ∧ i ≤ xs.length ∧ Pv i σ H, ⟨xs.length, by simp, Nat.zero_le _, h0⟩, ?_⟩
  rintro i m σ H ⟨rfl, hi, p⟩
  have q := hl i σ H hi p
  by_cases hlt : i < xs.length
  · have hx : xs[xs.length - 1 - i]? = some (xs[xs.length - 1 - i]'(by omega)) := List.getElem?_eq_getElem (by omega)
    refine .inr ⟨⟨xs, _, q, rfl, hlt, hx⟩, fun σ' H' => Pv (i + 1) σ' H', fun σ' H' h => ⟨xs.length - (i + 1), by omega, rfl, hlt, h⟩, ?_⟩
    rintro x H' ⟨rfl, hy⟩
    refine hs i x σ H' ?_ p
    rw [List.getElem?_reverse hlt]
    exact hy xs q
  · have e : i = xs.length := by omega
    subst e
    exact .inl ⟨Nat.le_refl _, hd σ H p⟩
end L2
end
section
set_option Elab.async false
set_option linter.all false
namespace CN
structure Nd where
  sw : Int
  off : Nat
  on : Nat
  deriving DecidableEq
noncomputable abbrev Set1 := Int → Bool
noncomputable def put (ρ : Set1) (s : Int) (b : Bool) : Set1 := fun t => if t = s then b else ρ t
noncomputable def stepV (ρ : Set1) (vs : List Bool) (nd : Nd) : List Bool := vs ++ [vs.getD (if ρ nd.sw then nd.on else nd.off) false]
noncomputable def vals (ρ : Set1) (ns : List Nd) : List Bool := ns.foldl (stepV ρ) [false, true]
noncomputable def val (ns : List Nd) (p : Nat) (ρ : Set1) : Bool := (vals ρ ns).getD p false
theorem foldV (ρ : Set1) : ∀ (ms : List Nd) (vs : List Bool), ∃ t, ms.foldl (stepV ρ) vs = vs ++ t ∧ t.length = ms.length
  | [], vs => ⟨[], by simp⟩
  | nd :: ms, vs => by
    obtain ⟨t, h1, h2⟩ := foldV ρ ms (stepV ρ vs nd)
    refine ⟨vs.getD (if ρ nd.sw then nd.on else nd.off) false :: t, ?_, by simp [h2]⟩
    rw [List.foldl_cons, h1, stepV, List.append_assoc]
    rfl
theorem vals_len (ρ : Set1) (ns : List Nd) : (vals ρ ns).length = ns.length + 2 := by
  obtain ⟨t, h1, h2⟩ := foldV ρ ns [false, true]
  unfold vals
  rw [h1, List.length_append, h2]
  simp only [List.length_cons, List.length_nil]
  omega
theorem vals_app (ρ : Set1) (ns ms : List Nd) : ∃ t, vals ρ (ns ++ ms) = vals ρ ns ++ t ∧ t.length = ms.length := by
  obtain ⟨t, h1, h2⟩ := foldV ρ ms (vals ρ ns)
  exact ⟨t, by unfold vals at *; rw [List.foldl_append]; exact h1, h2⟩
theorem val_app (ρ : Set1) (ns ms : List Nd) {p : Nat} (h : p < ns.length + 2) : val (ns ++ ms) p ρ = val ns p ρ := by
  obtain ⟨t, h1, _⟩ := vals_app ρ ns ms
  unfold val
  rw [h1, List.getD_eq_getElem?_getD, List.getElem?_append_left (by rw [vals_len]; exact h), ← List.getD_eq_getElem?_getD]
theorem val_no (ns : List Nd) (ρ : Set1) : val ns 0 ρ = false := by
  have h := val_app ρ [] ns (p := 0) (by simp)
  rw [List.nil_append] at h
  rw [h]; rfl
theorem val_yes (ns : List Nd) (ρ : Set1) : val ns 1 ρ = true := by
  have h := val_app ρ [] ns (p := 1) (by simp)
  rw [List.nil_append] at h
  rw [h]; rfl
theorem val_last (ns : List Nd) (nd : Nd) (ρ : Set1) (h1 : nd.off < ns.length + 2) (h2 : nd.on < ns.length + 2) :
    val (ns ++ [nd]) (ns.length + 2) ρ = val (ns ++ [nd]) (if ρ nd.sw then nd.on else nd.off) ρ := by
  have e : vals ρ (ns ++ [nd]) = vals ρ ns ++ [(vals ρ ns).getD (if ρ nd.sw then nd.on else nd.off) false] := by
    unfold vals; rw [List.foldl_append]; rfl
  have hc : (if ρ nd.sw then nd.on else nd.off) < ns.length + 2 := by split <;> assumption
  rw [val_app ρ ns [nd] hc]
  unfold val
  rw [e, List.getD_eq_getElem?_getD, List.getElem?_append_right (by rw [vals_len]; exact Nat.le_refl _), vals_len, Nat.sub_self]
  rfl
theorem val_node {ns : List Nd} {i : Nat} {nd : Nd} (e : ns[i]? = some nd) (h1 : nd.off < i + 2) (h2 : nd.on < i + 2) (ρ : Set1) :
    val ns (i + 2) ρ = val ns (if ρ nd.sw then nd.on else nd.off) ρ := by
  obtain ⟨hi, hg⟩ := List.getElem?_eq_some_iff.mp e
  have hs : ns = (ns.take i ++ [nd]) ++ ns.drop (i + 1) := by
    rw [← hg, List.take_append_getElem hi, List.take_append_drop]
  have hl : (ns.take i).length = i := by rw [List.length_take]; omega
  have k := val_last (ns.take i) nd ρ (by rw [hl]; exact h1) (by rw [hl]; exact h2)
  rw [hl] at k
  have hl2 : (ns.take i ++ [nd]).length = i + 1 := by rw [List.length_append, hl]; rfl
  have hc : (if ρ nd.sw then nd.on else nd.off) < i + 2 := by split <;> assumption
  have k1 := val_app ρ (ns.take i ++ [nd]) (ns.drop (i + 1)) (p := i + 2) (by rw [hl2]; omega)
  have k2 := val_app ρ (ns.take i ++ [nd]) (ns.drop (i + 1)) (p := if ρ nd.sw then nd.on else nd.off) (by rw [hl2]; omega)
  rw [← hs] at k1 k2
  rw [k1, k2]
  exact k
noncomputable def Above (ns : List Nd) (b : Int) (p : Nat) : Prop := p < 2 ∨ ∃ nd, ns[p - 2]? = some nd ∧ b < nd.sw
structure Net (ns : List Nd) : Prop where
  ord : ∀ (i : Nat) (nd : Nd), ns[i]? = some nd → nd.off < i + 2 ∧ nd.on < i + 2 ∧ nd.off ≠ nd.on ∧ Above ns nd.sw nd.off ∧ Above ns nd.sw nd.on
  one : ∀ (i j : Nat) (nd : Nd), ns[i]? = some nd → ns[j]? = some nd → i = j
theorem Above.mono {ns : List Nd} {b c : Int} {p : Nat} (h : Above ns b p) (k : c ≤ b) : Above ns c p := by
  rcases h with h | ⟨nd, e, h⟩
  · exact .inl h
  · exact .inr ⟨nd, e, by omega⟩
theorem Above.app {ns : List Nd} {b : Int} {p : Nat} (h : Above ns b p) (ms : List Nd) : Above (ns ++ ms) b p := by
  rcases h with h | ⟨nd, e, h⟩
  · exact .inl h
  · exact .inr ⟨nd, by rw [List.getElem?_append_left (List.getElem?_eq_some_iff.mp e).1]; exact e, h⟩
theorem node_of {ns : List Nd} {p : Nat} (h : p < ns.length + 2) (h2 : ¬ p < 2) : ∃ nd, ns[p - 2]? = some nd ∧ p - 2 + 2 = p := by
  have hl : p - 2 < ns.length := by omega
  exact ⟨ns[p - 2], List.getElem?_eq_getElem hl, by omega⟩
theorem Net.at {ns : List Nd} (N : Net ns) {p : Nat} {nd : Nd} (e : ns[p - 2]? = some nd) (h2 : ¬ p < 2) (ρ : Set1) :
    val ns p ρ = val ns (if ρ nd.sw then nd.on else nd.off) ρ := by
  obtain ⟨a, b, _⟩ := N.ord _ _ e
  have h := val_node e a b ρ
  have e2 : p - 2 + 2 = p := by omega
  rw [e2] at h
  exact h
theorem Net.indep {ns : List Nd} (N : Net ns) {ρ ρ' : Set1} {b : Int} (hs : ∀ t, b < t → ρ t = ρ' t) : ∀ (n p : Nat), p < n → p < ns.length + 2 → Above ns b p → val ns p ρ = val ns p ρ'
  | 0, _, h, _, _ => absurd h (Nat.not_lt_zero _)
  | n + 1, p, h, hp, ha => by
    by_cases h2 : p < 2
    · have : p = 0 ∨ p = 1 := by omega
      rcases this with rfl | rfl
      · rw [val_no, val_no]
      · rw [val_yes, val_yes]
    · rcases ha with ha | ⟨nd, e, hb⟩
      · exact absurd ha h2
      · obtain ⟨o1, o2, _, a1, a2⟩ := N.ord _ _ e
        rw [N.at e h2 ρ, N.at e h2 ρ', hs nd.sw hb]
        cases ρ' nd.sw with
        | true => exact N.indep hs n _ (by simp only [if_true]; omega) (by simp only [if_true]; omega) (a2.mono (by omega))
        | false => exact N.indep hs n _ (by simp only [Bool.false_eq_true, if_false]; omega) (by simp only [Bool.false_eq_true, if_false]; omega) (a1.mono (by omega))
theorem put_self (ρ : Set1) (s : Int) (b : Bool) : put ρ s b s = b := by unfold put; rw [if_pos rfl]
theorem put_gt (ρ : Set1) (s : Int) (b : Bool) : ∀ t, s < t → put ρ s b t = ρ t := fun t h => by unfold put; rw [if_neg (by omega)]
theorem Net.offOn {ns : List Nd} (N : Net ns) {p : Nat} {nd : Nd} (e : ns[p - 2]? = some nd) (h2 : ¬ p < 2) (ρ : Set1) :
    val ns nd.off ρ = val ns p (put ρ nd.sw false) ∧ val ns nd.on ρ = val ns p (put ρ nd.sw true) := by
  obtain ⟨o1, o2, _, a1, a2⟩ := N.ord _ _ e
  have hl : p - 2 < ns.length := (List.getElem?_eq_some_iff.mp e).1
  refine ⟨?_, ?_⟩
  · rw [N.at e h2, put_self, if_neg (by simp)]
    exact (N.indep (put_gt ρ nd.sw false) _ nd.off (Nat.lt_succ_self _) (by omega) a1).symm
  · rw [N.at e h2, put_self, if_pos rfl]
    exact (N.indep (put_gt ρ nd.sw true) _ nd.on (Nat.lt_succ_self _) (by omega) a2).symm
theorem Net.canon {ns : List Nd} (N : Net ns) : ∀ (n p q : Nat), p < n → q < n → p < ns.length + 2 → q < ns.length + 2 → (∀ ρ, val ns p ρ = val ns q ρ) → p = q
  | 0, _, _, h, _, _, _, _ => absurd h (Nat.not_lt_zero _)
  | n + 1, p, q, hp, hq, lp, lq, e => by
    have key : ∀ x y : Nat, x < n + 1 → y < n + 1 → x < ns.length + 2 → y < ns.length + 2 → (∀ ρ, val ns x ρ = val ns y ρ) → ∀ nd, ns[x - 2]? = some nd → ¬ x < 2 → Above ns nd.sw y → False := by
      intro x y hx hy lx ly exy nd en h2 ha
      obtain ⟨o1, o2, ne, a1, a2⟩ := N.ord _ _ en
      refine ne (N.canon n nd.off nd.on (by omega) (by omega) (by omega) (by omega) fun ρ => ?_)
      obtain ⟨f1, f2⟩ := N.offOn en h2 ρ
      rw [f1, f2, exy, exy]
      rw [N.indep (put_gt ρ nd.sw false) _ y (Nat.lt_succ_self _) ly ha, N.indep (put_gt ρ nd.sw true) _ y (Nat.lt_succ_self _) ly ha]
    by_cases p2 : p < 2
    · by_cases q2 : q < 2
      · have h := e (fun _ => false)
        have h1 : p = 0 ∨ p = 1 := by omega
        have h3 : q = 0 ∨ q = 1 := by omega
        rcases h1 with rfl | rfl <;> rcases h3 with rfl | rfl
        · rfl
        · rw [val_no, val_yes] at h; exact absurd h (by decide)
        · rw [val_no, val_yes] at h; exact absurd h (by decide)
        · rfl
      · obtain ⟨nd, en, _⟩ := node_of lq q2
        exact (key q p hq hp lq lp (fun ρ => (e ρ).symm) nd en q2 (.inl p2)).elim
    · obtain ⟨nd, en, _⟩ := node_of lp p2
      by_cases q2 : q < 2
      · exact (key p q hp hq lp lq e nd en p2 (.inl q2)).elim
      · obtain ⟨md, em, _⟩ := node_of lq q2
        rcases Int.lt_trichotomy nd.sw md.sw with h | h | h
        · exact (key p q hp hq lp lq e nd en p2 (.inr ⟨md, em, h⟩)).elim
        · obtain ⟨o1, o2, ne, a1, a2⟩ := N.ord _ _ en
          obtain ⟨u1, u2, ne', b1, b2⟩ := N.ord _ _ em
          have g1 : nd.off = md.off := N.canon n _ _ (by omega) (by omega) (by omega) (by omega) fun ρ => by
            rw [(N.offOn en p2 ρ).1, (N.offOn em q2 ρ).1, e, h]
          have g2 : nd.on = md.on := N.canon n _ _ (by omega) (by omega) (by omega) (by omega) fun ρ => by
            rw [(N.offOn en p2 ρ).2, (N.offOn em q2 ρ).2, e, h]
          have g3 : nd = md := by cases nd; cases md; simp only at h g1 g2; subst h g1 g2; rfl
          rw [g3] at en
          have := N.one _ _ _ en em
          omega
        · exact (key q p hq hp lq lp (fun ρ => (e ρ).symm) md em q2 (.inr ⟨nd, en, h⟩)).elim
end CN
end
section
set_option Elab.async false
set_option linter.all false
namespace CN
open PySem
noncomputable def tr : Stm → Set1 → Bool
  | .yes, _ => true
  | .no, _ => false
  | .sw n, ρ => ρ n
  | .nt a, ρ => !tr a ρ
  | .an a b, ρ => tr a ρ && tr b ρ
  | .og a b, ρ => tr a ρ || tr b ρ
  | .al n a, ρ => tr a (put ρ n false) && tr a (put ρ n true)
  | .sm n a, ρ => tr a (put ρ n false) || tr a (put ρ n true)
noncomputable abbrev Pl (ns : List Nd) (p : Nat) : Prop := p < ns.length + 2
noncomputable def Ext (ns ns' : List Nd) : Prop := ∃ ms, ns' = ns ++ ms
theorem Ext.refl (ns : List Nd) : Ext ns ns := ⟨[], by simp⟩
theorem Ext.trans {a b c : List Nd} (h : Ext a b) (k : Ext b c) : Ext a c := by
  obtain ⟨x, rfl⟩ := h; obtain ⟨y, rfl⟩ := k
  exact ⟨x ++ y, by rw [List.append_assoc]⟩
theorem Ext.pl {a b : List Nd} (h : Ext a b) {p : Nat} (k : Pl a p) : Pl b p := by
  obtain ⟨x, rfl⟩ := h
  unfold Pl at *
  rw [List.length_append]; omega
theorem Ext.val {a b : List Nd} (h : Ext a b) {p : Nat} (k : Pl a p) (ρ : Set1) : val b p ρ = val a p ρ := by
  obtain ⟨x, rfl⟩ := h
  exact val_app ρ a x k
theorem Net.aboveOf {ns : List Nd} (N : Net ns) {p : Nat} {b : Int} (hp : Pl ns p) (h : ∀ ρ ρ' : Set1, (∀ t, b < t → ρ t = ρ' t) → val ns p ρ = val ns p ρ') : Above ns b p := by
  by_cases p2 : p < 2
  · exact .inl p2
  · obtain ⟨nd, en, _⟩ := node_of hp p2
    by_cases hb : b < nd.sw
    · exact .inr ⟨nd, en, hb⟩
    · exfalso
      obtain ⟨o1, o2, ne, a1, a2⟩ := N.ord _ _ en
      have hl : p - 2 < ns.length := (List.getElem?_eq_some_iff.mp en).1
      refine ne (N.canon (p + 1) nd.off nd.on (by omega) (by omega) (by omega) (by omega) fun ρ => ?_)
      obtain ⟨f1, f2⟩ := N.offOn en p2 ρ
      rw [f1, f2]
      refine h _ _ fun t ht => ?_
      rw [put_gt ρ _ _ t (by omega), put_gt ρ _ _ t (by omega)]
theorem Net.snoc {ns : List Nd} (N : Net ns) {nd : Nd} (h1 : Pl ns nd.off) (h2 : Pl ns nd.on) (ne : nd.off ≠ nd.on) (a1 : Above ns nd.sw nd.off) (a2 : Above ns nd.sw nd.on) (hn : ∀ i : Nat, ns[i]? ≠ some nd) : Net (ns ++ [nd]) where
  ord := fun i m e => by
    by_cases hi : i < ns.length
    · rw [List.getElem?_append_left hi] at e
      obtain ⟨x1, x2, x3, x4, x5⟩ := N.ord i m e
      exact ⟨x1, x2, x3, x4.app _, x5.app _⟩
    · rw [List.getElem?_append_right (by omega)] at e
      have : i - ns.length = 0 := by
        cases q : i - ns.length with
        | zero => rfl
        | succ k => rw [q] at e; simp at e
      rw [this] at e
      simp only [List.getElem?_cons_zero, Option.some.injEq] at e
      subst e
      have : i = ns.length := by omega
      subst this
      exact ⟨h1, h2, ne, a1.app _, a2.app _⟩
  one := fun i j m e f => by
    have key : ∀ k : Nat, (ns ++ [nd])[k]? = some m → (k < ns.length ∧ ns[k]? = some m) ∨ (k = ns.length ∧ m = nd) := fun k g => by
      by_cases hk : k < ns.length
      · rw [List.getElem?_append_left hk] at g; exact .inl ⟨hk, g⟩
      · rw [List.getElem?_append_right (by omega)] at g
        cases q : k - ns.length with
        | zero =>
          rw [q] at g
          simp only [List.getElem?_cons_zero, Option.some.injEq] at g
          exact .inr ⟨by omega, g.symm⟩
        | succ z => rw [q] at g; simp at g
    rcases key i e with ⟨a, b⟩ | ⟨a, b⟩ <;> rcases key j f with ⟨c, d⟩ | ⟨c, d⟩
    · exact N.one i j m b d
    · subst d; exact absurd b (hn i)
    · subst b; exact absurd d (hn j)
    · omega
structure Made (ns : List Nd) (s : Int) (off on : Nat) (ns' : List Nd) (r : Nat) : Prop where
  net : Net ns'
  ext : Ext ns ns'
  pl : Pl ns' r
  say : ∀ ρ, val ns' r ρ = val ns (if ρ s then on else off) ρ
  len : ns'.length ≤ ns.length + 1
  sws : ∀ nd ∈ ns', nd ∈ ns ∨ nd.sw = s
theorem made_same {ns : List Nd} (N : Net ns) {s : Int} {p : Nat} (h : Pl ns p) : Made ns s p p ns p :=
  ⟨N, .refl _, h, fun ρ => by rw [ite_self], Nat.le_succ _, fun nd h => .inl h⟩
theorem made_old {ns : List Nd} (N : Net ns) {nd : Nd} {i : Nat} (e : ns[i]? = some nd) : Made ns nd.sw nd.off nd.on ns (i + 2) :=
  ⟨N, .refl _, by have := (List.getElem?_eq_some_iff.mp e).1; unfold Pl; omega, fun ρ => val_node e (N.ord i nd e).1 (N.ord i nd e).2.1 ρ, Nat.le_succ _, fun nd h => .inl h⟩
theorem made_new {ns : List Nd} (N : Net ns) {nd : Nd} (h1 : Pl ns nd.off) (h2 : Pl ns nd.on) (ne : nd.off ≠ nd.on) (a1 : Above ns nd.sw nd.off) (a2 : Above ns nd.sw nd.on) (hn : ∀ i : Nat, ns[i]? ≠ some nd) :
    Made ns nd.sw nd.off nd.on (ns ++ [nd]) (ns.length + 2) :=
  ⟨N.snoc h1 h2 ne a1 a2 hn, ⟨[nd], rfl⟩, by unfold Pl; rw [List.length_append]; simp only [List.length_cons, List.length_nil]; omega,
    fun ρ => by rw [val_last ns nd ρ h1 h2]; exact val_app ρ ns [nd] (by split <;> assumption), by rw [List.length_append]; exact Nat.le_refl _, fun m h => by
      rcases List.mem_append.mp h with h | h
      · exact .inl h
      · rw [List.mem_singleton] at h; rw [h]; exact .inr rfl⟩
structure Ite (ns : List Nd) (t y n r : Nat) : Prop where
  pl : Pl ns r
  say : ∀ ρ, val ns r ρ = if val ns t ρ then val ns y ρ else val ns n ρ
structure Stl (ns : List Nd) (p : Nat) (s : Int) (b : Bool) (r : Nat) : Prop where
  pl : Pl ns r
  say : ∀ ρ, val ns r ρ = val ns p (put ρ s b)
structure Means (ns : List Nd) (r : Nat) (a : Stm) : Prop where
  pl : Pl ns r
  say : ∀ ρ, val ns r ρ = tr a ρ
end CN
end
section
set_option Elab.async false
set_option linter.all false
namespace CN
open PySem
structure Ws where
  num : Nat → Option Nat
  out : List Nd
noncomputable def w0 : Ws := ⟨fun p => if p = 0 then some 0 else if p = 1 then some 1 else none, []⟩
noncomputable def Ws.add (w : Ws) (p : Nat) (nd : Nd) : Ws :=
  ⟨fun q => if q = p then some (w.out.length + 2) else w.num q, w.out ++ [⟨nd.sw, (w.num nd.off).getD 0, (w.num nd.on).getD 0⟩]⟩
noncomputable def visit (ns : List Nd) : Nat → Nat → Ws → Ws
  | 0, _, w => w
  | k + 1, p, w => if (w.num p).isSome then w else match ns[p - 2]? with
    | none => w
    | some nd => (visit ns k nd.on (visit ns k nd.off w)).add p nd
theorem visit_old {ns : List Nd} {k p : Nat} {w : Ws} (h : (w.num p).isSome = true) : visit ns k p w = w := by
  cases k with
  | zero => rfl
  | succ k => rw [visit, if_pos h]
theorem visit_new {ns : List Nd} {k p : Nat} {w : Ws} {nd : Nd} (h : w.num p = none) (e : ns[p - 2]? = some nd) : visit ns (k + 1) p w = (visit ns k nd.on (visit ns k nd.off w)).add p nd := by
  rw [visit, if_neg (by rw [h]; simp), e]
theorem Ws.add_self (w : Ws) (p : Nat) (nd : Nd) : (w.add p nd).num p = some (w.out.length + 2) := by simp [Ws.add]
theorem Ws.add_other (w : Ws) {p q : Nat} (nd : Nd) (h : q ≠ p) : (w.add p nd).num q = w.num q := by simp [Ws.add, h]
structure Good (ns : List Nd) (w : Ws) : Prop where
  n0 : w.num 0 = some 0
  n1 : w.num 1 = some 1
  net : Net w.out
  say : ∀ (p x : Nat), w.num p = some x → Pl ns p ∧ Pl w.out x ∧ ∀ ρ, val w.out x ρ = val ns p ρ
  sur : ∀ x : Nat, x < w.out.length + 2 → ∃ p : Nat, w.num p = some x
theorem not2 {ns : List Nd} {p : Nat} {w : Ws} (g : Good ns w) (hn : w.num p = none) : ¬ p < 2 := fun q => by
  have : p = 0 ∨ p = 1 := by omega
  rcases this with rfl | rfl
  · rw [g.n0] at hn; cases hn
  · rw [g.n1] at hn; cases hn
theorem Net.below {ns : List Nd} (N : Net ns) {p : Nat} {nd : Nd} (hp : Pl ns p) (e : ns[p - 2]? = some nd) (p2 : ¬ p < 2) : nd.off < p ∧ nd.on < p ∧ Pl ns nd.off ∧ Pl ns nd.on := by
  obtain ⟨o1, o2, _⟩ := N.ord _ _ e
  have e2 : p - 2 + 2 = p := by omega
  rw [e2] at o1 o2
  exact ⟨o1, o2, Nat.lt_trans o1 hp, Nat.lt_trans o2 hp⟩
theorem Net.way {ns : List Nd} (N : Net ns) {p : Nat} (hp : Pl ns p) (p2 : ¬ p < 2) : ∃ nd, ns[p - 2]? = some nd ∧ nd.off < p ∧ nd.on < p ∧ Pl ns nd.off ∧ Pl ns nd.on := by
  obtain ⟨nd, e, _⟩ := node_of hp p2
  exact ⟨nd, e, N.below hp e p2⟩
theorem lt_fuel {a p k : Nat} (h : a < p) (k1 : p < k + 1) : a < k := Nat.lt_of_lt_of_le h (Nat.le_of_lt_succ k1)
theorem Net.same {ns : List Nd} (N : Net ns) {p q : Nat} (hp : Pl ns p) (hq : Pl ns q) (e : ∀ ρ, val ns p ρ = val ns q ρ) : p = q := N.canon (p + q + 1) p q (Nat.lt_succ_of_le (Nat.le_add_right _ _)) (Nat.lt_succ_of_le (Nat.le_add_left _ _)) hp hq e
theorem net_nil : Net [] := ⟨fun i nd e => by simp at e, fun i j nd e => by simp at e⟩
theorem good0 (ns : List Nd) : Good ns w0 where
  n0 := rfl
  n1 := rfl
  net := net_nil
  say := fun p x e => by
    by_cases h : p = 0
    · subst h
      have : x = 0 := by simpa [w0] using e.symm
      subst this
      exact ⟨by unfold Pl; omega, by unfold Pl; omega, fun ρ => by rw [val_no, val_no]⟩
    · by_cases h1 : p = 1
      · subst h1
        have : x = 1 := by simpa [w0] using e.symm
        subst this
        exact ⟨by unfold Pl; omega, by unfold Pl; omega, fun ρ => by rw [val_yes, val_yes]⟩
      · simp [w0, h, h1] at e
  sur := fun x h => by
    have : x = 0 ∨ x = 1 := by simp only [w0, List.length_nil] at h; omega
    rcases this with rfl | rfl
    · exact ⟨0, rfl⟩
    · exact ⟨1, rfl⟩
theorem Good.add {ns : List Nd} (N : Net ns) {w : Ws} (g : Good ns w) {p : Nat} {nd : Nd} (e : ns[p - 2]? = some nd) (p2 : ¬ p < 2) (hp : w.num p = none) (h1 : (w.num nd.off).isSome = true) (h2 : (w.num nd.on).isSome = true) : Good ns (w.add p nd) := by
  obtain ⟨x, hx⟩ := Option.isSome_iff_exists.mp h1
  obtain ⟨y, hy⟩ := Option.isSome_iff_exists.mp h2
  obtain ⟨lo, lx, sx⟩ := g.say _ _ hx
  obtain ⟨ln, ly, sy⟩ := g.say _ _ hy
  obtain ⟨o1, o2, ne, a1, a2⟩ := N.ord _ _ e
  have hl : p - 2 < ns.length := (List.getElem?_eq_some_iff.mp e).1
  have lp : Pl ns p := by unfold Pl; omega
  have eo : (w.add p nd).out = w.out ++ [⟨nd.sw, x, y⟩] := by simp [Ws.add, hx, hy]
  have hne : x ≠ y := fun q => ne (N.same lo ln fun ρ => by rw [← sx, ← sy, q])
  have b1 : Above w.out nd.sw x := g.net.aboveOf lx fun ρ ρ' h => by rw [sx, sx]; exact N.indep h _ _ (Nat.lt_succ_self _) lo a1
  have b2 : Above w.out nd.sw y := g.net.aboveOf ly fun ρ ρ' h => by rw [sy, sy]; exact N.indep h _ _ (Nat.lt_succ_self _) ln a2
  have hnew : ∀ i : Nat, w.out[i]? ≠ some ⟨nd.sw, x, y⟩ := fun i q => by
    have li : i < w.out.length := (List.getElem?_eq_some_iff.mp q).1
    obtain ⟨p', hp'⟩ := g.sur (i + 2) (by omega)
    obtain ⟨lp', _, sp'⟩ := g.say _ _ hp'
    obtain ⟨i1, i2, _⟩ := g.net.ord _ _ q
    have : p' = p := N.same lp' lp fun ρ => by
      rw [← sp', val_node q i1 i2, N.at e p2]
      simp only
      cases ρ nd.sw with
      | true => rw [if_pos rfl, if_pos rfl, sy]
      | false => rw [if_neg (by simp), if_neg (by simp), sx]
    subst this
    rw [hp] at hp'; cases hp'
  have m := made_new g.net (nd := ⟨nd.sw, x, y⟩) lx ly hne b1 b2 hnew
  have p0 : p ≠ 0 := by omega
  have p1 : p ≠ 1 := by omega
  refine ⟨?_, ?_, ?_, ?_, ?_⟩
  · rw [Ws.add_other _ _ (Ne.symm p0)]; exact g.n0
  · rw [Ws.add_other _ _ (Ne.symm p1)]; exact g.n1
  · rw [eo]; exact m.net
  · intro q z hq
    rw [eo]
    by_cases hqp : q = p
    · subst hqp
      rw [Ws.add_self] at hq
      cases hq
      refine ⟨lp, m.pl, fun ρ => ?_⟩
      rw [m.say, N.at e p2]
      simp only
      cases ρ nd.sw with
      | true => rw [if_pos rfl, if_pos rfl, sy]
      | false => rw [if_neg (by simp), if_neg (by simp), sx]
    · rw [Ws.add_other _ _ hqp] at hq
      obtain ⟨k1, k2, k3⟩ := g.say _ _ hq
      exact ⟨k1, m.ext.pl k2, fun ρ => by rw [m.ext.val k2]; exact k3 ρ⟩
  · intro z hz
    rw [eo, List.length_append] at hz
    simp only [List.length_cons, List.length_nil] at hz
    by_cases hz2 : z < w.out.length + 2
    · obtain ⟨q, hq⟩ := g.sur z hz2
      refine ⟨q, ?_⟩
      rw [Ws.add_other _ _ (by rintro rfl; rw [hp] at hq; cases hq)]
      exact hq
    · exact ⟨p, by rw [Ws.add_self]; congr 1; omega⟩
theorem visit_ok {ns : List Nd} (N : Net ns) : ∀ (k p : Nat) (w : Ws), p < k → Pl ns p → Good ns w →
    Good ns (visit ns k p w) ∧ ((visit ns k p w).num p).isSome = true ∧ (∀ q x : Nat, w.num q = some x → (visit ns k p w).num q = some x) ∧ ∀ q : Nat, p < q → (visit ns k p w).num q = w.num q
  | 0, _, _, h, _, _ => absurd h (Nat.not_lt_zero _)
  | k + 1, p, w, h, hp, g => by
    by_cases hs : (w.num p).isSome = true
    · rw [visit_old hs]; exact ⟨g, hs, fun _ _ e => e, fun _ _ => rfl⟩
    · have hn : w.num p = none := by simpa using hs
      have p2 := not2 g hn
      obtain ⟨nd, e, o1, o2, l1, l2⟩ := N.way hp p2
      rw [visit_new hn e]
      obtain ⟨g1, s1, k1, u1⟩ := visit_ok N k nd.off w (lt_fuel o1 h) l1 g
      obtain ⟨g2, s2, k2, u2⟩ := visit_ok N k nd.on _ (lt_fuel o2 h) l2 g1
      have hn2 : (visit ns k nd.on (visit ns k nd.off w)).num p = none := by rw [u2 p o2, u1 p o1, hn]
      have s1' : ((visit ns k nd.on (visit ns k nd.off w)).num nd.off).isSome = true := by
        obtain ⟨x, hx⟩ := Option.isSome_iff_exists.mp s1
        rw [k2 _ _ hx]; rfl
      refine ⟨g2.add N e p2 hn2 s1' s2, by rw [Ws.add_self]; rfl, fun q x hq => ?_, fun q hq => ?_⟩
      · rw [Ws.add_other _ _ (by rintro rfl; rw [hn] at hq; cases hq)]
        exact k2 _ _ (k1 _ _ hq)
      · rw [Ws.add_other _ _ (Nat.ne_of_gt hq), u2 q (Nat.lt_trans o2 hq), u1 q (Nat.lt_trans o1 hq)]
theorem visit_fuel {ns : List Nd} (N : Net ns) : ∀ (k k' p : Nat) (w : Ws), p < k → p < k' → Pl ns p → Good ns w → visit ns k p w = visit ns k' p w
  | 0, _, _, _, h, _, _, _ => absurd h (Nat.not_lt_zero _)
  | _ + 1, 0, _, _, _, h, _, _ => absurd h (Nat.not_lt_zero _)
  | k + 1, k' + 1, p, w, h, h', hp, g => by
    by_cases hs : (w.num p).isSome = true
    · rw [visit_old hs, visit_old hs]
    · have hn : w.num p = none := by simpa using hs
      have p2 := not2 g hn
      obtain ⟨nd, e, o1, o2, l1, l2⟩ := N.way hp p2
      rw [visit_new hn e, visit_new hn e, visit_fuel N k k' nd.off w (lt_fuel o1 h) (lt_fuel o1 h') l1 g, visit_fuel N k k' nd.on _ (lt_fuel o2 h) (lt_fuel o2 h') l2 (visit_ok N k' nd.off w (lt_fuel o1 h') l1 g).1]
structure Alike (ns ms : List Nd) (p q : Nat) : Prop where
  l : Pl ns p
  r : Pl ms q
  say : ∀ ρ, val ns p ρ = val ms q ρ
structure InStep (ns ms : List Nd) (w v : Ws) : Prop where
  out : w.out = v.out
  num : ∀ p q : Nat, Alike ns ms p q → w.num p = v.num q
noncomputable def graphOf (ns : List Nd) (p : Nat) : List Nd × Nat := ((visit ns (p + 1) p w0).out, ((visit ns (p + 1) p w0).num p).getD 0)
theorem graph_ok {ns : List Nd} (N : Net ns) {p : Nat} (h : Pl ns p) : Net (graphOf ns p).1 ∧ Alike (graphOf ns p).1 ns (graphOf ns p).2 p := by
  obtain ⟨g, s, _⟩ := visit_ok N (p + 1) p w0 (Nat.lt_succ_self _) h (good0 ns)
  obtain ⟨x, hx⟩ := Option.isSome_iff_exists.mp s
  obtain ⟨a, b, c⟩ := g.say _ _ hx
  refine ⟨g.net, ?_⟩
  unfold graphOf
  simp only [hx, Option.getD_some]
  exact ⟨b, a, c⟩
end CN
end
section
set_option Elab.async false
set_option linter.all false
namespace CN
open PySem
noncomputable def cost (ns : List Nd) : Nat → Nat → Ws → Nat
  | 0, _, _ => 1
  | k + 1, p, w => if (w.num p).isSome then 1 else match ns[p - 2]? with
    | none => 1
    | some nd =>
      (if (w.num nd.off).isSome then 0 else cost ns k nd.off w + 1) +
      (if ((visit ns k nd.off w).num nd.on).isSome then 0 else cost ns k nd.on (visit ns k nd.off w) + 1) + 2
theorem cost_old {ns : List Nd} {k p : Nat} {w : Ws} (h : (w.num p).isSome = true) : cost ns k p w = 1 := by
  cases k with
  | zero => rfl
  | succ k => rw [cost, if_pos h]
theorem cost_new {ns : List Nd} {k p : Nat} {w : Ws} {nd : Nd} (h : w.num p = none) (e : ns[p - 2]? = some nd) : cost ns (k + 1) p w =
      (if (w.num nd.off).isSome then 0 else cost ns k nd.off w + 1) +
      (if ((visit ns k nd.off w).num nd.on).isSome then 0 else cost ns k nd.on (visit ns k nd.off w) + 1) + 2 := by
  rw [cost, if_neg (by rw [h]; simp), e]
theorem cost_fuel {ns : List Nd} (N : Net ns) : ∀ (k k' p : Nat) (w : Ws), p < k → p < k' → Pl ns p → Good ns w → cost ns k p w = cost ns k' p w
  | 0, _, _, _, h, _, _, _ => absurd h (Nat.not_lt_zero _)
  | _ + 1, 0, _, _, _, h, _, _ => absurd h (Nat.not_lt_zero _)
  | k + 1, k' + 1, p, w, h, h', hp, g => by
    by_cases hs : (w.num p).isSome = true
    · rw [cost_old hs, cost_old hs]
    · have hn : w.num p = none := by simpa using hs
      have p2 := not2 g hn
      obtain ⟨nd, e, o1, o2, l1, l2⟩ := N.way hp p2
      have g1 := (visit_ok N k' nd.off w (lt_fuel o1 h') l1 g).1
      rw [cost_new hn e, cost_new hn e, cost_fuel N k k' nd.off w (lt_fuel o1 h) (lt_fuel o1 h') l1 g, visit_fuel N k k' nd.off w (lt_fuel o1 h) (lt_fuel o1 h') l1 g, cost_fuel N k k' nd.on _ (lt_fuel o2 h) (lt_fuel o2 h') l2 g1]
noncomputable def runs (ns : List Nd) : List Nat → Ws → Ws
  | [], w => w
  | p :: r, w => runs ns r (visit ns (p + 1) p w)
noncomputable def costs (ns : List Nd) : List Nat → Ws → Nat
  | [], _ => 0
  | p :: r, w => cost ns (p + 1) p w + costs ns r (visit ns (p + 1) p w)
section
variable {ns : List Nd} {w : Ws} {p : Nat} {r : List Nat} {nd : Nd}
theorem run_pop (h : (w.num p).isSome = true) : runs ns (p :: r) w = runs ns r w ∧ costs ns r w < costs ns (p :: r) w := by
  refine ⟨by rw [runs, visit_old h], ?_⟩
  rw [costs, visit_old h, cost_old h]; omega
theorem run_off (N : Net ns) (g : Good ns w) (hp : Pl ns p) (hn : w.num p = none) (e : ns[p - 2]? = some nd) (ho : w.num nd.off = none) : runs ns (nd.off :: p :: r) w = runs ns (p :: r) w ∧ costs ns (nd.off :: p :: r) w < costs ns (p :: r) w := by
  have p2 := not2 g hn
  obtain ⟨o1, o2, l1, _⟩ := N.below hp e p2
  obtain ⟨g1, s1, k1, u1⟩ := visit_ok N (nd.off + 1) nd.off w (Nat.lt_succ_self _) l1 g
  have hn1 : (visit ns (nd.off + 1) nd.off w).num p = none := by rw [u1 p o1]; exact hn
  have ef : visit ns p nd.off w = visit ns (nd.off + 1) nd.off w := visit_fuel N _ _ _ _ o1 (Nat.lt_succ_self _) l1 g
  have ev : visit ns (p + 1) p (visit ns (nd.off + 1) nd.off w) = visit ns (p + 1) p w := by
    rw [visit_new hn e, visit_new hn1 e, visit_old s1, ef]
  refine ⟨by rw [runs, runs, runs, ev], ?_⟩
  rw [costs, costs, costs, ev, cost_new hn e, cost_new hn1 e, if_pos s1, visit_old s1, ef, cost_fuel N p (nd.off + 1) nd.off w o1 (Nat.lt_succ_self _) l1 g]
  have h0 : (if (w.num nd.off).isSome = true then 0 else cost ns (nd.off + 1) nd.off w + 1) = cost ns (nd.off + 1) nd.off w + 1 := if_neg (by rw [ho]; simp)
  rw [h0]
  omega
theorem run_on (N : Net ns) (g : Good ns w) (hp : Pl ns p) (hn : w.num p = none) (e : ns[p - 2]? = some nd) (ho : (w.num nd.off).isSome = true) (ho2 : w.num nd.on = none) : runs ns (nd.on :: p :: r) w = runs ns (p :: r) w ∧ costs ns (nd.on :: p :: r) w < costs ns (p :: r) w := by
  have p2 := not2 g hn
  obtain ⟨o1, o2, _, l2⟩ := N.below hp e p2
  obtain ⟨g1, s1, k1, u1⟩ := visit_ok N (nd.on + 1) nd.on w (Nat.lt_succ_self _) l2 g
  have hn1 : (visit ns (nd.on + 1) nd.on w).num p = none := by rw [u1 p o2]; exact hn
  have s0 : ((visit ns (nd.on + 1) nd.on w).num nd.off).isSome = true := by
    obtain ⟨x, hx⟩ := Option.isSome_iff_exists.mp ho
    rw [k1 _ _ hx]; rfl
  have ef : visit ns p nd.on w = visit ns (nd.on + 1) nd.on w := visit_fuel N _ _ _ _ o2 (Nat.lt_succ_self _) l2 g
  have ev : visit ns (p + 1) p (visit ns (nd.on + 1) nd.on w) = visit ns (p + 1) p w := by
    rw [visit_new hn e, visit_new hn1 e, visit_old s0, visit_old s1, visit_old ho, ef]
  refine ⟨by rw [runs, runs, runs, ev], ?_⟩
  rw [costs, costs, costs, ev, cost_new hn e, cost_new hn1 e, if_pos s0, if_pos ho, visit_old s0, if_pos s1, visit_old ho, if_neg (by rw [ho2]; simp), cost_fuel N p (nd.on + 1) nd.on w o2 (Nat.lt_succ_self _) l2 g]
  omega
theorem run_add (hn : w.num p = none) (e : ns[p - 2]? = some nd) (ho : (w.num nd.off).isSome = true) (ho2 : (w.num nd.on).isSome = true) : runs ns (p :: r) (w.add p nd) = runs ns (p :: r) w ∧ costs ns (p :: r) (w.add p nd) < costs ns (p :: r) w := by
  have s : ((w.add p nd).num p).isSome = true := by rw [Ws.add_self]; rfl
  have ev : visit ns (p + 1) p w = w.add p nd := by rw [visit_new hn e, visit_old ho, visit_old ho2]
  refine ⟨by rw [runs, runs, visit_old s, ev], ?_⟩
  rw [costs, costs, visit_old s, ev, cost_old s, cost_new hn e, if_pos ho, visit_old ho, if_pos ho2]
  omega
end
end CN
end
section
set_option Elab.async false
set_option linter.all false
set_option maxRecDepth 100000
set_option maxHeartbeats 1000000
namespace L2
open PySem PySem.Spec PySem.Calls PyProof.Rows
section
variable {X : Cx}
theorem vals_bools : ∀ {bs : List Bool} {us : List Value}, Vals (bs.map V.bl) us → LSm.BoolsAre us bs
  | [], _, .nil => .nil
  | b :: bs, u :: us, .cons r t => by
    cases (show u = Value.bool b from r)
    exact .cons b (vals_bools t)
theorem call_allB (hc : X.calm = true) : CallR X (.builtin "all") (fun xs H Q => ∃ (p : Addr) (bs : List Bool), xs = [.ref p] ∧ SqL X.K H p (bs.map V.bl) ∧ Q (.bl (bs.all id)) H) := by
  intro pins s σ H xs us Q I r h
  obtain ⟨p, bs, rfl, hs, q⟩ := h
  obtain ⟨u, rfl, ru⟩ : ∃ u, us = [u] ∧ RelV (.ref p) u := by
    cases r with
    | cons r t => cases t; exact ⟨_, rfl, r⟩
  cases (show u = Value.ref p from ru)
  obtain ⟨its, rv, pl, _⟩ := I.list hs
  have hb := vals_bools rv
  have hl := pl.isList
  have hlt : p < s.heap.objs.size := by obtain ⟨_, e, _⟩ := hl; exact Heap.lt_size e
  refine call_all_walk (wpAny_pyIter_list hl ?_)
  refine ⟨s.heap.objs.size, [s.heap.objs.size, p], [s.heap.objs.size], its.toArray.size, _, _, fun i => (bs[i]?).getD true, rfl, Walks.list (A := X.A.in1) (I.ok.hd hc) _ p (Nat.ne_of_lt hlt) its.toArray,
    ⟨⟨_, Heap.get?_push_size _ rfl, rfl, rfl⟩, hl.push _⟩, fun i v s' Q' E' hP hQ => ?_, fun h' tk hk => ?_⟩
  · obtain ⟨b, e, rfl⟩ := hb.get i v (by simpa using hP)
    simp only [e, Option.getD_some] at hQ
    exact wpAny_truthy_bool hQ
  · have e : ((List.range its.toArray.size).all fun i => (bs[i]?).getD true) = bs.all id := by
      rw [List.size_toArray, hb.length]; exact LSm.range_all bs
    rw [e]
    exact ⟨.bl _, H, I.kept (t' := tk) (LSm.kept_iter hk), rfl, q⟩
end
end L2
end
section
set_option Elab.async false
set_option linter.all false
set_option maxRecDepth 100000
namespace SS
open PySem
structure Tidy (t : SetTable) : Prop where
  rise : t.place.toList.Pairwise (· < ·)
  gaps : t.dummies = #[]
section
variable {xs : Array Nat} {j : Nat}
theorem getD_lt {i : Nat} (h : i < xs.size) (d : Nat) : xs.getD i d = xs[i] := by simp [Array.getD, h]
theorem at_mono (R : xs.toList.Pairwise (· < ·)) {a b : Nat} (h : a < b) (hb : b < xs.size) : xs[a]'(by omega) < xs[b] := by
  have := List.pairwise_iff_getElem.mp R a b (by simp; omega) (by simpa using hb) h
  simpa using this
theorem go_ok (R : xs.toList.Pairwise (· < ·)) : ∀ (f lo hi : Nat), hi - lo ≤ f → lo ≤ hi → hi ≤ xs.size → (∀ i (h : i < xs.size), i < lo → xs[i] < j) → (∀ i (h : i < xs.size), hi ≤ i → j ≤ xs[i]) →
    SetTable.below.go xs j f lo hi ≤ xs.size ∧ (∀ i (h : i < xs.size), i < SetTable.below.go xs j f lo hi → xs[i] < j) ∧ (∀ i (h : i < xs.size), SetTable.below.go xs j f lo hi ≤ i → j ≤ xs[i])
  | 0, lo, hi, h0, h1, h2, ha, hb => by
    have e : lo = hi := by omega
    subst e
    exact ⟨h2, ha, hb⟩
  | f + 1, lo, hi, h0, h1, h2, ha, hb => by
    unfold SetTable.below.go
    by_cases hl : lo < hi
    · rw [if_pos hl]
      have hm : (lo + hi) / 2 < xs.size := by omega
      dsimp only
      rw [getD_lt hm]
      by_cases hx : xs[(lo + hi) / 2] < j
      · rw [if_pos hx]
        refine go_ok R f _ _ (by omega) (by omega) h2 (fun i h hi' => ?_) hb
        rcases Nat.lt_or_eq_of_le (Nat.le_of_lt_succ hi') with g | g
        · exact Nat.lt_trans (at_mono R g hm) hx
        · subst g; exact hx
      · rw [if_neg hx]
        refine go_ok R f _ _ (by omega) (by omega) (by omega) ha (fun i h hi' => ?_)
        rcases Nat.lt_or_eq_of_le hi' with g | g
        · exact Nat.le_of_lt (Nat.lt_of_le_of_lt (Nat.le_of_not_lt hx) (at_mono R g h))
        · subst g; exact Nat.le_of_not_lt hx
    · rw [if_neg hl]
      have e : lo = hi := by omega
      subst e
      exact ⟨h2, ha, hb⟩
theorem below_ok (R : xs.toList.Pairwise (· < ·)) : SetTable.below xs j ≤ xs.size ∧ (∀ i (h : i < xs.size), i < SetTable.below xs j → xs[i] < j) ∧ (∀ i (h : i < xs.size), SetTable.below xs j ≤ i → j ≤ xs[i]) :=
  go_ok R _ 0 _ (by omega) (Nat.zero_le _) (Nat.le_refl _) (fun i h z => absurd z (Nat.not_lt_zero _)) fun i h z => absurd h (Nat.not_lt.mpr z)
theorem insert_rise (R : xs.toList.Pairwise (· < ·)) (hn : xs[SetTable.below xs j]? ≠ some j) : (SetTable.insertAt xs (SetTable.below xs j) j).toList.Pairwise (· < ·) := by
  obtain ⟨h1, h2, h3⟩ := below_ok (j := j) R
  rw [SetTable.toList_insertAt]
  have up : ∀ i (h : i < xs.size), SetTable.below xs j ≤ i → j < xs[i] := fun i h hi => by
    have hb : SetTable.below xs j < xs.size := Nat.lt_of_le_of_lt hi h
    have h4 : j < xs[SetTable.below xs j] := by
      rcases Nat.lt_or_eq_of_le (h3 _ hb (Nat.le_refl _)) with g | g
      · exact g
      · exact absurd (by rw [Array.getElem?_eq_getElem hb, ← g]) hn
    rcases Nat.lt_or_eq_of_le hi with g | g
    · exact Nat.lt_trans h4 (at_mono R g h)
    · subst g; exact h4
  have e : xs.toList = xs.toList.take (SetTable.below xs j) ++ xs.toList.drop (SetTable.below xs j) := (List.take_append_drop _ _).symm
  have R' := R
  rw [e, List.pairwise_append] at R'
  rw [List.pairwise_append, List.pairwise_cons]
  have dn : ∀ a ∈ xs.toList.take (SetTable.below xs j), a < j := fun a ha => by
    obtain ⟨i, hi, rfl⟩ := List.getElem_of_mem ha
    simp only [List.length_take, Array.length_toList] at hi
    rw [List.getElem_take]
    exact h2 i (by omega) (by omega)
  have ab : ∀ a ∈ xs.toList.drop (SetTable.below xs j), j < a := fun a ha => by
    obtain ⟨i, hi, rfl⟩ := List.getElem_of_mem ha
    simp only [List.length_drop, Array.length_toList] at hi
    rw [List.getElem_drop]
    exact up _ (by omega) (by omega)
  refine ⟨R'.1, ⟨ab, R'.2.1⟩, fun a ha b hb => ?_⟩
  rcases List.mem_cons.mp hb with rfl | hb
  · exact dn a ha
  · exact R'.2.2 a ha b hb
end
theorem no_gap {t : SetTable} (T : Tidy t) (j : Nat) : SetTable.has t.dummies j = false := by rw [T.gaps]; rfl
theorem laid_tidy {mask finger moves : Nat} {led plain : Bool} {hs : Array Int} {t' : SetTable} {o : Array Nat} (e : SetTable.laid mask finger moves led plain hs = some (t', o)) : Tidy t' ∧ t'.led = led := by
  unfold SetTable.laid at e
  cases hl : SetTable.layClean mask hs with
  | none => rw [hl] at e; cases e
  | some ow =>
    rw [hl] at e
    simp only [Option.pure_def, Option.bind_eq_bind, Option.bind_some, Option.some.injEq, Prod.mk.injEq] at e
    obtain ⟨e1, _⟩ := e
    subst e1
    refine ⟨⟨?_, rfl⟩, rfl⟩
    dsimp only
    have : ∀ (l : List Nat), l.Pairwise (· < ·) → ((l.filterMap fun j => (ow.getD j none).map (j, ·)).map (·.1)).Pairwise (· < ·) := fun l => by
      induction l with
      | nil => intro _; exact .nil
      | cons a l ih =>
        intro R
        rw [List.pairwise_cons] at R
        rw [List.filterMap_cons]
        cases ow.getD a none with
        | none => exact ih R.2
        | some k =>
          rw [Option.map_some]
          dsimp only
          rw [List.map_cons, List.pairwise_cons]
          refine ⟨fun b hb => ?_, ih R.2⟩
          obtain ⟨⟨c, k'⟩, hc, rfl⟩ := List.mem_map.mp hb
          obtain ⟨a', ha', e'⟩ := List.mem_filterMap.mp hc
          cases hq : ow.getD a' none with
          | none => rw [hq] at e'; cases e'
          | some q =>
            rw [hq, Option.map_some] at e'
            cases e'
            exact R.1 _ ha'
    exact this _ List.pairwise_lt_range
end SS
end
section
set_option Elab.async false
set_option linter.all false
set_option maxRecDepth 100000
namespace SS
open PySem PyProof.Rows
noncomputable def vI : Value → Int
  | .int i _ => i
  | _ => 0
noncomputable def IsS (prog : Program) (w : World) (h : Heap) (a : Addr) (ns : List Int) : Prop :=
  ∃ o es ep t, h.get? a = some o ∧ o.ExactSet ∧ o.data = .set es ep t ∧ ElemsOf (intKind prog w) es.toList ∧ (es.toList.map fun e => vI e.2).Perm ns ∧ es.size < scanBound ∧ t.fits es.size = true ∧ Tidy t ∧ t.led = !(w.params.followText "set-order")
section
variable {prog : Program} {w : World} {A : Around} {E : Value → Shared → Prop} {s : Shared}
theorem IsS.at {h h' : Heap} {a : Addr} {ns : List Int} (x : IsS prog w h a ns) (k : ∀ o, h.get? a = some o → h'.get? a = some o) : IsS prog w h' a ns := by
  obtain ⟨o, es, ep, t, e, r⟩ := x
  exact ⟨o, es, ep, t, k o e, r⟩
theorem put_is {a : Addr} {o : Obj} {es es' : Array (Int × Value)} {ep : Nat} {t t' : SetTable} (ho : s.heap.get? a = some o) (hd : o.data = .set es ep t) :
    (s.heap.update a (Obj.putSet es' t')).get? a = some { o with data := .set es' (ep + 1) t' } := by
  have z := Heap.get?_update_self (Obj.putSet es' t') ho (by rw [putSet_of es' t' hd]; rfl)
  rw [putSet_of es' t' hd] at z
  exact z
end
end SS
end
section
set_option Elab.async false
set_option linter.all false
set_option maxRecDepth 100000
namespace SS
open PySem PyProof.Rows
section
variable {prog : Program} {w : World} {A : Around} {E : Value → Shared → Prop} {s : Shared}
noncomputable def fresh (w : World) : Obj := { cls := .type "set", dict := none, data := .set #[] 0 (.fresh 0 0 !(w.params.followText "set-order")) }
theorem new_led (a : Value) {Q₁ : Value → Shared → Prop} (h : Q₁ (.ref s.heap.objs.size) { s with heap := s.heap.push (fresh w) }) :
    codeAny (model prog w) A (.call (.builtin "set.__new__") ⟨[.type "set", a], []⟩) (wants Q₁ E) s := by
  refine codeAny_of_tree ?_
  show wpAny _ A.in1 (do checkBuiltinCall "set.__new__" ⟨[.type "set", a], []⟩; again (.builtin "set.__new__" ⟨[.type "set", a], []⟩)) _ _ s
  refine wpAny_bind (wpAny_of_eq (F.newCall_set_1 a) (wpAny_pure ⟨plainId_quiet F.plain_set_new _, codeAny_builtin F.entry_set_new ?_⟩))
  rw [Around.under_plainId F.plain_set_new _]
  unfold Builtin.«set.__new__» Builtin.Frozenset.newClass
  have sub := sub_set_self
  obtain ⟨hp, g, d, tk, os⟩ := s
  dsimp only
  wp_walk
  refine wpAny_askSetting (wpAny_pure ?_)
  dsimp only
  simp only [newObj]
  exact wpAny_bind (wpAny_alloc (wpAny_pure (wpAny_pure h)))
end
end SS
end
section
set_option Elab.async false
set_option linter.all false
set_option maxRecDepth 100000
namespace SS
open PySem PyProof.Rows
section
variable {prog : Program} {w : World} {A : Around} {E : Value → Shared → Prop} {s : Shared}
end
end SS
end
section
set_option Elab.async false
set_option linter.all false
set_option maxRecDepth 100000
namespace SS
open PySem PyProof.Rows
noncomputable def ItAt (h : Heap) (I a : Addr) (first : Value) (i n ep : Nat) : Prop := ∃ o, h.get? I = some o ∧ o.cls = .type "set_iterator" ∧ o.data = .fields #[first, .int i 0, .ref a, .int n 0, .int ep 0]
noncomputable def SAt (h : Heap) (a : Addr) (es : Array (Int × Value)) (ep : Nat) (t : SetTable) : Prop := ∃ o, h.get? a = some o ∧ o.ExactSet ∧ o.data = .set es ep t
theorem ItAt.ty {s : Shared} {I a : Addr} {f : Value} {i n ep : Nat} (x : ItAt s.heap I a f i n ep) : s.TypeIs (.ref I) "set_iterator" := let ⟨o, h, c, _⟩ := x; ⟨o, h, c⟩
theorem SAt.ty {s : Shared} {a : Addr} {es : Array (Int × Value)} {ep : Nat} {t : SetTable} (x : SAt s.heap a es ep t) : s.TypeIs (.ref a) "set" := let ⟨o, h, c, _⟩ := x; ⟨o, h, c.1⟩
theorem ItAt.at {h h' : Heap} {I a : Addr} {f : Value} {i n ep : Nat} (x : ItAt h I a f i n ep) (k : ∀ o, h.get? I = some o → h'.get? I = some o) : ItAt h' I a f i n ep := let ⟨o, e, r⟩ := x; ⟨o, k o e, r⟩
theorem SAt.at {h h' : Heap} {a : Addr} {es : Array (Int × Value)} {ep : Nat} {t : SetTable} (x : SAt h a es ep t) (k : ∀ o, h.get? a = some o → h'.get? a = some o) : SAt h' a es ep t := let ⟨o, e, r⟩ := x; ⟨o, k o e, r⟩
inductive Fst (w : World) (a : Addr) (es : Array (Int × Value)) (ep : Nat) (t : SetTable) (ord : List Value) (p : Addr) (h : Heap) (i : Nat) : Value → Prop
  | text (sl : Nat) (b : w.params.followText "set-order" = true) (e : ord = (pickOrder (w.params.setOrder a ep) es).toList.map (·.2)) : Fst w a es ep t ord p h i (.int sl 0)
  | led (sl : Nat) (b : w.params.followText "set-order" = false) (d : (!t.plain && decide (es.size > 1)) = false) (e : ord = es.toList.map (·.2)) (z : SetTable.below t.place sl = i) : Fst w a es ep t ord p h i (.int sl 0)
  | draw (ps : List Nat) (b : w.params.followText "set-order" = false) (tp : h.IsTuple p (ps.map fun (j : Nat) => rawInt j).toArray) (pm : ps.Perm (List.range es.size)) (e : ord = ps.map fun j => ((es[j]?).map (·.2)).getD .none) : Fst w a es ep t ord p h i (.ref p)
theorem Fst.at {w : World} {a : Addr} {es : Array (Int × Value)} {ep : Nat} {t : SetTable} {ord : List Value} {p : Addr} {h h' : Heap} {i : Nat} {v : Value} (x : Fst w a es ep t ord p h i v) (k : ∀ o, h.get? p = some o → h'.get? p = some o) : Fst w a es ep t ord p h' i v := by
  cases x with
  | text sl b e => exact .text sl b e
  | led sl b d e z => exact .led sl b d e z
  | draw ps b tp pm e => exact .draw ps b (by obtain ⟨o, q, r⟩ := tp; exact ⟨o, k o q, r⟩) pm e
section
variable {prog : Program} {w : World} {A : Around} {E : Value → Shared → Prop} {s : Shared}
end
end SS
end
section
set_option Elab.async false
set_option linter.all false
set_option maxRecDepth 100000
namespace SS
open PySem PyProof.Rows PySem.Calls
section
variable {prog : Program} {w : World} {A : Around} {E : Value → Shared → Prop} {s : Shared}
end
end SS
end
section
set_option Elab.async false
set_option linter.all false
set_option maxRecDepth 100000
set_option maxHeartbeats 1000000
namespace L2
open PySem PySem.Spec PySem.Calls PyProof.Rows
noncomputable def dd (ns : List Int) : List Int := ns.foldl step_dedup []
section
variable {X : Cx}
end
end L2
end
section
set_option Elab.async false
set_option linter.all false
set_option maxRecDepth 100000
namespace TP
open PySem SS
noncomputable def adv (m : Nat) (p : SetTable.Probe) : SetTable.Probe :=
  if p.more > 0 then { p with j := p.j + 1, more := p.more - 1 } else
  { p with j := (SetTable.leap m p.i p.perturb).1, more := SetTable.runEnd m (SetTable.leap m p.i p.perturb).1 - (SetTable.leap m p.i p.perturb).1, i := (SetTable.leap m p.i p.perturb).1, perturb := (SetTable.leap m p.i p.perturb).2 }
noncomputable def at0 (m i pt : Nat) : SetTable.Probe := { j := i, more := SetTable.runEnd m i - i, i := i, perturb := pt, dummy := none }
noncomputable def pr (m : Nat) (h : Int) : Nat → SetTable.Probe
  | 0 => at0 m (SetTable.bits h % (m + 1)) (SetTable.bits h)
  | k + 1 => adv m (pr m h k)
noncomputable def sl (m : Nat) (h : Int) (k : Nat) : Nat := (pr m h k).j
theorem pr_dummy (m : Nat) (h : Int) : ∀ k, (pr m h k).dummy = none
  | 0 => rfl
  | k + 1 => by
    show (adv m (pr m h k)).dummy = none
    unfold adv
    split
    · exact pr_dummy m h k
    · exact pr_dummy m h k
theorem run_in (m i pt : Nat) (h : Int) (k : Nat) (e : pr m h k = at0 m i pt) : ∀ q, q ≤ SetTable.runEnd m i - i → pr m h (k + q) = { j := i + q, more := SetTable.runEnd m i - i - q, i := i, perturb := pt, dummy := none }
  | 0, _ => by rw [Nat.add_zero, e]; rfl
  | q + 1, hq => by
    show adv m (pr m h (k + q)) = _
    rw [run_in m i pt h k e q (by omega)]
    unfold adv
    rw [if_pos (show SetTable.runEnd m i - i - q > 0 by omega)]
    simp only [SetTable.Probe.mk.injEq, and_true, true_and]
    omega
theorem run_next (m i pt : Nat) (h : Int) (k : Nat) (e : pr m h k = at0 m i pt) : pr m h (k + (SetTable.runEnd m i - i) + 1) = at0 m (SetTable.leap m i pt).1 (SetTable.leap m i pt).2 := by
  show adv m (pr m h (k + (SetTable.runEnd m i - i))) = _
  rw [run_in m i pt h k e _ (Nat.le_refl _)]
  unfold adv
  rw [if_neg (show ¬ SetTable.runEnd m i - i - (SetTable.runEnd m i - i) > 0 by omega)]
  rfl
theorem run_len (m i : Nat) : SetTable.runEnd m i - i ≤ 9 := by unfold SetTable.runEnd; split <;> omega
noncomputable def lp (m : Nat) (h : Int) : Nat → Nat × Nat
  | 0 => (SetTable.bits h % (m + 1), SetTable.bits h)
  | n + 1 => SetTable.leap m (lp m h n).1 (lp m h n).2
theorem lp_at (m : Nat) (h : Int) : ∀ n, ∃ k, k ≤ 10 * n ∧ pr m h k = at0 m (lp m h n).1 (lp m h n).2
  | 0 => ⟨0, Nat.le_refl _, rfl⟩
  | n + 1 => by
    obtain ⟨k, hk, e⟩ := lp_at m h n
    refine ⟨_, ?_, run_next m _ _ h k e⟩
    have := run_len m (lp m h n).1
    omega
theorem lp_pt (m : Nat) (h : Int) : ∀ n, (lp m h n).2 = SetTable.bits h / 32 ^ n
  | 0 => by simp [lp]
  | n + 1 => by
    show (lp m h n).2 / 32 = _
    rw [lp_pt m h n, Nat.div_div_eq_div_mul, Nat.pow_succ]
theorem bits_lt (h : Int) : SetTable.bits h < 2 ^ 64 := by
  unfold SetTable.bits
  have h1 := Int.emod_nonneg h (show (2 ^ 64 : Int) ≠ 0 by decide)
  have h2 := Int.emod_lt_of_pos h (show (0 : Int) < 2 ^ 64 by decide)
  omega
theorem lp_zero (m : Nat) (h : Int) (n : Nat) (hn : 13 ≤ n) : (lp m h n).2 = 0 := by
  rw [lp_pt]
  refine Nat.div_eq_of_lt (Nat.lt_of_lt_of_le (bits_lt h) ?_)
  exact Nat.le_trans (show 2 ^ 64 ≤ 32 ^ 13 by decide) (Nat.pow_le_pow_right (by decide) hn)
noncomputable def nx (m i : Nat) : Nat := (i * 5 + 1) % (m + 1)
noncomputable def nxs (m : Nat) : Nat → Nat → Nat
  | 0, i => i
  | q + 1, i => nx m (nxs m q i)
theorem lp_le (m : Nat) (h : Int) : ∀ n, (lp m h n).1 ≤ m
  | 0 => by show SetTable.bits h % (m + 1) ≤ m; have := Nat.mod_lt (SetTable.bits h) (show 0 < m + 1 by omega); omega
  | n + 1 => by
    show (_ : Nat) % (m + 1) ≤ m
    have := Nat.mod_lt ((lp m h n).1 * 5 + 1 + (lp m h n).2 / 32) (show 0 < m + 1 by omega)
    omega
theorem lp_nxs (m : Nat) (h : Int) : ∀ q, (lp m h (13 + q)).1 = nxs m q (lp m h 13).1
  | 0 => rfl
  | q + 1 => by
    show ((lp m h (13 + q)).1 * 5 + 1 + (lp m h (13 + q)).2 / 32) % (m + 1) = nx m (nxs m q (lp m h 13).1)
    rw [lp_zero m h _ (by omega), lp_nxs m h q]
    rfl
theorem round7 : ∀ i, i ≤ 7 → ∀ j, j ≤ 7 → ∃ q, q ≤ 7 ∧ nxs 7 q i = j := by
  have : ∀ i : Fin 8, ∀ j : Fin 8, ∃ q : Fin 8, nxs 7 q.1 i.1 = j.1 := by decide +kernel
  intro i hi j hj
  obtain ⟨q, e⟩ := this ⟨i, by omega⟩ ⟨j, by omega⟩
  exact ⟨q.1, by have := q.2; omega, e⟩
theorem round31 : ∀ i, i ≤ 31 → ∀ j, j ≤ 31 → ∃ q, q ≤ 31 ∧ nxs 31 q i = j := by
  have : ∀ i : Fin 32, ∀ j : Fin 32, ∃ q : Fin 32, nxs 31 q.1 i.1 = j.1 := by decide +kernel
  intro i hi j hj
  obtain ⟨q, e⟩ := this ⟨i, by omega⟩ ⟨j, by omega⟩
  exact ⟨q.1, by have := q.2; omega, e⟩
theorem round {m : Nat} (hm : m = 7 ∨ m = 31) (h : Int) {j : Nat} (hj : j ≤ m) : ∃ n, n ≤ m + 13 ∧ (lp m h n).1 = j := by
  have hq : ∃ q, q ≤ m ∧ nxs m q (lp m h 13).1 = j := by
    rcases hm with rfl | rfl
    · exact round7 _ (lp_le 7 h 13) j hj
    · exact round31 _ (lp_le 31 h 13) j hj
  obtain ⟨q, h1, h2⟩ := hq
  exact ⟨13 + q, by omega, by rw [lp_nxs, h2]⟩
theorem cover {m : Nat} (hm : m = 7 ∨ m = 31) (h : Int) {j : Nat} (hj : j ≤ m) : ∃ k, k ≤ 10 * (m + 13) ∧ sl m h k = j := by
  obtain ⟨n, h1, h2⟩ := round hm h hj
  obtain ⟨k, h3, e⟩ := lp_at m h n
  refine ⟨k, by omega, ?_⟩
  unfold sl
  rw [e, ← h2]
  rfl
theorem nodup_len : ∀ {a b : List Nat}, a.Nodup → (∀ x ∈ a, x ∈ b) → a.length ≤ b.length
  | [], b, _, _ => Nat.zero_le _
  | x :: a, b, nd, h => by
    rw [List.nodup_cons] at nd
    have hx : x ∈ b := h x List.mem_cons_self
    have i := nodup_len (b := b.erase x) nd.2 fun y hy => (List.mem_erase_of_ne (a := y) (b := x) (fun z => nd.1 (by rw [← z]; exact hy))).mpr (h y (List.mem_cons_of_mem _ hy))
    rw [List.length_erase_of_mem hx] at i
    have : 0 < b.length := List.length_pos_of_mem hx
    rw [List.length_cons]
    omega
theorem a_free {m : Nat} {l : List Nat} (hl : l.length ≤ m) : ∃ j, j ≤ m ∧ j ∉ l := by
  refine Classical.byContradiction fun z => ?_
  have h1 : ∀ j ∈ List.range (m + 1), j ∈ l := fun j hj => Classical.byContradiction fun hn => z ⟨j, by have := List.mem_range.mp hj; omega, hn⟩
  have := nodup_len List.nodup_range h1
  rw [List.length_range] at this
  omega
theorem first_of {p : Nat → Prop} [DecidablePred p] : ∀ {n : Nat}, p n → ∃ k, k ≤ n ∧ p k ∧ ∀ q, q < k → ¬ p q := by
  intro n
  induction n using Nat.strongRecOn with
  | _ n ih =>
    intro h
    by_cases z : ∃ q, q < n ∧ p q
    · obtain ⟨q, hq, pq⟩ := z
      obtain ⟨k, h1, h2, h3⟩ := ih q hq pq
      exact ⟨k, by omega, h2, h3⟩
    · exact ⟨n, Nat.le_refl _, h, fun q hq pq => z ⟨q, hq, pq⟩⟩
theorem free_at {m : Nat} (hm : m = 7 ∨ m = 31) (h : Int) {l : List Nat} (hl : l.length ≤ m) : ∃ k, k ≤ 10 * (m + 13) ∧ sl m h k ∉ l ∧ ∀ q, q < k → sl m h q ∈ l := by
  obtain ⟨j, hj, hn⟩ := a_free hl
  obtain ⟨k, hk, e⟩ := cover hm h hj
  obtain ⟨k', h1, h2, h3⟩ := first_of (p := fun k => sl m h k ∉ l) (n := k) (by rw [e]; exact hn)
  exact ⟨k', by omega, h2, fun q hq => Classical.byContradiction fun z => h3 q hq z⟩
theorem sl_le {m : Nat} (h : Int) : ∀ k, sl m h k ≤ m := by
  have key : ∀ k, (pr m h k).j + (pr m h k).more ≤ m := fun k => by
    induction k with
    | zero =>
      show SetTable.bits h % (m + 1) + (SetTable.runEnd m (SetTable.bits h % (m + 1)) - SetTable.bits h % (m + 1)) ≤ m
      have := Nat.mod_lt (SetTable.bits h) (show 0 < m + 1 by omega)
      unfold SetTable.runEnd
      split <;> omega
    | succ k ih =>
      show (adv m (pr m h k)).j + (adv m (pr m h k)).more ≤ m
      unfold adv
      split
      · dsimp only; omega
      · dsimp only
        have : (SetTable.leap m (pr m h k).i (pr m h k).perturb).1 < m + 1 := Nat.mod_lt _ (by omega)
        generalize (SetTable.leap m (pr m h k).i (pr m h k).perturb).1 = i at *
        unfold SetTable.runEnd
        split <;> omega
  intro k
  have := key k
  unfold sl
  omega
end TP
end
section
set_option Elab.async false
set_option linter.all false
set_option maxRecDepth 100000
namespace TP
open PySem SS
noncomputable def Rch (m : Nat) (P : Nat → Prop) (h : Int) (j : Nat) : Prop := ∃ k, sl m h k = j ∧ ∀ q, q < k → P (sl m h q)
theorem Rch.mono {m : Nat} {P P' : Nat → Prop} {h : Int} {j : Nat} (hp : ∀ x, P x → P' x) (r : Rch m P h j) : Rch m P' h j := by
  obtain ⟨k, e, f⟩ := r
  exact ⟨k, e, fun q hq => hp _ (f q hq)⟩
structure Tb (t : SetTable) (hs : List Int) : Prop where
  tidy : Tidy t
  mask : t.mask = 7 ∨ t.mask = 31
  size : t.place.size = hs.length
  bnd : ∀ j ∈ t.place.toList, j ≤ t.mask
  room : hs.length ≤ t.mask
  rch : ∀ q ∈ hs.zip t.place.toList, Rch t.mask (· ∈ t.place.toList) q.1 q.2
theorem slot_at {t : SetTable} (T : Tidy t) (j : Nat) : (j ∉ t.place.toList ∧ t.slot j = .empty) ∨ ∃ i, t.place[i]? = some j ∧ t.slot j = .live i := by
  obtain ⟨h1, h2, h3⟩ := below_ok (j := j) T.rise
  by_cases e : t.place[SetTable.below t.place j]? = some j
  · refine .inr ⟨_, e, ?_⟩
    unfold SetTable.slot
    dsimp only
    rw [e]
    simp
  · refine .inl ⟨fun z => ?_, ?_⟩
    · obtain ⟨i, hi, ei⟩ := List.getElem_of_mem z
      have hi' : i < t.place.size := by simpa using hi
      have ei' : t.place[i] = j := by simpa using ei
      by_cases hb : i < SetTable.below t.place j
      · have := h2 i hi' hb; omega
      · have hb2 : SetTable.below t.place j < t.place.size := by omega
        have h4 := h3 _ hb2 (Nat.le_refl _)
        rcases Nat.lt_or_eq_of_le (show SetTable.below t.place j ≤ i by omega) with g | g
        · have := at_mono T.rise g hi'; omega
        · refine e ?_
          rw [g, Array.getElem?_eq_getElem hi', ei']
    · unfold SetTable.slot
      dsimp only
      rw [no_gap T, if_neg (by simpa using e)]
      rfl
theorem go_run {t : SetTable} (T : Tidy t) (g : Nat → Int) (h : Int) : ∀ f k, (∃ k0, k ≤ k0 ∧ k0 < k + f ∧ sl t.mask h k0 ∉ t.place.toList) →
    ∃ k', k ≤ k' ∧ (∀ q, k ≤ q → q < k' → ∃ i, t.place[i]? = some (sl t.mask h q) ∧ (g i == h) = false) ∧
      ((sl t.mask h k' ∉ t.place.toList ∧ SetTable.probe.go t g h f (pr t.mask h k) = some (.empty (sl t.mask h k') none)) ∨
        ∃ i, t.place[i]? = some (sl t.mask h k') ∧ (g i == h) = true ∧ SetTable.probe.go t g h f (pr t.mask h k) = some (.candidate (sl t.mask h k') i (pr t.mask h (k' + 1))))
  | 0, k, ⟨k0, h1, h2, _⟩ => by omega
  | f + 1, k, ⟨k0, h1, h2, h3⟩ => by
    have un : SetTable.probe.go t g h (f + 1) (pr t.mask h k) = (match t.slot (sl t.mask h k) with
      | .empty => some (.empty (sl t.mask h k) (pr t.mask h k).dummy)
      | .dummy => SetTable.probe.go t g h f (t.advance { pr t.mask h k with dummy := some (sl t.mask h k) })
      | .live i => if g i == h then some (.candidate (sl t.mask h k) i (pr t.mask h (k + 1))) else SetTable.probe.go t g h f (pr t.mask h (k + 1))) := by
      rw [SetTable.probe.go]
      rfl
    rcases slot_at T (sl t.mask h k) with ⟨hn, e⟩ | ⟨i, hi, e⟩
    · refine ⟨k, Nat.le_refl _, fun q a b => absurd b (by omega), .inl ⟨hn, ?_⟩⟩
      rw [un, e, pr_dummy]
    · rw [e] at un
      dsimp only at un
      cases hg : (g i == h) with
      | true =>
        refine ⟨k, Nat.le_refl _, fun q a b => absurd b (by omega), .inr ⟨i, hi, hg, ?_⟩⟩
        rw [un, hg]
        rfl
      | false =>
        have hk : k ≠ k0 := fun z => h3 (by rw [← z]; exact Array.mem_toList_iff.mpr (Array.mem_of_getElem? hi))
        obtain ⟨k', a1, a2, a3⟩ := go_run T g h f (k + 1) ⟨k0, by omega, by omega, h3⟩
        rw [hg] at un
        simp only [Bool.false_eq_true, if_false] at un
        rw [un]
        refine ⟨k', by omega, fun q b1 b2 => ?_, a3⟩
        rcases Nat.lt_or_eq_of_le b1 with b | b
        · exact a2 q b b2
        · exact ⟨i, by rw [← b]; exact hi, hg⟩
theorem zip_put {α β : Type} (a : α) (b : β) : ∀ (p : Nat) (l1 : List α) (l2 : List β), l1.length = l2.length → ∀ q ∈ (l1.take p ++ a :: l1.drop p).zip (l2.take p ++ b :: l2.drop p), q = (a, b) ∨ q ∈ l1.zip l2 := by
  intro p l1 l2 hl q hq
  rw [List.zip_append (by rw [List.length_take, List.length_take, hl]), List.zip_cons_cons] at hq
  have e : l1.zip l2 = (l1.take p).zip (l2.take p) ++ (l1.drop p).zip (l2.drop p) := by
    rw [← List.zip_append (by rw [List.length_take, List.length_take, hl]), List.take_append_drop, List.take_append_drop]
  rw [e]
  rcases List.mem_append.mp hq with h | h
  · exact .inr (List.mem_append_left _ h)
  · rcases List.mem_cons.mp h with h | h
    · exact .inl h
    · exact .inr (List.mem_append_right _ h)
theorem put_ok {t : SetTable} {hs : List Int} (B : Tb t hs) {h : Int} {k : Nat} (hk : sl t.mask h k ∉ t.place.toList) (hb : ∀ q, q < k → sl t.mask h q ∈ t.place.toList) (hr : hs.length + 1 ≤ t.mask) :
    Tb (t.put (sl t.mask h k)).1 (hs.take (t.put (sl t.mask h k)).2 ++ h :: hs.drop (t.put (sl t.mask h k)).2) := by
  have hn : t.place[SetTable.below t.place (sl t.mask h k)]? ≠ some (sl t.mask h k) := fun z => hk (Array.mem_toList_iff.mpr (Array.mem_of_getElem? z))
  have hp : (t.put (sl t.mask h k)).1.place = SetTable.insertAt t.place (SetTable.below t.place (sl t.mask h k)) (sl t.mask h k) := rfl
  have hl : (t.put (sl t.mask h k)).1.place.toList = t.place.toList.take (SetTable.below t.place (sl t.mask h k)) ++ sl t.mask h k :: t.place.toList.drop (SetTable.below t.place (sl t.mask h k)) := by
    rw [hp, SetTable.toList_insertAt]
  have hm : ∀ x, x ∈ (t.put (sl t.mask h k)).1.place.toList ↔ x = sl t.mask h k ∨ x ∈ t.place.toList := fun x => by
    rw [hl, List.mem_append, List.mem_cons]
    constructor
    · rintro (z | z | z)
      · exact .inr (List.mem_of_mem_take z)
      · exact .inl z
      · exact .inr (List.mem_of_mem_drop z)
    · rintro (z | z)
      · exact .inr (.inl z)
      · rw [← List.take_append_drop (SetTable.below t.place (sl t.mask h k)) t.place.toList, List.mem_append] at z
        rcases z with z | z
        · exact .inl z
        · exact .inr (.inr z)
  have hlen : hs.length = t.place.toList.length := by rw [← B.size]; simp
  refine ⟨⟨insert_rise B.tidy.rise hn, ?_⟩, B.mask, ?_, fun j hj => ?_, ?_, fun q hq => ?_⟩
  · show (if SetTable.has t.dummies _ then _ else t.dummies) = _
    rw [no_gap B.tidy]
    exact B.tidy.gaps
  · rw [← Array.length_toList, hl]
    show _ = (hs.take (SetTable.below t.place (sl t.mask h k)) ++ h :: hs.drop (SetTable.below t.place (sl t.mask h k))).length
    simp only [List.length_append, List.length_cons, List.length_take, List.length_drop]
    omega
  · rcases (hm j).mp hj with z | z
    · rw [z]; exact sl_le h k
    · exact B.bnd j z
  · show (hs.take (SetTable.below t.place (sl t.mask h k)) ++ h :: hs.drop (SetTable.below t.place (sl t.mask h k))).length ≤ t.mask
    have := List.take_append_drop (SetTable.below t.place (sl t.mask h k)) hs
    have e := congrArg List.length this
    simp only [List.length_append, List.length_cons] at e ⊢
    omega
  · rw [hl] at hq
    rcases zip_put h (sl t.mask h k) _ hs t.place.toList hlen q hq with z | z
    · subst z
      exact ⟨k, rfl, fun q hq => (hm _).mpr (.inr (hb q hq))⟩
    · exact (B.rch q z).mono fun x hx => (hm x).mpr (.inr hx)
end TP
end
section
set_option Elab.async false
set_option linter.all false
set_option maxRecDepth 100000
namespace TP
open PySem SS
noncomputable def Taken (ow : Array (Option Nat)) (j : Nat) : Prop := ∃ a, ow[j]? = some (some a)
theorem none_iff {ow : Array (Option Nat)} {m j : Nat} (hz : ow.size = m + 1) (hj : j ≤ m) : (ow.getD j (some 0)).isNone = true ↔ ¬ Taken ow j := by
  have hj' : j < ow.size := by omega
  have e : ow.getD j (some 0) = ow[j] := by simp [Array.getD, hj']
  rw [e]
  unfold Taken
  rw [Array.getElem?_eq_getElem hj']
  cases ow[j] with
  | none => simp
  | some a => simp
theorem runEnd_le {m i : Nat} (h : i ≤ m) : SetTable.runEnd m i ≤ m ∧ i ≤ SetTable.runEnd m i := by unfold SetTable.runEnd; split <;> omega
theorem free_run {m : Nat} {ow : Array (Option Nat)} (hz : ow.size = m + 1) (h : Int) : ∀ f n k, pr m h k = at0 m (lp m h n).1 (lp m h n).2 → (∀ q, q < k → Taken ow (sl m h q)) → (∃ n0, n ≤ n0 ∧ n0 < n + f ∧ ¬ Taken ow (lp m h n0).1) →
    ∃ k', SetTable.layClean.free m ow f (lp m h n).1 (lp m h n).2 = some (sl m h k') ∧ ¬ Taken ow (sl m h k') ∧ ∀ q, q < k' → Taken ow (sl m h q)
  | 0, n, k, _, _, ⟨n0, h1, h2, _⟩ => by omega
  | f + 1, n, k, e, hb, ⟨n0, h1, h2, h3⟩ => by
    have hi := lp_le m h n
    have hrun := run_in m _ _ h k e
    have hsl : ∀ d, d ≤ SetTable.runEnd m (lp m h n).1 - (lp m h n).1 → sl m h (k + d) = (lp m h n).1 + d := fun d hd => by unfold sl; rw [hrun d hd]
    have hre := runEnd_le hi
    rw [SetTable.layClean.free]
    cases hf : (List.range (SetTable.runEnd m (lp m h n).1 + 1 - (lp m h n).1)).find? fun k => (ow.getD ((lp m h n).1 + k) (some 0)).isNone with
    | some c =>
      dsimp only
      rw [List.find?_range_eq_some] at hf
      obtain ⟨p1, p2, p3⟩ := hf
      have hc := List.mem_range.mp p2
      refine ⟨k + c, by rw [hsl c (by omega)], ?_, fun q hq => ?_⟩
      · rw [hsl c (by omega)]
        exact (none_iff hz (by omega)).mp p1
      · by_cases hq2 : q < k
        · exact hb q hq2
        · obtain ⟨d, rfl⟩ : ∃ d, q = k + d := ⟨q - k, by omega⟩
          rw [hsl d (by omega)]
          have := p3 d (by omega)
          refine Classical.byContradiction fun z => ?_
          rw [(none_iff hz (by omega)).mpr z] at this
          cases this
    | none =>
      dsimp only
      rw [List.find?_eq_none] at hf
      have all : ∀ d, d ≤ SetTable.runEnd m (lp m h n).1 - (lp m h n).1 → Taken ow ((lp m h n).1 + d) := fun d hd => Classical.byContradiction fun z => hf d (List.mem_range.mpr (by omega)) ((none_iff hz (by omega)).mpr z)
      have hn : n ≠ n0 := fun z => h3 (by rw [← z]; exact all 0 (Nat.zero_le _))
      refine free_run hz h f (n + 1) _ (run_next m _ _ h k e) (fun q hq => ?_) ⟨n0, by omega, by omega, h3⟩
      by_cases hq2 : q < k
      · exact hb q hq2
      · obtain ⟨d, rfl⟩ : ∃ d, q = k + d := ⟨q - k, by omega⟩
        rw [hsl d (by omega)]
        exact all d (by omega)
structure Ow (m : Nat) (ow : Array (Option Nat)) (hs : List Int) : Prop where
  size : ow.size = m + 1
  lt : ∀ j a : Nat, ow[j]? = some (some a) → a < hs.length
  one : ∀ a : Nat, a < hs.length → ∃ j : Nat, ow[j]? = some (some a) ∧ ∀ j' : Nat, ow[j']? = some (some a) → j' = j
  rch : ∀ j a : Nat, ow[j]? = some (some a) → ∃ h, hs[a]? = some h ∧ Rch m (Taken ow) h j
theorem ow_free {m : Nat} {ow : Array (Option Nat)} {hs : List Int} (O : Ow m ow hs) (hl : hs.length ≤ m) : ∃ j, j ≤ m ∧ ¬ Taken ow j := by
  obtain ⟨j, h1, h2⟩ := a_free (l := (List.range hs.length).map fun a => if h : a < hs.length then Classical.choose (O.one a h) else 0) (m := m) (by rw [List.length_map, List.length_range]; exact hl)
  refine ⟨j, h1, fun ⟨a, ha⟩ => h2 (List.mem_map.mpr ⟨a, List.mem_range.mpr (O.lt j a ha), ?_⟩)⟩
  rw [dif_pos (O.lt j a ha)]
  exact ((Classical.choose_spec (O.one a (O.lt j a ha))).2 j ha).symm
noncomputable def stp (m : Nat) (acc : Option (Array (Option Nat) × Nat)) (h : Int) : Option (Array (Option Nat) × Nat) := do
  let (owner, k) ← acc
  let j ← SetTable.layClean.free m owner (SetTable.turns m) (SetTable.bits h % (m + 1)) (SetTable.bits h)
  pure (owner.setIfInBounds j (some k), k + 1)
theorem ow_step {m : Nat} (hm : m = 7 ∨ m = 31) {ow : Array (Option Nat)} {hs : List Int} (O : Ow m ow hs) (hl : hs.length ≤ m) (h : Int) : ∃ ow', stp m (some (ow, hs.length)) h = some (ow', hs.length + 1) ∧ Ow m ow' (hs ++ [h]) := by
  obtain ⟨j0, h1, h2⟩ := ow_free O hl
  obtain ⟨n, h3, h4⟩ := round hm h h1
  obtain ⟨k, e, hn, hb⟩ := free_run O.size h (SetTable.turns m) 0 0 rfl (fun q hq => absurd hq (Nat.not_lt_zero _)) ⟨n, Nat.zero_le _, by unfold SetTable.turns; omega, by rw [h4]; exact h2⟩
  have hj := sl_le (m := m) h k
  refine ⟨ow.setIfInBounds (sl m h k) (some hs.length), ?_, ?_⟩
  · unfold stp
    simp only [Option.bind_eq_bind, Option.bind_some]
    have e' : SetTable.layClean.free m ow (SetTable.turns m) (SetTable.bits h % (m + 1)) (SetTable.bits h) = some (sl m h k) := e
    rw [e']
    rfl
  · have hget : ∀ j : Nat, (ow.setIfInBounds (sl m h k) (some hs.length))[j]? = if sl m h k = j then some (some hs.length) else ow[j]? := fun j => by
      rw [Array.getElem?_setIfInBounds]
      by_cases z : sl m h k = j
      · rw [if_pos z, if_pos (by rw [O.size]; omega), if_pos z]
      · rw [if_neg z, if_neg z]
    have hold : ∀ j a : Nat, ow[j]? = some (some a) → sl m h k ≠ j := fun j a ha z => hn ⟨a, by rw [z]; exact ha⟩
    have tk : ∀ x, Taken ow x → Taken (ow.setIfInBounds (sl m h k) (some hs.length)) x := fun x ⟨a, ha⟩ => ⟨a, by rw [hget, if_neg (hold x a ha)]; exact ha⟩
    refine ⟨by rw [Array.size_setIfInBounds]; exact O.size, fun j a ha => ?_, fun a ha => ?_, fun j a ha => ?_⟩
    · rw [hget] at ha
      rw [List.length_append]
      split at ha
      · cases ha; simp
      · have := O.lt j a ha; simp; omega
    · rw [List.length_append] at ha
      by_cases z : a < hs.length
      · obtain ⟨j, e1, e2⟩ := O.one a z
        refine ⟨j, by rw [hget, if_neg (hold j a e1)]; exact e1, fun j' hj' => ?_⟩
        rw [hget] at hj'
        split at hj'
        · cases hj'; omega
        · exact e2 j' hj'
      · have ea : a = hs.length := by simp at ha; omega
        subst ea
        refine ⟨sl m h k, by rw [hget, if_pos rfl], fun j' hj' => ?_⟩
        rw [hget] at hj'
        split at hj'
        · rename_i z; exact z.symm
        · exact absurd (O.lt j' _ hj') (Nat.lt_irrefl _)
    · rw [hget] at ha
      split at ha
      · rename_i z
        cases ha
        refine ⟨h, by simp, ?_⟩
        rw [← z]
        exact ⟨k, rfl, fun q hq => tk _ (hb q hq)⟩
      · obtain ⟨h', e1, e2⟩ := O.rch j a ha
        refine ⟨h', ?_, e2.mono tk⟩
        rw [List.getElem?_append_left (O.lt j a ha)]
        exact e1
theorem ow_all {m : Nat} (hm : m = 7 ∨ m = 31) : ∀ (rest hs : List Int) (ow : Array (Option Nat)), Ow m ow hs → hs.length + rest.length ≤ m → ∃ ow', rest.foldl (stp m) (some (ow, hs.length)) = some (ow', (hs ++ rest).length) ∧ Ow m ow' (hs ++ rest)
  | [], hs, ow, O, _ => ⟨ow, by rw [List.append_nil]; rfl, by rw [List.append_nil]; exact O⟩
  | h :: rest, hs, ow, O, hl => by
    rw [List.length_cons] at hl
    obtain ⟨ow1, e1, O1⟩ := ow_step hm O (by omega) h
    obtain ⟨ow2, e2, O2⟩ := ow_all hm rest (hs ++ [h]) ow1 O1 (by rw [List.length_append]; simp; omega)
    refine ⟨ow2, ?_, ?_⟩
    · rw [List.foldl_cons, e1]
      rw [List.length_append] at e2
      simpa using e2
    · simpa using O2
theorem clean_ok {m : Nat} (hm : m = 7 ∨ m = 31) (hs : List Int) (hl : hs.length ≤ m) : ∃ ow, SetTable.layClean m hs.toArray = some ow ∧ Ow m ow hs := by
  have O0 : Ow m (Array.replicate (m + 1) none) [] := by
    have hn : ∀ j a : Nat, (Array.replicate (m + 1) (none : Option Nat))[j]? ≠ some (some a) := fun j a z => by
      rw [Array.getElem?_replicate] at z
      split at z <;> simp at z
    exact ⟨by simp, fun j a z => absurd z (hn j a), fun a ha => absurd ha (Nat.not_lt_zero _), fun j a z => absurd z (hn j a)⟩
  obtain ⟨ow, e, O⟩ := ow_all hm hs [] _ O0 (by simpa using hl)
  rw [List.nil_append] at O e
  refine ⟨ow, ?_, O⟩
  have e' : hs.foldl (stp m) (some (Array.replicate (m + 1) none, 0)) = some (ow, hs.length) := e
  show Option.map (·.1) (hs.toArray.foldl (stp m) (some (Array.replicate (m + 1) none, 0))) = some ow
  rw [← Array.foldl_toList]
  show Option.map (·.1) (hs.foldl (stp m) _) = some ow
  rw [e']
  rfl
theorem laid_ok {m : Nat} (hm : m = 7 ∨ m = 31) (hs : List Int) (hr : hs.length * 5 < m * 3) (finger moves : Nat) (led plain : Bool) :
    ∃ t o, SetTable.laid m finger moves led plain hs.toArray = some (t, o) ∧ t.led = led ∧ t.plain = plain ∧ t.mask = m ∧ o.toList.length = hs.length ∧ (∀ a ∈ o.toList, a < hs.length) ∧ (∀ a, a < hs.length → a ∈ o.toList) ∧ Tb t (o.toList.filterMap (hs[·]?)) := by
  obtain ⟨ow, e, O⟩ := clean_ok hm hs (by omega)
  have el : SetTable.laid m finger moves led plain hs.toArray = some ({ mask := m, place := (((List.range (m + 1)).filterMap fun j => (ow.getD j none).map (j, ·)).map (·.1)).toArray, dummies := #[], finger, led, moves, plain }, (((List.range (m + 1)).filterMap fun j => (ow.getD j none).map (j, ·)).map (·.2)).toArray) := by
    unfold SetTable.laid
    rw [e]
    rfl
  have T := (laid_tidy el).1
  refine ⟨_, _, el, rfl, rfl, rfl, ?_⟩
  have mem : ∀ j a, (j, a) ∈ ((List.range (m + 1)).filterMap fun j => (ow.getD j none).map (j, ·)) ↔ ow[j]? = some (some a) := fun j a => by
    rw [List.mem_filterMap]
    have gd : ∀ i, ow.getD i none = (ow[i]?).getD none := fun i => by simp [Array.getD_eq_getD_getElem?]
    constructor
    · rintro ⟨j', _, e'⟩
      rw [gd] at e'
      cases q : ow[j']? with
      | none => rw [q] at e'; cases e'
      | some v =>
        rw [q] at e'
        cases v with
        | none => cases e'
        | some b => cases e'; exact q
    · intro q
      have hj : j < ow.size := (Array.getElem?_eq_some_iff.mp q).1
      exact ⟨j, List.mem_range.mpr (by rw [← O.size]; exact hj), by rw [gd, q]; rfl⟩
  generalize ((List.range (m + 1)).filterMap fun j => (ow.getD j none).map (j, ·)) = live at *
  have hlt : ∀ a ∈ live.map (·.2), a < hs.length := fun a ha => by
    obtain ⟨⟨j, b⟩, h1, rfl⟩ := List.mem_map.mp ha
    exact O.lt j b ((mem j b).mp h1)
  have hall : ∀ a, a < hs.length → a ∈ live.map (·.2) := fun a ha => by
    obtain ⟨j, e1, _⟩ := O.one a ha
    exact List.mem_map.mpr ⟨(j, a), (mem j a).mpr e1, rfl⟩
  have R : live.Pairwise fun x y => x.1 < y.1 := by
    have := T.rise
    simpa [List.pairwise_map] using this
  have nd : (live.map (·.2)).Nodup := by
    unfold List.Nodup
    rw [List.pairwise_map]
    refine List.Pairwise.imp_of_mem (fun {x y} hx hy hxy z => ?_) R
    obtain ⟨j, a⟩ := x
    obtain ⟨j', a'⟩ := y
    dsimp only at z hxy
    subst z
    obtain ⟨i, _, u⟩ := O.one a (O.lt j a ((mem j a).mp hx))
    have := u j ((mem j a).mp hx)
    have := u j' ((mem j' a).mp hy)
    omega
  have hlen : live.length = hs.length := by
    have h1 := nodup_len (b := List.range hs.length) nd fun a ha => List.mem_range.mpr (hlt a ha)
    have h2 := nodup_len (b := live.map (·.2)) (List.nodup_range (n := hs.length)) fun a ha => hall a (List.mem_range.mp ha)
    rw [List.length_range, List.length_map] at h1 h2
    omega
  have hfm : ∀ l : List (Nat × Nat), (∀ a ∈ l.map (·.2), a < hs.length) → (l.map (·.2)).filterMap (hs[·]?) = l.map fun q => (hs[q.2]?).getD 0 := fun l => by
    induction l with
    | nil => intro _; rfl
    | cons q l ih =>
      intro hq
      have h1 : q.2 < hs.length := hq _ (by simp)
      rw [List.map_cons, List.filterMap_cons, List.getElem?_eq_getElem h1]
      dsimp only
      rw [ih fun a ha => hq a (List.mem_cons_of_mem _ ha), List.map_cons, List.getElem?_eq_getElem h1]
      rfl
  refine ⟨by simpa using hlen, by simpa using hlt, by simpa using hall, T, hm, ?_, fun j hj => ?_, ?_, fun q hq => ?_⟩
  · rw [show ((live.map (·.2)).toArray.toList) = live.map (·.2) from rfl, hfm live hlt]; simp
  · have hj2 : j ∈ live.map (·.1) := by simpa using hj
    obtain ⟨⟨j', a⟩, h1, rfl⟩ := List.mem_map.mp hj2
    have := (Array.getElem?_eq_some_iff.mp ((mem j' a).mp h1)).1
    have := O.size
    show j' ≤ m
    omega
  · rw [show ((live.map (·.2)).toArray.toList) = live.map (·.2) from rfl, hfm live hlt, List.length_map, hlen]
    show hs.length ≤ m
    omega
  · rw [show ((live.map (·.2)).toArray.toList) = live.map (·.2) from rfl, hfm live hlt] at hq
    have hq2 : q ∈ (live.map fun q => (hs[q.2]?).getD 0).zip (live.map (·.1)) := hq
    rw [List.zip_map', List.mem_map] at hq2
    obtain ⟨⟨j, a⟩, h1, rfl⟩ := hq2
    obtain ⟨h, e1, e2⟩ := O.rch j a ((mem j a).mp h1)
    dsimp only
    rw [e1, Option.getD_some]
    refine e2.mono fun x ⟨b, hb⟩ => ?_
    show x ∈ (live.map (·.1)).toArray.toList
    exact List.mem_map.mpr ⟨(x, b), (mem x b).mpr hb, rfl⟩
end TP
end
section
set_option Elab.async false
set_option linter.all false
set_option maxRecDepth 100000
namespace TP
open PySem SS PyProof.Rows
section
variable {prog : Program} {w : World} {K : Type} [DecidableEq K] {knd : KeyKind prog w K} {A : Around} {E : Value → Shared → Prop} {s : Shared}
theorem class_byValue (n : Nat) {v : Value} (h : carriedByValue v = true) : ofAClassStatement n v = pure false := by
  cases v <;> first | (simp [carriedByValue] at h; done) | rfl | simp [ofAClassStatement] | (unfold ofAClassStatement; rfl)
theorem of_class {ks : List K} {a : Addr} {Q : Bool → Shared → Prop} (hk : IsTupleKey knd s.heap ks a) (h : Q false s) : wpAny (model prog w) A (ofAClassStatement 8 (.ref a)) Q E s := by
  have hT := hk.typeIs
  obtain ⟨o, items, n, ho, hc, hd, hi⟩ := hk
  unfold ofAClassStatement
  refine wpAny_bind (wpAny_typeOf hT ?_)
  dsimp only
  rw [show (("tuple" : String) == "tuple") = true from by decide]
  simp only [if_true]
  refine wpAny_bind (wpAny_pure ?_)
  simp only [Bool.not_true, Bool.false_eq_true, if_false]
  refine wpAny_bind (wpAny_seqItems ho hd ?_)
  refine wpAny_bind ?_
  show wpAny _ _ (forIn items _ _) _ _ s
  rw [← Array.forIn_toList]
  refine wpAny_forIn_list _ (fun rest r s' => r.1 = none ∧ s' = s ∧ ∀ v ∈ rest, carriedByValue v = true) _ ?_ ?_ _ _ ⟨rfl, rfl, hi.byValue⟩
  · rintro v rest r s' ⟨hr, rfl, hall⟩
    rw [class_byValue _ (hall v List.mem_cons_self)]
    refine wpAny_bind (wpAny_pure ?_)
    simp only [Bool.false_eq_true, if_false]
    exact wpAny_pure ⟨rfl, rfl, fun u hu' => hall u (List.mem_cons_of_mem _ hu')⟩
  · rintro ⟨r1, r2⟩ s' ⟨hr, rfl, _⟩
    simp only at hr
    subst hr
    exact wpAny_pure h
theorem seen_no {ky : List K} {b : Addr} {vs : List Value} {Q : Bool → Shared → Prop} (hb : IsTupleKey knd s.heap ky b) (hv : ∀ v ∈ vs, ∃ c kc, v = .ref c ∧ IsTupleKey knd s.heap kc c) (h : Q false s) :
    wpAny (model prog w) A (searchCouldBeSeen (.ref b) vs) Q E s := by
  unfold searchCouldBeSeen
  refine wpAny_bind ?_
  refine wpAny_forIn_list _ (fun rest r s' => r.1 = none ∧ s' = s ∧ ∀ v ∈ rest, ∃ c kc, v = .ref c ∧ IsTupleKey knd s.heap kc c) _ ?_ ?_ _ _ ⟨rfl, rfl, hv⟩
  · rintro v rest r s' ⟨hr, rfl, hall⟩
    obtain ⟨c, kc, rfl, hc⟩ := hall v List.mem_cons_self
    have rest' : ∀ u ∈ rest, ∃ c kc, u = Value.ref c ∧ IsTupleKey knd s'.heap kc c := fun u hu => hall u (List.mem_cons_of_mem _ hu)
    dsimp only
    cases hbc : (b == c) with
    | true => exact wpAny_pure ⟨rfl, rfl, rest'⟩
    | false =>
      simp only [carriedByValue, Bool.false_or, Bool.and_false, Bool.false_eq_true, if_false]
      refine wpAny_bind (wpAny_eqIsQuiet_tuple hb ?_)
      simp only [Bool.not_true, Bool.false_eq_true, if_false]
      refine wpAny_bind (wpAny_eqIsQuiet_tuple hc ?_)
      simp only [Bool.not_true, Bool.false_eq_true, if_false]
      refine wpAny_bind (of_class hb ?_)
      simp only [Bool.false_eq_true, if_false]
      refine wpAny_bind (of_class hc ?_)
      simp only [Bool.false_eq_true, if_false]
      exact wpAny_pure ⟨rfl, rfl, rest'⟩
  · rintro ⟨r1, r2⟩ s' ⟨hr, rfl, _⟩
    simp only at hr
    subst hr
    exact wpAny_pure h
theorem byValue_some (n : Nat) {v : Value} (h : carriedByValue v = true) : ∃ b, hashByValue n v = pure b := by
  cases v <;> first | (simp [carriedByValue] at h; done) | exact ⟨_, by cases n <;> rfl⟩
theorem by_hash {ks : List K} {a : Addr} {Q : Bool → Shared → Prop} (hk : IsTupleKey knd s.heap ks a) (h : ∀ b, Q b s) : wpAny (model prog w) A (hashByValue 8 (.ref a)) Q E s := by
  have hT := hk.typeIs
  obtain ⟨o, items, n, ho, hc, hd, hi⟩ := hk
  unfold hashByValue
  refine wpAny_bind (wpAny_specialOf hT F.slot_tuple_hash.lookup ?_)
  dsimp only
  refine wpAny_bind (wpAny_seqItems ho hd ?_)
  simp only [Option.getD_some]
  refine wpAny_bind ?_
  show wpAny _ _ (forIn items _ _) _ _ s
  rw [← Array.forIn_toList]
  refine wpAny_forIn_list _ (fun rest r s' => r.1 = none ∧ s' = s ∧ ∀ v ∈ rest, carriedByValue v = true) _ ?_ ?_ _ _ ⟨rfl, rfl, hi.byValue⟩
  · rintro v rest r s' ⟨hr, rfl, hall⟩
    obtain ⟨b, e⟩ := byValue_some 7 (hall v List.mem_cons_self)
    rw [e]
    refine wpAny_bind (wpAny_pure ?_)
    cases b with
    | true =>
      simp only [Bool.not_true, Bool.false_eq_true, if_false]
      exact wpAny_pure ⟨rfl, rfl, fun u hu' => hall u (List.mem_cons_of_mem _ hu')⟩
    | false =>
      simp only [Bool.not_false, if_true]
      first | exact wpAny_pure (h false) | exact wpAny_pure (wpAny_pure (h false)) | exact wpAny_bind (wpAny_pure (wpAny_pure (h false)))
  · rintro ⟨r1, r2⟩ s' ⟨hr, rfl, _⟩
    simp only at hr
    subst hr
    exact wpAny_pure (h true)
end
end TP
end
section
set_option Elab.async false
set_option linter.all false
set_option maxRecDepth 100000
namespace TP
open PySem SS PyProof.Rows
section
variable {prog : Program} {w : World} {K : Type} [DecidableEq K] {knd : KeyKind prog w K} {A : Around} {E : Value → Shared → Prop} {s : Shared}
noncomputable def ent (knd : KeyKind prog w K) (x : List K × Addr) : Int × Value := (tupleKeyHash knd x.1, .ref x.2)
noncomputable def IsT (knd : KeyKind prog w K) (G : Addr → Prop) (h : Heap) (a : Addr) (ks : List (List K)) : Prop :=
  ∃ o es ep t, ∃ xs : List (List K × Addr), h.get? a = some o ∧ o.ExactSet ∧ o.data = .set es ep t ∧ es.toList = xs.map (ent knd) ∧ (∀ x ∈ xs, IsTupleKey knd h x.1 x.2 ∧ G x.2) ∧ xs.length = ks.length ∧ (∀ k, k ∈ xs.map (·.1) ↔ k ∈ ks) ∧ Tb t (es.toList.map (·.1)) ∧ ks.length * 5 < t.mask * 3
theorem Tb.fits {t : SetTable} {es : Array (Int × Value)} (B : Tb t (es.toList.map (·.1))) : t.fits es.size = true := by
  have h1 := B.size
  have h2 := B.room
  rw [List.length_map, Array.length_toList] at h1 h2
  have h3 : t.fill = t.place.size := by unfold SetTable.fill; rw [B.tidy.gaps]; rfl
  unfold SetTable.fits
  rw [h3, h1]
  simp only [beq_self_eq_true, Bool.true_and, decide_eq_true_eq]
  omega
theorem place_one {t : SetTable} (T : Tidy t) {i i' j : Nat} (h : t.place[i]? = some j) (h' : t.place[i']? = some j) : i = i' := by
  obtain ⟨a, e⟩ := Array.getElem?_eq_some_iff.mp h
  obtain ⟨a', e'⟩ := Array.getElem?_eq_some_iff.mp h'
  rcases Nat.lt_trichotomy i i' with g | g | g
  · have := at_mono T.rise g a'; omega
  · exact g
  · have := at_mono T.rise g a; omega
theorem search_run {a b : Addr} {o : Obj} {es : Array (Int × Value)} {ep : Nat} {t : SetTable} {xs : List (List K × Addr)} {ky : List K} (hu : A.units < cLine) (ho : s.heap.get? a = some o) (hd : o.data = .set es ep t) (B : Tb t (es.toList.map (·.1)))
    (he : es.toList = xs.map (ent knd)) (hk : ∀ x ∈ xs, IsTupleKey knd s.heap x.1 x.2) (hb : IsTupleKey knd s.heap ky b) {k0 : Nat} (hk0 : k0 ≤ 10 * (t.mask + 13)) (hn : sl t.mask (tupleKeyHash knd ky) k0 ∉ t.place.toList) (hbf : ∀ q, q < k0 → sl t.mask (tupleKeyHash knd ky) q ∈ t.place.toList)
    {Q : SetFound → Shared → Prop} (q1 : (∃ x ∈ xs, x.1 = ky) → Q (.there none) s) (q2 : (∀ x ∈ xs, x.1 ≠ ky) → Q (.free (sl t.mask (tupleKeyHash knd ky) k0) false) s) :
    ∀ (f p : Nat) (st : Option SetTable.Probe), st.getD (t.probeStart (tupleKeyHash knd ky)) = pr t.mask (tupleKeyHash knd ky) p → p ≤ k0 → k0 < p + f →
      (∀ q, q < p → ∀ (i : Nat) (x : List K × Addr), t.place[i]? = some (sl t.mask (tupleKeyHash knd ky) q) → xs[i]? = some x → x.1 ≠ ky) → wpAny (model prog w) A (setSearchFrom a (.ref b) (tupleKeyHash knd ky) true f st) Q E s
  | 0, p, st, _, h1, h2, _ => by omega
  | f + 1, p, st, hst, h1, h2, h3 => by
    have hxe : ∀ i : Nat, es[i]? = (xs[i]?).map (ent knd) := fun i => by
      rw [← Array.getElem?_toList, he, List.getElem?_map]
    have hsz : t.place.size = xs.length := by
      have := B.size
      rw [he, List.map_map, List.length_map] at this
      exact this
    have hgo := go_run B.tidy (fun i => (es[i]?.map (·.1)).getD 0) (tupleKeyHash knd ky) (10 * SetTable.turns t.mask) p ⟨k0, h1, by unfold SetTable.turns; omega, hn⟩
    obtain ⟨k', g1, g2, g3⟩ := hgo
    have hgi : ∀ {i : Nat} {x : List K × Addr}, xs[i]? = some x → (es[i]?.map (·.1)).getD 0 = tupleKeyHash knd x.1 := fun {i x} hx => by rw [hxe, hx]; rfl
    have hat : ∀ {i j : Nat}, t.place[i]? = some j → ∃ x, xs[i]? = some x ∧ x ∈ xs := fun {i j} hi => by
      have hi' : i < xs.length := by rw [← hsz]; exact (Array.getElem?_eq_some_iff.mp hi).1
      exact ⟨xs[i], List.getElem?_eq_getElem hi', List.getElem_mem hi'⟩
    have hk'0 : k' ≤ k0 := Classical.byContradiction fun z => by
      obtain ⟨i, hi, _⟩ := g2 k0 h1 (by omega)
      exact hn (Array.mem_toList_iff.mpr (Array.mem_of_getElem? hi))
    unfold setSearchFrom
    refine wpAny_bind (wpAny_setState_of ho hd B.fits ?_)
    dsimp only
    have hgw : t.gaveWay = false := by
      unfold SetTable.gaveWay
      rcases B.mask with m | m <;> rw [m] <;> rfl
    rw [hgw]
    simp only [Bool.false_eq_true, if_false]
    rcases g3 with ⟨g4, g5⟩ | ⟨i, g4, g5, g6⟩
    · have ep0 : t.probe (fun i => (es[i]?.map (·.1)).getD 0) (tupleKeyHash knd ky) (st.getD (t.probeStart (tupleKeyHash knd ky))) = some (.empty (sl t.mask (tupleKeyHash knd ky) k') none) := by rw [hst]; exact g5
      erw [ep0]
      dsimp only
      have ek : k' = k0 := Classical.byContradiction fun z => g4 (hbf k' (by omega))
      rw [ek]
      refine wpAny_pure (q2 fun x hx hxk => ?_)
      obtain ⟨i, hi, ei⟩ := List.getElem_of_mem hx
      have hxi : xs[i]? = some x := by rw [List.getElem?_eq_getElem hi, ei]
      have hpi : i < t.place.size := by omega
      have hz : (tupleKeyHash knd ky, t.place[i]) ∈ (es.toList.map (·.1)).zip t.place.toList := by
        refine List.mem_iff_getElem?.mpr ⟨i, ?_⟩
        rw [List.getElem?_zip_eq_some]
        refine ⟨?_, by simp [hpi]⟩
        rw [List.getElem?_map, Array.getElem?_toList, hxe, hxi, ← hxk]
        rfl
      obtain ⟨kk, e1, e2⟩ := B.rch _ hz
      dsimp only at e1 e2
      have hpl : t.place[i]? = some (sl t.mask (tupleKeyHash knd ky) kk) := by rw [Array.getElem?_eq_getElem hpi, e1]
      have hkk : kk < k0 := Classical.byContradiction fun z => by
        rcases Nat.lt_or_eq_of_le (Nat.le_of_not_lt z) with g | g
        · exact hn (e2 k0 g)
        · exact hn (by rw [g]; exact Array.mem_toList_iff.mpr (Array.mem_of_getElem? hpl))
      by_cases hp : kk < p
      · exact h3 kk hp i x hpl hxi hxk
      · obtain ⟨i', j1, j2⟩ := g2 kk (by omega) (by omega)
        have := place_one B.tidy j1 hpl
        subst this
        rw [hgi hxi, hxk] at j2
        simp at j2
    · have ep0 : t.probe (fun i => (es[i]?.map (·.1)).getD 0) (tupleKeyHash knd ky) (st.getD (t.probeStart (tupleKeyHash knd ky))) = some (.candidate (sl t.mask (tupleKeyHash knd ky) k') i (pr t.mask (tupleKeyHash knd ky) (k' + 1))) := by rw [hst]; exact g6
      erw [ep0]
      dsimp only
      obtain ⟨x, hx, hxm⟩ := hat g4
      have hxe2 : es[i]? = some (ent knd x) := by rw [hxe, hx]; rfl
      have hsl : t.slot (sl t.mask (tupleKeyHash knd ky) k') = .live i := by
        rcases slot_at B.tidy (sl t.mask (tupleKeyHash knd ky) k') with ⟨z, _⟩ | ⟨i', z1, z2⟩
        · exact absurd (Array.mem_toList_iff.mpr (Array.mem_of_getElem? g4)) z
        · rw [z2, place_one B.tidy z1 g4]
      have hvs : ∀ v ∈ ((es.filter (·.1 == tupleKeyHash knd ky)).toList.map (·.2)), ∃ c kc, v = Value.ref c ∧ IsTupleKey knd s.heap kc c := fun v hv => by
        obtain ⟨e, h5, rfl⟩ := List.mem_map.mp hv
        rw [Array.toList_filter, List.mem_filter] at h5
        rw [he] at h5
        obtain ⟨y, hy, rfl⟩ := List.mem_map.mp h5.1
        exact ⟨y.2, y.1, rfl, hk y hy⟩
      have hlt : k' < k0 := by
        rcases Nat.lt_or_eq_of_le hk'0 with g | g
        · exact g
        · exact absurd (Array.mem_toList_iff.mpr (Array.mem_of_getElem? g4)) (by rw [g]; exact hn)
      have again : x.1 ≠ ky → ∀ q, q < k' + 1 → ∀ (i : Nat) (y : List K × Addr), t.place[i]? = some (sl t.mask (tupleKeyHash knd ky) q) → xs[i]? = some y → y.1 ≠ ky := fun hxk q hq i' y hi' hy hyk => by
        by_cases z1 : q < p
        · exact h3 q z1 i' y hi' hy hyk
        · by_cases z2 : q < k'
          · obtain ⟨i2, j1, j2⟩ := g2 q (by omega) z2
            have := place_one B.tidy j1 hi'
            subst this
            rw [hgi hy, hyk] at j2
            simp at j2
          · have : q = k' := by omega
            subst this
            have := place_one B.tidy hi' g4
            subst this
            rw [hx] at hy
            cases hy
            exact hxk hyk
      have hsm : t.sameMemory t.moves t.mask = some true := by unfold SetTable.sameMemory; simp
      rw [hxe2]
      cases hl : t.led with
      | true =>
        simp only [Bool.not_true, Bool.false_eq_true, if_false, ent]
        refine wpAny_bind (wpAny_holding (wpAny_eqBool_tuple hu (hk x hxm) hb ?_))
        refine wpAny_bind (wpAny_setState_of ho hd B.fits ?_)
        dsimp only
        by_cases hxk : x.1 = ky
        · rw [decide_eq_true hxk]
          simp only [Bool.and_self, if_true]
          exact wpAny_pure (q1 ⟨x, hxm, hxk⟩)
        · rw [decide_eq_false hxk]
          simp only [Bool.and_false, Bool.false_eq_true, if_false]
          rw [hsm]
          dsimp only
          simp only [if_true]
          rw [hsl]
          dsimp only
          rw [hxe2]
          dsimp only [ent]
          refine wpAny_bind (wpAny_isSame_ref_self ?_)
          simp only [if_true]
          refine wpAny_bind (wpAny_pure ?_)
          exact search_run hu ho hd B he hk hb hk0 hn hbf q1 q2 f (k' + 1) _ rfl (by omega) (by omega) (again hxk)
      | false =>
        simp only [Bool.not_false, if_true, ent]
        refine wpAny_bind (seen_no hb hvs ?_)
        simp only [Bool.false_eq_true, if_false]
        refine wpAny_bind (wpAny_holding (wpAny_eqBool_tuple hu (hk x hxm) hb ?_))
        refine wpAny_bind (wpAny_setState_of ho hd B.fits ?_)
        dsimp only
        by_cases hxk : x.1 = ky
        · rw [decide_eq_true hxk]
          simp only [Bool.and_self, if_true]
          exact wpAny_pure (q1 ⟨x, hxm, hxk⟩)
        · rw [decide_eq_false hxk]
          simp only [Bool.and_false, Bool.false_eq_true, if_false]
          rw [hsm]
          dsimp only
          simp only [if_true]
          rw [hsl]
          dsimp only
          rw [hxe2]
          dsimp only [ent]
          refine wpAny_bind (wpAny_isSame_ref_self ?_)
          simp only [if_true]
          refine wpAny_bind (wpAny_pure ?_)
          exact search_run hu ho hd B he hk hb hk0 hn hbf q1 q2 f (k' + 1) _ rfl (by omega) (by omega) (again hxk)
end
end TP
end
section
set_option Elab.async false
set_option linter.all false
set_option maxRecDepth 100000
namespace TP
open PySem SS PyProof.Rows
theorem relay_un (a : Addr) (wanted : Nat) : setRelay a wanted = (do
    let (es, _, t) ← setState a
    if SetTable.sizeAbove wanted > sizeLine then unsupported "set:memory"
    let (es, t) ← (do
      let some (t', order) := t.relaid (es.map (·.1)) wanted | unsupported "internal:set-table-without-room"
      let es' := order.filterMap (es[·]?)
      if es'.size != es.size then unsupported "internal:set-table-lost-an-element"
      pure (es', t'))
    storeSet a es t) := rfl
theorem Tb.plain {t : SetTable} {hs : List Int} (B : Tb t hs) (b : Bool) : Tb { t with plain := b } hs := ⟨⟨B.tidy.rise, B.tidy.gaps⟩, B.mask, B.size, B.bnd, B.room, B.rch⟩
noncomputable def insT {α : Type} [DecidableEq α] (ks : List α) (k : α) : List α := if k ∈ ks then ks else ks ++ [k]
section
variable {prog : Program} {w : World} {K : Type} [DecidableEq K] {knd : KeyKind prog w K} {A : Around} {E : Value → Shared → Prop} {s : Shared} {G : Addr → Prop}
theorem key_but {h h' : Heap} {ks : List K} {b d : Addr} {o : Obj} {es : Array (Int × Value)} {ep : Nat} {t : SetTable} (x : IsTupleKey knd h ks b) (ho : h.get? d = some o) (hd : o.data = .set es ep t) (hs : Heap.SameBut d h h') : IsTupleKey knd h' ks b := by
  obtain ⟨o', items, n, ho', hc, hd', hi⟩ := x
  have hne : b ≠ d := by
    rintro rfl
    obtain rfl : o' = o := Option.some.inj (ho'.symm.trans ho)
    rw [hd] at hd'; exact nomatch hd'
  exact ⟨o', items, n, (hs.2 b hne).trans ho', hc, hd', hi⟩
theorem IsT.at {h h' : Heap} {a : Addr} {ks : List (List K)} (x : IsT knd G h a ks) (k : ∀ b o, b = a ∨ G b → h.get? b = some o → h'.get? b = some o) : IsT knd G h' a ks := by
  obtain ⟨o, es, ep, t, xs, e, h1, h2, h3, h4, r⟩ := x
  refine ⟨o, es, ep, t, xs, k a o (.inl rfl) e, h1, h2, h3, fun x hx => ?_, r⟩
  obtain ⟨⟨o', items, n, ho', z⟩, g⟩ := h4 x hx
  exact ⟨⟨o', items, n, k _ _ (.inr g) ho', z⟩, g⟩
theorem put_end {a b : Addr} {o : Obj} {es es1 : Array (Int × Value)} {ep : Nat} {t t1 : SetTable} {xs1 : List (List K × Addr)} {ks : List (List K)} {R : Bool → Shared → Prop}
    (ho : s.heap.get? a = some o) (hx : o.ExactSet) (hd : o.data = .set es ep t) (h1 : es1.toList = xs1.map (ent knd)) (h2 : ∀ x ∈ xs1, IsTupleKey knd s.heap x.1 x.2 ∧ G x.2) (h3 : xs1.length = ks.length) (h4 : ∀ k, k ∈ xs1.map (·.1) ↔ k ∈ ks) (B : Tb t1 (es1.toList.map (·.1)))
    (hn : ks.length ≤ 18) {n : Nat} (hsz : n = ks.length)
    (h : ∀ h', Heap.SameBut a s.heap h' → IsT knd G h' a ks → R true { s with heap := h' }) :
    wpAny (model prog w) A (do
      storeSet a es1 t1
      if (!false && t1.tooFull) = true then do
        setRelay a (SetTable.grown n)
        pure true
      else pure true) R E s := by
  have hes : es1.size = ks.length := by rw [← Array.length_toList, h1, List.length_map, h3]
  have hlen : (es1.toList.map (·.1)).length = ks.length := by rw [List.length_map, Array.length_toList, hes]
  have hfill : t1.fill = ks.length := by
    unfold SetTable.fill
    rw [B.tidy.gaps, B.size, hlen]
    rfl
  have sz9 : es1.size ≤ sizeLine := Nat.le_trans (by omega : es1.size ≤ 1000) (by decide)
  refine wpAny_bind (wpAny_storeSet_of ho hd ?_ sz9)
  have g1 := put_is (es' := es1) (t' := t1) ho hd
  have sb := Heap.SameBut.update s.heap a (Obj.putSet es1 t1)
  by_cases hf : t1.tooFull = true
  · rw [hf]
    simp only [Bool.not_false, Bool.and_self, if_true]
    have hf2 : ks.length * 5 ≥ t1.mask * 3 := by
      unfold SetTable.tooFull at hf
      rw [hfill] at hf
      exact of_decide_eq_true hf
    have h20 : SetTable.sizeAbove (SetTable.grown n) = 32 := by
      have hb := B.room
      rw [hlen] at hb
      rcases B.mask with m | m
      · rw [m] at hf2 hb
        have : n = 5 ∨ n = 6 ∨ n = 7 := by omega
        rcases this with e | e | e <;> rw [e] <;> decide
      · rw [m] at hf2
        omega
    obtain ⟨t2, od, e1, e2, e3, e4, e5, e6, e7, B2⟩ := laid_ok (.inr rfl) (es1.toList.map (·.1)) (by rw [hlen]; omega) t1.finger (t1.movedTo 31) t1.led t1.plain
    have erl : t1.relaid (es1.map (·.1)) (SetTable.grown n) = some (t2, od) := by
      unfold SetTable.relaid
      rw [h20]
      have : es1.map (·.1) = (es1.toList.map (·.1)).toArray := by
        apply Array.toList_inj.mp
        simp
      rw [this]
      exact e1
    rw [hlen] at e5 e6 e7
    rw [relay_un]
    have B1f : t1.fits es1.size = true := B.fits
    refine wpAny_bind (wpAny_bind (wpAny_setState_of (o := { o with data := .set es1 (ep + 1) t1 }) g1 rfl B1f ?_))
    dsimp only
    rw [h20, if_neg (show ¬ 32 > sizeLine by decide)]
    rw [erl]
    dsimp only
    have hfl : (od.filterMap (es1[·]?)).toList = (od.toList.filterMap (xs1[·]?)).map (ent knd) := by
      rw [Array.toList_filterMap, List.map_filterMap]
      congr 1
      funext i
      rw [← Array.getElem?_toList, h1, List.getElem?_map]
    have hxl : (od.toList.filterMap (xs1[·]?)).length = ks.length := by
      have key : ∀ l : List Nat, (∀ i ∈ l, i < xs1.length) → (l.filterMap (xs1[·]?)).length = l.length := fun l => by
        induction l with
        | nil => intro _; rfl
        | cons i l ih =>
          intro hi
          rw [List.filterMap_cons, List.getElem?_eq_getElem (hi i (by simp))]
          dsimp only
          rw [List.length_cons, List.length_cons, ih fun j hj => hi j (List.mem_cons_of_mem _ hj)]
      rw [key _ fun i hi => by rw [h3]; exact e6 i hi]
      exact e5
    have hsz2 : (od.filterMap (es1[·]?)).size = es1.size := by rw [← Array.length_toList, hfl, List.length_map, hxl, hes]
    rw [hsz2]
    simp only [bne_self_eq_false, Bool.false_eq_true, if_false]
    refine wpAny_bind (wpAny_pure ?_)
    dsimp only
    refine wpAny_storeSet_of (o := { o with data := .set es1 (ep + 1) t1 }) g1 rfl ?_ (by rw [hsz2]; exact sz9)
    refine wpAny_pure (h _ (sb.trans (Heap.SameBut.update ..)) ⟨_, od.filterMap (es1[·]?), ep + 1 + 1, t2, od.toList.filterMap (xs1[·]?), put_is (s := { s with heap := s.heap.update a (Obj.putSet es1 t1) }) g1 rfl, hx, rfl, hfl, fun x hx2 => ?_, hxl, fun k => ?_, ?_, ?_⟩)
    · obtain ⟨i, _, hi⟩ := List.mem_filterMap.mp hx2
      exact ⟨key_but (h2 x (List.mem_of_getElem? hi)).1 ho hd (sb.trans (Heap.SameBut.update ..)), (h2 x (List.mem_of_getElem? hi)).2⟩
    · rw [← h4 k]
      constructor
      · intro z
        obtain ⟨x, hx2, rfl⟩ := List.mem_map.mp z
        obtain ⟨i, _, hi⟩ := List.mem_filterMap.mp hx2
        exact List.mem_map.mpr ⟨x, List.mem_of_getElem? hi, rfl⟩
      · intro z
        obtain ⟨x, hx2, rfl⟩ := List.mem_map.mp z
        obtain ⟨i, hi, ei⟩ := List.getElem_of_mem hx2
        exact List.mem_map.mpr ⟨x, List.mem_filterMap.mpr ⟨i, e7 i (by omega), by rw [List.getElem?_eq_getElem hi, ei]⟩, rfl⟩
    · have : (od.filterMap (es1[·]?)).toList.map (·.1) = od.toList.filterMap ((es1.toList.map (·.1))[·]?) := by
        rw [Array.toList_filterMap, List.map_filterMap]
        congr 1
        funext i
        rw [List.getElem?_map, Array.getElem?_toList]
      rw [this]
      exact B2
    · rw [e4]; omega
  · have hf' : t1.tooFull = false := by cases z : t1.tooFull with | true => exact absurd z hf | false => rfl
    rw [hf']
    simp only [Bool.and_false, Bool.false_eq_true, if_false]
    refine wpAny_pure (h _ sb ⟨_, es1, ep + 1, t1, xs1, g1, hx, rfl, h1, fun x hx2 => ⟨key_but (h2 x hx2).1 ho hd sb, (h2 x hx2).2⟩, h3, h4, B, ?_⟩)
    unfold SetTable.tooFull at hf'
    rw [hfill] at hf'
    have := of_decide_eq_false hf'
    omega
theorem addT_is {a b : Addr} {ky : List K} {ks : List (List K)} {Q : Bool → Shared → Prop} (hu : A.units < cLine) (hS : IsT knd G s.heap a ks) (hb : IsTupleKey knd s.heap ky b) (hG : G b) (hn : ks.length + 1 ≤ 18)
    (h : ∀ bl h', Heap.SameBut a s.heap h' → IsT knd G h' a (insT ks ky) → Q bl { s with heap := h' }) : wpAny (model prog w) A (setAddHashed a (.ref b) (tupleKeyHash knd ky)) Q E s := by
  obtain ⟨o, es, ep, t, xs, ho, hx, hd, he, hk, hl, hm, B, hr⟩ := id hS
  have hes : es.size = ks.length := by rw [← Array.length_toList, he, List.length_map, hl]
  have hpl : t.place.toList.length ≤ t.mask := by
    have h1 := B.size
    have h2 := B.room
    rw [Array.length_toList, h1]
    exact h2
  obtain ⟨k0, f1, f2, f3⟩ := free_at B.mask (tupleKeyHash knd ky) hpl
  unfold setAddHashed setAddHashedIn
  refine wpAny_holding (wpAny_bind (wpAny_setState_of ho hd B.fits ?_))
  dsimp only
  rw [show byScan (.ref b) es = false from rfl]
  simp only [Bool.false_eq_true, if_false]
  unfold setSearch
  refine wpAny_bind (search_run hu ho hd B he (fun x hx => (hk x hx).1) hb f1 f2 f3 (fun hin => ?_) (fun hno => ?_) 100000 0 none rfl (Nat.zero_le _) ?_ fun q hq => absurd hq (Nat.not_lt_zero _))
  · dsimp only
    refine wpAny_pure ?_
    have e : insT ks ky = ks := by
      unfold insT
      rw [if_pos]
      obtain ⟨x, hx2, e⟩ := hin
      exact (hm ky).mp (List.mem_map.mpr ⟨x, hx2, e⟩)
    have z := h false s.heap (Heap.SameBut.refl a s.heap) (by rw [e]; exact hS)
    exact z
  · dsimp only
    have hnk : ky ∉ ks := fun z => by
      obtain ⟨x, hx2, e⟩ := List.mem_map.mp ((hm ky).mpr z)
      exact hno x hx2 e
    have e : insT ks ky = ks ++ [ky] := by unfold insT; rw [if_neg hnk]
    rw [e] at h
    refine wpAny_bind (wpAny_setState_of ho hd B.fits ?_)
    dsimp only
    have hlh : (es.toList.map (·.1)).length = ks.length := by rw [List.length_map, Array.length_toList, hes]
    have hroom : (es.toList.map (·.1)).length + 1 ≤ t.mask := by
      rw [hlh]
      rcases B.mask with m | m <;> rw [m] at hr ⊢ <;> omega
    have P := put_ok B f2 f3 hroom
    have hput : (SetTable.insertAt es (t.put (sl t.mask (tupleKeyHash knd ky) k0)).2 (tupleKeyHash knd ky, Value.ref b)).toList = (xs.take (t.put (sl t.mask (tupleKeyHash knd ky) k0)).2 ++ (ky, b) :: xs.drop (t.put (sl t.mask (tupleKeyHash knd ky) k0)).2).map (ent knd) := by
      rw [SetTable.toList_insertAt, he, List.map_append, List.map_cons, List.map_take, List.map_drop]
      rfl
    have hP : Tb (t.put (sl t.mask (tupleKeyHash knd ky) k0)).1 ((SetTable.insertAt es (t.put (sl t.mask (tupleKeyHash knd ky) k0)).2 (tupleKeyHash knd ky, Value.ref b)).toList.map (·.1)) := by
      rw [SetTable.toList_insertAt, List.map_append, List.map_cons, List.map_take, List.map_drop]
      exact P
    have fin : ∀ bv : Bool, wpAny (model prog w) A (do
        storeSet a (SetTable.insertAt es (t.put (sl t.mask (tupleKeyHash knd ky) k0)).2 (tupleKeyHash knd ky, Value.ref b)) { (t.put (sl t.mask (tupleKeyHash knd ky) k0)).1 with plain := bv }
        if (!false && SetTable.tooFull { (t.put (sl t.mask (tupleKeyHash knd ky) k0)).1 with plain := bv }) = true then do
          setRelay a (SetTable.grown (es.size + 1))
          pure true
        else pure true) Q E s := fun bv => by
      refine put_end (b := b) (ks := ks ++ [ky]) ho hx hd hput (fun x hx2 => ?_) ?_ (fun k => ?_) (hP.plain bv) (by rw [List.length_append]; simp; omega) (by rw [hes, List.length_append]; rfl) fun h' sb x => h true h' sb x
      · rcases List.mem_append.mp hx2 with z | z
        · exact hk x (List.mem_of_mem_take z)
        · rcases List.mem_cons.mp z with z | z
          · rw [z]; exact ⟨hb, hG⟩
          · exact hk x (List.mem_of_mem_drop z)
      · have := congrArg List.length (List.take_append_drop (t.put (sl t.mask (tupleKeyHash knd ky) k0)).2 xs)
        simp only [List.length_append, List.length_cons, List.length_nil] at this ⊢
        omega
      · rw [List.mem_append, ← hm k, List.mem_singleton]
        have hm2 : ∀ y : List K × Addr, y ∈ (xs.take (t.put (sl t.mask (tupleKeyHash knd ky) k0)).2 ++ (ky, b) :: xs.drop (t.put (sl t.mask (tupleKeyHash knd ky) k0)).2) ↔ y ∈ xs ∨ y = (ky, b) := fun y => by
          have := List.take_append_drop (t.put (sl t.mask (tupleKeyHash knd ky) k0)).2 xs
          constructor
          · intro z
            rcases List.mem_append.mp z with z | z
            · exact .inl (List.mem_of_mem_take z)
            · rcases List.mem_cons.mp z with z | z
              · exact .inr z
              · exact .inl (List.mem_of_mem_drop z)
          · rintro (z | z)
            · rw [← this] at z
              rcases List.mem_append.mp z with z | z
              · exact List.mem_append_left _ z
              · exact List.mem_append_right _ (List.mem_cons_of_mem _ z)
            · rw [z]; exact List.mem_append_right _ List.mem_cons_self
        constructor
        · intro z
          obtain ⟨y, hy, rfl⟩ := List.mem_map.mp z
          rcases (hm2 y).mp hy with g | g
          · exact .inl (List.mem_map.mpr ⟨y, g, rfl⟩)
          · rw [g]; exact .inr rfl
        · rintro (z | z)
          · obtain ⟨y, hy, rfl⟩ := List.mem_map.mp z
            exact List.mem_map.mpr ⟨y, (hm2 y).mpr (.inl hy), rfl⟩
          · exact List.mem_map.mpr ⟨(ky, b), (hm2 _).mpr (.inr rfl), z.symm⟩
    split
    · refine wpAny_bind (by_hash hb fun bv => ?_)
      cases bv with
      | true =>
        simp only [if_true]
        exact fin (t.put (sl t.mask (tupleKeyHash knd ky) k0)).1.plain
      | false =>
        simp only [Bool.false_eq_true, if_false]
        exact fin false
    · refine wpAny_bind (wpAny_pure ?_)
      simp only [if_true]
      exact fin (t.put (sl t.mask (tupleKeyHash knd ky) k0)).1.plain
  · rcases B.mask with m | m <;> rw [m] at f1 <;> omega
end
end TP
end
section
set_option Elab.async false
set_option linter.all false
set_option maxRecDepth 100000
namespace TP
open PySem SS PyProof.Rows
noncomputable def metT {K : Type} [DecidableEq K] (val : Nat → K) (i : Nat) : List K := ((List.range i).map val).foldl insT []
theorem metT_succ {K : Type} [DecidableEq K] (val : Nat → K) (i : Nat) : metT val (i + 1) = insT (metT val i) (val i) := by
  unfold metT; rw [List.range_succ, List.map_append, List.foldl_append]; rfl
theorem metT_le {K : Type} [DecidableEq K] (val : Nat → K) : ∀ i, (metT val i).length ≤ i
  | 0 => Nat.le_refl _
  | i + 1 => by
    rw [metT_succ]
    have ih := metT_le val i
    unfold insT
    split
    · omega
    · rw [List.length_append]; simp; omega
section
variable {prog : Program} {w : World} {K : Type} [DecidableEq K] {knd : KeyKind prog w K} {A : Around} {E : Value → Shared → Prop} {s : Shared} {G : Addr → Prop}
theorem fill_T {R : Result → Shared → Prop} {I S : Addr} {fp wr : List Addr} {n : Nat} {P : Nat → Value → Prop} {St : Nat → Heap → Prop} (hu : A.in1.units < cLine) (W : Walks prog w A.in1 I fp wr n P St) (hS : S ∉ fp) (hG : ∀ b, G b → b ∉ S :: wr)
    (val : Nat → List K) (adr : Nat → Addr) (hv : ∀ i v, P i v → v = .ref (adr i)) (ha : ∀ i, i < n → G (adr i)) (hb : n ≤ 18) : ∀ (k i : Nat) (s : Shared), n - i = k → i ≤ n → St i s.heap → (∀ i, i < n → IsTupleKey knd s.heap (val i) (adr i)) → IsT knd G s.heap S (metT val i) →
      (∀ h' tk, (∀ b o, b ∉ S :: wr → s.heap.get? b = some o → h'.get? b = some o) → IsT knd G h' S (metT val n) → R (.ok (.ret .none)) { s with heap := h', toks := tk }) →
      codeAny (model prog w) A (.builtin "set.update.loop" ⟨[.ref S, .ref I], []⟩) R s := by
  have hw : S ∉ wr := fun z => hS (W.sub _ z)
  have hGw : ∀ b, b = S ∨ G b → b ∉ wr := fun b z zw => by
    rcases z with rfl | z
    · exact hw zw
    · exact hG b z (List.mem_cons_of_mem _ zw)
  intro k
  induction k with
  | zero =>
    intro i s hk hi st hkey x hR
    obtain rfl : i = n := by omega
    refine codeAny_builtin F.entry_set_update_loop ?_
    rw [Around.under_plainId F.plain_set_update_loop _]
    show wpAny _ A.in1 (pyNext (.ref I) >>= _) _ _ s
    refine wpAny_bind (W.done s _ _ st fun h' tk kp => ?_)
    show wpAny _ A.in1 (ret Value.none) _ _ _
    exact wpAny_pure (hR h' tk (fun b o nb e => kp b o (fun z => nb (List.mem_cons_of_mem _ z)) e) (x.at fun b o z e => kp b o (hGw b z) e))
  | succ k ih =>
    intro i s hk hi st hkey x hR
    have lt : i < n := by omega
    refine codeAny_builtin F.entry_set_update_loop ?_
    rw [Around.under_plainId F.plain_set_update_loop _]
    show wpAny _ A.in1 (pyNext (.ref I) >>= _) _ _ s
    refine wpAny_bind (W.item i s _ _ lt st fun v h1 t1 hP st1 kp => ?_)
    obtain rfl := hv i v hP
    have x1 : IsT knd G h1 S (metT val i) := x.at fun b o z e => kp b o (hGw b z) e
    have hkey1 : ∀ j, j < n → IsTupleKey knd h1 (val j) (adr j) := fun j hj => by
      obtain ⟨o', items, m, ho', z⟩ := hkey j hj
      exact ⟨o', items, m, kp _ _ (hGw _ (.inr (ha j hj))) ho', z⟩
    show wpAny _ A.in1 (holding [Value.ref (adr i)] (setAdd S (.ref (adr i))) >>= _) _ _ _
    refine wpAny_bind (wpAny_holding ?_)
    unfold setAdd
    refine wpAny_holding (wpAny_bind (wpAny_pyHash_tuple hu (s := { s with heap := h1, toks := t1 }) (hkey1 i lt) ?_))
    refine addT_is (G := G) hu (by exact x1) (by exact hkey1 i lt) (ha i lt) (by have := metT_le val i; omega) fun b h2 sb x2 => ?_
    rw [← metT_succ] at x2
    refine wpAny_pure ⟨plainId_quiet F.plain_set_update_loop _, ih (i + 1) _ (by omega) lt (W.frame _ _ _ st1 fun c hc o e => ?_) (fun j hj => ?_) x2 fun h3 t3 kp3 x3 => ?_⟩
    · rw [sb.2 c fun z => hS (by rw [← z]; exact hc)]; exact e
    · obtain ⟨o', items, m, ho', z⟩ := hkey1 j hj
      exact ⟨o', items, m, (sb.2 _ fun z => hG _ (ha j hj) (by rw [z]; exact List.mem_cons_self)).trans ho', z⟩
    · refine hR h3 t3 (fun c o nc e => kp3 c o nc ?_) x3
      rw [sb.2 c fun z => nc (by rw [z]; exact List.mem_cons_self)]
      exact kp c o (fun z => nc (List.mem_cons_of_mem _ z)) e
theorem freshT {h : Heap} {a : Addr} (e : h.get? a = some (fresh w)) : IsT knd G h a [] :=
  ⟨_, #[], 0, _, [], e, ⟨rfl, rfl, rfl⟩, rfl, rfl, fun _ z => by simp at z, rfl, fun k => by simp, ⟨⟨by simp [SetTable.fresh], rfl⟩, .inl rfl, rfl, fun j hj => by simp [SetTable.fresh] at hj, Nat.zero_le _, fun q hq => by simp at hq⟩, by show 0 * 5 < 7 * 3; decide⟩
end
end TP
end
section
set_option Elab.async false
set_option linter.all false
set_option maxRecDepth 100000
namespace TP
open PySem SS PyProof.Rows
section
variable {prog : Program} {w : World} {K : Type} [DecidableEq K] {knd : KeyKind prog w K} {A : Around} {E : Value → Shared → Prop} {s : Shared}
set_option maxHeartbeats 3200000 in
theorem sset_T {l : Addr} {its : Array Value} {ks : List (List K)} {ads : List Addr} {Q : Value → Shared → Prop} (hh : A.handled = none) (hu : A.in1.in1.in1.units < cLine) (hl : s.heap.IsList l its) (hi : its.toList = ads.map Value.ref) (hkl : ks.length = ads.length) (hk : ∀ i : Nat, i < ads.length → IsTupleKey knd s.heap (ks.getD i []) (ads.getD i 0)) (hb : its.size ≤ 18)
    (h : ∀ (h' : Heap) (tk : Nat), IsT knd (· < s.heap.objs.size) h' s.heap.objs.size (metT (fun i => ks.getD i []) its.size) → (∀ b o, s.heap.get? b = some o → h'.get? b = some o) → Q (.ref s.heap.objs.size) { s with heap := h', toks := tk }) :
    wpAny (model prog w) A (call (.type "set") [.ref l]) Q E s := by
  obtain ⟨c, tl, hmro⟩ := F.called_set.mro
  have hmade := F.called_set.made
  have hsub := F.called_set.sub
  refine wpAny_call (codeAny_of_tree ?_)
  show wpAny _ _ (callAny (.type "set") _) _ _ _
  refine wpAny_pure ⟨Code.quiet_builtin _ (by decide +kernel), codeAny_builtin F.entry_type_call ?_⟩
  rw [Around.under_plain (weight_type_call_type "set" [.ref l] []) rfl]
  have h1 := F.called_set.notType
  have h2 := F.called_set.canCreate
  have hct := F.typeCall_set_1 (.ref l)
  repeat (any_goals (first | assumption | wp_step))
  refine codeAny_mono (new_led (.ref l) (E := E) (Q₁ := fun v s₁ => v = .ref s.heap.objs.size ∧ s₁ = { s with heap := s.heap.push (fresh w) }) ⟨rfl, rfl⟩) fun r s₁ hr => ?_
  cases r with
  | error e => exact hr
  | ok fl =>
    cases fl with
    | ret obj =>
      obtain ⟨rfl, rfl⟩ := hr
      have hS : (s.heap.push (fresh w)).get? s.heap.objs.size = some (fresh w) := Heap.get?_push_size _ rfl
      have hT : Shared.TypeIs { s with heap := s.heap.push (fresh w) } (.ref s.heap.objs.size) "set" := ⟨_, hS, rfl⟩
      have hli := F.called_set.init.lookup
      have hbi := F.called_set.init.bind (.ref s.heap.objs.size)
      repeat (any_goals (first | assumption | wp_step))
      refine codeAny_mono (codeAny_call_builtin (R := wants (fun r s₂ => r = .none ∧ ∃ h' tk, s₂ = { s with heap := h', toks := tk } ∧ IsT knd (· < s.heap.objs.size) h' s.heap.objs.size (metT (fun i => ks.getD i []) its.size) ∧
          (∀ b o, s.heap.get? b = some o → h'.get? b = some o)) E) F.called_set.init.plain F.entry_set_init (check_set_init_1 hT ?_)) fun r₂ s₂ hr₂ => ?_
      · obtain ⟨ol, hol, hcl, nl, hdl⟩ := hl
        obtain ⟨ocls, odict, odata, oslots⟩ := ol
        simp only at hcl hdl
        subst hcl; subst hdl
        have hol' : (s.heap.push (fresh w)).get? l = some { cls := .type "list", dict := odict, data := .seq its nl, slots := oslots } := Heap.get?_push_of_some _ hol
        have hsls := F.sub_list_set
        have hslf := F.sub_list_frozenset
        have hne : (Value.type "list" == Value.type "dict") = false := by decide
        have hl1 : (s.heap.push (fresh w)).IsList l its := ⟨_, hol', rfl, nl, rfl⟩
        unfold Builtin.«set.__init__» noKeywords Builtin.Frozenset.updateFrom
        generalize hPI : pyIter = PI
        wp_walk
        subst hPI
        refine wpAny_pyIter_list hl1 ?_
        refine wpAny_bind (wpAny_runValue ?_)
        have lt : l < s.heap.objs.size := Heap.lt_size hol
        have nI : l ≠ (s.heap.push (fresh w)).objs.size := by rw [Heap.size_push]; exact Nat.ne_of_lt (Nat.lt_succ_of_lt lt)
        have nf : s.heap.objs.size ∉ [(s.heap.push (fresh w)).objs.size, l] := by
          rw [Heap.size_push]
          intro z
          rcases List.mem_cons.mp z with z | z
          · exact absurd z (Nat.ne_of_lt (Nat.lt_succ_self _))
          · exact absurd (List.mem_singleton.mp z) (Nat.ne_of_gt lt)
        have hsz : its.size = ads.length := by rw [← Array.length_toList, hi, List.length_map]
        have hlt : ∀ i, i < its.size → ads.getD i 0 < s.heap.objs.size := fun i hi2 => by
          obtain ⟨o', _, _, ho', _⟩ := hk i (by omega)
          exact Heap.lt_size ho'
        refine fill_T (knd := knd) (G := (· < s.heap.objs.size)) ?_ (Walks.list (by simp [hh]) _ l nI its) nf (fun b hb z => ?_) (fun i => ks.getD i []) (fun i => ads.getD i 0) (fun i v hv => ?_) hlt hb (its.size - 0) 0 _ (by omega) (Nat.zero_le _)
          ⟨⟨_, Heap.get?_push_size _ rfl, rfl, rfl⟩, hl1.push _⟩ (fun i hi2 => ?_) (by exact freshT (Heap.get?_push_of_some _ hS)) fun h' tk kp x => ?_
        · exact hu
        · have hb' : b < s.heap.objs.size := hb
          rcases List.mem_cons.mp z with z | z
          · exact absurd z (Nat.ne_of_lt hb')
          · have z := List.mem_singleton.mp z
            rw [Heap.size_push] at z
            exact absurd z (Nat.ne_of_lt (Nat.lt_succ_of_lt hb'))
        · have e : its.toList[i]? = some v := by rw [Array.getElem?_toList]; exact hv
          rw [hi, List.getElem?_map] at e
          rw [List.getD_eq_getElem?_getD]
          cases q : ads[i]? with
          | none => rw [q] at e; cases e
          | some b => rw [q] at e; cases e; rfl
        · obtain ⟨o', items, m, ho', z⟩ := hk i (by omega)
          exact ⟨o', items, m, Heap.get?_push_of_some _ (Heap.get?_push_of_some _ ho'), z⟩
        show wpAny _ _ _ _ _ _
        refine wpAny_pure ?_
        show wpAny _ _ (ret Value.none) _ _ _
        refine wpAny_pure ⟨rfl, h', tk, rfl, x, fun b o e => kp b o (fun z => ?_) (Heap.get?_push_of_some _ (Heap.get?_push_of_some _ e))⟩
        have hbz := Heap.lt_size e
        rcases List.mem_cons.mp z with z | z
        · exact absurd z (Nat.ne_of_lt hbz)
        · have z := List.mem_singleton.mp z
          rw [Heap.size_push] at z
          exact absurd z (Nat.ne_of_lt (Nat.lt_succ_of_lt hbz))
      · cases r₂ with
        | error e => exact hr₂
        | ok fl₂ =>
          cases fl₂ with
          | ret r =>
            obtain ⟨rfl, h', tk, rfl, x, kp⟩ := hr₂
            repeat (any_goals (first | assumption | wp_step))
            exact h _ _ x kp
          | _ => exact hr₂.elim
    | _ => exact hr.elim
end
end TP
end
section
set_option Elab.async false
set_option linter.all false
set_option maxRecDepth 100000
namespace TP
section
variable {α : Type} [DecidableEq α]
noncomputable def dT (ks : List α) : List α := ks.foldl insT []
theorem insT_le (l : List α) (a : α) : (insT l a).length ≤ l.length + 1 := by
  unfold insT
  split
  · omega
  · rw [List.length_append]; simp
theorem foldT_le : ∀ (ks l : List α), (ks.foldl insT l).length ≤ l.length + ks.length
  | [], l => Nat.le_refl _
  | k :: ks, l => by
    have h1 := foldT_le ks (insT l k)
    have h2 := insT_le l k
    rw [List.foldl_cons, List.length_cons]
    omega
theorem foldT_full : ∀ (ks l : List α), (ks.foldl insT l).length = l.length + ks.length ↔ ks.Nodup ∧ ∀ k ∈ ks, k ∉ l
  | [], l => by simp
  | k :: ks, l => by
    rw [List.foldl_cons, List.length_cons, List.nodup_cons]
    by_cases h : k ∈ l
    · have e : insT l k = l := by unfold insT; rw [if_pos h]
      rw [e]
      have := foldT_le ks l
      constructor
      · intro z; omega
      · intro z; exact absurd h (z.2 k List.mem_cons_self)
    · have e : insT l k = l ++ [k] := by unfold insT; rw [if_neg h]
      have ih := foldT_full ks (insT l k)
      rw [e] at ih ⊢
      rw [List.length_append] at ih
      have e2 : (l.length + [k].length + ks.length) = l.length + (ks.length + 1) := by simp; omega
      rw [e2] at ih
      rw [ih]
      constructor
      · rintro ⟨h1, h2⟩
        refine ⟨⟨fun z => h2 k z (by simp), h1⟩, fun x hx => ?_⟩
        rcases List.mem_cons.mp hx with rfl | hx
        · exact h
        · exact fun z => h2 x hx (List.mem_append_left _ z)
      · rintro ⟨⟨h1, h2⟩, h3⟩
        refine ⟨h2, fun x hx z => ?_⟩
        rcases List.mem_append.mp z with z | z
        · exact h3 x (List.mem_cons_of_mem _ hx) z
        · rw [List.mem_singleton.mp z] at hx; exact h1 hx
theorem dT_full (ks : List α) : (dT ks).length = ks.length ↔ ks.Nodup := by
  have := foldT_full ks []
  unfold dT
  simpa using this
theorem dT_met [Inhabited α] (ks : List α) (d : α) : metT (fun i => ks.getD i d) ks.length = dT ks := by
  unfold metT dT
  congr 1
  refine List.ext_getElem (by simp) fun i h1 h2 => ?_
  simp [List.getD_eq_getElem?_getD, List.getElem?_eq_getElem h2]
end
end TP
namespace L2
open PySem PyProof.Rows
noncomputable def SzO (a : Addr) (n : Nat) : HO := .ext fun h => ∃ o es ep t, h.get? a = some o ∧ o.ExactSet ∧ o.data = .set es ep t ∧ t.fits es.size = true ∧ es.size = n
section
variable {X : Cx}
theorem keys_at {P : Program} {w : World} {H : Hp} {h : Heap} (ok : HOk P w H h) : ∀ {vs : List V} {ks : List (List Key)} {us : List Value}, Paired (fun v k => ∃ b, v = .ref b ∧ KeyAt H b k) vs ks → Vals vs us → ∃ ads : List Addr, us = ads.map Value.ref ∧ ks.length = ads.length ∧ ∀ i : Nat, i < ads.length → IsTupleKey (mixB P w) h (ks.getD i []) (ads.getD i 0)
  | _, _, _, .nil, .nil => ⟨[], rfl, rfl, fun i hi => absurd hi (Nat.not_lt_zero _)⟩
  | _, _, _, .cons ⟨b, e, hb⟩ r, .cons h1 h2 => by
    obtain ⟨ads, e1, e2, e3⟩ := keys_at ok r h2
    subst e
    refine ⟨b :: ads, by rw [List.map_cons, ← e1]; congr 1, by rw [List.length_cons, List.length_cons, e2], fun i hi => ?_⟩
    cases i with
    | zero => exact key_of ok hb
    | succ i => exact e3 i (by simpa using hi)
theorem call_setT {k : Nat} (hc : X.calm = true) (hr : Room k X.A) : CallR X (.type "set") (fun xs H Q => ∃ (p : Addr) (vs : List V) (ks : List (List Key)), xs = [.ref p] ∧ SqL X.K H p vs ∧ Paired (fun v k => ∃ b, v = .ref b ∧ KeyAt H b k) vs ks ∧ vs.length ≤ 18 ∧ ∀ a, H a = none → Q (.ref a) (upd H a (SzO a (TP.dT ks).length))) := by
  intro pins s σ H xs us Q I r h
  obtain ⟨p, vs, ks, rfl, hs, hv, hn, q⟩ := h
  obtain ⟨u, rfl, ru⟩ := vals1 r
  cases (show u = Value.ref p from ru)
  obtain ⟨its, rv, pl, _⟩ := I.list hs
  obtain ⟨ads, e1, e2, e3⟩ := keys_at I.hok hv rv
  have hlen : its.length = ks.length := by rw [e1, List.length_map, e2]
  have hlv : vs.length = its.length := rv.length
  refine TP.sset_T (knd := mixB X.prog X.w) (ks := ks) (ads := ads) (I.ok.hd hc) (by have := hr.units; show X.A.units + 1 + 1 + 1 < cLine; omega) pl.isList (by simpa using e1) e2 e3 (by rw [List.size_toArray]; omega) fun h' tk x kp => ?_
  rw [show its.toArray.size = ks.length by rw [List.size_toArray, hlen], TP.dT_met] at x
  obtain ⟨o, es, ep, t, xs, x1, x2, x3, x4, x5, x6, x7, x8, x9⟩ := x
  have hsz : es.size = (TP.dT ks).length := by rw [← Array.length_toList, x4, List.length_map, x6]
  refine ⟨.ref s.heap.objs.size, _, I.laid (t' := tk) (o := SzO s.heap.objs.size (TP.dT ks).length) kp (Nat.le_refl _) ⟨⟨o, es, ep, t, x1, x2, x3, x8.fits, hsz⟩, ⟨o, x1⟩, fun h1 h2 y k => ?_⟩, rfl, q _ (I.hok.fresh (Nat.le_refl _))⟩
  obtain ⟨o', es', ep', t', y1, y⟩ := y
  exact ⟨o', es', ep', t', k _ y1, y⟩
theorem call_lenT : CallR X (.builtin "len") (fun xs H Q => ∃ a n, xs = [V.ref a] ∧ H a = some (SzO a n) ∧ n ≤ 1000 ∧ Q (.int (n : Nat)) H) := by
  intro pins s σ H xs us Q I r h
  obtain ⟨a, n, rfl, ha, hn, q⟩ := h
  obtain ⟨u, rfl, ru⟩ := vals1 r
  cases (show u = Value.ref a from ru)
  obtain ⟨o, es, ep, t, x1, x2, x3, x4, x5⟩ := (show ObjOk X.prog X.w H s.heap a (SzO a n) from I.hok a _ ha).1
  refine PySem.call_len_set x1 x2 x3 x4 (by omega) ?_
  rw [x5]
  exact ⟨.int (n : Nat), H, I.tok _, ⟨_, rfl⟩, q⟩
end
end L2
end
section
set_option Elab.async false
set_option linter.all false
set_option maxRecDepth 100000
set_option maxHeartbeats 4000000
namespace CN
open PySem L2
seal L2.PE L2.PT L2.PS L2.PSs L2.PA L2.PPs L2.PW L2.PC L2.PG L2.PGs L2.PI L2.PO L2.PTs
namespace Nt
noncomputable def top (i : Nat) : Stmt := PySem.Challenge.pw_choicenet_k09_graphs_judged.main.body.getD i (.Pass ⟨0, 0, 0, 0⟩)
theorem seq_as {a b : TS} {D : Ends} {σ : St} {H : Hp} (h : ∀ R, R = (fun σ H => b D σ H) → a { D with nx := R } σ H) : tSeq a b D σ H := h _ rfl
theorem if_as {c : TT} {t u : TS} {D : Ends} {σ : St} {H : Hp} (h : ∀ A B, A = (fun σ H => t D σ H) → B = (fun σ H => u D σ H) → c σ H fun b H1 => if b = true then A σ H1 else B σ H1) : tIfS c t u D σ H := h _ _ rfl rfl
noncomputable def nflds (ln lp lc ls : Addr) : List (Str × V) := [("nodes", .ref ln), ("places", .ref lp), ("choices", .ref lc), ("settled", .ref ls)]
noncomputable def ndV (nd : Nd) : List V := [.int nd.sw, .int (nd.off : Nat), .int (nd.on : Nat)]
noncomputable def ndK (nd : Nd) : List Key := [Sum.inl nd.sw, Sum.inl ((nd.off : Nat) : Int), Sum.inl ((nd.on : Nat) : Int)]
noncomputable def NdAt (H : Hp) (v : V) (nd : Nd) : Prop := ∃ a, v = .ref a ∧ H a = some (.tup (ndV nd))
structure Adr where
  p : Addr
  dx : Addr
  ln : Addr
  lp : Addr
  lc : Addr
  ls : Addr
structure NetAt (C : Addr) (H : Hp) (a : Adr) (ns : List Nd) (kp : List (List Key × V)) : Prop where
  ob : H a.p = some (.ins C a.dx (nflds a.ln a.lp a.lc a.ls))
  nodes : ∃ xs, H a.ln = some (.lst xs) ∧ Paired (NdAt H) xs ns
  places : H a.lp = some (.dT kp)
  pls : kp.length ≤ ns.length
  into : ∀ k v, valV kp k = some v → ∃ (i : Nat) (nd : Nd), ns[i]? = some nd ∧ k = ndK nd ∧ v = .int ((i + 2 : Nat) : Int)
  out : ∀ (i : Nat) (nd : Nd), ns[i]? = some nd → valV kp (ndK nd) = some (.int ((i + 2 : Nat) : Int))
theorem NdAt.to {H H' : Hp} (k : Tk H H') {v : V} {nd : Nd} (h : NdAt H v nd) : NdAt H' v nd := by
  obtain ⟨a, e, h⟩ := h
  exact ⟨a, e, k _ _ h⟩
theorem nds_to {H H' : Hp} (k : Tk H H') : ∀ {xs : List V} {ns : List Nd}, Paired (NdAt H) xs ns → Paired (NdAt H') xs ns
  | _, _, .nil => .nil
  | _, _, .cons a b => .cons (a.to k) (nds_to k b)
theorem nds_app {H : Hp} : ∀ {xs ys : List V} {ns ms : List Nd}, Paired (NdAt H) xs ns → Paired (NdAt H) ys ms → Paired (NdAt H) (xs ++ ys) (ns ++ ms)
  | _, _, _, _, .nil, s => s
  | _, _, _, _, .cons r t, s => .cons r (nds_app t s)
theorem nds_get {H : Hp} : ∀ {xs : List V} {ns : List Nd} {i : Nat} {nd : Nd}, Paired (NdAt H) xs ns → ns[i]? = some nd → ∃ v, xs[i]? = some v ∧ NdAt H v nd
  | _, _, _, _, .nil, e => by simp at e
  | _, _, 0, _, .cons r _, e => by simp at e; subst e; exact ⟨_, rfl, r⟩
  | _, _, i + 1, nd, .cons _ t, e => by
    obtain ⟨u, h1, h2⟩ := nds_get (i := i) (nd := nd) t (by simpa using e)
    exact ⟨u, by simpa using h1, h2⟩
theorem NetAt.ne {C : Addr} {H : Hp} {a : Adr} {ns : List Nd} {kp : List (List Key × V)} (h : NetAt C H a ns kp) : a.p ≠ a.ln ∧ a.p ≠ a.lp ∧ a.ln ≠ a.lp := by
  obtain ⟨xs, h1, h2⟩ := h.nodes
  exact ⟨ne_of h.ob h1 (by intro z; cases z), ne_of h.ob h.places (by intro z; cases z), ne_of h1 h.places (by intro z; cases z)⟩
noncomputable def But (L : List Addr) (H H' : Hp) : Prop := ∀ b o, H b = some o → b ∉ L → H' b = some o
section
variable {P : Program} {w : World} {K : PySem.W.Frag} {mg : Str → Option Value} {base : Heap}
end
end Nt
end CN
end
section
set_option Elab.async false
set_option linter.all false
set_option maxRecDepth 100000
set_option maxHeartbeats 4000000
namespace CN
open PySem L2
seal L2.PE L2.PT L2.PS L2.PSs L2.PA L2.PPs L2.PW L2.PC L2.PG L2.PGs L2.PI L2.PO L2.PTs
namespace Nt
noncomputable def chK (t y n : Nat) : List Key := [Sum.inl ((t : Nat) : Int), Sum.inl ((y : Nat) : Int), Sum.inl ((n : Nat) : Int)]
structure NetC (C : Addr) (H : Hp) (a : Adr) (ns : List Nd) (kp kc : List (List Key × V)) : Prop where
  at_ : NetAt C H a ns kp
  ch : H a.lc = some (.dT kc)
  ne : a.lc ≠ a.lp
  is : ∀ k v, valV kc k = some v → ∃ t y n r : Nat, k = chK t y n ∧ v = .int (r : Nat) ∧ Pl ns t ∧ Pl ns y ∧ Pl ns n ∧ Ite ns t y n r
theorem But.trans {L : List Addr} {H H1 H2 : Hp} (h : But L H H1) (k : But L H1 H2) : But L H H2 := fun b o e hb => k b o (h b o e hb) hb
theorem But.of {L : List Addr} {H H1 : Hp} (h : Same H H1) : But L H H1 := fun b o e _ => h b o e
theorem NetC.tk {C : Addr} {H H' : Hp} {a : Adr} {ns : List Nd} {kp kc : List (List Key × V)} (h : NetC C H a ns kp kc) (k : But [a.ln, a.lp, a.lc] H H') : Tk H H' := fun b xs e => by
  obtain ⟨ys, h1, _⟩ := h.at_.nodes
  refine k b _ e fun hm => ?_
  simp only [List.mem_cons, List.not_mem_nil, or_false] at hm
  rcases hm with rfl | rfl | rfl
  · rw [h1] at e; cases e
  · rw [h.at_.places] at e; cases e
  · rw [h.ch] at e; cases e
section
variable {P : Program} {w : World} {K : PySem.W.Frag} {mg : Str → Option Value} {base : Heap}
end
end Nt
end CN
end
section
set_option Elab.async false
set_option linter.all false
set_option maxRecDepth 100000
set_option maxHeartbeats 4000000
namespace CN
open PySem L2
seal L2.PE L2.PT L2.PS L2.PSs L2.PA L2.PPs L2.PW L2.PC L2.PG L2.PGs L2.PI L2.PO L2.PTs
namespace Nt
noncomputable def stK (p : Nat) (s : Int) (b : Bool) : List Key := [Sum.inl ((p : Nat) : Int), Sum.inl s, Sum.inl (bInt b)]
structure NetS (C : Addr) (H : Hp) (a : Adr) (ns : List Nd) (kp ks : List (List Key × V)) : Prop where
  at_ : NetAt C H a ns kp
  st : H a.ls = some (.dT ks)
  ne : a.ls ≠ a.lp
  is : ∀ k v, valV ks k = some v → ∃ (p : Nat) (s : Int) (b : Bool) (r : Nat), k = stK p s b ∧ v = .int (r : Nat) ∧ Pl ns p ∧ Stl ns p s b r
theorem NetS.tk {C : Addr} {H H' : Hp} {a : Adr} {ns : List Nd} {kp ks : List (List Key × V)} (h : NetS C H a ns kp ks) (k : But [a.ln, a.lp, a.ls] H H') : Tk H H' := fun b xs e => by
  obtain ⟨ys, h1, _⟩ := h.at_.nodes
  refine k b _ e fun hm => ?_
  simp only [List.mem_cons, List.not_mem_nil, or_false] at hm
  rcases hm with rfl | rfl | rfl
  · rw [h1] at e; cases e
  · rw [h.at_.places] at e; cases e
  · rw [h.st] at e; cases e
section
variable {P : Program} {w : World} {K : PySem.W.Frag} {mg : Str → Option Value} {base : Heap}
end
end Nt
end CN
end
section
set_option Elab.async false
set_option linter.all false
set_option maxRecDepth 100000
set_option maxHeartbeats 4000000
namespace CN
open PySem L2
seal L2.PE L2.PT L2.PS L2.PSs L2.PA L2.PPs L2.PW L2.PC L2.PG L2.PGs L2.PI L2.PO L2.PTs
namespace Nt
structure NetF (C : Addr) (H : Hp) (a : Adr) (ns : List Nd) (kp kc ks : List (List Key × V)) : Prop where
  c : NetC C H a ns kp kc
  s : NetS C H a ns kp ks
  ne : a.lc ≠ a.ls
  net : Net ns
noncomputable def own (a : Adr) : List Addr := [a.ln, a.lp, a.lc, a.ls]
theorem NetF.tk {C : Addr} {H H' : Hp} {a : Adr} {ns : List Nd} {kp kc ks : List (List Key × V)} (h : NetF C H a ns kp kc ks) (k : But (own a) H H') : Tk H H' := fun b xs e => by
  obtain ⟨ys, h1, _⟩ := h.c.at_.nodes
  refine k b _ e fun hm => ?_
  simp only [own, List.mem_cons, List.not_mem_nil, or_false] at hm
  rcases hm with rfl | rfl | rfl | rfl
  · rw [h1] at e; cases e
  · rw [h.c.at_.places] at e; cases e
  · rw [h.c.ch] at e; cases e
  · rw [h.s.st] at e; cases e
structure Sz (ns : List Nd) (kc ks : List (List Key × V)) (z : Nat) : Prop where
  n : ns.length ≤ z
  c : kc.length ≤ z
  s : ks.length ≤ z
section
variable {P : Program} {w : World} {K : PySem.W.Frag} {mg : Str → Option Value} {base : Heap}
end
end Nt
end CN
end
section
set_option Elab.async false
set_option linter.all false
set_option maxRecDepth 100000
set_option maxHeartbeats 4000000
namespace CN
open PySem L2
seal L2.PE L2.PT L2.PS L2.PSs L2.PA L2.PPs L2.PW L2.PC L2.PG L2.PGs L2.PI L2.PO L2.PTs
namespace Nt
noncomputable abbrev CI4 := Int × Int × Pos × Pos
noncomputable def kI (l : List CI4) : List (Option Expr) := l.map fun x => some (.Constant (.int x.1) 0 x.2.2.1)
noncomputable def vI (l : List CI4) : List Expr := l.map fun x => .Constant (.int x.2.1) 0 x.2.2.2
noncomputable def kvI (l : List CI4) : List (Key × V) := l.map fun x => (Sum.inl x.1, .int x.2.1)
noncomputable def tI4 (l : List CI4) : List (TE × TE) := l.map fun x => (tC (.int x.1), tC (.int x.2.1))
theorem pps_I {X : Cx} {pos : Pos} : ∀ l : List CI4, PPs X pos (kI l) (vI l) (tI4 l)
  | [] => pps_nil
  | _ :: l => pps_cons pe_int pe_int (pps_I l)
theorem tPairs_I {σ : St} {H : Hp} : ∀ (l : List CI4) (W : List (V × V) → Hp → Prop), tPairs (tI4 l) σ H W = W ((kvI l).map fun kv => (kV kv.1, kv.2)) H
  | [], _ => rfl
  | x :: l, W => tPairs_I l fun ps H3 => W ((.int x.1, .int x.2.1) :: ps) H3
noncomputable def tDispI (l : List CI4) : TE := fun _ H Q => ∀ p, H p = none → Q (.ref p) (upd H p (.dK (mergeK [] (kvI l))))
theorem pe_dispI {X : Cx} {pos : Pos} (l : List CI4) (h0 : (!l.isEmpty) = true) (h15 : Nat.ble l.length 15 = true) : PE X (.Dict (kI l) (vI l) pos) (tDispI l) := by
  have hl : l.length ≤ 15 := Nat.le_of_ble_eq_true h15
  refine (pe_disp (pps_I l) (by simp [kI]) (by simp [kI, vI]) (by cases l with | nil => cases h0 | cons => simp [kI]) (by simpa [kI] using hl)).imp fun σ H Q q p hp => ?_
  rw [tPairs_I]
  refine ⟨upd_same, kvI l, rfl, by simpa [kvI] using hl, ?_⟩
  rw [upd_upd]
  exact q p hp
theorem rd_dispI {l : List CI4} {σ : St} {H : Hp} {Q : VK} : tDispI l σ H Q = ∀ p, H p = none → Q (.ref p) (upd H p (.dK (mergeK [] (kvI l)))) := rfl
noncomputable abbrev s_ordered_graph : Stmt := top 1
noncomputable abbrev p_ordered_graph : List Str := ["nodes", "root"]
theorem sc_ordered_graph : FnScope ["nodes", "root", "new_places", "ordered", "waiting", "place", "node"] ["nodes", "root"] (defScope s_ordered_graph) := ⟨rfl, rfl, rfl, by decide +kernel, rfl, by decide +kernel, by decide +kernel⟩
noncomputable def unn (w : Ws) (N : Nat) : Nat := ((List.range N).filter fun q => (w.num q).isNone).length
theorem filter_lt {l : List Nat} {A B : Nat → Bool} (h : ∀ q, A q = true → B q = true) {p : Nat} (hp : p ∈ l) (ha : A p = false) (hb : B p = true) : (l.filter A).length < (l.filter B).length := by
  have mono : ∀ l : List Nat, (l.filter A).length ≤ (l.filter B).length := by
    intro l
    induction l with
    | nil => exact Nat.le_refl _
    | cons q l ih =>
      cases ha : A q with
      | true => simp only [List.filter_cons, ha, h q ha, if_true, List.length_cons]; omega
      | false =>
        cases hb : B q with
        | true => simp only [List.filter_cons, ha, hb, if_true, Bool.false_eq_true, if_false, List.length_cons]; omega
        | false => simp only [List.filter_cons, ha, hb, Bool.false_eq_true, if_false]; exact ih
  induction l with
  | nil => cases hp
  | cons q l ih =>
    have m := mono l
    rcases List.mem_cons.mp hp with e | e
    · subst e
      simp only [List.filter_cons, ha, hb, if_true, Bool.false_eq_true, if_false, List.length_cons]; omega
    · have i := ih e
      cases ha : A q with
      | true => simp only [List.filter_cons, ha, h q ha, if_true, List.length_cons]; omega
      | false =>
        cases hb : B q with
        | true => simp only [List.filter_cons, ha, hb, if_true, Bool.false_eq_true, if_false, List.length_cons]; omega
        | false => simp only [List.filter_cons, ha, hb, Bool.false_eq_true, if_false]; exact i
theorem unn_add {w : Ws} {N p : Nat} {nd : Nd} (hp : p < N) (hn : w.num p = none) : unn (w.add p nd) N < unn w N := by
  refine filter_lt (p := p) (fun q h => ?_) (List.mem_range.mpr hp) ?_ ?_
  · by_cases e : q = p
    · rw [e, hn]; rfl
    · rw [Ws.add_other w nd e] at h; exact h
  · rw [Ws.add_self]; rfl
  · rw [hn]; rfl
theorem unn0 (N : Nat) : unn w0 (N + 2) ≤ N := by
  unfold unn
  rw [List.range_succ_eq_map, List.filter_cons, if_neg (by decide), List.filter_map, List.length_map, List.range_succ_eq_map, List.filter_cons, if_neg (by decide), List.filter_map, List.length_map]
  exact Nat.le_trans (List.length_filter_le _ _) (by rw [List.length_range]; exact Nat.le_refl _)
theorem chain_len {N : Nat} : ∀ {st : List Nat}, st.Pairwise (· < ·) → (∀ q ∈ st, q < N) → st.length ≤ N := by
  have : ∀ (st : List Nat) (p : Nat), (p :: st).Pairwise (· < ·) → (∀ q ∈ p :: st, q < N) → (p :: st).length + p ≤ N := by
    intro st
    induction st with
    | nil => intro p _ h; have := h p (List.mem_cons_self ..); simp only [List.length_cons, List.length_nil]; omega
    | cons q st ih =>
      intro p h1 h2
      have a := List.pairwise_cons.mp h1
      have b := ih q a.2 fun x hx => h2 x (List.mem_cons_of_mem _ hx)
      have c := a.1 q (List.mem_cons_self ..)
      simp only [List.length_cons] at *; omega
  intro st h1 h2
  cases st with
  | nil => exact Nat.zero_le _
  | cons p st => have := this st p h1 h2; omega
inductive OrInv (H : Hp) (l ld lo lw : Addr) (ns : List Nd) (p : Nat) (m : Nat) (σ : St) (H2 : Hp) : Prop
  | mk (w : Ws) (st : List Nat) (os : List V) (kvs : List (Key × V)) (o5 o6 : Option V) (h0 : σ = [some (.ref l), some (.int (p : Nat)), some (.ref ld), some (.ref lo), some (.ref lw), o5, o6]) (h1 : Same H H2) (h2 : H2 ld = some (.dK kvs)) (h3 : H2 lo = some (.lst os)) (h4 : H2 lw = some (.lst (st.reverse.map fun q => V.int (q : Nat)))) (h5 : (∀ q : Nat, valV kvs (Sum.inl ((q : Nat) : Int)) = (w.num q).map fun x => V.int (x : Nat))) (h6 : kvs.length ≤ w.out.length + 2) (h7 : Paired (NdAt H2) os w.out) (h8 : Good ns w) (h9 : (∀ q ∈ st, Pl ns q)) (h10 : st.Pairwise (· < ·)) (h11 : w.out.length + unn w (ns.length + 2) ≤ ns.length) (h12 : runs ns st w = visit ns (p + 1) p w0) (h13 : costs ns st w = m) : OrInv H l ld lo lw ns p m σ H2
section
variable {P : Program} {w : World} {K : PySem.W.Frag} {mg : Str → Option Value} {base : Heap}
noncomputable def spOrd : Sp := fun vs H Q _ => ∃ (l : Addr) (xs : List V) (ns : List Nd) (p : Nat), vs = [.ref l, .int (p : Nat)] ∧ H l = some (.lst xs) ∧ Paired (NdAt H) xs ns ∧ Net ns ∧ Pl ns p ∧ ns.length ≤ 10000000 ∧
  ∀ (t lo : Addr) (os : List V) H', H t = none → H lo = none → Same H H' → H' t = some (.tup [.ref lo, .int ((graphOf ns p).2 : Nat)]) → H' lo = some (.lst os) → Paired (NdAt H') os (graphOf ns p).1 → (graphOf ns p).1.length ≤ ns.length → Q (.ref t) H'
theorem ok_ord {f : Addr} {fd : FuncData} (BT : Bt mg) (D : Df K mg "ordered_graph" s_ordered_graph p_ordered_graph f fd) : FnOk P w K mg base CX0 1 f fd p_ordered_graph spOrd := by
  refine D.F.ok sc_ordered_graph (fun vs H Q E h => ?_) (fun cdv A outer s H vs Q E hr h => ?_)
  · obtain ⟨l, xs, ns, p, rfl, _⟩ := h
    rfl
  · obtain ⟨l, xs, ns, p, rfl, hl, hxs, hN, hp, hz, q⟩ := h
    have hu := hu_of hr
    refine ⟨_, (pss_cons (ps_set (i := 2) sc_ordered_graph.nd rfl (by first | exact Or.inl rfl | exact Or.inr rfl) (pe_dispI [(0, 0, ⟨3, 18, 3, 19⟩, ⟨3, 21, 3, 22⟩), (1, 1, ⟨3, 24, 3, 25⟩, ⟨3, 27, 3, 28⟩)] (by rfl) (by rfl)))
    (pss_cons (ps_set (i := 3) sc_ordered_graph.nd rfl (by first | exact Or.inl rfl | exact Or.inr rfl) (pe_lst pa_nil))
    (pss_cons (ps_set (i := 4) sc_ordered_graph.nd rfl (by first | exact Or.inl rfl | exact Or.inr rfl) (pe_lst (pa_cons (pv 1) pa_nil)))
    (pss_cons (ps_while PassesOwn.never (pt_cmpR op_gt (pe_callB call_len_seq (by rfl) BT.n_len bo_len (pa_cons (pv 4) pa_nil)) pe_int (nomark _))
      (pss_cons (ps_set (i := 5) sc_ordered_graph.nd rfl (by first | exact Or.inl rfl | exact Or.inr rfl) (pe_ix ix_list (pv 4) (pe_un un_neg pe_int) (fun _ _ => rfl)))
      (pss_cons (ps_if (pt_cmp (pc_din hu (pv 5) (pv 2)))
        (pss_cons (ps_expr (pe_bm0 PySem.F.plainAttrs_list PySem.F.slot_list_pop PySem.F.type_list_pop mt_pop (pv 4)))
        (pss_one ps_continue))
        pss_nil)
      (pss_cons (ps_set (i := 6) sc_ordered_graph.nd rfl (by first | exact Or.inl rfl | exact Or.inr rfl) (pe_ix ix_list (pv 0) (pe_op op_sub (pv 5) pe_int) (fun _ _ => rfl)))
      (pss_one (ps_if (pt_cmp (pc_dnotin hu (pe_ix ix_tup (pv 6) pe_int (fun _ _ => rfl)) (pv 2)))
        (pss_one (ps_expr (pe_bm PySem.F.plainAttrs_list PySem.F.slot_list_append PySem.F.type_list_append mt_append (pv 4) (pa_cons (pe_ix ix_tup (pv 6) pe_int (fun _ _ => rfl)) pa_nil))))
        (pss_one (ps_if (pt_cmp (pc_dnotin hu (pe_ix ix_tup (pv 6) pe_int (fun _ _ => rfl)) (pv 2)))
          (pss_one (ps_expr (pe_bm PySem.F.plainAttrs_list PySem.F.slot_list_append PySem.F.type_list_append mt_append (pv 4) (pa_cons (pe_ix ix_tup (pv 6) pe_int (fun _ _ => rfl)) pa_nil))))
          (pss_cons (ps_expr (pe_bm PySem.F.plainAttrs_list PySem.F.slot_list_append PySem.F.type_list_append mt_append (pv 3) (pa_cons (pe_tup (pa_cons (pe_ix ix_tup (pv 6) pe_int (fun _ _ => rfl)) (pa_cons (pe_dget hu (pv 2) (pe_ix ix_tup (pv 6) pe_int (fun _ _ => rfl)) (fun _ _ => rfl)) (pa_cons (pe_dget hu (pv 2) (pe_ix ix_tup (pv 6) pe_int (fun _ _ => rfl)) (fun _ _ => rfl)) pa_nil)))) pa_nil)))
          (pss_one (ps_dput hu (pv 2) (pv 5) (pe_op op_add (pe_callB call_len_seq (by rfl) BT.n_len bo_len (pa_cons (pv 3) pa_nil)) pe_int) rfl)))))))))))
    (pss_one (ps_ret (pe_tup (pa_cons (pv 3) (pa_cons (pe_dget hu (pv 2) (pv 1) (fun _ _ => rfl)) pa_nil))))))))), ?_⟩
    refine seq_as fun R1 hR1 => ?_
    simp only [rdA, rd_dispI, kvI, rd_forL, rd_forR, rd_compT, rd_compL, rd_compR, rd_tyes]
    intro ld hld
    subst hR1
    refine seq_as fun R1 hR1 => ?_
    simp only [rdA, rd_forL, rd_forR, rd_compT, rd_compL, rd_compR, rd_tyes]
    intro lo hlo
    subst hR1
    refine seq_as fun R1 hR1 => ?_
    simp only [rdA, rd_forL, rd_forR, rd_compT, rd_compL, rd_compR, rd_tyes]
    intro lw hlw
    subst hR1
    refine seq_as fun R1 hR1 => ?_
    have s1 := Same.new (o := HO.dK (mergeK [] [(Sum.inl 0, V.int 0), (Sum.inl 1, V.int 1)])) hld
    have s2 := Same.new (o := HO.lst []) hlo
    have s3 := Same.new (o := HO.lst [V.int (p : Nat)]) hlw
    have hlo0 : H lo = none := s1.free hlo
    have hlw0 : H lw = none := s1.free (s2.free hlw)
    have n1 : ld ≠ lo := ne_of_none upd_same hlo
    have n2 : ld ≠ lw := ne_of_none (s2 _ _ upd_same) hlw
    have n3 : lo ≠ lw := ne_of_none upd_same hlw
    have hz1 := unn0 ns.length
    refine ⟨OrInv H l ld lo lw ns p, ⟨_, w0, [p], [], _, none, none, rfl, s1.trans (s2.trans s3), s3 _ _ (s2 _ _ upd_same), s3 _ _ upd_same, upd_same, fun q => ?_, by decide, .nil, good0 ns, by simpa using hp, by simp, by simpa [w0] using hz1, rfl, rfl⟩, ?_⟩
    · simp only [w0]
      by_cases e0 : q = 0
      · subst e0; rfl
      · by_cases e1 : q = 1
        · subst e1; rfl
        · rw [if_neg e0, if_neg e1]
          have h0 : ¬ (Sum.inl ((0 : Int)) : Key) = Sum.inl ((q : Nat) : Int) := fun h => e0 (by have := Sum.inl.inj h; omega)
          have h1 : ¬ (Sum.inl ((1 : Int)) : Key) = Sum.inl ((q : Nat) : Int) := fun h => e1 (by have := Sum.inl.inj h; omega)
          show valV [((Sum.inl 0 : Key), V.int 0), (Sum.inl 1, V.int 1)] _ = _
          rw [valV_neg h0, valV_neg h1]; rfl
    · rintro m σ H2 ⟨w, st, os, kvs, o5, o6, rfl, sm, hd, ho, hw, hnum, hkl, hos, g, hst, hpw, hun, hrun, hm⟩
      simp only [rdA, rd_forL, rd_forR, rd_compT, rd_compL, rd_compR, rd_tyes]
      refine ⟨_, .inl (SqL.of hw), ite2 (fun he => ?_) (fun he => ?_)⟩
      · refine ⟨fun σ' H' => ∃ m', m' < m ∧ OrInv H l ld lo lw ns p m' σ' H', fun _ _ h => h, ?_⟩
        cases st with
        | nil => simp at he
        | cons t r =>
          have hrv : ((t :: r).reverse.map fun q => V.int (q : Nat)) = (r.reverse.map fun q => V.int (q : Nat)) ++ [V.int (t : Nat)] := by simp
          rw [hrv] at hw
          have plt := hst t (List.mem_cons_self ..)
          have hpr := List.pairwise_cons.mp hpw
          have hlen : (t :: r).length ≤ ns.length + 2 := chain_len hpw fun q hq => hst q hq
          have hwl : ((r.reverse.map fun q => V.int (q : Nat)) ++ [V.int (t : Nat)]).length = r.length + 1 := by simp
          clear hR1
          refine seq_as fun R2 hR2 => ?_
          simp only [rdA, rd_forL, rd_forR, rd_compT, rd_compL, rd_compR, rd_tyes]
          refine ⟨_, SqL.of hw, _, atI_last _ _, ?_⟩
          subst hR2
          refine seq_as fun R2 hR2 => ?_
          refine if_as fun A B hA hB => ?_
          simp only [rdA, rd_forL, rd_forR, rd_compT, rd_compL, rd_compR, rd_tyes]
          refine ⟨_, DGet.k (k := Sum.inl ((t : Nat) : Int)) hd, ?_⟩
          rw [hnum t]
          cases hnt : w.num t with
          | some x =>
            obtain ⟨h1, h2⟩ := run_pop (ns := ns) (r := r) (p := t) (w := w) (by rw [hnt]; rfl)
            refine iteT ?_
            subst hA
            clear hB hR2
            simp only [rdA, rd_forL, rd_forR, rd_compT, rd_compL, rd_compR, rd_tyes, rd_seq, rd_if]
            refine ⟨⟨_, SqL.of hw⟩, _, hw, _, last_of _ _, ?_⟩
            rw [drop_of]
            exact ⟨costs ns r w, by omega, w, r, os, kvs, _, o6, rfl, sm.mut hlw0, by rw [upd_ne n2]; exact hd, by rw [upd_ne n3]; exact ho, upd_same, hnum, hkl, nds_to (Tk.lst hw) hos, g, fun q hq => hst q (List.mem_cons_of_mem _ hq), hpr.2, hun, by rw [← h1]; exact hrun, rfl⟩
          | none =>
            have p2 : ¬ t < 2 := fun h => by
              have : t = 0 ∨ t = 1 := by omega
              rcases this with rfl | rfl
              · rw [g.n0] at hnt; cases hnt
              · rw [g.n1] at hnt; cases hnt
            obtain ⟨nd, e, _⟩ := node_of plt p2
            obtain ⟨v, hv, tn, rfl, ht⟩ := nds_get (nds_to sm.tk hxs) e
            have hl2 := sm _ _ hl
            have hat : atI xs ((t : Nat) - 2 : Int) = some (.ref tn) := by
              have : ((t : Nat) : Int) - 2 = ((t - 2 : Nat) : Int) := by omega
              rw [this]; exact atI_nat hv
            obtain ⟨o1, o2, _, _, _⟩ := hN.ord _ _ e
            have htl : t - 2 < ns.length := (List.getElem?_eq_some_iff.mp e).1
            have po : Pl ns nd.off := by unfold Pl; omega
            have pn : Pl ns nd.on := by unfold Pl; omega
            refine iteF ?_
            subst hB
            clear hA
            simp only [rdA, rd_forL, rd_forR, rd_compT, rd_compL, rd_compR, rd_tyes]
            subst hR2
            refine seq_as fun R2 hR2 => ?_
            simp only [rdA, rd_forL, rd_forR, rd_compT, rd_compL, rd_compR, rd_tyes]
            refine ⟨_, SqL.of hl2, _, hat, ?_⟩
            subst hR2
            refine if_as fun A B hA hB => ?_
            simp only [rdA, rd_forL, rd_forR, rd_compT, rd_compL, rd_compR, rd_tyes]
            refine ⟨_, SqT.of ht, _, atI1 _ _ _, _, DGet.k (k := Sum.inl ((nd.off : Nat) : Int)) hd, ?_⟩
            rw [hnum nd.off]
            cases hno : w.num nd.off with
            | none =>
              obtain ⟨h1, h2⟩ := run_off (r := r) hN g plt hnt e hno
              refine iteT ?_
              subst hA
              clear hB
              simp only [rdA, rd_forL, rd_forR, rd_compT, rd_compL, rd_compR, rd_tyes]
              refine ⟨⟨_, SqL.of hw⟩, _, SqT.of ht, _, atI1 _ _ _, _, hw, Nat.lt_of_le_of_lt (by rw [hwl]; simp only [List.length_cons] at hlen; omega : _ ≤ 10000002) (by decide), ?_⟩
              refine ⟨costs ns (nd.off :: t :: r) w, by omega, w, nd.off :: t :: r, os, kvs, _, _, rfl, sm.mut hlw0, by rw [upd_ne n2]; exact hd, by rw [upd_ne n3]; exact ho, ?_, hnum, hkl, nds_to (Tk.lst hw) hos, g, fun q hq => ?_, ?_, hun, by rw [h1]; exact hrun, rfl⟩
              · rw [upd_same]; simp
              · rcases List.mem_cons.mp hq with rfl | hq
                · exact po
                · exact hst q hq
              · refine List.pairwise_cons.mpr ⟨fun q hq => ?_, hpw⟩
                rcases List.mem_cons.mp hq with rfl | hq
                · omega
                · have := hpr.1 q hq; omega
            | some xo =>
              refine iteF ?_
              subst hB
              clear hA
              refine if_as fun A B hA hB => ?_
              simp only [rdA, rd_forL, rd_forR, rd_compT, rd_compL, rd_compR, rd_tyes]
              refine ⟨_, SqT.of ht, _, atI2 _ _ _ _, _, DGet.k (k := Sum.inl ((nd.on : Nat) : Int)) hd, ?_⟩
              rw [hnum nd.on]
              have hos1 : (w.num nd.off).isSome = true := by rw [hno]; rfl
              cases hnn : w.num nd.on with
              | none =>
                obtain ⟨h1, h2⟩ := run_on (r := r) hN g plt hnt e hos1 hnn
                refine iteT ?_
                subst hA
                clear hB
                simp only [rdA, rd_forL, rd_forR, rd_compT, rd_compL, rd_compR, rd_tyes]
                refine ⟨⟨_, SqL.of hw⟩, _, SqT.of ht, _, atI2 _ _ _ _, _, hw, Nat.lt_of_le_of_lt (by rw [hwl]; simp only [List.length_cons] at hlen; omega : _ ≤ 10000002) (by decide), ?_⟩
                refine ⟨costs ns (nd.on :: t :: r) w, by omega, w, nd.on :: t :: r, os, kvs, _, _, rfl, sm.mut hlw0, by rw [upd_ne n2]; exact hd, by rw [upd_ne n3]; exact ho, ?_, hnum, hkl, nds_to (Tk.lst hw) hos, g, fun q hq => ?_, ?_, hun, by rw [h1]; exact hrun, rfl⟩
                · rw [upd_same]; simp
                · rcases List.mem_cons.mp hq with rfl | hq
                  · exact pn
                  · exact hst q hq
                · refine List.pairwise_cons.mpr ⟨fun q hq => ?_, hpw⟩
                  rcases List.mem_cons.mp hq with rfl | hq
                  · omega
                  · have := hpr.1 q hq; omega
              | some xn =>
                have hos2 : (w.num nd.on).isSome = true := by rw [hnn]; rfl
                obtain ⟨h1, h2⟩ := run_add (r := r) hnt e hos1 hos2
                have hvo : valV kvs (Sum.inl ((nd.off : Nat) : Int)) = some (V.int (xo : Nat)) := by rw [hnum, hno]; rfl
                have hvn : valV kvs (Sum.inl ((nd.on : Nat) : Int)) = some (V.int (xn : Nat)) := by rw [hnum, hnn]; rfl
                refine iteF ?_
                subst hB
                clear hA
                refine seq_as fun R2 hR2 => ?_
                simp only [rdA, rd_forL, rd_forR, rd_compT, rd_compL, rd_compR, rd_tyes]
                refine ⟨⟨_, SqL.of ho⟩, _, SqT.of ht, _, atI0 _ _, _, SqT.of ht, _, atI1 _ _ _, _, by rw [← hvo]; exact DGet.k (k := Sum.inl ((nd.off : Nat) : Int)) hd, _, SqT.of ht, _, atI2 _ _ _ _, _, by rw [← hvn]; exact DGet.k (k := Sum.inl ((nd.on : Nat) : Int)) hd, fun tp htp => ?_⟩
                have s4 := Same.new (o := HO.tup [V.int nd.sw, V.int (xo : Nat), V.int (xn : Nat)]) htp
                have htp3 : upd H2 tp (HO.tup [V.int nd.sw, V.int (xo : Nat), V.int (xn : Nat)]) tp = some (HO.tup [V.int nd.sw, V.int (xo : Nat), V.int (xn : Nat)]) := upd_same
                have ho3 := s4 _ _ ho
                have hd3 := s4 _ _ hd
                have hw3 := s4 _ _ hw
                have hos3 := nds_to s4.tk hos
                have sm3 := sm.trans s4
                generalize upd H2 tp (HO.tup [V.int nd.sw, V.int (xo : Nat), V.int (xn : Nat)]) = H3 at htp3 ho3 hd3 hw3 hos3 sm3 ⊢
                have hol : os.length = w.out.length := Paired.length hos
                refine ⟨_, ho3, Nat.lt_of_le_of_lt (by omega : os.length ≤ 10000000) (by decide), ?_⟩
                have k4 : Tk H3 _ := Tk.lst (o := .lst (os ++ [V.ref tp])) ho3
                have ho4 : upd H3 lo (HO.lst (os ++ [V.ref tp])) lo = some (.lst (os ++ [V.ref tp])) := upd_same
                have hd4 : upd H3 lo (HO.lst (os ++ [V.ref tp])) ld = some (.dK kvs) := by rw [upd_ne n1]; exact hd3
                have hw4 : upd H3 lo (HO.lst (os ++ [V.ref tp])) lw = some (.lst ((r.reverse.map fun q => V.int (q : Nat)) ++ [V.int (t : Nat)])) := by rw [upd_ne n3.symm]; exact hw3
                have htp4 := k4 _ _ htp3
                have hos4 := nds_to k4 hos3
                have sm4 : Same H (upd H3 lo (HO.lst (os ++ [V.ref tp]))) := sm3.mut hlo0
                generalize upd H3 lo (HO.lst (os ++ [V.ref tp])) = H4 at ho4 hd4 hw4 htp4 hos4 sm4 ⊢
                subst hR2
                simp only [rdA, rd_forL, rd_forR, rd_compT, rd_compL, rd_compR, rd_tyes]
                refine ⟨_, .inl (SqL.of ho4), _, DPut.k (k := Sum.inl ((t : Nat) : Int)) hd4 (Nat.lt_of_le_of_lt (by omega : kvs.length ≤ 10000002) (by decide)), ?_⟩
                have eL : (((os ++ [V.ref tp]).length : Nat) : Int) + 1 = ((w.out.length + 2 : Nat) : Int) := by
                  rw [List.length_append, List.length_singleton]; omega
                rw [eL]
                have hlp := length_putK kvs (Sum.inl ((t : Nat) : Int)) (V.int ((w.out.length + 2 : Nat) : Int))
                have hua := unn_add (w := w) (N := ns.length + 2) (p := t) (nd := nd) plt hnt
                have hal : (w.add t nd).out.length = w.out.length + 1 := by simp [Ws.add]
                have k5 : Tk H4 (upd H4 ld (.dK (putK kvs (Sum.inl ((t : Nat) : Int)) (V.int ((w.out.length + 2 : Nat) : Int))))) := fun b ys e' => by
                  rw [upd_ne (ne_of e' hd4 (by intro z; cases z))]; exact e'
                refine ⟨costs ns (t :: r) (w.add t nd), by omega, w.add t nd, t :: r, os ++ [V.ref tp], _, _, _, rfl, sm4.mut hld, upd_same, by rw [upd_ne n1.symm]; exact ho4, by rw [upd_ne n2.symm, hrv]; exact hw4, fun q => ?_, by omega, ?_, g.add hN e p2 hnt hos1 hos2, hst, hpw, by omega, by rw [h1]; exact hrun, rfl⟩
                · rw [valV_put]
                  by_cases eq : q = t
                  · subst eq
                    rw [if_pos rfl, Ws.add_self]; rfl
                  · rw [if_neg (fun h => eq (by have := Sum.inl.inj h; omega)), Ws.add_other w nd eq]; exact hnum q
                · have : (w.add t nd).out = w.out ++ [⟨nd.sw, xo, xn⟩] := by simp only [Ws.add, hno, hnn, Option.getD_some]
                  rw [this]
                  exact nds_app (nds_to k5 hos4) (.cons ⟨tp, rfl, k5 _ _ htp4⟩ .nil)
      · have hst0 : st = [] := by
          cases st with
          | nil => rfl
          | cons t r => exfalso; apply he; simp
        subst hst0
        subst hR1
        simp only [rdA, rd_forL, rd_forR, rd_compT, rd_compL, rd_compR, rd_tyes]
        have hwv : w = visit ns (p + 1) p w0 := hrun
        obtain ⟨_, hs, _, _⟩ := visit_ok hN (p + 1) p w0 (Nat.lt_succ_self _) hp (good0 ns)
        rw [← hwv] at hs
        obtain ⟨x, hx⟩ := Option.isSome_iff_exists.mp hs
        have hg : graphOf ns p = (w.out, x) := by unfold graphOf; rw [← hwv, hx]; rfl
        have hv : valV kvs (Sum.inl ((p : Nat) : Int)) = some (V.int (x : Nat)) := by rw [hnum p, hx]; rfl
        refine ⟨_, by rw [← hv]; exact DGet.k (k := Sum.inl ((p : Nat) : Int)) hd, fun t ht => ?_⟩
        have s4 := Same.new (o := HO.tup [V.ref lo, V.int (x : Nat)]) ht
        refine q t lo os _ (sm.free ht) hlo0 (sm.trans s4) ?_ (s4 _ _ ho) ?_ ?_
        · rw [hg]; exact upd_same
        · rw [hg]; exact nds_to s4.tk hos
        · rw [hg]; show w.out.length ≤ _; omega
end
end Nt
end CN
end
section
set_option Elab.async false
set_option linter.all false
set_option maxRecDepth 100000
set_option maxHeartbeats 4000000
namespace CN
open PySem L2
seal L2.PE L2.PT L2.PS L2.PSs L2.PA L2.PPs L2.PW L2.PC L2.PG L2.PGs L2.PI L2.PO L2.PTs
namespace Nt
noncomputable def kids : Stm → List Stm
  | .nt a => [a] | .an a b => [a, b] | .og a b => [a, b] | .al _ a => [a] | .sm _ a => [a] | _ => []
noncomputable def post : Stm → List Stm
  | .yes => [.yes] | .no => [.no] | .sw n => [.sw n]
  | .nt a => post a ++ [.nt a]
  | .an a b => post a ++ post b ++ [.an a b]
  | .og a b => post a ++ post b ++ [.og a b]
  | .al n a => post a ++ [.al n a]
  | .sm n a => post a ++ [.sm n a]
theorem sizes_kids (a : Stm) : sizes (kids a) + 1 = a.size := by
  cases a <;> simp [kids, sizes, Stm.size]
section
variable {P : Program} {w : World} {K : PySem.W.Frag} {mg : Str → Option Value} {base : Heap}
theorem prd_snoc {α β : Type} {F : α → β → Prop} : ∀ {xs : List α} {x : α} {as : List β}, Paired F (xs ++ [x]) as → ∃ bs b, as = bs ++ [b] ∧ Paired F xs bs ∧ F x b
  | [], x, _, .cons a .nil => ⟨[], _, rfl, .nil, a⟩
  | y :: xs, x, _, .cons a r => by
    obtain ⟨bs, b, rfl, h1, h2⟩ := prd_snoc (xs := xs) r
    exact ⟨_ :: bs, b, rfl, .cons a h1, h2⟩
theorem prd_snocR {α β : Type} {F : α → β → Prop} : ∀ {as : List β} {a : β} {xs : List α}, Paired F xs (as ++ [a]) → ∃ ys y, xs = ys ++ [y] ∧ Paired F ys as ∧ F y a
  | [], a, _, .cons h .nil => ⟨[], _, rfl, .nil, h⟩
  | b :: as, a, _, .cons h r => by
    obtain ⟨ys, y, rfl, h1, h2⟩ := prd_snocR (as := as) r
    exact ⟨_ :: ys, y, rfl, .cons h h1, h2⟩
theorem prd_app {α β : Type} {F : α → β → Prop} : ∀ {xs ys : List α} {as bs : List β}, Paired F xs as → Paired F ys bs → Paired F (xs ++ ys) (as ++ bs)
  | _, _, _, _, .nil, s => s
  | _, _, _, _, .cons r t, s => .cons r (prd_app t s)
section
variable {S : Type}
end
end
end Nt
end CN
end
section
set_option Elab.async false
set_option linter.all false
set_option maxRecDepth 100000
set_option maxHeartbeats 4000000
namespace CN
open PySem L2
seal L2.PE L2.PT L2.PS L2.PSs L2.PA L2.PPs L2.PW L2.PC L2.PG L2.PGs L2.PI L2.PO L2.PTs
namespace Nt
theorem NetF.keep {C : Addr} {H H' : Hp} {a : Adr} {ns : List Nd} {kp kc ks : List (List Key × V)} (h : NetF C H a ns kp kc ks) (k : ∀ b o, H b = some o → b ∈ a.p :: own a ∨ (∃ xs, o = .tup xs) → H' b = some o) : NetF C H' a ns kp kc ks := by
  obtain ⟨xs, h1, h2⟩ := h.c.at_.nodes
  have t : Tk H H' := fun b ys e => k b _ e (.inr ⟨ys, rfl⟩)
  have at_ : NetAt C H' a ns kp := ⟨k _ _ h.c.at_.ob (.inl (by simp [own])), ⟨xs, k _ _ h1 (.inl (by simp [own])), nds_to t h2⟩, k _ _ h.c.at_.places (.inl (by simp [own])), h.c.at_.pls, h.c.at_.into, h.c.at_.out⟩
  exact ⟨⟨at_, k _ _ h.c.ch (.inl (by simp [own])), h.c.ne, h.c.is⟩, ⟨at_, k _ _ h.s.st (.inl (by simp [own])), h.s.ne, h.s.is⟩, h.ne, h.net⟩
theorem NetF.nt {C b : Addr} {H : Hp} {a : Adr} {ns : List Nd} {kp kc ks : List (List Key × V)} {qs : Array Value} (h : NetF C H a ns kp kc ks) (e : H b = some (.tbl qs)) : b ∉ a.p :: own a := fun hm => by
  obtain ⟨ys, h1, _⟩ := h.c.at_.nodes
  simp only [own, List.mem_cons, List.not_mem_nil, or_false] at hm
  rcases hm with rfl | rfl | rfl | rfl | rfl
  · rw [h.c.at_.ob] at e; cases e
  · rw [h1] at e; cases e
  · rw [h.c.at_.places] at e; cases e
  · rw [h.c.ch] at e; cases e
  · rw [h.s.st] at e; cases e
section
variable {P : Program} {w : World} {K : PySem.W.Frag} {mg : Str → Option Value} {base : Heap}
theorem NetF.nx {C b : Addr} {q : Str} {H : Hp} {a : Adr} {ns : List Nd} {kp kc ks : List (List Key × V)} (h : NetF C H a ns kp kc ks) (e : H b = some (CodeO b q)) : b ∉ a.p :: own a := fun hm => by
  obtain ⟨ys, h1, _⟩ := h.c.at_.nodes
  unfold CodeO at e
  simp only [own, List.mem_cons, List.not_mem_nil, or_false] at hm
  rcases hm with rfl | rfl | rfl | rfl | rfl
  · rw [h.c.at_.ob] at e; cases e
  · rw [h1] at e; cases e
  · rw [h.c.at_.places] at e; cases e
  · rw [h.c.ch] at e; cases e
  · rw [h.s.st] at e; cases e
noncomputable def IsG (g : List Nd × Nat) (st : Stm) (L : List Int) : Prop := g.1.length ≤ 4000000 ∧ ∃ ns r, Net ns ∧ Means ns r st ∧ g = graphOf ns r ∧ ∀ nd ∈ ns, nd.sw ∈ L
structure GrAt (H : Hp) (v : V) (g : List Nd × Nat) : Prop where
  ex : ∃ (t lo : Addr) (os : List V), v = .ref t ∧ H t = some (.tup [.ref lo, .int (g.2 : Nat)]) ∧ H lo = some (.lst os) ∧ Paired (NdAt H) os g.1
theorem GrAt.same {H H' : Hp} {v : V} {g : List Nd × Nat} (h : GrAt H v g) (s : Same H H') : GrAt H' v g := by
  obtain ⟨t, lo, os, e, h1, h2, h3⟩ := h.ex
  exact ⟨t, lo, os, e, s _ _ h1, s _ _ h2, nds_to s.tk h3⟩
end
end Nt
end CN
end
section
set_option Elab.async false
set_option linter.all false
set_option maxRecDepth 100000
set_option maxHeartbeats 4000000
namespace CN
open PySem L2
seal L2.PE L2.PT L2.PS L2.PSs L2.PA L2.PPs L2.PW L2.PC L2.PG L2.PGs L2.PI L2.PO L2.PTs
namespace Nt
noncomputable abbrev s_L_at : Stmt := top 8
noncomputable abbrev p_L_at : List Str := ["_law_script", "_law_k"]
theorem sc_L_at : FnScope ["_law_script", "_law_k"] ["_law_script", "_law_k"] (defScope s_L_at) := ⟨rfl, rfl, rfl, by decide +kernel, rfl, by decide +kernel, by decide +kernel⟩
noncomputable abbrev s_L_whole : Stmt := top 7
noncomputable abbrev p_L_whole : List Str := ["_law_found"]
theorem sc_L_whole : FnScope ["_law_found"] ["_law_found"] (defScope s_L_whole) := ⟨rfl, rfl, rfl, by decide +kernel, rfl, by decide +kernel, by decide +kernel⟩
noncomputable abbrev s_L_drawn_statement : Stmt := top 9
noncomputable abbrev p_L_drawn_statement : List Str := ["_law_cells", "_law_many"]
theorem sc_L_drawn_statement : FnScope ["_law_cells", "_law_many", "_law_pile", "_law_cell", "_law_rest", "_law_way", "_law_two", "_law_statement", "_law_k"] ["_law_cells", "_law_many"] (defScope s_L_drawn_statement) := ⟨rfl, rfl, rfl, by decide +kernel, rfl, by decide +kernel, by decide +kernel⟩
section
variable {P : Program} {w : World} {K : PySem.W.Frag} {mg : Str → Option Value} {base : Heap}
noncomputable def spAt (K : PySem.W.Frag) : Sp := fun vs H Q _ => ∃ (l : Addr) (ns : List Int) (k : Nat), vs = [.ref l, .int k] ∧ SqL K H l (ns.map V.int) ∧ ∀ i : Int, Q (.int i) H
theorem ok_at {f : Addr} {fd : FuncData} (BT : Bt mg) (D : Df K mg "_law_at" s_L_at p_L_at f fd) : FnOk P w K mg base CX0 1 f fd p_L_at (spAt K) := by
  refine D.F.ok sc_L_at (fun vs H Q E h => ?_) (fun cdv A outer s H vs Q E hr h => ?_)
  · obtain ⟨l, ns, k, rfl, _⟩ := h
    rfl
  · obtain ⟨l, ns, k, rfl, hl, q⟩ := h
    refine ⟨_, (pss_cons (ps_if (pt_cmpR op_lt (pv 1) (pe_callB call_len_seq (by rfl) BT.n_len bo_len (pa_cons (pv 0) pa_nil)) (nomark _))
      (pss_one (ps_ret (pe_ix ix_list (pv 0) (pv 1) (fun _ _ => rfl))))
      pss_nil)
    (pss_one (ps_ret pe_int))), ?_⟩
    simp only [rdA, rd_seq, rd_if]
    refine ⟨_, .inl hl, ite2 (fun hk => ?_) fun _ => q 0⟩
    have hk' : k < (ns.map V.int).length := by simpa using hk
    have hk2 : k < ns.length := by simpa using hk'
    refine ⟨_, hl, .int ns[k], atI_nat ?_, q _⟩
    rw [List.getElem?_map, List.getElem?_eq_getElem hk2]
    rfl
noncomputable def spWhole : Sp := fun vs H Q _ => ∃ i : Int, vs = [.int i] ∧ Q (.bl true) H
theorem ok_whole {f : Addr} {fd : FuncData} (BT : Bt mg) (D : Df K mg "_law_whole" s_L_whole p_L_whole f fd) : FnOk P w K mg base CX0 1 f fd p_L_whole spWhole := by
  refine D.F.ok sc_L_whole (fun vs H Q E h => ?_) (fun cdv A outer s H vs Q E hr h => ?_)
  · obtain ⟨c, rfl, _⟩ := h
    rfl
  · obtain ⟨c, rfl, q⟩ := h
    refine ⟨_, (pss_one (ps_ret (pe_and (pe_callB (call_isinst) (by rfl) BT.n_isinstance bo_isinstance (pa_cons (pv 0) (pa_cons (pe_bltn (v := .ty "int") (by rfl) BT.n_int bo_int rfl) pa_nil))) (pe_one (pe_not (pe_callB (call_isinst) (by rfl) BT.n_isinstance bo_isinstance (pa_cons (pv 0) (pa_cons (pe_bltn (v := .ty "bool") (by rfl) BT.n_bool bo_bool rfl) pa_nil)))))))), ?_⟩
    simp only [rdA, rd_seq, rd_if]
    refine ⟨_, .int c, _, kit_same K "int", iteT ⟨_, .int c, _, kit_ib K, q⟩⟩
noncomputable def spDraw (K : PySem.W.Frag) : Sp := fun vs H Q _ => ∃ (l : Addr) (ns : List Int) (m : Int), vs = [.ref l, .int m] ∧ SqL K H l (ns.map V.int) ∧ ns.length ≤ 63 ∧ 0 < m ∧
  ∀ v a H', Same H H' → IsSt H' v a → a.ok m → a.size ≤ 2 * ns.length + 1 → Q v H'
inductive DrawInv (H : Hp) (l : Addr) (m : Int) (p : Addr) (i : Nat) (σ : St) (H2 : Hp) : Prop
  | mk (xs : List V) (as : List Stm) (o3 o4 o5 o6 : Option V) (h0 : σ = [some (.ref l), some (.int m), some (.ref p), o3, o4, o5, o6, none, none]) (h1 : Same H H2) (h2 : H2 p = some (.lst xs)) (h3 : Sts H2 xs as) (h4 : (∀ a ∈ as, a.ok m)) (h5 : sizes as ≤ i) : DrawInv H l m p i σ H2
theorem draw_push {H H3 : Hp} {l p : Addr} {m : Int} {i : Nat} {xs : List V} {as : List Stm} {v : V} {b : Stm} {o3 o4 o5 o6 : Option V} (hp : H p = none) (s : Same H H3) (h3 : H3 p = some (.lst xs)) (hs : Sts H3 xs as) (hb : IsSt H3 v b)
    (ok : ∀ a ∈ as, a.ok m) (okb : b.ok m) (sz : sizes as + b.size ≤ i) : DrawInv H l m p i [some (.ref l), some (.int m), some (.ref p), o3, o4, o5, o6, none, none] (upd H3 p (.lst (xs ++ [v]))) := by
  have k : Tk H3 (upd H3 p (.lst (xs ++ [v]))) := Tk.lst h3
  refine ⟨xs ++ [v], as ++ [b], o3, o4, o5, o6, rfl, s.mut hp, upd_same, (hs.to k).app (Sts.one (hb.to k)), fun a h => ?_, by rw [sizes_app, sizes_one]; exact sz⟩
  rcases List.mem_append.mp h with h | h
  · exact ok a h
  · rw [List.mem_singleton] at h; rw [h]; exact okb
inductive JoinInv (H : Hp) (l : Addr) (m : Int) (p : Addr) (xs : List V) (as : List Stm) (o3 o4 o5 o6 : Option V) (k : Nat) (σ : St) (H3 : Hp) : Prop
  | mk (v : V) (a : Stm) (o8 : Option V) (h0 : σ = [some (.ref l), some (.int m), some (.ref p), o3, o4, o5, o6, some v, o8]) (h1 : Same H H3) (h2 : H3 p = some (.lst xs)) (h3 : Sts H3 xs as) (h4 : IsSt H3 v a) (h5 : a.ok m) (h6 : a.size ≤ sizes (as.take k) + k + 1) : JoinInv H l m p xs as o3 o4 o5 o6 k σ H3
theorem small_of {n : Nat} (h : n ≤ 63) : n < sizeLine := small1000 (by omega)
theorem ok_draw {f : Addr} {fd : FuncData} (BT : Bt mg) (D : Df K mg "_law_drawn_statement" s_L_drawn_statement p_L_drawn_statement f fd) : FnOk P w K mg base CX0 1 f fd p_L_drawn_statement (spDraw K) := by
  refine D.F.ok sc_L_drawn_statement (fun vs H Q E h => ?_) (fun cdv A outer s H vs Q E hr h => ?_)
  · obtain ⟨l, ns, m, rfl, _⟩ := h
    rfl
  · obtain ⟨l, ns, m, rfl, hl, hn, hm, q⟩ := h
    refine ⟨_, (pss_cons (ps_set (i := 2) sc_L_drawn_statement.nd rfl (by first | exact Or.inl rfl | exact Or.inr rfl) (pe_lst pa_nil))
    (pss_cons (ps_for PassesOwn.never rfl (pi_list (pv 0)) (pg_name (i := 3) sc_L_drawn_statement.nd rfl (by first | exact Or.inl rfl | exact Or.inr rfl))
      (pss_cons (ps_set (i := 4) sc_L_drawn_statement.nd rfl (by first | exact Or.inl rfl | exact Or.inr rfl) (pe_op op_fdiv (pv 3) pe_int))
      (pss_cons (ps_set (i := 5) sc_L_drawn_statement.nd rfl (by first | exact Or.inl rfl | exact Or.inr rfl) (pe_op op_mod (pv 3) pe_int))
      (pss_one (ps_if (pt_cmpR op_eq (pv 5) pe_int (nomark _))
        (pss_one (ps_expr (pe_bm PySem.F.plainAttrs_list PySem.F.slot_list_append PySem.F.type_list_append mt_append (pv 2) (pa_cons (pe_ix ix_list (pe_lst (pa_cons (pe_tup (pa_cons pe_str pa_nil)) (pa_cons (pe_tup (pa_cons pe_str pa_nil)) pa_nil))) (pe_op op_mod (pv 4) pe_int) (fun _ _ => rfl)) pa_nil))))
        (pss_one (ps_if (PW.pt (pw_or (pt_cmpR op_lt (pv 5) pe_int (nomark _)) (pw_or1 (pt_cmpR (op_eqNil hr) (pv 2) (pe_lst pa_nil) (nomark _)))))
          (pss_one (ps_expr (pe_bm PySem.F.plainAttrs_list PySem.F.slot_list_append PySem.F.type_list_append mt_append (pv 2) (pa_cons (pe_tup (pa_cons pe_str (pa_cons (pe_op op_mod (pv 4) (pv 1)) pa_nil))) pa_nil))))
          (pss_one (ps_if (pt_cmpR op_eq (pv 5) pe_int (nomark _))
            (pss_one (ps_expr (pe_bm PySem.F.plainAttrs_list PySem.F.slot_list_append PySem.F.type_list_append mt_append (pv 2) (pa_cons (pe_tup (pa_cons pe_str (pa_cons (pe_bm0 PySem.F.plainAttrs_list PySem.F.slot_list_pop PySem.F.type_list_pop mt_pop (pv 2)) pa_nil))) pa_nil))))
            (pss_one (ps_if (pt_cmpR op_gt (pv 5) pe_int (nomark _))
              (pss_one (ps_expr (pe_bm PySem.F.plainAttrs_list PySem.F.slot_list_append PySem.F.type_list_append mt_append (pv 2) (pa_cons (pe_tup (pa_cons (pe_ix ix_list (pe_lst (pa_cons pe_str (pa_cons pe_str pa_nil))) (pe_op op_sub (pv 5) pe_int) (fun _ _ => rfl)) (pa_cons (pe_op op_mod (pv 4) (pv 1)) (pa_cons (pe_bm0 PySem.F.plainAttrs_list PySem.F.slot_list_pop PySem.F.type_list_pop mt_pop (pv 2)) pa_nil)))) pa_nil))))
              (pss_one (ps_if (pt_cmpR op_gt (pe_callB call_len_seq (by rfl) BT.n_len bo_len (pa_cons (pv 2) pa_nil)) pe_int (nomark _))
                (pss_cons (ps_set (i := 6) sc_L_drawn_statement.nd rfl (by first | exact Or.inl rfl | exact Or.inr rfl) (pe_bm0 PySem.F.plainAttrs_list PySem.F.slot_list_pop PySem.F.type_list_pop mt_pop (pv 2)))
                (pss_one (ps_expr (pe_bm PySem.F.plainAttrs_list PySem.F.slot_list_append PySem.F.type_list_append mt_append (pv 2) (pa_cons (pe_tup (pa_cons (pe_ix ix_list (pe_lst (pa_cons pe_str (pa_cons pe_str pa_nil))) (pe_op op_sub (pv 5) pe_int) (fun _ _ => rfl)) (pa_cons (pe_bm0 PySem.F.plainAttrs_list PySem.F.slot_list_pop PySem.F.type_list_pop mt_pop (pv 2)) (pa_cons (pv 6) pa_nil)))) pa_nil)))))
                pss_nil)))))))))))))
    (pss_cons (ps_set (i := 7) sc_L_drawn_statement.nd rfl (by first | exact Or.inl rfl | exact Or.inr rfl) (pe_tup (pa_cons pe_str pa_nil)))
    (pss_cons (ps_for PassesOwn.never rfl (pi_range1 (by rfl) BT.n_range (pa_cons (pe_callB call_len_seq (by rfl) BT.n_len bo_len (pa_cons (pv 2) pa_nil)) pa_nil)) (pg_name (i := 8) sc_L_drawn_statement.nd rfl (by first | exact Or.inl rfl | exact Or.inr rfl))
      (pss_one (ps_set (i := 7) sc_L_drawn_statement.nd rfl (by first | exact Or.inl rfl | exact Or.inr rfl) (pe_tup (pa_cons (pe_ix ix_list (pe_lst (pa_cons pe_str (pa_cons pe_str pa_nil))) (pe_op op_mod (pv 8) pe_int) (fun _ _ => rfl)) (pa_cons (pe_ix ix_list (pv 2) (pv 8) (fun _ _ => rfl)) (pa_cons (pv 7) pa_nil)))))))
    (pss_one (ps_ret (pv 7))))))), ?_⟩
    simp only [rdA, rd_seq, rd_if]
    refine fun p hp => ?_
    refine ⟨_, rfl, l, rfl, ⟨_, (Same.new hp).seq hl⟩, for_list (K := K) (a := l) (xs := ns.map V.int) (DrawInv H l m p)
      ⟨[], [], none, none, none, none, rfl, Same.new hp, upd_same, .nil, fun a h => by simp at h, Nat.le_refl _⟩ (fun i σ H2 _ h => by obtain ⟨_, _, _, _, _, _, _, sm, _⟩ := h; exact sm.seq hl) ?_ ?_⟩
    · rintro i y σ H2 hi ⟨xs, as, o3, o4, o5, o6, rfl, sm, hx, hs, hok, hsz⟩
      have hil : i < ns.length := by
        have := (List.getElem?_eq_some_iff.mp hi).1
        simpa using this
      obtain ⟨z, rfl⟩ : ∃ z, y = V.int z := by
        rw [List.getElem?_map] at hi
        cases e : ns[i]? with
        | none => rw [e] at hi; cases hi
        | some z => rw [e] at hi; exact ⟨z, (Option.some.inj hi).symm⟩
      have hxl : xs.length ≤ 63 := by
        have h1 : xs.length = as.length := Paired.length hs
        have h2 := sizes_len as
        omega
      have hxs := small_of hxl
      have m1 : 0 ≤ z / 8 % m := Int.emod_nonneg _ (by omega)
      have m2 : z / 8 % m < m := Int.emod_lt_of_pos _ hm
      obtain ⟨zm, hzm⟩ : ∃ zm, z / 8 % m = zm := ⟨_, rfl⟩
      rw [hzm] at m1 m2
      simp only [rd_name, List.set_cons_succ, List.set_cons_zero]
      refine seq_as fun R hR => ?_
      simp only [rdA, rd_forL, rd_forR, rd_compT, rd_compL, rd_compR, rd_tyes]
      subst hR
      refine seq_as fun R hR => ?_
      simp only [rdA, rd_forL, rd_forR, rd_compT, rd_compL, rd_compR, rd_tyes]
      subst hR
      refine if_as fun A B hA hB => ?_
      simp only [rdA, rd_forL, rd_forR, rd_compT, rd_compL, rd_compR, rd_tyes]
      refine ite2 (fun h8 => ?_) (fun h8 => ?_)
      · subst hA
        clear hB
        simp only [rdA, rd_seq, rd_if]
        refine ⟨⟨_, SqL.of hx⟩, fun p1 h1 p2 h2 p3 h3 => ⟨_, SqL.of upd_same, ?_⟩⟩
        have s2 := Same.new (o := HO.tup [sv "no"]) h2
        have s3 := Same.new (o := HO.lst [V.ref p1, V.ref p2]) h3
        have sA := ((Same.new (o := HO.tup [sv "yes"]) h1).trans s2).trans s3
        have hb : z / 8 % 2 = 0 ∨ z / 8 % 2 = 1 := by omega
        rcases hb with hb | hb
        · rw [hb]
          exact ⟨_, atI0 _ _, _, sA _ _ hx, hxs, draw_push hp (sm.trans sA) (sA _ _ hx) (hs.to sA.tk) (st_mk (a := .yes) (s3 _ _ (s2 _ _ upd_same)) rfl) hok trivial (by simp only [Stm.size]; omega)⟩
        · rw [hb]
          exact ⟨_, atI1 _ _ _, _, sA _ _ hx, hxs, draw_push hp (sm.trans sA) (sA _ _ hx) (hs.to sA.tk) (st_mk (a := .no) (s3 _ _ upd_same) rfl) hok trivial (by simp only [Stm.size]; omega)⟩
      · subst hB
        clear hA
        refine if_as fun A B hA hB => ?_
        have sw : ∀ H2, Same H H2 → H2 p = some (.lst xs) → Sts H2 xs as → A [some (.ref l), some (.int m), some (.ref p), some (.int z), some (.int (z / 8)), some (.int (z % 8)), o6, none, none] H2 := fun H2 sm hx hs => by
          subst hA
          simp only [rdA, hzm, rd_seq, rd_if]
          exact ⟨⟨_, SqL.of hx⟩, hm, fun p1 h1 => by
            have s1 := Same.new (o := HO.tup [sv "switch", V.int zm]) h1
            exact ⟨_, s1 _ _ hx, hxs, draw_push hp (sm.trans s1) (s1 _ _ hx) (hs.to s1.tk) (st_mk (a := .sw zm) upd_same rfl) hok ⟨m1, m2⟩ (by simp only [Stm.size]; omega)⟩⟩
        simp only [rdA, rd_forL, rd_forR, rd_compT, rd_compL, rd_compR, rd_tyes]
        refine ite2 (fun h2 => sw H2 sm hx hs) (fun h2 => ?_)
        refine fun p0 h0 => ⟨_, Same.new h0 _ _ hx, upd_same, ?_⟩
        have s0 := Same.new (o := HO.lst []) h0
        replace hx := s0 _ _ hx
        replace sm := sm.trans s0
        replace hs := hs.to s0.tk
        generalize upd H2 p0 (HO.lst []) = H3 at *
        refine ite2 (fun he => sw H3 sm hx hs) (fun he => ?_)
        clear sw hA
        subst hB
        obtain ⟨ys, y, rfl⟩ := snoc_of (xs := xs) (by rintro rfl; exact he rfl)
        obtain ⟨bs, b, rfl, hs1, hs2⟩ := Sts.snoc hs
        have okb : b.ok m := hok b (List.mem_append.mpr (.inr (List.mem_singleton.mpr rfl)))
        have okbs : ∀ a ∈ bs, a.ok m := fun a h => hok a (List.mem_append.mpr (.inl h))
        rw [sizes_app, sizes_one] at hsz
        have hys : ys.length < sizeLine := by rw [List.length_append] at hxs; omega
        have hlast : (ys ++ [y])[(ys ++ [y]).length - 1]? = some y := last_of ys y
        refine if_as fun A B hA hB => ?_
        simp only [rdA, rd_forL, rd_forR, rd_compT, rd_compL, rd_compR, rd_tyes]
        refine ite2 (fun h3 => ?_) (fun h3 => ?_)
        · subst hA
          clear hB
          simp only [rdA, rd_seq, rd_if]
          refine ⟨⟨_, SqL.of hx⟩, ⟨_, SqL.of hx⟩, _, hx, _, hlast, fun p1 h1 => ?_⟩
          rw [drop_of] at h1 ⊢
          have s1 := Same.new (o := HO.tup [sv "not", y]) h1
          have k : Tk H3 _ := (Tk.lst (o := .lst ys) hx).trans s1.tk
          exact ⟨_, s1 _ _ upd_same, hys, draw_push hp ((sm.mut hp).trans s1) (s1 _ _ upd_same) (hs1.to k) (st_mk (a := .nt b) upd_same ⟨_, rfl, hs2.to k⟩) okbs okb (by simp only [Stm.size]; omega)⟩
        · subst hB
          clear hA
          refine if_as fun A B hA hB => ?_
          simp only [rdA, rd_forL, rd_forR, rd_compT, rd_compL, rd_compR, rd_tyes]
          refine ite2 (fun h5 => ?_) (fun h5 => ?_)
          · subst hA
            clear hB
            simp only [rdA, hzm, rd_seq, rd_if]
            refine ⟨⟨_, SqL.of hx⟩, fun p1 h1 => ⟨_, SqL.of upd_same, ?_⟩⟩
            have s1 := Same.new (o := HO.lst [sv "all", sv "some"]) h1
            have hx1 := s1 _ _ hx
            obtain ⟨wd, c, ea, okc, szc, shc⟩ : ∃ (wd : V) (c : Stm), atI [sv "all", sv "some"] (z % 8 - 6) = some wd ∧ c.ok m ∧ c.size = b.size + 1 ∧ ∀ H', IsSt H' y b → Sh H' c [wd, .int zm, y] := by
              have hb : z % 8 - 6 = 0 ∨ z % 8 - 6 = 1 := by
                have h5' : 5 < z % 8 := by simpa using h5
                omega
              rcases hb with hb | hb
              · rw [hb]; exact ⟨_, .al zm b, atI0 _ _, ⟨⟨m1, m2⟩, okb⟩, rfl, fun H' k => ⟨_, rfl, k⟩⟩
              · rw [hb]; exact ⟨_, .sm zm b, atI1 _ _ _, ⟨⟨m1, m2⟩, okb⟩, rfl, fun H' k => ⟨_, rfl, k⟩⟩
            refine ⟨_, ea, hm, ⟨_, SqL.of hx1⟩, _, hx1, _, hlast, fun p2 h2 => ?_⟩
            rw [drop_of] at h2 ⊢
            have s2 := Same.new (o := HO.tup [wd, V.int zm, y]) h2
            have k : Tk H3 _ := (s1.tk.trans (Tk.lst (o := .lst ys) hx1)).trans s2.tk
            exact ⟨_, s2 _ _ upd_same, hys, draw_push hp (((sm.trans s1).mut hp).trans s2) (s2 _ _ upd_same) (hs1.to k) (st_mk (a := c) upd_same (shc _ (hs2.to k))) okbs okc (by omega)⟩
          · subst hB
            clear hA
            refine if_as fun A B hA hB => ?_
            simp only [rdA, rd_forL, rd_forR, rd_compT, rd_compL, rd_compR, rd_tyes]
            refine ⟨_, .inl (SqL.of hx), ite2 (fun h1 => ?_) (fun h1 => ?_)⟩
            · subst hA
              clear hB
              refine seq_as fun R hR => ?_
              simp only [rdA, rd_seq, rd_if]
              have hne : ys ≠ [] := by
                rintro rfl
                simp at h1
              obtain ⟨xs, x, rfl⟩ := snoc_of hne
              obtain ⟨cs, c, rfl, hs3, hs4⟩ := Sts.snoc hs1
              have okc : c.ok m := okbs c (List.mem_append.mpr (.inr (List.mem_singleton.mpr rfl)))
              have okcs : ∀ a ∈ cs, a.ok m := fun a h => okbs a (List.mem_append.mpr (.inl h))
              rw [sizes_app, sizes_one] at hsz
              have hxs' : xs.length < sizeLine := by rw [List.length_append] at hys; omega
              refine ⟨⟨_, SqL.of hx⟩, _, hx, _, hlast, ?_⟩
              rw [drop_of]
              have k0 : Tk H3 _ := Tk.lst (o := .lst (xs ++ [x])) hx
              subst hR
              simp only [rdA, rd_seq, rd_if]
              refine ⟨⟨_, SqL.of upd_same⟩, fun p1 h1 => ⟨_, SqL.of upd_same, ?_⟩⟩
              have s1 := Same.new (o := HO.lst [sv "and", sv "or"]) h1
              obtain ⟨wd, d, ea, okd, szd, shd⟩ : ∃ (wd : V) (d : Stm), atI [sv "and", sv "or"] (z % 8 - 4) = some wd ∧ d.ok m ∧ d.size = c.size + b.size + 1 ∧ ∀ H', IsSt H' x c → IsSt H' y b → Sh H' d [wd, x, y] := by
                have hb : z % 8 - 4 = 0 ∨ z % 8 - 4 = 1 := by
                  have a1 : ¬ 5 < z % 8 := by simpa using h5
                  have a2 : ¬ z % 8 = 3 := by simpa using h3
                  have a3 : ¬ z % 8 = 2 := by simpa using h8
                  have a4 : ¬ z % 8 < 2 := by simpa using h2
                  omega
                rcases hb with hb | hb
                · rw [hb]; exact ⟨_, .an c b, atI0 _ _, ⟨okc, okb⟩, rfl, fun H' k k' => ⟨_, _, rfl, k, k'⟩⟩
                · rw [hb]; exact ⟨_, .og c b, atI1 _ _ _, ⟨okc, okb⟩, rfl, fun H' k k' => ⟨_, _, rfl, k, k'⟩⟩
              have hx1 := s1 _ _ upd_same
              refine ⟨_, ea, ⟨_, SqL.of hx1⟩, _, hx1, _, last_of xs x, fun p2 h2 => ?_⟩
              rw [drop_of] at h2 ⊢
              have s2 := Same.new (o := HO.tup [wd, x, y]) h2
              have k : Tk H3 _ := ((k0.trans s1.tk).trans (Tk.lst (o := .lst xs) hx1)).trans s2.tk
              exact ⟨_, s2 _ _ upd_same, hxs', draw_push hp ((((sm.mut hp).trans s1).mut hp).trans s2) (s2 _ _ upd_same) (hs3.to k) (st_mk (a := d) upd_same (shd _ (hs4.to k) (hs2.to k))) okcs okd (by omega)⟩
            · subst hB
              simp only [rdA, rd_seq, rd_if]
              exact ⟨_, _, _, _, _, _, rfl, sm, hx, hs, hok, by rw [sizes_app, sizes_one]; omega⟩
    · rintro σ H2 ⟨xs, as, o3, o4, o5, o6, rfl, sm, hx, hs, hok, hsz⟩
      simp only [rdA, rd_seq, rd_if]
      intro p1 h1
      have s1 := Same.new (o := HO.tup [sv "yes"]) h1
      have hlen : xs.length = as.length := Paired.length hs
      have hle := sizes_len as
      rw [List.length_map] at hsz
      refine ⟨_, rfl, p, rfl, xs, .inl (SqL.of (s1 _ _ hx)), (xs.length : Int), rfl, by omega, by omega, for_range (lo := 0) (n := ((xs.length : Nat) : Int).toNat)
        (JoinInv H l m p xs as o3 o4 o5 o6)
        ⟨_, .yes, none, rfl, sm.trans s1, s1 _ _ hx, hs.to s1.tk, st_mk upd_same rfl, trivial, by simp only [Stm.size]; omega⟩ ?_ ?_⟩
      · rintro k σ H3 hk ⟨v, a, o8, rfl, sm3, hx3, hs3, ha, oka, sza⟩
        have hk' : k < xs.length := by simpa using hk
        simp only [rdA, rd_seq, rd_if]
        obtain ⟨x, hxk⟩ : ∃ x, xs[k]? = some x := ⟨_, List.getElem?_eq_getElem hk'⟩
        obtain ⟨b, hbk, hb⟩ := hs3.get hxk
        have hbm : b ∈ as := List.mem_of_getElem? hbk
        have okb := hok b hbm
        have hst : sizes (as.take (k + 1)) = sizes (as.take k) + b.size := by
          have : as.take (k + 1) = as.take k ++ [b] := by
            rw [List.take_add_one, hbk]; rfl
          rw [this, sizes_app, sizes_one]
        intro p2 h2
        have s2 := Same.new (o := HO.lst [sv "and", sv "or"]) h2
        refine ⟨_, SqL.of upd_same, ?_⟩
        obtain ⟨wd, d, ea, okd, szd, shd⟩ : ∃ (wd : V) (d : Stm), atI [sv "and", sv "or"] ((k : Int) % 2) = some wd ∧ d.ok m ∧ d.size = b.size + a.size + 1 ∧ ∀ H', IsSt H' x b → IsSt H' v a → Sh H' d [wd, x, v] := by
          have hb : (k : Int) % 2 = 0 ∨ (k : Int) % 2 = 1 := by omega
          rcases hb with hb | hb
          · rw [hb]; exact ⟨_, .an b a, atI0 _ _, ⟨okb, oka⟩, rfl, fun H' k k' => ⟨_, _, rfl, k, k'⟩⟩
          · rw [hb]; exact ⟨_, .og b a, atI1 _ _ _, ⟨okb, oka⟩, rfl, fun H' k k' => ⟨_, _, rfl, k, k'⟩⟩
        refine ⟨_, ea, _, SqL.of (s2 _ _ hx3), _, atI_nat hxk, fun p3 h3 => ?_⟩
        have s3 := Same.new (o := HO.tup [wd, x, v]) h3
        have sA := s2.trans s3
        exact ⟨_, d, _, rfl, sm3.trans sA, sA _ _ hx3, hs3.to sA.tk, st_mk upd_same (shd _ (hb.to sA.tk) (ha.to sA.tk)), okd, by rw [hst]; omega⟩
      · rintro σ H3 ⟨v, a, o8, rfl, sm3, hx3, hs3, ha, oka, sza⟩
        refine ⟨_, rfl, q v a H3 sm3 ha oka ?_⟩
        have : sizes (as.take ((xs.length : Nat) : Int).toNat) = sizes as := by rw [Int.toNat_natCast, List.take_of_length_le (by omega)]
        rw [this, Int.toNat_natCast] at sza
        omega
end
end Nt
end CN
end
section
set_option Elab.async false
set_option linter.all false
set_option maxRecDepth 100000
set_option maxHeartbeats 4000000
namespace L2
open PySem PySem.Spec PyProof.Rows
noncomputable def rInD : R2 := fun x y H Q => ∃ p xs ds d, y = .ref p ∧ H p = some (.lst xs) ∧ DTs H xs ds ∧ DT H x d ∧ PyData.canLayAll0 ds = true ∧ d.canLay0 = true ∧ d.depth ≤ 100 ∧ Q (.bl (ds.any fun y => PyData.eqv y d)) H
theorem op_in_data {X : Cx} {k : Nat} (hr : Room k X.A) : OpR X (compareOp .In) rInD := by
  intro pins s σ H x y v u Q I rx ry h
  obtain ⟨p, xs, ds, d, rfl, hp, hds, hd, l1, l2, dp, q⟩ := h
  cases (show u = Value.ref p from ry)
  obtain ⟨its, n, r, e, _⟩ := I.lst hp
  obtain ⟨as, ra⟩ := dts_reads I.hok ds xs its hds r
  obtain ⟨bs, rb⟩ := dt_reads I.hok d x v hd rx
  have := hr.un
  refine SeqAt.in_list_reads (Reads.list e rfl rfl ra) rb l1 l2 (by omega) ⟨.bl _, H, I, rfl, q⟩
theorem rd_inD {x : V} {p : Addr} {H : Hp} {Q : VK} : rInD x (.ref p) H Q = ∃ xs ds d, H p = some (.lst xs) ∧ DTs H xs ds ∧ DT H x d ∧ PyData.canLayAll0 ds = true ∧ d.canLay0 = true ∧ d.depth ≤ 100 ∧ Q (.bl (ds.any fun y => PyData.eqv y d)) H := by
  apply propext; constructor
  · rintro ⟨p', xs, ds, d, e, q⟩; cases e; exact ⟨xs, ds, d, q⟩
  · rintro ⟨xs, ds, d, q⟩; exact ⟨p, xs, ds, d, rfl, q⟩
theorem rd_forT {K : PySem.W.Frag} {g : TG} {tb : TS} {ta : TE} {D : Ends} {σ : St} {H : Hp} : tFor (iTup K ta) g tb D σ H = ta σ H fun x H1 => ∃ a, x = .ref a ∧ (∃ xs, SqT K H1 a xs) ∧ tForIn (Itt K a) g tb D σ H1 := rfl
end L2
namespace CN
open PySem L2
seal L2.PE L2.PT L2.PS L2.PSs L2.PA L2.PPs L2.PW L2.PC L2.PG L2.PGs L2.PI L2.PO L2.PTs
namespace Nt
noncomputable abbrev s_L_good_graph : Stmt := top 12
noncomputable abbrev p_L_good_graph : List Str := ["_law_found"]
theorem sc_L_good_graph : FnScope ["_law_found", "_law_k", "_law_node", "_law_number", "_law_ref"] ["_law_found"] (defScope s_L_good_graph) := ⟨rfl, rfl, rfl, by decide +kernel, rfl, by decide +kernel, by decide +kernel⟩
structure GG (g : List Nd × Nat) : Prop where
  net : Net g.1
  root : g.2 < g.1.length + 2
  sw : ∀ nd ∈ g.1, 0 ≤ nd.sw
  len : g.1.length ≤ 4000000
section
variable {P : Program} {w : World} {K : PySem.W.Frag} {mg : Str → Option Value} {base : Heap}
noncomputable def dN (nd : Nd) : PyData := .tuple [.int nd.sw, .int (nd.off : Nat), .int (nd.on : Nat)]
theorem dN_lay (nd : Nd) : (dN nd).canLay0 = true := by simp [dN, PyData.canLay0, PyData.canLayAll0]
theorem dN_eqv {a b : Nd} (h : PyData.eqv (dN a) (dN b) = true) : a = b := by
  cases a; cases b
  simp [dN, PyData.eqv, PyData.eqvAll] at h
  obtain ⟨h1, h2, h3⟩ := h
  simp only [Nd.mk.injEq]
  omega
theorem dN_at {H : Hp} {v : V} {nd : Nd} (h : NdAt H v nd) : DT H v (dN nd) := by
  obtain ⟨a, rfl, e⟩ := h
  exact .tup e (.cons (.int _) (.cons (.int _) (.cons (.int _) .nil)))
theorem dNs_at {H : Hp} : ∀ {xs : List V} {ns : List Nd}, Paired (NdAt H) xs ns → DTs H xs (ns.map dN)
  | _, _, .nil => .nil
  | _, _, .cons a b => .cons (dN_at a) (dNs_at b)
theorem dNs_lay : ∀ ns : List Nd, PyData.canLayAll0 (ns.map dN) = true
  | [] => rfl
  | nd :: ns => by
    rw [List.map_cons, PyData.canLayAll0, dN_lay, dNs_lay ns]; rfl
theorem cut_k (xs : List V) (k : Nat) (h : k ≤ xs.length) : cutV xs none (some (k : Int)) = xs.take k := by
  simp only [cutV]
  rw [HT.sIx_none, HT.sIx_nat, Nat.min_eq_left h]; simp
end
end Nt
end CN
end
section
set_option Elab.async false
set_option linter.all false
set_option maxRecDepth 100000
set_option maxHeartbeats 4000000
namespace CN
open PySem L2
seal L2.PE L2.PT L2.PS L2.PSs L2.PA L2.PPs L2.PW L2.PC L2.PG L2.PGs L2.PI L2.PO L2.PTs
namespace Nt
noncomputable abbrev s_L_inside : Stmt := top 10
noncomputable abbrev p_L_inside : List Str := ["_law_statement"]
theorem sc_L_inside : FnScope ["_law_statement", "_law_row", "_law_todo", "_law_part"] ["_law_statement"] (defScope s_L_inside) := ⟨rfl, rfl, rfl, by decide +kernel, rfl, by decide +kernel, by decide +kernel⟩
noncomputable def pre : Stm → List Stm
  | .yes => [.yes] | .no => [.no] | .sw n => [.sw n]
  | .nt a => .nt a :: pre a
  | .an a b => .an a b :: (pre a ++ pre b)
  | .og a b => .og a b :: (pre a ++ pre b)
  | .al n a => .al n a :: pre a
  | .sm n a => .sm n a :: pre a
noncomputable def pres (as : List Stm) : List Stm := as.flatMap pre
theorem pre_eq (a : Stm) : pre a = a :: pres (kids a) := by cases a <;> simp [pre, pres, kids]
theorem pre_len (a : Stm) : (pre a).length = a.size := by induction a <;> simp [pre, Stm.size] <;> omega
theorem w_two (a : Stm) : inV (.str (word a)) [sv "and", sv "or"] = match a with | .an _ _ => true | .og _ _ => true | _ => false := by
  cases a <;> simp only [word] <;> decide +kernel
theorem w_one (a : Stm) : inV (.str (word a)) [sv "not", sv "all", sv "some"] = match a with | .nt _ => true | .al _ _ => true | .sm _ _ => true | _ => false := by
  cases a <;> simp only [word] <;> decide +kernel
section
variable {P : Program} {w : World} {K : PySem.W.Frag} {mg : Str → Option Value} {base : Heap}
noncomputable def spInside : Sp := fun vs H Q _ => ∃ (v : V) (a : Stm), vs = [v] ∧ IsSt H v a ∧ a.size ≤ 1000 ∧ ∀ l xs H', H l = none → Same H H' → H' l = some (.lst xs) → Sts H' xs (pre a) → Q (.ref l) H'
inductive IdInv (H : Hp) (v : V) (lr : Addr) (a : Stm) (m : Nat) (σ : St) (H2 : Hp) : Prop
  | mk (t : Addr) (xs ys : List V) (ws ps : List Stm) (o3 : Option V) (h0 : σ = [some v, some (.ref lr), some (.ref t), o3]) (h1 : Same H H2) (h2 : H t = none) (h3 : t ≠ lr) (h4 : H2 t = some (.lst xs)) (h5 : H2 lr = some (.lst ys)) (h6 : Sts H2 xs ws) (h7 : Sts H2 ys ps) (h8 : ps ++ pres ws.reverse = pre a) (h9 : sizes ws = m) (h10 : ys.length + m ≤ 1000) : IdInv H v lr a m σ H2
theorem st_sort {H : Hp} {b : Stm} {cs : List V} (sh : Sh H b cs) :
    (∃ c1 c2 u1 u2, kids b = [c1, c2] ∧ cs = [.str (word b), u1, u2] ∧ IsSt H u1 c1 ∧ IsSt H u2 c2 ∧ inV (.str (word b)) [sv "and", sv "or"] = true ∧ inV (.str (word b)) [sv "not", sv "all", sv "some"] = false) ∨
    (∃ c u, kids b = [c] ∧ atI cs (-1) = some u ∧ IsSt H u c ∧ inV (.str (word b)) [sv "and", sv "or"] = false ∧ inV (.str (word b)) [sv "not", sv "all", sv "some"] = true) ∨
    (kids b = [] ∧ inV (.str (word b)) [sv "and", sv "or"] = false ∧ inV (.str (word b)) [sv "not", sv "all", sv "some"] = false) := by
  rw [w_two, w_one]
  cases b with
  | yes => exact .inr (.inr ⟨rfl, rfl, rfl⟩)
  | no => exact .inr (.inr ⟨rfl, rfl, rfl⟩)
  | sw n => exact .inr (.inr ⟨rfl, rfl, rfl⟩)
  | nt a => obtain ⟨v, rfl, k⟩ := sh; exact .inr (.inl ⟨a, v, rfl, rfl, k, rfl, rfl⟩)
  | al n a => obtain ⟨v, rfl, k⟩ := sh; exact .inr (.inl ⟨a, v, rfl, rfl, k, rfl, rfl⟩)
  | sm n a => obtain ⟨v, rfl, k⟩ := sh; exact .inr (.inl ⟨a, v, rfl, rfl, k, rfl, rfl⟩)
  | an a b => obtain ⟨v, u, rfl, k, l⟩ := sh; exact .inl ⟨a, b, v, u, rfl, rfl, k, l, rfl, rfl⟩
  | og a b => obtain ⟨v, u, rfl, k, l⟩ := sh; exact .inl ⟨a, b, v, u, rfl, rfl, k, l, rfl, rfl⟩
theorem sizes_rev (as : List Stm) : sizes as.reverse = sizes as := by simp [sizes, List.map_reverse, List.sum_reverse]
theorem ok_inside {f : Addr} {fd : FuncData} (BT : Bt mg) (D : Df K mg "_law_inside" s_L_inside p_L_inside f fd) : FnOk P w K mg base CX0 1 f fd p_L_inside spInside := by
  refine D.F.ok sc_L_inside (fun vs H Q E h => ?_) (fun cdv A outer s H vs Q E hr h => ?_)
  · obtain ⟨v, a, rfl, _⟩ := h
    rfl
  · obtain ⟨v, a, rfl, ha, hsz, q⟩ := h
    refine ⟨_, (pss_cons (ps_set (i := 1) sc_L_inside.nd rfl (by first | exact Or.inl rfl | exact Or.inr rfl) (pe_lst pa_nil))
    (pss_cons (ps_set (i := 2) sc_L_inside.nd rfl (by first | exact Or.inl rfl | exact Or.inr rfl) (pe_lst (pa_cons (pv 0) pa_nil)))
    (pss_cons (ps_while PassesOwn.never (pt_cmpR (op_neNil hr) (pv 2) (pe_lst pa_nil) (nomark _))
      (pss_cons (ps_set (i := 3) sc_L_inside.nd rfl (by first | exact Or.inl rfl | exact Or.inr rfl) (pe_bm0 PySem.F.plainAttrs_list PySem.F.slot_list_pop PySem.F.type_list_pop mt_pop (pv 2)))
      (pss_cons (ps_expr (pe_bm PySem.F.plainAttrs_list PySem.F.slot_list_append PySem.F.type_list_append mt_append (pv 1) (pa_cons (pv 3) pa_nil)))
      (pss_cons (ps_if (pt_cmpR op_in_seq (pe_ix ix_tup (pv 3) pe_int (fun _ _ => rfl)) (pe_lst (pa_cons pe_str (pa_cons pe_str pa_nil))) (by with_unfolding_all rfl))
        (pss_one (ps_set (i := 2) sc_L_inside.nd rfl (by first | exact Or.inl rfl | exact Or.inr rfl) (pe_op op_cat (pv 2) (pe_lst (pa_cons (pe_ix ix_tup (pv 3) pe_int (fun _ _ => rfl)) (pa_cons (pe_ix ix_tup (pv 3) pe_int (fun _ _ => rfl)) pa_nil))))))
        pss_nil)
      (pss_one (ps_if (pt_cmpR op_in_seq (pe_ix ix_tup (pv 3) pe_int (fun _ _ => rfl)) (pe_lst (pa_cons pe_str (pa_cons pe_str (pa_cons pe_str pa_nil)))) (by with_unfolding_all rfl))
        (pss_one (ps_expr (pe_bm PySem.F.plainAttrs_list PySem.F.slot_list_append PySem.F.type_list_append mt_append (pv 2) (pa_cons (pe_ix ix_tup (pv 3) (pe_un un_neg pe_int) (fun _ _ => rfl)) pa_nil))))
        pss_nil))))))
    (pss_one (ps_ret (pv 1)))))), ?_⟩
    refine seq_as fun R1 hR1 => ?_
    simp only [rdA, rd_forL, rd_forR, rd_compT, rd_compL, rd_compR, rd_tyes, rd_kget, rd_kin, rd_fldP, rd_make, rd_slS, cx_w, cx_w2]
    intro lr hlr
    have s1 := Same.new (o := HO.lst []) hlr
    subst hR1
    refine seq_as fun R1 hR1 => ?_
    simp only [rdA, rd_forL, rd_forR, rd_compT, rd_compL, rd_compR, rd_tyes, rd_kget, rd_kin, rd_fldP, rd_make, rd_slS, cx_w, cx_w2]
    intro t0 ht0
    have s2 := Same.new (o := HO.lst [v]) ht0
    have hne0 : t0 ≠ lr := (ne_of_none upd_same ht0).symm
    subst hR1
    refine seq_as fun R1 hR1 => ?_
    refine ⟨IdInv H v lr a, ⟨_, t0, [v], [], [a], [], none, rfl, s1.trans s2, s1.free ht0, hne0, upd_same, s2 _ _ upd_same, Sts.one (ha.to (s1.trans s2).tk), .nil, by simp [pres], sizes_one a, by simpa using hsz⟩, ?_⟩
    clear s1 s2 ht0 hne0 ha
    rintro m σ H2 ⟨t, xs, ys, ws, ps, o3, rfl, sm, ht, hne, hx, hy, hs, hp, hout, hm, hm2⟩
    simp only [rdA, rd_forL, rd_forR, rd_compT, rd_compL, rd_compR, rd_tyes, rd_kget, rd_kin, rd_fldP, rd_make, rd_slS, cx_w, cx_w2]
    intro p0 hp0
    have s3 := Same.new (o := HO.lst []) hp0
    refine ⟨_, s3 _ _ hx, upd_same, ?_⟩
    replace hx := s3 _ _ hx
    replace hy := s3 _ _ hy
    replace sm := sm.trans s3
    replace hs := hs.to s3.tk
    replace hp := hp.to s3.tk
    generalize upd H2 p0 (HO.lst []) = H3 at hx hy sm hs hp ⊢
    clear s3 hp0
    refine ite2 (fun he => ?_) (fun he => ?_)
    · refine ⟨fun σ' H' => ∃ m', m' < m ∧ IdInv H v lr a m' σ' H', fun _ _ h => h, ?_⟩
      clear hR1
      obtain ⟨zs, z, rfl⟩ := snoc_of (xs := xs) (by rintro rfl; simp at he)
      obtain ⟨bs, b, rfl, hs1, hs2⟩ := Sts.snoc hs
      clear hs he
      refine seq_as fun R2 hR2 => ?_
      simp only [rdA, rd_forL, rd_forR, rd_compT, rd_compL, rd_compR, rd_tyes, rd_kget, rd_kin, rd_fldP, rd_make, rd_slS, cx_w, cx_w2]
      refine ⟨⟨_, SqL.of hx⟩, _, hx, _, last_of zs z, ?_⟩
      rw [drop_of]
      have k0 : Tk H3 _ := Tk.lst (o := .lst zs) hx
      have hx4 : upd H3 t (HO.lst zs) t = some (.lst zs) := upd_same
      have hy4 : upd H3 t (HO.lst zs) lr = some (.lst ys) := by rw [upd_ne hne.symm]; exact hy
      replace hs1 := hs1.to k0
      replace hs2 := hs2.to k0
      replace hp := hp.to k0
      replace sm : Same H (upd H3 t (HO.lst zs)) := sm.mut ht
      generalize upd H3 t (HO.lst zs) = H4 at hx4 hy4 hs1 hs2 hp sm ⊢
      clear k0 hx hy
      rw [sizes_app, sizes_one] at hm
      have hbp := b.size_pos
      have hyl : ys.length = ps.length := Paired.length hp
      subst hR2
      refine seq_as fun R2 hR2 => ?_
      simp only [rdA, rd_forL, rd_forR, rd_compT, rd_compL, rd_compR, rd_tyes, rd_kget, rd_kin, rd_fldP, rd_make, rd_slS, cx_w, cx_w2]
      refine ⟨⟨_, SqL.of hy4⟩, _, hy4, small1000 (by omega), ?_⟩
      have k1 : Tk H4 _ := Tk.lst (o := .lst (ys ++ [z])) hy4
      have hx5 : upd H4 lr (HO.lst (ys ++ [z])) t = some (.lst zs) := by rw [upd_ne hne]; exact hx4
      have hy5 : upd H4 lr (HO.lst (ys ++ [z])) lr = some (.lst (ys ++ [z])) := upd_same
      replace hs1 := hs1.to k1
      replace hs2 := hs2.to k1
      replace hp := (hp.to k1).app (Sts.one hs2)
      replace sm : Same H (upd H4 lr (HO.lst (ys ++ [z]))) := sm.mut hlr
      generalize upd H4 lr (HO.lst (ys ++ [z])) = H5 at hx5 hy5 hs1 hs2 hp sm ⊢
      clear k1 hx4 hy4
      obtain ⟨p1, cs, rfl, hp1, sh⟩ := st_get hs2
      obtain ⟨rest, rfl, har⟩ := sh_head sh
      clear hs2
      have hsb := sizes_kids b
      have hzl : zs.length = bs.length := Paired.length hs1
      have hbl := sizes_len bs
      have fin : ∀ tF xF wF H8, Same H H8 → H tF = none → tF ≠ lr → H8 tF = some (.lst xF) → H8 lr = some (.lst (ys ++ [.ref p1])) → Sts H8 xF wF → Sts H8 (ys ++ [.ref p1]) (ps ++ [b]) → wF.reverse = kids b ++ bs.reverse → ∃ m', m' < m ∧ IdInv H v lr a m' [some v, some (.ref lr), some (.ref tF), some (.ref p1)] H8 := by
        intro tF xF wF H8 sm8 h1 h2 h3 h4 h5 h6 h7
        have hsw : sizes wF = sizes (kids b) + sizes bs := by rw [← sizes_rev, h7, sizes_app, sizes_rev]
        refine ⟨sizes wF, by omega, tF, xF, _, wF, _, _, rfl, sm8, h1, h2, h3, h4, h5, h6, ?_, rfl, ?_⟩
        · rw [h7, ← hout, List.reverse_append]
          simp only [List.reverse_cons, List.reverse_nil, List.nil_append, pres, List.flatMap_append, List.flatMap_cons, List.flatMap_nil, List.append_nil]
          rw [pre_eq b]
          simp [pres]
        · rw [List.length_append]; simp only [List.length_cons, List.length_nil]; omega
      subst hR2
      refine seq_as fun R2 hR2 => ?_
      refine if_as fun A B hA hB => ?_
      have g2 : ∀ tF xF wF H8, Same H H8 → H tF = none → tF ≠ lr → H8 tF = some (.lst xF) → H8 lr = some (.lst (ys ++ [.ref p1])) → Sts H8 xF wF → Sts H8 (ys ++ [.ref p1]) (ps ++ [b]) → H8 p1 = some (.tup (.str (word b) :: rest)) → xF.length ≤ 1000 →
          ((inV (.str (word b)) [sv "not", sv "all", sv "some"] = false ∧ wF.reverse = kids b ++ bs.reverse) ∨ (inV (.str (word b)) [sv "not", sv "all", sv "some"] = true ∧ wF = bs ∧ xF.length + 1 < 1000 ∧ ∃ c u, kids b = [c] ∧ atI (.str (word b) :: rest) (-1) = some u ∧ ∀ H9, Same H8 H9 → IsSt H9 u c)) → R2 [some v, some (.ref lr), some (.ref tF), some (.ref p1)] H8 := by
        clear hA hB hx5 hy5 hs1 hp hp1 sh sm
        intro tF xF wF H8 sm8 h1 h2 h3 h4 h5 h6 hp1 hxl hc
        subst hR2
        refine if_as fun A B hA hB => ?_
        simp only [rdA, rd_forL, rd_forR, rd_compT, rd_compL, rd_compR, rd_tyes, rd_kget, rd_kin, rd_fldP, rd_make, rd_slS, cx_w, cx_w2]
        refine ⟨_, SqT.of hp1, _, atI0 _ _, fun q4 hq4 => ⟨_, .inl (SqL.of upd_same), rfl, rfl, ?_⟩⟩
        have s9 := Same.new (o := HO.lst [sv "not", sv "all", sv "some"]) hq4
        rw [show [V.str (Str.ofString "not"), V.str (Str.ofString "all"), V.str (Str.ofString "some")] = [sv "not", sv "all", sv "some"] from rfl]
        rcases hc with ⟨e, hw⟩ | ⟨e, rfl, hl, c, u, hk, hat, hu⟩
        · rw [e]
          refine iteF ?_
          subst hB
          simp only [rdA, rd_forL, rd_forR, rd_compT, rd_compL, rd_compR, rd_tyes, rd_kget, rd_kin, rd_fldP, rd_make, rd_slS, cx_w, cx_w2]
          exact fin tF xF wF _ (sm8.trans s9) h1 h2 (s9 _ _ h3) (s9 _ _ h4) (h5.to s9.tk) (h6.to s9.tk) hw
        · rw [e]
          refine iteT ?_
          subst hA
          simp only [rdA, rd_forL, rd_forR, rd_compT, rd_compL, rd_compR, rd_tyes, rd_kget, rd_kin, rd_fldP, rd_make, rd_slS, cx_w, cx_w2]
          have hu9 := hu _ s9
          replace h3 := s9 _ _ h3
          replace h4 := s9 _ _ h4
          replace h5 := h5.to s9.tk
          replace h6 := h6.to s9.tk
          replace sm8 := sm8.trans s9
          replace hp1 := s9 _ _ hp1
          generalize upd H8 q4 (HO.lst [sv "not", sv "all", sv "some"]) = H9 at hu9 h3 h4 h5 h6 sm8 hp1 ⊢
          have k9 : Tk H9 _ := Tk.lst (o := .lst (xF ++ [u])) h3
          refine ⟨⟨_, SqL.of h3⟩, _, SqT.of hp1, u, hat, _, h3, small1000 (by omega), ?_⟩
          refine fin tF _ (wF ++ [c]) _ (sm8.mut h1) h1 h2 upd_same ((upd_ne h2.symm).trans h4) ((h5.to k9).app (Sts.one (hu9.to k9))) (h6.to k9) ?_
          rw [List.reverse_append, hk]; rfl
      simp only [rdA, rd_forL, rd_forR, rd_compT, rd_compL, rd_compR, rd_tyes, rd_kget, rd_kin, rd_fldP, rd_make, rd_slS, cx_w, cx_w2]
      refine ⟨_, SqT.of hp1, _, atI0 _ _, fun q1 hq1 => ⟨_, .inl (SqL.of upd_same), rfl, rfl, ?_⟩⟩
      have s6 := Same.new (o := HO.lst [sv "and", sv "or"]) hq1
      rw [show [V.str (Str.ofString "and"), V.str (Str.ofString "or")] = [sv "and", sv "or"] from rfl]
      replace hp1 := s6 _ _ hp1
      replace hx5 := s6 _ _ hx5
      replace hy5 := s6 _ _ hy5
      replace hs1 := hs1.to s6.tk
      replace hp := hp.to s6.tk
      replace sm := sm.trans s6
      have srt := st_sort sh
      have up : ∀ H9, Same (upd H5 q1 (HO.lst [sv "and", sv "or"])) H9 → Same H5 H9 := fun H9 h => s6.trans h
      generalize upd H5 q1 (HO.lst [sv "and", sv "or"]) = H6 at hp1 hx5 hy5 hs1 hp sm up ⊢
      clear s6 hq1 fin
      rcases srt with ⟨c1, c2, u1, u2, hk, hcs, k1, k2, e1, e2⟩ | ⟨c, u, hk, hat, k1, e1, e2⟩ | ⟨hk, e1, e2⟩
      · rw [e1]
        refine iteT ?_
        subst hA
        clear hB
        cases hcs
        simp only [rdA, rd_forL, rd_forR, rd_compT, rd_compL, rd_compR, rd_tyes, rd_kget, rd_kin, rd_fldP, rd_make, rd_slS, cx_w, cx_w2]
        refine ⟨_, SqT.of hp1, _, atI2 _ _ _ _, _, SqT.of hp1, _, atI1 _ _ _, fun q2 hq2 => ?_⟩
        have s7 := Same.new (o := HO.lst [u2, u1]) hq2
        have hk2 : (zs ++ [u2, u1]).length < 1000 := by
          rw [hk] at hsb
          simp only [sizes, List.map_cons, List.map_nil, List.sum_cons, List.sum_nil] at hsb
          have l1 := c1.size_pos
          have l2 := c2.size_pos
          rw [List.length_append]; simp only [List.length_cons, List.length_nil]; omega
        refine ⟨_, s7 _ _ hx5, _, upd_same, Nat.le_of_lt (small1000 (by rw [← List.length_append]; omega)), fun q3 hq3 => ?_⟩
        have s8 := Same.new (o := HO.lst (zs ++ [u2, u1])) hq3
        have sX := s7.trans s8
        have sU := up _ sX
        have hq3n : H6 q3 = none := s7.free hq3
        exact g2 q3 _ (bs ++ [c2, c1]) _ (sm.trans sX) (sm.free hq3n) (ne_of_none hy5 hq3n).symm upd_same (sX _ _ hy5) ((hs1.to sX.tk).app (.cons (k2.to sU.tk) (.cons (k1.to sU.tk) .nil))) (hp.to sX.tk) (sX _ _ hp1) (by omega) (.inl ⟨e2, by rw [List.reverse_append, hk]; rfl⟩)
      · rw [e1]
        refine iteF ?_
        subst hB
        clear hA
        simp only [rdA, rd_forL, rd_forR, rd_compT, rd_compL, rd_compR, rd_tyes, rd_kget, rd_kin, rd_fldP, rd_make, rd_slS, cx_w, cx_w2]
        have hl1 : zs.length + 1 < 1000 := by
          rw [hk] at hsb
          simp only [sizes, List.map_cons, List.map_nil, List.sum_cons, List.sum_nil] at hsb
          have l1 := c.size_pos
          omega
        exact g2 t zs bs H6 sm ht hne hx5 hy5 hs1 hp hp1 (by omega) (.inr ⟨e2, rfl, hl1, c, u, hk, hat, fun H9 h => k1.to (up _ h).tk⟩)
      · rw [e1]
        refine iteF ?_
        subst hB
        clear hA
        simp only [rdA, rd_forL, rd_forR, rd_compT, rd_compL, rd_compR, rd_tyes, rd_kget, rd_kin, rd_fldP, rd_make, rd_slS, cx_w, cx_w2]
        exact g2 t zs bs H6 sm ht hne hx5 hy5 hs1 hp hp1 (by omega) (.inl ⟨e2, by rw [hk]; rfl⟩)
    · have hxs : xs = [] := by
        cases xs with
        | nil => rfl
        | cons x r => exfalso; apply he; simp
      subst hxs
      have hws : ws = [] := List.eq_nil_of_length_eq_zero (Paired.length hs).symm
      subst hws
      simp only [List.reverse_nil, pres, List.flatMap_nil, List.append_nil] at hout
      subst hR1
      simp only [rdA, rd_forL, rd_forR, rd_compT, rd_compL, rd_compR, rd_tyes, rd_kget, rd_kin, rd_fldP, rd_make, rd_slS, cx_w, cx_w2]
      exact q lr ys H3 hlr sm hy (by rw [← hout]; exact hp)
end
end Nt
end CN
end
section
set_option Elab.async false
set_option linter.all false
set_option maxRecDepth 100000
set_option maxHeartbeats 4000000
namespace L2
open PySem PySem.Spec PyProof.Rows
theorem rd_rep {H : Hp} {Q : VK} {p : Addr} {k : Int} : rRep (.ref p) (.int k) H Q = ∃ xs, H p = some (.lst xs) ∧ -(2 ^ 63) ≤ k ∧ k < 2 ^ 63 ∧ xs.length * k.toNat ≤ sizeLine ∧ ∀ q, H q = none → Q (.ref q) (upd H q (.lst (List.replicate k.toNat xs).flatten)) := by
  apply propext; constructor
  · rintro ⟨l, j, xs, e, f, q⟩; cases e; cases f; exact ⟨xs, q⟩
  · rintro ⟨xs, q⟩; exact ⟨p, k, xs, rfl, rfl, q⟩
theorem rd_gsub {to ti : TE} {t : TSet} {v : V} {σ : St} {H : Hp} {Q : St → Hp → Prop} : gSub to ti t v σ H Q = to σ H fun o H1 => ti σ H1 fun i H2 => t o i v H2 fun H3 => Q σ H3 := rfl
theorem rd_setL {H : Hp} {Q : Hp → Prop} {p : Addr} {k : Int} {v : V} : rSetL (.ref p) (.int k) v H Q = ∃ xs j, H p = some (.lst xs) ∧ ixN xs.length k = some j ∧ Q (upd H p (.lst (xs.set j v))) := by
  apply propext; constructor
  · rintro ⟨l, xs, a, j, e, f, q⟩; cases e; cases f; exact ⟨xs, j, q⟩
  · rintro ⟨xs, j, q⟩; exact ⟨p, xs, k, j, rfl, rfl, q⟩
end L2
namespace CN
open PySem L2
seal L2.PE L2.PT L2.PS L2.PSs L2.PA L2.PPs L2.PW L2.PC L2.PG L2.PGs L2.PI L2.PO L2.PTs
namespace Nt
noncomputable abbrev s_L_true_in : Stmt := top 11
noncomputable abbrev p_L_true_in : List Str := ["_law_statement", "_law_many"]
theorem sc_L_true_in : FnScope ["_law_statement", "_law_many", "_law_size", "_law_pile", "_law_part", "_law_row", "_law_step", "_law_one", "_law_k", "_law_low", "_law_two"] ["_law_statement", "_law_many"] (defScope s_L_true_in) := ⟨rfl, rfl, rfl, by decide +kernel, rfl, by decide +kernel, by decide +kernel⟩
inductive Back : List Stm → List Stm → Prop
  | nil : Back [] []
  | snoc {ps ds : List Stm} {a : Stm} : Back ps (ds ++ (kids a).reverse) → Back (ps ++ [a]) (ds ++ [a])
theorem back_pre (a : Stm) : ∀ ps ds, Back ps ds → Back (ps ++ (pre a).reverse) (ds ++ [a]) := by
  induction a with
  | yes => intro ps ds h; exact .snoc (a := .yes) (by simpa [kids] using h)
  | no => intro ps ds h; exact .snoc (a := .no) (by simpa [kids] using h)
  | sw n => intro ps ds h; exact .snoc (a := .sw n) (by simpa [kids] using h)
  | nt a ih => intro ps ds h; rw [pre, List.reverse_cons, ← List.append_assoc]; exact .snoc (a := .nt a) (ih ps ds h)
  | al n a ih => intro ps ds h; rw [pre, List.reverse_cons, ← List.append_assoc]; exact .snoc (a := .al n a) (ih ps ds h)
  | sm n a ih => intro ps ds h; rw [pre, List.reverse_cons, ← List.append_assoc]; exact .snoc (a := .sm n a) (ih ps ds h)
  | an a b i j =>
    intro ps ds h
    rw [pre, List.reverse_cons, ← List.append_assoc, List.reverse_append, ← List.append_assoc]
    refine .snoc (a := .an a b) ?_
    have := i _ _ (j ps ds h)
    simpa [kids, List.append_assoc] using this
  | og a b i j =>
    intro ps ds h
    rw [pre, List.reverse_cons, ← List.append_assoc, List.reverse_append, ← List.append_assoc]
    refine .snoc (a := .og a b) ?_
    have := i _ _ (j ps ds h)
    simpa [kids, List.append_assoc] using this
theorem back_at {qs ds : List Stm} (h : Back qs ds) : ∀ {i : Nat} {b : Stm}, qs[i]? = some b → ∃ es, Back (qs.take i) (es ++ (kids b).reverse) ∧ Back (qs.take (i + 1)) (es ++ [b]) := by
  induction h with
  | nil => intro i b e; simp at e
  | @snoc ps ds a h ih =>
    intro i b e
    by_cases hi : i < ps.length
    · rw [List.getElem?_append_left hi] at e
      obtain ⟨es, h1, h2⟩ := ih e
      refine ⟨es, ?_, ?_⟩
      · rw [List.take_append_of_le_length (by omega)]; exact h1
      · rw [List.take_append_of_le_length (by omega)]; exact h2
    · rw [List.getElem?_append_right (by omega)] at e
      cases q : i - ps.length with
      | zero =>
        rw [q] at e
        simp only [List.getElem?_cons_zero, Option.some.injEq] at e
        subst e
        have : i = ps.length := by omega
        subst this
        refine ⟨ds, ?_, ?_⟩
        · rw [List.take_append_of_le_length (Nat.le_refl _), List.take_length]; exact h
        · rw [List.take_of_length_le (by simp)]; exact .snoc h
      | succ z => rw [q] at e; simp at e
theorem back_inv {qs ds : List Stm} (h : Back qs ds) : (qs = [] ∧ ds = []) ∨ ∃ ps a es, qs = ps ++ [a] ∧ ds = es ++ [a] ∧ Back ps (es ++ (kids a).reverse) := by
  cases h with
  | nil => exact .inl ⟨rfl, rfl⟩
  | snoc h => exact .inr ⟨_, _, _, rfl, rfl, h⟩
theorem back_one {qs ds : List Stm} (h : Back qs ds) : ∀ {es : List Stm}, Back qs es → ds = es := by
  induction h with
  | nil =>
    intro es k
    rcases back_inv k with ⟨_, e⟩ | ⟨ps, a, es', e, _⟩
    · exact e.symm
    · exact absurd (congrArg List.length e) (by simp)
  | @snoc ps ds a h ih =>
    intro es k
    rcases back_inv k with ⟨e, _⟩ | ⟨ps', a', es', e, rfl, h'⟩
    · exact absurd (congrArg List.length e) (by simp)
    · have e1 := List.append_inj_left' e rfl
      have e2 := List.append_inj_right' e rfl
      cases e2
      subst e1
      rw [List.append_inj_left' (ih h') rfl]
theorem back_len {qs ds : List Stm} (h : Back qs ds) : ds.length ≤ qs.length := by
  induction h with
  | nil => exact Nat.le_refl _
  | @snoc ps ds a h ih => simp only [List.length_append, List.length_singleton] at *; omega
theorem back_all (a : Stm) : Back (pre a).reverse [a] := by simpa using back_pre a [] [] .nil
noncomputable def stp (m n : Nat) : Nat := 2 ^ m / 2 ^ (n + 1)
noncomputable def rowS (m k : Nat) : Set1 := fun t => if 0 ≤ t ∧ t < (m : Nat) then k / stp m t.toNat % 2 == 1 else false
noncomputable def tab (m : Nat) (a : Stm) : List Bool := (List.range (2 ^ m)).map fun k => tr a (rowS m k)
noncomputable def lowK (m n k : Nat) : Nat := k - k / stp m n % 2 * stp m n
theorem low_at {m n k : Nat} (hm : m ≤ 5) (hn : n < m) (hk : k < 2 ^ m) : rowS m (lowK m n k) = put (rowS m k) (n : Nat) false ∧ rowS m (lowK m n k + stp m n) = put (rowS m k) (n : Nat) true ∧ lowK m n k + stp m n < 2 ^ m := by
  have key : ∀ m, m < 6 → ∀ n, n < m → ∀ k, k < 2 ^ m → (∀ t, t < m → (lowK m n k / stp m t % 2 == 1) = (if t = n then false else k / stp m t % 2 == 1) ∧ ((lowK m n k + stp m n) / stp m t % 2 == 1) = (if t = n then true else k / stp m t % 2 == 1)) ∧ lowK m n k + stp m n < 2 ^ m := by decide +kernel
  obtain ⟨h, h2⟩ := key m (by omega) n hn k hk
  refine ⟨?_, ?_, h2⟩
  · funext t
    simp only [rowS, put]
    by_cases ht : 0 ≤ t ∧ t < (m : Nat)
    · rw [if_pos ht, if_pos ht, (h t.toNat (by omega)).1]
      by_cases e : t = (n : Nat)
      · rw [if_pos (by omega), if_pos e]
      · rw [if_neg (by omega), if_neg e]
    · rw [if_neg ht, if_neg ht, if_neg (by omega)]
  · funext t
    simp only [rowS, put]
    by_cases ht : 0 ≤ t ∧ t < (m : Nat)
    · rw [if_pos ht, if_pos ht, (h t.toNat (by omega)).2]
      by_cases e : t = (n : Nat)
      · rw [if_pos (by omega), if_pos e]
      · rw [if_neg (by omega), if_neg e]
    · rw [if_neg ht, if_neg ht, if_neg (by omega)]
theorem tab_len (m : Nat) (a : Stm) : (tab m a).length = 2 ^ m := by simp [tab]
theorem tab_get {m : Nat} {a : Stm} {k : Nat} (h : k < 2 ^ m) : (tab m a)[k]? = some (tr a (rowS m k)) := by
  unfold tab; rw [List.getElem?_map, List.getElem?_range h]; rfl
theorem tab_atI {m : Nat} {a : Stm} {k : Nat} (h : k < 2 ^ m) : atI ((tab m a).map V.bl) ((k : Nat) : Int) = some (.bl (tr a (rowS m k))) := by
  refine atI_nat ?_
  rw [List.getElem?_map, tab_get h]; rfl
noncomputable def RowAt (H : Hp) (v : V) (m : Nat) (a : Stm) : Prop := ∃ p, v = .ref p ∧ H p = some (.lst ((tab m a).map V.bl))
theorem rev_pr {α β : Type} {F : α → β → Prop} {xs : List α} {as : List β} (h : Paired F xs as) : Paired F xs.reverse as.reverse := by
  induction h with
  | nil => exact .nil
  | cons r t ih => rw [List.reverse_cons, List.reverse_cons]; exact prd_app ih (.cons r .nil)
theorem mapP_mem {α β : Type} {F G : α → β → Prop} {xs : List α} {as : List β} (h : Paired F xs as) (k : ∀ x a, x ∈ xs → F x a → G x a) : Paired G xs as := by
  induction h with
  | nil => exact .nil
  | cons r t ih => exact .cons (k _ _ (List.mem_cons_self ..) r) (ih fun x a hx => k x a (List.mem_cons_of_mem _ hx))
theorem prd_mem {α β : Type} {F : α → β → Prop} {xs : List α} {as : List β} {x : α} (h : Paired F xs as) (hx : x ∈ xs) : ∃ a, F x a := by
  induction h with
  | nil => cases hx
  | cons r t ih => rcases List.mem_cons.mp hx with rfl | hx
                   · exact ⟨_, r⟩
                   · exact ih hx
theorem w_three (a : Stm) : inV (.str (word a)) [sv "switch", sv "all", sv "some"] = match a with | .sw _ => true | .al _ _ => true | .sm _ _ => true | _ => false := by
  cases a <;> simp only [word] <;> first | decide +kernel | exact decide_eq_false (by decide +kernel) | exact decide_eq_true (by decide +kernel)
theorem w_qu (a : Stm) : inV (.str (word a)) [sv "all", sv "some"] = match a with | .al _ _ => true | .sm _ _ => true | _ => false := by
  cases a <;> simp only [word] <;> first | decide +kernel | exact decide_eq_false (by decide +kernel) | exact decide_eq_true (by decide +kernel)
theorem e_switch (a : Stm) : decide (word a = Str.ofString "switch") = match a with | .sw _ => true | _ => false := by
  cases a <;> simp only [word] <;> first | decide +kernel | exact decide_eq_false (by decide +kernel) | exact decide_eq_true (by decide +kernel)
theorem e_not (a : Stm) : decide (word a = Str.ofString "not") = match a with | .nt _ => true | _ => false := by
  cases a <;> simp only [word] <;> first | decide +kernel | exact decide_eq_false (by decide +kernel) | exact decide_eq_true (by decide +kernel)
theorem e_some (a : Stm) : decide (word a = Str.ofString "some") = match a with | .sm _ _ => true | _ => false := by
  cases a <;> simp only [word] <;> first | decide +kernel | exact decide_eq_false (by decide +kernel) | exact decide_eq_true (by decide +kernel)
theorem e_or (a : Stm) : decide (word a = Str.ofString "or") = match a with | .og _ _ => true | _ => false := by
  cases a <;> simp only [word] <;> first | decide +kernel | exact decide_eq_false (by decide +kernel) | exact decide_eq_true (by decide +kernel)
theorem e_yes (a : Stm) : decide (word a = Str.ofString "yes") = match a with | .yes => true | _ => false := by
  cases a <;> simp only [word] <;> first | decide +kernel | exact decide_eq_false (by decide +kernel) | exact decide_eq_true (by decide +kernel)
theorem comp_bools {n : Nat} {D : Addr} {te : TE} {σ : St} {H : Hp} {Q : VK} (hn : n < 1000) (hD : H D = none) (f : Nat → Bool)
    (hs : ∀ (i : Nat) (H2 : Hp) (R : VK), i < n → Same H H2 → R (.bl (f i)) H2 → te (some (.int (0 + (i : Nat))) :: σ) H2 R)
    (q : ∀ H', Same H H' → H' D = some (.lst (((List.range n).map f).map V.bl)) → Q (.ref D) H') : tCompIn (Itr 0 n) D tYes te σ Q H := by
  refine comp_range (fun i ys H2 => Same H H2 ∧ H2 D = some (.lst ys) ∧ ys = ((List.range i).map f).map V.bl) ⟨Same.new hD, upd_same, rfl⟩ ?_ ?_
  · rintro i ys H2 hi ⟨sm, hd, rfl⟩
    rw [show tYes = fun (_ : St) (H : Hp) Q => Q true H from rfl]
    simp only [if_true]
    refine hs i H2 _ hi sm ⟨hd, small1000 (by simp; omega), _, ?_, rfl, by omega, sm.mut hD, upd_same, ?_⟩
    · omega
    · rw [List.range_succ]; simp
  · rintro ys H2 ⟨sm, hd, rfl⟩
    exact q H2 sm hd
noncomputable def kSw : Stm → Bool | .sw _ => true | _ => false
noncomputable def kNt : Stm → Bool | .nt _ => true | _ => false
noncomputable def kQu : Stm → Bool | .al _ _ => true | .sm _ _ => true | _ => false
noncomputable def kTw : Stm → Bool | .an _ _ => true | .og _ _ => true | _ => false
noncomputable def kSm : Stm → Bool | .sm _ _ => true | _ => false
noncomputable def kOg : Stm → Bool | .og _ _ => true | _ => false
theorem t_sw (a : Stm) : decide (word a = Str.ofString "switch") = kSw a := (e_switch a).trans (by cases a <;> rfl)
theorem t_nt (a : Stm) : decide (word a = Str.ofString "not") = kNt a := (e_not a).trans (by cases a <;> rfl)
theorem t_sm (a : Stm) : decide (word a = Str.ofString "some") = kSm a := (e_some a).trans (by cases a <;> rfl)
theorem t_og (a : Stm) : decide (word a = Str.ofString "or") = kOg a := (e_or a).trans (by cases a <;> rfl)
theorem t_qu (a : Stm) : inV (.str (word a)) [sv "all", sv "some"] = kQu a := (w_qu a).trans (by cases a <;> rfl)
theorem t_tw (a : Stm) : inV (.str (word a)) [sv "and", sv "or"] = kTw a := (w_two a).trans (by cases a <;> rfl)
theorem t_th (a : Stm) : inV (.str (word a)) [sv "switch", sv "all", sv "some"] = (kSw a || kQu a) := (w_three a).trans (by cases a <;> rfl)
theorem of_sw {b : Stm} (h : kSw b = true) : ∃ n, b = .sw n := by cases b <;> first | exact ⟨_, rfl⟩ | cases h
theorem of_nt {b : Stm} (h : kNt b = true) : ∃ c, b = .nt c := by cases b <;> first | exact ⟨_, rfl⟩ | cases h
noncomputable def swOf : Stm → Option Int | .sw n => some n | .al n _ => some n | .sm n _ => some n | _ => none
theorem of_th {N : Int} {b : Stm} (h : (kSw b || kQu b) = true) (ok : b.ok N) : ∃ n, swOf b = some n ∧ 0 ≤ n ∧ n < N ∧ ∀ H cs, Sh H b cs → ∃ r, cs = .str (word b) :: .int n :: r := by
  cases b with
  | sw n => exact ⟨n, rfl, ok.1, ok.2, fun H cs e => ⟨[], e⟩⟩
  | al n c => exact ⟨n, rfl, ok.1.1, ok.1.2, fun H cs ⟨v, e, _⟩ => ⟨_, e⟩⟩
  | sm n c => exact ⟨n, rfl, ok.1.1, ok.1.2, fun H cs ⟨v, e, _⟩ => ⟨_, e⟩⟩
  | _ => cases h
theorem of_qu {b : Stm} (h : kQu b = true) : kSw b = false ∧ kNt b = false ∧ ∃ n c, swOf b = some n ∧ kids b = [c] ∧ ∀ ρ, tr b ρ = if kSm b = true then tr c (put ρ n false) || tr c (put ρ n true) else tr c (put ρ n false) && tr c (put ρ n true) := by
  cases b with
  | al n c => exact ⟨rfl, rfl, n, c, rfl, rfl, fun _ => rfl⟩
  | sm n c => exact ⟨rfl, rfl, n, c, rfl, rfl, fun _ => rfl⟩
  | _ => cases h
theorem of_tw {b : Stm} (h : kTw b = true) : kSw b = false ∧ kNt b = false ∧ kQu b = false ∧ ∃ c d, kids b = [c, d] ∧ ∀ ρ, tr b ρ = if kOg b = true then tr c ρ || tr d ρ else tr c ρ && tr d ρ := by
  cases b with
  | an c d => exact ⟨rfl, rfl, rfl, c, d, rfl, fun _ => rfl⟩
  | og c d => exact ⟨rfl, rfl, rfl, c, d, rfl, fun _ => rfl⟩
  | _ => cases h
theorem tab_const {m : Nat} {a : Stm} {b : Bool} (h : ∀ ρ, tr a ρ = b) : (tab m a).map V.bl = List.replicate (2 ^ m) (.bl b) := by
  refine List.eq_replicate_iff.mpr ⟨by rw [List.length_map, tab_len], fun x hx => ?_⟩
  obtain ⟨c, hc, rfl⟩ := List.mem_map.mp hx
  unfold tab at hc
  obtain ⟨k, _, rfl⟩ := List.mem_map.mp hc
  rw [h]
theorem p2_le {m : Nat} (h : m ≤ 5) : 2 ^ m ≤ 32 := Nat.pow_le_pow_right (by decide) h
theorem pa_at {m : Nat} (h : m ≤ 4) : atI [V.int 1, V.int 2, V.int 4, V.int 8, V.int 16] ((m : Nat) : Int) = some (.int ((2 ^ m : Nat) : Int)) := by
  have : m < 4 + 1 := Nat.lt_succ_of_le h
  refine atI_nat ?_
  revert m; intro m _ h
  match m, h with
  | 0, _ => rfl
  | 1, _ => rfl
  | 2, _ => rfl
  | 3, _ => rfl
  | 4, _ => rfl
  | n + 5, h => exact absurd h (by omega)
theorem pw_at {m j : Nat} (hm : m ≤ 4) (h : j < m) : atI [V.int 2, V.int 4, V.int 8, V.int 16] ((j : Nat) : Int) = some (.int ((2 ^ (j + 1) : Nat) : Int)) ∧ ((2 ^ m : Nat) : Int) / ((2 ^ (j + 1) : Nat) : Int) = ((stp m j : Nat) : Int) ∧ 0 < stp m j ∧ 0 < 2 ^ (j + 1) ∧ 2 ^ (j + 1) ≤ 32 := by
  have h2 : j < 4 := Nat.lt_of_lt_of_le h hm
  refine ⟨atI_nat ?_, (Int.natCast_ediv _ _).symm, Nat.div_pos (Nat.pow_le_pow_right (by decide) h) (Nat.pow_pos (by decide)), Nat.pow_pos (by decide), p2_le (Nat.le_trans h2 (by decide))⟩
  clear h hm
  match j, h2 with
  | 0, _ => rfl
  | 1, _ => rfl
  | 2, _ => rfl
  | 3, _ => rfl
  | n + 4, h => exact absurd h (by omega)
theorem sw_bit {m i : Nat} {n : Int} (h0 : 0 ≤ n) (hj : n < (m : Nat)) : decide (((i : Nat) : Int) / ((stp m n.toNat : Nat) : Int) % 2 = 1) = tr (.sw n) (rowS m i) := by
  simp only [tr, rowS]
  rw [if_pos ⟨h0, hj⟩, show ((i : Nat) : Int) / ((stp m n.toNat : Nat) : Int) = ((i / stp m n.toNat : Nat) : Int) from (Int.natCast_ediv i _).symm]
  generalize i / stp m n.toNat = t
  rw [Bool.eq_iff_iff]
  simp
  omega
theorem tab_ext {m : Nat} {a : Stm} {rw : List V} (hl : rw.length = 2 ^ m) (hk : ∀ k, k < 2 ^ m → rw[k]? = some (.bl (tr a (rowS m k)))) : rw = (tab m a).map V.bl := by
  apply List.ext_getElem?
  intro k
  by_cases h : k < 2 ^ m
  · rw [hk k h, List.getElem?_map, tab_get h]; rfl
  · rw [List.getElem?_eq_none (by omega), List.getElem?_eq_none (by rw [List.length_map, tab_len]; omega)]
theorem low_int {m i j : Nat} : ((i : Nat) : Int) - ((i : Nat) : Int) / ((stp m j : Nat) : Int) % 2 * ((stp m j : Nat) : Int) = ((lowK m j i : Nat) : Int) := by
  have h1 : i / stp m j % 2 * stp m j ≤ i := Nat.le_trans (Nat.mul_le_mul_right _ (Nat.mod_le _ _)) (Nat.div_mul_le_self _ _)
  have h2 : ((i : Nat) : Int) / ((stp m j : Nat) : Int) % 2 * ((stp m j : Nat) : Int) = ((i / stp m j % 2 * stp m j : Nat) : Int) := by
    rw [Int.natCast_mul, Int.natCast_emod, Int.natCast_ediv]; rfl
  rw [h2]
  unfold lowK
  omega
theorem ixN_nat {n i : Nat} (h : i < n) : ixN n ((i : Nat) : Int) = some i := by
  unfold ixN
  rw [if_pos (by omega), if_pos (by omega), Int.toNat_natCast]
theorem tup_upd {H : Hp} {p l : Addr} {xs ys : List V} {o : HO} (h : H p = some (.tup xs)) (k : H l = some (.lst ys)) : upd H l o p = some (.tup xs) := by
  rw [upd_ne (fun e => by rw [e, k] at h; cases h)]; exact h
section
variable {P : Program} {w : World} {K : PySem.W.Frag} {mg : Str → Option Value} {base : Heap}
theorem ok_pre {N : Int} : ∀ {a : Stm}, a.ok N → ∀ b ∈ pre a, b.ok N := by
  intro a
  induction a with
  | yes => intro k b h; simp only [pre, List.mem_singleton] at h; subst h; exact k
  | no => intro k b h; simp only [pre, List.mem_singleton] at h; subst h; exact k
  | sw m => intro k b h; simp only [pre, List.mem_singleton] at h; subst h; exact k
  | nt a ih => intro k b h; rcases List.mem_cons.mp h with rfl | h
               · exact k
               · exact ih k b h
  | al m a ih => intro k b h; rcases List.mem_cons.mp h with rfl | h
                 · exact k
                 · exact ih k.2 b h
  | sm m a ih => intro k b h; rcases List.mem_cons.mp h with rfl | h
                 · exact k
                 · exact ih k.2 b h
  | an x y i j => intro k b h; rcases List.mem_cons.mp h with rfl | h
                  · exact k
                  · rcases List.mem_append.mp h with h | h
                    · exact i k.1 b h
                    · exact j k.2 b h
  | og x y i j => intro k b h; rcases List.mem_cons.mp h with rfl | h
                  · exact k
                  · rcases List.mem_append.mp h with h | h
                    · exact i k.1 b h
                    · exact j k.2 b h
noncomputable def spTrue : Sp := fun vs H Q _ => ∃ (v : V) (a : Stm) (m : Nat), vs = [v, .int (m : Nat)] ∧ m ≤ 4 ∧ IsSt H v a ∧ a.size ≤ 1000 ∧ a.ok (m : Nat) ∧ ∀ u H', Same H H' → RowAt H' u m a → (∀ p, u = .ref p → H p = none) → Q u H'
structure Tb (m : Nat) (H : Hp) (lp lq : Addr) (xs : List V) (a : Stm) (ys : List V) (ds : List Stm) (H2 : Hp) : Prop where
  sm : Same H H2
  lpn : H lp = none
  hp : H2 lp = some (.lst ys)
  hq : H2 lq = some (.lst xs)
  ne : lq ≠ lp
  hst : Sts H2 xs (pre a)
  hr : Paired (fun u d => RowAt H2 u m d ∧ ∀ p, u = .ref p → H p = none ∧ p ≠ lp) ys ds
section
variable {m : Nat} {H H2 H3 : Hp} {lp lq p1 q : Addr} {xs ys zs cs : List V} {a b d : Stm} {ds es : List Stm} {dn e : Bool}
theorem Tb.same (t : Tb m H lp lq xs a ys ds H2) (s : Same H2 H3) : Tb m H lp lq xs a ys ds H3 :=
  ⟨t.sm.trans s, t.lpn, s _ _ t.hp, s _ _ t.hq, t.ne, t.hst.to s.tk, Paired.mapP t.hr fun _ _ z => ⟨z.1.imp fun _ e => ⟨e.1, s _ _ e.2⟩, z.2⟩⟩
theorem Tb.pop (t : Tb m H lp lq xs a ys (ds ++ [d]) H2) :
    ∃ zs p, ys = zs ++ [.ref p] ∧ H2 p = some (.lst ((tab m d).map V.bl)) ∧ p ≠ lp ∧ Tb m H lp lq xs a zs ds (upd H2 lp (.lst zs)) := by
  obtain ⟨zs, z, rfl, h1, ⟨p, rfl, e⟩, h2⟩ := prd_snocR t.hr
  have k : Tk H2 _ := Tk.lst (o := .lst zs) t.hp
  have n := (h2 p rfl).2
  refine ⟨zs, p, rfl, e, n, t.sm.mut t.lpn, t.lpn, upd_same, ?_, t.ne, t.hst.to k, Paired.mapP h1 fun u d ⟨⟨q, e, f⟩, g⟩ => ⟨⟨q, e, ?_⟩, g⟩⟩
  · rw [upd_ne t.ne]; exact t.hq
  · rw [upd_ne (g q e).2]; exact f
theorem Tb.set {zs' : List V} (t : Tb m H lp lq xs a ys ds H2) (hq : H2 q = some (.lst zs)) (h1 : H q = none) (h2 : q ≠ lp) (h3 : q ≠ lq) (h4 : ∀ u ∈ ys, u ≠ .ref q) : Tb m H lp lq xs a ys ds (upd H2 q (.lst zs')) := by
  have k : Tk H2 _ := Tk.lst (o := .lst zs') hq
  refine ⟨t.sm.mut h1, t.lpn, ?_, ?_, t.ne, t.hst.to k, ?_⟩
  · rw [upd_ne h2.symm]; exact t.hp
  · rw [upd_ne h3.symm]; exact t.hq
  · exact mapP_mem t.hr fun u d hu ⟨⟨p, e, f⟩, g⟩ => ⟨⟨p, e, by rw [upd_ne (fun z => h4 u hu (by rw [e, z]))]; exact f⟩, g⟩
structure Own (H : Hp) (lp lq q : Addr) (ys : List V) : Prop where
  q1 : H q = none
  q2 : q ≠ lp
  q3 : q ≠ lq
  q4 : ∀ u ∈ ys, u ≠ .ref q
theorem Tb.off (t : Tb m H lp lq xs a ys ds H2) (h : H2 q = none) : Own H lp lq q ys := by
  refine ⟨t.sm.free h, (ne_of_none t.hp h).symm, (ne_of_none t.hq h).symm, fun u hu e => ?_⟩
  obtain ⟨d, ⟨p, e2, f⟩, _⟩ := prd_mem t.hr hu
  rw [e] at e2
  cases e2
  rw [h] at f
  cases f
structure Tq (m : Nat) (H : Hp) (lp lq : Addr) (xs : List V) (a : Stm) (p1 : Addr) (cs : List V) (b : Stm) (es : List Stm) (dn : Bool) (q : Addr) (zs : List V) (H2 : Hp) : Prop where
  ob : Tb m H lp lq xs a zs (es ++ if dn = true then [] else (kids b).reverse) H2
  hp1 : H2 p1 = some (.tup cs)
  row : H2 q = some (.lst (if dn = true then (tab m b).map V.bl else List.replicate (2 ^ m) (.bl (decide (word b = Str.ofString "yes")))))
  own : Own H lp lq q zs
theorem Tq.same (t : Tq m H lp lq xs a p1 cs b es dn q zs H2) (s : Same H2 H3) : Tq m H lp lq xs a p1 cs b es dn q zs H3 :=
  ⟨t.ob.same s, s _ _ t.hp1, s _ _ t.row, t.own⟩
theorem Tq.no (t : Tq m H lp lq xs a p1 cs b es dn q zs H2) (h : ¬ e = true) : Tq m H lp lq xs a p1 cs b es (dn || e) q zs H2 := by
  rw [show e = false by simpa using h, Bool.or_false]; exact t
theorem Tq.op (t : Tq m H lp lq xs a p1 cs b es dn q zs H2) (h : dn = false) : Tb m H lp lq xs a zs (es ++ (kids b).reverse) H2 ∧ H2 q = some (.lst (List.replicate (2 ^ m) (.bl (decide (word b = Str.ofString "yes"))))) := by
  obtain ⟨a, _, c, _⟩ := t
  rw [h] at a c
  exact ⟨a, c⟩
theorem Tq.did (t : Tb m H lp lq xs a zs es H2) (h1 : H2 p1 = some (.tup cs)) (hr : H2 q = some (.lst ((tab m b).map V.bl))) (o : Own H lp lq q zs) (h : dn = true) : Tq m H lp lq xs a p1 cs b es dn q zs H2 :=
  ⟨by rw [if_pos h, List.append_nil]; exact t, h1, by rw [if_pos h]; exact hr, o⟩
theorem Tq.fin (t : Tq m H lp lq xs a p1 cs b es (kSw b || kNt b || kQu b || kTw b) q zs H2) : Tb m H lp lq xs a zs es H2 ∧ H2 q = some (.lst ((tab m b).map V.bl)) := by
  obtain ⟨ob, _, row, _⟩ := t
  cases b with
  | yes =>
    rw [show (kSw .yes || kNt .yes || kQu .yes || kTw .yes) = false from rfl] at ob row
    exact ⟨by simpa [kids] using ob, by rw [row, e_yes, tab_const (b := true) fun _ => rfl]; rfl⟩
  | no =>
    rw [show (kSw .no || kNt .no || kQu .no || kTw .no) = false from rfl] at ob row
    exact ⟨by simpa [kids] using ob, by rw [row, e_yes, tab_const (b := false) fun _ => rfl]; rfl⟩
  | _ => exact ⟨by simpa only [List.append_nil] using (show Tb m H lp lq xs a zs (es ++ []) H2 from ob), row⟩
end
inductive QuInv (m : Nat) (H : Hp) (v : V) (lp lq q o : Addr) (xs : List V) (a : Stm) (p1 : Addr) (cs : List V) (b c : Stm) (zs : List V) (es : List Stm) (st : V) (o10 : Option V) (i : Nat) (σ : St) (H2 : Hp) : Prop
  | mk (o8 o9 : Option V) (rw : List V) (h0 : σ = [some v, some (.int (m : Nat)), some (.int ((2 ^ m : Nat) : Int)), some (.ref lp), some (.ref p1), some (.ref q), some st, some (.ref o), o8, o9, o10]) (h1 : Tb m H lp lq xs a zs es H2) (h2 : H2 p1 = some (.tup cs)) (h3 : H2 o = some (.lst ((tab m c).map V.bl))) (h4 : H2 q = some (.lst rw)) (h5 : rw.length = 2 ^ m) (h6 : ∀ k, k < i → rw[k]? = some (.bl (tr b (rowS m k)))) : QuInv m H v lp lq q o xs a p1 cs b c zs es st o10 i σ H2
inductive TrInv (m : Nat) (H : Hp) (v : V) (lp lq : Addr) (xs : List V) (a : Stm) (i : Nat) (σ : St) (H2 : Hp) : Prop
  | mk (ys : List V) (ds : List Stm) (o4 o5 o6 o7 o8 o9 o10 : Option V) (h0 : σ = [some v, some (.int (m : Nat)), some (.int ((2 ^ m : Nat) : Int)), some (.ref lp), o4, o5, o6, o7, o8, o9, o10]) (h1 : Tb m H lp lq xs a ys ds H2) (h2 : Back ((pre a).reverse.take i) ds) : TrInv m H v lp lq xs a i σ H2
theorem Tb.push {m : Nat} {H H9 : Hp} {lp lq q : Addr} {xs zs : List V} {a b : Stm} {v y : V} {es : List Stm} {i : Nat} {o6 o7 o8 o9 o10 : Option V} (t : Tb m H lp lq xs a zs es H9) (hrow : H9 q = some (.lst ((tab m b).map V.bl))) (h1 : H q = none) (h2 : q ≠ lp) (w : Back ((pre a).reverse.take (i + 1)) (es ++ [b])) :
    TrInv m H v lp lq xs a (i + 1) [some v, some (.int (m : Nat)), some (.int ((2 ^ m : Nat) : Int)), some (.ref lp), some y, some (.ref q), o6, o7, o8, o9, o10] (upd H9 lp (.lst (zs ++ [.ref q]))) := by
  have k : Tk H9 _ := Tk.lst (o := .lst (zs ++ [.ref q])) t.hp
  refine ⟨_, _, _, _, _, _, _, _, _, rfl, ⟨t.sm.mut t.lpn, t.lpn, upd_same, ?_, t.ne, t.hst.to k, prd_app (Paired.mapP t.hr fun u d ⟨⟨p, e, f⟩, g⟩ => ⟨⟨p, e, ?_⟩, g⟩) (.cons ⟨⟨q, rfl, ?_⟩, ?_⟩ .nil)⟩, w⟩
  · rw [upd_ne t.ne]; exact t.hq
  · rw [upd_ne (g p e).2]; exact f
  · rw [upd_ne h2]; exact hrow
  · intro p e; cases e; exact ⟨h1, h2⟩
theorem ok_true {f f1 : Addr} {fd fd1 : FuncData} (BT : Bt mg) (n_reversed : mg "reversed" = none) (D_L_inside : Df K mg "_law_inside" s_L_inside p_L_inside f1 fd1) (G_L_inside : FnOk P w K mg base CX0 1 f1 fd1 p_L_inside spInside) (D : Df K mg "_law_true_in" s_L_true_in p_L_true_in f fd) : FnOk P w K mg base CX0 2 f fd p_L_true_in spTrue := by
  refine D.F.ok sc_L_true_in (fun vs H Q E h => ?_) (fun cdv A outer s H vs Q E hr h => ?_)
  · obtain ⟨v, a, m, rfl, _⟩ := h
    rfl
  · obtain ⟨v, a, m, rfl, hm, ha, hsz, hok, q⟩ := h
    have h32 : 2 ^ m ≤ 32 := p2_le (Nat.le_trans hm (by decide))
    have h33 : (0 : Int) ≤ ((2 ^ m : Nat) : Int) := Int.natCast_nonneg _
    refine ⟨_, (pss_cons (ps_set (i := 2) sc_L_true_in.nd rfl (by first | exact Or.inl rfl | exact Or.inr rfl) (pe_ix ix_list (pe_lst (pa_cons pe_int (pa_cons pe_int (pa_cons pe_int (pa_cons pe_int (pa_cons pe_int pa_nil)))))) (pv 1) (fun _ _ => rfl)))
    (pss_cons (ps_set (i := 3) sc_L_true_in.nd rfl (by first | exact Or.inl rfl | exact Or.inr rfl) (pe_lst pa_nil))
    (pss_cons (ps_for PassesOwn.never rfl (pi_rev (by rfl) n_reversed bo_reversed (pa_cons (pe_call G_L_inside (hr) (by rfl) D_L_inside.m D_L_inside.F.kp D_L_inside.b .nil pass0 (pa_cons (pv 0) pa_nil)) pa_nil)) (pg_name (i := 4) sc_L_true_in.nd rfl (by first | exact Or.inl rfl | exact Or.inr rfl))
      (pss_cons (ps_set (i := 5) sc_L_true_in.nd rfl (by first | exact Or.inl rfl | exact Or.inr rfl) (pe_op op_rep (pe_lst (pa_cons (pe_cmpR op_eq (pe_ix ix_tup (pv 4) pe_int (fun _ _ => rfl)) pe_str (nomark _)) pa_nil)) (pv 2)))
      (pss_cons (ps_set (i := 6) sc_L_true_in.nd rfl (by first | exact Or.inl rfl | exact Or.inr rfl) pe_int)
      (pss_cons (ps_if (pt_cmpR op_in_seq (pe_ix ix_tup (pv 4) pe_int (fun _ _ => rfl)) (pe_lst (pa_cons pe_str (pa_cons pe_str (pa_cons pe_str pa_nil)))) (by with_unfolding_all rfl))
        (pss_one (ps_set (i := 6) sc_L_true_in.nd rfl (by first | exact Or.inl rfl | exact Or.inr rfl) (pe_op op_fdiv (pv 2) (pe_ix ix_list (pe_lst (pa_cons pe_int (pa_cons pe_int (pa_cons pe_int (pa_cons pe_int pa_nil))))) (pe_ix ix_tup (pv 4) pe_int (fun _ _ => rfl)) (fun _ _ => rfl)))))
        pss_nil)
      (pss_cons (ps_if (pt_cmpR op_eq (pe_ix ix_tup (pv 4) pe_int (fun _ _ => rfl)) pe_str (nomark _))
        (pss_one (ps_setC (i := 5) sc_L_true_in.nd rfl (by first | exact Or.inl rfl | exact Or.inr rfl) rfl (pi_range1 (by rfl) BT.n_range (pa_cons (pv 2) pa_nil)) (csc_of (M := ["_law_statement", "_law_many", "_law_size", "_law_pile", "_law_part", "_law_row", "_law_step", "_law_one", "-", "_law_low", "_law_two"]) rfl (by decide +kernel) (by decide +kernel)) (fun _ _ _ _ => pts_nil) (fun _ _ _ _ => (pe_cmpR op_eq (pe_op op_mod (pe_op op_fdiv (pv 0) (pv 7)) pe_int) pe_int (nomark _))) (by rfl)))
        pss_nil)
      (pss_cons (ps_if (pt_cmpR op_eq (pe_ix ix_tup (pv 4) pe_int (fun _ _ => rfl)) pe_str (nomark _))
        (pss_cons (ps_set (i := 7) sc_L_true_in.nd rfl (by first | exact Or.inl rfl | exact Or.inr rfl) (pe_bm0 PySem.F.plainAttrs_list PySem.F.slot_list_pop PySem.F.type_list_pop mt_pop (pv 3)))
        (pss_one (ps_setC (i := 5) sc_L_true_in.nd rfl (by first | exact Or.inl rfl | exact Or.inr rfl) rfl (pi_range1 (by rfl) BT.n_range (pa_cons (pv 2) pa_nil)) (csc_of (M := ["_law_statement", "_law_many", "_law_size", "_law_pile", "_law_part", "_law_row", "_law_step", "_law_one", "-", "_law_low", "_law_two"]) rfl (by decide +kernel) (by decide +kernel)) (fun _ _ _ _ => pts_nil) (fun _ _ _ _ => (pe_not (pe_ix (ix_listK (K := K) rfl) (pv 8) (pv 0) (fun _ _ => rfl)))) (by rfl))))
        pss_nil)
      (pss_cons (ps_if (pt_cmpR op_in_seq (pe_ix ix_tup (pv 4) pe_int (fun _ _ => rfl)) (pe_lst (pa_cons pe_str (pa_cons pe_str pa_nil))) (by with_unfolding_all rfl))
        (pss_cons (ps_set (i := 7) sc_L_true_in.nd rfl (by first | exact Or.inl rfl | exact Or.inr rfl) (pe_bm0 PySem.F.plainAttrs_list PySem.F.slot_list_pop PySem.F.type_list_pop mt_pop (pv 3)))
        (pss_one (ps_for PassesOwn.never rfl (pi_range1 (by rfl) BT.n_range (pa_cons (pv 2) pa_nil)) (pg_name (i := 8) sc_L_true_in.nd rfl (by first | exact Or.inl rfl | exact Or.inr rfl))
          (pss_cons (ps_set (i := 9) sc_L_true_in.nd rfl (by first | exact Or.inl rfl | exact Or.inr rfl) (pe_op op_sub (pv 8) (pe_op op_mul (pe_op op_mod (pe_op op_fdiv (pv 8) (pv 6)) pe_int) (pv 6))))
          (pss_cons (ps_asg (pe_and (pe_ix ix_list (pv 7) (pv 9) (fun _ _ => rfl)) (pe_one (pe_ix ix_list (pv 7) (pe_op op_add (pv 9) (pv 6)) (fun _ _ => rfl)))) (pg_sub (pv 5) (pv 8) set_list))
          (pss_one (ps_if (pt_cmpR op_eq (pe_ix ix_tup (pv 4) pe_int (fun _ _ => rfl)) pe_str (nomark _))
            (pss_one (ps_asg (pe_or (pe_ix ix_list (pv 7) (pv 9) (fun _ _ => rfl)) (pe_one (pe_ix ix_list (pv 7) (pe_op op_add (pv 9) (pv 6)) (fun _ _ => rfl)))) (pg_sub (pv 5) (pv 8) set_list)))
            pss_nil)))))))
        pss_nil)
      (pss_cons (ps_if (pt_cmpR op_in_seq (pe_ix ix_tup (pv 4) pe_int (fun _ _ => rfl)) (pe_lst (pa_cons pe_str (pa_cons pe_str pa_nil))) (by with_unfolding_all rfl))
        (pss_cons (ps_set (i := 7) sc_L_true_in.nd rfl (by first | exact Or.inl rfl | exact Or.inr rfl) (pe_bm0 PySem.F.plainAttrs_list PySem.F.slot_list_pop PySem.F.type_list_pop mt_pop (pv 3)))
        (pss_cons (ps_set (i := 10) sc_L_true_in.nd rfl (by first | exact Or.inl rfl | exact Or.inr rfl) (pe_bm0 PySem.F.plainAttrs_list PySem.F.slot_list_pop PySem.F.type_list_pop mt_pop (pv 3)))
        (pss_cons (ps_setC (i := 5) sc_L_true_in.nd rfl (by first | exact Or.inl rfl | exact Or.inr rfl) rfl (pi_range1 (by rfl) BT.n_range (pa_cons (pv 2) pa_nil)) (csc_of (M := ["_law_statement", "_law_many", "_law_size", "_law_pile", "_law_part", "_law_row", "_law_step", "_law_one", "-", "_law_low", "_law_two"]) rfl (by decide +kernel) (by decide +kernel)) (fun _ _ _ _ => pts_nil) (fun _ _ _ _ => (pe_and (pe_ix (ix_listK (K := K) rfl) (pv 8) (pv 0) (fun _ _ => rfl)) (pe_one (pe_ix (ix_listK (K := K) rfl) (pv 11) (pv 0) (fun _ _ => rfl))))) (by rfl))
        (pss_one (ps_if (pt_cmpR op_eq (pe_ix ix_tup (pv 4) pe_int (fun _ _ => rfl)) pe_str (nomark _))
          (pss_one (ps_setC (i := 5) sc_L_true_in.nd rfl (by first | exact Or.inl rfl | exact Or.inr rfl) rfl (pi_range1 (by rfl) BT.n_range (pa_cons (pv 2) pa_nil)) (csc_of (M := ["_law_statement", "_law_many", "_law_size", "_law_pile", "_law_part", "_law_row", "_law_step", "_law_one", "-", "_law_low", "_law_two"]) rfl (by decide +kernel) (by decide +kernel)) (fun _ _ _ _ => pts_nil) (fun _ _ _ _ => (pe_or (pe_ix (ix_listK (K := K) rfl) (pv 8) (pv 0) (fun _ _ => rfl)) (pe_one (pe_ix (ix_listK (K := K) rfl) (pv 11) (pv 0) (fun _ _ => rfl))))) (by rfl)))
          pss_nil)))))
        pss_nil)
      (pss_one (ps_expr (pe_bm PySem.F.plainAttrs_list PySem.F.slot_list_append PySem.F.type_list_append mt_append (pv 3) (pa_cons (pv 5) pa_nil))))))))))))
    (pss_one (ps_ret (pe_ix ix_list (pv 3) pe_int (fun _ _ => rfl))))))), ?_⟩
    simp only [rdA, rd_forT, rd_forV, rd_rep, rd_gsub, rd_setL, rd_forL, rd_forR, rd_compT, rd_compL, rd_compR, rd_tyes, rd_seq, rd_if, rd_kget, rd_kin, rd_fldP, rd_make, rd_slS, cx_w, cx_w2]
    intro p0 hp0
    have s0 := Same.new (o := HO.lst [V.int 1, V.int 2, V.int 4, V.int 8, V.int 16]) hp0
    refine ⟨_, SqL.of upd_same, _, pa_at hm, fun lp hlp => ?_⟩
    have s1 := Same.new (o := HO.lst []) hlp
    refine ⟨v, a, rfl, ha.to (s0.trans s1).tk, hsz, fun lq xs H1 hlq s2 hxs hsts => ⟨lq, rfl, xs, SqL.of hxs, ?_⟩⟩
    have hB := back_all a
    have hxl : xs.length = (pre a).length := Paired.length hsts
    refine for_rev (K := K) (a := lq) (xs := xs) (TrInv m H v lp lq xs a) ⟨[], [], none, none, none, none, none, none, none, rfl, ⟨(s0.trans s1).trans s2, s0.free hlp, s2 _ _ upd_same, hxs, (ne_of_none upd_same hlq).symm, hsts, .nil⟩, by simpa using Back.nil⟩ (fun i σ H2 _ h => by obtain ⟨_, _, _, _, _, _, _, _, _, _, t, _⟩ := h; exact SqL.of t.hq) ?_ ?_
    · clear s0 s1 s2 hxs hsts hlq hlp hp0 q ha
      rintro i y σ H2 hi ⟨ys, ds, o4, o5, o6, o7, o8, o9, o10, rfl, T, hbk⟩
      obtain ⟨b, hb, hyb⟩ := Sts.get (rev_pr T.hst) hi
      obtain ⟨es, w1, w2⟩ := back_at hB hb
      cases back_one hbk w1
      have hle := back_len w2
      have hle2 : es.length < 1000 := by
        rw [List.length_take, List.length_reverse, pre_len, List.length_append, List.length_singleton] at hle; omega
      obtain ⟨p1, cs, rfl, hp1, sh⟩ := st_get hyb
      have shh := sh_head sh
      have hbok : b.ok (m : Nat) := ok_pre hok b (by have := List.mem_of_getElem? hb; simpa using this)
      clear hyb hbk w1 hle hb hi hok hB hxl
      obtain ⟨rest, rfl, har⟩ := shh
      simp only [rd_name, List.set_cons_succ, List.set_cons_zero]
      refine seq_as fun R1 hR1 => ?_
      simp only [rdA, rd_rep, rd_forL, rd_forR, rd_compT, rd_compL, rd_compR, rd_tyes, rd_seq, rd_if, rd_kget, rd_kin, rd_fldP, rd_make, rd_slS, cx_w, cx_w2]
      refine ⟨_, SqT.of hp1, _, atI0 _ _, ?_⟩
      simp only [rdA, rd_rep, rd_forL, rd_forR, rd_compT, rd_compL, rd_compR, rd_tyes, rd_seq, rd_if, rd_kget, rd_kin, rd_fldP, rd_make, rd_slS, cx_w, cx_w2]
      intro r0 hr0
      refine ⟨_, upd_same, by omega, by omega, (by rw [Int.toNat_natCast]; exact Nat.le_of_lt (small1000 (by simp only [List.length_singleton]; omega))), fun q hq0 => ?_⟩
      rw [Int.toNat_natCast]
      have z0 := Same.new (o := HO.lst [V.bl (decide (word b = Str.ofString "yes"))]) hr0
      have S : Tq m H lp lq xs a p1 (.str (word b) :: rest) b es false q ys (upd (upd H2 r0 (HO.lst [V.bl (decide (word b = Str.ofString "yes"))])) q (HO.lst (List.replicate (2 ^ m) [V.bl (decide (word b = Str.ofString "yes"))]).flatten)) :=
        ⟨by simpa using (T.same z0).same (Same.new hq0), Same.new hq0 _ _ (z0 _ _ hp1), by rw [upd_same]; simp [List.flatten_replicate_singleton], (T.same z0).off hq0⟩
      generalize upd (upd H2 r0 (HO.lst [V.bl (decide (word b = Str.ofString "yes"))])) q (HO.lst (List.replicate (2 ^ m) [V.bl (decide (word b = Str.ofString "yes"))]).flatten) = H3 at S ⊢
      clear hr0 hq0 z0 T hp1
      subst hR1
      refine seq_as fun R1 hR1 => ?_
      simp only [rdA, rd_forL, rd_forR, rd_compT, rd_compL, rd_compR, rd_tyes, rd_seq, rd_if, rd_kget, rd_kin, rd_fldP, rd_make, rd_slS, cx_w, cx_w2]
      subst hR1
      refine seq_as fun R1 hR1 => ?_
      have g0 : ∀ st H3, Tq m H lp lq xs a p1 (.str (word b) :: rest) b es false q ys H3 → (∀ n, swOf b = some n → st = .int ((stp m n.toNat : Nat) : Int)) → R1 [some v, some (.int (m : Nat)), some (.int ((2 ^ m : Nat) : Int)), some (.ref lp), some (.ref p1), some (.ref q), some st, o7, o8, o9, o10] H3 := by
        clear S
        intro st H2 S hst
        subst hR1
        refine seq_as fun R1 hR1 => ?_
        have g1 : ∀ q zs H3 o7, Tq m H lp lq xs a p1 (.str (word b) :: rest) b es (kSw b) q zs H3 → R1 [some v, some (.int (m : Nat)), some (.int ((2 ^ m : Nat) : Int)), some (.ref lp), some (.ref p1), some (.ref q), some st, o7, o8, o9, o10] H3 := by
          clear S o7
          intro q zs H2 o7 S
          subst hR1
          refine seq_as fun R1 hR1 => ?_
          have g2 : ∀ q zs H3 o7, Tq m H lp lq xs a p1 (.str (word b) :: rest) b es (kSw b || kNt b) q zs H3 → R1 [some v, some (.int (m : Nat)), some (.int ((2 ^ m : Nat) : Int)), some (.ref lp), some (.ref p1), some (.ref q), some st, o7, o8, o9, o10] H3 := by
            clear S o7
            intro q zs H2 o7 S
            subst hR1
            refine seq_as fun R1 hR1 => ?_
            have g3 : ∀ q zs H3 o7 o8 o9, Tq m H lp lq xs a p1 (.str (word b) :: rest) b es (kSw b || kNt b || kQu b) q zs H3 → R1 [some v, some (.int (m : Nat)), some (.int ((2 ^ m : Nat) : Int)), some (.ref lp), some (.ref p1), some (.ref q), some st, o7, o8, o9, o10] H3 := by
              clear S o7 o8 o9
              intro q zs H2 o7 o8 o9 S
              subst hR1
              refine seq_as fun R1 hR1 => ?_
              have g4 : ∀ q zs H3 o7 o10, Tq m H lp lq xs a p1 (.str (word b) :: rest) b es (kSw b || kNt b || kQu b || kTw b) q zs H3 → R1 [some v, some (.int (m : Nat)), some (.int ((2 ^ m : Nat) : Int)), some (.ref lp), some (.ref p1), some (.ref q), some st, o7, o8, o9, o10] H3 := by
                clear S o7 o10
                intro q zs H2 o7 o10 S
                subst hR1
                obtain ⟨T, hrow⟩ := S.fin
                simp only [rdA, rd_forL, rd_forR, rd_compT, rd_compL, rd_compR, rd_tyes, rd_seq, rd_if, rd_kget, rd_kin, rd_fldP, rd_make, rd_slS, cx_w, cx_w2]
                have hl : zs.length = es.length := Paired.length T.hr
                exact ⟨⟨_, SqL.of T.hp⟩, _, T.hp, small1000 (by omega), T.push hrow S.own.q1 S.own.q2 w2⟩
              refine if_as fun A B hA hB => ?_
              simp only [rdA, rd_forL, rd_forR, rd_compT, rd_compL, rd_compR, rd_tyes, rd_kget, rd_kin, rd_fldP, rd_make, rd_slS, cx_w, cx_w2]
              refine ⟨_, SqT.of S.hp1, _, atI0 _ _, fun cq hcq => ⟨_, .inl (SqL.of upd_same), rfl, rfl, ?_⟩⟩
              replace S := S.same (Same.new (o := HO.lst [sv "and", sv "or"]) hcq)
              rw [show [V.str (Str.ofString "and"), V.str (Str.ofString "or")] = [sv "and", sv "or"] from rfl, t_tw]
              generalize upd H2 cq (HO.lst [sv "and", sv "or"]) = H3 at S ⊢
              clear hcq
              refine ite2 (fun h => ?_) (fun h => by subst hB; simp only [rdA, rd_forL, rd_forR, rd_compT, rd_compL, rd_compR, rd_tyes, rd_kget, rd_kin, rd_fldP, rd_make, rd_slS, cx_w, cx_w2]; exact g4 _ _ _ _ _ (S.no h))
              subst hA
              clear hB
              refine seq_as fun R2 hR2 => ?_
              simp only [rdA, rd_forL, rd_forR, rd_compT, rd_compL, rd_compR, rd_tyes, rd_kget, rd_kin, rd_fldP, rd_make, rd_slS, cx_w, cx_w2]
              obtain ⟨h1, h2, h3, c, d, hk, htr⟩ := of_tw h
              obtain ⟨T, _⟩ := S.op (by rw [h1, h2, h3]; rfl)
              have hp1 := S.hp1
              rw [hk, show [c, d].reverse = [d] ++ [c] from rfl, ← List.append_assoc] at T
              clear S hk h1 h2 h3
              obtain ⟨zs, o, rfl, ho, no, T2⟩ := T.pop
              refine ⟨⟨_, SqL.of T.hp⟩, _, T.hp, _, last_of zs _, ?_⟩
              rw [drop_of]
              replace hp1 := tup_upd (o := HO.lst zs) hp1 T.hp
              replace ho : upd H3 lp (HO.lst zs) o = _ := (upd_ne no).trans ho
              clear T
              generalize upd H3 lp (HO.lst zs) = H4 at hp1 ho T2 ⊢
              subst hR2
              refine seq_as fun R2 hR2 => ?_
              simp only [rdA, rd_forL, rd_forR, rd_compT, rd_compL, rd_compR, rd_tyes, rd_kget, rd_kin, rd_fldP, rd_make, rd_slS, cx_w, cx_w2]
              obtain ⟨zs, o2, rfl, ho2, no2, T⟩ := T2.pop
              refine ⟨⟨_, SqL.of T2.hp⟩, _, T2.hp, _, last_of zs _, ?_⟩
              rw [drop_of]
              replace hp1 := tup_upd (o := HO.lst zs) hp1 T2.hp
              replace ho : upd H4 lp (HO.lst zs) o = _ := (upd_ne no).trans ho
              replace ho2 : upd H4 lp (HO.lst zs) o2 = _ := (upd_ne no2).trans ho2
              clear T2
              generalize upd H4 lp (HO.lst zs) = H5 at hp1 ho ho2 T ⊢
              subst hR2
              refine seq_as fun R2 hR2 => ?_
              simp only [rdA, rd_forL, rd_forR, rd_compT, rd_compL, rd_compR, rd_tyes, rd_kget, rd_kin, rd_fldP, rd_make, rd_slS, cx_w, cx_w2]
              refine ⟨by omega, by omega, fun D hD => ?_⟩
              rw [Int.toNat_natCast]
              refine comp_bools (by omega) hD (fun k => tr c (rowS m k) && tr d (rowS m k)) (fun i2 H9 R hi2 z hR => ?_) (fun H9 z hD9 => ?_)
              · simp only [rdA, rd_forL, rd_forR, rd_compT, rd_compL, rd_compR, rd_tyes, rd_seq, rd_if, rd_kget, rd_kin, rd_fldP, rd_make, rd_slS, cx_w, cx_w2]
                refine ⟨_, SqL.of (z _ _ ho), _, tab_atI hi2, ?_⟩
                refine ⟨_, rfl, ite2 (fun e => ⟨_, SqL.of (z _ _ ho2), _, tab_atI hi2, ?_⟩) (fun e => ?_)⟩ <;> simpa [e] using hR
              have own := T.off hD
              replace T := T.same z
              replace hp1 := z _ _ hp1
              replace ho := z _ _ ho
              replace ho2 := z _ _ ho2
              clear z hD
              subst hR2
              refine if_as fun A B hA hB => ?_
              simp only [rdA, rd_forL, rd_forR, rd_compT, rd_compL, rd_compR, rd_tyes, rd_kget, rd_kin, rd_fldP, rd_make, rd_slS, cx_w, cx_w2]
              refine ⟨_, SqT.of hp1, _, atI0 _ _, ?_⟩
              simp only [rdA, rd_forL, rd_forR, rd_compT, rd_compL, rd_compR, rd_tyes, rd_kget, rd_kin, rd_fldP, rd_make, rd_slS, cx_w, cx_w2]
              rw [t_og]
              refine ite2 (fun hg => ?_) (fun hg => by subst hB; simp only [rdA, rd_forL, rd_forR, rd_compT, rd_compL, rd_compR, rd_tyes, rd_kget, rd_kin, rd_fldP, rd_make, rd_slS, cx_w, cx_w2]; exact g4 _ _ _ _ _ (Tq.did T hp1 (by rw [hD9]; simp only [tab, htr, if_neg hg]) own (by rw [h, Bool.or_true])))
              subst hA
              clear hB
              simp only [rdA, rd_forL, rd_forR, rd_compT, rd_compL, rd_compR, rd_tyes, rd_kget, rd_kin, rd_fldP, rd_make, rd_slS, cx_w, cx_w2]
              refine ⟨by omega, by omega, fun D2 hD2 => ?_⟩
              rw [Int.toNat_natCast]
              refine comp_bools (by omega) hD2 (fun k => tr c (rowS m k) || tr d (rowS m k)) (fun i2 H10 R hi2 z hR => ?_) (fun H10 z hD10 => ?_)
              · simp only [rdA, rd_forL, rd_forR, rd_compT, rd_compL, rd_compR, rd_tyes, rd_seq, rd_if, rd_kget, rd_kin, rd_fldP, rd_make, rd_slS, cx_w, cx_w2]
                refine ⟨_, SqL.of (z _ _ ho), _, tab_atI hi2, ?_⟩
                refine ⟨_, rfl, ite2 (fun e => ?_) (fun e => ⟨_, SqL.of (z _ _ ho2), _, tab_atI hi2, ?_⟩)⟩ <;> simpa [e] using hR
              exact g4 _ _ _ _ _ (Tq.did (T.same z) (z _ _ hp1) (by rw [hD10]; simp only [tab, htr, if_pos hg]) (T.off hD2) (by rw [h, Bool.or_true]))
            refine if_as fun A B hA hB => ?_
            simp only [rdA, rd_forL, rd_forR, rd_compT, rd_compL, rd_compR, rd_tyes, rd_kget, rd_kin, rd_fldP, rd_make, rd_slS, cx_w, cx_w2]
            refine ⟨_, SqT.of S.hp1, _, atI0 _ _, fun cq hcq => ⟨_, .inl (SqL.of upd_same), rfl, rfl, ?_⟩⟩
            replace S := S.same (Same.new (o := HO.lst [sv "all", sv "some"]) hcq)
            rw [show [V.str (Str.ofString "all"), V.str (Str.ofString "some")] = [sv "all", sv "some"] from rfl, t_qu]
            generalize upd H2 cq (HO.lst [sv "all", sv "some"]) = H3 at S ⊢
            clear hcq
            refine ite2 (fun h => ?_) (fun h => by subst hB; simp only [rdA, rd_forL, rd_forR, rd_compT, rd_compL, rd_compR, rd_tyes, rd_kget, rd_kin, rd_fldP, rd_make, rd_slS, cx_w, cx_w2]; exact g3 _ _ _ _ _ _ (S.no h))
            subst hA
            clear hB
            refine seq_as fun R2 hR2 => ?_
            simp only [rdA, rd_forL, rd_forR, rd_compT, rd_compL, rd_compR, rd_tyes, rd_kget, rd_kin, rd_fldP, rd_make, rd_slS, cx_w, cx_w2]
            obtain ⟨h1, h2, n, c, hsw, hk, htr⟩ := of_qu h
            obtain ⟨n', hsw', n0, n1, _⟩ := of_th (b := b) (by rw [h, Bool.or_true]) hbok
            rw [hsw] at hsw'
            cases hsw'
            cases hst n hsw
            obtain ⟨j, rfl⟩ := Int.eq_ofNat_of_zero_le n0
            rw [Int.toNat_natCast] at *
            have hj : j < m := by omega
            obtain ⟨T, hrow⟩ := S.op (by rw [h1, h2]; rfl)
            have hp1 := S.hp1
            obtain ⟨q1, q2, q3, q4⟩ := S.own
            rw [hk, List.reverse_singleton] at T
            clear S hk h1 h2 hsw hst
            obtain ⟨zs, o, rfl, ho, no, T2⟩ := T.pop
            refine ⟨⟨_, SqL.of T.hp⟩, _, T.hp, _, last_of zs _, ?_⟩
            rw [drop_of]
            replace hp1 := tup_upd (o := HO.lst zs) hp1 T.hp
            replace hrow : upd H3 lp (HO.lst zs) q = _ := (upd_ne q2).trans hrow
            replace ho : upd H3 lp (HO.lst zs) o = _ := (upd_ne no).trans ho
            have oq : o ≠ q := fun e => q4 (.ref o) (by simp) (by rw [e])
            replace q4 : ∀ u ∈ zs, u ≠ .ref q := fun u hu => q4 u (List.mem_append_left _ hu)
            clear T
            generalize upd H3 lp (HO.lst zs) = H4 at hp1 hrow ho T2 ⊢
            subst hR2
            simp only [rdA, rd_forL, rd_forR, rd_compT, rd_compL, rd_compR, rd_tyes, rd_kget, rd_kin, rd_fldP, rd_make, rd_slS, cx_w, cx_w2]
            refine ⟨by omega, by omega, ?_⟩
            rw [Int.toNat_natCast]
            have hst : stp m j ≤ 32 := Nat.le_trans (Nat.div_le_self _ _) h32
            obtain ⟨_, _, j3, _, _⟩ := pw_at hm hj
            refine for_range (QuInv m H v lp lq q o xs a p1 (.str (word b) :: rest) b c zs es (.int ((stp m j : Nat) : Int)) o10) ⟨_, _, _, rfl, T2, hp1, ho, hrow, by simp, fun _ h => absurd h (Nat.not_lt_zero _)⟩ ?_ ?_
            · clear T2 hp1 ho hrow g3
              rintro i2 σ H9 hi2 ⟨o8, o9, rw, rfl, T, hp1, ho, hrow, hl, hk⟩
              obtain ⟨l1, l2, l3⟩ := low_at (m := m) (Nat.le_trans hm (by decide)) hj hi2
              have l0 : lowK m j i2 < 2 ^ m := by omega
              have ix : ∀ rw' : List V, rw'.length = 2 ^ m → ixN rw'.length ((i2 : Nat) : Int) = some i2 := fun _ h => ixN_nat (by rw [h]; exact hi2)
              simp only [rd_name, List.set_cons_succ, List.set_cons_zero]
              refine seq_as fun R2 hR2 => ?_
              simp only [rdA, rd_forL, rd_forR, rd_compT, rd_compL, rd_compR, rd_tyes, rd_seq, rd_if, rd_kget, rd_kin, rd_fldP, rd_make, rd_slS, cx_w, cx_w2]
              refine ⟨by omega, by omega, ?_, ?_⟩
              · have := Int.emod_nonneg (((i2 : Nat) : Int) / ((stp m j : Nat) : Int)) (show (2 : Int) ≠ 0 by decide); have := Int.emod_lt_of_pos (((i2 : Nat) : Int) / ((stp m j : Nat) : Int)) (show (0 : Int) < 2 by decide); unfold CMul; omega
              rw [low_int]
              subst hR2
              refine seq_as fun R2 hR2 => ?_
              simp only [rdA, rd_gsub, rd_setL, rd_forL, rd_forR, rd_compT, rd_compL, rd_compR, rd_tyes, rd_seq, rd_if, rd_kget, rd_kin, rd_fldP, rd_make, rd_slS, cx_w, cx_w2]
              rw [show ((lowK m j i2 : Nat) : Int) + ((stp m j : Nat) : Int) = ((lowK m j i2 + stp m j : Nat) : Int) from (Int.natCast_add _ _).symm]
              have fin : ∀ (rw' : List V) (ww : Bool) (H5 : Hp), rw'.length = 2 ^ m → (∀ k, k < i2 → rw'[k]? = rw[k]?) → ww = tr b (rowS m i2) → Tb m H lp lq xs a zs es H5 → H5 p1 = some (.tup (.str (word b) :: rest)) → H5 o = some (.lst ((tab m c).map V.bl)) → H5 q = some (.lst rw') → rw'[i2]? = some (.bl ww) → QuInv m H v lp lq q o xs a p1 (.str (word b) :: rest) b c zs es (.int ((stp m j : Nat) : Int)) o10 (i2 + 1) [some v, some (.int (m : Nat)), some (.int ((2 ^ m : Nat) : Int)), some (.ref lp), some (.ref p1), some (.ref q), some (.int ((stp m j : Nat) : Int)), some (.ref o), some (.int ((i2 : Nat) : Int)), some (.int ((lowK m j i2 : Nat) : Int)), o10] H5 := by
                intro rw' ww H5 e1 e2 e3 T5 e4 e5 e6 e7
                refine ⟨_, _, _, rfl, T5, e4, e5, e6, e1, fun k hk2 => ?_⟩
                by_cases ek : k = i2
                · rw [ek, e7, e3]
                · rw [e2 k (by omega)]; exact hk k (by omega)
              have key : ∀ vv : Bool, vv = (tr c (rowS m (lowK m j i2)) && tr c (rowS m (lowK m j i2 + stp m j))) → R2 [some v, some (.int (m : Nat)), some (.int ((2 ^ m : Nat) : Int)), some (.ref lp), some (.ref p1), some (.ref q), some (.int ((stp m j : Nat) : Int)), some (.ref o), some (.int ((i2 : Nat) : Int)), some (.int ((lowK m j i2 : Nat) : Int)), o10] (upd H9 q (.lst (rw.set i2 (.bl vv)))) := by
                intro vv hv
                have hp2 := tup_upd (o := HO.lst (rw.set i2 (.bl vv))) hp1 hrow
                have ho2 : upd H9 q (HO.lst (rw.set i2 (.bl vv))) o = _ := (upd_ne oq).trans ho
                have T2 := T.set (zs' := rw.set i2 (.bl vv)) hrow q1 q2 q3 q4
                have hrow2 := @upd_same H9 q (HO.lst (rw.set i2 (.bl vv)))
                clear hp1 ho T hrow
                generalize upd H9 q (HO.lst (rw.set i2 (.bl vv))) = H10 at hp2 ho2 T2 hrow2 ⊢
                subst hR2
                simp only [rdA, rd_gsub, rd_setL, rd_forL, rd_forR, rd_compT, rd_compL, rd_compR, rd_tyes, rd_seq, rd_if, rd_kget, rd_kin, rd_fldP, rd_make, rd_slS, cx_w, cx_w2]
                refine ⟨_, SqT.of hp2, _, atI0 _ _, ?_⟩
                simp only [rdA, rd_gsub, rd_setL, rd_forL, rd_forR, rd_compT, rd_compL, rd_compR, rd_tyes, rd_seq, rd_if, rd_kget, rd_kin, rd_fldP, rd_make, rd_slS, cx_w, cx_w2]
                rw [t_sm, show ((lowK m j i2 : Nat) : Int) + ((stp m j : Nat) : Int) = ((lowK m j i2 + stp m j : Nat) : Int) from (Int.natCast_add _ _).symm]
                refine ite2 (fun hs => ?_) (fun hs => fin _ vv _ (by rw [List.length_set]; exact hl) (fun k hk2 => List.getElem?_set_ne (by omega)) (by rw [hv, htr, if_neg hs, l1, l2]) T2 hp2 ho2 hrow2 (List.getElem?_set_self (by omega)))
                have key2 : ∀ ww : Bool, ww = (tr c (rowS m (lowK m j i2)) || tr c (rowS m (lowK m j i2 + stp m j))) → QuInv m H v lp lq q o xs a p1 (.str (word b) :: rest) b c zs es (.int ((stp m j : Nat) : Int)) o10 (i2 + 1) [some v, some (.int (m : Nat)), some (.int ((2 ^ m : Nat) : Int)), some (.ref lp), some (.ref p1), some (.ref q), some (.int ((stp m j : Nat) : Int)), some (.ref o), some (.int ((i2 : Nat) : Int)), some (.int ((lowK m j i2 : Nat) : Int)), o10] (upd H10 q (.lst ((rw.set i2 (.bl vv)).set i2 (.bl ww)))) := by
                  intro ww hw
                  exact fin _ ww _ (by rw [List.length_set, List.length_set]; exact hl) (fun k hk2 => by rw [List.getElem?_set_ne (by omega), List.getElem?_set_ne (by omega)]) (by rw [hw, htr, if_pos hs, l1, l2]) (T2.set hrow2 q1 q2 q3 q4) (tup_upd hp2 hrow2) ((upd_ne oq).trans ho2) upd_same (List.getElem?_set_self (by rw [List.length_set]; omega))
                have hl2 : (rw.set i2 (.bl vv)).length = 2 ^ m := by rw [List.length_set]; exact hl
                exact ⟨_, SqL.of ho2, _, tab_atI l0, _, rfl, ite2 (fun e => ⟨_, hrow2, i2, ix _ hl2, key2 _ (by simp [e])⟩) (fun e => ⟨_, SqL.of ho2, _, tab_atI l3, _, hrow2, i2, ix _ hl2, key2 _ (by simp [e])⟩)⟩
              exact ⟨_, SqL.of ho, _, tab_atI l0, _, rfl, ite2 (fun e => ⟨_, SqL.of ho, _, tab_atI l3, _, hrow, i2, ix _ hl, key _ (by simp [e])⟩) (fun e => ⟨_, hrow, i2, ix _ hl, key _ (by simp [e])⟩)⟩
            · rintro σ H9 ⟨o8, o9, rw, rfl, T, hp1, ho, hrow, hl, hk⟩
              cases tab_ext hl hk
              exact g3 _ _ _ _ _ _ (Tq.did T hp1 hrow ⟨q1, q2, q3, q4⟩ (by rw [h, Bool.or_true]))
          refine if_as fun A B hA hB => ?_
          simp only [rdA, rd_forL, rd_forR, rd_compT, rd_compL, rd_compR, rd_tyes, rd_kget, rd_kin, rd_fldP, rd_make, rd_slS, cx_w, cx_w2]
          refine ⟨_, SqT.of S.hp1, _, atI0 _ _, ?_⟩
          simp only [rdA, rd_forL, rd_forR, rd_compT, rd_compL, rd_compR, rd_tyes, rd_kget, rd_kin, rd_fldP, rd_make, rd_slS, cx_w, cx_w2]
          rw [t_nt]
          refine ite2 (fun h => ?_) (fun h => by subst hB; simp only [rdA, rd_forL, rd_forR, rd_compT, rd_compL, rd_compR, rd_tyes, rd_kget, rd_kin, rd_fldP, rd_make, rd_slS, cx_w, cx_w2]; exact g2 _ _ _ _ (S.no h))
          subst hA
          clear hB
          refine seq_as fun R2 hR2 => ?_
          simp only [rdA, rd_forL, rd_forR, rd_compT, rd_compL, rd_compR, rd_tyes, rd_kget, rd_kin, rd_fldP, rd_make, rd_slS, cx_w, cx_w2]
          obtain ⟨c, rfl⟩ := of_nt h
          obtain ⟨T, _⟩ := S.op rfl
          have hp1 := S.hp1
          rw [show (kids (.nt c)).reverse = [c] from rfl] at T
          clear S h
          obtain ⟨zs, o, rfl, ho, no, T2⟩ := T.pop
          refine ⟨⟨_, SqL.of T.hp⟩, _, T.hp, _, last_of zs _, ?_⟩
          rw [drop_of]
          replace hp1 := tup_upd (o := HO.lst zs) hp1 T.hp
          replace ho : upd H2 lp (HO.lst zs) o = _ := (upd_ne no).trans ho
          clear T
          generalize upd H2 lp (HO.lst zs) = H4 at hp1 ho T2 ⊢
          subst hR2
          simp only [rdA, rd_forL, rd_forR, rd_compT, rd_compL, rd_compR, rd_tyes, rd_kget, rd_kin, rd_fldP, rd_make, rd_slS, cx_w, cx_w2]
          refine ⟨by omega, by omega, fun D hD => ?_⟩
          rw [Int.toNat_natCast]
          refine comp_bools (by omega) hD (fun k => tr (.nt c) (rowS m k)) (fun i2 H8 R hi2 z hR => ?_) (fun H8 z hD8 => ?_)
          · simp only [rdA, rd_forL, rd_forR, rd_compT, rd_compL, rd_compR, rd_tyes, rd_seq, rd_if, rd_kget, rd_kin, rd_fldP, rd_make, rd_slS, cx_w, cx_w2]
            refine ⟨_, SqL.of (z _ _ ho), _, tab_atI hi2, ?_⟩
            simp only [rdA, rd_forL, rd_forR, rd_compT, rd_compL, rd_compR, rd_tyes, rd_seq, rd_if, rd_kget, rd_kin, rd_fldP, rd_make, rd_slS, cx_w, cx_w2]
            exact hR
          exact g2 _ _ _ _ (Tq.did (T2.same z) (z _ _ hp1) hD8 (T2.off hD) rfl)
        refine if_as fun A B hA hB => ?_
        simp only [rdA, rd_forL, rd_forR, rd_compT, rd_compL, rd_compR, rd_tyes, rd_kget, rd_kin, rd_fldP, rd_make, rd_slS, cx_w, cx_w2]
        refine ⟨_, SqT.of S.hp1, _, atI0 _ _, ?_⟩
        simp only [rdA, rd_forL, rd_forR, rd_compT, rd_compL, rd_compR, rd_tyes, rd_kget, rd_kin, rd_fldP, rd_make, rd_slS, cx_w, cx_w2]
        rw [t_sw]
        refine ite2 (fun h => ?_) (fun h => by subst hB; simp only [rdA, rd_forL, rd_forR, rd_compT, rd_compL, rd_compR, rd_tyes, rd_kget, rd_kin, rd_fldP, rd_make, rd_slS, cx_w, cx_w2]; exact g1 _ _ _ _ (by have := S.no h; rwa [Bool.false_or] at this))
        subst hA
        clear hB
        simp only [rdA, rd_forL, rd_forR, rd_compT, rd_compL, rd_compR, rd_tyes, rd_kget, rd_kin, rd_fldP, rd_make, rd_slS, cx_w, cx_w2]
        obtain ⟨n, rfl⟩ := of_sw h
        cases hst n rfl
        obtain ⟨T, _⟩ := S.op rfl
        have hp1 := S.hp1
        rw [show (kids (.sw n)).reverse = [] from rfl, List.append_nil] at T
        refine ⟨by omega, by omega, fun D hD => ?_⟩
        rw [Int.toNat_natCast]
        refine comp_bools (by omega) hD (fun k => tr (.sw n) (rowS m k)) (fun i2 H8 R hi2 z hR => ?_) (fun H8 z hD8 => ?_)
        · simp only [rdA, rd_forL, rd_forR, rd_compT, rd_compL, rd_compR, rd_tyes, rd_seq, rd_if, rd_kget, rd_kin, rd_fldP, rd_make, rd_slS, cx_w, cx_w2]
          obtain ⟨_, _, j3, _, _⟩ := pw_at (m := m) (j := n.toNat) hm (by have := hbok.1; have := hbok.2; omega)
          have : stp m n.toNat ≤ 32 := Nat.le_trans (Nat.div_le_self _ _) h32
          refine ⟨by omega, by omega, ?_⟩
          rw [sw_bit hbok.1 hbok.2]; exact hR
        exact g1 _ _ _ _ (Tq.did (T.same z) (z _ _ hp1) hD8 (T.off hD) rfl)
      refine if_as fun A B hA hB => ?_
      simp only [rdA, rd_forL, rd_forR, rd_compT, rd_compL, rd_compR, rd_tyes, rd_kget, rd_kin, rd_fldP, rd_make, rd_slS, cx_w, cx_w2]
      refine ⟨_, SqT.of S.hp1, _, atI0 _ _, fun cq hcq => ⟨_, .inl (SqL.of upd_same), rfl, rfl, ?_⟩⟩
      replace S := S.same (Same.new (o := HO.lst [sv "switch", sv "all", sv "some"]) hcq)
      rw [show [V.str (Str.ofString "switch"), V.str (Str.ofString "all"), V.str (Str.ofString "some")] = [sv "switch", sv "all", sv "some"] from rfl, t_th]
      generalize upd H3 cq (HO.lst [sv "switch", sv "all", sv "some"]) = H4 at S ⊢
      clear hcq
      refine ite2 (fun h => ?_) (fun h => by subst hB; simp only [rdA, rd_forL, rd_forR, rd_compT, rd_compL, rd_compR, rd_tyes, rd_kget, rd_kin, rd_fldP, rd_make, rd_slS, cx_w, cx_w2]; exact g0 _ _ S fun n e => absurd (by cases b <;> first | rfl | cases e) h)
      subst hA
      clear hB
      simp only [rdA, rd_forL, rd_forR, rd_compT, rd_compL, rd_compR, rd_tyes, rd_kget, rd_kin, rd_fldP, rd_make, rd_slS, cx_w, cx_w2]
      obtain ⟨n, hsw, n0, n1, hsh⟩ := of_th h hbok
      obtain ⟨r, e⟩ := hsh _ _ sh
      cases e
      intro cq hcq
      replace S := S.same (Same.new (o := HO.lst [V.int 2, V.int 4, V.int 8, V.int 16]) hcq)
      have hc2 := @upd_same H4 cq (HO.lst [V.int 2, V.int 4, V.int 8, V.int 16])
      generalize upd H4 cq (HO.lst [V.int 2, V.int 4, V.int 8, V.int 16]) = H5 at S hc2 ⊢
      clear hcq
      refine ⟨_, SqT.of S.hp1, _, atI1 _ _ _, ?_⟩
      simp only [rdA, rd_forL, rd_forR, rd_compT, rd_compL, rd_compR, rd_tyes, rd_seq, rd_if, rd_kget, rd_kin, rd_fldP, rd_make, rd_slS, cx_w, cx_w2]
      obtain ⟨j1, j2, j3, j4, j5⟩ := pw_at (m := m) (j := n.toNat) hm (by omega)
      rw [Int.toNat_of_nonneg n0] at j1
      refine ⟨_, SqL.of hc2, _, j1, ?_⟩
      simp only [rdA, rd_forL, rd_forR, rd_compT, rd_compL, rd_compR, rd_tyes, rd_seq, rd_if, rd_kget, rd_kin, rd_fldP, rd_make, rd_slS, cx_w, cx_w2]
      rw [j2]
      exact ⟨by omega, by omega, g0 _ _ S fun n' e => by rw [hsw] at e; cases e; rfl⟩
    · rintro σ H9 ⟨ys, ds, o4, o5, o6, o7, o8, o9, o10, rfl, T, hbk⟩
      rw [hxl, ← List.length_reverse, List.take_length] at hbk
      cases back_one hbk hB
      obtain ⟨zs, z, rfl, h1, h2⟩ := prd_snocR (as := []) T.hr
      cases h1
      simp only [rdA, rd_forL, rd_forR, rd_compT, rd_compL, rd_compR, rd_tyes, rd_seq, rd_if, rd_kget, rd_kin, rd_fldP, rd_make, rd_slS, cx_w, cx_w2]
      exact ⟨_, SqL.of T.hp, _, atI0 _ _, q _ _ T.sm h2.1 fun p e => (h2.2 p e).1⟩
noncomputable def spRoom (K : PySem.W.Frag) : Sp := fun vs H Q _ => ∃ (l : Addr) (ns : List Int) (i j : Int), vs = [.ref l, .int i, .int j] ∧ SqL K H l (ns.map V.int) ∧ ns.length ≤ 63 ∧ Q (.int i) H
end
end Nt
end CN
end
section
set_option Elab.async false
set_option linter.all false
set_option maxRecDepth 100000
set_option maxHeartbeats 4000000
namespace CN
open PySem L2
namespace Nt
structure Og (F : Stm → Stm) (H : Hp) (lp lq : Addr) (xs : List V) (a : Stm) (ys : List V) (ds : List Stm) (H2 : Hp) : Prop where
  sm : Same H H2
  lpn : H lp = none
  hp : H2 lp = some (.lst ys)
  hq : H2 lq = some (.lst xs)
  ne : lq ≠ lp
  hst : Sts H2 xs (pre a)
  hr : Sts H2 ys (ds.map F)
section
variable {F : Stm → Stm} {H H2 H3 : Hp} {lp lq p1 : Addr} {xs ys zs cs : List V} {a b d : Stm} {ds es : List Stm} {m : V} {dn e : Bool}
structure Sq (F : Stm → Stm) (H : Hp) (lp lq : Addr) (xs : List V) (a : Stm) (p1 : Addr) (cs : List V) (b : Stm) (es : List Stm) (dn : Bool) (m : V) (zs : List V) (H2 : Hp) : Prop where
  ob : Og F H lp lq xs a zs (es ++ if dn = true then [] else (kids b).reverse) H2
  hp1 : H2 p1 = some (.tup cs)
  hb : IsSt H2 (.ref p1) b
  md : dn = true → IsSt H2 m (F b)
  id : dn = false → m = .ref p1
theorem Sq.no (t : Sq F H lp lq xs a p1 cs b es dn m zs H2) (h : ¬ e = true) : Sq F H lp lq xs a p1 cs b es (dn || e) m zs H2 := by
  rw [show e = false by simpa using h, Bool.or_false]; exact t
theorem Sq.op (t : Sq F H lp lq xs a p1 cs b es dn m zs H2) (h : dn = false) : Og F H lp lq xs a zs (es ++ (kids b).reverse) H2 := by
  have := t.ob
  rw [h] at this
  exact this
end
end Nt
end CN
end
section
set_option Elab.async false
set_option linter.all false
set_option maxRecDepth 100000
set_option maxHeartbeats 4000000
namespace L2
open PySem PySem.Spec PyProof.Rows
mutual
inductive DL (H : Hp) : V → PyData → Prop
  | of {v : V} {d : PyData} : DT H v d → DL H v d
  | lst {a : Addr} {xs : List V} {ds : List PyData} : H a = some (.lst xs) → DLs H xs ds → DL H (.ref a) (.list ds)
  | tup {a : Addr} {xs : List V} {ds : List PyData} : H a = some (.tup xs) → DLs H xs ds → DL H (.ref a) (.tuple ds)
inductive DLs (H : Hp) : List V → List PyData → Prop
  | nil : DLs H [] []
  | cons {x : V} {d : PyData} {xs : List V} {ds : List PyData} : DL H x d → DLs H xs ds → DLs H (x :: xs) (d :: ds)
end
theorem DLs.of {H : Hp} : ∀ {vs : List V} {ds : List PyData}, DTs H vs ds → DLs H vs ds
  | _, _, .nil => .nil
  | _, _, .cons a b => .cons (.of a) (DLs.of b)
section
variable {P : Program} {w : World} {H : Hp} {h : Heap}
mutual
theorem dl_reads (ok : HOk P w H h) : ∀ (d : PyData) (v : V) (u : Value), DL H v d → RelV v u → ∃ as, Reads h u d as
  | .none, v, u, x, r => by cases x with | of t => exact dt_reads ok _ v u t r
  | .bool b, v, u, x, r => by cases x with | of t => exact dt_reads ok _ v u t r
  | .int i, v, u, x, r => by cases x with | of t => exact dt_reads ok _ v u t r
  | .str y, v, u, x, r => by cases x with | of t => exact dt_reads ok _ v u t r
  | .tuple ds, v, u, x, r => by
    cases x with
    | of t => exact dt_reads ok _ v u t r
    | @tup a xs _ e xs' =>
      cases (show u = Value.ref a from r)
      obtain ⟨_, its, rv, o, h1, h2, n, h3⟩ := (show ObjOk P w H h a (.tup xs) from ok a _ e)
      obtain ⟨as, q⟩ := dls_reads ok ds xs its xs' rv
      exact ⟨as, .tuple h1 h2 h3 q⟩
  | .list ds, v, u, x, r => by
    cases x with
    | of t => exact dt_reads ok _ v u t r
    | @lst a xs _ e xs' =>
      cases (show u = Value.ref a from r)
      obtain ⟨_, its, n, rv, h1⟩ := (show ObjOk P w H h a (.lst xs) from ok a _ e)
      obtain ⟨as, q⟩ := dls_reads ok ds xs its xs' rv
      exact ⟨_, .list h1 rfl rfl q⟩
  | .dict _, v, u, x, r => by cases x with | of t => exact dt_reads ok _ v u t r
theorem dls_reads (ok : HOk P w H h) : ∀ (ds : List PyData) (vs : List V) (us : List Value), DLs H vs ds → Vals vs us → ∃ as, ReadsAll h us ds as
  | [], vs, us, x, r => by cases x; cases r; exact ⟨_, .nil⟩
  | d :: ds, vs, us, x, r => by
    cases x with
    | cons a b =>
      cases r with
      | cons r1 r2 =>
        obtain ⟨as, q⟩ := dl_reads ok d _ _ a r1
        obtain ⟨bs, q2⟩ := dls_reads ok ds _ _ b r2
        exact ⟨_, .cons q q2⟩
end
end
section
variable {X : Cx} {k : Nat}
noncomputable def rLEq : R2 := fun x y H Q => ∃ d e, DL H x d ∧ DL H y e ∧ d.canLay0 = true ∧ e.canLay0 = true ∧ min d.depth e.depth ≤ 200 ∧ Q (.bl (PyData.eqv d e)) H
theorem op_leq (hr : Room k X.A) : OpR X (compareOp .Eq) rLEq := by
  intro pins s σ H x y v u Q I rx ry h
  obtain ⟨d, e, hd, he, l1, l2, dp, q⟩ := h
  obtain ⟨as, ra⟩ := dl_reads I.hok d x v hd rx
  obtain ⟨bs, rb⟩ := dl_reads I.hok e y u he ry
  have := hr.un
  exact SeqAt.compareEq_reads ra rb l1 l2 (by omega) ⟨.bl _, H, I, rfl, q⟩
end
theorem rd_gTup {K : PySem.W.Frag} {n : Nat} {t : TGs} {p : Addr} {σ : St} {H : Hp} {Q : St → Hp → Prop} : gTup K n t (.ref p) σ H Q = ∃ xs, SqT K H p xs ∧ xs.length = n ∧ t xs σ H Q := by
  apply propext; constructor
  · rintro ⟨a, xs, e, q⟩; cases e; exact ⟨xs, q⟩
  · rintro ⟨xs, q⟩; exact ⟨p, xs, rfl, q⟩
theorem rd_eqB {x y : Bool} {H : Hp} {Q : VK} : rEq (.bl x) (.bl y) H Q = Q (.bl (decide (x = y))) H := by
  apply propext; unfold rEq
  constructor
  · rintro ⟨_, q⟩; simpa using q
  · intro q; exact ⟨rfl, by simpa using q⟩
end L2
namespace CN
open PySem L2
seal L2.PE L2.PT L2.PS L2.PSs L2.PA L2.PPs L2.PW L2.PC L2.PG L2.PGs L2.PI L2.PO L2.PTs
namespace Nt
noncomputable abbrev s_L_room : Stmt := top 16
noncomputable abbrev p_L_room : List Str := ["_law_script", "_law_most", "_law_bound"]
theorem sc_L_room : FnScope ["_law_script", "_law_most", "_law_bound"] ["_law_script", "_law_most", "_law_bound"] (defScope s_L_room) := ⟨rfl, rfl, rfl, by decide +kernel, rfl, by decide +kernel, by decide +kernel⟩
noncomputable def dG (g : List Nd × Nat) : PyData := .tuple [.list (g.1.map dN), .int (g.2 : Nat)]
theorem dN_iff (a b : Nd) : PyData.eqv (dN a) (dN b) = true ↔ a = b := ⟨dN_eqv, fun e => by subst e; simp [dN, PyData.eqv, PyData.eqvAll]⟩
theorem dNs_iff : ∀ as bs : List Nd, PyData.eqvAll (as.map dN) (bs.map dN) = true ↔ as = bs
  | [], [] => by simp [PyData.eqvAll]
  | [], b :: bs => by simp [PyData.eqvAll]
  | a :: as, [] => by simp [PyData.eqvAll]
  | a :: as, b :: bs => by simp only [List.map_cons, PyData.eqvAll, Bool.and_eq_true, dN_iff, dNs_iff as bs, List.cons.injEq]
theorem dG_iff (g g' : List Nd × Nat) : PyData.eqv (dG g) (dG g') = decide (g = g') := by
  rw [Bool.eq_iff_iff, decide_eq_true_eq]
  obtain ⟨a, r⟩ := g
  obtain ⟨b, q⟩ := g'
  simp only [dG, PyData.eqv, PyData.eqvAll, Bool.and_eq_true, dNs_iff, Prod.mk.injEq, beq_iff_eq, and_true]
  constructor
  · rintro ⟨e, f⟩; exact ⟨e, by omega⟩
  · rintro ⟨e, f⟩; exact ⟨e, by omega⟩
theorem dG_lay (g : List Nd × Nat) : (dG g).canLay0 = true := by simp [dG, PyData.canLay0, PyData.canLayAll0, dNs_lay]
theorem dNs_dep : ∀ ns : List Nd, PyData.depthAll (ns.map dN) ≤ 5
  | [] => by simp [PyData.depthAll]
  | nd :: ns => by
    have := dNs_dep ns
    simp only [List.map_cons, PyData.depthAll, dN, PyData.depth] at *
    omega
theorem dG_dep (g : List Nd × Nat) : (dG g).depth ≤ 20 := by
  have := dNs_dep g.1
  simp only [dG, PyData.depth, PyData.depthAll]
  omega
theorem dG_at {H : Hp} {v : V} {g : List Nd × Nat} (h : GrAt H v g) : DL H v (dG g) := by
  obtain ⟨t, lo, os, rfl, h1, h2, h3⟩ := h.ex
  exact .tup h1 (.cons (.lst h2 (.of (dNs_at h3))) (.cons (.of (.int _)) .nil))
theorem tr_agree {N : Int} : ∀ {a : Stm}, a.ok N → ∀ {ρ ρ' : Set1}, (∀ t, 0 ≤ t → t < N → ρ t = ρ' t) → tr a ρ = tr a ρ' := by
  intro a
  have hput : ∀ {ρ ρ' : Set1} (n : Int) (b : Bool), (∀ t, 0 ≤ t → t < N → ρ t = ρ' t) → ∀ t, 0 ≤ t → t < N → put ρ n b t = put ρ' n b t := by
    intro ρ ρ' n b h t h1 h2; unfold put; by_cases e : t = n
    · rw [if_pos e, if_pos e]
    · rw [if_neg e, if_neg e]; exact h t h1 h2
  induction a with
  | yes => intro _ ρ ρ' h; rfl
  | no => intro _ ρ ρ' h; rfl
  | sw n => intro k ρ ρ' h; exact h n k.1 k.2
  | nt a i => intro k ρ ρ' h; simp only [tr, i k h]
  | an a b i j => intro k ρ ρ' h; simp only [tr, i k.1 h, j k.2 h]
  | og a b i j => intro k ρ ρ' h; simp only [tr, i k.1 h, j k.2 h]
  | al n a i => intro k ρ ρ' h; simp only [tr, i k.2 (hput n false h), i k.2 (hput n true h)]
  | sm n a i => intro k ρ ρ' h; simp only [tr, i k.2 (hput n false h), i k.2 (hput n true h)]
noncomputable def S1 (P : Addr) (H H' : Hp) : Prop := ∀ b o, H b = some o → b ≠ P → H' b = some o
section
variable {P1 : Addr} {H H1 H2 : Hp}
theorem S1.trans (a : S1 P1 H H1) (b : S1 P1 H1 H2) : S1 P1 H H2 := fun c o e h1 => b c o (a c o e h1) h1
theorem S1.of (s : Same H H1) : S1 P1 H H1 := fun b o e _ => s b o e
end
section
variable {P : Program} {w : World} {K : PySem.W.Frag} {mg : Str → Option Value} {base : Heap}
theorem ok_room {f : Addr} {fd : FuncData} (BT : Bt mg) (D : Df K mg "_law_room" s_L_room p_L_room f fd) : FnOk P w K mg base CX0 1 f fd p_L_room (spRoom K) := by
  refine D.F.ok sc_L_room (fun vs H Q E h => ?_) (fun cdv A outer s H vs Q E hr h => ?_)
  · obtain ⟨l, ns, i, j, rfl, _⟩ := h
    rfl
  · obtain ⟨l, ns, i, j, rfl, hl, hn, q⟩ := h
    refine ⟨_, (pss_cons (ps_if (pt_cmpR op_gt (pe_callB call_len_seq (by rfl) BT.n_len bo_len (pa_cons (pv 0) pa_nil)) pe_int (nomark _))
      (pss_one (ps_ret (pv 2)))
      pss_nil)
    (pss_one (ps_ret (pv 1)))), ?_⟩
    simp only [rdA, rd_seq, rd_if, rd_kget, rd_kin, rd_fldP, rd_make, rd_slS, cx_w, cx_w2]
    refine ⟨_, .inl hl, ite2 (fun hk => ?_) fun _ => q⟩
    simp at hk
    omega
end
end Nt
end CN
end
section
set_option Elab.async false
set_option linter.all false
namespace CN
namespace Nt
noncomputable def ren (f : Int → Int) : Stm → Stm
  | .yes => .yes | .no => .no | .sw n => .sw (f n)
  | .nt a => .nt (ren f a)
  | .an a b => .an (ren f a) (ren f b)
  | .og a b => .og (ren f a) (ren f b)
  | .al n a => .al (f n) (ren f a)
  | .sm n a => .sm (f n) (ren f a)
noncomputable def Rise (ns : List Int) : Prop := ns.Pairwise (· < ·) ∧ ∀ n ∈ ns, 0 ≤ n
noncomputable def nth (ns : List Int) (t : Int) : Int := ns.getD t.toNat 0
theorem nth_get {ns : List Int} {t : Int} (h1 : 0 ≤ t) (h2 : t < (ns.length : Nat)) : ns[t.toNat]? = some (nth ns t) := by
  have : t.toNat < ns.length := by omega
  rw [nth, List.getD_eq_getElem?_getD, List.getElem?_eq_getElem this]; rfl
noncomputable def onR (m k : Nat) : List Int := ((List.range m).filter fun j => rowS m k ((j : Nat) : Int)).map fun j => ((j : Nat) : Int)
end Nt
end CN
end
section
set_option Elab.async false
set_option linter.all false
namespace CN
namespace Nt
noncomputable def cost2 (ns : List Nd) : Nat → Nat → Ws → Nat
  | 0, _, _ => 1
  | k + 1, p, w => if (w.num p).isSome then 1 else match ns[p - 2]? with
    | none => 1
    | some nd => if (w.num nd.off).isSome && (w.num nd.on).isSome then 1 else
      (if (w.num nd.off).isSome then 0 else cost2 ns k nd.off w) +
      (if (w.num nd.on).isSome then 0 else cost2 ns k nd.on (visit ns k nd.off w)) + 2
theorem cost2_old {ns : List Nd} {k p : Nat} {w : Ws} (h : (w.num p).isSome = true) : cost2 ns k p w = 1 := by
  cases k with
  | zero => rfl
  | succ k => rw [cost2, if_pos h]
theorem cost2_new {ns : List Nd} {k p : Nat} {w : Ws} {nd : Nd} (h : w.num p = none) (e : ns[p - 2]? = some nd) : cost2 ns (k + 1) p w =
      if (w.num nd.off).isSome && (w.num nd.on).isSome then 1 else
      (if (w.num nd.off).isSome then 0 else cost2 ns k nd.off w) +
      (if (w.num nd.on).isSome then 0 else cost2 ns k nd.on (visit ns k nd.off w)) + 2 := by
  rw [cost2, if_neg (by rw [h]; simp), e]
theorem cost2_fuel {ns : List Nd} (N : Net ns) : ∀ (k k' p : Nat) (w : Ws), p < k → p < k' → Pl ns p → Good ns w → cost2 ns k p w = cost2 ns k' p w
  | 0, _, _, _, h, _, _, _ => absurd h (Nat.not_lt_zero _)
  | _ + 1, 0, _, _, _, h, _, _ => absurd h (Nat.not_lt_zero _)
  | k + 1, k' + 1, p, w, h, h', hp, g => by
    by_cases hs : (w.num p).isSome = true
    · rw [cost2_old hs, cost2_old hs]
    · have hn : w.num p = none := by simpa using hs
      obtain ⟨nd, e, o1, o2, l1, l2⟩ := N.way hp (not2 g hn)
      have g1 := (visit_ok N k' nd.off w (lt_fuel o1 h') l1 g).1
      rw [cost2_new hn e, cost2_new hn e, cost2_fuel N k k' nd.off w (lt_fuel o1 h) (lt_fuel o1 h') l1 g, visit_fuel N k k' nd.off w (lt_fuel o1 h) (lt_fuel o1 h') l1 g, cost2_fuel N k k' nd.on _ (lt_fuel o2 h) (lt_fuel o2 h') l2 g1]
theorem cost2_pos (ns : List Nd) (k p : Nat) (w : Ws) : 1 ≤ cost2 ns k p w := by
  cases k with
  | zero => exact Nat.le_refl _
  | succ k =>
    unfold cost2
    split
    · exact Nat.le_refl _
    · split
      · exact Nat.le_refl _
      · split
        · exact Nat.le_refl _
        · omega
theorem cost2_le {ns : List Nd} (N : Net ns) : ∀ (k p : Nat) (w : Ws), p < k → Pl ns p → Good ns w → cost2 ns k p w + 4 * unn (visit ns k p w) (ns.length + 2) ≤ 1 + 4 * unn w (ns.length + 2)
  | 0, _, _, h, _, _ => absurd h (Nat.not_lt_zero _)
  | k + 1, p, w, h, hp, g => by
    by_cases hs : (w.num p).isSome = true
    · rw [cost2_old hs, visit_old hs]; exact Nat.le_refl _
    · have hn : w.num p = none := by simpa using hs
      obtain ⟨nd, e, o1, o2, l1, l2⟩ := N.way hp (not2 g hn)
      obtain ⟨g1, s1, k1, u1⟩ := visit_ok N k nd.off w (lt_fuel o1 h) l1 g
      obtain ⟨g2, s2, k2, u2⟩ := visit_ok N k nd.on _ (lt_fuel o2 h) l2 g1
      have hn2 : (visit ns k nd.on (visit ns k nd.off w)).num p = none := by rw [u2 p o2, u1 p o1, hn]
      have i1 := cost2_le N k nd.off w (lt_fuel o1 h) l1 g
      have i2 := cost2_le N k nd.on _ (lt_fuel o2 h) l2 g1
      have i3 := unn_add (w := visit ns k nd.on (visit ns k nd.off w)) (N := ns.length + 2) (p := p) (nd := nd) hp hn2
      have j1 := cost2_pos ns k nd.off w
      have j2 := cost2_pos ns k nd.on (visit ns k nd.off w)
      rw [cost2_new hn e, visit_new hn e]
      split
      · omega
      · split <;> split <;> omega
noncomputable def costs2 (ns : List Nd) : List Nat → Ws → Nat
  | [], _ => 0
  | p :: r, w => cost2 ns (p + 1) p w + costs2 ns r (visit ns (p + 1) p w)
theorem costs2_len (ns : List Nd) : ∀ (st : List Nat) (w : Ws), st.length ≤ costs2 ns st w
  | [], _ => Nat.zero_le _
  | p :: r, w => by
    have h1 := cost2_pos ns (p + 1) p w
    have h2 := costs2_len ns r (visit ns (p + 1) p w)
    rw [costs2, List.length_cons]; omega
theorem costs2_one {ns : List Nd} (N : Net ns) {p : Nat} (hp : Pl ns p) : costs2 ns [p] w0 ≤ 1 + 4 * ns.length := by
  have h := cost2_le N (p + 1) p w0 (Nat.lt_succ_self _) hp (good0 ns)
  have h2 := unn0 ns.length
  rw [costs2, costs2]; omega
section
variable {ns : List Nd} {w : Ws} {p : Nat} {r : List Nat} {nd : Nd}
theorem run2_pop (h : (w.num p).isSome = true) : runs ns (p :: r) w = runs ns r w ∧ costs2 ns r w < costs2 ns (p :: r) w := by
  refine ⟨by rw [runs, visit_old h], ?_⟩
  rw [costs2, visit_old h, cost2_old h]; omega
theorem run2_add (hn : w.num p = none) (e : ns[p - 2]? = some nd) (ho : (w.num nd.off).isSome = true) (ho2 : (w.num nd.on).isSome = true) : runs ns r (w.add p nd) = runs ns (p :: r) w ∧ costs2 ns r (w.add p nd) < costs2 ns (p :: r) w := by
  have ev : visit ns (p + 1) p w = w.add p nd := by rw [visit_new hn e, visit_old ho, visit_old ho2]
  refine ⟨by rw [runs, ev], ?_⟩
  rw [costs2, ev, cost2_new hn e, ho, ho2]; simp
noncomputable def rest2 (w : Ws) (nd : Nd) : List Nat := (if (w.num nd.off).isSome then [] else [nd.off]) ++ (if (w.num nd.on).isSome then [] else [nd.on])
theorem run2_push (N : Net ns) (g : Good ns w) (hp : Pl ns p) (hn : w.num p = none) (e : ns[p - 2]? = some nd) (hr : rest2 w nd ≠ []) :
    runs ns (rest2 w nd ++ p :: r) w = runs ns (p :: r) w ∧ costs2 ns (rest2 w nd ++ p :: r) w < costs2 ns (p :: r) w := by
  obtain ⟨o1, o2, l1, l2⟩ := N.below hp e (not2 g hn)
  obtain ⟨g1, s1, k1, u1⟩ := visit_ok N (nd.off + 1) nd.off w (Nat.lt_succ_self _) l1 g
  obtain ⟨g2, s2, k2, u2⟩ := visit_ok N (nd.on + 1) nd.on _ (Nat.lt_succ_self _) l2 g1
  have s1' : ((visit ns (nd.on + 1) nd.on (visit ns (nd.off + 1) nd.off w)).num nd.off).isSome = true := by
    obtain ⟨x, hx⟩ := Option.isSome_iff_exists.mp s1
    rw [k2 _ _ hx]; rfl
  have hn2 : (visit ns (nd.on + 1) nd.on (visit ns (nd.off + 1) nd.off w)).num p = none := by rw [u2 p o2, u1 p o1, hn]
  have f1 : visit ns p nd.off w = visit ns (nd.off + 1) nd.off w := visit_fuel N _ _ _ _ o1 (Nat.lt_succ_self _) l1 g
  have f2 : visit ns p nd.on (visit ns (nd.off + 1) nd.off w) = visit ns (nd.on + 1) nd.on (visit ns (nd.off + 1) nd.off w) := visit_fuel N _ _ _ _ o2 (Nat.lt_succ_self _) l2 g1
  have c1 := cost2_fuel N p (nd.off + 1) nd.off w o1 (Nat.lt_succ_self _) l1 g
  have c2 := cost2_fuel N p (nd.on + 1) nd.on _ o2 (Nat.lt_succ_self _) l2 g1
  have ev : visit ns (p + 1) p (visit ns (nd.on + 1) nd.on (visit ns (nd.off + 1) nd.off w)) = visit ns (p + 1) p w := by
    rw [visit_new hn e, visit_new hn2 e, visit_old s1', visit_old s2, f1, f2]
  have ec : cost2 ns (p + 1) p (visit ns (nd.on + 1) nd.on (visit ns (nd.off + 1) nd.off w)) = 1 := by
    rw [cost2_new hn2 e, s1', s2]; rfl
  have cn := cost2_new (k := p) hn e
  rw [f1, c1, c2] at cn
  have key : runs ns (rest2 w nd ++ p :: r) w = runs ns (p :: r) (visit ns (nd.on + 1) nd.on (visit ns (nd.off + 1) nd.off w)) ∧
      costs2 ns (rest2 w nd ++ p :: r) w + 2 = cost2 ns (p + 1) p w + costs2 ns (p :: r) (visit ns (nd.on + 1) nd.on (visit ns (nd.off + 1) nd.off w)) := by
    rw [cn]
    unfold rest2 at hr ⊢
    by_cases h1 : (w.num nd.off).isSome = true
    · have ho := visit_old (ns := ns) (k := nd.off + 1) h1
      by_cases h2 : (w.num nd.on).isSome = true
      · rw [if_pos h1, if_pos h2] at hr; exact absurd rfl hr
      · rw [ho]
        simp only [h1, h2, if_true, if_false, Bool.false_eq_true, List.nil_append, List.cons_append, runs, costs2, Bool.and_false, true_and]
        omega
    · by_cases h2 : (w.num nd.on).isSome = true
      · obtain ⟨x, hx⟩ := Option.isSome_iff_exists.mp h2
        have h2' : ((visit ns (nd.off + 1) nd.off w).num nd.on).isSome = true := by rw [k1 _ _ hx]; rfl
        rw [visit_old h2']
        simp only [h1, h2, if_true, if_false, Bool.false_eq_true, List.nil_append, List.cons_append, runs, costs2, Bool.false_and, true_and]
        omega
      · simp only [h1, h2, if_true, if_false, Bool.false_eq_true, List.nil_append, List.cons_append, runs, costs2, Bool.false_and, true_and]
        omega
  refine ⟨by rw [key.1, runs, runs, ev], ?_⟩
  have h := key.2
  rw [costs2, ev, ec] at h
  rw [show costs2 ns (p :: r) w = cost2 ns (p + 1) p w + costs2 ns r (visit ns (p + 1) p w) from rfl]
  omega
end
end Nt
end CN
end
section
set_option Elab.async false
set_option linter.all false
set_option maxRecDepth 100000
set_option maxHeartbeats 4000000
namespace L2
open PySem PySem.Spec PyProof.Rows
inductive TyS (H : Hp) : V → String → Prop
  | int (i : Int) : TyS H (.int i) "int"
  | bl (b : Bool) : TyS H (.bl b) "bool"
  | lst {a : Addr} {xs : List V} (e : H a = some (.lst xs)) : TyS H (.ref a) "list"
  | tup {a : Addr} {xs : List V} (e : H a = some (.tup xs)) : TyS H (.ref a) "tuple"
theorem TyS.of {K : PySem.W.Frag} {H : Hp} {x : V} {t : String} (h : TyS H x t) : TyOf K H x (.type t) := by
  cases h with
  | int i => exact .int i
  | bl b => exact .bl b
  | lst e => exact .lst e
  | tup e => exact .tup e
theorem call_isinst2 {X : Cx} : CallR X (.builtin "isinstance") (fun xs H Q => ∃ x p T U t b, xs = [x, .ref p] ∧ H p = some (.tup [.ty T, .ty U]) ∧ TyS H x t ∧ PySem.W.kitAny X.K (.type t) [.type T, .type U] = some b ∧ Q (.bl b) H) := by
  intro pins s σ H xs us Q I r h
  obtain ⟨x, p, T, U, t, b, rfl, hp, ty, e, q⟩ := h
  obtain ⟨u, c, rfl, ru, rc⟩ := r.two
  cases (show c = Value.ref p from rc)
  obtain ⟨_, its, rv, ⟨oc, od, odt, osl⟩, h1, h2, n, h3⟩ := (show ObjOk X.prog X.w H s.heap p (.tup [.ty T, .ty U]) from I.hok p _ hp)
  obtain ⟨u1, u2, rfl, r1, r2⟩ := rv.two
  cases (show u1 = Value.type T from r1)
  cases (show u2 = Value.type U from r2)
  simp only at h2 h3
  subst h2 h3
  cases ty with
  | int i => obtain ⟨t, z⟩ := (show ∃ t, u = Value.int i t from ru); cases z; exact PySem.W.kia_tup PySem.W.kitx_int I.kIn True.intro h1 e (fun z => nomatch z) fun tk => ⟨.bl b, H, I.tok tk, rfl, q⟩
  | bl y => cases (show u = Value.bool y from ru); exact PySem.W.kia_tup PySem.W.kitx_bool I.kIn True.intro h1 e (fun z => nomatch z) fun tk => ⟨.bl b, H, I.tok tk, rfl, q⟩
  | @lst a xs ea =>
    cases (show u = Value.ref a from ru)
    obtain ⟨_, _, n, _, g1⟩ := (show ObjOk X.prog X.w H s.heap a (.lst xs) from I.hok a _ ea)
    exact PySem.W.kia_tup PySem.W.kitx_list I.kIn ⟨_, g1, rfl⟩ h1 e (fun z => nomatch z) fun tk => ⟨.bl b, H, I.tok tk, rfl, q⟩
  | @tup a xs ea =>
    cases (show u = Value.ref a from ru)
    obtain ⟨_, _, _, o, g1, g2, _⟩ := (show ObjOk X.prog X.w H s.heap a (.tup xs) from I.hok a _ ea)
    exact PySem.W.kia_tup PySem.W.kitx_tuple I.kIn ⟨o, g1, g2⟩ h1 e (fun z => nomatch z) fun tk => ⟨.bl b, H, I.tok tk, rfl, q⟩
end L2
namespace CN
open PySem L2
seal L2.PE L2.PT L2.PS L2.PSs L2.PA L2.PPs L2.PW L2.PC L2.PG L2.PGs L2.PI L2.PO L2.PTs
namespace Nt
noncomputable abbrev s_L_so : Stmt := top 18
noncomputable abbrev p_L_so : List Str := ["_law_found", "_law_due"]
theorem sc_L_so : FnScope ["_law_found", "_law_due", "_law_todo", "_law_one", "_law_other", "_law_k"] ["_law_found", "_law_due"] (defScope s_L_so) := ⟨rfl, rfl, rfl, by decide +kernel, rfl, by decide +kernel, by decide +kernel⟩
section
variable {P : Program} {w : World} {K : PySem.W.Frag} {mg : Str → Option Value} {base : Heap}
mutual
inductive Alk (H : Hp) : V → V → Nat → Prop
  | int (i : Int) : Alk H (.int i) (.int i) 1
  | bl (b : Bool) : Alk H (.bl b) (.bl b) 1
  | lst {a b : Addr} {xs ys : List V} {n : Nat} : H a = some (.lst xs) → H b = some (.lst ys) → Alks H xs ys n → Alk H (.ref a) (.ref b) (n + 1)
  | tup {a b : Addr} {xs ys : List V} {n : Nat} : H a = some (.tup xs) → H b = some (.tup ys) → Alks H xs ys n → Alk H (.ref a) (.ref b) (n + 1)
inductive Alks (H : Hp) : List V → List V → Nat → Prop
  | nil : Alks H [] [] 0
  | cons {x y : V} {xs ys : List V} {m n : Nat} : Alk H x y m → Alks H xs ys n → Alks H (x :: xs) (y :: ys) (m + n)
end
theorem Alk.pos {H : Hp} {x y : V} {n : Nat} (h : Alk H x y n) : 1 ≤ n := by cases h <;> omega
noncomputable abbrev Q3 := V × V × Nat
theorem alks_get {H : Hp} : ∀ {xs ys : List V} {n : Nat}, Alks H xs ys n → ∃ qs : List Q3, xs = qs.map (·.1) ∧ ys = qs.map (·.2.1) ∧ (qs.map (·.2.2)).sum = n ∧ ∀ q ∈ qs, Alk H q.1 q.2.1 q.2.2
  | [], ys, n, h => by cases h; exact ⟨[], rfl, rfl, rfl, fun q h => by cases h⟩
  | x :: xs, ys, n, h => by
    cases h with
    | @cons _ y _ ys m n h1 h2 =>
      obtain ⟨qs, rfl, rfl, h3, h4⟩ := alks_get h2
      refine ⟨(x, y, m) :: qs, rfl, rfl, by simp [h3], fun q hq => ?_⟩
      rcases List.mem_cons.mp hq with rfl | hq
      · exact h1
      · exact h4 q hq
noncomputable def WP (H H2 : Hp) (z : V) (p : Q3) : Prop := ∃ q, z = .ref q ∧ H2 q = some (.tup [p.1, p.2.1]) ∧ Alk H p.1 p.2.1 p.2.2
theorem WP.to {H H2 H3 : Hp} {z : V} {p : Q3} (h : WP H H2 z p) (k : Tk H2 H3) : WP H H3 z p := by
  obtain ⟨q, e, h1, h2⟩ := h
  exact ⟨q, e, k _ _ h1, h2⟩
theorem wps_to {H H2 H3 : Hp} (k : Tk H2 H3) : ∀ {zs : List V} {ps : List Q3}, Paired (WP H H2) zs ps → Paired (WP H H3) zs ps
  | _, _, .nil => .nil
  | _, _, .cons a b => .cons (a.to k) (wps_to k b)
noncomputable def wsum (ps : List Q3) : Nat := (ps.map (·.2.2)).sum
theorem wsum_app (ps qs : List Q3) : wsum (ps ++ qs) = wsum ps + wsum qs := by simp [wsum]
theorem wps_len {H H2 : Hp} : ∀ {zs : List V} {ps : List Q3}, Paired (WP H H2) zs ps → zs.length ≤ wsum ps
  | _, _, .nil => Nat.le_refl _
  | _, _, .cons a b => by
    obtain ⟨q, _, _, h⟩ := a
    have := h.pos
    have := wps_len b
    simp only [wsum, List.map_cons, List.sum_cons, List.length_cons] at *
    omega
inductive SoInv (H : Hp) (u v : V) (l : Addr) (m : Nat) (σ : St) (H2 : Hp) : Prop
  | mk (zs : List V) (ps : List Q3) (o3 o4 o5 : Option V) (h0 : σ = [some u, some v, some (.ref l), o3, o4, o5]) (h1 : Same H H2) (h2 : H2 l = some (.lst zs)) (h3 : Paired (WP H H2) zs ps) (h4 : wsum ps = m) (h5 : m ≤ 16000010) : SoInv H u v l m σ H2
inductive SoIn (H : Hp) (u v x y : V) (l : Addr) (ps qs : List Q3) (j : Nat) (σ : St) (H2 : Hp) : Prop
  | mk (zs : List V) (o5 : Option V) (h0 : σ = [some u, some v, some (.ref l), some x, some y, o5]) (h1 : Same H H2) (h2 : H2 l = some (.lst zs)) (h3 : Paired (WP H H2) zs (ps ++ qs.take j)) : SoIn H u v x y l ps qs j σ H2
theorem kind_of {H : Hp} {x y : V} {n : Nat} (h : Alk H x y n) : (∃ i, x = .int i ∧ y = .int i ∧ n = 1) ∨ (∃ b, x = .bl b ∧ y = .bl b ∧ n = 1) ∨ ∃ a b xs ys m T bl bt, x = .ref a ∧ y = .ref b ∧ n = m + 1 ∧ Alks H xs ys m ∧ PySem.W.kitAny K (.type T) [.type "list", .type "tuple"] = some true ∧ PySem.W.kitOne K (.type T) (.type "list") = some bl ∧ PySem.W.kitOne K (.type T) (.type "tuple") = some bt ∧
    ∀ H3, Same H H3 → TyS H3 (.ref a) T ∧ TyS H3 (.ref b) T ∧ (SqL K H3 a xs ∨ SqT K H3 a xs) ∧ (SqL K H3 b ys ∨ SqT K H3 b ys) := by
  cases h with
  | int i => exact .inl ⟨i, rfl, rfl, rfl⟩
  | bl b => exact .inr (.inl ⟨b, rfl, rfl, rfl⟩)
  | @lst a b xs ys n h1 h2 h3 => exact .inr (.inr ⟨a, b, xs, ys, n, "list", true, false, rfl, rfl, rfl, h3, rfl, rfl, rfl, fun H3 s => ⟨.lst (s _ _ h1), .lst (s _ _ h2), .inl (SqL.of (s _ _ h1)), .inl (SqL.of (s _ _ h2))⟩⟩)
  | @tup a b xs ys n h1 h2 h3 => exact .inr (.inr ⟨a, b, xs, ys, n, "tuple", false, true, rfl, rfl, rfl, h3, rfl, rfl, rfl, fun H3 s => ⟨.tup (s _ _ h1), .tup (s _ _ h2), .inr (SqT.of (s _ _ h1)), .inr (SqT.of (s _ _ h2))⟩⟩)
theorem rd_neB {i j : Bool} {H : Hp} {Q : VK} : rNe (.bl i) (.bl j) H Q = Q (.bl (!decide (i = j))) H := by
  have e : decide (V.bl i = V.bl j) = decide (i = j) := by simp
  unfold rNe; rw [e]; simp [scal]
theorem ix_any {H : Hp} {a : Addr} {xs : List V} {j : Nat} {v : V} {Q : VK} (h : SqL K H a xs ∨ SqT K H a xs) (e : xs[j]? = some v) (q : Q v H) : rIx K (.ref a) (.int (j : Nat)) H Q := by
  rcases h with h | h
  · exact .inl ⟨a, xs, j, v, rfl, rfl, h, atI_nat e, q⟩
  · exact .inr (.inl ⟨a, xs, j, v, rfl, rfl, h, atI_nat e, q⟩)
noncomputable def spSo : Sp := fun vs H Q _ => ∃ (u v : V) (n : Nat), vs = [u, v] ∧ Alk H u v n ∧ n ≤ 16000010 ∧ ∀ H', Same H H' → Q (.bl true) H'
theorem ok_so {f : Addr} {fd : FuncData} (BT : Bt mg) (D : Df K mg "_law_so" s_L_so p_L_so f fd) : FnOk P w K mg base CX0 1 f fd p_L_so spSo := by
  refine D.F.ok sc_L_so (fun vs H Q E h => ?_) (fun cdv A outer s H vs Q E hr h => ?_)
  · obtain ⟨u, v, n, rfl, _⟩ := h
    rfl
  · obtain ⟨u, v, n, rfl, hal, hl, q⟩ := h
    refine ⟨_, (pss_cons (ps_set (i := 2) sc_L_so.nd rfl (by first | exact Or.inl rfl | exact Or.inr rfl) (pe_lst (pa_cons (pe_tup (pa_cons (pv 0) (pa_cons (pv 1) pa_nil))) pa_nil)))
    (pss_cons (ps_while PassesOwn.never (pt_cmpR (op_neNil hr) (pv 2) (pe_lst pa_nil) (nomark _))
      (pss_cons (ps_asg (pe_bm0 PySem.F.plainAttrs_list PySem.F.slot_list_pop PySem.F.type_list_pop mt_pop (pv 2)) (pg_tup rfl (pgs_cons (pg_name (i := 3) sc_L_so.nd rfl (by first | exact Or.inl rfl | exact Or.inr rfl)) (pgs_cons (pg_name (i := 4) sc_L_so.nd rfl (by first | exact Or.inl rfl | exact Or.inr rfl)) pgs_nil))))
      (pss_one (ps_if (pt_val (pe_callB call_isinst2 (by rfl) BT.n_isinstance bo_isinstance (pa_cons (pv 4) (pa_cons (pe_tup (pa_cons (pe_bltn (v := .ty "list") (by rfl) BT.n_list bo_list rfl) (pa_cons (pe_bltn (v := .ty "tuple") (by rfl) BT.n_tuple bo_tuple rfl) pa_nil))) pa_nil))))
        (pss_cons (ps_if (pt_cmpR op_ne (pe_callB (call_isinst) (by rfl) BT.n_isinstance bo_isinstance (pa_cons (pv 3) (pa_cons (pe_bltn (v := .ty "list") (by rfl) BT.n_list bo_list rfl) pa_nil))) (pe_callB (call_isinst) (by rfl) BT.n_isinstance bo_isinstance (pa_cons (pv 4) (pa_cons (pe_bltn (v := .ty "list") (by rfl) BT.n_list bo_list rfl) pa_nil))) (nomark _))
          (pss_one (ps_ret pe_bl))
          pss_nil)
        (pss_cons (ps_if (pt_cmpR op_ne (pe_callB (call_isinst) (by rfl) BT.n_isinstance bo_isinstance (pa_cons (pv 3) (pa_cons (pe_bltn (v := .ty "tuple") (by rfl) BT.n_tuple bo_tuple rfl) pa_nil))) (pe_callB (call_isinst) (by rfl) BT.n_isinstance bo_isinstance (pa_cons (pv 4) (pa_cons (pe_bltn (v := .ty "tuple") (by rfl) BT.n_tuple bo_tuple rfl) pa_nil))) (nomark _))
          (pss_one (ps_ret pe_bl))
          pss_nil)
        (pss_cons (ps_if (pt_cmpR op_ne (pe_callB call_len_seq (by rfl) BT.n_len bo_len (pa_cons (pv 3) pa_nil)) (pe_callB call_len_seq (by rfl) BT.n_len bo_len (pa_cons (pv 4) pa_nil)) (nomark _))
          (pss_one (ps_ret pe_bl))
          pss_nil)
        (pss_one (ps_for PassesOwn.never rfl (pi_range1 (by rfl) BT.n_range (pa_cons (pe_callB call_len_seq (by rfl) BT.n_len bo_len (pa_cons (pv 4) pa_nil)) pa_nil)) (pg_name (i := 5) sc_L_so.nd rfl (by first | exact Or.inl rfl | exact Or.inr rfl))
          (pss_one (ps_expr (pe_bm PySem.F.plainAttrs_list PySem.F.slot_list_append PySem.F.type_list_append mt_append (pv 2) (pa_cons (pe_tup (pa_cons (pe_ix ix_seq (pv 3) (pv 5) (fun _ _ => rfl)) (pa_cons (pe_ix ix_seq (pv 4) (pv 5) (fun _ _ => rfl)) pa_nil))) pa_nil)))))))))
        (pss_one (ps_if (pt_val (pe_callB (call_isinst) (by rfl) BT.n_isinstance bo_isinstance (pa_cons (pv 4) (pa_cons (pe_bltn (v := .ty "str") (by rfl) BT.n_str bo_str rfl) pa_nil))))
          (pss_one (ps_if (PW.pt (pw_or (pt_not (pt_val (pe_callB (call_isinst) (by rfl) BT.n_isinstance bo_isinstance (pa_cons (pv 3) (pa_cons (pe_bltn (v := .ty "str") (by rfl) BT.n_str bo_str rfl) pa_nil))))) (pw_or1 (pt_cmpR op_ne (pv 3) (pv 4) (nomark _)))))
            (pss_one (ps_ret pe_bl))
            pss_nil))
          (pss_one (ps_if (pt_val (pe_callB (call_isinst) (by rfl) BT.n_isinstance bo_isinstance (pa_cons (pv 4) (pa_cons (pe_bltn (v := .ty "bool") (by rfl) BT.n_bool bo_bool rfl) pa_nil))))
            (pss_one (ps_if (PW.pt (pw_or (pt_not (pt_val (pe_callB (call_isinst) (by rfl) BT.n_isinstance bo_isinstance (pa_cons (pv 3) (pa_cons (pe_bltn (v := .ty "bool") (by rfl) BT.n_bool bo_bool rfl) pa_nil))))) (pw_or1 (pt_cmpR op_ne (pv 3) (pv 4) (nomark _)))))
              (pss_one (ps_ret pe_bl))
              pss_nil))
            (pss_one (ps_if (pt_cmpR op_isN (pv 4) pe_non (nomark _))
              (pss_one (ps_if (pt_cmpR op_notN (pv 3) pe_non (nomark _))
                (pss_one (ps_ret pe_bl))
                pss_nil))
              (pss_one (ps_if (PW.pt (pw_or (pt_not (pt_val (pe_callB (call_isinst) (by rfl) BT.n_isinstance bo_isinstance (pa_cons (pv 3) (pa_cons (pe_bltn (v := .ty "int") (by rfl) BT.n_int bo_int rfl) pa_nil))))) (pw_or (pt_val (pe_callB (call_isinst) (by rfl) BT.n_isinstance bo_isinstance (pa_cons (pv 3) (pa_cons (pe_bltn (v := .ty "bool") (by rfl) BT.n_bool bo_bool rfl) pa_nil)))) (pw_or1 (pt_cmpR op_ne (pv 3) (pv 4) (nomark _))))))
                (pss_one (ps_ret pe_bl))
                pss_nil))))))))))))
    (pss_one (ps_ret pe_bl)))), ?_⟩
    refine seq_as fun R1 hR1 => ?_
    simp only [rdA, rd_forL, rd_forR, rd_compT, rd_compL, rd_compR, rd_tyes, rd_kget, rd_kin, rd_fldP, rd_make, rd_slS, cx_w, cx_w2]
    intro p0 hp0 l hl0
    have s0 := Same.new (o := HO.tup [u, v]) hp0
    have s1 := Same.new (o := HO.lst [V.ref p0]) hl0
    have hlH : H l = none := s0.free hl0
    subst hR1
    refine seq_as fun R1 hR1 => ?_
    refine ⟨SoInv H u v l, ⟨n, [.ref p0], [(u, v, n)], none, none, none, rfl, s0.trans s1, upd_same, .cons ⟨p0, rfl, s1 _ _ upd_same, hal⟩ .nil, by simp [wsum], hl⟩, ?_⟩
    clear hal hl s0 s1 hl0 hp0 n
    rintro m σ H2 ⟨zs, ps, o3, o4, o5, rfl, sm, hz, hps, hm, hm2⟩
    simp only [rdA, rd_forL, rd_forR, rd_compT, rd_compL, rd_compR, rd_tyes, rd_kget, rd_kin, rd_fldP, rd_make, rd_slS, cx_w, cx_w2]
    intro p1 hp1
    have s2 := Same.new (o := HO.lst []) hp1
    refine ⟨_, s2 _ _ hz, upd_same, ?_⟩
    replace hz := s2 _ _ hz
    replace sm := sm.trans s2
    replace hps := wps_to s2.tk hps
    generalize upd H2 p1 (HO.lst []) = H3 at hz sm hps ⊢
    clear s2 hp1
    refine ite2 (fun he => ?_) (fun he => by subst hR1; simp only [rdA, rd_forL, rd_forR, rd_compT, rd_compL, rd_compR, rd_tyes, rd_kget, rd_kin, rd_fldP, rd_make, rd_slS, cx_w, cx_w2]; exact q H3 sm)
    refine ⟨fun σ' H' => ∃ m', m' < m ∧ SoInv H u v l m' σ' H', fun _ _ h => h, ?_⟩
    clear hR1
    obtain ⟨zs, z, rfl⟩ := snoc_of (xs := zs) (by rintro rfl; simp at he)
    obtain ⟨ps, pp, rfl, hpsA, p2, rfl, hp2, hal⟩ := prd_snoc hps
    clear hps he
    rw [wsum_app] at hm
    refine seq_as fun R2 hR2 => ?_
    simp only [rdA, rd_forL, rd_forR, rd_compT, rd_compL, rd_compR, rd_tyes, rd_kget, rd_kin, rd_fldP, rd_make, rd_slS, cx_w, cx_w2]
    refine ⟨⟨_, SqL.of hz⟩, _, hz, _, last_of zs _, ?_⟩
    rw [drop_of]
    have k3 : Tk H3 _ := Tk.lst (o := .lst zs) hz
    have hps := wps_to k3 hpsA
    replace hp2 := k3 _ _ hp2
    have hz4 : upd H3 l (HO.lst zs) l = some (.lst zs) := upd_same
    replace sm : Same H (upd H3 l (HO.lst zs)) := sm.mut hlH
    generalize upd H3 l (HO.lst zs) = H4 at hps hp2 hz4 sm ⊢
    clear k3 hpsA hz
    rw [rd_gTup]
    refine ⟨_, SqT.of hp2, rfl, _, _, rfl, _, _, rfl, rfl, ?_⟩
    subst hR2
    refine if_as fun A B hA hB => ?_
    simp only [rdA, rd_forL, rd_forR, rd_compT, rd_compL, rd_compR, rd_tyes, rd_kget, rd_kin, rd_fldP, rd_make, rd_slS, cx_w, cx_w2]
    intro p3 hp3
    have s5 := Same.new (o := HO.tup [V.ty "list", V.ty "tuple"]) hp3
    have hp5 : upd H4 p3 (HO.tup [V.ty "list", V.ty "tuple"]) p3 = some (.tup [V.ty "list", V.ty "tuple"]) := upd_same
    replace hz4 := s5 _ _ hz4
    replace sm := sm.trans s5
    replace hps := wps_to s5.tk hps
    generalize upd H4 p3 (HO.tup [V.ty "list", V.ty "tuple"]) = H5 at hp5 hz4 sm hps ⊢
    clear s5 hp3 hp2
    obtain ⟨x, y, n⟩ := pp
    have hw1 : wsum [(x, y, n)] = n := by simp [wsum]
    rw [hw1] at hm
    rcases kind_of (K := K) hal with ⟨i, e1, e2, e3⟩ | ⟨i, e1, e2, e3⟩ | ⟨a, b, xs, ys, n', T, bl, bt, e1, e2, e3, hals, kA, kL, kT, hk⟩
    · simp only at e1 e2 e3
      subst e1 e2 e3
      refine ⟨_, _, hp5, "int", .int i, false, rfl, iteF ?_⟩
      subst hB
      clear hA
      refine if_as fun A B hA hB => ?_
      simp only [rdA, rd_forL, rd_forR, rd_compT, rd_compL, rd_compR, rd_tyes, rd_kget, rd_kin, rd_fldP, rd_make, rd_slS, cx_w, cx_w2]
      refine ⟨_, .int i, false, rfl, iteF ?_⟩
      subst hB
      clear hA
      refine if_as fun A B hA hB => ?_
      simp only [rdA, rd_forL, rd_forR, rd_compT, rd_compL, rd_compR, rd_tyes, rd_kget, rd_kin, rd_fldP, rd_make, rd_slS, cx_w, cx_w2]
      refine ⟨_, .int i, false, rfl, iteF ?_⟩
      subst hB
      clear hA
      refine if_as fun A B hA hB => ?_
      simp only [rdA, rd_forL, rd_forR, rd_compT, rd_compL, rd_compR, rd_tyes, rd_kget, rd_kin, rd_fldP, rd_make, rd_slS, cx_w, cx_w2]
      rw [show decide False = false from rfl]
      refine iteF ?_
      subst hB
      clear hA
      refine if_as fun A B hA hB => ?_
      simp only [rdA, rd_forL, rd_forR, rd_compT, rd_compL, rd_compR, rd_tyes, rd_kget, rd_kin, rd_fldP, rd_make, rd_slS, cx_w, cx_w2]
      refine ⟨_, .int i, _, kit_same K "int", iteF ⟨_, .int i, false, kit_ib K, iteF ?_⟩⟩
      refine iteNS trivial ?_
      subst hB
      simp only [rdA, rd_forL, rd_forR, rd_compT, rd_compL, rd_compR, rd_tyes, rd_kget, rd_kin, rd_fldP, rd_make, rd_slS, cx_w, cx_w2]
      exact ⟨wsum ps, by omega, zs, ps, _, _, _, rfl, sm, hz4, hps, rfl, by omega⟩
    · simp only at e1 e2 e3
      subst e1 e2 e3
      refine ⟨_, _, hp5, "bool", .bl i, false, rfl, iteF ?_⟩
      subst hB
      clear hA
      refine if_as fun A B hA hB => ?_
      simp only [rdA, rd_forL, rd_forR, rd_compT, rd_compL, rd_compR, rd_tyes, rd_kget, rd_kin, rd_fldP, rd_make, rd_slS, cx_w, cx_w2]
      refine ⟨_, .bl i, false, rfl, iteF ?_⟩
      subst hB
      clear hA
      refine if_as fun A B hA hB => ?_
      simp only [rdA, rd_forL, rd_forR, rd_compT, rd_compL, rd_compR, rd_tyes, rd_kget, rd_kin, rd_fldP, rd_make, rd_slS, cx_w, cx_w2]
      refine ⟨_, .bl i, true, kit_same K "bool", iteT ?_⟩
      subst hA
      clear hB
      refine if_as fun A B hA hB => ?_
      simp only [rdA, rd_forL, rd_forR, rd_compT, rd_compL, rd_compR, rd_tyes, rd_kget, rd_kin, rd_fldP, rd_make, rd_slS, cx_w, cx_w2]
      refine ⟨_, .bl i, true, kit_same K "bool", iteF ?_⟩
      rw [rd_neB]
      refine ⟨_, rfl, iteNS rfl ?_⟩
      subst hB
      simp only [rdA, rd_forL, rd_forR, rd_compT, rd_compL, rd_compR, rd_tyes, rd_kget, rd_kin, rd_fldP, rd_make, rd_slS, cx_w, cx_w2]
      exact ⟨wsum ps, by omega, zs, ps, _, _, _, rfl, sm, hz4, hps, rfl, by omega⟩
    · simp only at e1 e2 e3
      subst e1 e2 e3
      obtain ⟨tA, tB, sqA, sqB⟩ := hk H5 sm
      obtain ⟨qs, rfl, rfl, hsum, hqs⟩ := alks_get hals
      refine ⟨_, _, hp5, T, tB, true, kA, iteT ?_⟩
      subst hA
      clear hB
      refine seq_as fun R2 hR2 => ?_
      refine if_as fun A B hA hB => ?_
      simp only [rdA, rd_forL, rd_forR, rd_compT, rd_compL, rd_compR, rd_tyes, rd_kget, rd_kin, rd_fldP, rd_make, rd_slS, cx_w, cx_w2]
      refine ⟨_, tA.of, bl, kL, _, tB.of, bl, kL, ?_⟩
      rw [rd_neB]
      refine ⟨_, rfl, iteNS rfl ?_⟩
      subst hB
      clear hA
      simp only [rdA, rd_forL, rd_forR, rd_compT, rd_compL, rd_compR, rd_tyes, rd_kget, rd_kin, rd_fldP, rd_make, rd_slS, cx_w, cx_w2]
      subst hR2
      refine seq_as fun R2 hR2 => ?_
      refine if_as fun A B hA hB => ?_
      simp only [rdA, rd_forL, rd_forR, rd_compT, rd_compL, rd_compR, rd_tyes, rd_kget, rd_kin, rd_fldP, rd_make, rd_slS, cx_w, cx_w2]
      refine ⟨_, tA.of, bt, kT, _, tB.of, bt, kT, ?_⟩
      rw [rd_neB]
      refine ⟨_, rfl, iteNS rfl ?_⟩
      subst hB
      clear hA
      simp only [rdA, rd_forL, rd_forR, rd_compT, rd_compL, rd_compR, rd_tyes, rd_kget, rd_kin, rd_fldP, rd_make, rd_slS, cx_w, cx_w2]
      subst hR2
      refine seq_as fun R2 hR2 => ?_
      refine if_as fun A B hA hB => ?_
      simp only [rdA, rd_forL, rd_forR, rd_compT, rd_compL, rd_compR, rd_tyes, rd_kget, rd_kin, rd_fldP, rd_make, rd_slS, cx_w, cx_w2]
      refine ⟨_, sqA, _, sqB, iteNS (by simp) ?_⟩
      subst hB
      clear hA
      simp only [rdA, rd_forL, rd_forR, rd_compT, rd_compL, rd_compR, rd_tyes, rd_kget, rd_kin, rd_fldP, rd_make, rd_slS, cx_w, cx_w2]
      subst hR2
      simp only [rdA, rd_forL, rd_forR, rd_compT, rd_compL, rd_compR, rd_tyes, rd_kget, rd_kin, rd_fldP, rd_make, rd_slS, cx_w, cx_w2]
      have hql : qs.length ≤ n' := by
        rw [← hsum]
        clear hsum hk hm sqA sqB hal hals
        induction qs with
        | nil => simp
        | cons q qs ih =>
          have h1 := (hqs q (List.mem_cons_self ..)).pos
          have h2 := ih fun q hq => hqs q (List.mem_cons_of_mem _ hq)
          simp only [List.map_cons, List.sum_cons, List.length_cons]; omega
      have hzl := wps_len hps
      refine ⟨_, sqB, by omega, by rw [List.length_map]; omega, ?_⟩
      rw [Int.toNat_natCast]
      refine for_range (lo := 0) (n := (qs.map (·.2.1)).length) (SoIn H u v (.ref a) (.ref b) l ps qs) ⟨zs, o5, rfl, sm, hz4, by simpa using hps⟩ ?_ ?_
      · rintro j σ H6 hj ⟨zs, o5, rfl, sm6, hz6, hp6⟩
        rw [List.length_map] at hj
        obtain ⟨_, _, sqA6, sqB6⟩ := hk H6 sm6
        have hqj : qs[j]? = some qs[j] := List.getElem?_eq_getElem hj
        simp only [rdA, rd_forT, rd_forL, rd_forR, rd_seq, rd_if, rd_kget, rd_kin, rd_fldP, rd_make, rd_slS, cx_w, cx_w2]
        refine ⟨⟨_, SqL.of hz6⟩, ix_any (v := qs[j].1) sqA6 (by rw [List.getElem?_map, hqj]; rfl) (ix_any (v := qs[j].2.1) sqB6 (by rw [List.getElem?_map, hqj]; rfl) ?_)⟩
        intro p6 hp6n
        have s7 := Same.new (o := HO.tup [qs[j].1, qs[j].2.1]) hp6n
        have hzl6 := wps_len hp6
        rw [wsum_app] at hzl6
        have hwt : wsum (qs.take j) ≤ n' := by
          have e := wsum_app (qs.take j) (qs.drop j)
          rw [List.take_append_drop] at e
          have : wsum qs = n' := hsum
          omega
        refine ⟨_, s7 _ _ hz6, Nat.lt_of_le_of_lt (by omega : zs.length ≤ 16000010) (by decide), _, _, rfl, (sm6.trans s7).mut hlH, upd_same, ?_⟩
        have k7 := s7.tk.trans (Tk.lst (o := .lst (zs ++ [V.ref p6])) (s7 _ _ hz6))
        have hne : p6 ≠ l := (ne_of_none hz6 hp6n).symm
        rw [List.take_add_one, hqj, ← List.append_assoc]
        exact prd_app (wps_to k7 hp6) (.cons ⟨p6, rfl, (upd_ne hne).trans upd_same, hqs _ (List.getElem_mem hj)⟩ .nil)
      · rintro σ H6 ⟨zs, o5, rfl, sm6, hz6, hp6⟩
        rw [List.length_map, List.take_length] at hp6
        refine ⟨wsum (ps ++ qs), ?_, zs, ps ++ qs, _, _, _, rfl, sm6, hz6, hp6, rfl, ?_⟩
        · rw [wsum_app, show wsum qs = n' from hsum]; omega
        · rw [wsum_app, show wsum qs = n' from hsum]; omega
end
end Nt
end CN
end
section
set_option Elab.async false
set_option linter.all false
set_option maxRecDepth 100000
set_option maxHeartbeats 4000000
namespace CN
open PySem L2
seal L2.PE L2.PT L2.PS L2.PSs L2.PA L2.PPs L2.PW L2.PC L2.PG L2.PGs L2.PI L2.PO L2.PTs
namespace Nt
noncomputable abbrev s_L_told_from : Stmt := top 14
noncomputable abbrev p_L_told_from : List Str := ["_law_graph"]
theorem sc_L_told_from : FnScope ["_law_graph", "_law_numbers", "_law_nodes", "_law_todo", "_law_here", "_law_switch", "_law_low", "_law_high", "_law_rest"] ["_law_graph"] (defScope s_L_told_from) := ⟨rfl, rfl, rfl, by decide +kernel, rfl, by decide +kernel, by decide +kernel⟩
theorem comp_filt {K : PySem.W.Frag} {a D : Addr} {xs : List V} {ti : TT} {te : TE} {σ : St} {H1 : Hp} {Q : VK} (hx : H1 a = some (.lst xs)) (hD : H1 D = none) (hn : xs.length < 1000) (f : V → Bool)
    (ht : ∀ x ∈ xs, ∀ (o : HO) (R : Bool → Hp → Prop), R (f x) (upd H1 D o) → ti (some x :: σ) (upd H1 D o) R) (he : ∀ x H (R : VK), R x H → te (some x :: σ) H R)
    (q : Q (.ref D) (upd H1 D (.lst (xs.filter f)))) : tCompIn (Itl K a) D ti te σ Q H1 := by
  have ne : a ≠ D := ne_of_none hx hD
  refine comp_list (xs := xs) (fun i ys H => ys = (xs.take i).filter f ∧ H = upd H1 D (.lst ys)) ⟨rfl, rfl⟩ (fun i ys H _ h => ?_) (fun i x ys H e h => ?_) (fun ys H h => ?_)
  · rw [h.2]; exact SqL.of (by rw [upd_ne ne]; exact hx)
  · obtain ⟨rfl, rfl⟩ := h
    have hi : i < xs.length := (List.getElem?_eq_some_iff.mp e).1
    have et : xs.take (i + 1) = xs.take i ++ [x] := by rw [List.take_add_one, e]; rfl
    refine ht x (List.mem_of_getElem? e) _ _ ?_
    cases hf : f x with
    | true =>
      refine iteT (he x _ _ ⟨upd_same, small1000 (Nat.le_of_lt (Nat.lt_of_le_of_lt (List.length_filter_le _ _) (Nat.lt_of_le_of_lt (List.length_take_le' _ _) hn))), _, ?_, rfl, hi, ?_, ?_⟩)
      · omega
      · rw [et, List.filter_append]; simp [hf]
      · rw [upd_upd]
    | false =>
      refine iteF ⟨_, ?_, rfl, hi, ?_, rfl⟩
      · omega
      · rw [et, List.filter_append]; simp [hf]
  · obtain ⟨rfl, rfl⟩ := h
    rw [List.take_length]
    exact q
noncomputable def vN (l : List Nat) : List V := l.map fun q => V.int (q : Nat)
inductive TfInv (H : Hp) (gv : V) (ld lo : Addr) (ns : List Nd) (p : Nat) (m : Nat) (σ : St) (H2 : Hp) : Prop
  | mk (lw : Addr) (w : Ws) (st : List Nat) (os : List V) (kvs : List (Key × V)) (o4 o5 o6 o7 o8 : Option V) (h0 : σ = [some gv, some (.ref ld), some (.ref lo), some (.ref lw), o4, o5, o6, o7, o8]) (h1 : Same H H2) (h2 : H lw = none) (h3 : ld ≠ lw) (h4 : lo ≠ lw) (h5 : H2 ld = some (.dK kvs)) (h6 : H2 lo = some (.lst os)) (h7 : H2 lw = some (.lst (vN st.reverse))) (h8 : (∀ q : Nat, valV kvs (Sum.inl ((q : Nat) : Int)) = (w.num q).map fun x => V.int (x : Nat))) (h9 : kvs.length ≤ w.out.length + 2) (h10 : Paired (NdAt H2) os w.out) (h11 : Good ns w) (h12 : (∀ q ∈ st, Pl ns q)) (h13 : w.out.length + unn w (ns.length + 2) ≤ ns.length) (h14 : runs ns st w = visit ns (p + 1) p w0) (h15 : costs2 ns st w = m) (h16 : m ≤ 16000001) : TfInv H gv ld lo ns p m σ H2
section
variable {P : Program} {w : World} {K : PySem.W.Frag} {mg : Str → Option Value} {base : Heap}
noncomputable def spTold : Sp := fun vs H Q _ => ∃ (v : V) (g : List Nd × Nat), vs = [v] ∧ GrAt H v g ∧ GG g ∧ ∀ (t' lo' : Addr) (os : List V) H', H lo' = none → Same H H' → H' t' = some (.tup [.ref lo', .int ((graphOf g.1 g.2).2 : Nat)]) → H' lo' = some (.lst os) → Paired (NdAt H') os (graphOf g.1 g.2).1 → (graphOf g.1 g.2).1.length ≤ g.1.length → Q (.ref t') H'
theorem ok_told {f : Addr} {fd : FuncData} (BT : Bt mg) (D : Df K mg "_law_told_from" s_L_told_from p_L_told_from f fd) : FnOk P w K mg base CX0 1 f fd p_L_told_from spTold := by
  refine D.F.ok sc_L_told_from (fun vs H Q E h => ?_) (fun cdv A outer s H vs Q E hr h => ?_)
  · obtain ⟨v, g, rfl, _⟩ := h
    rfl
  · obtain ⟨v, ⟨ns, p⟩, rfl, hg, gg, q⟩ := h
    have hu := hu_of hr
    obtain ⟨t, l, xs, rfl, ht, hl, hxs⟩ := hg.ex
    have hN : Net ns := gg.net
    have ht : H t = some (HO.tup [V.ref l, V.int (p : Nat)]) := ht
    have hxs : Paired (NdAt H) xs ns := hxs
    have hp : Pl ns p := gg.root
    have hz : ns.length ≤ 4000000 := gg.len
    refine ⟨_, (pss_cons (ps_set (i := 1) sc_L_told_from.nd rfl (by first | exact Or.inl rfl | exact Or.inr rfl) (pe_dispI [(0, 0, ⟨146, 20, 146, 21⟩, ⟨146, 23, 146, 24⟩), (1, 1, ⟨146, 26, 146, 27⟩, ⟨146, 29, 146, 30⟩)] (by rfl) (by rfl)))
    (pss_cons (ps_set (i := 2) sc_L_told_from.nd rfl (by first | exact Or.inl rfl | exact Or.inr rfl) (pe_lst pa_nil))
    (pss_cons (ps_set (i := 3) sc_L_told_from.nd rfl (by first | exact Or.inl rfl | exact Or.inr rfl) (pe_lst (pa_cons (pe_ix ix_tup (pv 0) pe_int (fun _ _ => rfl)) pa_nil)))
    (pss_cons (ps_while PassesOwn.never (pt_cmpR (op_neNil hr) (pv 3) (pe_lst pa_nil) (nomark _))
      (pss_cons (ps_set (i := 4) sc_L_told_from.nd rfl (by first | exact Or.inl rfl | exact Or.inr rfl) (pe_bm0 PySem.F.plainAttrs_list PySem.F.slot_list_pop PySem.F.type_list_pop mt_pop (pv 3)))
      (pss_one (ps_if (pt_cmp (pc_dnotin hu (pv 4) (pv 1)))
        (pss_cons (ps_asg (pe_ix ix_list (pe_ix ix_tup (pv 0) pe_int (fun _ _ => rfl)) (pe_op op_sub (pv 4) pe_int) (fun _ _ => rfl)) (pg_tup rfl (pgs_cons (pg_name (i := 5) sc_L_told_from.nd rfl (by first | exact Or.inl rfl | exact Or.inr rfl)) (pgs_cons (pg_name (i := 6) sc_L_told_from.nd rfl (by first | exact Or.inl rfl | exact Or.inr rfl)) (pgs_cons (pg_name (i := 7) sc_L_told_from.nd rfl (by first | exact Or.inl rfl | exact Or.inr rfl)) pgs_nil)))))
        (pss_cons (ps_setC (i := 8) sc_L_told_from.nd rfl (by first | exact Or.inl rfl | exact Or.inr rfl) rfl (pi_list (pe_lst (pa_cons (pv 7) (pa_cons (pv 6) pa_nil)))) (csc_of (M := ["_law_graph", "_law_numbers", "_law_nodes", "_law_todo", "_law_here", "_law_switch", "_law_low", "_law_high", "_law_rest"]) rfl (by decide +kernel) (by decide +kernel)) (fun _ _ _ _ => (pts_one (pt_cmp (pc_dnotin hu (pv 0) (pv 2))))) (fun _ _ _ _ => (pv 0)) (by rfl))
        (pss_one (ps_if (pt_cmpR (op_eqNil hr) (pv 8) (pe_lst pa_nil) (nomark _))
          (pss_cons (ps_dput hu (pv 1) (pv 4) (pe_op op_add (pe_callB call_len_seq (by rfl) BT.n_len bo_len (pa_cons (pv 2) pa_nil)) pe_int) rfl)
          (pss_one (ps_expr (pe_bm PySem.F.plainAttrs_list PySem.F.slot_list_append PySem.F.type_list_append mt_append (pv 2) (pa_cons (pe_tup (pa_cons (pv 5) (pa_cons (pe_dget hu (pv 1) (pv 6) (fun _ _ => rfl)) (pa_cons (pe_dget hu (pv 1) (pv 7) (fun _ _ => rfl)) pa_nil)))) pa_nil)))))
          (pss_one (ps_set (i := 3) sc_L_told_from.nd rfl (by first | exact Or.inl rfl | exact Or.inr rfl) (pe_op op_cat (pe_op op_cat (pv 3) (pe_lst (pa_cons (pv 4) pa_nil))) (pv 8))))))))
        pss_nil))))
    (pss_one (ps_ret (pe_tup (pa_cons (pv 2) (pa_cons (pe_dget hu (pv 1) (pe_ix ix_tup (pv 0) pe_int (fun _ _ => rfl)) (fun _ _ => rfl)) pa_nil))))))))), ?_⟩
    refine seq_as fun R1 hR1 => ?_
    simp only [rdA, rd_dispI, kvI, rd_forL, rd_forR, rd_compT, rd_compL, rd_compR, rd_tyes, rd_kget, rd_kin, rd_fldP, rd_make, rd_slS, cx_w, cx_w2]
    intro ld hld
    subst hR1
    refine seq_as fun R1 hR1 => ?_
    simp only [rdA, rd_forL, rd_forR, rd_compT, rd_compL, rd_compR, rd_tyes, rd_kget, rd_kin, rd_fldP, rd_make, rd_slS, cx_w, cx_w2]
    intro lo hlo
    have s1 := Same.new (o := HO.dK (mergeK [] [(Sum.inl 0, V.int 0), (Sum.inl 1, V.int 1)])) hld
    have s2 := Same.new (o := HO.lst []) hlo
    subst hR1
    refine seq_as fun R1 hR1 => ?_
    simp only [rdA, rd_forL, rd_forR, rd_compT, rd_compL, rd_compR, rd_tyes, rd_kget, rd_kin, rd_fldP, rd_make, rd_slS, cx_w, cx_w2]
    refine ⟨_, SqT.of (s2 _ _ (s1 _ _ ht)), _, atI1 _ _ _, fun lw hlw => ?_⟩
    subst hR1
    refine seq_as fun R1 hR1 => ?_
    have s3 := Same.new (o := HO.lst [V.int (p : Nat)]) hlw
    have hlo0 : H lo = none := s1.free hlo
    have n1 : ld ≠ lo := ne_of_none upd_same hlo
    have hz1 := unn0 ns.length
    have hc := costs2_one hN hp
    refine ⟨TfInv H (.ref t) ld lo ns p, ⟨_, lw, w0, [p], [], _, none, none, none, none, none, rfl, s1.trans (s2.trans s3), s1.free (s2.free hlw), ne_of_none (s2 _ _ upd_same) hlw, ne_of_none upd_same hlw, s3 _ _ (s2 _ _ upd_same), s3 _ _ upd_same, upd_same, fun q => ?_, by decide, .nil, good0 ns, by simpa using hp, by simpa [w0] using hz1, rfl, rfl, Nat.le_trans hc (by omega)⟩, ?_⟩
    · simp only [w0]
      by_cases e0 : q = 0
      · subst e0; rfl
      · by_cases e1 : q = 1
        · subst e1; rfl
        · rw [if_neg e0, if_neg e1]
          have h0 : ¬ (Sum.inl ((0 : Int)) : Key) = Sum.inl ((q : Nat) : Int) := fun h => e0 (by have := Sum.inl.inj h; omega)
          have h1 : ¬ (Sum.inl ((1 : Int)) : Key) = Sum.inl ((q : Nat) : Int) := fun h => e1 (by have := Sum.inl.inj h; omega)
          show valV [((Sum.inl 0 : Key), V.int 0), (Sum.inl 1, V.int 1)] _ = _
          rw [valV_neg h0, valV_neg h1]; rfl
    · clear s1 s2 s3 hlw lw hlo hz1 hc
      rintro m σ H2 ⟨lw, w, st, os, kvs, o4, o5, o6, o7, o8, rfl, sm, hlw, n2, n3, hd, ho, hw, hnum, hkl, hos, g, hst, hun, hrun, hm, hm2⟩
      simp only [rdA, rd_forL, rd_forR, rd_compT, rd_compL, rd_compR, rd_tyes, rd_kget, rd_kin, rd_fldP, rd_make, rd_slS, cx_w, cx_w2]
      intro p1 hp1
      have z := Same.new (o := HO.lst []) hp1
      refine ⟨_, z _ _ hw, upd_same, ?_⟩
      replace hd := z _ _ hd
      replace ho := z _ _ ho
      replace hw := z _ _ hw
      replace sm := sm.trans z
      replace hos := nds_to z.tk hos
      generalize upd H2 p1 (HO.lst []) = H3 at hd ho hw sm hos ⊢
      clear z hp1 H2 p1
      refine ite2 (fun he => ?_) (fun he => ?_)
      · refine ⟨fun σ' H' => ∃ m', m' < m ∧ TfInv H (.ref t) ld lo ns p m' σ' H', fun _ _ h => h, ?_⟩
        cases st with
        | nil => simp [vN] at he
        | cons t1 r =>
          rw [show vN (t1 :: r).reverse = vN r.reverse ++ [V.int (t1 : Nat)] by simp [vN]] at hw
          clear hR1
          refine seq_as fun R2 hR2 => ?_
          simp only [rdA, rd_forL, rd_forR, rd_compT, rd_compL, rd_compR, rd_tyes, rd_kget, rd_kin, rd_fldP, rd_make, rd_slS, cx_w, cx_w2]
          refine ⟨⟨_, SqL.of hw⟩, _, hw, _, last_of _ _, ?_⟩
          rw [drop_of]
          have kk : Tk H3 _ := Tk.lst (o := .lst (vN r.reverse)) hw
          replace hd : upd H3 lw (.lst (vN r.reverse)) ld = _ := (upd_ne n2).trans hd
          replace ho : upd H3 lw (.lst (vN r.reverse)) lo = _ := (upd_ne n3).trans ho
          replace hos := nds_to kk hos
          replace sm : Same H (upd H3 lw (.lst (vN r.reverse))) := sm.mut hlw
          have hw4 := @upd_same H3 lw (.lst (vN r.reverse))
          clear kk hw
          generalize upd H3 lw (.lst (vN r.reverse)) = H4 at hd ho hw4 sm hos ⊢
          subst hR2
          refine if_as fun A B hA hB => ?_
          simp only [rdA, rd_forL, rd_forR, rd_compT, rd_compL, rd_compR, rd_tyes, rd_kget, rd_kin, rd_fldP, rd_make, rd_slS, cx_w, cx_w2]
          refine ⟨_, DGet.k (k := Sum.inl ((t1 : Nat) : Int)) hd, ?_⟩
          rw [hnum t1]
          have plt := hst t1 (List.mem_cons_self ..)
          have hst2 : ∀ q ∈ r, Pl ns q := fun q hq => hst q (List.mem_cons_of_mem _ hq)
          cases hnt : w.num t1 with
          | some x =>
            obtain ⟨h1, h2⟩ := run2_pop (ns := ns) (r := r) (p := t1) (w := w) (by rw [hnt]; rfl)
            refine iteF ?_
            subst hB
            simp only [rdA, rd_forL, rd_forR, rd_compT, rd_compL, rd_compR, rd_tyes, rd_kget, rd_kin, rd_fldP, rd_make, rd_slS, cx_w, cx_w2]
            exact ⟨costs2 ns r w, by omega, lw, w, r, os, kvs, _, _, _, _, _, rfl, sm, hlw, n2, n3, hd, ho, hw4, hnum, hkl, hos, g, hst2, hun, by rw [← h1]; exact hrun, rfl, by omega⟩
          | none =>
            obtain ⟨nd, e, o1, o2, po, pn⟩ := hN.way plt (not2 g hnt)
            obtain ⟨v, hv, tn, rfl, htn⟩ := nds_get (nds_to sm.tk hxs) e
            have hat : atI xs ((t1 : Nat) - 2 : Int) = some (.ref tn) := by
              have := not2 g hnt
              rw [show ((t1 : Nat) : Int) - 2 = ((t1 - 2 : Nat) : Int) by omega]; exact atI_nat hv
            refine iteT ?_
            subst hA
            clear hB
            refine seq_as fun R2 hR2 => ?_
            simp only [rdA, rd_forL, rd_forR, rd_compT, rd_compL, rd_compR, rd_tyes, rd_kget, rd_kin, rd_fldP, rd_make, rd_slS, cx_w, cx_w2]
            refine ⟨_, SqT.of (sm _ _ ht), _, atI0 _ _, ?_⟩
            simp only [rdA, rd_forL, rd_forR, rd_compT, rd_compL, rd_compR, rd_tyes, rd_kget, rd_kin, rd_fldP, rd_make, rd_slS, cx_w, cx_w2]
            refine ⟨_, SqL.of (sm _ _ hl), _, hat, ?_⟩
            rw [rd_gTup]
            refine ⟨_, SqT.of htn, rfl, _, _, rfl, _, _, rfl, _, _, rfl, rfl, ?_⟩
            subst hR2
            refine seq_as fun R2 hR2 => ?_
            simp only [rdA, rd_forL, rd_forR, rd_compT, rd_compL, rd_compR, rd_tyes, rd_kget, rd_kin, rd_fldP, rd_make, rd_slS, cx_w, cx_w2]
            intro q1 hq1
            have z := Same.new (o := HO.lst [V.int (nd.on : Nat), V.int (nd.off : Nat)]) hq1
            refine ⟨⟨_, SqL.of upd_same⟩, fun D hD => ?_⟩
            have hd5 := z _ _ hd
            have hfl : [V.int (nd.on : Nat), V.int (nd.off : Nat)].filter (fun v => match v with | .int i => (w.num i.toNat).isNone | _ => false) = vN (rest2 w nd).reverse := by
              cases h1 : w.num nd.off <;> cases h2 : w.num nd.on <;> simp [List.filter_cons, rest2, vN, h1, h2]
            refine comp_filt (f := fun v => match v with | .int i => (w.num i.toNat).isNone | _ => false) upd_same hD (show 2 < 1000 by decide) (fun x hx o R hR => ?_) (fun x H R hR => ?_) ?_
            · have hd6 : upd (upd H4 q1 (HO.lst [V.int (nd.on : Nat), V.int (nd.off : Nat)])) D o ld = _ := (upd_ne (ne_of_none hd5 hD)).trans hd5
              obtain ⟨i, rfl⟩ : ∃ i : Nat, x = .int (i : Nat) := by
                rcases List.mem_cons.mp hx with h | h
                · exact ⟨_, h⟩
                · exact ⟨_, List.mem_singleton.mp h⟩
              simp only [rdA, rd_forL, rd_forR, rd_compT, rd_compL, rd_compR, rd_tyes, rd_seq, rd_if, rd_kget, rd_kin, rd_fldP, rd_make, rd_slS, cx_w, cx_w2]
              refine ⟨_, DGet.k (k := Sum.inl ((i : Nat) : Int)) hd6, ?_⟩
              rw [hnum i]
              simp only [Int.toNat_natCast] at hR
              cases hni : w.num i with
              | none => rw [hni] at hR; exact hR
              | some y => rw [hni] at hR; exact hR
            · simp only [rdA, rd_forL, rd_forR, rd_compT, rd_compL, rd_compR, rd_tyes, rd_seq, rd_if, rd_kget, rd_kin, rd_fldP, rd_make, rd_slS, cx_w, cx_w2]; exact hR
            rw [hfl]
            have z2 := Same.new (o := HO.lst (vN (rest2 w nd).reverse)) hD
            have zz := z.trans z2
            replace hd := zz _ _ hd
            replace ho := zz _ _ ho
            replace hw4 := zz _ _ hw4
            replace sm := sm.trans zz
            replace hos := nds_to zz.tk hos
            have hrs := @upd_same (upd H4 q1 (HO.lst [V.int (nd.on : Nat), V.int (nd.off : Nat)])) D (HO.lst (vN (rest2 w nd).reverse))
            generalize upd (upd H4 q1 (HO.lst [V.int (nd.on : Nat), V.int (nd.off : Nat)])) D (HO.lst (vN (rest2 w nd).reverse)) = H5 at hd ho hw4 sm hos hrs ⊢
            clear z z2 zz hD hq1 hd5 htn hfl
            subst hR2
            refine if_as fun A B hA hB => ?_
            simp only [rdA, rd_forL, rd_forR, rd_compT, rd_compL, rd_compR, rd_tyes, rd_kget, rd_kin, rd_fldP, rd_make, rd_slS, cx_w, cx_w2]
            intro p3 hp3
            have z := Same.new (o := HO.lst []) hp3
            refine ⟨_, z _ _ hrs, upd_same, ?_⟩
            replace hd := z _ _ hd
            replace ho := z _ _ ho
            replace hw4 := z _ _ hw4
            replace sm := sm.trans z
            replace hos := nds_to z.tk hos
            replace hrs := z _ _ hrs
            generalize upd H5 p3 (HO.lst []) = H6 at hd ho hw4 sm hos hrs ⊢
            clear z hp3
            have hlen2 := costs2_len ns (t1 :: r) w
            refine ite2 (fun hem => ?_) (fun hem => ?_)
            · subst hA
              clear hB
              refine seq_as fun R2 hR2 => ?_
              simp only [rdA, rd_forL, rd_forR, rd_compT, rd_compL, rd_compR, rd_tyes, rd_kget, rd_kin, rd_fldP, rd_make, rd_slS, cx_w, cx_w2]
              have hr0 : rest2 w nd = [] := by simpa [vN] using hem
              obtain ⟨xo, hno⟩ : ∃ x, w.num nd.off = some x := by
                cases h : w.num nd.off with
                | none => simp [rest2, h] at hr0
                | some x => exact ⟨x, rfl⟩
              obtain ⟨xn, hnn⟩ : ∃ x, w.num nd.on = some x := by
                cases h : w.num nd.on with
                | none => simp [rest2, h] at hr0
                | some x => exact ⟨x, rfl⟩
              have hos1 : (w.num nd.off).isSome = true := by rw [hno]; rfl
              have hos2 : (w.num nd.on).isSome = true := by rw [hnn]; rfl
              obtain ⟨h1, h2⟩ := run2_add (r := r) hnt e hos1 hos2
              have hol : os.length = w.out.length := Paired.length hos
              refine ⟨_, .inl (SqL.of ho), _, DPut.k (k := Sum.inl ((t1 : Nat) : Int)) hd (Nat.lt_of_le_of_lt (by omega : kvs.length ≤ 10000002) (by decide)), ?_⟩
              rw [show ((os.length : Nat) : Int) + 2 = ((w.out.length + 2 : Nat) : Int) by omega]
              have hlp := length_putK kvs (Sum.inl ((t1 : Nat) : Int)) (V.int ((w.out.length + 2 : Nat) : Int))
              have hnum2 : ∀ q : Nat, valV (putK kvs (Sum.inl ((t1 : Nat) : Int)) (V.int ((w.out.length + 2 : Nat) : Int))) (Sum.inl ((q : Nat) : Int)) = ((w.add t1 nd).num q).map fun x => V.int (x : Nat) := fun q => by
                rw [valV_put]
                by_cases eq : q = t1
                · subst eq
                  rw [if_pos rfl, Ws.add_self]; rfl
                · rw [if_neg (fun h => eq (by have := Sum.inl.inj h; omega)), Ws.add_other w nd eq]; exact hnum q
              generalize putK kvs (Sum.inl ((t1 : Nat) : Int)) (V.int ((w.out.length + 2 : Nat) : Int)) = kv2 at hlp hnum2 ⊢
              have k5 : Tk H6 (upd H6 ld (.dK kv2)) := fun b ys e' => by
                rw [upd_ne (ne_of e' hd (by intro z; cases z))]; exact e'
              have hd7 := @upd_same H6 ld (.dK kv2)
              replace ho : upd H6 ld (.dK kv2) lo = _ := (upd_ne n1.symm).trans ho
              replace hw4 : upd H6 ld (.dK kv2) lw = _ := (upd_ne n2.symm).trans hw4
              replace hos := nds_to k5 hos
              replace sm : Same H (upd H6 ld (.dK kv2)) := sm.mut hld
              clear k5 hd hrs
              generalize upd H6 ld (.dK kv2) = H7 at hd7 ho hw4 hos sm ⊢
              have n1' : t1 ≠ nd.off := by omega
              have n2' : t1 ≠ nd.on := by omega
              have hvo : valV kv2 (Sum.inl ((nd.off : Nat) : Int)) = some (V.int (xo : Nat)) := by rw [hnum2, Ws.add_other w nd n1'.symm, hno]; rfl
              have hvn : valV kv2 (Sum.inl ((nd.on : Nat) : Int)) = some (V.int (xn : Nat)) := by rw [hnum2, Ws.add_other w nd n2'.symm, hnn]; rfl
              subst hR2
              simp only [rdA, rd_forL, rd_forR, rd_compT, rd_compL, rd_compR, rd_tyes, rd_kget, rd_kin, rd_fldP, rd_make, rd_slS, cx_w, cx_w2]
              refine ⟨⟨_, SqL.of ho⟩, _, by rw [← hvo]; exact DGet.k (k := Sum.inl ((nd.off : Nat) : Int)) hd7, _, by rw [← hvn]; exact DGet.k (k := Sum.inl ((nd.on : Nat) : Int)) hd7, fun tp htp => ?_⟩
              have s4 := Same.new (o := HO.tup [V.int nd.sw, V.int (xo : Nat), V.int (xn : Nat)]) htp
              have htp3 : upd H7 tp (HO.tup [V.int nd.sw, V.int (xo : Nat), V.int (xn : Nat)]) tp = some (HO.tup [V.int nd.sw, V.int (xo : Nat), V.int (xn : Nat)]) := upd_same
              replace ho := s4 _ _ ho
              replace hd7 := s4 _ _ hd7
              replace hw4 := s4 _ _ hw4
              replace hos := nds_to s4.tk hos
              replace sm := sm.trans s4
              generalize upd H7 tp (HO.tup [V.int nd.sw, V.int (xo : Nat), V.int (xn : Nat)]) = H8 at htp3 ho hd7 hw4 hos sm ⊢
              refine ⟨_, ho, Nat.lt_of_le_of_lt (by omega : os.length ≤ 10000000) (by decide), ?_⟩
              have k4 : Tk H8 _ := Tk.lst (o := .lst (os ++ [V.ref tp])) ho
              have hua := unn_add (w := w) (N := ns.length + 2) (p := t1) (nd := nd) plt hnt
              have hal : (w.add t1 nd).out = w.out ++ [⟨nd.sw, xo, xn⟩] := by simp only [Ws.add, hno, hnn, Option.getD_some]
              have hal2 : (w.add t1 nd).out.length = w.out.length + 1 := by rw [hal]; simp
              refine ⟨costs2 ns r (w.add t1 nd), by omega, lw, w.add t1 nd, r, os ++ [V.ref tp], kv2, _, _, _, _, _, rfl, sm.mut hlo0, hlw, n2, n3, (upd_ne n1).trans hd7, upd_same, (upd_ne n3.symm).trans hw4, hnum2, by omega, ?_, g.add hN e (not2 g hnt) hnt hos1 hos2, hst2, by omega, by rw [h1]; exact hrun, rfl, by omega⟩
              rw [hal]
              exact nds_app (nds_to k4 hos) (.cons ⟨tp, rfl, k4 _ _ htp3⟩ .nil)
            · subst hB
              clear hA
              simp only [rdA, rd_forL, rd_forR, rd_compT, rd_compL, rd_compR, rd_tyes, rd_kget, rd_kin, rd_fldP, rd_make, rd_slS, cx_w, cx_w2]
              have hr0 : rest2 w nd ≠ [] := fun h => hem (by rw [h]; rfl)
              obtain ⟨h1, h2⟩ := run2_push (r := r) hN g plt hnt e hr0
              have hlen3 := costs2_len ns (rest2 w nd ++ t1 :: r) w
              have e2 : (rest2 w nd ++ t1 :: r).length = (rest2 w nd).length + r.length + 1 := by rw [List.length_append, List.length_cons]; omega
              have vl : ∀ l : List Nat, (vN l).length = l.length := fun l => List.length_map _
              have hb : (vN r.reverse).length ≤ 16000001 := by rw [vl, List.length_reverse]; omega
              intro p3 hp3
              have z := Same.new (o := HO.lst [V.int (t1 : Nat)]) hp3
              refine ⟨_, z _ _ hw4, _, upd_same, Nat.le_of_lt (Nat.lt_of_le_of_lt (by simp only [List.length_singleton]; omega : _ ≤ 16000002) (by decide)), fun q3 hq3 => ?_⟩
              have zz := z.trans (Same.new (o := HO.lst (vN r.reverse ++ [V.int (t1 : Nat)])) hq3)
              refine ⟨_, upd_same, _, zz _ _ hrs, Nat.le_of_lt (Nat.lt_of_le_of_lt (by rw [List.length_append, List.length_singleton, vl, vl, List.length_reverse, List.length_reverse]; omega : _ ≤ 16000001) (by decide)), fun q4 hq4 => ?_⟩
              have za := zz.trans (Same.new (o := HO.lst (vN r.reverse ++ [V.int (t1 : Nat)] ++ vN (rest2 w nd).reverse)) hq4)
              refine ⟨costs2 ns (rest2 w nd ++ t1 :: r) w, by omega, q4, w, rest2 w nd ++ t1 :: r, os, kvs, _, _, _, _, _, rfl, sm.trans za, sm.free (zz.free hq4), ne_of_none (zz _ _ hd) hq4, ne_of_none (zz _ _ ho) hq4, za _ _ hd, za _ _ ho, ?_, hnum, hkl, nds_to za.tk hos, g, fun q hq => ?_, hun, by rw [h1]; exact hrun, rfl, by omega⟩
              · rw [upd_same]; simp [vN]
              · rcases List.mem_append.mp hq with h | h
                · unfold rest2 at h
                  rcases List.mem_append.mp h with h | h
                  · split at h
                    · cases h
                    · rw [List.mem_singleton] at h; rw [h]; exact po
                  · split at h
                    · cases h
                    · rw [List.mem_singleton] at h; rw [h]; exact pn
                · exact hst q h
      · have hst0 : st = [] := by
          cases st with
          | nil => rfl
          | cons t r => exfalso; apply he; simp [vN]
        subst hst0
        subst hR1
        simp only [rdA, rd_forL, rd_forR, rd_compT, rd_compL, rd_compR, rd_tyes, rd_kget, rd_kin, rd_fldP, rd_make, rd_slS, cx_w, cx_w2]
        have hwv : w = visit ns (p + 1) p w0 := hrun
        obtain ⟨_, hs, _, _⟩ := visit_ok hN (p + 1) p w0 (Nat.lt_succ_self _) hp (good0 ns)
        rw [← hwv] at hs
        obtain ⟨x, hx⟩ := Option.isSome_iff_exists.mp hs
        have hg : graphOf ns p = (w.out, x) := by unfold graphOf; rw [← hwv, hx]; rfl
        have hv : valV kvs (Sum.inl ((p : Nat) : Int)) = some (V.int (x : Nat)) := by rw [hnum p, hx]; rfl
        refine ⟨_, SqT.of (sm _ _ ht), _, atI1 _ _ _, _, by rw [← hv]; exact DGet.k (k := Sum.inl ((p : Nat) : Int)) hd, fun t ht => ?_⟩
        have s4 := Same.new (o := HO.tup [V.ref lo, V.int (x : Nat)]) ht
        refine q t lo os _ hlo0 (sm.trans s4) ?_ (s4 _ _ ho) ?_ ?_
        · rw [hg]; exact upd_same
        · rw [hg]; exact nds_to s4.tk hos
        · rw [hg]; show w.out.length ≤ ns.length; omega
end
end Nt
end CN
end
section
set_option Elab.async false
set_option linter.all false
namespace CN
namespace Nt
noncomputable def comb (s k : Nat) (ρ : Set1) : Set1 := fun t => if 0 ≤ t ∧ t < (s : Nat) then k / 2 ^ (s - 1 - t.toNat) % 2 == 1 else ρ t
theorem comb_row {m k : Nat} {t : Int} (ρ : Set1) (h1 : 0 ≤ t) (h2 : t < (m : Nat)) : comb m k ρ t = rowS m k t := by
  unfold comb rowS stp
  rw [if_pos ⟨h1, h2⟩, if_pos ⟨h1, h2⟩, Nat.pow_div (by omega) (by decide), show m - (t.toNat + 1) = m - 1 - t.toNat by omega]
theorem comb_zero (ρ : Set1) (k : Nat) : comb 0 k ρ = ρ := by
  funext t; unfold comb; rw [if_neg (by omega)]
theorem comb_step (s k : Nat) (ρ : Set1) : comb (s + 1) (2 * k + (if ρ (s : Nat) = true then 1 else 0)) ρ = comb s k ρ := by
  funext t
  unfold comb
  by_cases h : 0 ≤ t ∧ t < ((s + 1 : Nat) : Int)
  · rw [if_pos h]
    by_cases e : t = (s : Nat)
    · subst e
      rw [if_neg (fun h : 0 ≤ ((s : Nat) : Int) ∧ ((s : Nat) : Int) < ((s : Nat) : Int) => Int.lt_irrefl _ h.2), Int.toNat_natCast, show s + 1 - 1 - s = 0 by omega, Nat.pow_zero, Nat.div_one]
      cases ρ (s : Nat) with
      | true => simp only [if_true]; rw [show (2 * k + 1) % 2 = 1 by omega]; rfl
      | false => simp only [Bool.false_eq_true, if_false]; rw [show (2 * k + 0) % 2 = 0 by omega]; rfl
    · have h2 : 0 ≤ t ∧ t < (s : Nat) := by omega
      rw [if_pos h2, show s + 1 - 1 - t.toNat = (s - 1 - t.toNat) + 1 by omega, Nat.pow_succ, Nat.mul_comm (2 ^ _) 2, ← Nat.div_div_eq_div_mul]
      congr 3
      split <;> omega
  · rw [if_neg h, if_neg (by omega)]
theorem comb_above {s k : Nat} {ρ ρ' : Set1} (h : ∀ t, (s : Int) - 1 < t → ρ t = ρ' t) (t : Int) (t0 : 0 ≤ t) : comb s k ρ t = comb s k ρ' t := by
  unfold comb
  by_cases h2 : 0 ≤ t ∧ t < (s : Nat)
  · rw [if_pos h2, if_pos h2]
  · rw [if_neg h2, if_neg h2]; exact h t (by omega)
noncomputable def Lv (a : Stm) (s : Nat) (ns : List Nd) (rs : List Nat) : Prop := ∀ (k r : Nat), rs[k]? = some r → Pl ns r ∧ ∀ ρ, val ns r ρ = tr a (comb s k ρ)
theorem Lv.ext {a : Stm} {s : Nat} {ns ns' : List Nd} {rs : List Nat} (h : Lv a s ns rs) (e : Ext ns ns') : Lv a s ns' rs := fun k r i => ⟨e.pl (h k r i).1, fun ρ => by rw [e.val (h k r i).1]; exact (h k r i).2 ρ⟩
theorem Lv.above {a : Stm} {N : Int} (ok : a.ok N) {s : Nat} {ns : List Nd} (hN : Net ns) {rs : List Nat} (h : Lv a (s + 1) ns rs) {k r : Nat} (i : rs[k]? = some r) : Above ns ((s : Nat) : Int) r :=
  hN.aboveOf (h k r i).1 fun ρ ρ' e => by
    rw [(h k r i).2, (h k r i).2]
    exact tr_agree ok fun t t0 _ => comb_above (fun t ht => e t (by omega)) t t0
theorem Lv.step {a : Stm} {s : Nat} {ns ns' : List Nd} {rs ms : List Nat} {off on r : Nat} (h : Lv a (s + 1) ns rs) (hm : Lv a s ns ms) (h1 : rs[2 * ms.length]? = some off) (h2 : rs[2 * ms.length + 1]? = some on) (m : Made ns (s : Nat) off on ns' r) : Lv a s ns' (ms ++ [r]) := by
  intro k q e
  by_cases hk : k < ms.length
  · rw [List.getElem?_append_left hk] at e
    exact hm.ext m.ext k q e
  · rw [List.getElem?_append_right (by omega)] at e
    have hk2 : k = ms.length := by
      have := (List.getElem?_eq_some_iff.mp e).1
      simp only [List.length_singleton] at this; omega
    subst hk2
    rw [Nat.sub_self] at e
    cases e
    refine ⟨m.pl, fun ρ => ?_⟩
    rw [m.say, ← comb_step]
    cases ρ (s : Nat) with
    | true => rw [if_pos rfl, if_pos rfl]; exact (h _ _ h2).2 ρ
    | false => rw [if_neg (by decide), if_neg (by decide)]; exact (h _ _ h1).2 ρ
theorem lv_tab {a : Stm} {m : Nat} (ok : a.ok (m : Nat)) {rs : List Nat} (h : ∀ k r : Nat, rs[k]? = some r → r = if tr a (rowS m k) = true then 1 else 0) : Lv a m [] rs := by
  intro k r e
  have := h k r e
  have e2 : ∀ ρ, tr a (comb m k ρ) = tr a (rowS m k) := fun ρ => tr_agree ok fun t t0 t1 => comb_row ρ t0 t1
  cases hb : tr a (rowS m k) with
  | true =>
    rw [hb, if_pos rfl] at this
    subst this
    exact ⟨by unfold Pl; simp, fun ρ => by rw [val_yes, e2, hb]⟩
  | false =>
    rw [hb, if_neg (by decide)] at this
    subst this
    exact ⟨by unfold Pl; simp, fun ρ => by rw [val_no, e2, hb]⟩
theorem Lv.means {a : Stm} {ns : List Nd} {rs : List Nat} (h : Lv a 0 ns rs) {r : Nat} (e : rs[0]? = some r) : Means ns r a :=
  ⟨(h _ _ e).1, fun ρ => by rw [(h _ _ e).2, comb_zero]⟩
end Nt
end CN
end
section
set_option Elab.async false
set_option linter.all false
set_option maxRecDepth 100000
set_option maxHeartbeats 4000000
namespace L2
open PySem PySem.Spec PyProof.Rows
noncomputable def rNotInD : R2 := fun x y H Q => ∃ p xs ds d, y = .ref p ∧ H p = some (.lst xs) ∧ DTs H xs ds ∧ DT H x d ∧ PyData.canLayAll0 ds = true ∧ d.canLay0 = true ∧ d.depth ≤ 100 ∧ Q (.bl (!ds.any fun y => PyData.eqv y d)) H
theorem op_notIn_data {X : Cx} {k : Nat} (hr : Room k X.A) : OpR X (compareOp .NotIn) rNotInD := by
  intro pins s σ H x y v u Q I rx ry h
  obtain ⟨p, xs, ds, d, rfl, hp, hds, hd, l1, l2, dp, q⟩ := h
  cases (show u = Value.ref p from ry)
  obtain ⟨its, n, r, e, _⟩ := I.lst hp
  obtain ⟨as, ra⟩ := dts_reads I.hok ds xs its hds r
  obtain ⟨bs, rb⟩ := dt_reads I.hok d x v hd rx
  have := hr.un
  refine SeqAt.notIn_list_reads (Reads.list e rfl rfl ra) rb l1 l2 (by omega) ⟨.bl _, H, I, rfl, q⟩
theorem rd_notInD {x : V} {p : Addr} {H : Hp} {Q : VK} : rNotInD x (.ref p) H Q = ∃ xs ds d, H p = some (.lst xs) ∧ DTs H xs ds ∧ DT H x d ∧ PyData.canLayAll0 ds = true ∧ d.canLay0 = true ∧ d.depth ≤ 100 ∧ Q (.bl (!ds.any fun y => PyData.eqv y d)) H := by
  apply propext; constructor
  · rintro ⟨p', xs, ds, d, e, q⟩; cases e; exact ⟨xs, ds, d, q⟩
  · rintro ⟨xs, ds, d, q⟩; exact ⟨p, xs, ds, d, rfl, q⟩
noncomputable def rIndex : V → List V → Hp → VK → Prop := fun x vs H Q => ∃ l xs ds d y j, x = .ref l ∧ vs = [y] ∧ H l = some (.lst xs) ∧ DTs H xs ds ∧ DT H y d ∧ PyData.canLayAll0 ds = true ∧ d.canLay0 = true ∧ d.depth ≤ 100 ∧ (∃ e, ds[j]? = some e ∧ PyData.eqv e d = true) ∧ (∀ i e, i < j → ds[i]? = some e → PyData.eqv e d = false) ∧ Q (.int (j : Nat)) H
theorem mt_index {X : Cx} {k : Nat} (hr : Room k X.A) : MtM X "list.index" rIndex := by
  intro pins s σ H x vs v us Q I rx rv h
  obtain ⟨l, xs, ds, d, y, j, rfl, rfl, hH, hds, hd, l1, l2, dp, ⟨e0, hj, he⟩, hno, q⟩ := h
  cases rx
  obtain ⟨u, rfl, ru⟩ := rv.one
  obtain ⟨its, n, r, eo, hz⟩ := I.lst hH
  obtain ⟨as, ra⟩ := dts_reads I.hok ds xs its hds r
  obtain ⟨bs, rb⟩ := dt_reads I.hok d y u hd ru
  have := hr.un
  have hm := SeqAt.readsAll_map ds its as l1 ra
  have hlen : its.length = ds.length := by rw [← hm, List.length_map]
  have hlx : xs.length = its.length := r.length
  have hjl : j < ds.length := (List.getElem?_eq_some_iff.mp hj).1
  have hn := line63
  have get : ∀ i (hi : i < its.length), ds[i]? = some (SeqAt.readOf s.heap its[i]) := fun i hi => by
    rw [← hm, List.getElem?_map, List.getElem?_eq_getElem hi]; rfl
  refine call_meets F.slot_list_index ⟨_, eo, rfl⟩ F.entry_list_index (F.args_list_index_2 _ _) (SeqAt.list_indexAt l its.toArray n none #[] u (fun y => PyData.eqv (SeqAt.readOf s.heap y) d) j (by rw [List.size_toArray]; omega) (by omega) ?_ ?_) ⟨eo, SeqAt.items_eqAt (by simpa using ra) rb l1 l2 (by omega), ⟨.int (j : Nat), H, I.tok _, ⟨_, rfl⟩, q⟩⟩
  · have h1 := get j (by omega)
    rw [hj] at h1
    have := Option.some.inj h1
    simpa [← this] using he
  · intro m hm1 hm2
    have hm1' : m < its.length := by rw [List.size_toArray] at hm1; exact hm1
    simpa using hno m _ hm2 (get m hm1')
theorem rd_index {p : Addr} {y : V} {H : Hp} {Q : VK} : rIndex (.ref p) [y] H Q = ∃ xs ds d j, H p = some (.lst xs) ∧ DTs H xs ds ∧ DT H y d ∧ PyData.canLayAll0 ds = true ∧ d.canLay0 = true ∧ d.depth ≤ 100 ∧ (∃ e, ds[j]? = some e ∧ PyData.eqv e d = true) ∧ (∀ i e, i < j → ds[i]? = some e → PyData.eqv e d = false) ∧ Q (.int (j : Nat)) H := by
  apply propext; constructor
  · rintro ⟨l, xs, ds, d, y', j, e, f, q⟩; cases e; cases f; exact ⟨xs, ds, d, j, q⟩
  · rintro ⟨xs, ds, d, j, q⟩; exact ⟨p, xs, ds, d, y, j, rfl, rfl, q⟩
end L2
namespace CN
open PySem L2
seal L2.PE L2.PT L2.PS L2.PSs L2.PA L2.PPs L2.PW L2.PC L2.PG L2.PGs L2.PI L2.PO L2.PTs
namespace Nt
noncomputable abbrev s_L_built : Stmt := top 13
noncomputable abbrev p_L_built : List Str := ["_law_table"]
theorem sc_L_built : FnScope ["_law_table", "_law_nodes", "_law_refs", "_law_switch", "_law_size", "_law_made", "_law_k", "_law_pair", "_law_ref"] ["_law_table"] (defScope s_L_built) := ⟨rfl, rfl, rfl, by decide +kernel, rfl, by decide +kernel, by decide +kernel⟩
theorem comp_map {K : PySem.W.Frag} {a D : Addr} {xs : List V} {te : TE} {σ : St} {H1 : Hp} {Q : VK} (hx : H1 a = some (.lst xs)) (hD : H1 D = none) (hn : xs.length < 1000) (f : V → V)
    (he : ∀ x ∈ xs, ∀ (o : HO) (R : VK), R (f x) (upd H1 D o) → te (some x :: σ) (upd H1 D o) R) (q : Q (.ref D) (upd H1 D (.lst (xs.map f)))) : tCompIn (Itl K a) D tYes te σ Q H1 := by
  have ne : a ≠ D := ne_of_none hx hD
  refine comp_list (xs := xs) (fun i ys H => ys = (xs.take i).map f ∧ H = upd H1 D (.lst ys)) ⟨rfl, rfl⟩ (fun i ys H _ h => ?_) (fun i x ys H e h => ?_) (fun ys H h => ?_)
  · rw [h.2]; exact SqL.of (by rw [upd_ne ne]; exact hx)
  · obtain ⟨rfl, rfl⟩ := h
    have hi : i < xs.length := (List.getElem?_eq_some_iff.mp e).1
    rw [show tYes = fun (_ : St) (H : Hp) Q => Q true H from rfl]
    simp only [if_true]
    refine he x (List.mem_of_getElem? e) _ _ ⟨upd_same, small1000 (by rw [List.length_map, List.length_take]; omega), _, ?_, rfl, hi, ?_, ?_⟩
    · omega
    · rw [List.take_add_one, e]; simp
    · rw [upd_upd]
  · obtain ⟨rfl, rfl⟩ := h
    rw [List.take_length]
    exact q
section
variable {P : Program} {w : World} {K : PySem.W.Frag} {mg : Str → Option Value} {base : Heap}
noncomputable def spBuilt : Sp := fun vs H Q _ => ∃ (v : V) (m : Nat) (a : Stm), vs = [v] ∧ RowAt H v m a ∧ m ≤ 5 ∧ a.ok (m : Nat) ∧
  ∀ u ns r H', Same H H' → GrAt H' u (ns, r) → Net ns → Means ns r a → (∀ nd ∈ ns, 0 ≤ nd.sw ∧ nd.sw < (m : Nat)) → ns.length + 1 ≤ 2 ^ m → Q u H'
inductive HvInv (H : Hp) (pre : St) (m : Nat) (j : Nat) (σ : St) (H2 : Hp) : Prop
  | mk (i : Nat) (h0 : j + i = m) (h1 : σ = pre ++ [some (.int (i : Nat)), some (.int ((2 ^ j : Nat) : Int)), none, none, none, none]) (h2 : H2 = H) : HvInv H pre m j σ H2
inductive LvInv (H : Hp) (v : V) (ln : Addr) (m : Nat) (a : Stm) (s : Nat) (σ : St) (H2 : Hp) : Prop
  | mk (lr : Addr) (rs : List Nat) (xs : List V) (ns : List Nd) (o4 o5 o6 o7 o8 : Option V) (h0 : σ = [some v, some (.ref ln), some (.ref lr), some (.int (s : Nat)), o4, o5, o6, o7, o8]) (h1 : Same H H2) (h2 : H lr = none) (h3 : lr ≠ ln) (h4 : H2 lr = some (.lst (vN rs))) (h5 : H2 ln = some (.lst xs)) (h6 : Paired (NdAt H2) xs ns) (h7 : Net ns) (h8 : rs.length = 2 ^ s) (h9 : Lv a s ns rs) (h10 : (∀ nd ∈ ns, ((s : Nat) : Int) ≤ nd.sw ∧ nd.sw < (m : Nat))) (h11 : ns.length + 2 ^ s ≤ 2 ^ m) (h12 : s ≤ m) : LvInv H v ln m a s σ H2
inductive PrInv (H : Hp) (v : V) (ln lr lm : Addr) (rs : List Nat) (m : Nat) (a : Stm) (s : Nat) (n0 : Nat) (k : Nat) (σ : St) (H2 : Hp) : Prop
  | mk (ms : List Nat) (xs : List V) (ns : List Nd) (o4 o6 o7 o8 : Option V) (h0 : σ = [some v, some (.ref ln), some (.ref lr), some (.int (s : Nat)), o4, some (.ref lm), o6, o7, o8]) (h1 : Same H H2) (h2 : H2 lr = some (.lst (vN rs))) (h3 : H2 ln = some (.lst xs)) (h4 : H2 lm = some (.lst (vN ms))) (h5 : Paired (NdAt H2) xs ns) (h6 : Net ns) (h7 : ms.length = k) (h8 : Lv a (s + 1) ns rs) (h9 : Lv a s ns ms) (h10 : (∀ nd ∈ ns, ((s : Nat) : Int) ≤ nd.sw ∧ nd.sw < (m : Nat))) (h11 : ns.length ≤ n0 + k) : PrInv H v ln lr lm rs m a s n0 k σ H2
theorem ok_built {f : Addr} {fd : FuncData} (BT : Bt mg) (D : Df K mg "_law_built" s_L_built p_L_built f fd) : FnOk P w K mg base CX0 1 f fd p_L_built spBuilt := by
  refine D.F.ok sc_L_built (fun vs H Q E h => ?_) (fun cdv A outer s H vs Q E hr h => ?_)
  · obtain ⟨v, m, a, rfl, _⟩ := h
    rfl
  · obtain ⟨v, m, a, rfl, ⟨p, rfl, hp⟩, hm, ok, q⟩ := h
    have hu := hu_of hr
    refine ⟨_, (pss_cons (ps_set (i := 1) sc_L_built.nd rfl (by first | exact Or.inl rfl | exact Or.inr rfl) (pe_lst pa_nil))
    (pss_cons (ps_setC (i := 2) sc_L_built.nd rfl (by first | exact Or.inl rfl | exact Or.inr rfl) rfl (pi_list (pv 0)) (csc_of (M := ["_law_table", "_law_nodes", "_law_refs", "_law_switch", "_law_size", "_law_made", "_law_k", "_law_pair", "_law_ref"]) rfl (by decide +kernel) (by decide +kernel)) (fun _ _ _ _ => pts_nil) (fun _ _ _ _ => (pe_callTy call_int1 (by rfl) BT.n_int bo_int (pa_cons (pv 0) pa_nil))) (by rfl))
    (pss_cons (ps_set (i := 3) sc_L_built.nd rfl (by first | exact Or.inl rfl | exact Or.inr rfl) pe_int)
    (pss_cons (ps_set (i := 4) sc_L_built.nd rfl (by first | exact Or.inl rfl | exact Or.inr rfl) (pe_callB call_len_seq (by rfl) BT.n_len bo_len (pa_cons (pv 0) pa_nil)))
    (pss_cons (ps_while PassesOwn.never (pt_cmpR op_gt (pv 4) pe_int (nomark _))
      (pss_cons (ps_set (i := 4) sc_L_built.nd rfl (by first | exact Or.inl rfl | exact Or.inr rfl) (pe_op op_fdiv (pv 4) pe_int))
      (pss_one (ps_set (i := 3) sc_L_built.nd rfl (by first | exact Or.inl rfl | exact Or.inr rfl) (pe_op op_add (pv 3) pe_int)))))
    (pss_cons (ps_while PassesOwn.never (pt_cmpR op_gt (pe_callB call_len_seq (by rfl) BT.n_len bo_len (pa_cons (pv 2) pa_nil)) pe_int (nomark _))
      (pss_cons (ps_set (i := 3) sc_L_built.nd rfl (by first | exact Or.inl rfl | exact Or.inr rfl) (pe_op op_sub (pv 3) pe_int))
      (pss_cons (ps_set (i := 5) sc_L_built.nd rfl (by first | exact Or.inl rfl | exact Or.inr rfl) (pe_lst pa_nil))
      (pss_cons (ps_for PassesOwn.never rfl (pi_range1 (by rfl) BT.n_range (pa_cons (pe_op op_fdiv (pe_callB call_len_seq (by rfl) BT.n_len bo_len (pa_cons (pv 2) pa_nil)) pe_int) pa_nil)) (pg_name (i := 6) sc_L_built.nd rfl (by first | exact Or.inl rfl | exact Or.inr rfl))
        (pss_cons (ps_set (i := 7) sc_L_built.nd rfl (by first | exact Or.inl rfl | exact Or.inr rfl) (pe_tup (pa_cons (pv 3) (pa_cons (pe_ix ix_list (pv 2) (pe_op op_mul pe_int (pv 6)) (fun _ _ => rfl)) (pa_cons (pe_ix ix_list (pv 2) (pe_op op_add (pe_op op_mul pe_int (pv 6)) pe_int) (fun _ _ => rfl)) pa_nil)))))
        (pss_cons (ps_set (i := 8) sc_L_built.nd rfl (by first | exact Or.inl rfl | exact Or.inr rfl) (pe_ix ix_tup (pv 7) pe_int (fun _ _ => rfl)))
        (pss_cons (ps_if (pt_cmpR op_ne (pe_ix ix_tup (pv 7) pe_int (fun _ _ => rfl)) (pe_ix ix_tup (pv 7) pe_int (fun _ _ => rfl)) (nomark _))
          (pss_cons (ps_if (pt_cmpR (op_notIn_data hr) (pv 7) (pv 1) (by with_unfolding_all rfl))
            (pss_one (ps_expr (pe_bm PySem.F.plainAttrs_list PySem.F.slot_list_append PySem.F.type_list_append mt_append (pv 1) (pa_cons (pv 7) pa_nil))))
            pss_nil)
          (pss_one (ps_set (i := 8) sc_L_built.nd rfl (by first | exact Or.inl rfl | exact Or.inr rfl) (pe_op op_add pe_int (pe_bm PySem.F.plainAttrs_list PySem.F.slot_list_index PySem.F.type_list_index (mt_index hr) (pv 1) (pa_cons (pv 7) pa_nil))))))
          pss_nil)
        (pss_one (ps_expr (pe_bm PySem.F.plainAttrs_list PySem.F.slot_list_append PySem.F.type_list_append mt_append (pv 5) (pa_cons (pv 8) pa_nil))))))))
      (pss_one (ps_set (i := 2) sc_L_built.nd rfl (by first | exact Or.inl rfl | exact Or.inr rfl) (pv 5)))))))
    (pss_one (ps_ret (pe_tup (pa_cons (pv 1) (pa_cons (pe_ix ix_list (pv 2) pe_int (fun _ _ => rfl)) pa_nil))))))))))), ?_⟩
    have h32 : 2 ^ m ≤ 32 := p2_le hm
    have htl : ((tab m a).map V.bl).length = 2 ^ m := by rw [List.length_map, tab_len]
    refine seq_as fun R1 hR1 => ?_
    simp only [rdA, rd_forL, rd_forR, rd_compT, rd_compL, rd_compR, rd_tyes, rd_seq, rd_if, rd_kget, rd_kin, rd_fldP, rd_make, rd_slS, cx_w, cx_w2]
    intro ln hln
    have s1 := Same.new (o := HO.lst []) hln
    subst hR1
    refine seq_as fun R1 hR1 => ?_
    simp only [rdA, rd_forL, rd_forR, rd_compT, rd_compL, rd_compR, rd_tyes, rd_seq, rd_if, rd_kget, rd_kin, rd_fldP, rd_make, rd_slS, cx_w, cx_w2]
    refine ⟨⟨_, SqL.of (s1 _ _ hp)⟩, fun lr hlr => ?_⟩
    refine comp_map (s1 _ _ hp) hlr (by rw [htl]; omega) (fun v => match v with | .bl b => .int (if b = true then 1 else 0) | _ => .non) (fun y hy o R hR => ?_) ?_
    · obtain ⟨b, _, rfl⟩ := List.mem_map.mp hy
      simp only [rdA, rd_forL, rd_forR, rd_compT, rd_compL, rd_compR, rd_tyes, rd_seq, rd_if, rd_kget, rd_kin, rd_fldP, rd_make, rd_slS, cx_w, cx_w2]
      exact hR
    have hrs : ((tab m a).map V.bl).map (fun v => match v with | .bl b => V.int (if b = true then 1 else 0) | _ => .non) = vN ((tab m a).map fun b => if b = true then 1 else 0) := by
      unfold vN; rw [List.map_map, List.map_map]; refine List.map_congr_left fun b _ => ?_; cases b <;> rfl
    rw [hrs]
    have s2 := Same.new (o := HO.lst (vN ((tab m a).map fun b => if b = true then 1 else 0))) hlr
    have hr2 := @upd_same (upd H ln (HO.lst [])) lr (HO.lst (vN ((tab m a).map fun b => if b = true then 1 else 0)))
    have hn2 := s2 _ _ (@upd_same H ln (HO.lst []))
    have sA := s1.trans s2
    have hlr0 : H lr = none := s1.free hlr
    have ne : lr ≠ ln := (ne_of_none upd_same hlr).symm
    generalize upd (upd H ln (HO.lst [])) lr (HO.lst (vN ((tab m a).map fun b => if b = true then 1 else 0))) = H2 at hr2 hn2 sA ⊢
    clear s1 s2 hlr hrs
    subst hR1
    refine seq_as fun R1 hR1 => ?_
    simp only [rdA, rd_forL, rd_forR, rd_compT, rd_compL, rd_compR, rd_tyes, rd_seq, rd_if, rd_kget, rd_kin, rd_fldP, rd_make, rd_slS, cx_w, cx_w2]
    subst hR1
    refine seq_as fun R1 hR1 => ?_
    simp only [rdA, rd_forL, rd_forR, rd_compT, rd_compL, rd_compR, rd_tyes, rd_seq, rd_if, rd_kget, rd_kin, rd_fldP, rd_make, rd_slS, cx_w, cx_w2]
    refine ⟨_, .inl (SqL.of (sA _ _ hp)), ?_⟩
    rw [htl]
    subst hR1
    refine seq_as fun R1 hR1 => ?_
    have g1 : R1 [some (.ref p), some (.ref ln), some (.ref lr), some (.int (m : Nat)), some (.int 1), none, none, none, none] H2 := by
      subst hR1
      refine seq_as fun R1 hR1 => ?_
      refine ⟨LvInv H (.ref p) ln m a, ⟨_, lr, _, [], [], some (.int 1), none, none, none, none, rfl, sA, hlr0, ne, hr2, hn2, .nil, ⟨fun i nd e => (by simp at e), fun i j nd e => (by simp at e)⟩, by rw [List.length_map, tab_len], lv_tab ok fun k r e => ?_, fun nd h => (by cases h), (by simp only [List.length_nil]; omega), Nat.le_refl _⟩, ?_⟩
      · rw [List.getElem?_map] at e
        cases h : (tab m a)[k]? with
        | none => rw [h] at e; cases e
        | some b =>
          have hk : k < 2 ^ m := by have := (List.getElem?_eq_some_iff.mp h).1; rwa [tab_len] at this
          rw [tab_get hk] at h
          rw [tab_get hk] at e
          exact (Option.some.inj e).symm
      · clear hr2 hn2 sA hlr0 ne
        rintro s σ H3 ⟨lr, rs, xs, ns, o4, o5, o6, o7, o8, rfl, sm, hlr, ne, hlr3, hln3, hxs, hN, hrl, hLv, hsw, hsz, hsm⟩
        simp only [rdA, rd_forL, rd_forR, rd_compT, rd_compL, rd_compR, rd_tyes, rd_kget, rd_kin, rd_fldP, rd_make, rd_slS, cx_w, cx_w2]
        refine ⟨_, .inl (SqL.of hlr3), ?_⟩
        have hvl : (vN rs).length = 2 ^ s := by unfold vN; rw [List.length_map, hrl]
        rw [hvl]
        refine ite2 (fun he => ?_) (fun he => ?_)
        · refine ⟨fun σ' H' => ∃ m', m' < s ∧ LvInv H (.ref p) ln m a m' σ' H', fun _ _ h => h, ?_⟩
          cases s with
          | zero => simp at he
          | succ s =>
          clear hR1
          refine seq_as fun R2 hR2 => ?_
          simp only [rdA, rd_forL, rd_forR, rd_compT, rd_compL, rd_compR, rd_tyes, rd_kget, rd_kin, rd_fldP, rd_make, rd_slS, cx_w, cx_w2]
          rw [show ((s + 1 : Nat) : Int) - 1 = (s : Nat) by omega]
          subst hR2
          refine seq_as fun R2 hR2 => ?_
          simp only [rdA, rd_forL, rd_forR, rd_compT, rd_compL, rd_compR, rd_tyes, rd_kget, rd_kin, rd_fldP, rd_make, rd_slS, cx_w, cx_w2]
          intro lm hlm
          have z := Same.new (o := HO.lst []) hlm
          have hm4 := @upd_same H3 lm (HO.lst [])
          have n1 : lr ≠ lm := ne_of_none hlr3 hlm
          have n2 : ln ≠ lm := ne_of_none hln3 hlm
          replace hlr3 := z _ _ hlr3
          replace hln3 := z _ _ hln3
          replace hxs := nds_to z.tk hxs
          have hlm0 : H lm = none := sm.free hlm
          replace sm := sm.trans z
          generalize upd H3 lm (HO.lst []) = H4 at hm4 hlr3 hln3 hxs sm ⊢
          clear z hlm
          subst hR2
          refine seq_as fun R2 hR2 => ?_
          simp only [rdA, rd_forL, rd_forR, rd_compT, rd_compL, rd_compR, rd_tyes, rd_kget, rd_kin, rd_fldP, rd_make, rd_slS, cx_w, cx_w2]
          refine ⟨_, .inl (SqL.of hlr3), ?_⟩
          rw [hvl, show (((2 ^ (s + 1) : Nat) : Int) / 2) = ((2 ^ s : Nat) : Int) by rw [Nat.pow_succ]; omega]
          have hp32 : 2 ^ s ≤ 32 := p2_le (by omega)
          refine ⟨by omega, by omega, ?_⟩
          rw [Int.toNat_natCast]
          refine for_range (lo := 0) (n := 2 ^ s) (PrInv H (.ref p) ln lr lm rs m a s ns.length) ⟨[], xs, ns, _, _, _, _, rfl, sm, hlr3, hln3, hm4, hxs, hN, rfl, hLv, fun k r e => (by simp at e), fun nd h => ⟨(by have := hsw nd h; omega), (hsw nd h).2⟩, Nat.le_refl _⟩ ?_ ?_
          · clear hR2
            generalize ns.length = n0 at *
            clear hln3 hm4 hxs hLv hN hsw sm hlr3 he
            rintro k σ H5 hk ⟨ms, xs, ns, o4, o6, o7, o8, rfl, sm, hlr3, hln3, hm4, hxs, hN, hml, hLv, hLm, hsw, hsz2⟩
            simp only [rd_name, List.set_cons_succ, List.set_cons_zero, Int.zero_add]
            obtain ⟨off, e1⟩ : ∃ r, rs[2 * k]? = some r := ⟨_, List.getElem?_eq_getElem (by rw [hrl, Nat.pow_succ]; omega)⟩
            obtain ⟨on, e2⟩ : ∃ r, rs[2 * k + 1]? = some r := ⟨_, List.getElem?_eq_getElem (by rw [hrl, Nat.pow_succ]; omega)⟩
            have i1 : atI (vN rs) (2 * ((k : Nat) : Int)) = some (.int (off : Nat)) := by
              rw [show 2 * ((k : Nat) : Int) = ((2 * k : Nat) : Int) by omega]; refine atI_nat ?_; rw [vN, List.getElem?_map, e1]; rfl
            have i2 : atI (vN rs) (2 * ((k : Nat) : Int) + 1) = some (.int (on : Nat)) := by
              rw [show 2 * ((k : Nat) : Int) + 1 = ((2 * k + 1 : Nat) : Int) by omega]; refine atI_nat ?_; rw [vN, List.getElem?_map, e2]; rfl
            refine seq_as fun R3 hR3 => ?_
            simp only [rdA, rd_forL, rd_forR, rd_compT, rd_compL, rd_compR, rd_tyes, rd_seq, rd_if, rd_kget, rd_kin, rd_fldP, rd_make, rd_slS, cx_w, cx_w2]
            refine ⟨.inl ⟨by decide, by decide⟩, _, SqL.of hlr3, _, i1, .inl ⟨by decide, by decide⟩, _, SqL.of hlr3, _, i2, fun q1 hq1 => ?_⟩
            have z := Same.new (o := HO.tup (ndV ⟨(s : Nat), off, on⟩)) hq1
            have hq := @upd_same H5 q1 (HO.tup (ndV ⟨(s : Nat), off, on⟩))
            have nq : ln ≠ q1 := ne_of_none hln3 hq1
            have nq2 : lm ≠ q1 := ne_of_none hm4 hq1
            replace hlr3 := z _ _ hlr3
            replace hln3 := z _ _ hln3
            replace hm4 := z _ _ hm4
            replace hxs := nds_to z.tk hxs
            replace sm := sm.trans z
            rw [show [V.int ((s : Nat) : Int), V.int (off : Nat), V.int (on : Nat)] = ndV ⟨(s : Nat), off, on⟩ from rfl]
            generalize upd H5 q1 (HO.tup (ndV ⟨(s : Nat), off, on⟩)) = H6 at hq hlr3 hln3 hm4 hxs sm ⊢
            clear z hq1
            subst hR3
            have hxl : xs.length = ns.length := Paired.length hxs
            have hnd : NdAt H6 (.ref q1) ⟨(s : Nat), off, on⟩ := ⟨q1, rfl, hq⟩
            obtain ⟨po, _⟩ := hLv _ _ e1
            obtain ⟨pn, _⟩ := hLv _ _ e2
            have ao := Lv.above ok hN hLv e1
            have an := Lv.above ok hN hLv e2
            refine seq_as fun R3 hR3 => ?_
            simp only [rdA, rd_forL, rd_forR, rd_compT, rd_compL, rd_compR, rd_tyes, rd_seq, rd_if, rd_kget, rd_kin, rd_fldP, rd_make, rd_slS, cx_w, cx_w2]
            refine ⟨_, SqT.of hq, _, atI1 _ _ _, ?_⟩
            subst hR3
            refine seq_as fun R3 hR3 => ?_
            have g3 : ∀ ns' xs' (r : Nat) H7, Made ns (s : Nat) off on ns' r → Same H H7 → H7 lr = some (.lst (vN rs)) → H7 ln = some (.lst xs') → H7 lm = some (.lst (vN ms)) → Paired (NdAt H7) xs' ns' → R3 [some (.ref p), some (.ref ln), some (.ref lr), some (.int (s : Nat)), o4, some (.ref lm), some (.int (k : Nat)), some (.ref q1), some (.int (r : Nat))] H7 := by
              clear hlr3 hln3 hm4 hxs hnd sm hxl
              intro ns' xs' r H7 md sm hlr3 hln3 hm4 hxs
              subst hR3
              simp only [rdA, rd_forL, rd_forR, rd_compT, rd_compL, rd_compR, rd_tyes, rd_seq, rd_if, rd_kget, rd_kin, rd_fldP, rd_make, rd_slS, cx_w, cx_w2]
              refine ⟨⟨_, SqL.of hm4⟩, _, hm4, small1000 (by unfold vN; rw [List.length_map]; omega), ?_⟩
              have kt : Tk H7 _ := Tk.lst (o := .lst (vN ms ++ [V.int (r : Nat)])) hm4
              refine ⟨ms ++ [r], xs', ns', _, _, _, _, rfl, sm.mut hlm0, (upd_ne n1).trans hlr3, (upd_ne n2).trans hln3, by rw [upd_same]; simp [vN], nds_to kt hxs, md.net, by rw [List.length_append, hml]; rfl, hLv.ext md.ext, hLv.step hLm (by rw [hml]; exact e1) (by rw [hml]; exact e2) md, fun nd h => ?_, by have := md.len; omega⟩
              rcases md.sws nd h with h | h
              · exact hsw nd h
              · rw [h]; omega
            refine if_as fun A B hA hB => ?_
            simp only [rdA, rd_forL, rd_forR, rd_compT, rd_compL, rd_compR, rd_tyes, rd_kget, rd_kin, rd_fldP, rd_make, rd_slS, cx_w, cx_w2]
            refine ⟨_, SqT.of hq, _, atI1 _ _ _, _, SqT.of hq, _, atI2 _ _ _ _, ?_⟩
            simp only [rdA, rd_forL, rd_forR, rd_compT, rd_compL, rd_compR, rd_tyes, rd_kget, rd_kin, rd_fldP, rd_make, rd_slS, cx_w, cx_w2]
            refine ite2 (fun hne => ?_) (fun hne => ?_)
            · have hne : off ≠ on := by
                rintro rfl; simp at hne
              subst hA
              clear hB
              have hall := dNs_at hxs
              refine seq_as fun R4 hR4 => ?_
              refine if_as fun A B hA hB => ?_
              simp only [rdA, rd_notInD, rd_forL, rd_forR, rd_compT, rd_compL, rd_compR, rd_tyes, rd_kget, rd_kin, rd_fldP, rd_make, rd_slS, cx_w, cx_w2]
              refine ⟨_, hln3, _, hall, _, dN_at hnd, dNs_lay _, dN_lay _, (by show PyData.depth _ ≤ 100; simp only [dN, PyData.depth, PyData.depthAll]; decide), ?_⟩
              have idx : ∀ (ns' : List Nd) (j : Nat), Net ns' → ns'[j]? = some ⟨(s : Nat), off, on⟩ → (∃ e, (ns'.map dN)[j]? = some e ∧ PyData.eqv e (dN ⟨(s : Nat), off, on⟩) = true) ∧ ∀ i e, i < j → (ns'.map dN)[i]? = some e → PyData.eqv e (dN ⟨(s : Nat), off, on⟩) = false := by
                intro ns' j N' hj
                refine ⟨⟨_, by rw [List.getElem?_map, hj]; rfl, (dN_iff _ _).mpr rfl⟩, fun i e hi he => ?_⟩
                rw [List.getElem?_map] at he
                cases h : ns'[i]? with
                | none => rw [h] at he; cases he
                | some md =>
                  rw [h] at he
                  cases he
                  cases h2 : PyData.eqv (dN md) (dN ⟨(s : Nat), off, on⟩) with
                  | false => rfl
                  | true =>
                    have := dN_eqv h2
                    subst this
                    have := N'.one i j _ h hj
                    omega
              refine ite2 (fun hin => ?_) (fun hin => ?_)
              · have hno : ∀ i : Nat, ns[i]? ≠ some ⟨(s : Nat), off, on⟩ := fun i e => by
                  have : (ns.map dN).any (fun y => PyData.eqv y (dN ⟨(s : Nat), off, on⟩)) = true := List.any_eq_true.mpr ⟨_, List.mem_map.mpr ⟨_, List.mem_of_getElem? e, rfl⟩, (dN_iff _ _).mpr rfl⟩
                  rw [this] at hin; simp at hin
                have md := made_new (nd := ⟨(s : Nat), off, on⟩) hN po pn hne ao an hno
                subst hA
                clear hB
                simp only [rdA, rd_forL, rd_forR, rd_compT, rd_compL, rd_compR, rd_tyes, rd_kget, rd_kin, rd_fldP, rd_make, rd_slS, cx_w, cx_w2]
                refine ⟨⟨_, SqL.of hln3⟩, _, hln3, small1000 (by omega), ?_⟩
                have kt : Tk H6 _ := Tk.lst (o := .lst (xs ++ [V.ref q1])) hln3
                have hxs2 := nds_app (nds_to kt hxs) (.cons (hnd.to kt) .nil)
                have hq2 := hnd.to kt
                have hl2 := @upd_same H6 ln (HO.lst (xs ++ [V.ref q1]))
                have hr2 : upd H6 ln (HO.lst (xs ++ [V.ref q1])) lr = _ := (upd_ne ne).trans hlr3
                have hm2 : upd H6 ln (HO.lst (xs ++ [V.ref q1])) lm = _ := (upd_ne n2.symm).trans hm4
                have sm2 : Same H (upd H6 ln (HO.lst (xs ++ [V.ref q1]))) := sm.mut hln
                generalize upd H6 ln (HO.lst (xs ++ [V.ref q1])) = H7 at hxs2 hq2 hl2 hr2 hm2 sm2 ⊢
                have hj : (ns ++ [⟨(s : Nat), off, on⟩])[ns.length]? = some ⟨(s : Nat), off, on⟩ := by rw [List.getElem?_append_right (Nat.le_refl _), Nat.sub_self]; rfl
                obtain ⟨j1, j2⟩ := idx _ _ md.net hj
                subst hR4
                simp only [rdA, rd_index, rd_forL, rd_forR, rd_compT, rd_compL, rd_compR, rd_tyes, rd_kget, rd_kin, rd_fldP, rd_make, rd_slS, cx_w, cx_w2]
                refine ⟨⟨_, SqL.of hl2⟩, _, hl2, _, dNs_at hxs2, _, dN_at hq2, dNs_lay _, dN_lay _, (by show PyData.depth _ ≤ 100; simp only [dN, PyData.depth, PyData.depthAll]; decide), ns.length, j1, j2, ?_⟩
                rw [show (2 : Int) + ((ns.length : Nat) : Int) = ((ns.length + 2 : Nat) : Int) by omega]
                exact g3 _ _ _ _ md sm2 hr2 hl2 hm2 hxs2
              · obtain ⟨j, hj⟩ : ∃ j : Nat, ns[j]? = some ⟨(s : Nat), off, on⟩ := by
                  have h1 : (ns.map dN).any (fun y => PyData.eqv y (dN ⟨(s : Nat), off, on⟩)) = true := by
                    cases h : (ns.map dN).any (fun y => PyData.eqv y (dN ⟨(s : Nat), off, on⟩)) with
                    | true => rfl
                    | false => rw [h] at hin; simp at hin
                  obtain ⟨y, hy, h2⟩ := List.any_eq_true.mp h1
                  obtain ⟨md, hmd, rfl⟩ := List.mem_map.mp hy
                  rw [dN_eqv h2] at hmd
                  exact List.getElem?_of_mem hmd
                obtain ⟨j1, j2⟩ := idx _ _ hN hj
                subst hB
                clear hA
                simp only [rdA, rd_forL, rd_forR, rd_compT, rd_compL, rd_compR, rd_tyes, rd_kget, rd_kin, rd_fldP, rd_make, rd_slS, cx_w, cx_w2]
                subst hR4
                simp only [rdA, rd_index, rd_forL, rd_forR, rd_compT, rd_compL, rd_compR, rd_tyes, rd_kget, rd_kin, rd_fldP, rd_make, rd_slS, cx_w, cx_w2]
                refine ⟨⟨_, SqL.of hln3⟩, _, hln3, _, hall, _, dN_at hnd, dNs_lay _, dN_lay _, (by show PyData.depth _ ≤ 100; simp only [dN, PyData.depth, PyData.depthAll]; decide), j, j1, j2, ?_⟩
                rw [show (2 : Int) + ((j : Nat) : Int) = ((j + 2 : Nat) : Int) by omega]
                exact g3 _ _ _ _ (made_old (nd := ⟨(s : Nat), off, on⟩) hN hj) sm hlr3 hln3 hm4 hxs
            · have : off = on := by
                apply Classical.byContradiction
                intro h
                apply hne
                have : ¬ ((off : Nat) : Int) = on := by omega
                simp [this]
              subst this
              subst hB
              clear hA
              simp only [rdA, rd_forL, rd_forR, rd_compT, rd_compL, rd_compR, rd_tyes, rd_kget, rd_kin, rd_fldP, rd_make, rd_slS, cx_w, cx_w2]
              exact g3 _ _ _ _ (made_same hN po) sm hlr3 hln3 hm4 hxs
          · rintro σ H5 ⟨ms, xs, ns', o4, o6, o7, o8, rfl, sm, hlr3, hln3, hm4, hxs, hN, hml, hLv, hLm, hsw2, hsz2⟩
            subst hR2
            simp only [rdA, rd_forL, rd_forR, rd_compT, rd_compL, rd_compR, rd_tyes, rd_kget, rd_kin, rd_fldP, rd_make, rd_slS, cx_w, cx_w2]
            refine ⟨s, by omega, lm, ms, xs, ns', _, _, _, _, _, rfl, sm, hlm0, n2.symm, hm4, hln3, hxs, hN, hml, hLm, hsw2, ?_, by omega⟩
            have : 2 ^ (s + 1) = 2 ^ s + 2 ^ s := by rw [Nat.pow_succ]; omega
            omega
        · have hs0 : s = 0 := by
            cases s with
            | zero => rfl
            | succ s => exfalso; apply he; have : 0 < 2 ^ s := Nat.pow_pos (by decide); rw [Nat.pow_succ, decide_eq_true_eq]; clear hvl hrl hsz; generalize 2 ^ s = x at this ⊢; omega
          subst hs0
          subst hR1
          obtain ⟨r, hr0⟩ : ∃ r, rs[0]? = some r := ⟨_, List.getElem?_eq_getElem (by rw [hrl]; decide)⟩
          have i0 : atI (vN rs) 0 = some (.int (r : Nat)) := by
            refine atI_nat (j := 0) ?_; rw [vN, List.getElem?_map, hr0]; rfl
          simp only [rdA, rd_forL, rd_forR, rd_compT, rd_compL, rd_compR, rd_tyes, rd_seq, rd_if, rd_kget, rd_kin, rd_fldP, rd_make, rd_slS, cx_w, cx_w2]
          refine ⟨_, SqL.of hlr3, _, i0, fun t ht => ?_⟩
          have z := Same.new (o := HO.tup [V.ref ln, V.int (r : Nat)]) ht
          exact q _ ns r _ (sm.trans z) ⟨t, ln, xs, rfl, upd_same, z _ _ hln3, nds_to z.tk hxs⟩ hN (hLv.means hr0) (fun nd h => hsw nd h) (by omega)
    refine ⟨HvInv H2 [some (.ref p), some (.ref ln), some (.ref lr)] m, ⟨m, 0, rfl, rfl, rfl⟩, ?_⟩
    rintro j σ H3 ⟨i, hij, rfl, rfl⟩
    simp only [rdA, rd_forL, rd_forR, rd_compT, rd_compL, rd_compR, rd_tyes, rd_seq, rd_if, rd_kget, rd_kin, rd_fldP, rd_make, rd_slS, cx_w, cx_w2]
    refine ite2 (fun he => ?_) (fun he => ?_)
    · refine ⟨fun σ' H' => ∃ m', m' < j ∧ HvInv H3 [some (.ref p), some (.ref ln), some (.ref lr)] m m' σ' H', fun _ _ h => h, ?_⟩
      cases j with
      | zero => simp at he
      | succ j =>
        rw [show (((2 ^ (j + 1) : Nat) : Int) / 2) = ((2 ^ j : Nat) : Int) by rw [Nat.pow_succ]; omega, show ((i : Nat) : Int) + 1 = ((i + 1 : Nat) : Int) by omega]
        exact ⟨j, by omega, i + 1, by omega, rfl, rfl⟩
    · have hj0 : j = 0 := by
        cases j with
        | zero => rfl
        | succ j => exfalso; apply he; have : 0 < 2 ^ j := Nat.pow_pos (by decide); rw [Nat.pow_succ, decide_eq_true_eq]; generalize 2 ^ j = x at this ⊢; omega
      subst hj0
      rw [show i = m by omega]
      exact g1
end
end Nt
end CN
end
section
set_option Elab.async false
set_option linter.all false
set_option maxRecDepth 100000
set_option maxHeartbeats 4000000
namespace L2
open PySem PySem.Spec PyProof.Rows
end L2
namespace CN
open PySem L2
seal L2.PE L2.PT L2.PS L2.PSs L2.PA L2.PPs L2.PW L2.PC L2.PG L2.PGs L2.PI L2.PO L2.PTs
namespace Nt
noncomputable abbrev s_L_any : Stmt := top 17
noncomputable abbrev p_L_any : List Str := ["_law_cell"]
theorem sc_L_any : FnScope ["_law_cell", "_law_size"] ["_law_cell"] (defScope s_L_any) := ⟨rfl, rfl, rfl, by decide +kernel, rfl, by decide +kernel, by decide +kernel⟩
section
variable {P : Program} {w : World} {K : PySem.W.Frag} {mg : Str → Option Value} {base : Heap}
noncomputable def spAny : Sp := fun vs H Q _ => ∃ c : Int, vs = [.int c] ∧ ∀ i H', Same H H' → Q (.int i) H'
theorem two_at (c : Int) (x y : V) : ∃ z, atI [x, y] (c % 2) = some z ∧ (z = x ∨ z = y) := by
  rcases Int.emod_two_eq c with h | h
  · exact ⟨x, by rw [h]; rfl, .inl rfl⟩
  · exact ⟨y, by rw [h]; rfl, .inr rfl⟩
theorem ok_any {f : Addr} {fd : FuncData} (BT : Bt mg) (D : Df K mg "_law_any" s_L_any p_L_any f fd) : FnOk P w K mg base CX0 1 f fd p_L_any spAny := by
  refine D.F.ok sc_L_any (fun vs H Q E h => ?_) (fun cdv A outer s H vs Q E hr h => ?_)
  · obtain ⟨c, rfl, _⟩ := h
    rfl
  · obtain ⟨c, rfl, q⟩ := h
    refine ⟨_, (pss_cons (ps_set (i := 1) sc_L_any.nd rfl (by first | exact Or.inl rfl | exact Or.inr rfl) (pe_op op_mod (pe_op op_fdiv (pv 0) pe_int) (pe_op op_pow pe_int pe_int)))
    (pss_one (ps_ret (pe_op op_mul (pv 1) (pe_ix ix_list (pe_lst (pa_cons pe_int (pa_cons (pe_un un_neg pe_int) pa_nil))) (pe_op op_mod (pv 0) pe_int) (fun _ _ => rfl)))))), ?_⟩
    simp only [rdA, rd_forL, rd_forR, rd_compT, rd_compL, rd_compR, rd_tyes, rd_seq, rd_if, rd_kget, rd_kin, rd_fldP, rd_make, rd_slS, cx_w, cx_w2]
    refine ⟨⟨by decide, by decide, by decide⟩, by decide, fun p hp => ?_⟩
    have z := Same.new (o := HO.lst [V.int 1, V.int (-1)]) hp
    obtain ⟨u, hu, h⟩ := two_at c (.int 1) (.int (-1))
    refine ⟨_, SqL.of upd_same, u, hu, ?_⟩
    rcases h with rfl | rfl
    · simp only [rdA, rd_forL, rd_forR, rd_compT, rd_compL, rd_compR, rd_tyes, rd_seq, rd_if, rd_kget, rd_kin, rd_fldP, rd_make, rd_slS, cx_w, cx_w2]
      exact ⟨.inr ⟨by decide, by decide⟩, q _ _ z⟩
    · simp only [rdA, rd_forL, rd_forR, rd_compT, rd_compL, rd_compR, rd_tyes, rd_seq, rd_if, rd_kget, rd_kin, rd_fldP, rd_make, rd_slS, cx_w, cx_w2]
      exact ⟨.inr ⟨by decide, by decide⟩, q _ _ z⟩
end
end Nt
end CN
end
section
set_option Elab.async false
set_option linter.all false
set_option maxRecDepth 100000
set_option maxHeartbeats 4000000
namespace L2
open PySem
theorem bo_set : bootBuiltins "set" = some (.type "set") := by decide +kernel
theorem bo_all : bootBuiltins "all" = some (.builtin "all") := by decide +kernel
section
variable {σ : St} {H : Hp} {Q : VK} {ti : TT} {te : TE} {tr : TA}
theorem rd_compR2 : tComp (iRng2 tr) ti te σ H Q = tr σ H fun vs H1 => ∃ i j : Int, vs = [.int i, .int j] ∧ (-(2 ^ 62) ≤ i ∧ i < 2 ^ 62 ∧ -(2 ^ 62) ≤ j ∧ j < 2 ^ 62) ∧ ∀ D, H1 D = none → tCompIn (Itr i (j - i).toNat) D ti te σ Q H1 := rfl
end
theorem comp_rangeL {lo : Int} {n : Nat} {D : Addr} {ti : TT} {te : TE} {σ : St} {H1 : Hp} {Q : VK} (Pv : Nat → List V → Hp → Prop) (h0 : Pv 0 [] (upd H1 D (.lst [])))
    (hs : ∀ i ys H, i < n → Pv i ys H → ti (some (.int (lo + (i : Nat))) :: σ) H fun b H4 => if b = true then te (some (.int (lo + (i : Nat))) :: σ) H4 fun y H5 => H5 D = some (.lst ys) ∧ ys.length < sizeLine ∧ ∃ m', m' < n - i ∧ (m' = n - (i + 1) ∧ i + 1 ≤ n ∧ Pv (i + 1) (ys ++ [y]) (upd H5 D (.lst (ys ++ [y])))) else ∃ m', m' < n - i ∧ (m' = n - (i + 1) ∧ i + 1 ≤ n ∧ Pv (i + 1) ys H4))
    (hd : ∀ ys H, Pv n ys H → Q (.ref D) H) : tCompIn (Itr lo n) D ti te σ Q H1 := by
  refine ⟨fun i m ys H => m = n - i ∧ i ≤ n ∧ Pv i ys H, ⟨n, by simp, Nat.zero_le _, h0⟩, ?_⟩
  rintro i m ys H ⟨rfl, hi, p⟩
  by_cases hlt : i < n
  · refine .inr ⟨hlt, fun x H' y => ?_⟩
    obtain ⟨e, rfl⟩ := y
    subst e
    exact hs i ys _ hlt p
  · have e : i = n := by omega
    subst e
    exact .inl ⟨Nat.le_refl _, hd ys H p⟩
end L2
namespace CN
open PySem L2
seal L2.PE L2.PT L2.PS L2.PSs L2.PA L2.PPs L2.PW L2.PC L2.PG L2.PGs L2.PI L2.PO L2.PTs
namespace Nt
noncomputable abbrev s_may_lead : Stmt := top 3
noncomputable abbrev p_may_lead : List Str := ["nodes", "own_place", "place"]
theorem sc_may_lead : FnScope ["nodes", "own_place", "place"] ["nodes", "own_place", "place"] (defScope s_may_lead) := ⟨rfl, rfl, rfl, by decide +kernel, rfl, by decide +kernel, by decide +kernel⟩
noncomputable abbrev s_is_node : Stmt := top 4
noncomputable abbrev p_is_node : List Str := ["nodes", "own_place"]
theorem sc_is_node : FnScope ["nodes", "own_place", "node"] ["nodes", "own_place"] (defScope s_is_node) := ⟨rfl, rfl, rfl, by decide +kernel, rfl, by decide +kernel, by decide +kernel⟩
noncomputable abbrev s_is_graph : Stmt := top 5
noncomputable abbrev p_is_graph : List Str := ["graph"]
theorem sc_is_graph : FnScope ["graph", "nodes", "root"] ["graph"] (defScope s_is_graph) := ⟨rfl, rfl, rfl, by decide +kernel, rfl, by decide +kernel, by decide +kernel⟩
noncomputable abbrev R3 := Int × Int × Int
noncomputable def r3V (r : R3) : List V := [.int r.1, .int r.2.1, .int r.2.2]
noncomputable def r3K (r : R3) : List Key := [Sum.inl r.1, Sum.inl r.2.1, Sum.inl r.2.2]
theorem r3K_inj {a b : R3} (h : r3K a = r3K b) : a = b := by
  obtain ⟨a1, a2, a3⟩ := a
  obtain ⟨b1, b2, b3⟩ := b
  simp only [r3K, List.cons.injEq, Sum.inl.injEq, and_true] at h
  obtain ⟨rfl, rfl, rfl⟩ := h
  rfl
noncomputable def RnAt (H : Hp) (v : V) (r : R3) : Prop := ∃ a, v = .ref a ∧ H a = some (.tup (r3V r))
noncomputable def nd3 (nd : Nd) : R3 := (nd.sw, ((nd.off : Nat) : Int), ((nd.on : Nat) : Int))
structure RgAt (H : Hp) (v : V) (rs : List R3) (z : Int) : Prop where
  ex : ∃ (t lo : Addr) (os : List V), v = .ref t ∧ H t = some (.tup [.ref lo, .int z]) ∧ H lo = some (.lst os) ∧ Paired (RnAt H) os rs
theorem RnAt.same {H H' : Hp} (k : Same H H') {v : V} {r : R3} (h : RnAt H v r) : RnAt H' v r := by
  obtain ⟨a, e, h⟩ := h
  exact ⟨a, e, k _ _ h⟩
theorem rns_same {H H' : Hp} (k : Same H H') : ∀ {xs : List V} {rs : List R3}, Paired (RnAt H) xs rs → Paired (RnAt H') xs rs
  | _, _, .nil => .nil
  | _, _, .cons a b => .cons (a.same k) (rns_same k b)
theorem rns_get {H : Hp} : ∀ {xs : List V} {rs : List R3} {i : Nat} {r : R3}, Paired (RnAt H) xs rs → rs[i]? = some r → ∃ a, xs[i]? = some (.ref a) ∧ H a = some (.tup (r3V r))
  | _, _, 0, r, .cons ⟨a, e, h⟩ b, hr => by cases hr; subst e; exact ⟨a, rfl, h⟩
  | _, _, i + 1, r, .cons _ b, hr => by
    rw [List.getElem?_cons_succ] at hr
    obtain ⟨a, h1, h2⟩ := rns_get b hr
    exact ⟨a, by rw [List.getElem?_cons_succ]; exact h1, h2⟩
  | _, _, _, r, .nil, hr => by cases hr
theorem rns_nds {H : Hp} : ∀ {xs : List V} {ns : List Nd}, Paired (RnAt H) xs (ns.map nd3) → Paired (NdAt H) xs ns
  | _, [], .nil => .nil
  | _, n :: ns, .cons a b => .cons a (rns_nds b)
theorem nds_rns {H : Hp} : ∀ {xs : List V} {ns : List Nd}, Paired (NdAt H) xs ns → Paired (RnAt H) xs (ns.map nd3)
  | _, _, .nil => .nil
  | _, _, .cons a b => .cons a (nds_rns b)
theorem rns_keys {H : Hp} : ∀ {xs : List V} {rs : List R3}, Paired (RnAt H) xs rs → Paired (fun v k => ∃ b, v = V.ref b ∧ KeyAt H b k) xs (rs.map r3K)
  | _, _, .nil => .nil
  | _, _, .cons ⟨a, e, h⟩ b => .cons ⟨a, e, KeyAt.of h⟩ (rns_keys b)
noncomputable def Lead (rs : List R3) (i : Nat) (s z : Int) : Prop := 0 ≤ z ∧ z < (i : Nat) + 2 ∧ (z < 2 ∨ ∃ r, rs[(z - 2).toNat]? = some r ∧ s < r.1)
noncomputable def Nok (rs : List R3) (i : Nat) (r : R3) : Prop := 0 ≤ r.1 ∧ r.2.1 ≠ r.2.2 ∧ Lead rs i r.1 r.2.1 ∧ Lead rs i r.1 r.2.2
structure Good3 (rs : List R3) (z : Int) : Prop where
  lo : 0 ≤ z
  hi : z ≤ (rs.length : Nat) + 1
  one : rs.Nodup
  ok : ∀ (i : Nat) (r : R3), rs[i]? = some r → Nok rs i r
theorem nd3_inj {a b : Nd} (h : nd3 a = nd3 b) : a = b := by
  cases a; cases b
  simp only [nd3, Prod.mk.injEq] at h
  obtain ⟨h1, h2, h3⟩ := h
  simp only [Nd.mk.injEq]
  omega
theorem nd3s_inj : ∀ {a b : List Nd}, a.map nd3 = b.map nd3 → a = b
  | [], [], _ => rfl
  | [], _ :: _, h => by cases h
  | _ :: _, [], h => by cases h
  | x :: a, y :: b, h => by
    rw [List.map_cons, List.map_cons] at h
    injection h with h1 h2
    rw [nd3_inj h1, nd3s_inj h2]
theorem Good3.nds {rs : List R3} {z : Int} (h : Good3 rs z) (hl : rs.length ≤ 1000) : ∃ (ns : List Nd) (p : Nat), rs = ns.map nd3 ∧ z = (p : Nat) ∧ GG (ns, p) := by
  have key : rs = (rs.map fun r => (⟨r.1, r.2.1.toNat, r.2.2.toNat⟩ : Nd)).map nd3 := by
    rw [List.map_map]
    refine (List.map_id rs).symm.trans (List.map_congr_left fun r hr => ?_)
    obtain ⟨i, hi, e⟩ := List.getElem_of_mem hr
    obtain ⟨h1, h2, h3, h4⟩ := h.ok i r (by rw [List.getElem?_eq_getElem hi, e])
    obtain ⟨r1, r2, r3⟩ := r
    simp only [Function.comp, nd3, id, Prod.mk.injEq, true_and]
    have := h3.1
    have := h4.1
    dsimp only at *
    omega
  have hz := h.lo
  have hz2 := h.hi
  have getN : ∀ {i : Nat} {nd : Nd}, (rs.map fun r => (⟨r.1, r.2.1.toNat, r.2.2.toNat⟩ : Nd))[i]? = some nd → rs[i]? = some (nd3 nd) := fun {i nd} e => by
    rw [key, List.getElem?_map, e]
    rfl
  have lead : ∀ {i : Nat} {s : Int} {q : Nat}, Lead rs i s (q : Nat) → q < i + 2 ∧ Above (rs.map fun r => (⟨r.1, r.2.1.toNat, r.2.2.toNat⟩ : Nd)) s q := fun {i s q} ⟨_, l2, l3⟩ => by
    refine ⟨by omega, ?_⟩
    rcases l3 with l3 | ⟨r, l3, l4⟩
    · exact .inl (by omega)
    · refine .inr ⟨⟨r.1, r.2.1.toNat, r.2.2.toNat⟩, ?_, l4⟩
      rw [List.getElem?_map, ← show (((q : Nat) : Int) - 2).toNat = q - 2 by omega, l3]
      rfl
  refine ⟨_, z.toNat, key, by omega, ⟨⟨fun i nd e => ?_, fun i j nd e1 e2 => ?_⟩, ?_, fun nd hnd => ?_, ?_⟩⟩
  · obtain ⟨h1, h2, h3, h4⟩ := h.ok i _ (getN e)
    obtain ⟨a1, a2⟩ := lead (q := nd.off) h3
    obtain ⟨b1, b2⟩ := lead (q := nd.on) h4
    refine ⟨a1, b1, fun z => h2 (by show ((nd.off : Nat) : Int) = (nd.on : Nat); rw [z]), a2, b2⟩
  · have e1 := getN e1
    have e2 := getN e2
    obtain ⟨i1, g1⟩ := List.getElem?_eq_some_iff.mp e1
    obtain ⟨i2, g2⟩ := List.getElem?_eq_some_iff.mp e2
    exact (List.getElem_inj h.one).mp (g1.trans g2.symm)
  · rw [List.length_map]; omega
  · obtain ⟨i, hi, e⟩ := List.getElem_of_mem hnd
    exact (h.ok i _ (getN (List.getElem?_eq_some_iff.mpr ⟨hi, e⟩))).1
  · rw [List.length_map]; omega
section
variable {P : Program} {w : World} {K : PySem.W.Frag} {mg : Str → Option Value} {base : Heap}
noncomputable def spLead : Sp := fun vs H Q _ => ∃ (l : Addr) (os : List V) (rs : List R3) (i : Nat) (r : R3) (z : Int), vs = [.ref l, .int ((i + 2 : Nat) : Int), .int z] ∧ H l = some (.lst os) ∧ Paired (RnAt H) os rs ∧ rs[i]? = some r ∧ ∀ b : Bool, (b = true ↔ Lead rs i r.1 z) → Q (.bl b) H
theorem ok_lead {f : Addr} {fd : FuncData} (D : Df K mg "may_lead" s_may_lead p_may_lead f fd) : FnOk P w K mg base CX0 1 f fd p_may_lead spLead := by
  refine D.F.ok sc_may_lead (fun vs H Q E h => ?_) (fun cdv A outer s H vs Q E hr h => ?_)
  · obtain ⟨l, os, rs, i, r, z, rfl, _⟩ := h
    rfl
  · obtain ⟨l, os, rs, i, r, z, rfl, hl, ho, hi, q⟩ := h
    refine ⟨_, (pss_cons (ps_if (PW.pt (pw_or (pt_cmpR op_lt (pv 2) pe_int (nomark _)) (pw_or1 (pt_cmpR op_ge (pv 2) (pv 1) (nomark _)))))
      (pss_one (ps_ret pe_bl))
      pss_nil)
    (pss_one (ps_ret (pe_or (pe_cmpR op_lt (pv 2) pe_int (nomark _)) (pe_one (pe_cmpR op_gt (pe_ix ix_tup (pe_ix ix_list (pv 0) (pe_op op_sub (pv 2) pe_int) (fun _ _ => rfl)) pe_int (fun _ _ => rfl)) (pe_ix ix_tup (pe_ix ix_list (pv 0) (pe_op op_sub (pv 1) pe_int) (fun _ _ => rfl)) pe_int (fun _ _ => rfl)) (nomark _))))))), ?_⟩
    simp only [rdA, rd_forL, rd_forR, rd_seq, rd_if]
    refine ite2 (fun h1 => ?_) fun h1 => ite2 (fun h2 => ?_) fun h2 => ite2 (fun h3 => ?_) fun h3 => ?_
    · have := of_decide_eq_true h1
      exact q false ⟨fun e => (by cases e), fun ⟨a, _⟩ => by omega⟩
    · have := of_decide_eq_true h2
      exact q false ⟨fun e => (by cases e), fun ⟨_, a, _⟩ => by omega⟩
    · have h1' : ¬ z < 0 := fun e => h1 (decide_eq_true e)
      have h2' : ¬ ((i + 2 : Nat) : Int) ≤ z := fun e => h2 (decide_eq_true e)
      exact q true ⟨fun _ => ⟨by omega, by omega, .inl (of_decide_eq_true h3)⟩, fun _ => rfl⟩
    · have h1' : ¬ z < 0 := fun e => h1 (decide_eq_true e)
      have h2' : ¬ ((i + 2 : Nat) : Int) ≤ z := fun e => h2 (decide_eq_true e)
      have h3' : ¬ z < 2 := fun e => h3 (decide_eq_true e)
      have hil := (List.getElem?_eq_some_iff.mp hi).1
      obtain ⟨j, hj⟩ : ∃ j : Nat, z = (j : Nat) + 2 := ⟨(z - 2).toNat, by omega⟩
      subst hj
      have hjl : j < rs.length := by omega
      have hjr : rs[j]? = some rs[j] := List.getElem?_eq_getElem hjl
      obtain ⟨a, ha1, ha2⟩ := rns_get ho hjr
      obtain ⟨b, hb1, hb2⟩ := rns_get ho hi
      rw [show ((j : Nat) : Int) + 2 - 2 = ((j : Nat) : Int) by omega, show ((i + 2 : Nat) : Int) - 2 = ((i : Nat) : Int) by omega]
      refine ⟨_, SqL.of hl, _, atI_nat ha1, _, _, _, _, rfl, rfl, SqT.of ha2, atI0 _ _, _, SqL.of hl, _, atI_nat hb1, _, _, _, _, rfl, rfl, SqT.of hb2, atI0 _ _, ?_⟩
      refine ⟨_, _, rfl, rfl, q _ ?_⟩
      rw [decide_eq_true_eq]
      constructor
      · intro hlt
        exact ⟨by omega, by omega, .inr ⟨rs[j], by rw [show (((j : Nat) : Int) + 2 - 2).toNat = j by omega]; exact hjr, hlt⟩⟩
      · rintro ⟨_, _, e | ⟨r', e1, e2⟩⟩
        · omega
        · rw [show (((j : Nat) : Int) + 2 - 2).toNat = j by omega, hjr] at e1
          cases e1
          exact e2
noncomputable def spNok : Sp := fun vs H Q _ => ∃ (l : Addr) (os : List V) (rs : List R3) (i : Nat) (r : R3), vs = [.ref l, .int ((i + 2 : Nat) : Int)] ∧ H l = some (.lst os) ∧ Paired (RnAt H) os rs ∧ rs[i]? = some r ∧ ∀ b : Bool, (b = true ↔ Nok rs i r) → Q (.bl b) H
theorem ok_isNode {f f1 : Addr} {fd fd1 : FuncData} (D_may_lead : Df K mg "may_lead" s_may_lead p_may_lead f1 fd1) (D : Df K mg "is_node" s_is_node p_is_node f fd) : FnOk P w K mg base CX0 2 f fd p_is_node spNok := by
  have G_may_lead : FnOk P w K mg base CX0 1 f1 fd1 p_may_lead spLead := ok_lead D_may_lead
  refine D.F.ok sc_is_node (fun vs H Q E h => ?_) (fun cdv A outer s H vs Q E hr h => ?_)
  · obtain ⟨l, os, rs, i, r, rfl, _⟩ := h
    rfl
  · obtain ⟨l, os, rs, i, r, rfl, hl, ho, hi, q⟩ := h
    refine ⟨_, (pss_cons (ps_set (i := 2) sc_is_node.nd rfl (by first | exact Or.inl rfl | exact Or.inr rfl) (pe_ix ix_list (pv 0) (pe_op op_sub (pv 1) pe_int) (fun _ _ => rfl)))
    (pss_cons (ps_if (PW.pt (pw_or (pt_cmpR op_lt (pe_ix ix_tup (pv 2) pe_int (fun _ _ => rfl)) pe_int (nomark _)) (pw_or1 (pt_cmpR op_eq (pe_ix ix_tup (pv 2) pe_int (fun _ _ => rfl)) (pe_ix ix_tup (pv 2) pe_int (fun _ _ => rfl)) (nomark _)))))
      (pss_one (ps_ret pe_bl))
      pss_nil)
    (pss_one (ps_ret (pe_and (pe_call G_may_lead (hr) (by rfl) D_may_lead.m D_may_lead.F.kp D_may_lead.b .nil pass0 (pa_cons (pv 0) (pa_cons (pv 1) (pa_cons (pe_ix ix_tup (pv 2) pe_int (fun _ _ => rfl)) pa_nil)))) (pe_one (pe_call G_may_lead (hr) (by rfl) D_may_lead.m D_may_lead.F.kp D_may_lead.b .nil pass0 (pa_cons (pv 0) (pa_cons (pv 1) (pa_cons (pe_ix ix_tup (pv 2) pe_int (fun _ _ => rfl)) pa_nil)))))))))), ?_⟩
    simp only [rdA, rd_forL, rd_forR, rd_seq, rd_if]
    obtain ⟨b, hb1, hb2⟩ := rns_get ho hi
    rw [show ((i + 2 : Nat) : Int) - 2 = ((i : Nat) : Int) by omega]
    refine ⟨_, SqL.of hl, _, atI_nat hb1, ?_⟩
    simp only [rdA, rd_forL, rd_forR, rd_seq, rd_if]
    refine ⟨_, SqT.of hb2, _, atI0 _ _, ?_⟩
    rw [rd_rI0]
    refine ⟨_, rfl, ite2 (fun h1 => ?_) fun h1 => ?_⟩
    · have := of_decide_eq_true h1
      exact q false ⟨fun e => (by cases e), fun ⟨a, _⟩ => by omega⟩
    have h1' : ¬ r.1 < 0 := fun e => h1 (decide_eq_true e)
    refine ⟨_, SqT.of hb2, _, atI1 _ _ _, _, SqT.of hb2, _, atI2 _ _ _ _, ?_⟩
    rw [rd_eqI]
    refine ⟨_, rfl, ite2 (fun h2 => ?_) fun h2 => ?_⟩
    · have := of_decide_eq_true h2
      exact q false ⟨fun e => (by cases e), fun ⟨_, a, _⟩ => absurd this a⟩
    have h2' : r.2.1 ≠ r.2.2 := fun e => h2 (decide_eq_true e)
    refine ⟨_, SqT.of hb2, _, atI1 _ _ _, l, os, rs, i, r, r.2.1, rfl, hl, ho, hi, fun c1 hc1 => ⟨_, rfl, ite2 (fun h3 => ?_) fun h3 => ?_⟩⟩
    · refine ⟨_, SqT.of hb2, _, atI2 _ _ _ _, l, os, rs, i, r, r.2.2, rfl, hl, ho, hi, fun c2 hc2 => q c2 ?_⟩
      rw [hc2]
      exact ⟨fun z => ⟨by omega, h2', hc1.mp h3, z⟩, fun z => z.2.2.2⟩
    · have : c1 = false := by cases c1 with | true => exact absurd rfl h3 | false => rfl
      subst this
      exact q false ⟨fun e => (by cases e), fun ⟨_, _, a, _⟩ => by have := hc1.mpr a; cases this⟩
theorem r3K_nodup (rs : List R3) : (rs.map r3K).Nodup ↔ rs.Nodup := by
  unfold List.Nodup
  rw [List.pairwise_map]
  constructor
  · intro h; exact h.imp fun {a b} hab e => hab (by rw [e])
  · intro h; exact h.imp fun {a b} hab e => hab (r3K_inj e)
theorem lt9s {n : Nat} (h : n ≤ 1000) : n < sizeLine := small1000 h
noncomputable def Judged (rs : List R3) (z : Int) : Prop := ∃ (ns : List Nd) (p : Nat), rs = ns.map nd3 ∧ z = (p : Nat) ∧ Good3 rs z ∧ graphOf ns p = (ns, p)
noncomputable def spJudge : Sp := fun vs H Q _ => ∃ (v : V) (rs : List R3) (z : Int), vs = [v] ∧ RgAt H v rs z ∧ rs.length ≤ 18 ∧ ∀ (b : Bool) H', Same H H' → (b = true ↔ Judged rs z) → Q (.bl b) H'
theorem ok_isGraph {f f1 f2 f3 : Addr} {fd fd1 fd2 fd3 : FuncData} (BT : Bt mg) (n_set : mg "set" = none) (n_all : mg "all" = none) (D_may_lead : Df K mg "may_lead" s_may_lead p_may_lead f1 fd1) (D_is_node : Df K mg "is_node" s_is_node p_is_node f2 fd2)
    (D_ordered_graph : Df K mg "ordered_graph" s_ordered_graph p_ordered_graph f3 fd3) (D : Df K mg "is_graph" s_is_graph p_is_graph f fd) : FnOk P w K mg base CX0 3 f fd p_is_graph spJudge := by
  have G_is_node : FnOk P w K mg base CX0 2 f2 fd2 p_is_node spNok := ok_isNode D_may_lead D_is_node
  have G_ordered_graph : FnOk P w K mg base CX0 2 f3 fd3 p_ordered_graph spOrd := (ok_ord BT D_ordered_graph).mono (by decide)
  refine D.F.ok sc_is_graph (fun vs H Q E h => ?_) (fun cdv A outer s H vs Q E hr h => ?_)
  · obtain ⟨v, rs, z, rfl, _⟩ := h
    rfl
  · obtain ⟨v, rs, z, rfl, hv, hn, q⟩ := h
    obtain ⟨t, lo, os, rfl, ht, hlo, hos⟩ := hv.ex
    refine ⟨_, (pss_cons (ps_set (i := 1) sc_is_graph.nd rfl (by first | exact Or.inl rfl | exact Or.inr rfl) (pe_ix ix_tup (pv 0) pe_int (fun _ _ => rfl)))
    (pss_cons (ps_set (i := 2) sc_is_graph.nd rfl (by first | exact Or.inl rfl | exact Or.inr rfl) (pe_ix ix_tup (pv 0) pe_int (fun _ _ => rfl)))
    (pss_cons (ps_if (PW.pt (pw_or (pt_cmpR op_lt (pv 2) pe_int (nomark _)) (pw_or (pt_cmpR op_gt (pv 2) (pe_op op_add (pe_callB call_len_seq (by rfl) BT.n_len bo_len (pa_cons (pv 1) pa_nil)) pe_int) (nomark _)) (pw_or1 (pt_cmpR op_ne (pe_callB call_lenT (by rfl) BT.n_len bo_len (pa_cons (pe_callTy (call_setT rfl hr) (by rfl) n_set bo_set (pa_cons (pv 1) pa_nil)) pa_nil)) (pe_callB call_len_seq (by rfl) BT.n_len bo_len (pa_cons (pv 1) pa_nil)) (nomark _))))))
      (pss_one (ps_ret pe_bl))
      pss_nil)
    (pss_cons (ps_if (pt_not (pt_val (pe_callB (call_allB rfl) (by rfl) n_all bo_all (pa_cons (pe_comp rfl (pi_range2 (by rfl) BT.n_range (pa_cons pe_int (pa_cons (pe_op op_add (pe_callB call_len_seq (by rfl) BT.n_len bo_len (pa_cons (pv 1) pa_nil)) pe_int) pa_nil))) (csc_of (M := ["graph", "nodes", "root"]) rfl (by decide +kernel) (by decide +kernel)) (fun _ _ _ _ => pts_nil) (fun _ _ _ _ => (pe_call G_is_node (hr) (by rfl) D_is_node.m D_is_node.F.kp D_is_node.b .nil pass0 (pa_cons (pv 2) (pa_cons (pv 0) pa_nil))))) pa_nil))))
      (pss_one (ps_ret pe_bl))
      pss_nil)
    (pss_one (ps_ret (pe_cmpR (op_leq hr) (pe_call G_ordered_graph (hr) (by rfl) D_ordered_graph.m D_ordered_graph.F.kp D_ordered_graph.b .nil pass0 (pa_cons (pv 1) (pa_cons (pv 2) pa_nil))) (pv 0) (nomark _)))))))), ?_⟩
    have hol : os.length = rs.length := Paired.length hos
    refine seq_as fun R1 hR1 => ?_
    simp only [rdA, rd_forL, rd_forR, rd_seq, rd_if]
    refine ⟨_, SqT.of ht, _, atI0 _ _, ?_⟩
    subst hR1
    refine seq_as fun R1 hR1 => ?_
    simp only [rdA, rd_forL, rd_forR, rd_seq, rd_if]
    refine ⟨_, SqT.of ht, _, atI1 _ _ _, ?_⟩
    subst hR1
    refine seq_as fun R1 hR1 => if_as fun T1 T2 hT1 hT2 => ?_
    simp only [rdA, rd_forL, rd_forR, rd_seq, rd_if]
    have bad : ∀ H', Same H H' → ¬ Judged rs z → T1 [some (.ref t), some (.ref lo), some (.int z)] H' := fun H' sm hj => by
      subst hT1
      simp only [rdA, rd_forL, rd_forR, rd_seq, rd_if]
      exact q false H' sm ⟨fun e => (by cases e), fun e => absurd e hj⟩
    refine ite2 (fun h1 => bad _ (Same.refl _) fun ⟨ns, p, _, e, g, _⟩ => ?_) fun h1 => ?_
    · have := of_decide_eq_true h1; have := g.lo; omega
    refine ⟨_, .inl (SqL.of hlo), ite2 (fun h2 => bad _ (Same.refl _) fun ⟨ns, p, _, e, g, _⟩ => ?_) fun h2 => ?_⟩
    · have := of_decide_eq_true h2; have := g.hi; omega
    have h1' : ¬ z < 0 := fun e => h1 (decide_eq_true e)
    have h2' : ¬ ((os.length : Nat) : Int) + 1 < z := fun e => h2 (decide_eq_true e)
    refine ⟨_, SqL.of hlo, _, rns_keys hos, by omega, fun a ha => ?_⟩
    have sA := Same.new (o := SzO a (TP.dT (rs.map r3K)).length) ha
    have hdl : (TP.dT (rs.map r3K)).length ≤ 18 := by
      have := TP.foldT_le (rs.map r3K) []
      rw [List.length_map] at this
      simp only [List.length_nil, Nat.zero_add] at this
      exact Nat.le_trans this hn
    refine ⟨_, upd_same, by omega, os, .inl (SqL.of (sA _ _ hlo)), ?_⟩
    have hdup : ((((TP.dT (rs.map r3K)).length : Nat) : Int) = ((os.length : Nat) : Int)) ↔ rs.Nodup := by
      rw [← r3K_nodup, ← TP.dT_full, List.length_map]
      omega
    generalize upd H a (SzO a (TP.dT (rs.map r3K)).length) = H2 at *
    refine ite2 (fun h3 => bad _ sA fun ⟨ns, p, _, e, g, _⟩ => ?_) fun h3 => ?_
    · rw [decide_eq_true (hdup.mpr g.one)] at h3; cases h3
    have h3' : rs.Nodup := hdup.mp (Classical.byContradiction fun e => h3 (by rw [decide_eq_false e]; rfl))
    clear bad hT1
    subst hT2
    simp only [rdA, rd_forL, rd_forR, rd_seq, rd_if]
    subst hR1
    refine seq_as fun R1 hR1 => if_as fun T1 T2 hT1 hT2 => ?_
    have hlo2 := sA _ _ hlo
    have ht2 := sA _ _ ht
    have hos2 := rns_same sA hos
    simp only [rdA, rd_compR2, rd_forL, rd_forR, rd_seq, rd_if]
    refine ⟨os, .inl (SqL.of hlo2), by decide, by decide, by omega, by omega, fun D hD => ?_⟩
    have hnL : (((os.length : Nat) : Int) + 2 - 2).toNat = rs.length := by omega
    rw [hnL]
    have sD := Same.new (o := HO.lst []) hD
    refine comp_rangeL (lo := 2) (n := rs.length) (fun i ys H3 => ∃ bs : List Bool, ys = bs.map V.bl ∧ bs.length = i ∧ Same H2 H3 ∧ H3 D = some (.lst ys) ∧ ∀ (j : Nat) (r : R3), j < i → rs[j]? = some r → (bs[j]? = some true ↔ Nok rs j r)) ⟨[], rfl, rfl, sD, upd_same, fun j r hj => absurd hj (Nat.not_lt_zero _)⟩ ?_ ?_
    · rintro i ys H3 hi ⟨bs, rfl, hbl, sm3, hd3, hb3⟩
      obtain ⟨r, hr2⟩ : ∃ r, rs[i]? = some r := ⟨rs[i], List.getElem?_eq_getElem hi⟩
      simp only [rdA, rd_forL, rd_forR, rd_seq, rd_if]
      refine ⟨lo, os, rs, i, r, by rw [show (2 : Int) + ((i : Nat) : Int) = ((i + 2 : Nat) : Int) by omega], sm3 _ _ hlo2, rns_same sm3 hos2, hr2, fun b hb => ⟨hd3, lt9s (by rw [List.length_map]; omega), _, (by omega : rs.length - (i + 1) < _), rfl, hi, bs ++ [b], by rw [List.map_append]; rfl, by rw [List.length_append, hbl]; rfl, sm3.mut hD, upd_same, fun j r' hj hjr => ?_⟩⟩
      by_cases hji : j < i
      · rw [List.getElem?_append_left (by omega)]
        exact hb3 j r' hji hjr
      · have : j = i := by omega
        subst this
        rw [hr2] at hjr
        cases hjr
        rw [List.getElem?_append_right (by omega), hbl, Nat.sub_self]
        simpa using hb
    · rintro ys H3 ⟨bs, rfl, hbl, sm3, hd3, hb3⟩
      refine ⟨D, rfl, bs, SqL.of hd3, ?_⟩
      have hall : bs.all id = true ↔ ∀ (j : Nat) (r : R3), rs[j]? = some r → Nok rs j r := by
        rw [List.all_eq_true]
        constructor
        · intro h j r hjr
          have hj := (List.getElem?_eq_some_iff.mp hjr).1
          refine (hb3 j r hj hjr).mp ?_
          have hjb : j < bs.length := by omega
          have := h bs[j] (List.getElem_mem hjb)
          rw [List.getElem?_eq_getElem hjb]
          simpa using this
        · intro h x hx
          obtain ⟨j, hj, e⟩ := List.getElem_of_mem hx
          have hjr : rs[j]? = some (rs[j]'(by omega)) := List.getElem?_eq_getElem (by omega)
          have := (hb3 j _ (by omega) hjr).mpr (h j _ hjr)
          rw [List.getElem?_eq_getElem hj, e] at this
          simpa using this
      have sB := sA.trans sm3
      refine ite2 (fun h4 => ?_) fun h4 => ?_
      · subst hT1
        simp only [rdA, rd_forL, rd_forR, rd_seq, rd_if]
        refine q false H3 sB ⟨fun e => (by cases e), fun ⟨ns, p, _, e, g, _⟩ => ?_⟩
        rw [hall.mpr g.ok] at h4
        cases h4
      · have h4' : bs.all id = true := by cases e : bs.all id with | true => rfl | false => exact absurd (by rw [e]; rfl) h4
        have G : Good3 rs z := ⟨by omega, by omega, h3', hall.mp h4'⟩
        obtain ⟨ns, p, e1, e2, gg⟩ := G.nds (by omega)
        subst hT2
        simp only [rdA, rd_forL, rd_forR, rd_seq, rd_if]
        subst hR1
        simp only [rdA, rd_forL, rd_forR, rd_seq, rd_if]
        subst e1 e2
        have hos3 := rns_nds (rns_same sm3 hos2)
        have hlen := gg.len
        refine ⟨lo, os, ns, p, rfl, sm3 _ _ hlo2, hos3, gg.net, gg.root, (by have : ns.length ≤ 4000000 := gg.len; omega), fun t' lo' os' H' n1 n2 sm' x1 x2 x3 x4 => ?_⟩
        · have gr1 : GrAt H' (.ref t') (graphOf ns p) := ⟨t', lo', os', rfl, x1, x2, x3⟩
          have gr2 : GrAt H' (.ref t) (ns, p) := ⟨t, lo, os, rfl, (sB.trans sm') _ _ ht, (sB.trans sm') _ _ hlo, nds_to sm'.tk hos3⟩
          refine ⟨dG (graphOf ns p), dG (ns, p), dG_at gr1, dG_at gr2, dG_lay _, dG_lay _, (by have := dG_dep (graphOf ns p); omega), ?_⟩
          rw [dG_iff]
          refine q _ _ (sB.trans sm') ?_
          rw [decide_eq_true_eq]
          constructor
          · intro e; exact ⟨ns, p, rfl, rfl, G, e⟩
          · rintro ⟨ns', p', f1, f2, _, f3⟩
            have : ns' = ns := nd3s_inj f1.symm
            have hp : p' = p := by omega
            rw [this, hp] at f3
            exact f3
end
end Nt
end CN
end
section
set_option Elab.async false
set_option linter.all false
set_option maxRecDepth 100000
set_option maxHeartbeats 4000000
namespace CN
open PySem L2
seal L2.PE L2.PT L2.PS L2.PSs L2.PA L2.PPs L2.PW L2.PC L2.PG L2.PGs L2.PI L2.PO L2.PTs
namespace Nt
noncomputable def d3 (r : R3) : PyData := .tuple [.int r.1, .int r.2.1, .int r.2.2]
theorem d3_lay (r : R3) : (d3 r).canLay0 = true := by simp [d3, PyData.canLay0, PyData.canLayAll0]
theorem d3_iff (a b : R3) : PyData.eqv (d3 a) (d3 b) = decide (a = b) := by
  obtain ⟨a1, a2, a3⟩ := a
  obtain ⟨b1, b2, b3⟩ := b
  rw [Bool.eq_iff_iff, decide_eq_true_eq]
  simp [d3, PyData.eqv, PyData.eqvAll]
theorem d3_at {H : Hp} {v : V} {r : R3} (h : RnAt H v r) : DT H v (d3 r) := by
  obtain ⟨a, rfl, e⟩ := h
  exact .tup e (.cons (.int _) (.cons (.int _) (.cons (.int _) .nil)))
theorem d3s_at {H : Hp} : ∀ {xs : List V} {rs : List R3}, Paired (RnAt H) xs rs → DTs H xs (rs.map d3)
  | _, _, .nil => .nil
  | _, _, .cons a b => .cons (d3_at a) (d3s_at b)
theorem d3s_lay : ∀ rs : List R3, PyData.canLayAll0 (rs.map d3) = true
  | [] => rfl
  | r :: rs => by rw [List.map_cons, PyData.canLayAll0, d3_lay, d3s_lay rs]; rfl
theorem rns_take {H : Hp} : ∀ {xs : List V} {rs : List R3} (k : Nat), Paired (RnAt H) xs rs → Paired (RnAt H) (xs.take k) (rs.take k)
  | _, _, 0, _ => .nil
  | _, _, k + 1, .nil => .nil
  | _, _, k + 1, .cons a b => .cons a (rns_take k b)
section
variable {P : Program} {w : World} {K : PySem.W.Frag} {mg : Str → Option Value} {base : Heap}
inductive G3Inv (H : Hp) (t : Addr) (rs : List R3) (k : Nat) (σ : St) (H2 : Hp) : Prop
  | mk (o1 o2 o3 o4 : Option V) (h0 : σ = [some (.ref t), o1, o2, o3, o4]) (h1 : Same H H2) (h2 : ∀ (i : Nat) (r : R3), i < k → rs[i]? = some r → Nok rs i r) (h3 : (rs.take k).Nodup) : G3Inv H t rs k σ H2
inductive N3Inv (H2 : Hp) (a b : St) (C : Nat → Prop) (j : Nat) (σ : St) (H3 : Hp) : Prop
  | mk (o3 : Option V) (h0 : H3 = H2) (h1 : σ = a ++ o3 :: b) (h2 : ∀ i, i < j → C i) : N3Inv H2 a b C j σ H3
noncomputable def num3 (r : R3) : Nat → Int
  | 0 => r.1
  | 1 => r.2.1
  | _ => r.2.2
noncomputable def ref3 (r : R3) : Nat → Int
  | 0 => r.2.1
  | _ => r.2.2
noncomputable def spGood3 : Sp := fun vs H Q _ => ∃ (v : V) (rs : List R3) (z : Int), vs = [v] ∧ RgAt H v rs z ∧ rs.length ≤ 1000 ∧ ∀ (b : Bool) H', Same H H' → (b = true ↔ Good3 rs z) → Q (.bl b) H'
theorem ok_good3 {f f1 : Addr} {fd fd1 : FuncData} (BT : Bt mg) (D_L_whole : Df K mg "_law_whole" s_L_whole p_L_whole f1 fd1) (D : Df K mg "_law_good_graph" s_L_good_graph p_L_good_graph f fd) : FnOk P w K mg base CX0 2 f fd p_L_good_graph spGood3 := by
  have G_L_whole : FnOk P w K mg base CX0 1 f1 fd1 p_L_whole spWhole := ok_whole BT D_L_whole
  refine D.F.ok sc_L_good_graph (fun vs H Q E h => ?_) (fun cdv A outer s H vs Q E hr h => ?_)
  · obtain ⟨v, rs, z, rfl, _⟩ := h
    rfl
  · obtain ⟨v, rs, z, rfl, hv, hn, q⟩ := h
    obtain ⟨t, lo, os, rfl, ht, hlo, hos⟩ := hv.ex
    refine ⟨_, (pss_cons (ps_if (PW.pt (pw_or (pt_not (pt_val (pe_callB (call_isinst) (by rfl) BT.n_isinstance bo_isinstance (pa_cons (pv 0) (pa_cons (pe_bltn (v := .ty "tuple") (by rfl) BT.n_tuple bo_tuple rfl) pa_nil))))) (pw_or (pt_cmpR op_ne (pe_callB call_len_seq (by rfl) BT.n_len bo_len (pa_cons (pv 0) pa_nil)) pe_int (nomark _)) (pw_or1 (pt_not (pt_val (pe_callB (call_isinst) (by rfl) BT.n_isinstance bo_isinstance (pa_cons (pe_ix ix_tup (pv 0) pe_int (fun _ _ => rfl)) (pa_cons (pe_bltn (v := .ty "list") (by rfl) BT.n_list bo_list rfl) pa_nil)))))))))
      (pss_one (ps_ret pe_bl))
      pss_nil)
    (pss_cons (ps_if (PW.pt (pw_or (pt_not (pt_val (pe_call G_L_whole (hr) (by rfl) D_L_whole.m D_L_whole.F.kp D_L_whole.b .nil pass0 (pa_cons (pe_ix ix_tup (pv 0) pe_int (fun _ _ => rfl)) pa_nil)))) (pw_or (pt_cmpR op_lt (pe_ix ix_tup (pv 0) pe_int (fun _ _ => rfl)) pe_int (nomark _)) (pw_or1 (pt_cmpR op_gt (pe_ix ix_tup (pv 0) pe_int (fun _ _ => rfl)) (pe_op op_add (pe_callB call_len_seq (by rfl) BT.n_len bo_len (pa_cons (pe_ix ix_tup (pv 0) pe_int (fun _ _ => rfl)) pa_nil)) pe_int) (nomark _))))))
      (pss_one (ps_ret pe_bl))
      pss_nil)
    (pss_cons (ps_for PassesOwn.never rfl (pi_range1 (by rfl) BT.n_range (pa_cons (pe_callB call_len_seq (by rfl) BT.n_len bo_len (pa_cons (pe_ix ix_tup (pv 0) pe_int (fun _ _ => rfl)) pa_nil)) pa_nil)) (pg_name (i := 1) sc_L_good_graph.nd rfl (by first | exact Or.inl rfl | exact Or.inr rfl))
      (pss_cons (ps_set (i := 2) sc_L_good_graph.nd rfl (by first | exact Or.inl rfl | exact Or.inr rfl) (pe_ix ix_list (pe_ix ix_tup (pv 0) pe_int (fun _ _ => rfl)) (pv 1) (fun _ _ => rfl)))
      (pss_cons (ps_if (PW.pt (pw_or (pt_not (pt_val (pe_callB (call_isinst) (by rfl) BT.n_isinstance bo_isinstance (pa_cons (pv 2) (pa_cons (pe_bltn (v := .ty "tuple") (by rfl) BT.n_tuple bo_tuple rfl) pa_nil))))) (pw_or1 (pt_cmpR op_ne (pe_callB call_len_seq (by rfl) BT.n_len bo_len (pa_cons (pv 2) pa_nil)) pe_int (nomark _)))))
        (pss_one (ps_ret pe_bl))
        pss_nil)
      (pss_cons (ps_for PassesOwn.never rfl (pi_tup (pv 2)) (pg_name (i := 3) sc_L_good_graph.nd rfl (by first | exact Or.inl rfl | exact Or.inr rfl))
        (pss_one (ps_if (PW.pt (pw_or (pt_not (pt_val (pe_call G_L_whole (hr) (by rfl) D_L_whole.m D_L_whole.F.kp D_L_whole.b .nil pass0 (pa_cons (pv 3) pa_nil)))) (pw_or1 (pt_cmpR op_lt (pv 3) pe_int (nomark _)))))
          (pss_one (ps_ret pe_bl))
          pss_nil)))
      (pss_cons (ps_for PassesOwn.never rfl (pi_tup (pe_slice sl_tup (pv 2) (po_some pe_int) po_none)) (pg_name (i := 4) sc_L_good_graph.nd rfl (by first | exact Or.inl rfl | exact Or.inr rfl))
        (pss_cons (ps_if (PW.pt (pw_or (pt_cmpR op_lt (pv 4) pe_int (nomark _)) (pw_or1 (pt_cmpR op_gt (pv 4) (pe_op op_add (pv 1) pe_int) (nomark _)))))
          (pss_one (ps_ret pe_bl))
          pss_nil)
        (pss_one (ps_if (PW.pt (pw_and (pt_cmpR op_gt (pv 4) pe_int (nomark _)) (pw_and1 (pt_cmpR op_le (pe_ix ix_tup (pe_ix ix_list (pe_ix ix_tup (pv 0) pe_int (fun _ _ => rfl)) (pe_op op_sub (pv 4) pe_int) (fun _ _ => rfl)) pe_int (fun _ _ => rfl)) (pe_ix ix_tup (pv 2) pe_int (fun _ _ => rfl)) (nomark _)))))
          (pss_one (ps_ret pe_bl))
          pss_nil))))
      (pss_one (ps_if (PW.pt (pw_or (pt_cmpR op_eq (pe_ix ix_tup (pv 2) pe_int (fun _ _ => rfl)) (pe_ix ix_tup (pv 2) pe_int (fun _ _ => rfl)) (nomark _)) (pw_or1 (pt_cmpR (op_in_data hr) (pv 2) (pe_slice sl_list (pe_ix ix_tup (pv 0) pe_int (fun _ _ => rfl)) po_none (po_some (pv 1))) (by with_unfolding_all rfl)))))
        (pss_one (ps_ret pe_bl))
        pss_nil)))))))
    (pss_one (ps_ret pe_bl))))), ?_⟩
    have hol : os.length = rs.length := Paired.length hos
    have bad : ∀ H', Same H H' → ¬ Good3 rs z → Q (.bl false) H' := fun H' sm hg => q false H' sm ⟨fun e => (by cases e), fun e => absurd e hg⟩
    refine seq_as fun R1 hR1 => ?_
    refine if_as fun A B hA hB => ?_
    simp only [rdA, rd_forL, rd_forR, rd_compT, rd_compL, rd_compR, rd_tyes]
    refine ⟨_, .tup ht, _, kit_same K "tuple", iteF ⟨_, .inr (SqT.of ht), iteNS rfl ⟨_, SqT.of ht, _, atI0 _ _, _, .lst hlo, _, kit_same K "list", iteF ?_⟩⟩⟩
    subst hB
    clear hA
    simp only [rdA, rd_forL, rd_forR, rd_compT, rd_compL, rd_compR, rd_tyes]
    subst hR1
    refine seq_as fun R1 hR1 => ?_
    refine if_as fun A B hA hB => ?_
    simp only [rdA, rd_forL, rd_forR, rd_compT, rd_compL, rd_compR, rd_tyes]
    refine ⟨_, SqT.of ht, _, atI1 _ _ _, z, rfl, true, rfl, iteF ⟨_, SqT.of ht, _, atI1 _ _ _, ?_⟩⟩
    simp only [rdA, rd_forL, rd_forR, rd_compT, rd_compL, rd_compR, rd_tyes]
    refine ite2 (fun h1 => ?_) fun h1 => ?_
    · subst hA
      simp only [rdA, rd_forL, rd_forR, rd_compT, rd_compL, rd_compR, rd_tyes]
      exact bad _ (Same.refl _) fun g => by have := of_decide_eq_true h1; have := g.lo; omega
    refine ⟨_, SqT.of ht, _, atI1 _ _ _, _, SqT.of ht, _, atI0 _ _, ?_⟩
    simp only [rdA, rd_forL, rd_forR, rd_compT, rd_compL, rd_compR, rd_tyes]
    refine ⟨_, .inl (SqL.of hlo), ?_⟩
    refine ite2 (fun h2 => ?_) fun h2 => ?_
    · subst hA
      simp only [rdA, rd_forL, rd_forR, rd_compT, rd_compL, rd_compR, rd_tyes]
      exact bad _ (Same.refl _) fun g => by have := of_decide_eq_true h2; have := g.hi; omega
    have h1' : ¬ z < 0 := fun e => h1 (decide_eq_true e)
    have h2' : ¬ ((os.length : Nat) : Int) + 1 < z := fun e => h2 (decide_eq_true e)
    subst hB
    clear hA
    simp only [rdA, rd_forL, rd_forR, rd_compT, rd_compL, rd_compR, rd_tyes]
    subst hR1
    refine seq_as fun R1 hR1 => ?_
    simp only [rdA, rd_forT, rd_forL, rd_forR, rd_compT, rd_compL, rd_compR, rd_tyes]
    refine ⟨_, SqT.of ht, _, atI0 _ _, lo, rfl, _, .inl (SqL.of hlo), by omega, by omega, ?_⟩
    rw [Int.toNat_natCast]
    refine for_range (lo := 0) (n := os.length) (G3Inv H t rs) ⟨none, none, none, none, rfl, Same.refl _, fun i r hi => absurd hi (Nat.not_lt_zero _), by rw [List.take_zero]; exact .nil⟩ ?_ ?_
    · rintro k σ H2 hk ⟨o1, o2, o3, o4, rfl, sm, hok, hnd⟩
      obtain ⟨r, hr2⟩ : ∃ r, rs[k]? = some r := ⟨rs[k]'(by omega), List.getElem?_eq_getElem (by omega)⟩
      obtain ⟨a, hu, ha⟩ := rns_get hos hr2
      have ht2 := sm _ _ ht
      have hlo2 := sm _ _ hlo
      have ha2 := sm _ _ ha
      clear hR1
      simp only [rd_name, List.set_cons_succ, List.set_cons_zero, Int.zero_add]
      refine seq_as fun R2 hR2 => ?_
      simp only [rdA, rd_forL, rd_forR, rd_compT, rd_compL, rd_compR, rd_tyes]
      refine ⟨_, SqT.of ht2, _, atI0 _ _, ?_⟩
      simp only [rdA, rd_forL, rd_forR, rd_compT, rd_compL, rd_compR, rd_tyes]
      refine ⟨_, SqL.of hlo2, _, atI_nat hu, ?_⟩
      subst hR2
      refine seq_as fun R2 hR2 => ?_
      refine if_as fun A B hA hB => ?_
      simp only [rdA, rd_forL, rd_forR, rd_compT, rd_compL, rd_compR, rd_tyes]
      refine ⟨_, .tup ha2, _, kit_same K "tuple", iteF ⟨_, .inr (SqT.of ha2), iteNS rfl ?_⟩⟩
      subst hB
      clear hA
      simp only [rdA, rd_forL, rd_forR, rd_compT, rd_compL, rd_compR, rd_tyes]
      subst hR2
      refine seq_as fun R2 hR2 => ?_
      simp only [rdA, rd_forT, rd_forL, rd_forR, rd_compT, rd_compL, rd_compR, rd_tyes]
      refine ⟨⟨_, SqT.of ha2⟩, ?_⟩
      refine for_tup (K := K) (a := a) (xs := r3V r) (N3Inv H2 [some (.ref t), some (.int (k : Nat)), some (.ref a)] [o4] fun i => 0 ≤ num3 r i) ⟨o3, rfl, rfl, fun i hi => absurd hi (Nat.not_lt_zero _)⟩ (fun j σ H3 _ h => by obtain ⟨_, e, _, _⟩ := h; rw [e]; exact SqT.of ha2) ?_ ?_
      · rintro j y σ H3 hj ⟨o3, rfl, rfl, hc⟩
        obtain ⟨rfl, hj3⟩ : y = .int (num3 r j) ∧ j < 3 := by
          match j, hj with
          | 0, hj => cases hj; exact ⟨rfl, by decide⟩
          | 1, hj => cases hj; exact ⟨rfl, by decide⟩
          | 2, hj => cases hj; exact ⟨rfl, by decide⟩
        simp only [rdA, rd_forT, rd_forL, rd_forR, rd_seq, rd_if]
        refine ⟨num3 r j, rfl, true, rfl, iteF (ite2 (fun h3 => ?_) fun h3 => ⟨_, rfl, rfl, fun i hi => ?_⟩)⟩
        · have h3 := of_decide_eq_true h3
          refine bad _ sm fun g => ?_
          obtain ⟨g1, g2, g3, g4⟩ := g.ok k r hr2
          have g3 := g3.1
          have g4 := g4.1
          match j, hj3, h3 with
          | 0, _, h3 => have h3 : r.1 < 0 := h3; omega
          | 1, _, h3 => have h3 : r.2.1 < 0 := h3; omega
          | 2, _, h3 => have h3 : r.2.2 < 0 := h3; omega
        · by_cases e : i < j
          · exact hc i e
          · have : i = j := by omega
            subst this
            exact Int.not_lt.mp fun z => h3 (decide_eq_true z)
      · rintro σ H3 ⟨o3, rfl, rfl, hc⟩
        have c0 : 0 ≤ r.1 := hc 0 (show 0 < 3 by decide)
        have c1 : 0 ≤ r.2.1 := hc 1 (show 1 < 3 by decide)
        have c2 : 0 ≤ r.2.2 := hc 2 (show 2 < 3 by decide)
        subst hR2
        dsimp only
        refine seq_as fun R2 hR2 => ?_
        simp only [rdA, rd_forT, rd_forL, rd_forR, rd_compT, rd_compL, rd_compR, rd_tyes]
        refine ⟨a, _, rfl, SqT.of ha2, fun z => (by have := z.1; cases this), fun p hp => ⟨_, rfl, ⟨_, SqT.of upd_same⟩, ?_⟩⟩
        rw [show cutV (r3V r) (some 1) none = [.int r.2.1, .int r.2.2] from rfl]
        have s4 := Same.new (o := HO.tup [V.int r.2.1, .int r.2.2]) hp
        have ht4 := s4 _ _ ht2
        have hlo4 := s4 _ _ hlo2
        have ha4 := s4 _ _ ha2
        have sm4 := sm.trans s4
        have hp4 : upd H3 p (HO.tup [V.int r.2.1, .int r.2.2]) p = some (.tup [V.int r.2.1, .int r.2.2]) := upd_same
        generalize upd H3 p (HO.tup [V.int r.2.1, .int r.2.2]) = H4 at ht4 hlo4 ha4 sm4 hp4 ⊢
        refine for_tup (K := K) (a := p) (xs := [.int r.2.1, .int r.2.2]) (N3Inv H4 [some (.ref t), some (.int (k : Nat)), some (.ref a), o3] [] fun i => Lead rs k r.1 (ref3 r i)) ⟨o4, rfl, rfl, fun i hi => absurd hi (Nat.not_lt_zero _)⟩ (fun j σ H3 _ h => by obtain ⟨_, e, _, _⟩ := h; rw [e]; exact SqT.of hp4) ?_ ?_
        · rintro j y σ H5 hj ⟨o5, rfl, rfl, hc2⟩
          obtain ⟨rfl, hj2⟩ : y = .int (ref3 r j) ∧ j < 2 := by
            match j, hj with
            | 0, hj => cases hj; exact ⟨rfl, by decide⟩
            | 1, hj => cases hj; exact ⟨rfl, by decide⟩
          have hlead : Good3 rs z → Lead rs k r.1 (ref3 r j) := fun g => by
            obtain ⟨_, _, g3, g4⟩ := g.ok k r hr2
            match j, hj2 with
            | 0, _ => exact g3
            | 1, _ => exact g4
          have next : Lead rs k r.1 (ref3 r j) → ∀ i, i < j + 1 → Lead rs k r.1 (ref3 r i) := fun hL i hi => by
            by_cases e : i < j
            · exact hc2 i e
            · have : i = j := by omega
              subst this
              exact hL
          generalize ref3 r j = y at *
          simp only [rdA, rd_forT, rd_forL, rd_forR, rd_seq, rd_if]
          refine ite2 (fun h3 => bad _ sm4 fun g => ?_) fun h3 => ite2 (fun h4 => bad _ sm4 fun g => ?_) fun h4 => ?_
          · have := of_decide_eq_true h3; have := (hlead g).1; omega
          · have := of_decide_eq_true h4; have := (hlead g).2.1; omega
          have h3' : ¬ y < 0 := fun e => h3 (decide_eq_true e)
          have h4' : ¬ ((k : Nat) : Int) + 1 < y := fun e => h4 (decide_eq_true e)
          refine ite2 (fun h5 => ?_) fun h5 => ⟨_, rfl, rfl, next ⟨by omega, by omega, .inl (by have : ¬ (1 : Int) < y := fun e => h5 (decide_eq_true e); omega)⟩⟩
          have h5' : (1 : Int) < y := of_decide_eq_true h5
          obtain ⟨m, hm⟩ : ∃ m : Nat, y = (m : Nat) + 2 := ⟨(y - 2).toNat, by omega⟩
          subst hm
          have hml : m < rs.length := by omega
          have hmr : rs[m]? = some rs[m] := List.getElem?_eq_getElem hml
          obtain ⟨a2, hu2, hb2⟩ := rns_get hos hmr
          refine ⟨_, SqT.of ht4, _, atI0 _ _, ?_⟩
          simp only [rdA, rd_forT, rd_forL, rd_forR, rd_seq, rd_if]
          refine ⟨_, SqL.of hlo4, _, by rw [show ((m : Nat) : Int) + 2 - 2 = ((m : Nat) : Int) by omega]; exact atI_nat hu2, ?_⟩
          simp only [rdA, rd_forT, rd_forL, rd_forR, rd_seq, rd_if]
          refine ⟨_, SqT.of (sm4 _ _ hb2), _, atI0 _ _, _, SqT.of ha4, _, atI0 _ _, ?_⟩
          simp only [rdA, rd_forT, rd_forL, rd_forR, rd_seq, rd_if]
          have hm2 : (((m : Nat) : Int) + 2 - 2).toNat = m := by omega
          refine ite2 (fun h6 => bad _ sm4 fun g => ?_) fun h6 => ⟨_, rfl, rfl, next ⟨by omega, by omega, .inr ⟨rs[m], by rw [hm2]; exact hmr, ?_⟩⟩⟩
          · have h6 := of_decide_eq_true h6
            rcases (hlead g).2.2 with e | ⟨r', e1, e2⟩
            · omega
            · rw [hm2, hmr] at e1
              cases e1
              omega
          · exact Int.not_le.mp fun e => h6 (decide_eq_true e)
        · rintro σ H5 ⟨o5, rfl, rfl, hc2⟩
          have l1 : Lead rs k r.1 r.2.1 := hc2 0 (show 0 < 2 by decide)
          have l2 : Lead rs k r.1 r.2.2 := hc2 1 (show 1 < 2 by decide)
          subst hR2
          simp only [rdA, rd_forT, rd_forL, rd_forR, rd_seq, rd_if]
          refine ⟨_, SqT.of ha4, _, atI1 _ _ _, _, SqT.of ha4, _, atI2 _ _ _ _, ?_⟩
          simp only [rdA, rd_forT, rd_forL, rd_forR, rd_seq, rd_if]
          refine ite2 (fun h3 => bad _ sm4 fun g => (g.ok k r hr2).2.1 (of_decide_eq_true h3)) fun h3 => ?_
          have h3' : r.2.1 ≠ r.2.2 := fun e => h3 (decide_eq_true e)
          refine ⟨_, SqT.of ht4, _, atI0 _ _, ?_⟩
          simp only [rdA, rd_forT, rd_forL, rd_forR, rd_seq, rd_if]
          refine ⟨_, SqL.of hlo4, fun p2 hp2 => ?_⟩
          rw [cut_k os k (by omega)]
          have s6 := Same.new (o := HO.lst (os.take k)) hp2
          rw [rd_inD]
          refine ⟨_, _, d3 r, upd_same, d3s_at (rns_take k (rns_same (sm4.trans s6) hos)), d3_at ⟨a, rfl, s6 _ _ ha4⟩, d3s_lay _, d3_lay r, by simp [d3, PyData.depth, PyData.depthAll], ?_⟩
          have hany : ((rs.take k).map d3).any (fun y => PyData.eqv y (d3 r)) = decide (r ∈ rs.take k) := by
            rw [Bool.eq_iff_iff, List.any_eq_true, decide_eq_true_eq]
            constructor
            · rintro ⟨x, hx, e⟩
              obtain ⟨r', hr', rfl⟩ := List.mem_map.mp hx
              rw [d3_iff, decide_eq_true_eq] at e
              rw [← e]; exact hr'
            · intro hx
              exact ⟨d3 r, List.mem_map.mpr ⟨r, hx, rfl⟩, by rw [d3_iff]; simp⟩
          rw [hany]
          have etake : rs.take (k + 1) = rs.take k ++ [r] := by rw [List.take_succ, hr2]; rfl
          refine ⟨_, rfl, ite2 (fun h4 => bad _ (sm4.trans s6) fun g => ?_) fun h4 => ⟨_, _, _, _, rfl, sm4.trans s6, fun i r' hi hir => ?_, ?_⟩⟩
          · have h4 := of_decide_eq_true h4
            have := g.one.sublist (List.take_sublist (k + 1) rs)
            rw [etake, List.nodup_append] at this
            exact this.2.2 r h4 r (by simp) rfl
          · by_cases e : i < k
            · exact hok i r' e hir
            · have : i = k := by omega
              subst this
              rw [hr2] at hir
              cases hir
              exact ⟨c0, h3', l1, l2⟩
          · rw [etake, List.nodup_append]
            refine ⟨hnd, by simp, fun x hx y hy e => h4 (decide_eq_true ?_)⟩
            rw [List.mem_singleton] at hy
            subst hy
            subst e
            exact hx
    · rintro σ H2 ⟨o1, o2, o3, o4, rfl, sm, hok, hnd⟩
      subst hR1
      simp only [rdA, rd_forL, rd_forR, rd_seq, rd_if]
      refine q true H2 sm ⟨fun _ => ⟨by omega, by omega, ?_, fun i r hi => ?_⟩, fun _ => rfl⟩
      · rw [hol, List.take_length] at hnd; exact hnd
      · exact hok i r (by rw [hol]; exact (List.getElem?_eq_some_iff.mp hi).1) hi
end
end Nt
end CN
end
section
set_option Elab.async false
set_option linter.all false
set_option maxRecDepth 100000
set_option maxHeartbeats 4000000
namespace CN
open PySem L2
seal L2.PE L2.PT L2.PS L2.PSs L2.PA L2.PPs L2.PW L2.PC L2.PG L2.PGs L2.PI L2.PO L2.PTs
namespace Nt
noncomputable abbrev s_L_other_way : Stmt := top 15
noncomputable abbrev p_L_other_way : List Str := ["_law_nodes", "_law_root"]
theorem sc_L_other_way : FnScope ["_law_nodes", "_law_root", "_law_numbers", "_law_made", "_law_todo", "_law_here", "_law_switch", "_law_low", "_law_high", "_law_rest"] ["_law_nodes", "_law_root"] (defScope s_L_other_way) := ⟨rfl, rfl, rfl, by decide +kernel, rfl, by decide +kernel, by decide +kernel⟩
noncomputable def swp (nd : Nd) : Nd := ⟨nd.sw, nd.on, nd.off⟩
theorem net_swp {ns : List Nd} (N : Net ns) : Net (ns.map swp) := by
  have get : ∀ {i : Nat} {nd : Nd}, (ns.map swp)[i]? = some nd → ns[i]? = some (swp nd) := fun {i nd} e => by
    rw [List.getElem?_map] at e
    cases q : ns[i]? with
    | none => rw [q] at e; cases e
    | some md => rw [q] at e; rw [← Option.some.inj e]; rfl
  have ab : ∀ {b : Int} {p : Nat}, Above ns b p → Above (ns.map swp) b p := fun {b p} h => by
    rcases h with h | ⟨nd, e, h⟩
    · exact .inl h
    · exact .inr ⟨swp nd, by rw [List.getElem?_map, e]; rfl, h⟩
  refine ⟨fun i nd e => ?_, fun i j nd e1 e2 => N.one i j _ (get e1) (get e2)⟩
  obtain ⟨h1, h2, h3, h4, h5⟩ := N.ord i _ (get e)
  exact ⟨h2, h1, fun z => h3 z.symm, ab h5, ab h4⟩
inductive OwInv (H : Hp) (gv gr : V) (ld lo : Addr) (ns : List Nd) (p : Nat) (m : Nat) (σ : St) (H2 : Hp) : Prop
  | mk (lw : Addr) (w : Ws) (st : List Nat) (os : List V) (kvs : List (Key × V)) (o4 o5 o6 o7 o8 : Option V) (h0 : σ = [some gv, some gr, some (.ref ld), some (.ref lo), some (.ref lw), o4, o5, o6, o7, o8]) (h1 : Same H H2) (h2 : H lw = none) (h3 : ld ≠ lw) (h4 : lo ≠ lw) (h5 : H2 ld = some (.dK kvs)) (h6 : H2 lo = some (.lst os)) (h7 : H2 lw = some (.lst (vN st.reverse))) (h8 : (∀ q : Nat, valV kvs (Sum.inl ((q : Nat) : Int)) = (w.num q).map fun x => V.int (x : Nat))) (h9 : kvs.length ≤ w.out.length + 2) (h10 : Paired (NdAt H2) os (w.out.map swp)) (h11 : Good ns w) (h12 : (∀ q ∈ st, Pl ns q)) (h13 : w.out.length + unn w (ns.length + 2) ≤ ns.length) (h14 : runs ns st w = visit ns (p + 1) p w0) (h15 : costs2 ns st w = m) (h16 : m ≤ 16000001) : OwInv H gv gr ld lo ns p m σ H2
section
variable {P : Program} {w : World} {K : PySem.W.Frag} {mg : Str → Option Value} {base : Heap}
noncomputable def spOway : Sp := fun vs H Q _ => ∃ (l : Addr) (xs : List V) (n0 : List Nd) (p : Nat), vs = [.ref l, .int (p : Nat)] ∧ H l = some (.lst xs) ∧ Paired (NdAt H) xs n0 ∧ Net n0 ∧ Pl n0 p ∧ n0.length ≤ 1000 ∧
  ∀ (t' lo' : Addr) (os : List V) (ms : List Nd) (x : Nat) H', H lo' = none → Same H H' → H' t' = some (.tup [.ref lo', .int (x : Nat)]) → H' lo' = some (.lst os) → Paired (NdAt H') os ms → ms.length ≤ n0.length → Q (.ref t') H'
theorem ok_oway {f : Addr} {fd : FuncData} (BT : Bt mg) (D : Df K mg "_law_other_way" s_L_other_way p_L_other_way f fd) : FnOk P w K mg base CX0 1 f fd p_L_other_way spOway := by
  refine D.F.ok sc_L_other_way (fun vs H Q E h => ?_) (fun cdv A outer s H vs Q E hr h => ?_)
  · obtain ⟨l, xs, n0, p, rfl, _⟩ := h
    rfl
  · obtain ⟨l, xs, n0, p, rfl, hl, hxs, hN0, hp0, hz0, q⟩ := h
    have hu := hu_of hr
    obtain ⟨ns, ens⟩ : ∃ ns, ns = n0.map swp := ⟨_, rfl⟩
    have hN : Net ns := by rw [ens]; exact net_swp hN0
    have hlns : ns.length = n0.length := by rw [ens, List.length_map]
    have hp : Pl ns p := by show p < ns.length + 2; rw [hlns]; exact hp0
    have hz : ns.length ≤ 4000000 := by omega
    refine ⟨_, (pss_cons (ps_set (i := 2) sc_L_other_way.nd rfl (by first | exact Or.inl rfl | exact Or.inr rfl) (pe_dispI [(0, 0, ⟨161, 20, 161, 21⟩, ⟨161, 23, 161, 24⟩), (1, 1, ⟨161, 26, 161, 27⟩, ⟨161, 29, 161, 30⟩)] (by rfl) (by rfl)))
    (pss_cons (ps_set (i := 3) sc_L_other_way.nd rfl (by first | exact Or.inl rfl | exact Or.inr rfl) (pe_lst pa_nil))
    (pss_cons (ps_set (i := 4) sc_L_other_way.nd rfl (by first | exact Or.inl rfl | exact Or.inr rfl) (pe_lst (pa_cons (pv 1) pa_nil)))
    (pss_cons (ps_while PassesOwn.never (pt_cmpR (op_neNil hr) (pv 4) (pe_lst pa_nil) (nomark _))
      (pss_cons (ps_set (i := 5) sc_L_other_way.nd rfl (by first | exact Or.inl rfl | exact Or.inr rfl) (pe_bm0 PySem.F.plainAttrs_list PySem.F.slot_list_pop PySem.F.type_list_pop mt_pop (pv 4)))
      (pss_one (ps_if (pt_cmp (pc_dnotin hu (pv 5) (pv 2)))
        (pss_cons (ps_asg (pe_ix ix_list (pv 0) (pe_op op_sub (pv 5) pe_int) (fun _ _ => rfl)) (pg_tup rfl (pgs_cons (pg_name (i := 6) sc_L_other_way.nd rfl (by first | exact Or.inl rfl | exact Or.inr rfl)) (pgs_cons (pg_name (i := 7) sc_L_other_way.nd rfl (by first | exact Or.inl rfl | exact Or.inr rfl)) (pgs_cons (pg_name (i := 8) sc_L_other_way.nd rfl (by first | exact Or.inl rfl | exact Or.inr rfl)) pgs_nil)))))
        (pss_cons (ps_setC (i := 9) sc_L_other_way.nd rfl (by first | exact Or.inl rfl | exact Or.inr rfl) rfl (pi_list (pe_lst (pa_cons (pv 7) (pa_cons (pv 8) pa_nil)))) (csc_of (M := ["_law_nodes", "_law_root", "_law_numbers", "_law_made", "_law_todo", "_law_here", "_law_switch", "_law_low", "_law_high", "_law_rest"]) rfl (by decide +kernel) (by decide +kernel)) (fun _ _ _ _ => (pts_one (pt_cmp (pc_dnotin hu (pv 0) (pv 3))))) (fun _ _ _ _ => (pv 0)) (by rfl))
        (pss_one (ps_if (pt_cmpR (op_eqNil hr) (pv 9) (pe_lst pa_nil) (nomark _))
          (pss_cons (ps_dput hu (pv 2) (pv 5) (pe_op op_add (pe_callB call_len_seq (by rfl) BT.n_len bo_len (pa_cons (pv 3) pa_nil)) pe_int) rfl)
          (pss_one (ps_expr (pe_bm PySem.F.plainAttrs_list PySem.F.slot_list_append PySem.F.type_list_append mt_append (pv 3) (pa_cons (pe_tup (pa_cons (pv 6) (pa_cons (pe_dget hu (pv 2) (pv 7) (fun _ _ => rfl)) (pa_cons (pe_dget hu (pv 2) (pv 8) (fun _ _ => rfl)) pa_nil)))) pa_nil)))))
          (pss_one (ps_set (i := 4) sc_L_other_way.nd rfl (by first | exact Or.inl rfl | exact Or.inr rfl) (pe_op op_cat (pe_op op_cat (pv 4) (pe_lst (pa_cons (pv 5) pa_nil))) (pv 9))))))))
        pss_nil))))
    (pss_one (ps_ret (pe_tup (pa_cons (pv 3) (pa_cons (pe_dget hu (pv 2) (pv 1) (fun _ _ => rfl)) pa_nil))))))))), ?_⟩
    refine seq_as fun R1 hR1 => ?_
    simp only [rdA, rd_dispI, kvI, rd_forL, rd_forR, rd_compT, rd_compL, rd_compR, rd_tyes, rd_kget, rd_kin, rd_fldP, rd_make, rd_slS, cx_w, cx_w2]
    intro ld hld
    subst hR1
    refine seq_as fun R1 hR1 => ?_
    simp only [rdA, rd_forL, rd_forR, rd_compT, rd_compL, rd_compR, rd_tyes, rd_kget, rd_kin, rd_fldP, rd_make, rd_slS, cx_w, cx_w2]
    intro lo hlo
    have s1 := Same.new (o := HO.dK (mergeK [] [(Sum.inl 0, V.int 0), (Sum.inl 1, V.int 1)])) hld
    have s2 := Same.new (o := HO.lst []) hlo
    subst hR1
    refine seq_as fun R1 hR1 => ?_
    simp only [rdA, rd_forL, rd_forR, rd_compT, rd_compL, rd_compR, rd_tyes, rd_kget, rd_kin, rd_fldP, rd_make, rd_slS, cx_w, cx_w2]
    intro lw hlw
    subst hR1
    refine seq_as fun R1 hR1 => ?_
    have s3 := Same.new (o := HO.lst [V.int (p : Nat)]) hlw
    have hlo0 : H lo = none := s1.free hlo
    have n1 : ld ≠ lo := ne_of_none upd_same hlo
    have hz1 := unn0 ns.length
    have hc := costs2_one hN hp
    refine ⟨OwInv H (.ref l) (.int (p : Nat)) ld lo ns p, ⟨_, lw, w0, [p], [], _, none, none, none, none, none, rfl, s1.trans (s2.trans s3), s1.free (s2.free hlw), ne_of_none (s2 _ _ upd_same) hlw, ne_of_none upd_same hlw, s3 _ _ (s2 _ _ upd_same), s3 _ _ upd_same, upd_same, fun q => ?_, by decide, .nil, good0 ns, by simpa using hp, by simpa [w0] using hz1, rfl, rfl, Nat.le_trans hc (by omega)⟩, ?_⟩
    · simp only [w0]
      by_cases e0 : q = 0
      · subst e0; rfl
      · by_cases e1 : q = 1
        · subst e1; rfl
        · rw [if_neg e0, if_neg e1]
          have h0 : ¬ (Sum.inl ((0 : Int)) : Key) = Sum.inl ((q : Nat) : Int) := fun h => e0 (by have := Sum.inl.inj h; omega)
          have h1 : ¬ (Sum.inl ((1 : Int)) : Key) = Sum.inl ((q : Nat) : Int) := fun h => e1 (by have := Sum.inl.inj h; omega)
          show valV [((Sum.inl 0 : Key), V.int 0), (Sum.inl 1, V.int 1)] _ = _
          rw [valV_neg h0, valV_neg h1]; rfl
    · clear s1 s2 s3 hlw lw hlo hz1 hc
      rintro m σ H2 ⟨lw, w, st, os, kvs, o4, o5, o6, o7, o8, rfl, sm, hlw, n2, n3, hd, ho, hw, hnum, hkl, hos, g, hst, hun, hrun, hm, hm2⟩
      simp only [rdA, rd_forL, rd_forR, rd_compT, rd_compL, rd_compR, rd_tyes, rd_kget, rd_kin, rd_fldP, rd_make, rd_slS, cx_w, cx_w2]
      intro p1 hp1
      have z := Same.new (o := HO.lst []) hp1
      refine ⟨_, z _ _ hw, upd_same, ?_⟩
      replace hd := z _ _ hd
      replace ho := z _ _ ho
      replace hw := z _ _ hw
      replace sm := sm.trans z
      replace hos := nds_to z.tk hos
      generalize upd H2 p1 (HO.lst []) = H3 at hd ho hw sm hos ⊢
      clear z hp1 H2 p1
      refine ite2 (fun he => ?_) (fun he => ?_)
      · refine ⟨fun σ' H' => ∃ m', m' < m ∧ OwInv H (.ref l) (.int (p : Nat)) ld lo ns p m' σ' H', fun _ _ h => h, ?_⟩
        cases st with
        | nil => simp [vN] at he
        | cons t1 r =>
          rw [show vN (t1 :: r).reverse = vN r.reverse ++ [V.int (t1 : Nat)] by simp [vN]] at hw
          clear hR1
          refine seq_as fun R2 hR2 => ?_
          simp only [rdA, rd_forL, rd_forR, rd_compT, rd_compL, rd_compR, rd_tyes, rd_kget, rd_kin, rd_fldP, rd_make, rd_slS, cx_w, cx_w2]
          refine ⟨⟨_, SqL.of hw⟩, _, hw, _, last_of _ _, ?_⟩
          rw [drop_of]
          have kk : Tk H3 _ := Tk.lst (o := .lst (vN r.reverse)) hw
          replace hd : upd H3 lw (.lst (vN r.reverse)) ld = _ := (upd_ne n2).trans hd
          replace ho : upd H3 lw (.lst (vN r.reverse)) lo = _ := (upd_ne n3).trans ho
          replace hos := nds_to kk hos
          replace sm : Same H (upd H3 lw (.lst (vN r.reverse))) := sm.mut hlw
          have hw4 := @upd_same H3 lw (.lst (vN r.reverse))
          clear kk hw
          generalize upd H3 lw (.lst (vN r.reverse)) = H4 at hd ho hw4 sm hos ⊢
          subst hR2
          refine if_as fun A B hA hB => ?_
          simp only [rdA, rd_forL, rd_forR, rd_compT, rd_compL, rd_compR, rd_tyes, rd_kget, rd_kin, rd_fldP, rd_make, rd_slS, cx_w, cx_w2]
          refine ⟨_, DGet.k (k := Sum.inl ((t1 : Nat) : Int)) hd, ?_⟩
          rw [hnum t1]
          have plt := hst t1 (List.mem_cons_self ..)
          have hst2 : ∀ q ∈ r, Pl ns q := fun q hq => hst q (List.mem_cons_of_mem _ hq)
          cases hnt : w.num t1 with
          | some x =>
            obtain ⟨h1, h2⟩ := run2_pop (ns := ns) (r := r) (p := t1) (w := w) (by rw [hnt]; rfl)
            refine iteF ?_
            subst hB
            simp only [rdA, rd_forL, rd_forR, rd_compT, rd_compL, rd_compR, rd_tyes, rd_kget, rd_kin, rd_fldP, rd_make, rd_slS, cx_w, cx_w2]
            exact ⟨costs2 ns r w, by omega, lw, w, r, os, kvs, _, _, _, _, _, rfl, sm, hlw, n2, n3, hd, ho, hw4, hnum, hkl, hos, g, hst2, hun, by rw [← h1]; exact hrun, rfl, by omega⟩
          | none =>
            obtain ⟨nd, e, o1, o2, po, pn⟩ := hN.way plt (not2 g hnt)
            obtain ⟨md, emd, end_⟩ : ∃ md, n0[t1 - 2]? = some md ∧ nd = swp md := by
              have e' := e
              rw [ens, List.getElem?_map] at e'
              cases q' : n0[t1 - 2]? with
              | none => rw [q'] at e'; cases e'
              | some md => rw [q'] at e'; exact ⟨md, rfl, (Option.some.inj e').symm⟩
            obtain ⟨v, hv, tn, rfl, htn0⟩ := nds_get (nds_to sm.tk hxs) emd
            have htn : H4 tn = some (.tup [.int nd.sw, .int (nd.on : Nat), .int (nd.off : Nat)]) := by rw [end_]; exact htn0
            have hat : atI xs ((t1 : Nat) - 2 : Int) = some (.ref tn) := by
              have := not2 g hnt
              rw [show ((t1 : Nat) : Int) - 2 = ((t1 - 2 : Nat) : Int) by omega]; exact atI_nat hv
            refine iteT ?_
            subst hA
            clear hB
            refine seq_as fun R2 hR2 => ?_
            simp only [rdA, rd_forL, rd_forR, rd_compT, rd_compL, rd_compR, rd_tyes, rd_kget, rd_kin, rd_fldP, rd_make, rd_slS, cx_w, cx_w2]
            refine ⟨_, SqL.of (sm _ _ hl), _, hat, ?_⟩
            rw [rd_gTup]
            refine ⟨_, SqT.of htn, rfl, _, _, rfl, _, _, rfl, _, _, rfl, rfl, ?_⟩
            subst hR2
            refine seq_as fun R2 hR2 => ?_
            simp only [rdA, rd_forL, rd_forR, rd_compT, rd_compL, rd_compR, rd_tyes, rd_kget, rd_kin, rd_fldP, rd_make, rd_slS, cx_w, cx_w2]
            intro q1 hq1
            have z := Same.new (o := HO.lst [V.int (nd.on : Nat), V.int (nd.off : Nat)]) hq1
            refine ⟨⟨_, SqL.of upd_same⟩, fun D hD => ?_⟩
            have hd5 := z _ _ hd
            have hfl : [V.int (nd.on : Nat), V.int (nd.off : Nat)].filter (fun v => match v with | .int i => (w.num i.toNat).isNone | _ => false) = vN (rest2 w nd).reverse := by
              cases h1 : w.num nd.off <;> cases h2 : w.num nd.on <;> simp [List.filter_cons, rest2, vN, h1, h2]
            refine comp_filt (f := fun v => match v with | .int i => (w.num i.toNat).isNone | _ => false) upd_same hD (show 2 < 1000 by decide) (fun x hx o R hR => ?_) (fun x H R hR => ?_) ?_
            · have hd6 : upd (upd H4 q1 (HO.lst [V.int (nd.on : Nat), V.int (nd.off : Nat)])) D o ld = _ := (upd_ne (ne_of_none hd5 hD)).trans hd5
              obtain ⟨i, rfl⟩ : ∃ i : Nat, x = .int (i : Nat) := by
                rcases List.mem_cons.mp hx with h | h
                · exact ⟨_, h⟩
                · exact ⟨_, List.mem_singleton.mp h⟩
              simp only [rdA, rd_forL, rd_forR, rd_compT, rd_compL, rd_compR, rd_tyes, rd_seq, rd_if, rd_kget, rd_kin, rd_fldP, rd_make, rd_slS, cx_w, cx_w2]
              refine ⟨_, DGet.k (k := Sum.inl ((i : Nat) : Int)) hd6, ?_⟩
              rw [hnum i]
              simp only [Int.toNat_natCast] at hR
              cases hni : w.num i with
              | none => rw [hni] at hR; exact hR
              | some y => rw [hni] at hR; exact hR
            · simp only [rdA, rd_forL, rd_forR, rd_compT, rd_compL, rd_compR, rd_tyes, rd_seq, rd_if, rd_kget, rd_kin, rd_fldP, rd_make, rd_slS, cx_w, cx_w2]; exact hR
            rw [hfl]
            have z2 := Same.new (o := HO.lst (vN (rest2 w nd).reverse)) hD
            have zz := z.trans z2
            replace hd := zz _ _ hd
            replace ho := zz _ _ ho
            replace hw4 := zz _ _ hw4
            replace sm := sm.trans zz
            replace hos := nds_to zz.tk hos
            have hrs := @upd_same (upd H4 q1 (HO.lst [V.int (nd.on : Nat), V.int (nd.off : Nat)])) D (HO.lst (vN (rest2 w nd).reverse))
            generalize upd (upd H4 q1 (HO.lst [V.int (nd.on : Nat), V.int (nd.off : Nat)])) D (HO.lst (vN (rest2 w nd).reverse)) = H5 at hd ho hw4 sm hos hrs ⊢
            clear z z2 zz hD hq1 hd5 htn hfl
            subst hR2
            refine if_as fun A B hA hB => ?_
            simp only [rdA, rd_forL, rd_forR, rd_compT, rd_compL, rd_compR, rd_tyes, rd_kget, rd_kin, rd_fldP, rd_make, rd_slS, cx_w, cx_w2]
            intro p3 hp3
            have z := Same.new (o := HO.lst []) hp3
            refine ⟨_, z _ _ hrs, upd_same, ?_⟩
            replace hd := z _ _ hd
            replace ho := z _ _ ho
            replace hw4 := z _ _ hw4
            replace sm := sm.trans z
            replace hos := nds_to z.tk hos
            replace hrs := z _ _ hrs
            generalize upd H5 p3 (HO.lst []) = H6 at hd ho hw4 sm hos hrs ⊢
            clear z hp3
            have hlen2 := costs2_len ns (t1 :: r) w
            refine ite2 (fun hem => ?_) (fun hem => ?_)
            · subst hA
              clear hB
              refine seq_as fun R2 hR2 => ?_
              simp only [rdA, rd_forL, rd_forR, rd_compT, rd_compL, rd_compR, rd_tyes, rd_kget, rd_kin, rd_fldP, rd_make, rd_slS, cx_w, cx_w2]
              have hr0 : rest2 w nd = [] := by simpa [vN] using hem
              obtain ⟨xo, hno⟩ : ∃ x, w.num nd.off = some x := by
                cases h : w.num nd.off with
                | none => simp [rest2, h] at hr0
                | some x => exact ⟨x, rfl⟩
              obtain ⟨xn, hnn⟩ : ∃ x, w.num nd.on = some x := by
                cases h : w.num nd.on with
                | none => simp [rest2, h] at hr0
                | some x => exact ⟨x, rfl⟩
              have hos1 : (w.num nd.off).isSome = true := by rw [hno]; rfl
              have hos2 : (w.num nd.on).isSome = true := by rw [hnn]; rfl
              obtain ⟨h1, h2⟩ := run2_add (r := r) hnt e hos1 hos2
              have hol : os.length = w.out.length := (Paired.length hos).trans (List.length_map _)
              refine ⟨_, .inl (SqL.of ho), _, DPut.k (k := Sum.inl ((t1 : Nat) : Int)) hd (Nat.lt_of_le_of_lt (by omega : kvs.length ≤ 10000002) (by decide)), ?_⟩
              rw [show ((os.length : Nat) : Int) + 2 = ((w.out.length + 2 : Nat) : Int) by omega]
              have hlp := length_putK kvs (Sum.inl ((t1 : Nat) : Int)) (V.int ((w.out.length + 2 : Nat) : Int))
              have hnum2 : ∀ q : Nat, valV (putK kvs (Sum.inl ((t1 : Nat) : Int)) (V.int ((w.out.length + 2 : Nat) : Int))) (Sum.inl ((q : Nat) : Int)) = ((w.add t1 nd).num q).map fun x => V.int (x : Nat) := fun q => by
                rw [valV_put]
                by_cases eq : q = t1
                · subst eq
                  rw [if_pos rfl, Ws.add_self]; rfl
                · rw [if_neg (fun h => eq (by have := Sum.inl.inj h; omega)), Ws.add_other w nd eq]; exact hnum q
              generalize putK kvs (Sum.inl ((t1 : Nat) : Int)) (V.int ((w.out.length + 2 : Nat) : Int)) = kv2 at hlp hnum2 ⊢
              have k5 : Tk H6 (upd H6 ld (.dK kv2)) := fun b ys e' => by
                rw [upd_ne (ne_of e' hd (by intro z; cases z))]; exact e'
              have hd7 := @upd_same H6 ld (.dK kv2)
              replace ho : upd H6 ld (.dK kv2) lo = _ := (upd_ne n1.symm).trans ho
              replace hw4 : upd H6 ld (.dK kv2) lw = _ := (upd_ne n2.symm).trans hw4
              replace hos := nds_to k5 hos
              replace sm : Same H (upd H6 ld (.dK kv2)) := sm.mut hld
              clear k5 hd hrs
              generalize upd H6 ld (.dK kv2) = H7 at hd7 ho hw4 hos sm ⊢
              have n1' : t1 ≠ nd.off := by omega
              have n2' : t1 ≠ nd.on := by omega
              have hvo : valV kv2 (Sum.inl ((nd.off : Nat) : Int)) = some (V.int (xo : Nat)) := by rw [hnum2, Ws.add_other w nd n1'.symm, hno]; rfl
              have hvn : valV kv2 (Sum.inl ((nd.on : Nat) : Int)) = some (V.int (xn : Nat)) := by rw [hnum2, Ws.add_other w nd n2'.symm, hnn]; rfl
              subst hR2
              simp only [rdA, rd_forL, rd_forR, rd_compT, rd_compL, rd_compR, rd_tyes, rd_kget, rd_kin, rd_fldP, rd_make, rd_slS, cx_w, cx_w2]
              refine ⟨⟨_, SqL.of ho⟩, _, by rw [← hvn]; exact DGet.k (k := Sum.inl ((nd.on : Nat) : Int)) hd7, _, by rw [← hvo]; exact DGet.k (k := Sum.inl ((nd.off : Nat) : Int)) hd7, fun tp htp => ?_⟩
              have s4 := Same.new (o := HO.tup [V.int nd.sw, V.int (xn : Nat), V.int (xo : Nat)]) htp
              have htp3 : upd H7 tp (HO.tup [V.int nd.sw, V.int (xn : Nat), V.int (xo : Nat)]) tp = some (HO.tup [V.int nd.sw, V.int (xn : Nat), V.int (xo : Nat)]) := upd_same
              replace ho := s4 _ _ ho
              replace hd7 := s4 _ _ hd7
              replace hw4 := s4 _ _ hw4
              replace hos := nds_to s4.tk hos
              replace sm := sm.trans s4
              generalize upd H7 tp (HO.tup [V.int nd.sw, V.int (xn : Nat), V.int (xo : Nat)]) = H8 at htp3 ho hd7 hw4 hos sm ⊢
              refine ⟨_, ho, Nat.lt_of_le_of_lt (by omega : os.length ≤ 10000000) (by decide), ?_⟩
              have k4 : Tk H8 _ := Tk.lst (o := .lst (os ++ [V.ref tp])) ho
              have hua := unn_add (w := w) (N := ns.length + 2) (p := t1) (nd := nd) plt hnt
              have hal : (w.add t1 nd).out = w.out ++ [⟨nd.sw, xo, xn⟩] := by simp only [Ws.add, hno, hnn, Option.getD_some]
              have hal2 : (w.add t1 nd).out.length = w.out.length + 1 := by rw [hal]; simp
              refine ⟨costs2 ns r (w.add t1 nd), by omega, lw, w.add t1 nd, r, os ++ [V.ref tp], kv2, _, _, _, _, _, rfl, sm.mut hlo0, hlw, n2, n3, (upd_ne n1).trans hd7, upd_same, (upd_ne n3.symm).trans hw4, hnum2, by omega, ?_, g.add hN e (not2 g hnt) hnt hos1 hos2, hst2, by omega, by rw [h1]; exact hrun, rfl, by omega⟩
              rw [hal, List.map_append]
              exact nds_app (nds_to k4 hos) (.cons ⟨tp, rfl, k4 _ _ htp3⟩ .nil)
            · subst hB
              clear hA
              simp only [rdA, rd_forL, rd_forR, rd_compT, rd_compL, rd_compR, rd_tyes, rd_kget, rd_kin, rd_fldP, rd_make, rd_slS, cx_w, cx_w2]
              have hr0 : rest2 w nd ≠ [] := fun h => hem (by rw [h]; rfl)
              obtain ⟨h1, h2⟩ := run2_push (r := r) hN g plt hnt e hr0
              have hlen3 := costs2_len ns (rest2 w nd ++ t1 :: r) w
              have e2 : (rest2 w nd ++ t1 :: r).length = (rest2 w nd).length + r.length + 1 := by rw [List.length_append, List.length_cons]; omega
              have vl : ∀ l : List Nat, (vN l).length = l.length := fun l => List.length_map _
              have hb : (vN r.reverse).length ≤ 16000001 := by rw [vl, List.length_reverse]; omega
              intro p3 hp3
              have z := Same.new (o := HO.lst [V.int (t1 : Nat)]) hp3
              refine ⟨_, z _ _ hw4, _, upd_same, Nat.le_of_lt (Nat.lt_of_le_of_lt (by simp only [List.length_singleton]; omega : _ ≤ 16000002) (by decide)), fun q3 hq3 => ?_⟩
              have zz := z.trans (Same.new (o := HO.lst (vN r.reverse ++ [V.int (t1 : Nat)])) hq3)
              refine ⟨_, upd_same, _, zz _ _ hrs, Nat.le_of_lt (Nat.lt_of_le_of_lt (by rw [List.length_append, List.length_singleton, vl, vl, List.length_reverse, List.length_reverse]; omega : _ ≤ 16000001) (by decide)), fun q4 hq4 => ?_⟩
              have za := zz.trans (Same.new (o := HO.lst (vN r.reverse ++ [V.int (t1 : Nat)] ++ vN (rest2 w nd).reverse)) hq4)
              refine ⟨costs2 ns (rest2 w nd ++ t1 :: r) w, by omega, q4, w, rest2 w nd ++ t1 :: r, os, kvs, _, _, _, _, _, rfl, sm.trans za, sm.free (zz.free hq4), ne_of_none (zz _ _ hd) hq4, ne_of_none (zz _ _ ho) hq4, za _ _ hd, za _ _ ho, ?_, hnum, hkl, nds_to za.tk hos, g, fun q hq => ?_, hun, by rw [h1]; exact hrun, rfl, by omega⟩
              · rw [upd_same]; simp [vN]
              · rcases List.mem_append.mp hq with h | h
                · unfold rest2 at h
                  rcases List.mem_append.mp h with h | h
                  · split at h
                    · cases h
                    · rw [List.mem_singleton] at h; rw [h]; exact po
                  · split at h
                    · cases h
                    · rw [List.mem_singleton] at h; rw [h]; exact pn
                · exact hst q h
      · have hst0 : st = [] := by
          cases st with
          | nil => rfl
          | cons t r => exfalso; apply he; simp [vN]
        subst hst0
        subst hR1
        simp only [rdA, rd_forL, rd_forR, rd_compT, rd_compL, rd_compR, rd_tyes, rd_kget, rd_kin, rd_fldP, rd_make, rd_slS, cx_w, cx_w2]
        have hwv : w = visit ns (p + 1) p w0 := hrun
        obtain ⟨_, hs, _, _⟩ := visit_ok hN (p + 1) p w0 (Nat.lt_succ_self _) hp (good0 ns)
        rw [← hwv] at hs
        obtain ⟨x, hx⟩ := Option.isSome_iff_exists.mp hs
        have hg : graphOf ns p = (w.out, x) := by unfold graphOf; rw [← hwv, hx]; rfl
        have hv : valV kvs (Sum.inl ((p : Nat) : Int)) = some (V.int (x : Nat)) := by rw [hnum p, hx]; rfl
        refine ⟨_, by rw [← hv]; exact DGet.k (k := Sum.inl ((p : Nat) : Int)) hd, fun t ht => ?_⟩
        have s4 := Same.new (o := HO.tup [V.ref lo, V.int (x : Nat)]) ht
        exact q t lo os _ x _ hlo0 (sm.trans s4) upd_same (s4 _ _ ho) (nds_to s4.tk hos) (by rw [List.length_map]; omega)
end
end Nt
end CN
end
section
set_option Elab.async false
set_option linter.all false
set_option maxRecDepth 100000
set_option maxHeartbeats 4000000
namespace CN
open PySem L2
seal L2.PE L2.PT L2.PS L2.PSs L2.PA L2.PPs L2.PW L2.PC L2.PG L2.PGs L2.PI L2.PO L2.PTs
namespace Nt
noncomputable abbrev s_law : Stmt := top 19
noncomputable abbrev p_law : List Str := ["_law_script"]
theorem sc_law : FnScope ["_law_script", "_law_statement", "_law_nodes", "_law_root", "_law_way", "_law_switch", "_law_far", "_law_odd", "_law_spot", "_law_node", "_law_other", "_law_pair", "_law_due", "_law_handed", "_law_told"] ["_law_script"] (defScope s_law) := ⟨rfl, rfl, rfl, by decide +kernel, rfl, by decide +kernel, by decide +kernel⟩
section
variable {P : Program} {w : World} {K : PySem.W.Frag} {mg : Str → Option Value} {base : Heap}
theorem RnAt.tk {H H' : Hp} (k : Tk H H') {v : V} {r : R3} (h : RnAt H v r) : RnAt H' v r := by
  obtain ⟨a, e, h⟩ := h
  exact ⟨a, e, k _ _ h⟩
theorem rns_tk {H H' : Hp} (k : Tk H H') : ∀ {xs : List V} {rs : List R3}, Paired (RnAt H) xs rs → Paired (RnAt H') xs rs
  | _, _, .nil => .nil
  | _, _, .cons a b => .cons (a.tk k) (rns_tk k b)
theorem rns_set {H : Hp} {v : V} {r : R3} (hv : RnAt H v r) : ∀ {xs : List V} {rs : List R3} (j : Nat), Paired (RnAt H) xs rs → Paired (RnAt H) (xs.set j v) (rs.set j r)
  | _, _, _, .nil => .nil
  | _, _, 0, .cons a b => .cons hv b
  | _, _, j + 1, .cons a b => .cons a (rns_set hv j b)
theorem rns_app {H : Hp} : ∀ {xs ys : List V} {rs ts : List R3}, Paired (RnAt H) xs rs → Paired (RnAt H) ys ts → Paired (RnAt H) (xs ++ ys) (rs ++ ts)
  | _, _, _, _, .nil, h => h
  | _, _, _, _, .cons a b, h => .cons a (rns_app b h)
theorem rns_put {H H2 : Hp} {lo : Addr} {os : List V} {rs : List R3} {v : V} {r : R3} (sm : Same H H2) (fr : H lo = none) (hlo : H2 lo = some (.lst os)) (hos : Paired (RnAt H2) os rs) (hv : RnAt H2 v r) (j : Nat) :
    Same H (upd H2 lo (.lst (os.set j v))) ∧ Paired (RnAt (upd H2 lo (.lst (os.set j v)))) (os.set j v) (rs.set j r) :=
  ⟨sm.mut fr, rns_tk (Tk.lst hlo) (rns_set hv j hos)⟩
theorem alks_rns {H : Hp} : ∀ {xs : List V} {rs : List R3}, Paired (RnAt H) xs rs → Alks H xs xs (4 * xs.length)
  | _, _, .nil => .nil
  | _, _, .cons (l₁ := xs) ⟨a, e, h⟩ b => by
    subst e
    have h1 : Alk H (.ref a) (.ref a) 4 := .tup h h (.cons (.int _) (.cons (.int _) (.cons (.int _) .nil)))
    have := Alks.cons h1 (alks_rns b)
    rw [show 4 + 4 * xs.length = 4 * (V.ref a :: xs).length by rw [List.length_cons]; omega] at this
    exact this
inductive L9 (H : Hp) (a : Addr) (way : Int) (B : Nat) (σ : St) (H2 : Hp) : Prop
  | mk (lo : Addr) (os : List V) (rs : List R3) (z : Int) (x1 : V) (o5 o6 o7 o8 o9 o10 : Option V) (h0 : σ = [some (.ref a), some x1, some (.ref lo), some (.int z), some (.int way), o5, o6, o7, o8, o9, o10, none, none, none, none]) (h1 : Same H H2) (h2 : H lo = none) (h3 : H2 lo = some (.lst os)) (h4 : Paired (RnAt H2) os rs) (h5 : rs.length ≤ B) : L9 H a way B σ H2
inductive L9o (H : Hp) (a : Addr) (way odd : Int) (B : Nat) (σ : St) (H2 : Hp) : Prop
  | mk (lo : Addr) (os : List V) (rs : List R3) (z : Int) (x1 : V) (o5 o6 o8 o9 o10 : Option V) (h0 : σ = [some (.ref a), some x1, some (.ref lo), some (.int z), some (.int way), o5, o6, some (.int odd), o8, o9, o10, none, none, none, none]) (h1 : Same H H2) (h2 : H lo = none) (h3 : H2 lo = some (.lst os)) (h4 : Paired (RnAt H2) os rs) (h5 : rs.length ≤ B) : L9o H a way odd B σ H2
theorem seven {xs : List V} (h : xs.length = 7) (hx : ∀ x ∈ xs, ∃ o : Int, x = .int o) (c : Int) : ∃ o : Int, atI xs (c % 7) = some (.int o) := by
  obtain ⟨i, hi⟩ := Int.eq_ofNat_of_zero_le (Int.emod_nonneg c (show (7 : Int) ≠ 0 by decide))
  have h7 := Int.emod_lt_of_pos c (show (0 : Int) < 7 by decide)
  have hl : i < xs.length := by omega
  obtain ⟨o, e⟩ := hx xs[i] (List.getElem_mem hl)
  exact ⟨o, by rw [hi]; exact atI_nat (by rw [List.getElem?_eq_getElem hl, e])⟩
theorem cut_ns (ns : List Int) {lo hi : Int} {m : Nat} (h0 : 0 ≤ lo) (h1 : hi - lo = m) : ∃ ns' : List Int, cutV (ns.map V.int) (some lo) (some hi) = ns'.map V.int ∧ ns'.length ≤ m := by
  refine ⟨(ns.drop (HT.sIx (ns.map V.int).length 0 (some lo))).take (HT.sIx (ns.map V.int).length (ns.map V.int).length (some hi) - HT.sIx (ns.map V.int).length 0 (some lo)), ?_, ?_⟩
  · unfold cutV; rw [List.map_take, List.map_drop]
  · rw [List.length_take, List.length_drop]
    obtain ⟨a, rfl⟩ := Int.eq_ofNat_of_zero_le h0
    obtain ⟨b, rfl⟩ := Int.eq_ofNat_of_zero_le (show 0 ≤ hi by omega)
    rw [HT.sIx_nat, HT.sIx_nat]
    omega
noncomputable def spLaw9 (K : PySem.W.Frag) : Sp := fun vs H Q _ => ∃ (a : Addr) (ns : List Int), vs = [.ref a] ∧ SqL K H a (ns.map V.int) ∧ ns.length ≤ 63 ∧ ∀ H', Q (.bl true) H'
theorem ok_law9 {f f1 f2 f3 f4 f5 f6 f7 f8 f9 f10 f11 : Addr} {fd fd1 fd2 fd3 fd4 fd5 fd6 fd7 fd8 fd9 fd10 fd11 : FuncData} (BT : Bt mg)
    (D_L_drawn_statement : Df K mg "_law_drawn_statement" s_L_drawn_statement p_L_drawn_statement f1 fd1) (G1 : FnOk P w K mg base CX0 1 f1 fd1 p_L_drawn_statement (spDraw K))
    (D_L_room : Df K mg "_law_room" s_L_room p_L_room f2 fd2) (G2 : FnOk P w K mg base CX0 1 f2 fd2 p_L_room (spRoom K))
    (D_L_true_in : Df K mg "_law_true_in" s_L_true_in p_L_true_in f3 fd3) (G3 : FnOk P w K mg base CX0 2 f3 fd3 p_L_true_in spTrue)
    (D_L_built : Df K mg "_law_built" s_L_built p_L_built f4 fd4) (G4 : FnOk P w K mg base CX0 1 f4 fd4 p_L_built spBuilt)
    (D_L_told_from : Df K mg "_law_told_from" s_L_told_from p_L_told_from f5 fd5) (G5 : FnOk P w K mg base CX0 1 f5 fd5 p_L_told_from spTold)
    (D_L_other_way : Df K mg "_law_other_way" s_L_other_way p_L_other_way f6 fd6) (G6 : FnOk P w K mg base CX0 1 f6 fd6 p_L_other_way spOway)
    (D_L_at : Df K mg "_law_at" s_L_at p_L_at f7 fd7) (G7 : FnOk P w K mg base CX0 1 f7 fd7 p_L_at (spAt K))
    (D_L_any : Df K mg "_law_any" s_L_any p_L_any f8 fd8) (G8 : FnOk P w K mg base CX0 1 f8 fd8 p_L_any spAny)
    (D_L_good_graph : Df K mg "_law_good_graph" s_L_good_graph p_L_good_graph f9 fd9) (G9 : FnOk P w K mg base CX0 2 f9 fd9 p_L_good_graph spGood3)
    (D_is_graph : Df K mg "is_graph" s_is_graph p_is_graph f10 fd10) (G10 : FnOk P w K mg base CX0 3 f10 fd10 p_is_graph spJudge)
    (D_L_so : Df K mg "_law_so" s_L_so p_L_so f11 fd11) (G11 : FnOk P w K mg base CX0 1 f11 fd11 p_L_so spSo)
    (D : Df K mg "law" s_law p_law f fd) : FnOk P w K mg base CX0 4 f fd p_law (spLaw9 K) := by
  have G_L_drawn_statement := G1.mono (show 1 ≤ 3 by decide)
  have G_L_room := G2.mono (show 1 ≤ 3 by decide)
  have G_L_true_in := G3.mono (show 2 ≤ 3 by decide)
  have G_L_built := G4.mono (show 1 ≤ 3 by decide)
  have G_L_told_from := G5.mono (show 1 ≤ 3 by decide)
  have G_L_other_way := G6.mono (show 1 ≤ 3 by decide)
  have G_L_at := G7.mono (show 1 ≤ 3 by decide)
  have G_L_any := G8.mono (show 1 ≤ 3 by decide)
  have G_L_good_graph := G9.mono (show 2 ≤ 3 by decide)
  have G_is_graph := G10
  have G_L_so := G11.mono (show 1 ≤ 3 by decide)
  refine D.F.ok sc_law (fun vs H Q E h => ?_) (fun cdv A outer s H vs Q E hr h => ?_)
  · obtain ⟨a, ns, rfl, _⟩ := h
    rfl
  · obtain ⟨a, ns, rfl, hl, hn, q⟩ := h
    refine ⟨_, (pss_cons (ps_set (i := 1) sc_law.nd rfl (by first | exact Or.inl rfl | exact Or.inr rfl) (pe_call G_L_drawn_statement (hr) (by rfl) D_L_drawn_statement.m D_L_drawn_statement.F.kp D_L_drawn_statement.b .nil pass0 (pa_cons (pe_slice sl_list (pv 0) (po_some pe_int) (po_some (pe_op op_add pe_int (pe_call G_L_room (hr) (by rfl) D_L_room.m D_L_room.F.kp D_L_room.b .nil pass0 (pa_cons (pv 0) (pa_cons pe_int (pa_cons pe_int pa_nil))))))) (pa_cons pe_int pa_nil))))
    (pss_cons (ps_asg (pe_call G_L_told_from (hr) (by rfl) D_L_told_from.m D_L_told_from.F.kp D_L_told_from.b .nil pass0 (pa_cons (pe_call G_L_built (hr) (by rfl) D_L_built.m D_L_built.F.kp D_L_built.b .nil pass0 (pa_cons (pe_call G_L_true_in (hr) (by rfl) D_L_true_in.m D_L_true_in.F.kp D_L_true_in.b .nil pass0 (pa_cons (pv 1) (pa_cons pe_int pa_nil))) pa_nil)) pa_nil)) (pg_tup rfl (pgs_cons (pg_name (i := 2) sc_law.nd rfl (by first | exact Or.inl rfl | exact Or.inr rfl)) (pgs_cons (pg_name (i := 3) sc_law.nd rfl (by first | exact Or.inl rfl | exact Or.inr rfl)) pgs_nil))))
    (pss_cons (ps_set (i := 4) sc_law.nd rfl (by first | exact Or.inl rfl | exact Or.inr rfl) (pe_op op_mod (pe_call G_L_at (hr) (by rfl) D_L_at.m D_L_at.F.kp D_L_at.b .nil pass0 (pa_cons (pv 0) (pa_cons pe_int pa_nil))) pe_int))
    (pss_cons (ps_if (pt_cmpR op_eq (pv 4) pe_int (nomark _))
      (pss_one (ps_asg (pe_call G_L_other_way (hr) (by rfl) D_L_other_way.m D_L_other_way.F.kp D_L_other_way.b .nil pass0 (pa_cons (pv 2) (pa_cons (pv 3) pa_nil))) (pg_tup rfl (pgs_cons (pg_name (i := 2) sc_law.nd rfl (by first | exact Or.inl rfl | exact Or.inr rfl)) (pgs_cons (pg_name (i := 3) sc_law.nd rfl (by first | exact Or.inl rfl | exact Or.inr rfl)) pgs_nil)))))
      pss_nil)
    (pss_cons (ps_if (pt_cmpR op_eq (pv 4) pe_int (nomark _))
      (pss_cons (ps_set (i := 5) sc_law.nd rfl (by first | exact Or.inl rfl | exact Or.inr rfl) (pe_op op_add pe_int (pe_op op_mod (pe_call G_L_at (hr) (by rfl) D_L_at.m D_L_at.F.kp D_L_at.b .nil pass0 (pa_cons (pv 0) (pa_cons pe_int pa_nil))) pe_int)))
      (pss_cons (ps_set (i := 2) sc_law.nd rfl (by first | exact Or.inl rfl | exact Or.inr rfl) (pe_lst (pa_cons (pe_tup (pa_cons (pv 5) (pa_cons pe_int (pa_cons pe_int pa_nil)))) (pa_cons (pe_tup (pa_cons (pv 5) (pa_cons (pe_op op_mod (pe_call G_L_at (hr) (by rfl) D_L_at.m D_L_at.F.kp D_L_at.b .nil pass0 (pa_cons (pv 0) (pa_cons pe_int pa_nil))) pe_int) (pa_cons pe_int pa_nil)))) (pa_cons (pe_tup (pa_cons pe_int (pa_cons pe_int (pa_cons pe_int pa_nil)))) pa_nil)))))
      (pss_cons (ps_if (pt_cmpR op_eq (pe_ix ix_tup (pe_ix ix_list (pv 2) pe_int (fun _ _ => rfl)) pe_int (fun _ _ => rfl)) pe_int (nomark _))
        (pss_one (ps_asg (pe_tup (pa_cons (pv 5) (pa_cons pe_int (pa_cons pe_int pa_nil)))) (pg_sub (pv 2) pe_int set_list)))
        pss_nil)
      (pss_cons (ps_if (pt_cmpR op_eq (pe_op op_mod (pe_op op_fdiv (pe_call G_L_at (hr) (by rfl) D_L_at.m D_L_at.F.kp D_L_at.b .nil pass0 (pa_cons (pv 0) (pa_cons pe_int pa_nil))) pe_int) pe_int) pe_int (nomark _))
        (pss_one (ps_asg (pe_tup (pa_cons pe_int (pa_cons pe_int (pa_cons pe_int pa_nil)))) (pg_sub (pv 2) pe_int set_list)))
        pss_nil)
      (pss_one (ps_set (i := 3) sc_law.nd rfl (by first | exact Or.inl rfl | exact Or.inr rfl) pe_int))))))
      pss_nil)
    (pss_cons (ps_set (i := 6) sc_law.nd rfl (by first | exact Or.inl rfl | exact Or.inr rfl) (pe_call G_L_any (hr) (by rfl) D_L_any.m D_L_any.F.kp D_L_any.b .nil pass0 (pa_cons (pe_call G_L_at (hr) (by rfl) D_L_at.m D_L_at.F.kp D_L_at.b .nil pass0 (pa_cons (pv 0) (pa_cons pe_int pa_nil))) pa_nil)))
    (pss_cons (ps_set (i := 7) sc_law.nd rfl (by first | exact Or.inl rfl | exact Or.inr rfl) (pe_ix ix_list (pe_lst (pa_cons (pe_un un_neg pe_int) (pa_cons pe_int (pa_cons pe_int (pa_cons pe_int (pa_cons pe_int (pa_cons (pe_op op_add (pe_callB call_len_seq (by rfl) BT.n_len bo_len (pa_cons (pv 2) pa_nil)) pe_int) (pa_cons (pv 6) pa_nil)))))))) (pe_op op_mod (pe_call G_L_at (hr) (by rfl) D_L_at.m D_L_at.F.kp D_L_at.b .nil pass0 (pa_cons (pv 0) (pa_cons pe_int pa_nil))) pe_int) (fun _ _ => rfl)))
    (pss_cons (ps_if (pt_cmpR op_eq (pv 4) pe_int (nomark _))
      (pss_one (ps_set (i := 3) sc_law.nd rfl (by first | exact Or.inl rfl | exact Or.inr rfl) (pv 7)))
      pss_nil)
    (pss_cons (ps_if (PW.pt (pw_and (pt_cmpR op_lt pe_int (pv 4) (nomark _)) (pw_and (pt_cmpR op_lt (pv 4) pe_int (nomark _)) (pw_and1 (pt_cmpR (op_neNil hr) (pv 2) (pe_lst pa_nil) (nomark _))))))
      (pss_cons (ps_set (i := 8) sc_law.nd rfl (by first | exact Or.inl rfl | exact Or.inr rfl) (pe_op op_mod (pe_call G_L_at (hr) (by rfl) D_L_at.m D_L_at.F.kp D_L_at.b .nil pass0 (pa_cons (pv 0) (pa_cons pe_int pa_nil))) (pe_callB call_len_seq (by rfl) BT.n_len bo_len (pa_cons (pv 2) pa_nil))))
      (pss_cons (ps_set (i := 9) sc_law.nd rfl (by first | exact Or.inl rfl | exact Or.inr rfl) (pe_callTy call_list_of (by rfl) BT.n_list bo_list (pa_cons (pe_ix ix_list (pv 2) (pv 8) (fun _ _ => rfl)) pa_nil)))
      (pss_one (ps_if (pt_cmpR op_lt (pv 4) pe_int (nomark _))
        (pss_cons (ps_asg (pv 7) (pg_sub (pv 9) (pe_op op_sub (pv 4) pe_int) set_list))
        (pss_one (ps_asg (pe_tup (pa_cons (pe_ix ix_list (pv 9) pe_int (fun _ _ => rfl)) (pa_cons (pe_ix ix_list (pv 9) pe_int (fun _ _ => rfl)) (pa_cons (pe_ix ix_list (pv 9) pe_int (fun _ _ => rfl)) pa_nil)))) (pg_sub (pv 2) (pv 8) set_list))))
        (pss_cons (ps_set (i := 10) sc_law.nd rfl (by first | exact Or.inl rfl | exact Or.inr rfl) (pe_op op_mod (pe_op op_fdiv (pe_call G_L_at (hr) (by rfl) D_L_at.m D_L_at.F.kp D_L_at.b .nil pass0 (pa_cons (pv 0) (pa_cons pe_int pa_nil))) pe_int) (pe_callB call_len_seq (by rfl) BT.n_len bo_len (pa_cons (pv 2) pa_nil))))
        (pss_one (ps_asg (pe_tup (pa_cons (pe_ix ix_list (pv 2) (pv 10) (fun _ _ => rfl)) (pa_cons (pe_ix ix_list (pv 2) (pv 8) (fun _ _ => rfl)) pa_nil))) (pg_tup rfl (pgs_cons (pg_sub (pv 2) (pv 8) set_list) (pgs_cons (pg_sub (pv 2) (pv 10) set_list) pgs_nil))))))))))
      pss_nil)
    (pss_cons (ps_if (PW.pt (pw_and (pt_cmpR op_eq (pv 4) pe_int (nomark _)) (pw_and1 (pt_cmpR op_eq (pe_op op_mod (pe_call G_L_at (hr) (by rfl) D_L_at.m D_L_at.F.kp D_L_at.b .nil pass0 (pa_cons (pv 0) (pa_cons pe_int pa_nil))) pe_int) pe_int (nomark _)))))
      (pss_one (ps_expr (pe_bm PySem.F.plainAttrs_list PySem.F.slot_list_append PySem.F.type_list_append mt_append (pv 2) (pa_cons (pe_tup (pa_cons pe_int (pa_cons pe_int (pa_cons pe_int pa_nil)))) pa_nil))))
      pss_nil)
    (pss_cons (ps_set (i := 11) sc_law.nd rfl (by first | exact Or.inl rfl | exact Or.inr rfl) (pe_tup (pa_cons (pv 2) (pa_cons (pv 3) pa_nil))))
    (pss_cons (ps_set (i := 12) sc_law.nd rfl (by first | exact Or.inl rfl | exact Or.inr rfl) (pe_and (pe_call G_L_good_graph (hr) (by rfl) D_L_good_graph.m D_L_good_graph.F.kp D_L_good_graph.b .nil pass0 (pa_cons (pv 11) pa_nil)) (pe_one (pe_cmpR (op_leq hr) (pv 11) (pe_call G_L_told_from (hr) (by rfl) D_L_told_from.m D_L_told_from.F.kp D_L_told_from.b .nil pass0 (pa_cons (pv 11) pa_nil)) (nomark _)))))
    (pss_cons (ps_set (i := 13) sc_law.nd rfl (by first | exact Or.inl rfl | exact Or.inr rfl) (pe_callTy call_list_of (by rfl) BT.n_list bo_list (pa_cons (pv 2) pa_nil)))
    (pss_cons (ps_set (i := 14) sc_law.nd rfl (by first | exact Or.inl rfl | exact Or.inr rfl) (pe_call G_is_graph (hr) (by rfl) D_is_graph.m D_is_graph.F.kp D_is_graph.b .nil pass0 (pa_cons (pe_tup (pa_cons (pv 13) (pa_cons (pv 3) pa_nil))) pa_nil)))
    (pss_one (ps_ret (pe_and (pe_callB (call_isinst) (by rfl) BT.n_isinstance bo_isinstance (pa_cons (pv 14) (pa_cons (pe_bltn (v := .ty "bool") (by rfl) BT.n_bool bo_bool rfl) pa_nil))) (pe_and (pe_cmpR op_eq (pv 14) (pv 12) (nomark _)) (pe_one (pe_call G_L_so (hr) (by rfl) D_L_so.m D_L_so.F.kp D_L_so.b .nil pass0 (pa_cons (pv 13) (pa_cons (pv 2) pa_nil)))))))))))))))))))))), ?_⟩
    have hnn := fun (i j : Int) (h : 0 < j) => (⟨Int.emod_nonneg i (by omega), Int.emod_lt_of_pos i h⟩ : 0 ≤ i % j ∧ i % j < j)
    refine seq_as fun R1 hR1 => ?_
    simp only [rdA, rd_forL, rd_forR, rd_compT, rd_compL, rd_compR, rd_tyes, rd_seq, rd_if, rd_kget, rd_kin, rd_fldP, rd_make, rd_slS, cx_w, cx_w2]
    refine ⟨a, ns, 10, 30, rfl, hl, hn, ?_⟩
    simp only [rdA, rd_forL, rd_forR, rd_compT, rd_compL, rd_compR, rd_tyes, rd_seq, rd_if, rd_kget, rd_kin, rd_fldP, rd_make, rd_slS, cx_w, cx_w2]
    refine ⟨_, hl, fun p1 hp1 => ?_⟩
    obtain ⟨ms, em, hm⟩ := cut_ns ns (lo := 3) (hi := 3 + 10) (m := 10) (by decide) (by decide)
    rw [em]
    have s1 := Same.new (o := HO.lst (ms.map V.int)) hp1
    refine ⟨p1, ms, 4, rfl, SqL.of upd_same, by omega, by decide, fun v st H1 sm1 hst ok4 sz => ?_⟩
    have sA := s1.trans sm1
    subst hR1
    refine seq_as fun R1 hR1 => ?_
    simp only [rdA, rd_forL, rd_forR, rd_compT, rd_compL, rd_compR, rd_tyes, rd_seq, rd_if, rd_kget, rd_kin, rd_fldP, rd_make, rd_slS, cx_w, cx_w2]
    refine ⟨v, st, 4, rfl, by decide, hst, by omega, ok4, fun u H2 sm2 hrow _ => ⟨u, 4, st, rfl, hrow, by decide, ok4, fun u2 n2 r2 H3 sm3 gr net means hsw hlen => ⟨u2, (n2, r2), rfl, gr, ⟨net, means.pl, fun nd h => (hsw nd h).1, by show n2.length ≤ _; omega⟩, fun t' lo' os' H4 fr sm4 ht' hlo' hos' hle => ?_⟩⟩⟩
    have sB := ((sA.trans sm2).trans sm3).trans sm4
    have fr0 : H lo' = none := ((sA.trans sm2).trans sm3).free fr
    have hgl : (graphOf n2 r2).1.length ≤ 15 := by have : (graphOf n2 r2).1.length ≤ n2.length := hle; omega
    obtain ⟨hgn, hgp⟩ := graph_ok net means.pl
    generalize hgg : graphOf n2 r2 = gg at *
    refine ⟨_, _, rfl, SqT.of ht', rfl, _, _, rfl, _, _, rfl, rfl, ?_⟩
    subst hR1
    refine seq_as fun R1 hR1 => ?_
    simp only [rdA, rd_forL, rd_forR, rd_compT, rd_compL, rd_compR, rd_tyes, rd_seq, rd_if, rd_kget, rd_kin, rd_fldP, rd_make, rd_slS, cx_w, cx_w2]
    refine ⟨a, ns, 0, rfl, sB.seq hl, fun c0 => ?_⟩
    simp only [rdA, rd_forL, rd_forR, rd_compT, rd_compL, rd_compR, rd_tyes, rd_seq, rd_if, rd_kget, rd_kin, rd_fldP, rd_make, rd_slS, cx_w, cx_w2]
    obtain ⟨w0, w1⟩ := hnn c0 8 (by decide)
    generalize c0 % 8 = way at *
    subst hR1
    refine seq_as fun R1 hR1 => if_as fun T1 T2 hT1 hT2 => ?_
    have key : ∀ σ' H', L9 H a way 15 σ' H' → R1 σ' H' := by
      clear hT1 hT2
      subst hR1
      rintro σ H2 ⟨lo, os, rs, z, x1, o5, o6, o7, o8, o9, o10, rfl, sm, fr, hlo, hos, hle⟩
      refine seq_as fun R1 hR1 => if_as fun T1 T2 hT1 hT2 => ?_
      have key : ∀ σ' H', L9 H a way 15 σ' H' → R1 σ' H' := by
        clear hT1 hT2
        subst hR1
        clear hlo hos hle sm fr
        rintro σ H2 ⟨lo, os, rs, z, x1, o5, o6, o7, o8, o9, o10, rfl, sm, fr, hlo, hos, hle⟩
        refine seq_as fun R1 hR1 => ?_
        simp only [rdA, rd_forL, rd_forR, rd_compT, rd_compL, rd_compR, rd_tyes, rd_seq, rd_if, rd_kget, rd_kin, rd_fldP, rd_make, rd_slS, cx_w, cx_w2]
        refine ⟨a, ns, 1, rfl, sm.seq hl, fun c1 => ⟨c1, rfl, fun far H3 sm3 => ?_⟩⟩
        subst hR1
        refine seq_as fun R1 hR1 => ?_
        simp only [rdA, rd_forL, rd_forR, rd_compT, rd_compL, rd_compR, rd_tyes, rd_seq, rd_if, rd_kget, rd_kin, rd_fldP, rd_make, rd_slS, cx_w, cx_w2]
        refine ⟨os, .inl (SqL.of (sm3 _ _ hlo)), fun p hp => ?_⟩
        have s4 := Same.new (o := HO.lst [V.int (-1), V.int 0, V.int 1, V.int 2, V.int 3, V.int (((os.length : Nat) : Int) + 2), V.int far]) hp
        refine ⟨a, ns, 1, rfl, ((sm.trans sm3).trans s4).seq hl, fun c2 => ?_⟩
        obtain ⟨odd, hodd⟩ := seven (xs := [V.int (-1), V.int 0, V.int 1, V.int 2, V.int 3, V.int (((os.length : Nat) : Int) + 2), V.int far]) rfl (by intro x hx; simp only [List.mem_cons, List.not_mem_nil, or_false] at hx; rcases hx with h | h | h | h | h | h | h <;> exact ⟨_, h⟩) c2
        simp only [rdA, rd_forL, rd_forR, rd_compT, rd_compL, rd_compR, rd_tyes, rd_seq, rd_if, rd_kget, rd_kin, rd_fldP, rd_make, rd_slS, cx_w, cx_w2]
        refine ⟨_, SqL.of upd_same, _, hodd, ?_⟩
        have smB := (sm.trans sm3).trans s4
        have hlo4 := s4 _ _ (sm3 _ _ hlo)
        have hos4 := rns_same (sm3.trans s4) hos
        generalize upd H3 p (HO.lst [V.int (-1), V.int 0, V.int 1, V.int 2, V.int 3, V.int (((os.length : Nat) : Int) + 2), V.int far]) = H4 at *
        subst hR1
        refine seq_as fun R1 hR1 => if_as fun T1 T2 hT1 hT2 => ?_
        have key : ∀ σ' H', L9o H a way odd 15 σ' H' → R1 σ' H' := by
          clear hT1 hT2
          subst hR1
          clear hlo hos hle sm sm3 s4 hlo4 hos4 smB hp hodd
          rintro σ H2 ⟨lo, os, rs, z, x1, o5, o6, o8, o9, o10, rfl, sm, fr, hlo, hos, hle⟩
          refine seq_as fun R1 hR1 => if_as fun T1 T2 hT1 hT2 => ?_
          have key : ∀ σ' H', L9o H a way odd 15 σ' H' → R1 σ' H' := by
            clear hT1 hT2
            subst hR1
            clear hlo hos hle sm fr
            rintro σ H2 ⟨lo, os, rs, z, x1, o5, o6, o8, o9, o10, rfl, sm, fr, hlo, hos, hle⟩
            refine seq_as fun R1 hR1 => if_as fun T1 T2 hT1 hT2 => ?_
            have key : ∀ σ' H', L9o H a way odd 16 σ' H' → R1 σ' H' := by
              clear hT1 hT2
              subst hR1
              clear hlo hos hle sm fr
              rintro σ H2 ⟨lo, os, rs, z, x1, o5, o6, o8, o9, o10, rfl, sm, fr, hlo, hos, hle⟩
              refine seq_as fun R1 hR1 => ?_
              simp only [rdA, rd_forL, rd_forR, rd_compT, rd_compL, rd_compR, rd_tyes, rd_seq, rd_if, rd_kget, rd_kin, rd_fldP, rd_make, rd_slS, cx_w, cx_w2]
              intro t1 ht1
              have s1 := Same.new (o := HO.tup [V.ref lo, V.int z]) ht1
              have hg1 : RgAt _ (.ref t1) rs z := ⟨t1, lo, os, rfl, upd_same, s1 _ _ hlo, rns_same s1 hos⟩
              have sm1 := sm.trans s1
              have hlo1 := s1 _ _ hlo
              have hos1 := rns_same s1 hos
              generalize upd H2 t1 (HO.tup [V.ref lo, V.int z]) = H3 at *
              subst hR1
              refine seq_as fun R1 hR1 => ?_
              have key : ∀ (H' : Hp) (due : Bool), Same H3 H' → (due = true ↔ Judged rs z) → R1 [some (V.ref a), some x1, some (V.ref lo), some (V.int z), some (V.int way), o5, o6, some (V.int odd), o8, o9, o10, some (.ref t1), some (.bl due), none, none] H' := fun H' due sm' hd => by
                subst hR1
                simp only [rdA, rd_forL, rd_forR, rd_compT, rd_compL, rd_compR, rd_tyes, rd_seq, rd_if, rd_kget, rd_kin, rd_fldP, rd_make, rd_slS, cx_w, cx_w2]
                refine ⟨os, .inl (SqL.of (sm' _ _ hlo1)), fun l hl1 p hp1 => ?_⟩
                have s5 := Same.new (o := HO.lst os) hl1
                have s6 := Same.new (o := HO.tup [V.ref l, V.int z]) hp1
                have sX := (sm'.trans s5).trans s6
                have hol : os.length = rs.length := Paired.length hos1
                refine ⟨_, rs, z, rfl, ⟨p, l, os, rfl, upd_same, s6 _ _ upd_same, rns_same sX hos1⟩, by omega, fun b H6 sm6 hb => ?_⟩
                refine ⟨_, .bl b, _, kit_same K "bool", iteT ?_⟩
                rw [rd_eqB]
                have hbd : b = due := Bool.eq_iff_iff.mpr (hb.trans hd.symm)
                refine ⟨_, rfl, ?_⟩
                rw [decide_eq_true hbd]
                have sY := s6.trans sm6
                refine iteT ⟨.ref l, .ref lo, _, rfl, .lst (sY _ _ upd_same) ((sX.trans sm6) _ _ hlo1) (alks_rns (rns_same (sX.trans sm6) hos1)), by omega, fun H7 _ => q H7⟩
              simp only [rdA, rd_forL, rd_forR, rd_compT, rd_compL, rd_compR, rd_tyes, rd_seq, rd_if, rd_kget, rd_kin, rd_fldP, rd_make, rd_slS, cx_w, cx_w2]
              refine ⟨_, rs, z, rfl, hg1, by omega, fun b H4 sm4 hb => ⟨_, rfl, ite2 (fun h1 => ?_) fun h1 => ?_⟩⟩
              · have G : Good3 rs z := hb.mp h1
                obtain ⟨ns', p, e1, e2, gg⟩ := G.nds (by omega)
                subst e1 e2
                have gr : GrAt H4 (.ref t1) (ns', p) := by
                  obtain ⟨t, l, os2, e, x1, x2, x3⟩ := hg1.ex
                  exact ⟨t, l, os2, e, sm4 _ _ x1, sm4 _ _ x2, rns_nds (rns_same sm4 x3)⟩
                refine ⟨_, (ns', p), rfl, gr, gg, fun t' lo' os' H5 fr' sm5 ht' hlo' hos' hle' => ?_⟩
                have gr5 : GrAt H5 (.ref t') (graphOf ns' p) := ⟨t', lo', os', rfl, ht', hlo', hos'⟩
                refine ⟨dG (ns', p), dG (graphOf ns' p), dG_at (gr.same sm5), dG_at gr5, dG_lay _, dG_lay _, (by have := dG_dep (ns', p); omega), ?_⟩
                rw [dG_iff]
                refine key _ _ (sm4.trans sm5) ?_
                rw [decide_eq_true_eq]
                constructor
                · intro e; exact ⟨ns', p, rfl, rfl, G, e.symm⟩
                · rintro ⟨n3, p3, f1, f2, _, f3⟩
                  have : n3 = ns' := nd3s_inj f1.symm
                  have hp : p3 = p := by omega
                  rw [this, hp] at f3
                  exact f3.symm
              · have : b = false := by cases b with | true => exact absurd rfl h1 | false => rfl
                subst this
                exact key _ _ sm4 ⟨fun e => (by cases e), fun ⟨_, _, _, _, g, _⟩ => by have := hb.mpr g; cases this⟩
            simp only [rdA, rd_forL, rd_forR, rd_compT, rd_compL, rd_compR, rd_tyes, rd_seq, rd_if, rd_kget, rd_kin, rd_fldP, rd_make, rd_slS, cx_w, cx_w2]
            refine ite2 (fun h1 => ?_) fun h1 => ?_
            · refine ⟨a, ns, 1, rfl, sm.seq hl, fun c1 => ?_⟩
              simp only [rdA, rd_forL, rd_forR, rd_compT, rd_compL, rd_compR, rd_tyes, rd_seq, rd_if, rd_kget, rd_kin, rd_fldP, rd_make, rd_slS, cx_w, cx_w2]
              refine ite2 (fun h2 => ?_) fun h2 => ?_
              · subst hT1
                simp only [rdA, rd_forL, rd_forR, rd_compT, rd_compL, rd_compR, rd_tyes, rd_seq, rd_if, rd_kget, rd_kin, rd_fldP, rd_make, rd_slS, cx_w, cx_w2]
                refine ⟨⟨_, SqL.of hlo⟩, fun q1 hq1 => ?_⟩
                have s1 := Same.new (o := HO.tup [V.int 0, V.int 0, V.int 1]) hq1
                have hol : os.length = rs.length := Paired.length hos
                refine ⟨_, s1 _ _ hlo, lt9s (by omega), ?_⟩
                have hp := rns_app (rns_same s1 hos) (.cons (⟨q1, rfl, upd_same⟩ : RnAt _ (V.ref q1) (0, 0, 1)) .nil)
                exact key _ _ ⟨lo, os ++ [V.ref q1], rs ++ [(0, 0, 1)], z, x1, _, _, _, _, _, rfl, (sm.trans s1).mut fr, fr, upd_same, rns_tk (Tk.lst (s1 _ _ hlo)) hp, by rw [List.length_append]; simp; omega⟩
              · subst hT2
                simp only [rdA, rd_forL, rd_forR, rd_compT, rd_compL, rd_compR, rd_tyes, rd_seq, rd_if, rd_kget, rd_kin, rd_fldP, rd_make, rd_slS, cx_w, cx_w2]
                exact key _ _ ⟨lo, os, rs, z, x1, _, _, _, _, _, rfl, sm, fr, hlo, hos, by omega⟩
            · subst hT2
              simp only [rdA, rd_forL, rd_forR, rd_compT, rd_compL, rd_compR, rd_tyes, rd_seq, rd_if, rd_kget, rd_kin, rd_fldP, rd_make, rd_slS, cx_w, cx_w2]
              exact key _ _ ⟨lo, os, rs, z, x1, _, _, _, _, _, rfl, sm, fr, hlo, hos, by omega⟩
          have none2 : ∀ H', Same H2 H' → T2 [some (V.ref a), some x1, some (V.ref lo), some (V.int z), some (V.int way), o5, o6, some (V.int odd), o8, o9, o10, none, none, none, none] H' := fun H' sm' => by
            subst hT2
            simp only [rdA, rd_forL, rd_forR, rd_compT, rd_compL, rd_compR, rd_tyes, rd_seq, rd_if, rd_kget, rd_kin, rd_fldP, rd_make, rd_slS, cx_w, cx_w2]
            exact key _ _ ⟨lo, os, rs, z, x1, _, _, _, _, _, rfl, sm.trans sm', fr, sm' _ _ hlo, rns_same sm' hos, hle⟩
          simp only [rdA, rd_forL, rd_forR, rd_compT, rd_compL, rd_compR, rd_tyes, rd_seq, rd_if, rd_kget, rd_kin, rd_fldP, rd_make, rd_slS, cx_w, cx_w2]
          refine ite2 (fun h1 => ite2 (fun h2 => fun p1 hp1 => ⟨_, Same.new hp1 _ _ hlo, upd_same, ite2 (fun h3 => ?_) fun h3 => none2 _ (Same.new hp1)⟩) fun h2 => none2 _ (Same.refl _)) fun h1 => none2 _ (Same.refl _)
          have s1 := Same.new (o := HO.lst []) hp1
          have hne : os ≠ [] := by rintro rfl; simp at h3
          have hol : os.length = rs.length := Paired.length hos
          have hpos : 0 < os.length := List.length_pos_iff.mpr hne
          have h1' : (1 : Int) < way := of_decide_eq_true h1
          have h2' : way < 6 := of_decide_eq_true h2
          replace sm := sm.trans s1
          replace hlo := s1 _ _ hlo
          replace hos := rns_same s1 hos
          generalize upd H2 p1 (HO.lst []) = H3 at *
          clear none2 hT2
          subst hT1
          refine seq_as fun R2 hR2 => ?_
          simp only [rdA, rd_forL, rd_forR, rd_compT, rd_compL, rd_compR, rd_tyes, rd_seq, rd_if, rd_kget, rd_kin, rd_fldP, rd_make, rd_slS, cx_w, cx_w2]
          refine ⟨a, ns, 2, rfl, sm.seq hl, fun c1 => ?_⟩
          simp only [rdA, rd_forL, rd_forR, rd_compT, rd_compL, rd_compR, rd_tyes, rd_seq, rd_if, rd_kget, rd_kin, rd_fldP, rd_make, rd_slS, cx_w, cx_w2]
          refine ⟨_, .inl (SqL.of hlo), by omega, ?_⟩
          obtain ⟨k0, k1⟩ := hnn c1 ((os.length : Nat) : Int) (by omega)
          obtain ⟨i, hi⟩ := Int.eq_ofNat_of_zero_le k0
          rw [hi] at k1 ⊢
          have hil : i < rs.length := by omega
          obtain ⟨r, hr2⟩ : ∃ r, rs[i]? = some r := ⟨rs[i], List.getElem?_eq_getElem hil⟩
          obtain ⟨b1, hb1, hb2⟩ := rns_get hos hr2
          subst hR2
          refine seq_as fun R2 hR2 => ?_
          simp only [rdA, rd_forL, rd_forR, rd_compT, rd_compL, rd_compR, rd_tyes, rd_seq, rd_if, rd_kget, rd_kin, rd_fldP, rd_make, rd_slS, cx_w, cx_w2]
          refine ⟨_, SqL.of hlo, _, atI_nat hb1, b1, rfl, _, .inr (SqT.of hb2), fun l hl3 => ?_⟩
          have s2 := Same.new (o := HO.lst (r3V r)) hl3
          have hl4 := @upd_same H3 l (HO.lst (r3V r))
          have frl : H l = none := sm.free hl3
          have nel : lo ≠ l := ne_of_none hlo hl3
          replace sm := sm.trans s2
          replace hlo := s2 _ _ hlo
          replace hos := rns_same s2 hos
          generalize upd H3 l (HO.lst (r3V r)) = H4 at *
          clear s1 s2 hl3 hp1 hb2
          subst hR2
          refine if_as fun U1 U2 hU1 hU2 => ?_
          simp only [rdA, rd_forL, rd_forR, rd_compT, rd_compL, rd_compR, rd_tyes, rd_seq, rd_if, rd_kget, rd_kin, rd_fldP, rd_make, rd_slS, cx_w, cx_w2]
          refine ite2 (fun h5 => ?_) fun h5 => ?_
          · have h5' : way < 5 := of_decide_eq_true h5
            subst hU1
            refine seq_as fun R2 hR2 => ?_
            obtain ⟨j, hj⟩ := Int.eq_ofNat_of_zero_le (show 0 ≤ way - 2 by omega)
            have hj3 : j < (r3V r).length := by show j < 3; omega
            refine ⟨_, rfl, _, rfl, _, rfl, _, _, rfl, rfl, _, _, _, _, rfl, rfl, hl4, (by rw [hj]; exact ixN_nat hj3 : ixN (r3V r).length (way - 2) = some j), ?_⟩
            obtain ⟨r9, e9⟩ : ∃ r9, (r3V r).set j (.int odd) = r3V r9 := by
              have hj3 : j < 3 := hj3
              match j, hj3 with
              | 0, _ => exact ⟨(odd, r.2.1, r.2.2), rfl⟩
              | 1, _ => exact ⟨(r.1, odd, r.2.2), rfl⟩
              | 2, _ => exact ⟨(r.1, r.2.1, odd), rfl⟩
            rw [e9]
            have sm5 : Same H (upd H4 l (.lst (r3V r9))) := sm.mut frl
            have hlo5 : upd H4 l (.lst (r3V r9)) lo = some (.lst os) := (upd_ne nel).trans hlo
            have hos5 := rns_tk (Tk.lst (o := .lst (r3V r9)) hl4) hos
            have hl5 := @upd_same H4 l (HO.lst (r3V r9))
            generalize upd H4 l (HO.lst (r3V r9)) = H5 at *
            subst hR2
            simp only [rdA, rd_forL, rd_forR, rd_compT, rd_compL, rd_compR, rd_tyes, rd_seq, rd_if, rd_kget, rd_kin, rd_fldP, rd_make, rd_slS, cx_w, cx_w2]
            refine ⟨_, SqL.of hl5, _, atI0 _ _, _, SqL.of hl5, _, atI1 _ _ _, _, SqL.of hl5, _, atI2 _ _ _ _, fun q5 hq5 => ?_⟩
            have s6 := Same.new (o := HO.tup (r3V r9)) hq5
            refine ⟨_, rfl, _, rfl, _, _, _, _, rfl, rfl, s6 _ _ hlo5, ixN_nat (by omega), ?_⟩
            obtain ⟨g1, g2⟩ := rns_put (sm5.trans s6) fr (s6 _ _ hlo5) (rns_same s6 hos5) (r := r9) ⟨q5, rfl, upd_same⟩ i
            exact key _ _ ⟨lo, _, _, z, x1, _, _, _, _, _, rfl, g1, fr, upd_same, g2, by rw [List.length_set]; exact hle⟩
          · subst hU2
            refine seq_as fun R2 hR2 => ?_
            simp only [rdA, rd_forL, rd_forR, rd_compT, rd_compL, rd_compR, rd_tyes, rd_seq, rd_if, rd_kget, rd_kin, rd_fldP, rd_make, rd_slS, cx_w, cx_w2]
            refine ⟨a, ns, 2, rfl, sm.seq hl, fun c3 => ?_⟩
            simp only [rdA, rd_forL, rd_forR, rd_compT, rd_compL, rd_compR, rd_tyes, rd_seq, rd_if, rd_kget, rd_kin, rd_fldP, rd_make, rd_slS, cx_w, cx_w2]
            refine ⟨_, .inl (SqL.of hlo), by omega, ?_⟩
            obtain ⟨m0, m1⟩ := hnn (c3 / 16) ((os.length : Nat) : Int) (by omega)
            obtain ⟨j, hj⟩ := Int.eq_ofNat_of_zero_le m0
            rw [hj] at m1 ⊢
            have hjl : j < rs.length := by omega
            obtain ⟨r', hr3⟩ : ∃ r', rs[j]? = some r' := ⟨rs[j], List.getElem?_eq_getElem hjl⟩
            obtain ⟨b3, hb3, hb4⟩ := rns_get hos hr3
            subst hR2
            simp only [rdA, rd_forL, rd_forR, rd_compT, rd_compL, rd_compR, rd_tyes, rd_seq, rd_if, rd_kget, rd_kin, rd_fldP, rd_make, rd_slS, cx_w, cx_w2]
            refine ⟨_, SqL.of hlo, _, atI_nat hb3, _, SqL.of hlo, _, atI_nat hb1, fun tp htp => ?_⟩
            have s6 := Same.new (o := HO.tup [V.ref b3, V.ref b1]) htp
            obtain ⟨g1, g2⟩ := rns_put (sm.trans s6) fr (s6 _ _ hlo) (rns_same s6 hos) (r := r') (v := .ref b3) ⟨b3, rfl, s6 _ _ hb4⟩ i
            have hb5 : RnAt H4 (.ref b1) r := by
              obtain ⟨b1', e1, e2⟩ := rns_get hos hr2
              rw [hb1] at e1
              cases e1
              exact ⟨b1, rfl, e2⟩
            refine ⟨_, _, rfl, SqT.of upd_same, rfl, _, _, rfl, _, rfl, _, rfl, _, _, _, _, rfl, rfl, s6 _ _ hlo, ixN_nat (by omega), _, _, rfl, _, rfl, _, rfl, _, _, _, _, rfl, rfl, upd_same, ixN_nat (by rw [List.length_set]; omega), rfl, ?_⟩
            obtain ⟨g3, g4⟩ := rns_put g1 fr upd_same g2 (r := r) (v := .ref b1) ((RnAt.same s6 hb5).tk (Tk.lst (s6 _ _ hlo))) j
            exact key _ _ ⟨lo, _, _, z, x1, _, _, _, _, _, rfl, g3, fr, upd_same, g4, by rw [List.length_set, List.length_set]; exact hle⟩
        simp only [rdA, rd_forL, rd_forR, rd_compT, rd_compL, rd_compR, rd_tyes, rd_seq, rd_if, rd_kget, rd_kin, rd_fldP, rd_make, rd_slS, cx_w, cx_w2]
        refine ite2 (fun h1 => ?_) fun h1 => ?_
        · subst hT1
          simp only [rdA, rd_forL, rd_forR, rd_compT, rd_compL, rd_compR, rd_tyes, rd_seq, rd_if, rd_kget, rd_kin, rd_fldP, rd_make, rd_slS, cx_w, cx_w2]
          exact key _ _ ⟨lo, os, rs, odd, x1, _, _, _, _, _, rfl, smB, fr, hlo4, hos4, hle⟩
        · subst hT2
          simp only [rdA, rd_forL, rd_forR, rd_compT, rd_compL, rd_compR, rd_tyes, rd_seq, rd_if, rd_kget, rd_kin, rd_fldP, rd_make, rd_slS, cx_w, cx_w2]
          exact key _ _ ⟨lo, os, rs, z, x1, _, _, _, _, _, rfl, smB, fr, hlo4, hos4, hle⟩
      simp only [rdA, rd_forL, rd_forR, rd_compT, rd_compL, rd_compR, rd_tyes, rd_seq, rd_if, rd_kget, rd_kin, rd_fldP, rd_make, rd_slS, cx_w, cx_w2]
      refine ite2 (fun h6 => ?_) fun h6 => ?_
      · subst hT1
        refine seq_as fun R2 hR2 => ?_
        simp only [rdA, rd_forL, rd_forR, rd_compT, rd_compL, rd_compR, rd_tyes, rd_seq, rd_if, rd_kget, rd_kin, rd_fldP, rd_make, rd_slS, cx_w, cx_w2]
        refine ⟨a, ns, 1, rfl, sm.seq hl, fun c1 => ?_⟩
        simp only [rdA, rd_forL, rd_forR, rd_compT, rd_compL, rd_compR, rd_tyes, rd_seq, rd_if, rd_kget, rd_kin, rd_fldP, rd_make, rd_slS, cx_w, cx_w2]
        generalize 1 + c1 % 3 = sw
        subst hR2
        refine seq_as fun R2 hR2 => ?_
        simp only [rdA, rd_forL, rd_forR, rd_compT, rd_compL, rd_compR, rd_tyes, rd_seq, rd_if, rd_kget, rd_kin, rd_fldP, rd_make, rd_slS, cx_w, cx_w2]
        intro q1 hq1
        have s1 := Same.new (o := HO.tup [V.int sw, V.int 0, V.int 1]) hq1
        refine ⟨a, ns, 2, rfl, (sm.trans s1).seq hl, fun c2 => ?_⟩
        simp only [rdA, rd_forL, rd_forR, rd_compT, rd_compL, rd_compR, rd_tyes, rd_seq, rd_if, rd_kget, rd_kin, rd_fldP, rd_make, rd_slS, cx_w, cx_w2]
        intro q2 hq2 q3 hq3 q4 hq4
        have s2 := Same.new (o := HO.tup [V.int sw, V.int (c2 % 2), V.int 1]) hq2
        have s3 := Same.new (o := HO.tup [V.int 0, V.int 2, V.int 3]) hq3
        have s4 := Same.new (o := HO.lst [V.ref q1, V.ref q2, V.ref q3]) hq4
        have sB := sm.trans (((s1.trans s2).trans s3).trans s4)
        have fr4 : H q4 = none := (sm.trans ((s1.trans s2).trans s3)).free hq4
        have hp4 : Paired (RnAt _) [V.ref q1, V.ref q2, V.ref q3] [(sw, 0, 1), (sw, c2 % 2, 1), (0, 2, 3)] := .cons ⟨q1, rfl, ((s2.trans s3).trans s4) _ _ upd_same⟩ (.cons ⟨q2, rfl, (s3.trans s4) _ _ upd_same⟩ (.cons ⟨q3, rfl, s4 _ _ upd_same⟩ .nil))
        have hlo4 := @upd_same (upd (upd (upd H2 q1 (HO.tup [V.int sw, V.int 0, V.int 1])) q2 (HO.tup [V.int sw, V.int (c2 % 2), V.int 1])) q3 (HO.tup [V.int 0, V.int 2, V.int 3])) q4 (HO.lst [V.ref q1, V.ref q2, V.ref q3])
        generalize upd (upd (upd (upd H2 q1 (HO.tup [V.int sw, V.int 0, V.int 1])) q2 (HO.tup [V.int sw, V.int (c2 % 2), V.int 1])) q3 (HO.tup [V.int 0, V.int 2, V.int 3])) q4 (HO.lst [V.ref q1, V.ref q2, V.ref q3]) = H4 at *
        clear s1 s2 s3 s4 hq1 hq2 hq3 hq4
        subst hR2
        refine seq_as fun R2 hR2 => if_as fun U1 U2 hU1 hU2 => ?_
        have k2 : ∀ (H' : Hp) (os' : List V) (rs' : List R3), Same H H' → H' q4 = some (.lst os') → Paired (RnAt H') os' rs' → rs'.length = 3 → R2 [some (V.ref a), some x1, some (V.ref q4), some (V.int z), some (V.int way), some (V.int sw), o6, o7, o8, o9, o10, none, none, none, none] H' := fun H' os' rs' sm' hlo' hos' hl3 => by
          clear hU1 hU2
          subst hR2
          refine seq_as fun R2 hR2 => if_as fun U1 U2 hU1 hU2 => ?_
          have k3 : ∀ (H' : Hp) (os' : List V) (rs' : List R3), Same H H' → H' q4 = some (.lst os') → Paired (RnAt H') os' rs' → rs'.length = 3 → R2 [some (V.ref a), some x1, some (V.ref q4), some (V.int z), some (V.int way), some (V.int sw), o6, o7, o8, o9, o10, none, none, none, none] H' := fun H' os' rs' sm' hlo' hos' hl3 => by
            clear hU1 hU2
            subst hR2
            simp only [rdA, rd_forL, rd_forR, rd_compT, rd_compL, rd_compR, rd_tyes, rd_seq, rd_if, rd_kget, rd_kin, rd_fldP, rd_make, rd_slS, cx_w, cx_w2]
            exact key _ _ ⟨q4, os', rs', 4, x1, _, _, _, _, _, _, rfl, sm', fr4, hlo', hos', by omega⟩
          simp only [rdA, rd_forL, rd_forR, rd_compT, rd_compL, rd_compR, rd_tyes, rd_seq, rd_if, rd_kget, rd_kin, rd_fldP, rd_make, rd_slS, cx_w, cx_w2]
          refine ⟨a, ns, 2, rfl, sm'.seq hl, fun c3 => ?_⟩
          simp only [rdA, rd_forL, rd_forR, rd_compT, rd_compL, rd_compR, rd_tyes, rd_seq, rd_if, rd_kget, rd_kin, rd_fldP, rd_make, rd_slS, cx_w, cx_w2]
          refine ite2 (fun h8 => ?_) fun h8 => ?_
          · subst hU1
            simp only [rdA, rd_forL, rd_forR, rd_compT, rd_compL, rd_compR, rd_tyes, rd_seq, rd_if, rd_kget, rd_kin, rd_fldP, rd_make, rd_slS, cx_w, cx_w2]
            intro q5 hq5
            have s5 := Same.new (o := HO.tup [V.int 0, V.int 3, V.int 2]) hq5
            have hol : os'.length = 3 := (Paired.length hos').trans hl3
            refine ⟨_, rfl, _, _, _, _, rfl, rfl, s5 _ _ hlo', (by rw [hol]; rfl : ixN os'.length 2 = some 2), ?_⟩
            obtain ⟨g1, g2⟩ := rns_put (sm'.trans s5) fr4 (s5 _ _ hlo') (rns_same s5 hos') (r := (0, 3, 2)) ⟨q5, rfl, upd_same⟩ 2
            exact k3 _ _ _ g1 upd_same g2 (by rw [List.length_set]; exact hl3)
          · subst hU2
            simp only [rdA, rd_forL, rd_forR, rd_compT, rd_compL, rd_compR, rd_tyes, rd_seq, rd_if, rd_kget, rd_kin, rd_fldP, rd_make, rd_slS, cx_w, cx_w2]
            exact k3 _ _ _ sm' hlo' hos' hl3
        simp only [rdA, rd_forL, rd_forR, rd_compT, rd_compL, rd_compR, rd_tyes, rd_seq, rd_if, rd_kget, rd_kin, rd_fldP, rd_make, rd_slS, cx_w, cx_w2]
        refine ⟨_, SqL.of hlo4, _, atI1 _ _ _, ?_⟩
        obtain ⟨b2, hb2, ht2⟩ := rns_get (i := 1) hp4 rfl
        cases hb2
        simp only [rdA, rd_forL, rd_forR, rd_compT, rd_compL, rd_compR, rd_tyes, rd_seq, rd_if, rd_kget, rd_kin, rd_fldP, rd_make, rd_slS, cx_w, cx_w2]
        refine ⟨_, SqT.of ht2, _, atI1 _ _ _, ?_⟩
        simp only [rdA, rd_forL, rd_forR, rd_compT, rd_compL, rd_compR, rd_tyes, rd_seq, rd_if, rd_kget, rd_kin, rd_fldP, rd_make, rd_slS, cx_w, cx_w2]
        refine ite2 (fun h8 => ?_) fun h8 => ?_
        · subst hU1
          simp only [rdA, rd_forL, rd_forR, rd_compT, rd_compL, rd_compR, rd_tyes, rd_seq, rd_if, rd_kget, rd_kin, rd_fldP, rd_make, rd_slS, cx_w, cx_w2]
          intro q5 hq5
          have s5 := Same.new (o := HO.tup [V.int sw, V.int 1, V.int 0]) hq5
          refine ⟨_, rfl, _, _, _, _, rfl, rfl, s5 _ _ hlo4, (by rfl : ixN 3 1 = some 1), ?_⟩
          obtain ⟨g1, g2⟩ := rns_put (sB.trans s5) fr4 (s5 _ _ hlo4) (rns_same s5 hp4) (r := (sw, 1, 0)) ⟨q5, rfl, upd_same⟩ 1
          exact k2 _ _ _ g1 upd_same g2 rfl
        · subst hU2
          simp only [rdA, rd_forL, rd_forR, rd_compT, rd_compL, rd_compR, rd_tyes, rd_seq, rd_if, rd_kget, rd_kin, rd_fldP, rd_make, rd_slS, cx_w, cx_w2]
          exact k2 _ _ _ sB hlo4 hp4 rfl
      · subst hT2
        simp only [rdA, rd_forL, rd_forR, rd_compT, rd_compL, rd_compR, rd_tyes, rd_seq, rd_if, rd_kget, rd_kin, rd_fldP, rd_make, rd_slS, cx_w, cx_w2]
        exact key _ _ ⟨lo, os, rs, z, x1, _, _, _, _, _, _, rfl, sm, fr, hlo, hos, hle⟩
    simp only [rdA, rd_forL, rd_forR, rd_compT, rd_compL, rd_compR, rd_tyes, rd_seq, rd_if, rd_kget, rd_kin, rd_fldP, rd_make, rd_slS, cx_w, cx_w2]
    refine ite2 (fun h7 => ?_) fun h7 => ?_
    · subst hT1
      simp only [rdA, rd_forL, rd_forR, rd_compT, rd_compL, rd_compR, rd_tyes, rd_seq, rd_if, rd_kget, rd_kin, rd_fldP, rd_make, rd_slS, cx_w, cx_w2]
      refine ⟨lo', os', gg.1, gg.2, rfl, hlo', hos', hgn, hgp.l, by omega, fun t6 lo6 os6 ms6 x6 H6 fr6 sm6 ht6 hlo6 hos6 hle6 => ?_⟩
      refine ⟨_, _, rfl, SqT.of ht6, rfl, _, _, rfl, _, _, rfl, rfl, key _ _ ?_⟩
      exact ⟨lo6, os6, ms6.map nd3, x6, v, none, none, none, none, none, none, rfl, sB.trans sm6, sB.free fr6, hlo6, nds_rns hos6, by rw [List.length_map]; omega⟩
    · subst hT2
      simp only [rdA, rd_forL, rd_forR, rd_compT, rd_compL, rd_compR, rd_tyes, rd_seq, rd_if, rd_kget, rd_kin, rd_fldP, rd_make, rd_slS, cx_w, cx_w2]
      exact key _ _ ⟨lo', os', gg.1.map nd3, gg.2, v, none, none, none, none, none, none, rfl, sB, fr0, hlo', nds_rns hos', by rw [List.length_map]; omega⟩
end
end Nt
end CN
end
section
set_option Elab.async false
set_option linter.all false
set_option maxRecDepth 100000
set_option maxHeartbeats 4000000
namespace CN
open PySem L2
namespace Nt
theorem all1 {C : List Value → Prop} (h : ∀ a, C [a]) : ∀ us : List Value, us.length = 1 → C us
  | [a], _ => h a
theorem all2 {C : List Value → Prop} (h : ∀ a b, C [a, b]) : ∀ us : List Value, us.length = 2 → C us
  | [a, b], _ => h a b
theorem all3 {C : List Value → Prop} (h : ∀ a b c, C [a, b, c]) : ∀ us : List Value, us.length = 3 → C us
  | [a, b, c], _ => h a b c
theorem df_mk {K : PySem.W.Frag} {h : Heap} {mg : Str → Option Value} (X : K.In h) (G : h.Ns mainGlobals mg) {x : Str} {st : Stmt} (ps : List Str) {f : Addr} {oc : Value} {od an : Option Addr} {osl : Array (Option Value)} {kV doc pm cdv ct : Value}
    (a : PySem.W.nsIn K mainGlobals x = some (some (.ref f))) (l : K.lookup f = some ⟨oc, od, .func (PySem.W.fnOf x x (defArgs st) (defBody st) (defScope st) .none kV doc pm an cdv ct), osl⟩) (c : PySem.W.codeIn K cdv x = true) (k : PySem.W.keepIn K (.ref f) = true)
    (hb : ∀ (kV doc pm : Value) (an : Option Addr) (cdv ct : Value) (us : List Value), us.length = ps.length → bindArgs (PySem.W.fnOf x x (defArgs st) (defBody st) (defScope st) .none kV doc pm an cdv ct) ⟨us, []⟩ = pure (ps.zip us)) :
    Df K mg x st ps f (PySem.W.fnOf x x (defArgs st) (defBody st) (defScope st) .none kV doc pm an cdv ct) :=
  ⟨fun_mk l c k, (fun_mk l c k).binds hb, PySem.W.mg_of X G a⟩
theorem all_mk {l : PySem.W.OpenLaw} {w : World} {K : PySem.W.Frag} {h : Heap} {mg : Str → Option Value} {fa f0 f1 f2 f3 f4 f5 f6 f7 f8 f9 f10 f11 f12 f13 f14 f15 f16 : Addr} (X : K.In h) (G : h.Ns mainGlobals mg) (hfa : mg "law" = some (.ref fa))
    {od0 an0 od1 an1 od2 an2 od3 an3 od4 an4 od5 an5 od6 an6 od7 an7 od8 an8 od9 an9 od10 an10 od11 an11 od12 an12 od13 an13 od14 an14 od15 an15 od16 an16 : Option Addr} {sl0 sl1 sl2 sl3 sl4 sl5 sl6 sl7 sl8 sl9 sl10 sl11 sl12 sl13 sl14 sl15 sl16 : Array (Option Value)}
    {oc0 kV0 dc0 pm0 cd0 ct0 oc1 kV1 dc1 pm1 cd1 ct1 oc2 kV2 dc2 pm2 cd2 ct2 oc3 kV3 dc3 pm3 cd3 ct3 oc4 kV4 dc4 pm4 cd4 ct4 oc5 kV5 dc5 pm5 cd5 ct5 oc6 kV6 dc6 pm6 cd6 ct6 oc7 kV7 dc7 pm7 cd7 ct7 oc8 kV8 dc8 pm8 cd8 ct8 oc9 kV9 dc9 pm9 cd9 ct9 oc10 kV10 dc10 pm10 cd10 ct10 oc11 kV11 dc11 pm11 cd11 ct11 oc12 kV12 dc12 pm12 cd12 ct12 oc13 kV13 dc13 pm13 cd13 ct13 oc14 kV14 dc14 pm14 cd14 ct14 oc15 kV15 dc15 pm15 cd15 ct15 oc16 kV16 dc16 pm16 cd16 ct16 : Value}
    (b0 : PySem.W.nsIn K mainGlobals "len" = some none)    (b1 : PySem.W.nsIn K mainGlobals "range" = some none)    (b2 : PySem.W.nsIn K mainGlobals "isinstance" = some none)    (b3 : PySem.W.nsIn K mainGlobals "int" = some none)    (b4 : PySem.W.nsIn K mainGlobals "str" = some none)    (b5 : PySem.W.nsIn K mainGlobals "bool" = some none)    (b6 : PySem.W.nsIn K mainGlobals "list" = some none)    (b7 : PySem.W.nsIn K mainGlobals "tuple" = some none)    (b8 : PySem.W.nsIn K mainGlobals "abs" = some none)    (b9 : PySem.W.nsIn K mainGlobals "reversed" = some none)    (b10 : PySem.W.nsIn K mainGlobals "set" = some none)    (b11 : PySem.W.nsIn K mainGlobals "all" = some none)
    (a0 : PySem.W.nsIn K mainGlobals "law" = some (some (.ref f0))) (l0 : K.lookup f0 = some ⟨oc0, od0, .func (PySem.W.fnOf "law" "law" (defArgs s_law) (defBody s_law) (defScope s_law) .none kV0 dc0 pm0 an0 cd0 ct0), sl0⟩) (c0 : PySem.W.codeIn K cd0 "law" = true) (k0 : PySem.W.keepIn K (.ref f0) = true)
    (a1 : PySem.W.nsIn K mainGlobals "_law_drawn_statement" = some (some (.ref f1))) (l1 : K.lookup f1 = some ⟨oc1, od1, .func (PySem.W.fnOf "_law_drawn_statement" "_law_drawn_statement" (defArgs s_L_drawn_statement) (defBody s_L_drawn_statement) (defScope s_L_drawn_statement) .none kV1 dc1 pm1 an1 cd1 ct1), sl1⟩) (c1 : PySem.W.codeIn K cd1 "_law_drawn_statement" = true) (k1 : PySem.W.keepIn K (.ref f1) = true)
    (a2 : PySem.W.nsIn K mainGlobals "_law_room" = some (some (.ref f2))) (l2 : K.lookup f2 = some ⟨oc2, od2, .func (PySem.W.fnOf "_law_room" "_law_room" (defArgs s_L_room) (defBody s_L_room) (defScope s_L_room) .none kV2 dc2 pm2 an2 cd2 ct2), sl2⟩) (c2 : PySem.W.codeIn K cd2 "_law_room" = true) (k2 : PySem.W.keepIn K (.ref f2) = true)
    (a3 : PySem.W.nsIn K mainGlobals "_law_true_in" = some (some (.ref f3))) (l3 : K.lookup f3 = some ⟨oc3, od3, .func (PySem.W.fnOf "_law_true_in" "_law_true_in" (defArgs s_L_true_in) (defBody s_L_true_in) (defScope s_L_true_in) .none kV3 dc3 pm3 an3 cd3 ct3), sl3⟩) (c3 : PySem.W.codeIn K cd3 "_law_true_in" = true) (k3 : PySem.W.keepIn K (.ref f3) = true)
    (a4 : PySem.W.nsIn K mainGlobals "_law_inside" = some (some (.ref f4))) (l4 : K.lookup f4 = some ⟨oc4, od4, .func (PySem.W.fnOf "_law_inside" "_law_inside" (defArgs s_L_inside) (defBody s_L_inside) (defScope s_L_inside) .none kV4 dc4 pm4 an4 cd4 ct4), sl4⟩) (c4 : PySem.W.codeIn K cd4 "_law_inside" = true) (k4 : PySem.W.keepIn K (.ref f4) = true)
    (a5 : PySem.W.nsIn K mainGlobals "_law_built" = some (some (.ref f5))) (l5 : K.lookup f5 = some ⟨oc5, od5, .func (PySem.W.fnOf "_law_built" "_law_built" (defArgs s_L_built) (defBody s_L_built) (defScope s_L_built) .none kV5 dc5 pm5 an5 cd5 ct5), sl5⟩) (c5 : PySem.W.codeIn K cd5 "_law_built" = true) (k5 : PySem.W.keepIn K (.ref f5) = true)
    (a6 : PySem.W.nsIn K mainGlobals "_law_told_from" = some (some (.ref f6))) (l6 : K.lookup f6 = some ⟨oc6, od6, .func (PySem.W.fnOf "_law_told_from" "_law_told_from" (defArgs s_L_told_from) (defBody s_L_told_from) (defScope s_L_told_from) .none kV6 dc6 pm6 an6 cd6 ct6), sl6⟩) (c6 : PySem.W.codeIn K cd6 "_law_told_from" = true) (k6 : PySem.W.keepIn K (.ref f6) = true)
    (a7 : PySem.W.nsIn K mainGlobals "_law_other_way" = some (some (.ref f7))) (l7 : K.lookup f7 = some ⟨oc7, od7, .func (PySem.W.fnOf "_law_other_way" "_law_other_way" (defArgs s_L_other_way) (defBody s_L_other_way) (defScope s_L_other_way) .none kV7 dc7 pm7 an7 cd7 ct7), sl7⟩) (c7 : PySem.W.codeIn K cd7 "_law_other_way" = true) (k7 : PySem.W.keepIn K (.ref f7) = true)
    (a8 : PySem.W.nsIn K mainGlobals "_law_at" = some (some (.ref f8))) (l8 : K.lookup f8 = some ⟨oc8, od8, .func (PySem.W.fnOf "_law_at" "_law_at" (defArgs s_L_at) (defBody s_L_at) (defScope s_L_at) .none kV8 dc8 pm8 an8 cd8 ct8), sl8⟩) (c8 : PySem.W.codeIn K cd8 "_law_at" = true) (k8 : PySem.W.keepIn K (.ref f8) = true)
    (a9 : PySem.W.nsIn K mainGlobals "_law_any" = some (some (.ref f9))) (l9 : K.lookup f9 = some ⟨oc9, od9, .func (PySem.W.fnOf "_law_any" "_law_any" (defArgs s_L_any) (defBody s_L_any) (defScope s_L_any) .none kV9 dc9 pm9 an9 cd9 ct9), sl9⟩) (c9 : PySem.W.codeIn K cd9 "_law_any" = true) (k9 : PySem.W.keepIn K (.ref f9) = true)
    (a10 : PySem.W.nsIn K mainGlobals "_law_good_graph" = some (some (.ref f10))) (l10 : K.lookup f10 = some ⟨oc10, od10, .func (PySem.W.fnOf "_law_good_graph" "_law_good_graph" (defArgs s_L_good_graph) (defBody s_L_good_graph) (defScope s_L_good_graph) .none kV10 dc10 pm10 an10 cd10 ct10), sl10⟩) (c10 : PySem.W.codeIn K cd10 "_law_good_graph" = true) (k10 : PySem.W.keepIn K (.ref f10) = true)
    (a11 : PySem.W.nsIn K mainGlobals "_law_whole" = some (some (.ref f11))) (l11 : K.lookup f11 = some ⟨oc11, od11, .func (PySem.W.fnOf "_law_whole" "_law_whole" (defArgs s_L_whole) (defBody s_L_whole) (defScope s_L_whole) .none kV11 dc11 pm11 an11 cd11 ct11), sl11⟩) (c11 : PySem.W.codeIn K cd11 "_law_whole" = true) (k11 : PySem.W.keepIn K (.ref f11) = true)
    (a12 : PySem.W.nsIn K mainGlobals "_law_so" = some (some (.ref f12))) (l12 : K.lookup f12 = some ⟨oc12, od12, .func (PySem.W.fnOf "_law_so" "_law_so" (defArgs s_L_so) (defBody s_L_so) (defScope s_L_so) .none kV12 dc12 pm12 an12 cd12 ct12), sl12⟩) (c12 : PySem.W.codeIn K cd12 "_law_so" = true) (k12 : PySem.W.keepIn K (.ref f12) = true)
    (a13 : PySem.W.nsIn K mainGlobals "is_graph" = some (some (.ref f13))) (l13 : K.lookup f13 = some ⟨oc13, od13, .func (PySem.W.fnOf "is_graph" "is_graph" (defArgs s_is_graph) (defBody s_is_graph) (defScope s_is_graph) .none kV13 dc13 pm13 an13 cd13 ct13), sl13⟩) (c13 : PySem.W.codeIn K cd13 "is_graph" = true) (k13 : PySem.W.keepIn K (.ref f13) = true)
    (a14 : PySem.W.nsIn K mainGlobals "is_node" = some (some (.ref f14))) (l14 : K.lookup f14 = some ⟨oc14, od14, .func (PySem.W.fnOf "is_node" "is_node" (defArgs s_is_node) (defBody s_is_node) (defScope s_is_node) .none kV14 dc14 pm14 an14 cd14 ct14), sl14⟩) (c14 : PySem.W.codeIn K cd14 "is_node" = true) (k14 : PySem.W.keepIn K (.ref f14) = true)
    (a15 : PySem.W.nsIn K mainGlobals "may_lead" = some (some (.ref f15))) (l15 : K.lookup f15 = some ⟨oc15, od15, .func (PySem.W.fnOf "may_lead" "may_lead" (defArgs s_may_lead) (defBody s_may_lead) (defScope s_may_lead) .none kV15 dc15 pm15 an15 cd15 ct15), sl15⟩) (c15 : PySem.W.codeIn K cd15 "may_lead" = true) (k15 : PySem.W.keepIn K (.ref f15) = true)
    (a16 : PySem.W.nsIn K mainGlobals "ordered_graph" = some (some (.ref f16))) (l16 : K.lookup f16 = some ⟨oc16, od16, .func (PySem.W.fnOf "ordered_graph" "ordered_graph" (defArgs s_ordered_graph) (defBody s_ordered_graph) (defScope s_ordered_graph) .none kV16 dc16 pm16 an16 cd16 ct16), sl16⟩) (c16 : PySem.W.codeIn K cd16 "ordered_graph" = true) (k16 : PySem.W.keepIn K (.ref f16) = true) :
    ∃ fd : FuncData, (∀ (s : Shared) (v : Value), BindsTo s fd ⟨[v], []⟩ [("_law_script", v)]) ∧ ∀ base : Heap, K.In base → base.Ns mainGlobals mg → FnOk l.prog w K mg base CX0 11 fa fd ["_law_script"] (spLaw9 K) := by
  have e := hfa.symm.trans (PySem.W.mg_of X G a0)
  cases e
  have BT : Bt mg := ⟨PySem.W.mg_none_of X G b0, PySem.W.mg_none_of X G b1, PySem.W.mg_none_of X G b2, PySem.W.mg_none_of X G b3, PySem.W.mg_none_of X G b4, PySem.W.mg_none_of X G b5, PySem.W.mg_none_of X G b6, PySem.W.mg_none_of X G b7, PySem.W.mg_none_of X G b8⟩
  have n_reversed := PySem.W.mg_none_of X G b9
  have n_set := PySem.W.mg_none_of X G b10
  have n_all := PySem.W.mg_none_of X G b11
  have D_law := df_mk X G p_law a0 l0 c0 k0 fun _ _ _ _ _ _ => all1 fun _ => rfl
  have D_L_drawn_statement := df_mk X G p_L_drawn_statement a1 l1 c1 k1 fun _ _ _ _ _ _ => all2 fun _ _ => rfl
  have D_L_room := df_mk X G p_L_room a2 l2 c2 k2 fun _ _ _ _ _ _ => all3 fun _ _ _ => rfl
  have D_L_true_in := df_mk X G p_L_true_in a3 l3 c3 k3 fun _ _ _ _ _ _ => all2 fun _ _ => rfl
  have D_L_inside := df_mk X G p_L_inside a4 l4 c4 k4 fun _ _ _ _ _ _ => all1 fun _ => rfl
  have D_L_built := df_mk X G p_L_built a5 l5 c5 k5 fun _ _ _ _ _ _ => all1 fun _ => rfl
  have D_L_told_from := df_mk X G p_L_told_from a6 l6 c6 k6 fun _ _ _ _ _ _ => all1 fun _ => rfl
  have D_L_other_way := df_mk X G p_L_other_way a7 l7 c7 k7 fun _ _ _ _ _ _ => all2 fun _ _ => rfl
  have D_L_at := df_mk X G p_L_at a8 l8 c8 k8 fun _ _ _ _ _ _ => all2 fun _ _ => rfl
  have D_L_any := df_mk X G p_L_any a9 l9 c9 k9 fun _ _ _ _ _ _ => all1 fun _ => rfl
  have D_L_good_graph := df_mk X G p_L_good_graph a10 l10 c10 k10 fun _ _ _ _ _ _ => all1 fun _ => rfl
  have D_L_whole := df_mk X G p_L_whole a11 l11 c11 k11 fun _ _ _ _ _ _ => all1 fun _ => rfl
  have D_L_so := df_mk X G p_L_so a12 l12 c12 k12 fun _ _ _ _ _ _ => all2 fun _ _ => rfl
  have D_is_graph := df_mk X G p_is_graph a13 l13 c13 k13 fun _ _ _ _ _ _ => all1 fun _ => rfl
  have D_is_node := df_mk X G p_is_node a14 l14 c14 k14 fun _ _ _ _ _ _ => all2 fun _ _ => rfl
  have D_may_lead := df_mk X G p_may_lead a15 l15 c15 k15 fun _ _ _ _ _ _ => all3 fun _ _ _ => rfl
  have D_ordered_graph := df_mk X G p_ordered_graph a16 l16 c16 k16 fun _ _ _ _ _ _ => all2 fun _ _ => rfl
  refine ⟨PySem.W.fnOf "law" "law" (defArgs s_law) (defBody s_law) (defScope s_law) .none kV0 dc0 pm0 an0 cd0 ct0, fun s v => .of_eq rfl, fun base _ _ => ?_⟩
  have g_true : FnOk l.prog w K mg base CX0 2 _ _ p_L_true_in spTrue := ok_true BT n_reversed D_L_inside (ok_inside BT D_L_inside) D_L_true_in
  have g_isg : FnOk l.prog w K mg base CX0 3 _ _ p_is_graph spJudge := ok_isGraph BT n_set n_all D_may_lead D_is_node D_ordered_graph D_is_graph
  exact (ok_law9 BT D_L_drawn_statement (ok_draw BT D_L_drawn_statement) D_L_room (ok_room BT D_L_room) D_L_true_in g_true D_L_built (ok_built BT D_L_built) D_L_told_from (ok_told BT D_L_told_from) D_L_other_way (ok_oway BT D_L_other_way) D_L_at (ok_at BT D_L_at) D_L_any (ok_any BT D_L_any) D_L_good_graph (ok_good3 BT D_L_whole D_L_good_graph) D_is_graph g_isg D_L_so (ok_so BT D_L_so) D_law).mono (by decide)
theorem walk {l : PySem.W.OpenLaw} {q : Program} {loose : List Str} {XP : (Str → Option Value) → Heap → Prop} {YP : World → Heap → Prop} {d : DefRec} {K : Params → PySem.W.Frag} (hn : l.most = some 63) (hdf : d.params.defaults = [])
    (hY : ∀ (w : World) (h : Heap), YP w h → (K w.params).In h)
    (F : ∀ (w : World) (mg : Str → Option Value) (fa : Addr) (h : Heap), (K w.params).In h → h.Ns mainGlobals mg → mg d.name = some (.ref fa) →
      ∃ fd : FuncData, (∀ (s : Shared) (u : Value), BindsTo s fd ⟨[u], []⟩ [("_law_script", u)]) ∧ ∀ base : Heap, (K w.params).In base → base.Ns mainGlobals mg → FnOk l.prog w (K w.params) mg base CX0 11 fa fd ["_law_script"] (spLaw9 (K w.params))) :
    PySem.W.WalkO q loose XP YP l.row.toRowW d [] (fun f vs => PySem.call f vs) :=
  L2.walk_of (n := 63) (k := 11) (x := "_law_script") (CX := fun _ => CX0) (sp := fun w => spLaw9 (K w.params)) hn (by decide) hdf ⟨rfl, by decide, by decide⟩ hY F (fun _ _ a ns hl _ hS => ⟨a, ns, rfl, hS, hl, fun _ => rfl⟩) fun _ _ _ _ _ z => z
end Nt
end CN
open PySem PySem.W PyProof.Rows
set_option maxRecDepth 100000 in
set_option maxHeartbeats 0 in
theorem PySem.Challenge.cw_choicenet_k09_graphs_judged_holds : PySem.Challenge.rw_choicenet_k09_graphs_judged.Holds := by
  w_on; o_law; k_head; (case hw => w_witness2)
  k_fill
  refine CN.Nt.walk (l := PySem.Challenge.rw_choicenet_k09_graphs_judged) rfl rfl (fun w h Y => PySem.W.kIn_of Y) ?F
  case F =>
    intro w mg fa h KX G hmg
    refine' CN.Nt.all_mk KX G hmg ?b0 ?b1 ?b2 ?b3 ?b4 ?b5 ?b6 ?b7 ?b8 ?b9 ?b10 ?b11 ?a0 ?l0 ?c0 ?k0 ?a1 ?l1 ?c1 ?k1 ?a2 ?l2 ?c2 ?k2 ?a3 ?l3 ?c3 ?k3 ?a4 ?l4 ?c4 ?k4 ?a5 ?l5 ?c5 ?k5 ?a6 ?l6 ?c6 ?k6 ?a7 ?l7 ?c7 ?k7 ?a8 ?l8 ?c8 ?k8 ?a9 ?l9 ?c9 ?k9 ?a10 ?l10 ?c10 ?k10 ?a11 ?l11 ?c11 ?k11 ?a12 ?l12 ?c12 ?k12 ?a13 ?l13 ?c13 ?k13 ?a14 ?l14 ?c14 ?k14 ?a15 ?l15 ?c15 ?k15 ?a16 ?l16 ?c16 ?k16
    (case b0 => k_is)
    (case b1 => k_is)
    (case b2 => k_is)
    (case b3 => k_is)
    (case b4 => k_is)
    (case b5 => k_is)
    (case b6 => k_is)
    (case b7 => k_is)
    (case b8 => k_is)
    (case b9 => k_is)
    (case b10 => k_is)
    (case b11 => k_is)
    (case a0 => k_is)
    (case l0 => k_is)
    (case c0 => k_is)
    (case k0 => k_is)
    (case a1 => k_is)
    (case l1 => k_is)
    (case c1 => k_is)
    (case k1 => k_is)
    (case a2 => k_is)
    (case l2 => k_is)
    (case c2 => k_is)
    (case k2 => k_is)
    (case a3 => k_is)
    (case l3 => k_is)
    (case c3 => k_is)
    (case k3 => k_is)
    (case a4 => k_is)
    (case l4 => k_is)
    (case c4 => k_is)
    (case k4 => k_is)
    (case a5 => k_is)
    (case l5 => k_is)
    (case c5 => k_is)
    (case k5 => k_is)
    (case a6 => k_is)
    (case l6 => k_is)
    (case c6 => k_is)
    (case k6 => k_is)
    (case a7 => k_is)
    (case l7 => k_is)
    (case c7 => k_is)
    (case k7 => k_is)
    (case a8 => k_is)
    (case l8 => k_is)
    (case c8 => k_is)
    (case k8 => k_is)
    (case a9 => k_is)
    (case l9 => k_is)
    (case c9 => k_is)
    (case k9 => k_is)
    (case a10 => k_is)
    (case l10 => k_is)
    (case c10 => k_is)
    (case k10 => k_is)
    (case a11 => k_is)
    (case l11 => k_is)
    (case c11 => k_is)
    (case k11 => k_is)
    (case a12 => k_is)
    (case l12 => k_is)
    (case c12 => k_is)
    (case k12 => k_is)
    (case a13 => k_is)
    (case l13 => k_is)
    (case c13 => k_is)
    (case k13 => k_is)
    (case a14 => k_is)
    (case l14 => k_is)
    (case c14 => k_is)
    (case k14 => k_is)
    (case a15 => k_is)
    (case l15 => k_is)
    (case c15 => k_is)
    (case k15 => k_is)
    (case a16 => k_is)
    (case l16 => k_is)
    (case c16 => k_is)
    (case k16 => k_is)
end
