import PyProof.Rows.All
import Wide.All
import OpenK.AllK
import Wide.FinOn
import Lean
import PyProof.EqAt
import PyProof.EqKinds
import PyProof.TupleCall
import PyProof.Lay0
import KE.KIntText
import OpenK.KTop
import KE.KNestM
import KE.KRevIter
import PyProof.Rows.FStr
import PyProof.StrReplace2
import PyProof.StrLawsChain
import PyProof.ToksMono
import PyProof.Rows.StrJoin2
import PySem.Challenge.RW_choicenet_k11_lines_read_or_refused
set_option hygiene false in
local macro_rules | `(tactic| simp only [rdA]) => `(tactic| simp only [rd_seq, rd_if, rd_ret, rd_retN, rd_drop, rd_asg, rd_name, rd_next, rd_cont, rd_break, rd_never, rd_var, rd_c, rd_op, rd_un, rd_rI0, rd_rI, rd_rU, rd_eqI, rd_eqS, rd_neI, rd_neS, rd_test, rd_tB, rd_and, rd_or, rd_not, rd_andV, rd_orV, rd_notV, rd_ife, rd_nil, rd_cons, rd_tup, rd_lst, rd_call, rd_callL, rd_cb, rd_bm, rd_bm0, rd_sl, rd_nopart, rd_part, rd_exbl, rd_exint, rd_exsome, rd_tyL, rd_app, rd_pop, rd_ins0, rd_ext, rd_rev, rd_cat, rd_ixT, rd_ixL, rd_slL, rd_inS, rd_dispC, kvC, rd_fldC, rd_dget, rd_din, rd_dnotin, rd_dput, rd_meth, rd_dget2, cx_K, CDiv, L2.start, cx_K2, List.map_cons, List.map_nil, List.length_cons, List.length_nil, Nat.reduceAdd, Nat.reduceSub, List.replicate_succ, List.replicate_zero, List.cons_append, List.nil_append, List.append_nil, List.getElem?_cons_zero, List.getElem?_cons_succ, List.set_cons_zero, List.set_cons_succ, V.ref.injEq, V.int.injEq, V.str.injEq, V.bl.injEq, List.cons.injEq, Option.some.injEq, and_true, true_and, exists_eq_left, exists_eq_left', exists_and_left, exists_eq', Nat.zero_add, if_true, if_false, Bool.false_eq_true, V.ty.injEq, and_assoc, Int.zero_add, Int.reduceLT, Int.reduceLE, Nat.reduceLeDiff, Int.reduceNeg, reduceCtorEq, false_and, exists_false, false_or, or_false, rd_s0, rd_s1, rd_s2, rd_s3, rd_s4, rd_s5, rd_s6, rd_s7, rd_s8, rd_s9])
set_option hygiene false in
local macro_rules | `(tactic| simp only [rdA, $xs,*]) => `(tactic| simp only [$xs,*, rd_seq, rd_if, rd_ret, rd_retN, rd_drop, rd_asg, rd_name, rd_next, rd_cont, rd_break, rd_never, rd_var, rd_c, rd_op, rd_un, rd_rI0, rd_rI, rd_rU, rd_eqI, rd_eqS, rd_neI, rd_neS, rd_test, rd_tB, rd_and, rd_or, rd_not, rd_andV, rd_orV, rd_notV, rd_ife, rd_nil, rd_cons, rd_tup, rd_lst, rd_call, rd_callL, rd_cb, rd_bm, rd_bm0, rd_sl, rd_nopart, rd_part, rd_exbl, rd_exint, rd_exsome, rd_tyL, rd_app, rd_pop, rd_ins0, rd_ext, rd_rev, rd_cat, rd_ixT, rd_ixL, rd_slL, rd_inS, rd_dispC, kvC, rd_fldC, rd_dget, rd_din, rd_dnotin, rd_dput, rd_meth, rd_dget2, cx_K, CDiv, L2.start, cx_K2, List.map_cons, List.map_nil, List.length_cons, List.length_nil, Nat.reduceAdd, Nat.reduceSub, List.replicate_succ, List.replicate_zero, List.cons_append, List.nil_append, List.append_nil, List.getElem?_cons_zero, List.getElem?_cons_succ, List.set_cons_zero, List.set_cons_succ, V.ref.injEq, V.int.injEq, V.str.injEq, V.bl.injEq, List.cons.injEq, Option.some.injEq, and_true, true_and, exists_eq_left, exists_eq_left', exists_and_left, exists_eq', Nat.zero_add, if_true, if_false, Bool.false_eq_true, V.ty.injEq, and_assoc, Int.zero_add, Int.reduceLT, Int.reduceLE, Nat.reduceLeDiff, Int.reduceNeg, reduceCtorEq, false_and, exists_false, false_or, or_false, rd_s0, rd_s1, rd_s2, rd_s3, rd_s4, rd_s5, rd_s6, rd_s7, rd_s8, rd_s9])
section
set_option Elab.async false
set_option linter.all false
set_option maxRecDepth 100000
namespace L2
open PySem PySem.Spec PyProof.Rows
noncomputable abbrev Key := Sum Int Str
noncomputable def keyIs : Key → Value → Bool
  | .inl k, v => Value.isInt k v
  | .inr x, v => Value.isStrOf x v
noncomputable def keyH (w : World) : Key → Int
  | .inl k => hashInt k
  | .inr x => hashStr w x
theorem keyIs_shape : ∀ {k : Key} {v : Value}, keyIs k v = true → (∃ i t, k = Sum.inl i ∧ v = Value.int i t) ∨ (∃ x t, k = Sum.inr x ∧ v = Value.str x t)
  | .inl i, v, h => by
    obtain ⟨t, e⟩ := Value.isInt_shape (k := i) (v := v) h
    exact .inl ⟨i, t, rfl, e⟩
  | .inr x, v, h => by
    obtain ⟨t, e⟩ := Value.isStrOf_shape (x := x) (v := v) h
    exact .inr ⟨x, t, rfl, e⟩
theorem keyIs_int (i : Int) (t : Tok) : keyIs (.inl i) (.int i t) = true := by simp [keyIs, Value.isInt]
theorem keyIs_str (x : Str) (t : Tok) : keyIs (.inr x) (.str x t) = true := by simp [keyIs, Value.isStrOf]
theorem key_ll (a b : Int) : decide ((Sum.inl a : Key) = Sum.inl b) = (a == b) := by
  by_cases e : a = b
  · subst e; simp
  · have h : ¬ (Sum.inl a : Key) = Sum.inl b := fun q => e (Sum.inl.inj q)
    rw [decide_eq_false h]
    exact (beq_eq_false_iff_ne.mpr e).symm
theorem key_rr (a b : Str) : decide ((Sum.inr a : Key) = Sum.inr b) = decide (a = b) := by
  by_cases e : a = b
  · subst e; simp
  · have h : ¬ (Sum.inr a : Key) = Sum.inr b := fun q => e (Sum.inr.inj q)
    rw [decide_eq_false h, decide_eq_false e]
theorem key_lr (a : Int) (b : Str) : decide ((Sum.inl a : Key) = Sum.inr b) = false := decide_eq_false (fun q => nomatch q)
theorem key_rl (a : Str) (b : Int) : decide ((Sum.inr a : Key) = Sum.inl b) = false := decide_eq_false (fun q => nomatch q)
noncomputable def mixKind (prog : Program) (w : World) : PySem.KeyKind prog w Key where
  is := keyIs
  hash := keyH w
  inj := fun v a b ha hb => by
    rcases keyIs_shape ha with ⟨i, t, rfl, rfl⟩ | ⟨x, t, rfl, rfl⟩
    · rcases keyIs_shape hb with ⟨j, u, rfl, e⟩ | ⟨y, u, rfl, e⟩
      · injection e with e1 _; rw [e1]
      · exact nomatch e
    · rcases keyIs_shape hb with ⟨j, u, rfl, e⟩ | ⟨y, u, rfl, e⟩
      · exact nomatch e
      · injection e with e1 _; rw [e1]
  byValue := fun k v h => by
    rcases keyIs_shape h with ⟨i, t, rfl, rfl⟩ | ⟨x, t, rfl, rfl⟩ <;> rfl
  pyHash := fun hv h => by
    rcases keyIs_shape hv with ⟨i, t, rfl, rfl⟩ | ⟨x, t, rfl, rfl⟩
    · exact wpAny_pyHash_int h
    · exact wpAny_pyHash_str h
  eqBool := fun hu hv h => by
    rcases keyIs_shape hu with ⟨i, t, rfl, rfl⟩ | ⟨x, t, rfl, rfl⟩
    · rcases keyIs_shape hv with ⟨j, u, rfl, rfl⟩ | ⟨y, u, rfl, rfl⟩
      · rw [key_ll] at h; exact wpAny_eqBool_int h
      · rw [key_lr] at h; exact SeqAt.EqAt.int_str i t y u _ _ _ _ h
    · rcases keyIs_shape hv with ⟨j, u, rfl, rfl⟩ | ⟨y, u, rfl, rfl⟩
      · rw [key_rl] at h; exact SeqAt.EqAt.str_int x t j u _ _ _ _ h
      · rw [key_rr] at h; exact wpAny_eqBool_str h
  «strs» := fun k x t v h => by
    rcases keyIs_shape h with ⟨i, u, rfl, e⟩ | ⟨y, u, rfl, e⟩
    · exact nomatch e
    · injection e with e1 _
      subst e1
      cases v <;> rfl
noncomputable def bInt (b : Bool) : Int := if b = true then 1 else 0
noncomputable def keyB : Key → Value → Bool
  | k, .bool b => decide (k = Sum.inl (bInt b))
  | k, v => keyIs k v
theorem keyB_shape {k : Key} {v : Value} (h : keyB k v = true) : (∃ i t, k = Sum.inl i ∧ v = Value.int i t) ∨ (∃ x t, k = Sum.inr x ∧ v = Value.str x t) ∨ ∃ b, k = Sum.inl (bInt b) ∧ v = Value.bool b := by
  by_cases hb : ∃ b, v = .bool b
  · obtain ⟨b, rfl⟩ := hb
    exact .inr (.inr ⟨b, of_decide_eq_true h, rfl⟩)
  · have e : keyB k v = keyIs k v := by
      cases v <;> first | rfl | exact absurd ⟨_, rfl⟩ hb
    rw [e] at h
    rcases keyIs_shape h with h | h
    · exact .inl h
    · exact .inr (.inl h)
theorem pyHash_bl {prog : Program} {w : World} {A : Around} {E : Value → Shared → Prop} {s : Shared} {b : Bool} {Q : Int → Shared → Prop} (h : Q (hashInt (bInt b)) { s with toks := s.toks + 1 }) :
    wpAny (model prog w) A (PySem.pyHash (.bool b)) Q E s := by
  refine PySem.W.pyHash_slot (v := .bool b) (T := "bool") rfl F.slot_bool_hash entry_int_hash (args_int_hash _) (beq_builtin_none _) (.inl rfl) ?_
  cases b
  · exact (show wpAny _ _ (do ret (← mkInt 0)) _ _ s from wpAny_bind (wpAny_mkInt (wpAny_pure ⟨_, _, rfl, h⟩)))
  · exact (show wpAny _ _ (do ret (← mkInt 1)) _ _ s from wpAny_bind (wpAny_mkInt (wpAny_pure ⟨_, _, rfl, h⟩)))
theorem bInt_beq (a b : Bool) : (bInt a == bInt b) = (a == b) := by cases a <;> cases b <;> rfl
noncomputable def mixB (prog : Program) (w : World) : PySem.KeyKind prog w Key where
  is := keyB
  hash := keyH w
  inj := fun v a b ha hb => by
    rcases keyB_shape ha with ⟨i, t, rfl, rfl⟩ | ⟨x, t, rfl, rfl⟩ | ⟨c, rfl, rfl⟩
    · rcases keyB_shape hb with ⟨j, u, rfl, e⟩ | ⟨y, u, rfl, e⟩ | ⟨d, rfl, e⟩
      · injection e with e1 _; rw [e1]
      · exact nomatch e
      · exact nomatch e
    · rcases keyB_shape hb with ⟨j, u, rfl, e⟩ | ⟨y, u, rfl, e⟩ | ⟨d, rfl, e⟩
      · exact nomatch e
      · injection e with e1 _; rw [e1]
      · exact nomatch e
    · rcases keyB_shape hb with ⟨j, u, rfl, e⟩ | ⟨y, u, rfl, e⟩ | ⟨d, rfl, e⟩
      · exact nomatch e
      · exact nomatch e
      · injection e with e1; rw [e1]
  byValue := fun k v h => by
    rcases keyB_shape h with ⟨i, t, rfl, rfl⟩ | ⟨x, t, rfl, rfl⟩ | ⟨b, rfl, rfl⟩ <;> rfl
  pyHash := fun hv h => by
    rcases keyB_shape hv with ⟨i, t, rfl, rfl⟩ | ⟨x, t, rfl, rfl⟩ | ⟨b, rfl, rfl⟩
    · exact wpAny_pyHash_int h
    · exact wpAny_pyHash_str h
    · exact pyHash_bl h
  eqBool := fun hu hv h => by
    rcases keyB_shape hu with ⟨i, t, rfl, rfl⟩ | ⟨x, t, rfl, rfl⟩ | ⟨b, rfl, rfl⟩
    · rcases keyB_shape hv with ⟨j, u, rfl, rfl⟩ | ⟨y, u, rfl, rfl⟩ | ⟨c, rfl, rfl⟩
      · rw [key_ll] at h; exact wpAny_eqBool_int h
      · rw [key_lr] at h; exact SeqAt.EqAt.int_str i t y u _ _ _ _ h
      · rw [key_ll] at h; exact SeqAt.EqAt.int_bool i t c _ _ _ _ h
    · rcases keyB_shape hv with ⟨j, u, rfl, rfl⟩ | ⟨y, u, rfl, rfl⟩ | ⟨c, rfl, rfl⟩
      · rw [key_rl] at h; exact SeqAt.EqAt.str_int x t j u _ _ _ _ h
      · rw [key_rr] at h; exact wpAny_eqBool_str h
      · rw [key_rl] at h; exact SeqAt.EqAt.str_bool x t c _ _ _ _ h
    · rcases keyB_shape hv with ⟨j, u, rfl, rfl⟩ | ⟨y, u, rfl, rfl⟩ | ⟨c, rfl, rfl⟩
      · rw [key_ll] at h; exact SeqAt.EqAt.bool_int b j u _ _ _ _ h
      · rw [key_lr] at h; exact SeqAt.EqAt.bool_str b y u _ _ _ _ h
      · rw [key_ll, bInt_beq] at h; exact SeqAt.EqAt.bool_bool b c _ _ _ _ h
  «strs» := fun k x t v h => by
    rcases keyB_shape h with ⟨i, u, rfl, e⟩ | ⟨y, u, rfl, e⟩ | ⟨b, rfl, e⟩
    · exact nomatch e
    · injection e with e1 _
      subst e1
      cases v <;> rfl
    · exact nomatch e
theorem mixKind_int (prog : Program) (w : World) (i : Int) (t : Tok) : (mixKind prog w).is (.inl i) (.int i t) = true := keyIs_int i t
theorem mixKind_str (prog : Program) (w : World) (x : Str) (t : Tok) : (mixKind prog w).is (.inr x) (.str x t) = true := keyIs_str x t
end L2
namespace L2
open PySem PySem.Spec PyProof.Rows
inductive V where
  | non | bl (b : Bool) | int (i : Int) | str (x : Str) | byt (b : Array UInt8) | flt (b : UInt64) | ref (a : Addr) | ty (n : String)
  deriving DecidableEq
noncomputable def RelV : V → Value → Prop
  | .non, u => u = Value.none
  | .bl b, u => u = Value.bool b
  | .int i, u => ∃ t, u = Value.int i t
  | .str x, u => ∃ t, u = Value.str x t
  | .byt b, u => ∃ t, u = Value.bytes b t
  | .flt b, u => ∃ t, u = Value.float b t
  | .ref a, u => u = Value.ref a
  | .ty n, u => u = Value.type n
noncomputable abbrev Vals : List V → List Value → Prop := Paired RelV
theorem Vals.length {xs : List V} {us : List Value} (r : Vals xs us) : xs.length = us.length := Paired.length r
theorem Vals.get : ∀ {xs : List V} {us : List Value} {i : Nat} {x : V}, Vals xs us → xs[i]? = some x → ∃ u, us[i]? = some u ∧ RelV x u
  | _, _, _, _, .nil, e => by simp at e
  | _, _, 0, _, .cons r _, e => by simp at e; subst e; exact ⟨_, rfl, r⟩
  | _, _, i + 1, x, .cons _ t, e => by
    obtain ⟨u, h1, h2⟩ := Vals.get (i := i) (x := x) t (by simpa using e)
    exact ⟨u, by simpa using h1, h2⟩
theorem Vals.set {x : V} {u : Value} (r : RelV x u) : ∀ {xs : List V} {us : List Value} (i : Nat), Vals xs us → Vals (xs.set i x) (us.set i u)
  | _, _, _, .nil => .nil
  | _, _, 0, .cons _ t => .cons r t
  | _, _, i + 1, .cons q t => .cons q (Vals.set r i t)
theorem Vals.append : ∀ {xs ys : List V} {us ws : List Value}, Vals xs us → Vals ys ws → Vals (xs ++ ys) (us ++ ws)
  | _, _, _, _, .nil, s => s
  | _, _, _, _, .cons r t, s => .cons r (Vals.append t s)
theorem Vals.take : ∀ {xs : List V} {us : List Value} (n : Nat), Vals xs us → Vals (xs.take n) (us.take n)
  | _, _, 0, _ => .nil
  | _, _, _ + 1, .nil => .nil
  | _, _, n + 1, .cons r t => .cons r (Vals.take n t)
theorem Vals.drop : ∀ {xs : List V} {us : List Value} (n : Nat), Vals xs us → Vals (xs.drop n) (us.drop n)
  | _, _, 0, r => r
  | _, _, _ + 1, .nil => .nil
  | _, _, n + 1, .cons _ t => Vals.drop n t
noncomputable def RelO : Option V → Option Value → Prop
  | some v, some u => RelV v u
  | none, none => True
  | _, _ => False
noncomputable def KV {κ : Type} : List (κ × V) → List (κ × Value) → Prop := Paired fun (p : κ × V) (q : κ × Value) => p.1 = q.1 ∧ RelV p.2 q.2
noncomputable def kV : Key → V
  | .inl i => .int i
  | .inr x => .str x
noncomputable def kB (k : Key) (v : V) : Prop := v = kV k ∨ ∃ b, v = .bl b ∧ k = Sum.inl (bInt b)
theorem kB_all : ∀ ks : List Key, Paired kB ks (ks.map kV)
  | [] => .nil
  | k :: ks => .cons (.inl rfl) (kB_all ks)
inductive HO where
  | lst (xs : List V)
  | tup (xs : List V)
  | dK (kvs : List (Key × V)) | dT (kvs : List (List Key × V))
  | set (S : Int → Bool) (n : Nat)
  | ins (C dx : Addr) (fs : List (Str × V))
  | own (x : Addr)
  | xd (fs : List (Str × V))
  | met (f x : Addr)
  | rng (lo hi : Int)
  | frz (o : Obj) (u : HO)
  | tbl (ps : Array Value)
  | ext (φ : Heap → Prop)
noncomputable abbrev Hp := Addr → Option HO
noncomputable def upd (H : Hp) (a : Addr) (o : HO) : Hp := fun b => if b = a then some o else H b
theorem upd_same {H : Hp} {a : Addr} {o : HO} : upd H a o a = some o := by unfold upd; rw [if_pos rfl]
theorem upd_ne {H : Hp} {a b : Addr} {o : HO} (h : b ≠ a) : upd H a o b = H b := by unfold upd; rw [if_neg h]
theorem upd_upd {H : Hp} {a : Addr} {o u : HO} : upd (upd H a o) a u = upd H a u := by
  funext b; unfold upd; split <;> rfl
theorem ne_of {H : Hp} {a b : Addr} {o u : HO} (h : H a = some o) (h' : H b = some u) (d : o ≠ u) : a ≠ b := by
  intro e; subst e; rw [h] at h'; exact d (Option.some.inj h')
theorem ne_of_none {H : Hp} {a b : Addr} {o : HO} (h : H a = some o) (h' : H b = none) : a ≠ b := by
  intro e; subst e; rw [h] at h'; cases h'
section
variable (P : Program) (w : World)
noncomputable def ObjOk (H : Hp) (h : Heap) (a : Addr) : HO → Prop
  | .lst xs => xs.length ≤ sizeLine ∧ ∃ (its : List Value) (n : Nat), Vals xs its ∧ h.get? a = some { cls := .type "list", data := .seq its.toArray n }
  | .tup xs => xs.length ≤ sizeLine ∧ ∃ its : List Value, Vals xs its ∧ IsTup h a its.toArray
  | .dK kvs => kvs.length ≤ sizeLine ∧ (a == sysModules) = false ∧ ∃ vs, KV kvs vs ∧ h.DictOf (mixKind P w) a vs
  | .dT kvs => kvs.length ≤ sizeLine ∧ (a == sysModules) = false ∧ ∃ xs : List (List Key × Addr × Value),
      Paired (fun (p : List Key × V) (q : List Key × Addr × Value) => p.1 = q.1 ∧ (∃ ys, H q.2.1 = some (.tup ys) ∧ Paired kB p.1 ys) ∧ RelV p.2 q.2.2) kvs xs ∧
      ∃ o es ep, h.get? a = some o ∧ o.ExactDict ∧ o.data = .dict es ep ∧ es.toList = xs.map (entryOfKey (tupleKind (mixB P w))) ∧ (xs.map (·.1)).Nodup
  | .set S n => h.SetOf (intKind P w) a S n
  | .ins C dx fs => H dx = some (.own a) ∧ fs.length ≤ 1000 ∧ dx ≠ a ∧ h.get? a = some (PySem.W.instObj C dx) ∧
      ∃ mA, h.Ns1 dx mA ∧ (∀ f, RelO (fs.lookup f) (mA f)) ∧ PySem.Within mA (fs.map (·.1))
  | .own _ => ∃ o, h.get? a = some o
  | .xd fs => ∃ mA, h.Ns1 a mA ∧ ∀ f, RelO (fs.lookup f) (mA f)
  | .rng lo hi => ∃ t u v, h.get? a = some { cls := .type "range", data := .fields #[.int lo t, .int hi u, .int 1 v] }
  | .frz o u => h.get? a = some o ∧ ObjOk H h a u
  | .tbl ps => h.get? a = some { cls := .none, data := .fields ps }
  | .met f x => h.get? a = some (PySem.W.methodObj (.ref f) (.ref x))
  | .ext φ => φ h ∧ (∃ o, h.get? a = some o) ∧ ∀ h1 h2 : Heap, φ h1 → (∀ o, h1.get? a = some o → h2.get? a = some o) → φ h2
noncomputable def HOk (H : Hp) (h : Heap) : Prop := ∀ a o, H a = some o → ObjOk P w H h a o
end
section
variable {P : Program} {w : World} {H H' : Hp} {h h' : Heap} {a : Addr} {o : HO}
theorem ObjOk.lt (x : ObjOk P w H h a o) : a < h.objs.size := by
  cases o with
  | lst xs => obtain ⟨_, _, _, _, e⟩ := x; exact Heap.lt_size e
  | tup xs => obtain ⟨_, _, _, p⟩ := x; exact p.lt
  | dK kvs => obtain ⟨_, _, _, _, o, _, _, e, _⟩ := x; exact Heap.lt_size e
  | dT kvs => obtain ⟨_, _, _, _, o, _, _, e, _⟩ := x; exact Heap.lt_size e
  | set S n => obtain ⟨o, _, _, _, e, _⟩ := x; exact Heap.lt_size e
  | ins C dx fs => obtain ⟨_, _, _, e, _⟩ := x; exact Heap.lt_size e
  | own y => obtain ⟨_, e⟩ := x; exact Heap.lt_size e
  | xd fs => obtain ⟨_, ⟨_, _, _, e, _⟩, _⟩ := x; exact Heap.lt_size e
  | rng lo hi => obtain ⟨_, _, _, e⟩ := x; exact Heap.lt_size e
  | frz ob u => obtain ⟨e, _⟩ := x; exact Heap.lt_size e
  | tbl ps => exact Heap.lt_size (show h.get? a = some _ from x)
  | met f y => exact Heap.lt_size (show h.get? a = some _ from x)
  | ext φ => obtain ⟨_, ⟨_, e⟩, _⟩ := x; exact Heap.lt_size e
theorem Paired.mapP {α β : Type} {F G : α → β → Prop} : ∀ {l₁ : List α} {l₂ : List β}, Paired F l₁ l₂ → (∀ a b, F a b → G a b) → Paired G l₁ l₂
  | _, _, .nil, _ => .nil
  | _, _, .cons r t, f => .cons (f _ _ r) (Paired.mapP t f)
theorem ObjOk.stay (x : ObjOk P w H h a o) (k : ∀ b u, (b = a ∨ H b = some (.own a)) → h.get? b = some u → h'.get? b = some u)
    (ho : ∀ b, H b = some (.own a) → H' b = some (.own a)) (ht : ∀ b xs, H b = some (.tup xs) → H' b = some (.tup xs)) : ObjOk P w H' h' a o := by
  induction o with
  | lst xs => obtain ⟨z, its, n, r, e⟩ := x; exact ⟨z, its, n, r, k _ _ (.inl rfl) e⟩
  | tup xs => obtain ⟨z, its, r, ob, e, c⟩ := x; exact ⟨z, its, r, ob, k _ _ (.inl rfl) e, c⟩
  | dK kvs => obtain ⟨z, y, vs, r, ob, es, ep, e, c⟩ := x; exact ⟨z, y, vs, r, ob, es, ep, k _ _ (.inl rfl) e, c⟩
  | dT kvs =>
    obtain ⟨z, y, xs, r, ob, es, ep, e, c⟩ := x
    exact ⟨z, y, xs, Paired.mapP r fun p q z => ⟨z.1, z.2.1.imp fun _ y => ⟨ht _ _ y.1, y.2⟩, z.2.2⟩, ob, es, ep, k _ _ (.inl rfl) e, c⟩
  | set S n => obtain ⟨ob, es, ep, t, e, c⟩ := x; exact ⟨ob, es, ep, t, k _ _ (.inl rfl) e, c⟩
  | ins C dx fs =>
    obtain ⟨d, z, ne, e, mA, ⟨od, es, ep, e2, c⟩, r⟩ := x
    exact ⟨ho _ d, z, ne, k _ _ (.inl rfl) e, mA, ⟨od, es, ep, k _ _ (.inr d) e2, c⟩, r⟩
  | own y => obtain ⟨ob, e⟩ := x; exact ⟨ob, k _ _ (.inl rfl) e⟩
  | xd fs => obtain ⟨mA, ⟨od, es, ep, e, c⟩, r⟩ := x; exact ⟨mA, ⟨od, es, ep, k _ _ (.inl rfl) e, c⟩, r⟩
  | rng lo hi => obtain ⟨t, u, v, e⟩ := x; exact ⟨t, u, v, k _ _ (.inl rfl) e⟩
  | frz ob u ih => obtain ⟨e, q⟩ := x; exact ⟨k _ _ (.inl rfl) e, ih q⟩
  | tbl ps =>
    have e : h.get? a = some { cls := .none, data := .fields ps } := x
    show h'.get? a = some { cls := .none, data := .fields ps }
    exact k a _ (.inl rfl) e
  | met f y =>
    have e : h.get? a = some (PySem.W.methodObj (.ref f) (.ref y)) := x
    show h'.get? a = some (PySem.W.methodObj (.ref f) (.ref y))
    exact k a _ (.inl rfl) e
  | ext φ => obtain ⟨p, ⟨o, e⟩, st⟩ := x; exact ⟨st _ _ p fun o q => k _ _ (.inl rfl) q, ⟨o, k _ _ (.inl rfl) e⟩, st⟩
theorem HOk.lt (x : HOk P w H h) (e : H a = some o) : a < h.objs.size := (x a o e).lt
theorem HOk.fresh (x : HOk P w H h) (e : h.objs.size ≤ a) : H a = none := by
  cases q : H a with
  | none => rfl
  | some u => exact absurd (Nat.lt_of_lt_of_le (x.lt q) e) (Nat.lt_irrefl _)
theorem HOk.kept (x : HOk P w H h) (k : ∀ b u, h.get? b = some u → h'.get? b = some u) : HOk P w H h' := fun a o e =>
  (x a o e).stay (fun b u _ q => k b u q) (fun _ q => q) fun _ _ q => q
theorem HOk.laid (x : HOk P w H h) (k : ∀ b u, h.get? b = some u → h'.get? b = some u) (hp : h.objs.size ≤ a) (new : ObjOk P w (upd H a o) h' a o) : HOk P w (upd H a o) h' := fun b u e => by
  have hn := x.fresh hp
  by_cases hb : b = a
  · subst hb; rw [upd_same] at e; cases e; exact new
  · rw [upd_ne hb] at e
    exact (x b u e).stay (fun c v _ q => k c v q) (fun c q => by rw [upd_ne (ne_of_none q hn)]; exact q) fun c xs q => by rw [upd_ne (ne_of_none q hn)]; exact q
end
noncomputable def Rd (H : Hp) (a : Addr) (u : HO) : Prop := H a = some u ∨ ∃ o, H a = some (.frz o u)
theorem Rd.of {H : Hp} {a : Addr} {u : HO} (h : H a = some u) : Rd H a u := .inl h
theorem Rd.ok {P : Program} {w : World} {H : Hp} {h : Heap} {a : Addr} {u : HO} (r : Rd H a u) (x : HOk P w H h) : ObjOk P w H h a u := by
  rcases r with r | ⟨o, r⟩
  · exact x a u r
  · obtain ⟨_, q⟩ := x a _ r
    exact q
noncomputable def Mut : Option HO → Prop
  | some (.lst _) => True
  | some (.dK _) => True
  | some (.dT _) => True
  | some (.set _ _) => True
  | some (.ins _ _ _) => True
  | some (.ext _) => True
  | _ => False
section
variable {P : Program} {w : World} {H : Hp} {h h' : Heap} {x e : Addr} {o' : HO}
theorem HOk.write (ok : HOk P w H h) (mu : Mut (H x)) (he : e = x ∨ H e = some (.own x)) (k : ∀ b u, b ≠ e → h.get? b = some u → h'.get? b = some u) (heo : ∃ u, h'.get? e = some u)
    (new : ObjOk P w (upd H x o') h' x o') : HOk P w (upd H x o') h' := fun b u q => by
  have nown : ∀ c y, H c = some (.own y) → c ≠ x := fun c y r z => by subst z; rw [r] at mu; exact mu
  have ntup : ∀ c xs, H c = some (.tup xs) → c ≠ x := fun c xs r z => by subst z; rw [r] at mu; exact mu
  by_cases hb : b = x
  · subst hb; rw [upd_same] at q; cases q; exact new
  · rw [upd_ne hb] at q
    by_cases hbe : b = e
    · have q' : H b = some (.own x) := by
        rcases he with z | z
        · exact absurd (hbe.trans z) hb
        · rw [hbe]; exact z
      rw [q] at q'; cases q'
      obtain ⟨v, hv⟩ := heo
      exact ⟨v, by rw [hbe]; exact hv⟩
    · refine (ok b u q).stay (fun c v hc r => k c v ?_ r) (fun c r => by rw [upd_ne (nown c b r)]; exact r) fun c xs r => by rw [upd_ne (ntup c xs r)]; exact r
      rcases hc with rfl | hc
      · exact hbe
      · rintro rfl
        rcases he with z | z
        · exact nown c b hc z
        · rw [hc] at z; cases z; exact hb rfl
end
structure Un (fs ex : List Addr) (H H' : Hp) (h h' : Heap) : Prop where
  keep : ∀ b o, h.get? b = some o → H b = none → b ∉ fs → b ∉ ex → h'.get? b = some o
  slot : ∀ b o, h.get? b = some o → H b = none → b ∈ fs → b ∉ ex → ∃ sl, h'.get? b = some { o with slots := sl }
  free : ∀ b o, h.get? b = some o → H b = none → b ∉ ex → H' b = none
  there : ∀ b o, h.get? b = some o → b ∉ ex → ∃ o', h'.get? b = some o'
  tups : ∀ b xs, H b = some (.tup xs) → H' b = some (.tup xs)
  frzs : ∀ b o u, H b = some (.frz o u) → H' b = some (.frz o u)
  tbls : ∀ b ps, H b = some (.tbl ps) → ∃ more, H' b = some (.tbl (ps ++ more))
section
variable {fs fs' ex ex' : List Addr} {H H1 H2 : Hp} {h h1 h2 h' : Heap} {a x e : Addr} {o : HO}
theorem Un.any (u : Un fs ex H H1 h h1) {b : Addr} {ob : Obj} (q : h.get? b = some ob) (n : H b = none) (hx : b ∉ ex) : ∃ sl, h1.get? b = some { ob with slots := sl } := by
  by_cases hb : b ∈ fs
  · exact u.slot b ob q n hb hx
  · exact ⟨ob.slots, u.keep b ob q n hb hx⟩
theorem Un.trans (a : Un fs ex H H1 h h1) (b : Un fs ex H1 H2 h1 h2) : Un fs ex H H2 h h2 where
  keep := fun c ob q n hc hx => b.keep c ob (a.keep c ob q n hc hx) (a.free c ob q n hx) hc hx
  slot := fun c ob q n hc hx => by
    obtain ⟨sl, e1⟩ := a.slot c ob q n hc hx
    obtain ⟨sl', e2⟩ := b.slot c _ e1 (a.free c ob q n hx) hc hx
    exact ⟨sl', e2⟩
  free := fun c ob q n hx => by
    obtain ⟨o', e1⟩ := a.there c ob q hx
    exact b.free c o' e1 (a.free c ob q n hx) hx
  there := fun c ob q hx => by
    obtain ⟨o', e1⟩ := a.there c ob q hx
    exact b.there c o' e1 hx
  tups := fun c xs q => b.tups c xs (a.tups c xs q)
  frzs := fun c ob xs q => b.frzs c ob xs (a.frzs c ob xs q)
  tbls := fun c ps q => by
    obtain ⟨m1, e1⟩ := a.tbls c ps q
    obtain ⟨m2, e2⟩ := b.tbls c _ e1
    exact ⟨m1 ++ m2, by rw [e2, Array.append_assoc]⟩
theorem Un.kept (k : ∀ b u, h.get? b = some u → h'.get? b = some u) : Un fs ex H H h h' :=
  ⟨fun b ob q _ _ _ => k b ob q, fun b ob q _ _ _ => ⟨ob.slots, k b ob q⟩, fun _ _ _ n _ => n, fun b ob q _ => ⟨ob, k b ob q⟩, fun _ _ q => q, fun _ _ _ q => q, fun _ ps q => ⟨#[], by rw [q]; simp⟩⟩
theorem Un.refl : Un fs ex H H h h := Un.kept fun _ _ q => q
theorem Un.laid (k : ∀ b u, h.get? b = some u → h'.get? b = some u) (hp : h.objs.size ≤ a) (hn : H a = none) : Un fs ex H (upd H a o) h h' where
  keep := fun b u q _ _ _ => k b u q
  slot := fun b u q _ _ _ => ⟨u.slots, k b u q⟩
  free := fun b u q n _ => by rw [upd_ne (Nat.ne_of_lt (Nat.lt_of_lt_of_le (Heap.lt_size q) hp))]; exact n
  there := fun b u q _ => ⟨u, k b u q⟩
  tups := fun b xs q => by rw [upd_ne (ne_of_none q hn)]; exact q
  frzs := fun b u xs q => by rw [upd_ne (ne_of_none q hn)]; exact q
  tbls := fun b ps q => ⟨#[], by rw [upd_ne (ne_of_none q hn), q]; simp⟩
theorem Un.write (mu : Mut (H x)) (he : e = x ∨ H e = some (.own x)) (k : ∀ b u, b ≠ e → h.get? b = some u → h'.get? b = some u) (heo : ∃ u, h'.get? e = some u) : Un fs ex H (upd H x o) h h' := by
  have hx : ∀ b, H b = none → b ≠ x := fun b n z => by subst z; rw [n] at mu; exact mu
  have hb : ∀ b, H b = none → b ≠ e := fun b n z => by
    subst z
    rcases he with r | r
    · exact hx b n r
    · rw [n] at r; cases r
  have hm : ∀ b u, H b = some u → ¬ Mut (some u) → b ≠ x := fun b u q nm z => by subst z; rw [q] at mu; exact nm mu
  refine ⟨fun b u q n _ _ => k b u (hb b n) q, fun b u q n _ _ => ⟨u.slots, k b u (hb b n) q⟩, fun b u q n _ => by rw [upd_ne (hx b n)]; exact n, fun b u q _ => ?_,
    fun b xs q => by rw [upd_ne (hm b _ q fun z => z)]; exact q, fun b u xs q => by rw [upd_ne (hm b _ q fun z => z)]; exact q, fun b ps q => ⟨#[], by rw [upd_ne (hm b _ q fun z => z), q]; simp⟩⟩
  by_cases hbe : b = e
  · subst hbe; exact heo
  · exact ⟨u, k b u hbe q⟩
end
noncomputable def trk (h : Heap) (H : Hp) : List Addr := (List.range h.objs.size).filter fun a => (H a).isSome
noncomputable def hidT (h : Heap) (H : Hp) : Heap := PySem.W.hideAll h (trk h H)
theorem hidT_size (h : Heap) (H : Hp) : (hidT h H).objs.size = h.objs.size := PySem.W.hideAll_size _ _
theorem hidT_get {h : Heap} {H : Hp} {b : Addr} {o : Obj} (e : h.get? b = some o) (n : H b = none) : (hidT h H).get? b = some o :=
  PySem.W.hideAll_get _ e fun hm => by
    have q : (H b).isSome = true := (List.mem_filter.mp hm).2
    rw [n] at q; simp at q
theorem of_hidT {h : Heap} {H : Hp} {b : Addr} {o : Obj} (e : (hidT h H).get? b = some o) : h.get? b = some o ∧ H b = none := by
  have e' : h.get? b = some o := PySem.W.of_hideAll (trk h H) e
  refine ⟨e', ?_⟩
  cases q : H b with
  | none => rfl
  | some x =>
    have hm : b ∈ trk h H := List.mem_filter.mpr ⟨List.mem_range.mpr (Heap.lt_size e'), by simp [q]⟩
    have z : (hidT h H).get? b = none := PySem.W.hideAll_none (trk h H) hm
    rw [z] at e; cases e
noncomputable def allNews (g h : Heap) (L : Addr) : List (Addr × Obj) := (List.range h.objs.size).filterMap fun a => if a = L ∨ (g.get? a).isSome = true then none else (h.get? a).map fun o => (a, o)
noncomputable def rest (g h : Heap) (L d : Addr) : List (Addr × Obj) := (allNews g h L).filter fun p => decide (p.1 ≠ d)
end L2
namespace L2
open PySem PySem.Spec PyProof.Rows
structure Mod (K : PySem.W.Frag) (mg : Str → Option Value) (base : Heap) : Prop where
  kin : K.In base
  glob : base.Ns mainGlobals mg
  blt : ∃ mb, base.Ns builtinsNs mb ∧ ∀ x : Str, x ≠ "__name__" → mb x = bootBuiltins x
  nolimit : base.NoLimit
structure Cx where
  prog : Program
  w : World
  K : PySem.W.Frag
  mg : Str → Option Value
  base : Heap
  A : Around
  N : List Str
  s₀ : Shared
  H₀ : Hp
  env : Env
  outer : List Env
  stack : List Env
  ex : List Addr
  fn : Str → Bool
  calm : Bool
  pn : List (Addr × Obj)
  xe : Value → Shared → Prop
noncomputable def frs (l : List Env) : List Addr := l.filterMap (·.frame)
noncomputable abbrev Cx.fs (X : Cx) : List Addr := frs X.outer
noncomputable def Vis (sc : Scope) (x : Str) : Prop := sc.names.lookup x = some .local ∨ sc.names.lookup x = some .cell ∨ sc.names.lookup x = some .free
noncomputable def Loc (sc : Scope) (x : Str) : Prop := sc.names.lookup x = some .local ∨ sc.names.lookup x = some .cell
noncomputable def Look (env : Env) (h : Heap) (m : Str → Option Value) (x : Str) (u : Value) : Prop :=
  (env.kindOf x = some .local ∧ m x = some u) ∨ ((env.kindOf x = some .cell ∨ env.kindOf x = some .free) ∧ ∃ c, env.cells.lookup x = some c ∧ h.IsCell c (some u))
structure Cx.Ok (X : Cx) : Prop where
  mod : Mod X.K X.mg X.base
  kind : X.env.scope.kind = .function
  glob : X.env.globals = mainGlobals
  blt : X.env.builtins = builtinsNs
  above : X.s₀.heap.objs.size ≤ X.env.locals
  inj : ∀ x y c, X.env.cells.lookup x = some c → X.env.cells.lookup y = some c → x = y
  has : ∀ x, (X.env.kindOf x = some .cell ∨ X.env.kindOf x = some .free) → ∃ c, X.env.cells.lookup x = some c
  cab : ∀ x c, X.fn x = true → X.env.cells.lookup x = some c → X.s₀.heap.objs.size ≤ c
  hd : X.calm = true → X.A.handled = none
  frames : X.A.frames = some X.stack
  stk : X.stack = X.outer ∨ (X.stack = X.env :: X.outer ∧ X.env.frame = some X.env.locals)
  exf : ∀ b ∈ X.ex, b ≠ X.env.locals ∧ ∀ x c, X.env.cells.lookup x = some c → c ≠ b
  bs : ∀ b o, X.base.get? b = some o → X.s₀.heap.get? b = some o ∧ X.H₀ b = none
  bsz : X.base.objs.size ≤ X.s₀.heap.objs.size
  noex : ∀ b o, X.base.get? b = some o → b ∉ X.ex
  exfs : ∀ b ∈ X.ex, b ∉ X.fs
  funs : X.s₀.heap.FunFrames X.base X.outer
  frf : ∀ b ∈ X.fs, X.H₀ b = none
structure Inv (X : Cx) (pins : List (Addr × Obj)) (σ : List (Option V)) (H : Hp) (s : Shared) : Prop where
  ok : X.Ok
  os : s.os = X.s₀.os
  bare : AllBare s.gens
  base : Un X.fs X.ex X.H₀ H X.s₀.heap s.heap
  loc : ∃ m, s.heap.Ns X.env.locals m ∧ ∀ (i : Nat) (x : Str) (v : V), X.N[i]? = some x → σ[i]? = some (some v) → Vis X.env.scope x → ∃ u, RelV v u ∧ Look X.env s.heap m x u
  cell : ∀ x c, X.env.cells.lookup x = some c → ∃ v, s.heap.IsCell c v
  free : H X.env.locals = none
  freeC : ∀ x c, X.env.cells.lookup x = some c → H c = none
  pin : ∀ p ∈ X.pn ++ pins, s.heap.get? p.1 = some p.2 ∧ H p.1 = none ∧ p.1 ≠ X.env.locals ∧ p.1 ∉ X.fs ∧ ∀ v, p.2.data ≠ .cell v
  hok : HOk X.prog X.w H s.heap
  len : σ.length = X.N.length
section
variable {X : Cx} {pins : List (Addr × Obj)} {σ : List (Option V)} {H H' : Hp} {s : Shared} {h' : Heap}
theorem Cx.Ok.nofr (ok : X.Ok) {b : Addr} {o : Obj} (e : X.base.get? b = some o) : b ∉ X.fs := fun hb => by
  have := (ok.funs.mem hb).1
  rw [e] at this; cases this
theorem Inv.bs (I : Inv X pins σ H s) : ∀ b o, X.base.get? b = some o → s.heap.get? b = some o ∧ H b = none := fun b o e =>
  ⟨I.base.keep b o (I.ok.bs b o e).1 (I.ok.bs b o e).2 (I.ok.nofr e) (I.ok.noex b o e), I.base.free b o (I.ok.bs b o e).1 (I.ok.bs b o e).2 (I.ok.noex b o e)⟩
theorem Inv.bk (I : Inv X pins σ H s) : ∀ b o, X.base.get? b = some o → s.heap.get? b = some o := fun b o e => (I.bs b o e).1
theorem Inv.mod (I : Inv X pins σ H s) : Mod X.K X.mg X.base := I.ok.mod
theorem Inv.kIn (I : Inv X pins σ H s) : X.K.In s.heap := I.ok.mod.kin.keeps I.bk
theorem Inv.lt (I : Inv X pins σ H s) : X.env.locals < s.heap.objs.size := let ⟨_, hn, _⟩ := I.loc; hn.lt
theorem Inv.sz (I : Inv X pins σ H s) : X.s₀.heap.objs.size ≤ s.heap.objs.size := Nat.le_trans I.ok.above (Nat.le_of_lt I.lt)
theorem Inv.nofs (I : Inv X pins σ H s) {a : Addr} (h : s.heap.objs.size ≤ a) : a ∉ X.fs := fun hb => by
  obtain ⟨_, o, ho, _⟩ := I.ok.funs.mem hb
  exact absurd (Nat.lt_of_lt_of_le (Heap.lt_size ho) (Nat.le_trans I.sz h)) (Nat.lt_irrefl _)
theorem Inv.cne (I : Inv X pins σ H s) : ∀ x c, X.env.cells.lookup x = some c → c ≠ X.env.locals := fun x c e z => by
  obtain ⟨v, o, ho, hd⟩ := I.cell x c e
  obtain ⟨m, ⟨o', es, ep, ho', hd', _⟩, _⟩ := I.loc
  rw [z, ho'] at ho; cases ho; rw [hd'] at hd; cases hd
theorem Inv.funs (I : Inv X pins σ H s) : s.heap.FunFrames X.base X.outer := by
  have all : ∀ (l : List Env), (∀ b ∈ frs l, b ∈ X.fs) → X.s₀.heap.FunFrames X.base l → s.heap.FunFrames X.base l := by
    intro l
    induction l with
    | nil => intro _ _; trivial
    | cons env r ih =>
      intro hs hl
      obtain ⟨hk, ⟨L, o, hf, hn, ho, hd⟩, hr⟩ := hl
      have hL : L ∈ X.fs := hs L (by unfold frs; rw [List.filterMap_cons, hf]; exact List.mem_cons_self)
      obtain ⟨sl, e⟩ := I.base.slot L o ho (I.ok.frf L hL) hL fun z => I.ok.exfs L z hL
      exact ⟨hk, ⟨L, _, hf, hn, e, hd⟩, ih (fun b hb => hs b (by unfold frs; rw [List.filterMap_cons, hf]; exact List.mem_cons_of_mem _ hb)) hr⟩
  exact all X.outer (fun _ hb => hb) I.ok.funs
theorem Inv.stack (I : Inv X pins σ H s) : s.heap.FunFrames X.base X.stack := by
  rcases I.ok.stk with e | ⟨e, hf⟩
  · rw [e]; exact I.funs
  · rw [e]
    obtain ⟨m, hn, _⟩ := I.loc
    refine .cons (by rw [I.ok.kind]; decide) hf hn ?_ I.funs
    exact Heap.get?_none_of_le (Nat.le_trans I.ok.bsz I.ok.above)
theorem Inv.stkSub (I : Inv X pins σ H s) : ∀ b ∈ frs X.stack, b ∈ X.env.locals :: X.fs := fun b hb => by
  rcases I.ok.stk with e | ⟨e, hf⟩
  · rw [e] at hb; exact List.mem_cons_of_mem _ hb
  · rw [e] at hb
    unfold frs at hb
    rw [List.filterMap_cons, hf] at hb
    exact hb
theorem Inv.stkFree (I : Inv X pins σ H s) : ∀ b ∈ frs X.stack, H b = none := fun b hb => by
  rcases List.mem_cons.mp (I.stkSub b hb) with e | hb
  · rw [e]; exact I.free
  · obtain ⟨_, o, ho, _⟩ := I.ok.funs.mem hb
    exact I.base.free b o ho (I.ok.frf b hb) fun z => I.ok.exfs b z hb
theorem Inv.step {g' : Array GenState} {t' : Nat} {d' : Drawn} {ch : List Addr} (I : Inv X pins σ H s)
    (hch : ∀ b ∈ ch, (b ∈ X.ex ∨ X.s₀.heap.objs.size ≤ b) ∧ b ≠ X.env.locals ∧ (∀ x c, X.env.cells.lookup x = some c → c ≠ b) ∧ ∀ p ∈ X.pn ++ pins, p.1 ≠ b)
    (keep : ∀ b o, b ≠ X.env.locals → b ∉ X.fs → b ∉ ch → s.heap.get? b = some o → H b = none → h'.get? b = some o)
    (slot : ∀ b o, b ≠ X.env.locals → b ∈ X.fs → b ∉ ch → s.heap.get? b = some o → H b = none → ∃ sl, h'.get? b = some { o with slots := sl }) (free : ∀ b o, b ∉ ch → s.heap.get? b = some o → H b = none → H' b = none)
    (there : ∀ b o, b ∉ ch → s.heap.get? b = some o → ∃ o', h'.get? b = some o')
    (tups : ∀ b xs, H b = some (.tup xs) → H' b = some (.tup xs)) (frzs : ∀ b o u, H b = some (.frz o u) → H' b = some (.frz o u)) (tbls : ∀ b ps, H b = some (.tbl ps) → ∃ more, H' b = some (.tbl (ps ++ more)))
    (ns : ∀ m, s.heap.Ns X.env.locals m → h'.Ns X.env.locals m) (hok : HOk X.prog X.w H' h') (hg : AllBare g') :
    Inv X pins σ H' { s with heap := h', gens := g', drawn := d', toks := t' } := by
  have neL : ∀ b o, X.s₀.heap.get? b = some o → b ≠ X.env.locals := fun b o e => Nat.ne_of_lt (Nat.lt_of_lt_of_le (Heap.lt_size e) I.ok.above)
  have neC : ∀ b o, X.s₀.heap.get? b = some o → b ∉ X.ex → b ∉ ch := fun b o e hx hb => by
    rcases (hch b hb).1 with z | z
    · exact hx z
    · exact absurd (Nat.lt_of_lt_of_le (Heap.lt_size e) z) (Nat.lt_irrefl _)
  have cellK : ∀ x c, X.env.cells.lookup x = some c → ∀ v, s.heap.IsCell c v → h'.IsCell c v := fun x c e v ⟨o, ho, hd⟩ => by
    have nch : c ∉ ch := fun z => (hch c z).2.2.1 x c e rfl
    by_cases hc : c ∈ X.fs
    · obtain ⟨sl, q⟩ := slot c o (I.cne x c e) hc nch ho (I.freeC x c e)
      exact ⟨_, q, hd⟩
    · exact ⟨o, keep c o (I.cne x c e) hc nch ho (I.freeC x c e), hd⟩
  refine ⟨I.ok, I.os, hg, ⟨fun b o e n hb hx => ?_, fun b o e n hb hx => ?_, fun b o e n hx => ?_, fun b o e hx => ?_, fun b xs e => tups b xs (I.base.tups b xs e), fun b o xs e => frzs b o xs (I.base.frzs b o xs e), fun b ps e => ?_⟩, ?_, fun x c e => ?_, ?_, fun x c e => ?_, fun p hp => ?_, hok, I.len⟩
  · exact keep b o (neL b o e) hb (neC b o e hx) (I.base.keep b o e n hb hx) (I.base.free b o e n hx)
  · obtain ⟨sl, e1⟩ := I.base.slot b o e n hb hx
    obtain ⟨sl', e2⟩ := slot b _ (neL b o e) hb (neC b o e hx) e1 (I.base.free b o e n hx)
    exact ⟨sl', e2⟩
  · obtain ⟨o', e1⟩ := I.base.there b o e hx
    exact free b o' (neC b o e hx) e1 (I.base.free b o e n hx)
  · obtain ⟨o', e1⟩ := I.base.there b o e hx
    exact there b o' (neC b o e hx) e1
  · obtain ⟨m1, e1⟩ := I.base.tbls b ps e
    obtain ⟨m2, e2⟩ := tbls b _ e1
    exact ⟨m1 ++ m2, by rw [e2, Array.append_assoc]⟩
  · obtain ⟨m, hn, hl⟩ := I.loc
    refine ⟨m, ns m hn, fun i x v e1 e2 e3 => ?_⟩
    obtain ⟨u, r, l⟩ := hl i x v e1 e2 e3
    refine ⟨u, r, ?_⟩
    rcases l with l | ⟨k, c, e, z⟩
    · exact .inl l
    · exact .inr ⟨k, c, e, cellK x c e _ z⟩
  · obtain ⟨v, z⟩ := I.cell x c e
    exact ⟨v, cellK x c e v z⟩
  · obtain ⟨m, ⟨o, _, _, ho, _⟩, _⟩ := I.loc
    exact free _ o (fun z => (hch _ z).2.1 rfl) ho I.free
  · obtain ⟨v, o, ho, hd⟩ := I.cell x c e
    exact free c o (fun z => (hch c z).2.2.1 x c e rfl) ho (I.freeC x c e)
  · obtain ⟨e, n, ne, nf, d⟩ := I.pin p hp
    have nch : p.1 ∉ ch := fun z => (hch p.1 z).2.2.2 p hp rfl
    exact ⟨keep p.1 p.2 ne nf nch e n, free p.1 p.2 nch e n, ne, nf, d⟩
theorem Inv.un {t' : Nat} (I : Inv X pins σ H s) (u : Un X.fs [] H H' s.heap h') (hok : HOk X.prog X.w H' h') : Inv X pins σ H' { s with heap := h', toks := t' } := by
  obtain ⟨m, ⟨o, es, ep, ho, r⟩, _⟩ := id I.loc
  obtain ⟨sl, hL⟩ := u.any ho I.free (by simp)
  exact I.step (g' := s.gens) (d' := s.drawn) (ch := []) (fun _ z => nomatch z) (fun b o _ hb _ e n => u.keep b o e n hb (by simp)) (fun b o _ hb _ e n => u.slot b o e n hb (by simp)) (fun b o _ e n => u.free b o e n (by simp)) (fun b o _ e => u.there b o e (by simp)) u.tups u.frzs u.tbls (fun m' hm => by
    obtain ⟨o', es', ep', ho', r'⟩ := hm
    rw [ho] at ho'; cases ho'
    exact ⟨_, es', ep', hL, r'⟩) hok I.bare
theorem Inv.call {g' : Array GenState} {t' : Nat} {d' : Drawn} {ch : List Addr} (I : Inv X pins σ H s) (u : Un (frs X.stack) ch H H' s.heap h') (hok : HOk X.prog X.w H' h') (hg : AllBare g')
    (hch : ∀ b ∈ ch, (b ∈ X.ex ∨ X.s₀.heap.objs.size ≤ b) ∧ b ≠ X.env.locals ∧ (∀ x c, X.env.cells.lookup x = some c → c ≠ b) ∧ ∀ p ∈ X.pn ++ pins, p.1 ≠ b) :
    Inv X pins σ H' { s with heap := h', gens := g', drawn := d', toks := t' } := by
  obtain ⟨m, ⟨o, es, ep, ho, r⟩, _⟩ := id I.loc
  obtain ⟨sl, hL⟩ := u.any ho I.free fun z => (hch _ z).2.1 rfl
  exact I.step (ch := ch) hch (fun b o hL hb hc e n => u.keep b o e n (fun z => (List.mem_cons.mp (I.stkSub b z)).elim hL hb) hc) (fun b o _ _ hc e n => u.any e n hc) (fun b o hc e n => u.free b o e n hc) (fun b o hc e => u.there b o e hc) u.tups u.frzs u.tbls (fun m' hm => by
    obtain ⟨o', es', ep', ho', r'⟩ := hm
    rw [ho] at ho'; cases ho'
    exact ⟨_, es', ep', hL, r'⟩) hok hg
theorem Inv.turned {t' : Nat} {it : Addr} (I : Inv X pins σ H s) (k : ∀ b o, b ≠ it → s.heap.get? b = some o → h'.get? b = some o) (hn : H it = none) (hL : it ≠ X.env.locals)
    (h1 : it ∈ X.ex ∨ X.s₀.heap.objs.size ≤ it) (h2 : ∀ x c, X.env.cells.lookup x = some c → c ≠ it) (h3 : ∀ p ∈ X.pn ++ pins, p.1 ≠ it) : Inv X pins σ H { s with heap := h', toks := t' } := by
  have nit : ∀ b u, H b = some u → b ≠ it := fun b u e z => by rw [z, hn] at e; cases e
  refine I.step (g' := s.gens) (d' := s.drawn) (ch := [it]) (fun b hb => ?_) (fun b o _ _ hc e _ => k b o (fun z => hc (by simp [z])) e) (fun b o _ _ hc e _ => ⟨o.slots, k b o (fun z => hc (by simp [z])) e⟩) (fun _ _ _ _ n => n)
    (fun b o hc e => ⟨o, k b o (fun z => hc (by simp [z])) e⟩) (fun _ _ e => e) (fun _ _ _ e => e) (fun b ps e => ⟨#[], by rw [e]; simp⟩) (fun m hm => ?_) (fun b u e => ?_) I.bare
  · have e : b = it := by simpa using hb
    subst e
    exact ⟨h1, hL, h2, h3⟩
  · obtain ⟨o, es, ep, ho, r⟩ := hm
    exact ⟨o, es, ep, k _ o (Ne.symm hL) ho, r⟩
  · refine (I.hok b u e).stay (fun c v hc q => k c v ?_ q) (fun _ q => q) fun _ _ q => q
    rcases hc with z | z
    · rw [z]; exact nit b u e
    · exact nit c _ z
theorem Inv.tok (I : Inv X pins σ H s) (t : Nat) : Inv X pins σ H { s with toks := t } := I.un (h' := s.heap) (t' := t) Un.refl I.hok
theorem Inv.kept {t' : Nat} (I : Inv X pins σ H s) (k : ∀ b u, s.heap.get? b = some u → h'.get? b = some u) : Inv X pins σ H { s with heap := h', toks := t' } := I.un (Un.kept k) (I.hok.kept k)
theorem Inv.laid {a : Addr} {o : HO} {t' : Nat} (I : Inv X pins σ H s) (k : ∀ b u, s.heap.get? b = some u → h'.get? b = some u) (hp : s.heap.objs.size ≤ a) (new : ObjOk X.prog X.w (upd H a o) h' a o) :
    Inv X pins σ (upd H a o) { s with heap := h', toks := t' } := I.un (Un.laid k hp (I.hok.fresh hp)) (I.hok.laid k hp new)
theorem Inv.write {x e : Addr} {o : HO} {t' : Nat} (I : Inv X pins σ H s) (mu : Mut (H x)) (he : e = x ∨ H e = some (.own x)) (k : ∀ b u, b ≠ e → s.heap.get? b = some u → h'.get? b = some u) (heo : ∃ u, h'.get? e = some u)
    (new : ObjOk X.prog X.w (upd H x o) h' x o) : Inv X pins σ (upd H x o) { s with heap := h', toks := t' } := I.un (Un.write mu he k heo) (I.hok.write mu he k heo new)
theorem Inv.pins_of {pins' : List (Addr × Obj)} (I : Inv X pins σ H s) (h : ∀ p ∈ pins', s.heap.get? p.1 = some p.2 ∧ H p.1 = none ∧ p.1 ≠ X.env.locals ∧ p.1 ∉ X.fs ∧ ∀ v, p.2.data ≠ .cell v) : Inv X pins' σ H s :=
  ⟨I.ok, I.os, I.bare, I.base, I.loc, I.cell, I.free, I.freeC, fun p hp => (List.mem_append.mp hp).elim (fun z => I.pin p (List.mem_append_left _ z)) (h p), I.hok, I.len⟩
theorem nodup_ix {N : List Str} (hN : N.Nodup) {i j : Nat} {x : Str} (a : N[i]? = some x) (b : N[j]? = some x) : i = j := by
  obtain ⟨h1, e1⟩ := List.getElem?_eq_some_iff.mp a
  obtain ⟨h2, e2⟩ := List.getElem?_eq_some_iff.mp b
  exact (List.getElem_inj hN).mp (e1.trans e2.symm)
theorem store_ok2 {M : Model} {A : Around} {E : Value → Shared → Prop} {i : Nat} {x : Str} {v : V} {u : Value} {Q : Unit → Shared → Prop} (I : Inv X pins σ H s) (hN : X.N.Nodup) (hi : X.N[i]? = some x) (hx : Loc X.env.scope x) (r : RelV v u)
    (h : ∀ s', Inv X pins (σ.set i (some v)) H s' → (∃ a, Heap.SameBut a s.heap s'.heap ∧ (a = X.env.locals ∨ X.env.cells.lookup x = some a)) → Q () s') (hf : X.fn x = true ∨ X.env.scope.names.lookup x = some .local := by first | exact .inl rfl | exact .inr rfl | assumption) : wpAny M A (storeName X.env x u) Q E s := by
  obtain ⟨m, hn, hl⟩ := id I.loc
  have hcls : (X.env.scope.kind == .class || (X.env.scope.kind == .module && X.env.locals != X.env.globals)) = false := by rw [I.ok.kind]; rfl
  have hiσ : i < σ.length := by rw [I.len]; exact (List.getElem?_eq_some_iff.mp hi).1
  have cne := I.cne
  have tracked : ∀ {a : Addr} {h' : Heap}, (∃ o, s.heap.get? a = some o ∧ H a = none) → Heap.SameBut a s.heap h' → HOk X.prog X.w H h' := fun {a h'} ha hs b ob e => by
    obtain ⟨_, _, hfree⟩ := ha
    refine (I.hok b ob e).stay (fun c w' hc q => (hs.2 c ?_).trans q) (fun _ q => q) fun _ _ q => q
    rintro rfl
    rcases hc with rfl | hc
    · rw [hfree] at e; cases e
    · rw [hfree] at hc; cases hc
  rcases hx with hk | hk
  · refine wpAny_storeName_local hk hn (fun h' hn' hs => ?_) hcls
    obtain ⟨oL, _, _, hoL, _⟩ := id hn
    refine h _ ⟨I.ok, I.os, I.bare, ⟨fun b o e n hb hx => ?_, fun b o e n hb hx => ?_, I.base.free, fun b o e hx => ?_, I.base.tups, I.base.frzs, I.base.tbls⟩, ⟨_, hn', fun j y v' e1 e2 e3 => ?_⟩, fun y c e => ?_, I.free, I.freeC, fun p hp => ?_, tracked ⟨oL, hoL, I.free⟩ hs, by simpa using I.len⟩ ⟨_, hs, .inl rfl⟩
    · exact (hs.2 b (Nat.ne_of_lt (Nat.lt_of_lt_of_le (Heap.lt_size e) I.ok.above))).trans (I.base.keep b o e n hb hx)
    · obtain ⟨sl, e1⟩ := I.base.slot b o e n hb hx
      exact ⟨sl, (hs.2 b (Nat.ne_of_lt (Nat.lt_of_lt_of_le (Heap.lt_size e) I.ok.above))).trans e1⟩
    · obtain ⟨o', e1⟩ := I.base.there b o e hx
      exact ⟨o', (hs.2 b (Nat.ne_of_lt (Nat.lt_of_lt_of_le (Heap.lt_size e) I.ok.above))).trans e1⟩
    · by_cases hj : j = i
      · subst hj
        rw [hi] at e1; cases e1
        rw [List.getElem?_set_self hiσ] at e2
        cases e2
        exact ⟨u, r, .inl ⟨hk, by simp⟩⟩
      · rw [List.getElem?_set_ne (Ne.symm hj)] at e2
        obtain ⟨u', r', q⟩ := hl j y v' e1 e2 e3
        refine ⟨u', r', ?_⟩
        rcases q with ⟨k, e⟩ | ⟨k, c, e, z⟩
        · refine .inl ⟨k, ?_⟩
          have : y ≠ x := fun e => hj (nodup_ix hN e1 (e ▸ hi))
          simp [this, e]
        · exact .inr ⟨k, c, e, z.sameBut hs (cne y c e)⟩
    · obtain ⟨w', z⟩ := I.cell y c e
      exact ⟨w', z.sameBut hs (cne y c e)⟩
    · obtain ⟨e, n, ne, nf, d⟩ := I.pin p hp
      exact ⟨(hs.2 p.1 ne).trans e, n, ne, nf, d⟩
  · have hfn : X.fn x = true := by
      rcases hf with z | z
      · exact z
      · rw [z] at hk; cases hk
    obtain ⟨c, hc⟩ := I.ok.has x (.inl hk)
    obtain ⟨w', z⟩ := I.cell x c hc
    refine wpAny_storeName_cell I.ok.kind hk hc z (fun h' hc' hs => ?_)
    obtain ⟨oc, hoc, hocd⟩ := id z
    refine h { s with heap := h' } ⟨I.ok, I.os, I.bare, ⟨fun b o e n hb hx => ?_, fun b o e n hb hx => ?_, I.base.free, fun b o e hx => ?_, I.base.tups, I.base.frzs, I.base.tbls⟩, ⟨m, hn.sameBut hs (Ne.symm (cne x c hc)), fun j y v' e1 e2 e3 => ?_⟩, fun y c' e => ?_, I.free, I.freeC, fun p hp => ?_, tracked ⟨oc, hoc, I.freeC x c hc⟩ hs, by simpa using I.len⟩ ⟨c, hs, .inr hc⟩
    · exact (hs.2 b (Nat.ne_of_lt (Nat.lt_of_lt_of_le (Heap.lt_size e) (I.ok.cab x c hfn hc)))).trans (I.base.keep b o e n hb hx)
    · obtain ⟨sl, e1⟩ := I.base.slot b o e n hb hx
      exact ⟨sl, (hs.2 b (Nat.ne_of_lt (Nat.lt_of_lt_of_le (Heap.lt_size e) (I.ok.cab x c hfn hc)))).trans e1⟩
    · obtain ⟨o', e1⟩ := I.base.there b o e hx
      exact ⟨o', (hs.2 b (Nat.ne_of_lt (Nat.lt_of_lt_of_le (Heap.lt_size e) (I.ok.cab x c hfn hc)))).trans e1⟩
    · by_cases hj : j = i
      · subst hj
        rw [hi] at e1; cases e1
        rw [List.getElem?_set_self hiσ] at e2
        cases e2
        exact ⟨u, r, .inr ⟨.inl hk, c, hc, hc'⟩⟩
      · rw [List.getElem?_set_ne (Ne.symm hj)] at e2
        obtain ⟨u', r', q⟩ := hl j y v' e1 e2 e3
        refine ⟨u', r', ?_⟩
        rcases q with q | ⟨k, c', e, z'⟩
        · exact .inl q
        · refine .inr ⟨k, c', e, z'.sameBut hs ?_⟩
          rintro rfl
          exact hj (nodup_ix hN e1 (I.ok.inj _ _ _ e hc ▸ hi))
    · by_cases hcc : c' = c
      · subst hcc; exact ⟨_, hc'⟩
      · obtain ⟨w2, z2⟩ := I.cell y c' e
        exact ⟨w2, z2.sameBut hs hcc⟩
    · obtain ⟨e, n, ne, nf, d⟩ := I.pin p hp
      refine ⟨(hs.2 p.1 ?_).trans e, n, ne, nf, d⟩
      intro q
      rw [q, hoc] at e
      have q' : oc = p.2 := Option.some.inj e
      exact d w' (by rw [← q']; exact hocd)
theorem store_ok {M : Model} {A : Around} {E : Value → Shared → Prop} {i : Nat} {x : Str} {v : V} {u : Value} {Q : Unit → Shared → Prop} (I : Inv X pins σ H s) (hN : X.N.Nodup) (hi : X.N[i]? = some x) (hx : Loc X.env.scope x) (r : RelV v u)
    (h : ∀ s', Inv X pins (σ.set i (some v)) H s' → Q () s') (hf : X.fn x = true ∨ X.env.scope.names.lookup x = some .local := by first | exact .inl rfl | exact .inr rfl | assumption) : wpAny M A (storeName X.env x u) Q E s :=
  store_ok2 I hN hi hx r (fun s' I' _ => h s' I') hf
theorem Inv.call' {s' : Shared} {ch : List Addr} (I : Inv X pins σ H s) (ho : s'.os = s.os) (u : Un (frs X.stack) ch H H' s.heap s'.heap) (hok : HOk X.prog X.w H' s'.heap) (hg : AllBare s'.gens)
    (hch : ∀ b ∈ ch, (b ∈ X.ex ∨ X.s₀.heap.objs.size ≤ b) ∧ b ≠ X.env.locals ∧ (∀ x c, X.env.cells.lookup x = some c → c ≠ b) ∧ ∀ p ∈ X.pn ++ pins, p.1 ≠ b) : Inv X pins σ H' s' := by
  obtain ⟨h', g', d', t', o'⟩ := s'
  have e : o' = s.os := ho
  subst e
  exact I.call (g' := g') (t' := t') (d' := d') u hok hg hch
end
noncomputable abbrev XK := Value → Option Addr → Hp → Prop
noncomputable abbrev St := List (Option V)
noncomputable abbrev VK := V → Hp → Prop
noncomputable abbrev TE := St → Hp → VK → Prop
noncomputable abbrev TT := St → Hp → (Bool → Hp → Prop) → Prop
noncomputable abbrev TA := St → Hp → (List V → Hp → Prop) → Prop
structure Ends where
  nx : St → Hp → Prop
  rt : VK
  bk : St → Hp → Prop := fun _ _ => False
  ct : St → Hp → Prop := fun _ _ => False
noncomputable abbrev TS := Ends → St → Hp → Prop
noncomputable def EP (X : Cx) (pins : List (Addr × Obj)) (σ : St) (Q : VK) (u : Value) (s' : Shared) : Prop := ∃ v H', Inv X pins σ H' s' ∧ RelV v u ∧ Q v H'
noncomputable def TP (X : Cx) (pins : List (Addr × Obj)) (σ : St) (Q : Bool → Hp → Prop) (b : Bool) (s' : Shared) : Prop := ∃ H', Inv X pins σ H' s' ∧ Q b H'
noncomputable def AP (X : Cx) (pins : List (Addr × Obj)) (σ : St) (Q : List V → Hp → Prop) (us : List Value) (s' : Shared) : Prop := ∃ vs H', Inv X pins σ H' s' ∧ Vals vs us ∧ Q vs H'
noncomputable def SP (X : Cx) (pins : List (Addr × Obj)) (D : Ends) (f : Flow) (s' : Shared) : Prop :=
  match f with
  | .next => ∃ σ' H', Inv X pins σ' H' s' ∧ D.nx σ' H'
  | .brk => ∃ σ' H', Inv X pins σ' H' s' ∧ D.bk σ' H'
  | .cont => ∃ σ' H', Inv X pins σ' H' s' ∧ D.ct σ' H'
  | .ret u => ∃ v σ' H', Inv X pins σ' H' s' ∧ RelV v u ∧ D.rt v H'
noncomputable def PE (X : Cx) (e : Expr) (t : TE) : Prop :=
  ∀ (pins : List (Addr × Obj)) (s : Shared) (σ : St) (H : Hp) (Q : VK), Inv X pins σ H s → t σ H Q → wpAny (model X.prog X.w) X.A (eval e X.env) (EP X pins σ Q) X.xe s
noncomputable def PT (X : Cx) (e : Expr) (t : TT) : Prop :=
  ∀ (pins : List (Addr × Obj)) (s : Shared) (σ : St) (H : Hp) (Q : Bool → Hp → Prop), Inv X pins σ H s → t σ H Q → wpAny (model X.prog X.w) X.A (isTrue e X.env (eval e X.env)) (TP X pins σ Q) X.xe s
noncomputable def PW (X : Cx) (e : Expr) (t : TT) : Prop :=
  ∀ (whole : Sem Value) (pins : List (Addr × Obj)) (s : Shared) (σ : St) (H : Hp) (Q : Bool → Hp → Prop), Inv X pins σ H s → t σ H Q → wpAny (model X.prog X.w) X.A (isTrue e X.env whole) (TP X pins σ Q) X.xe s
theorem PW.pt {X : Cx} {e : Expr} {t : TT} (h : PW X e t) : PT X e t := h _
noncomputable def PA (X : Cx) (es : List Expr) (t : TA) : Prop :=
  ∀ (pos : Pos) (pins : List (Addr × Obj)) (s : Shared) (σ : St) (H : Hp) (Q : List V → Hp → Prop), Inv X pins σ H s → t σ H Q → wpAny (model X.prog X.w) X.A (spliced (backTo pos (starEach es X.env))) (AP X pins σ Q) X.xe s
noncomputable def PS (X : Cx) (st : Stmt) (t : TS) : Prop :=
  ∀ (pins : List (Addr × Obj)) (s : Shared) (σ : St) (H : Hp) (D : Ends), Inv X pins σ H s → t D σ H → wpAny (model X.prog X.w) X.A (exec st X.env) (SP X pins D) X.xe s
noncomputable def PSs (X : Cx) (st : List Stmt) (t : TS) : Prop :=
  ∀ (pins : List (Addr × Obj)) (s : Shared) (σ : St) (H : Hp) (D : Ends), Inv X pins σ H s → t D σ H → wpAny (model X.prog X.w) X.A (execs st X.env) (SP X pins D) X.xe s
theorem thn {α : Type} {t : Sem α} {Q Q' : α → Shared → Prop} {M : Model} {A : Around} {E : Value → Shared → Prop} {s : Shared} (h : wpAny M A t Q E s) (hQ : ∀ a s, Q a s → Q' a s) : wpAny M A t Q' E s := wpAny_mono h hQ fun _ _ x => x
end L2
namespace L2
open PySem PySem.Spec PyProof.Rows
section
variable {X : Cx}
noncomputable def tVar (i : Nat) : TE := fun σ H Q => ∃ v, σ[i]? = some (some v) ∧ Q v H
noncomputable def tC (v : V) : TE := fun _ H Q => Q v H
theorem pe_var {i : Nat} {x : Str} {pos : Pos} (hN : X.N[i]? = some x) (hv : Vis X.env.scope x) (hd : (x == ("__debug__" : Str)) = false := by decide) (hcd : (x == ("__classdict__" : Str)) = false := by decide) : PE X (.Name x pos) (tVar i) := by
  intro pins s σ H Q I h
  obtain ⟨v, e, h⟩ := h
  obtain ⟨m, hn, hl⟩ := I.loc
  obtain ⟨u, r, l⟩ := hl i x v hN e hv
  have fin : EP X pins σ Q u s := ⟨v, H, I, r, h⟩
  rcases l with ⟨hk, hm⟩ | ⟨hk, c, hc, hcell⟩
  · exact wpAny_Name (wpAny_loadName_local I.ok.kind hk hn hm fin) hd
  · rcases hk with hk | hk
    · exact wpAny_Name (wpAny_loadName_cell I.ok.kind hk hc hcell fin) hd
    · exact wpAny_Name (wpAny_loadName_free I.ok.kind hk hc hcell fin hcd) hd
theorem pe_int {i j pos} : PE X (.Constant (.int i) j pos) (tC (.int i)) := fun _ _ _ H _ I h => wpAny_Constant_int ⟨.int i, H, I.tok _, ⟨_, rfl⟩, h⟩
theorem pe_bl {b j pos} : PE X (.Constant (.bool b) j pos) (tC (.bl b)) := fun _ _ _ H _ I h => Constant_bool ⟨.bl b, H, I, rfl, h⟩
theorem pe_non {j pos} : PE X (.Constant .none j pos) (tC .non) := fun _ _ _ H _ I h => Constant_none ⟨.non, H, I, rfl, h⟩
theorem pe_str {x j pos} : PE X (.Constant (.str x) j pos) (tC (.str x)) := fun _ _ _ H _ I h => Calls.Constant_str ⟨.str x, H, I.tok _, ⟨_, rfl⟩, h⟩
noncomputable def Gl (X : Cx) (x : Str) : Prop := X.env.kindOf x = some .globalImplicit
theorem ld_glob {E : Value → Shared → Prop} {pins : List (Addr × Obj)} {s : Shared} {σ : St} {H : Hp} {x : Str} {u : Value} {pos : Pos} {Q : Value → Shared → Prop} (I : Inv X pins σ H s) (hg : Gl X x) (hm : X.mg x = some u) (h : Q u s)
    (hd : (x == ("__debug__" : Str)) = false := by decide) : wpAny (model X.prog X.w) X.A (eval (.Name x pos) X.env) Q E s :=
  Calls.Name_function_global I.ok.kind hg (Calls.loadGlobal_global (by rw [I.ok.glob]; exact I.mod.glob.keeps I.bk) hm h) hd
theorem ld_blt {E : Value → Shared → Prop} {pins : List (Addr × Obj)} {s : Shared} {σ : St} {H : Hp} {x : Str} {u : Value} {pos : Pos} {Q : Value → Shared → Prop} (I : Inv X pins σ H s) (hg : Gl X x) (hm : X.mg x = none) (hv : bootBuiltins x = some u) (h : Q u s)
    (hn : x ≠ "__name__" := by decide) (hd : (x == ("__debug__" : Str)) = false := by decide) : wpAny (model X.prog X.w) X.A (eval (.Name x pos) X.env) Q E s := by
  obtain ⟨mb, h1, h2⟩ := I.mod.blt
  exact Calls.Name_function_global I.ok.kind hg (Calls.loadGlobal_builtin (by rw [I.ok.glob]; exact I.mod.glob.keeps I.bk) hm (by rw [I.ok.blt]; exact h1.keeps I.bk) ((h2 x hn).trans hv) h) hd
theorem pe_glob {x : Str} {v : V} {u : Value} {pos : Pos} (hg : Gl X x) (hm : X.mg x = some u) (r : RelV v u) (hd : (x == ("__debug__" : Str)) = false := by decide) : PE X (.Name x pos) (tC v) :=
  fun _ _ _ H _ I h => ld_glob I hg hm ⟨v, H, I, r, h⟩ hd
theorem pe_bltn {x : Str} {v : V} {u : Value} {pos : Pos} (hg : Gl X x) (hm : X.mg x = none) (hv : bootBuiltins x = some u) (r : RelV v u) (hn : x ≠ "__name__" := by decide) (hd : (x == ("__debug__" : Str)) = false := by decide) : PE X (.Name x pos) (tC v) :=
  fun _ _ _ H _ I h => ld_blt I hg hm hv ⟨v, H, I, r, h⟩ hn hd
variable {a b : Expr} {ta tb : TE} {pos : Pos}
noncomputable def PC (X : Cx) (op : CmpOp) (a b : Expr) (t : TE) : Prop :=
  ∀ (pins : List (Addr × Obj)) (s : Shared) (σ : St) (H : Hp) (Q : VK), Inv X pins σ H s → t σ H Q →
    wpAny (model X.prog X.w) X.A (eval a X.env) (fun v s₁ => wpAny (model X.prog X.w) X.A (eval b X.env) (fun u s₂ => wpAny (model X.prog X.w) X.A (compareOp op v u) (EP X pins σ Q) X.xe s₂) X.xe s₁) X.xe s
theorem nobehind (b : Expr) {op : CmpOp} (h : op ≠ .In) (h2 : op ≠ .NotIn) : behindInMarks op b = false := by
  have e1 : (op == CmpOp.In) = false := by cases op <;> first | rfl | exact absurd rfl h
  have e2 : (op == CmpOp.NotIn) = false := by cases op <;> first | rfl | exact absurd rfl h2
  cases b <;> simp [behindInMarks, e1, e2]
noncomputable def tB (t : TE) : TT := fun σ H Q => t σ H fun x H1 => ∃ c, x = .bl c ∧ Q c H1
theorem pe_cmp {op : CmpOp} {t : TE} (h : PC X op a b t) (h1 : behindInMarks op b = false := by first | exact nobehind _ (by decide) (by decide) | rfl) : PE X (.Compare a [op] [b] pos) t := fun pins s σ H Q I hw => wpAny_Compare1 (h pins s σ H Q I hw) h1
theorem pt_cmp {op : CmpOp} {t : TE} (h : PC X op a b t) (h1 : behindInMarks op b = false := by first | exact nobehind _ (by decide) (by decide) | rfl) : PT X (.Compare a [op] [b] pos) (tB t) := by
  intro pins s σ H Q I hw
  refine wpAny_isTrue_Compare1 (thn (h pins s σ H _ I hw) fun v s1 h1 => thn h1 fun u s2 h2 => thn h2 fun c s3 ⟨x, H1, I1, r1, q1⟩ => ?_) h1
  obtain ⟨d, rfl, q⟩ := q1
  cases r1
  exact wpAny_truthy_bool ⟨H1, I1, q⟩
theorem pt_val {e : Expr} {t : TE} (h : PE X e t) (he : ∀ whole, isTrue e X.env whole = (do let v ← whole; standAt e.pos; holding [v] (truthy v)) := by intro _; rfl) : PT X e (tB t) := by
  intro pins s σ H Q I hw
  refine isTrue_plain (thn (h pins s σ H _ I hw) fun v s1 ⟨x, H1, I1, r1, q1⟩ => ?_) (he _)
  obtain ⟨d, rfl, q⟩ := q1
  cases r1
  exact wpAny_truthy_bool ⟨H1, I1, q⟩
variable {tA tB' : TT} {rest : List Expr}
noncomputable def tAnd (t u : TT) : TT := fun σ H Q => t σ H fun c H1 => if c = true then u σ H1 Q else Q false H1
noncomputable def tOr (t u : TT) : TT := fun σ H Q => t σ H fun c H1 => if c = true then Q true H1 else u σ H1 Q
noncomputable def tNot (t : TT) : TT := fun σ H Q => t σ H fun c H1 => Q (!c) H1
theorem pw_and1 (ha : PT X a tA) : PW X (.BoolOp .And [a] pos) tA := by
  intro wh pins s σ H Q I h
  refine isTrue_and (thn (ha pins s σ H Q I h) fun c s1 e => ?_)
  cases c with
  | true => exact isTrue_and_nil e
  | false => exact e
theorem pw_or1 (ha : PT X a tA) : PW X (.BoolOp .Or [a] pos) tA := by
  intro wh pins s σ H Q I h
  refine isTrue_or (thn (ha pins s σ H Q I h) fun c s1 e => ?_)
  cases c with
  | false => exact isTrue_or_nil e
  | true => exact e
theorem pw_and (ha : PT X a tA) (hb : PW X (.BoolOp .And (b :: rest) pos) tB') : PW X (.BoolOp .And (a :: b :: rest) pos) (tAnd tA tB') := by
  intro wh pins s σ H Q I h
  refine isTrue_and (thn (ha pins s σ H _ I h) fun c s1 ⟨H1, I1, q1⟩ => ?_)
  cases c with
  | true => exact hb wh pins s1 σ H1 Q I1 q1
  | false => exact ⟨H1, I1, q1⟩
theorem pw_or (ha : PT X a tA) (hb : PW X (.BoolOp .Or (b :: rest) pos) tB') : PW X (.BoolOp .Or (a :: b :: rest) pos) (tOr tA tB') := by
  intro wh pins s σ H Q I h
  refine isTrue_or (thn (ha pins s σ H _ I h) fun c s1 ⟨H1, I1, q1⟩ => ?_)
  cases c with
  | true => exact ⟨H1, I1, q1⟩
  | false => exact hb wh pins s1 σ H1 Q I1 q1
theorem pt_not (ha : PT X a tA) : PT X (.UnaryOp .Not a pos) (tNot tA) := by
  intro pins s σ H Q I h
  exact isTrue_not (ha pins s σ H (fun c H1 => Q (!c) H1) I h)
noncomputable def tAndV (ta tb : TE) : TE := fun σ H Q => ta σ H fun x H1 => ∃ c, x = .bl c ∧ if c = true then tb σ H1 Q else Q (.bl false) H1
noncomputable def tOrV (ta tb : TE) : TE := fun σ H Q => ta σ H fun x H1 => ∃ c, x = .bl c ∧ if c = true then Q (.bl true) H1 else tb σ H1 Q
noncomputable def tNotV (ta : TE) : TE := fun σ H Q => ta σ H fun x H1 => ∃ c, x = .bl c ∧ Q (.bl (!c)) H1
theorem pe_one {op} {t : TE} (h : PE X a t) : PE X (.BoolOp op [a] pos) t := fun pins s σ H Q I hw => BoolOp_one (h pins s σ H Q I hw)
theorem pe_and (ha : PE X a ta) (hb : PE X (.BoolOp .And (b :: rest) pos) tb) : PE X (.BoolOp .And (a :: b :: rest) pos) (tAndV ta tb) := by
  intro pins s σ H Q I h
  refine BoolOp_and (thn (ha pins s σ H _ I h) fun v s1 ⟨x, H1, I1, r1, q1⟩ => ?_)
  obtain ⟨c, rfl, q1⟩ := q1
  cases r1
  refine wpAny_truthy_bool ?_
  cases c with
  | true => exact hb pins s1 σ H1 Q I1 q1
  | false => exact ⟨.bl false, H1, I1, rfl, q1⟩
theorem pe_or (ha : PE X a ta) (hb : PE X (.BoolOp .Or (b :: rest) pos) tb) : PE X (.BoolOp .Or (a :: b :: rest) pos) (tOrV ta tb) := by
  intro pins s σ H Q I h
  refine BoolOp_or (thn (ha pins s σ H _ I h) fun v s1 ⟨x, H1, I1, r1, q1⟩ => ?_)
  obtain ⟨c, rfl, q1⟩ := q1
  cases r1
  refine wpAny_truthy_bool ?_
  cases c with
  | false => exact hb pins s1 σ H1 Q I1 q1
  | true => exact ⟨.bl true, H1, I1, rfl, q1⟩
theorem pe_not (ha : PE X a ta) : PE X (.UnaryOp .Not a pos) (tNotV ta) := by
  intro pins s σ H Q I h
  refine UnaryOp_ (thn (ha pins s σ H _ I h) fun v s1 ⟨x, H1, I1, r1, q1⟩ => ?_)
  obtain ⟨c, rfl, q1⟩ := q1
  cases r1
  exact not_of (wpAny_truthy_bool ⟨.bl (!c), H1, I1, rfl, q1⟩)
noncomputable def tIf (t : TT) (ta tb : TE) : TE := fun σ H Q => t σ H fun c H1 => if c = true then ta σ H1 Q else tb σ H1 Q
end
end L2
namespace L2
open PySem PySem.Spec PyProof.Rows
noncomputable def SqL (K : PySem.W.Frag) (H : Hp) (a : Addr) (xs : List V) : Prop :=
  Rd H a (.lst xs) ∨
    ∃ (o : Obj) (its : Array Value) (n : Nat), K.lookup a = some o ∧ o.cls = .type "list" ∧ o.dict = none ∧ o.data = .seq its n ∧ its.size ≤ sizeLine ∧ Vals xs its.toList
noncomputable def SqT (K : PySem.W.Frag) (H : Hp) (a : Addr) (xs : List V) : Prop :=
  Rd H a (.tup xs) ∨
    ∃ (o : Obj) (its : Array Value) (n : Nat), K.lookup a = some o ∧ o.cls = .type "tuple" ∧ o.data = .seq its n ∧ its.size ≤ sizeLine ∧ Vals xs its.toList
noncomputable def absV : Value → Option V
  | .none => some .non
  | .bool b => some (.bl b)
  | .int i _ => some (.int i)
  | .str x _ => some (.str x)
  | .bytes b _ => some (.byt b)
  | .float b _ => some (.flt b)
  | .ref a => some (.ref a)
  | .type n => some (.ty n)
  | _ => none
theorem RelV.abs {x : V} {u : Value} (r : RelV x u) : absV u = some x := by
  cases x with
  | non => cases r; rfl
  | bl _ => cases r; rfl
  | int _ => obtain ⟨t, rfl⟩ := r; rfl
  | str _ => obtain ⟨t, rfl⟩ := r; rfl
  | byt _ => obtain ⟨t, rfl⟩ := r; rfl
  | flt _ => obtain ⟨t, rfl⟩ := r; rfl
  | ref _ => cases r; rfl
  | ty _ => cases r; rfl
theorem RelV.inj {x y : V} {u : Value} (r : RelV x u) (q : RelV y u) : x = y := Option.some.inj (r.abs.symm.trans q.abs)
theorem Vals.inj : ∀ {xs ys : List V} {us : List Value}, Vals xs us → Vals ys us → xs = ys
  | _, _, _, .nil, .nil => rfl
  | _, _, _, .cons r t, .cons r' t' => by rw [r.inj r', Vals.inj t t']
section
variable {X : Cx} {pins : List (Addr × Obj)} {σ : St} {H : Hp} {s : Shared} {a : Addr} {xs ys : List V}
theorem SqL.of {K : PySem.W.Frag} (h : H a = some (.lst xs)) : SqL K H a xs := .inl (.inl h)
theorem SqT.of {K : PySem.W.Frag} (h : H a = some (.tup xs)) : SqT K H a xs := .inl (.inl h)
theorem Inv.list (I : Inv X pins σ H s) (h : SqL X.K H a xs) : ∃ its : List Value, Vals xs its ∧ PlainL s.heap a its.toArray ∧ xs.length ≤ sizeLine := by
  rcases h with h | ⟨o, its, n, hk, hc, hd, hs, hz, r⟩
  · obtain ⟨z, its, n, r, e⟩ := h.ok I.hok
    exact ⟨its, r, ⟨_, n, e, rfl, rfl, rfl⟩, z⟩
  · refine ⟨its.toList, r, ⟨o, n, I.kIn a o hk, hc, hd, by simpa using hs⟩, ?_⟩
    have e := r.length
    simp only [Array.length_toList] at e
    omega
theorem Inv.tuple (I : Inv X pins σ H s) (h : SqT X.K H a xs) : ∃ its : List Value, Vals xs its ∧ IsTup s.heap a its.toArray ∧ xs.length ≤ sizeLine := by
  rcases h with h | ⟨o, its, n, hk, hc, hs, hz, r⟩
  · obtain ⟨z, its, r, p⟩ := h.ok I.hok
    exact ⟨its, r, p, z⟩
  · refine ⟨its.toList, r, ⟨o, I.kIn a o hk, hc, n, by simpa using hs⟩, ?_⟩
    have e := r.length
    simp only [Array.length_toList] at e
    omega
theorem Inv.list_inj (I : Inv X pins σ H s) (h : SqL X.K H a xs) (h' : SqL X.K H a ys) : xs = ys := by
  obtain ⟨its, r, ⟨o, n, e, _, _, d⟩, _⟩ := I.list h
  obtain ⟨its', r', ⟨o', n', e', _, _, d'⟩, _⟩ := I.list h'
  rw [e] at e'; cases e'
  rw [d] at d'
  injection d' with d1 _
  have : its = its' := by simpa using congrArg Array.toList d1
  subst this
  exact r.inj r'
end
noncomputable abbrev Cx.wish (X : Cx) (E : Value → Shared → Prop) : Cx := { X with xe := E }
noncomputable abbrev Cx.nox (X : Cx) : Cx := X.wish fun _ _ => False
theorem Cx.Ok.wish {X : Cx} (ok : X.Ok) (E : Value → Shared → Prop) : (X.wish E).Ok :=
  ⟨ok.mod, ok.kind, ok.glob, ok.blt, ok.above, ok.inj, ok.has, ok.cab, ok.hd, ok.frames, ok.stk, ok.exf, ok.bs, ok.bsz, ok.noex, ok.exfs, ok.funs, ok.frf⟩
theorem Cx.Ok.unwish {X : Cx} {E : Value → Shared → Prop} (ok : (X.wish E).Ok) : X.Ok :=
  ⟨ok.mod, ok.kind, ok.glob, ok.blt, ok.above, ok.inj, ok.has, ok.cab, ok.hd, ok.frames, ok.stk, ok.exf, ok.bs, ok.bsz, ok.noex, ok.exfs, ok.funs, ok.frf⟩
section
variable {X : Cx} {pins : List (Addr × Obj)} {σ : St} {H : Hp} {s : Shared} {E : Value → Shared → Prop}
theorem Inv.wish (I : Inv X pins σ H s) (E : Value → Shared → Prop) : Inv (X.wish E) pins σ H s := ⟨I.ok.wish E, I.os, I.bare, I.base, I.loc, I.cell, I.free, I.freeC, I.pin, I.hok, I.len⟩
theorem Inv.unwish (I : Inv (X.wish E) pins σ H s) : Inv X pins σ H s := ⟨I.ok.unwish, I.os, I.bare, I.base, I.loc, I.cell, I.free, I.freeC, I.pin, I.hok, I.len⟩
theorem SP.unwish {D : Ends} {f : Flow} {s' : Shared} (h : SP (X.wish E) pins D f s') : SP X pins D f s' := by
  cases f with
  | next => obtain ⟨σ', H', I, q⟩ := h; exact ⟨σ', H', I.unwish, q⟩
  | brk => obtain ⟨σ', H', I, q⟩ := h; exact ⟨σ', H', I.unwish, q⟩
  | cont => obtain ⟨σ', H', I, q⟩ := h; exact ⟨σ', H', I.unwish, q⟩
  | ret u => obtain ⟨v, σ', H', I, r, q⟩ := h; exact ⟨v, σ', H', I.unwish, r, q⟩
theorem PE.nox {e : Expr} {t : TE} (h : PE X.nox e t) : PE X e t := fun pins s σ H Q I hw =>
  wpAny_mono (h pins s σ H Q (I.wish _) hw) (fun _ _ ⟨v, H', I', r, q⟩ => ⟨v, H', I'.unwish, r, q⟩) fun _ _ z => False.elim z
theorem PT.nox {e : Expr} {t : TT} (h : PT X.nox e t) : PT X e t := fun pins s σ H Q I hw =>
  wpAny_mono (h pins s σ H Q (I.wish _) hw) (fun _ _ ⟨H', I', q⟩ => ⟨H', I'.unwish, q⟩) fun _ _ z => False.elim z
theorem PSs.nox {st : List Stmt} {t : TS} (h : PSs X.nox st t) : PSs X st t := fun pins s σ H D I hw =>
  wpAny_mono (h pins s σ H D (I.wish _) hw) (fun _ _ q => q.unwish) fun _ _ z => False.elim z
end
section
variable {X : Cx} {st : Stmt} {rest : List Stmt} {t u : TS} {e : Expr} {te : TE} {pos : Pos}
noncomputable def tNext : TS := fun D σ H => D.nx σ H
noncomputable def tSeq (t u : TS) : TS := fun D σ H => t { D with nx := u D } σ H
theorem pss_nil : PSs X [] tNext := fun _ _ σ H _ I h => wpAny_execs_nil ⟨σ, H, I, h⟩
theorem pss_cons (h1 : PS X st t) (h2 : PSs X rest u) : PSs X (st :: rest) (tSeq t u) := by
  intro pins s σ H D I h
  refine wpAny_execs_cons (thn (h1 pins s σ H { D with nx := u D } I h) fun f s1 q => ?_)
  cases f with
  | next =>
    obtain ⟨σ', H', I', q⟩ := q
    exact h2 pins s1 σ' H' D I' q
  | ret v => exact q
  | brk => exact q
  | cont => exact q
theorem pss_one (h1 : PS X st t) : PSs X [st] t := by
  intro pins s σ H D I h
  refine wpAny_execs_cons (thn (h1 pins s σ H D I h) fun f s1 q => ?_)
  cases f with
  | next => exact wpAny_execs_nil q
  | ret v => exact q
  | brk => exact q
  | cont => exact q
noncomputable def tBreak : TS := fun D σ H => D.bk σ H
noncomputable def tCont : TS := fun D σ H => D.ct σ H
theorem Inv.quiet {pins : List (Addr × Obj)} {σ : St} {H : Hp} {s : Shared} (I : Inv X pins σ H s) : interactive X.env = false := by simp [interactive, I.ok.kind]
noncomputable def tDrop (te : TE) : TS := fun D σ H => te σ H fun _ H1 => D.nx σ H1
theorem ps_expr (he : PE X e te) (hs : swapsWith e none pos.line X.env = pure false := by rfl) : PS X (.Expr e pos) (tDrop te) := by
  intro pins s σ H D I h
  exact wpAny_Expr_any (thn (he pins s σ H _ I h) fun v s1 ⟨x, H1, I1, r1, q1⟩ => ⟨σ, H1, I1, q1⟩) I.quiet hs
noncomputable def tRet (te : TE) : TS := fun D σ H => te σ H D.rt
theorem ps_ret (he : PE X e te) : PS X (.Return (some e) pos) (tRet te) := by
  intro pins s σ H D I h
  exact wpAny_Return_some (thn (he pins s σ H _ I h) fun v s1 ⟨x, H1, I1, r1, q1⟩ => ⟨x, σ, H1, I1, r1, q1⟩)
noncomputable def tRetN : TS := fun D _ H => D.rt .non H
noncomputable def tIfS (c : TT) (t u : TS) : TS := fun D σ H => c σ H fun b H1 => if b = true then t D σ H1 else u D σ H1
theorem ps_if {c : Expr} {a b : List Stmt} {tc : TT} (hc : PT X c tc) (ha : PSs X a t) (hb : PSs X b u) : PS X (.If c a b pos) (tIfS tc t u) := by
  intro pins s σ H D I h
  refine wpAny_If (thn (hc pins s σ H _ I h) fun d s1 ⟨H1, I1, q1⟩ => ?_)
  cases d with
  | true => exact ha pins s1 σ H1 D I1 q1
  | false => exact hb pins s1 σ H1 D I1 q1
noncomputable def tNever : TS := fun _ _ _ => False
end
noncomputable abbrev TG := V → St → Hp → (St → Hp → Prop) → Prop
noncomputable abbrev TGs := List V → St → Hp → (St → Hp → Prop) → Prop
noncomputable def PG (X : Cx) (target : Expr) (t : TG) : Prop :=
  ∀ (pins : List (Addr × Obj)) (s : Shared) (σ : St) (H : Hp) (v : V) (u : Value) (Q : St → Hp → Prop), Inv X pins σ H s → RelV v u → t v σ H Q →
    wpAny (model X.prog X.w) X.A (assign target X.env u) (fun _ s' => ∃ σ' H', Inv X pins σ' H' s' ∧ Q σ' H') X.xe s
noncomputable def PGs (X : Cx) (ts : List Expr) (t : TGs) : Prop :=
  ∀ (pins : List (Addr × Obj)) (s : Shared) (σ : St) (H : Hp) (vs : List V) (us : List Value) (Q : St → Hp → Prop), Inv X pins σ H s → Vals vs us → t vs σ H Q →
    wpAny (model X.prog X.w) X.A (assignInOrder ((assignEach ts X.env).map (·.2)) us) (fun _ s' => ∃ σ' H', Inv X pins σ' H' s' ∧ Q σ' H') X.xe s
section
variable {X : Cx} {pos : Pos}
noncomputable def gName (i : Nat) : TG := fun v σ H Q => Q (σ.set i (some v)) H
theorem pg_name {i : Nat} {x : Str} (hN : X.N.Nodup) (hi : X.N[i]? = some x) (hx : Loc X.env.scope x) (hf : X.fn x = true ∨ X.env.scope.names.lookup x = some .local := by first | exact .inl rfl | exact .inr rfl | assumption) : PG X (.Name x pos) (gName i) := by
  intro pins s σ H v u Q I r h
  exact wpAny_assign_Name (store_ok I hN hi hx r (fun s' I' => ⟨_, H, I', h⟩) hf)
noncomputable def tAsg (te : TE) (g : TG) : TS := fun D σ H => te σ H fun x H1 => g x σ H1 D.nx
theorem ps_set {i : Nat} {x : Str} {e : Expr} {te : TE} {pos' : Pos} (hN : X.N.Nodup) (hi : X.N[i]? = some x) (hx : Loc X.env.scope x) (he : PE X e te) (hs : swapsWith e (some (.Name x pos')) pos.line X.env = pure false := by rfl) (hf : X.fn x = true ∨ X.env.scope.names.lookup x = some .local := by first | exact .inl rfl | exact .inr rfl | assumption) :
    PS X (.Assign [.Name x pos'] e pos) (tAsg te (gName i)) := by
  intro pins s σ H D I h
  refine wpAny_Assign_Name (thn (he pins s σ H _ I h) fun v s1 ⟨y, H1, I1, r1, q1⟩ => ?_) hs
  exact store_ok I1 hN hi hx r1 (fun s2 I2 => ⟨_, H1, I2, q1⟩) hf
end
section
variable {X : Cx} {pos : Pos}
noncomputable def tWhile (c : TT) (tb : TS) : TS := fun D σ H => ∃ W : Nat → St → Hp → Prop, (∃ m, W m σ H) ∧ ∀ m σ H, W m σ H →
  c σ H fun b H1 => if b = true then ∃ N : St → Hp → Prop, (∀ σ' H', N σ' H' → ∃ m', m' < m ∧ W m' σ' H') ∧ tb { D with nx := N, ct := N, bk := D.nx } σ H1 else D.nx σ H1
theorem ps_while {c : Expr} {body : List Stmt} {tc : TT} {tb : TS} (hp : PassesOwn (model X.prog X.w) X.A X.env X.xe) (hc : PT X c tc) (hb : PSs X body tb) : PS X (.While c body [] pos) (tWhile tc tb) := by
  intro pins s σ H D I h
  obtain ⟨W, ⟨m0, w0⟩, turn⟩ := h
  refine wpAny_While (codeAny_whileLoop (fun n s' => ∃ σ' H', Inv X pins σ' H' s' ∧ W n σ' H') ?_ m0 ⟨σ, H, I, w0⟩)
  rintro n s1 ⟨σ1, H1, I1, w1⟩
  refine wpAny_passesOwn hp (thn (hc pins s1 σ1 H1 _ I1 (turn n σ1 H1 w1)) fun b s2 ⟨H2, I2, q2⟩ => ?_)
  cases b with
  | true =>
    obtain ⟨N, hN, q2⟩ := q2
    rw [if_pos rfl]
    refine wpAny_passesOwn hp (thn (hb pins s2 σ1 H2 _ I2 q2) fun f s3 q3 => ?_)
    cases f with
    | next =>
      obtain ⟨σ3, H3, I3, n3⟩ := q3
      obtain ⟨m', hm, w3⟩ := hN σ3 H3 n3
      exact ⟨m', hm, σ3, H3, I3, w3⟩
    | cont =>
      obtain ⟨σ3, H3, I3, n3⟩ := q3
      obtain ⟨m', hm, w3⟩ := hN σ3 H3 n3
      exact ⟨m', hm, σ3, H3, I3, w3⟩
    | brk => exact q3
    | ret v => exact q3
  | false =>
    rw [if_neg Bool.false_ne_true]
    exact wpAny_execs_nil ⟨σ1, H2, I2, q2⟩
end
structure It where
  go : Nat → Hp → Prop
  yld : Nat → Hp → V → Hp → Prop
  stop : Nat → Hp → Prop
noncomputable def FpOk (X : Cx) (pins : List (Addr × Obj)) (H : Hp) (b : Addr) : Prop :=
  H b = none ∧ b ≠ X.env.locals ∧ b ∉ X.fs ∧ (b ∈ X.ex ∨ X.s₀.heap.objs.size ≤ b) ∧ (∀ x c, X.env.cells.lookup x = some c → c ≠ b) ∧ ∀ p ∈ X.pn ++ pins, p.1 ≠ b
theorem Inv.fpOk {X : Cx} {pins : List (Addr × Obj)} {σ : St} {H H' : Hp} {s : Shared} {b : Addr} (I : Inv X pins σ H s) (hb : s.heap.objs.size ≤ b) (hn : H' b = none) : FpOk X pins H' b := by
  refine ⟨hn, Nat.ne_of_gt (Nat.lt_of_lt_of_le I.lt hb), I.nofs hb, .inr (Nat.le_trans I.sz hb), fun x c e z => ?_, fun p hp z => ?_⟩
  · obtain ⟨v, q⟩ := I.cell x c e
    exact absurd (Nat.lt_of_lt_of_le q.lt (by rw [z]; exact hb)) (Nat.lt_irrefl _)
  · exact absurd (Nat.lt_of_lt_of_le (Heap.lt_size (I.pin p hp).1) (by rw [z]; exact hb)) (Nat.lt_irrefl _)
structure Turn (P : Program) (w : World) (K : PySem.W.Frag) (tg : Expr) (J : It) (fp : List Addr) (it : Addr) (tn : Nat → Heap → Prop) : Prop where
  mem : it ∈ fp
  obj : ∀ i h, tn i h → ∀ b ∈ fp, ∃ o, h.get? b = some o ∧ ∀ v, o.data ≠ .cell v
  keep : ∀ i h h', tn i h → (∀ b ∈ fp, ∀ o, h.get? b = some o → h'.get? b = some o) → tn i h'
  item : ∀ (X : Cx), X.prog = P → X.w = w → X.K = K → X.calm = true → ∀ (i : Nat) (pins : List (Addr × Obj)) (s : Shared) (σ : St) (H : Hp) (E : Value → Shared → Prop), Inv X pins σ H s → (∀ b ∈ fp, FpOk X pins H b) → tn i s.heap → J.go i H →
    wpAny (model P w) X.A (pyNext (.ref it)) (fun r s1 => ∃ u, r = some u ∧
      wpAny (model P w) X.A (letOwnedTupleGo tg (.ref it) u) (fun _ s2 => ∃ x H', Inv X pins σ H' s2 ∧ RelV x u ∧ J.yld i H x H' ∧ tn (i + 1) s2.heap ∧ ∀ b ∈ fp, H' b = none) E s1) E s
  done : ∀ (X : Cx), X.prog = P → X.w = w → X.K = K → X.calm = true → ∀ (i : Nat) (pins : List (Addr × Obj)) (s : Shared) (σ : St) (H : Hp) (E : Value → Shared → Prop), Inv X pins σ H s → (∀ b ∈ fp, FpOk X pins H b) → tn i s.heap → J.stop i H →
    wpAny (model P w) X.A (pyNext (.ref it)) (fun r s1 => r = none ∧ Inv X pins σ H s1) E s
  self : ∀ (A : Around) (i : Nat) (s : Shared) (Q : Value → Shared → Prop) (E : Value → Shared → Prop), tn i s.heap → Q (.ref it) s → wpAny (model P w) A (pyIter (.ref it)) Q E s
noncomputable abbrev TI := St → Hp → (It → Hp → Prop) → Prop
noncomputable def PIE (X : Cx) (pins : List (Addr × Obj)) (σ : St) (tg : Expr) (R : It → Hp → Prop) (itv : Value) (s2 : Shared) : Prop :=
  ∃ (it : Addr) (fp : List Addr) (tn : Nat → Heap → Prop) (J : It) (H' : Hp), itv = .ref it ∧ Inv X pins σ H' s2 ∧ Turn X.prog X.w X.K tg J fp it tn ∧ tn 0 s2.heap ∧ (∀ b ∈ fp, FpOk X pins H' b) ∧ R J H'
noncomputable def PI (X : Cx) (tg iter : Expr) (wi : TI) : Prop :=
  ∀ (pins : List (Addr × Obj)) (s : Shared) (σ : St) (H : Hp) (R : It → Hp → Prop), Inv X pins σ H s → wi σ H R →
    wpAny (model X.prog X.w) X.A (eval iter X.env) (fun v s1 => wpAny (model X.prog X.w) X.A (pyIter v) (PIE X pins σ tg R) X.xe s1) X.xe s
theorem go_of {M : Model} {A : Around} {E : Value → Shared → Prop} {s : Shared} {tg : Expr} {it : Addr} {u : Value} {o : Obj} {n : String} {vs : Array Value} {Q : Unit → Shared → Prop} (ho : s.heap.get? it = some o) (hc : o.cls = .type n) (hd : o.data = .fields vs)
    (hn : ["enumerate", "zip", "dict_itemiterator", "dict_reverseitemiterator", "odict_iterator", "itertools.zip_longest", "itertools.pairwise"].contains n = false) (hQ : Q () s) : wpAny M A (letOwnedTupleGo tg (.ref it) u) Q E s := by
  unfold letOwnedTupleGo
  cases tg <;> first
    | exact wpAny_pure hQ
    | (cases u <;> first
        | exact wpAny_pure hQ
        | (refine wpAny_bind (wpAny_load ho ?_)
           rw [hc, hd]
           show wpAny M A (if (["enumerate", "zip", "dict_itemiterator", "dict_reverseitemiterator", "odict_iterator", "itertools.zip_longest", "itertools.pairwise"].contains n && vs[0]? == some (rawInt _)) = true then _ else _) Q E s
           rw [if_neg (by intro h; rw [hn, Bool.false_and] at h; cases h)]
           exact wpAny_pure hQ))
noncomputable def Itl (K : PySem.W.Frag) (a : Addr) : It :=
  ⟨fun i H => ∃ xs x, SqL K H a xs ∧ xs[i]? = some x, fun i H x H' => H' = H ∧ ∀ xs, SqL K H a xs → xs[i]? = some x, fun i H => ∃ xs, SqL K H a xs ∧ xs.length ≤ i⟩
noncomputable def Itt (K : PySem.W.Frag) (a : Addr) : It :=
  ⟨fun i H => ∃ xs x, SqT K H a xs ∧ xs[i]? = some x, fun i H x H' => H' = H ∧ ∀ xs, SqT K H a xs → xs[i]? = some x, fun i H => ∃ xs, SqT K H a xs ∧ xs.length ≤ i⟩
noncomputable def Itr (lo : Int) (n : Nat) : It := ⟨fun i _ => i < n, fun i H x H' => H' = H ∧ x = .int (lo + i), fun i _ => n ≤ i⟩
theorem turn_list {P : Program} {w : World} {K : PySem.W.Frag} {tg : Expr} (a it : Addr) : Turn P w K tg (Itl K a) [it] it (fun i h => h.IsListIter it a i) where
  mem := by simp
  obj := fun i h st b hb => by
    have e : b = it := by simpa using hb
    subst e
    obtain ⟨o, e, c, d⟩ := st
    exact ⟨o, e, fun v z => by rw [d] at z; cases z⟩
  keep := fun i h h' st k => st.at fun o e => k it (by simp) o e
  item := by
    intro X hP hw hK hc i pins s σ H E I hf st hg
    subst hP hw hK
    obtain ⟨xs, x, hq, hx⟩ := hg
    obtain ⟨its, rv, p, hz⟩ := I.list hq
    obtain ⟨u, hu, ru⟩ := rv.get hx
    obtain ⟨f0, f1, f2, f3, f4, f5⟩ := hf it (by simp)
    refine wpAny_pyNext_list_item st p.isList (x := u) (by simpa using hu) fun h' st' sb => ?_
    have I1 : Inv X pins σ H { s with heap := h' } := I.turned (t' := s.toks) (fun b o hb e => (sb.2 b hb).trans e) f0 f1 f3 f4 f5
    obtain ⟨o, e, c, d⟩ := id st'
    exact ⟨u, rfl, go_of (s := { s with heap := h' }) e c d (by decide) ⟨x, H, I1, ru, ⟨rfl, fun ys hy => by rw [I.list_inj hy hq]; exact hx⟩, st', fun b hb => (hf b hb).1⟩⟩
  done := by
    intro X hP hw hK hc i pins s σ H E I hf st hg
    subst hP hw hK
    obtain ⟨xs, hq, hx⟩ := hg
    obtain ⟨its, rv, p, hz⟩ := I.list hq
    obtain ⟨f0, f1, f2, f3, f4, f5⟩ := hf it (by simp)
    have hl := rv.length
    exact wpAny_pyNext_list_end (I.ok.hd hc) st p.isList (by simp; omega) fun h' eb => ⟨rfl, I.turned (t' := s.toks) (fun b o hb e => eb b o hb e) f0 f1 f3 f4 f5⟩
  self := fun _ _ _ _ _ st h => wpAny_pyIter_listiter st h
theorem turn_range {P : Program} {w : World} {K : PySem.W.Frag} {tg : Expr} (it : Addr) (lo : Int) (n : Nat) : Turn P w K tg (Itr lo n) [it] it (fun i h => IsRangeIter h it (lo + (i : Nat) * 1) ((n : Int) - (i : Nat)) 1) where
  mem := by simp
  obj := fun i h st b hb => by
    have e : b = it := by simpa using hb
    subst e
    exact ⟨_, st, fun v z => by
      have z' : Data.fields _ = Data.cell v := z
      cases z'⟩
  keep := fun i h h' st k => k it (by simp) _ st
  item := by
    intro X hP hw hK hc i pins s σ H E I hf st hg
    subst hP hw hK
    obtain ⟨f0, f1, f2, f3, f4, f5⟩ := hf it (by simp)
    have W := Walks.range (prog := X.prog) (w := X.w) (I.ok.hd hc) it lo 1 n
    refine W.item i s _ _ hg st fun v h' tk hv st' kk => ?_
    obtain ⟨t, rfl⟩ := hv
    have I1 : Inv X pins σ H { s with heap := h', toks := tk } := I.turned (fun b o hb e => kk b o (by simpa using hb) e) f0 f1 f3 f4 f5
    refine ⟨_, rfl, go_of (s := { s with heap := h', toks := tk }) (n := "range_iterator") st' rfl rfl (by decide) ⟨.int (lo + i), H, I1, ⟨t, ?_⟩, ⟨rfl, rfl⟩, st', fun b hb => (hf b hb).1⟩⟩
    rw [Int.mul_one]
  done := by
    intro X hP hw hK hc i pins s σ H E I hf st hg
    subst hP hw hK
    obtain ⟨f0, f1, f2, f3, f4, f5⟩ := hf it (by simp)
    exact wpAny_pyNext_range_end (I.ok.hd hc) st (by have : n ≤ i := hg; omega) fun h' eb => ⟨rfl, I.turned (t' := s.toks) (fun b o hb e => eb b o hb e) f0 f1 f3 f4 f5⟩
  self := fun _ _ _ _ _ st h => wpAny_pyIter_rangeiter st h
end L2
namespace L2
open PySem PySem.Spec PyProof.Rows
section
variable {X : Cx} {tg : Expr}
noncomputable def iList (K : PySem.W.Frag) (tl : TE) : TI := fun σ H R => tl σ H fun x H1 => ∃ a, x = .ref a ∧ (∃ xs, SqL K H1 a xs) ∧ R (Itl K a) H1
noncomputable def iTup (K : PySem.W.Frag) (tl : TE) : TI := fun σ H R => tl σ H fun x H1 => ∃ a, x = .ref a ∧ (∃ xs, SqT K H1 a xs) ∧ R (Itt K a) H1
theorem pi_list {l : Expr} {tl : TE} (hl : PE X l tl) : PI X tg l (iList X.K tl) := by
  intro pins s σ H R I h
  refine thn (hl pins s σ H _ I h) fun v s1 ⟨x, H1, I1, r1, q1⟩ => ?_
  obtain ⟨a, e, ⟨xs, hq⟩, q⟩ := q1
  subst e
  cases r1
  obtain ⟨its, rv, p, hz⟩ := I1.list hq
  refine wpAny_pyIter_list p.isList ?_
  refine ⟨s1.heap.objs.size, [s1.heap.objs.size], _, _, H1, rfl, I1.kept (t' := s1.toks) fun b o e => Heap.get?_push_of_some _ e, turn_list a _, ⟨_, Heap.get?_push_size _ rfl, rfl, rfl⟩, fun b hb => ?_, q⟩
  have e : b = s1.heap.objs.size := by simpa using hb
  subst e
  exact I1.fpOk (Nat.le_refl _) (I1.hok.fresh (Nat.le_refl _))
theorem range_it {pins : List (Addr × Obj)} {σ : St} {H : Hp} {s : Shared} {R : It → Hp → Prop} {E : Value → Shared → Prop} {lo hi : Int} {t u v : Tok} {tk : Nat} (I : Inv X pins σ H s) (h1 : -(2 ^ 62) ≤ lo) (h2 : lo < 2 ^ 62) (h3 : -(2 ^ 62) ≤ hi) (h4 : hi < 2 ^ 62)
    (q : R (Itr lo (hi - lo).toNat) H) : wpAny (model X.prog X.w) X.A (pyIter (.ref s.heap.objs.size)) (PIE X pins σ tg R) E { s with heap := s.heap.push { cls := .type "range", data := .fields #[.int lo t, .int hi u, .int 1 v] }, toks := tk } := by
  refine wpAny_pyIter_range (IsRange.new ..) (small_one h1 h2 h3 h4) ?_
  have I1 : Inv X pins σ H { s with heap := s.heap.push { cls := .type "range", data := .fields #[.int lo t, .int hi u, .int 1 v] }, toks := tk } := I.kept fun b o e => Heap.get?_push_of_some _ e
  refine ⟨(s.heap.push { cls := .type "range", data := .fields #[.int lo t, .int hi u, .int 1 v] }).objs.size, [(s.heap.push { cls := .type "range", data := .fields #[.int lo t, .int hi u, .int 1 v] }).objs.size], _, _, H, rfl,
    I1.kept (t' := tk) fun b o e => Heap.get?_push_of_some _ e, turn_range _ lo (hi - lo).toNat, ?_, fun b hb => ?_, q⟩
  · have e1 : lo + ((0 : Nat) : Int) * 1 = lo := by simp
    have e2 : (((hi - lo).toNat : Nat) : Int) - ((0 : Nat) : Int) = Builtin.Range.rangeSize lo hi 1 := by rw [rangeSize_one]; split <;> omega
    show IsRangeIter _ _ (lo + ((0 : Nat) : Int) * 1) ((((hi - lo).toNat : Nat) : Int) - ((0 : Nat) : Int)) 1
    rw [e1, e2]
    exact Heap.get?_push_size _ rfl
  · have e : b = (s.heap.push { cls := .type "range", data := .fields #[.int lo t, .int hi u, .int 1 v] }).objs.size := by simpa using hb
    subst e
    exact I1.fpOk (Nat.le_refl _) (I1.hok.fresh (Nat.le_refl _))
noncomputable def iRng1 (ta : TA) : TI := fun σ H R => ta σ H fun vs H1 => ∃ j : Int, vs = [.int j] ∧ -(2 ^ 62) ≤ j ∧ j < 2 ^ 62 ∧ R (Itr 0 j.toNat) H1
theorem pi_range1 {a : Expr} {ta : TA} {p pos : Pos} (hg : Gl X "range") (hm : X.mg "range" = none) (ha : PA X [a] ta) (hs : starEach [a] X.env = [(false, eval a X.env)] := by rfl) : PI X tg (.Call (.Name "range" p) [a] [] pos) (iRng1 ta) := by
  intro pins s σ H R I h
  refine Call_ (ld_blt I hg hm boot_range (PyProof.Rows.callWith_type1 (thn (ha pos pins s σ H _ I h) fun us s1 ⟨vs, H1, I1, r1, q1⟩ => ?_) hs rfl))
  obtain ⟨j, e, q1, q2, q⟩ := q1
  subst e
  cases r1 with
  | cons r rr =>
    cases rr
    obtain ⟨t, rfl⟩ := r
    exact call_range_1 (range_it I1 (by omega) (by omega) q1 q2 (by simpa using q))
noncomputable def tFor (wi : TI) (g : TG) (tb : TS) : TS := fun D σ H => wi σ H fun J H1 => ∃ W : Nat → Nat → St → Hp → Prop, (∃ m, W 0 m σ H1) ∧ ∀ i m σ H, W i m σ H →
  (J.stop i H ∧ D.nx σ H) ∨ (J.go i H ∧ ∃ N : St → Hp → Prop, (∀ σ' H', N σ' H' → ∃ m', m' < m ∧ W (i + 1) m' σ' H') ∧ ∀ x H', J.yld i H x H' → g x σ H' fun σ2 H2 => tb { D with nx := N, ct := N, bk := D.nx } σ2 H2)
noncomputable def pinsAt (fp : List Addr) (h : Heap) : List (Addr × Obj) := fp.filterMap fun b => (h.get? b).map fun o => (b, o)
theorem mem_pinsAt {fp : List Addr} {h : Heap} {b : Addr} {o : Obj} (hb : b ∈ fp) (e : h.get? b = some o) : (b, o) ∈ pinsAt fp h := List.mem_filterMap.mpr ⟨b, hb, by rw [e]; rfl⟩
theorem of_pinsAt {fp : List Addr} {h : Heap} {p : Addr × Obj} (hp : p ∈ pinsAt fp h) : p.1 ∈ fp ∧ h.get? p.1 = some p.2 := by
  obtain ⟨b, hb, e⟩ := List.mem_filterMap.mp hp
  cases q : h.get? b with
  | none => rw [q] at e; cases e
  | some o =>
    rw [q] at e
    have e' : (b, o) = p := Option.some.inj e
    subst e'
    exact ⟨hb, q⟩
theorem Inv.pinned {pins : List (Addr × Obj)} {σ : St} {H : Hp} {s : Shared} {fp : List Addr} (I : Inv X pins σ H s) (hf : ∀ b ∈ fp, FpOk X pins H b) (ho : ∀ b ∈ fp, ∃ o, s.heap.get? b = some o ∧ ∀ v, o.data ≠ .cell v) : Inv X (pins ++ pinsAt fp s.heap) σ H s :=
  I.pins_of fun p hp => (List.mem_append.mp hp).elim (fun z => I.pin p (List.mem_append_right _ z)) fun z => by
    obtain ⟨hb, e⟩ := of_pinsAt z
    obtain ⟨f0, f1, f2, _⟩ := hf p.1 hb
    obtain ⟨o, e', d⟩ := ho p.1 hb
    rw [e] at e'; cases e'
    exact ⟨e, f0, f1, f2, d⟩
theorem Inv.unpinned {pins pl : List (Addr × Obj)} {σ : St} {H : Hp} {s : Shared} (I : Inv X (pins ++ pl) σ H s) : Inv X pins σ H s := I.pins_of fun p hp => I.pin p (List.mem_append_right _ (List.mem_append_left _ hp))
theorem ps_for {iter : Expr} {body : List Stmt} {wi : TI} {g : TG} {tb : TS} {pos : Pos} (hp : PassesOwn (model X.prog X.w) X.A X.env X.xe) (hc : X.calm = true) (hi : PI X tg iter wi) (hg : PG X tg g) (hb : PSs X body tb)
    (hs : ∀ x, foldedSetIterable iter X.env x = pure x := by intro _; rfl) : PS X (.For tg iter body [] pos) (tFor wi g tb) := by
  intro pins s σ H D I h
  refine wpAny_For (thn (hi pins s σ H _ I h) fun v s1 h1 => thn h1 fun itv s2 h2 => ?_) hs
  obtain ⟨it, fp, tn, J, H2, e, I2, T, st2, f2, W, ⟨m0, w0⟩, turn⟩ := h2
  subst e
  have stat : ∀ {H' : Hp}, (∀ b ∈ fp, H' b = none) → ∀ b ∈ fp, FpOk X pins H' b := fun hn b hb => ⟨hn b hb, (f2 b hb).2⟩
  refine codeAny_forLoop_any (fun n s' => ∃ i σ' H', Inv X pins σ' H' s' ∧ tn i s'.heap ∧ (∀ b ∈ fp, H' b = none) ∧ W i n σ' H') ?_ m0 ⟨0, σ, H2, I2, st2, fun b hb => (f2 b hb).1, w0⟩
  rintro n s3 ⟨i, σ3, H3, I3, st3, fr3, w3⟩
  rcases turn i n σ3 H3 w3 with ⟨stop, qn⟩ | ⟨go, N, hN, step⟩
  · refine wpAny_passesOwn hp (thn (T.done X rfl rfl rfl hc i pins s3 σ3 H3 X.xe I3 (stat fr3) st3 stop) fun r s4 ⟨hr, I4⟩ => ?_)
    subst hr
    exact wpAny_execs_nil ⟨σ3, H3, I4, qn⟩
  · refine wpAny_passesOwn hp (thn (T.item X rfl rfl rfl hc i pins s3 σ3 H3 X.xe I3 (stat fr3) st3 go) fun r s4 ⟨u, hr, h4⟩ => ?_)
    subst hr
    refine wpAny_passesOwn hp (thn h4 fun _ s5 ⟨x, H5, I5, r5, y5, st5, fr5⟩ => ?_)
    have I5' := I5.pinned (stat fr5) (T.obj _ _ st5)
    refine wpAny_passesOwn hp (thn (hg _ s5 σ3 H5 x u _ I5' r5 (step x H5 y5)) fun _ s6 ⟨σ6, H6, I6, q6⟩ => ?_)
    refine wpAny_passesOwn hp (thn (hb _ s6 σ6 H6 _ I6 q6) fun f s7 q7 => ?_)
    have again : ∀ {σ7 : St} {H7 : Hp}, Inv X (pins ++ pinsAt fp s5.heap) σ7 H7 s7 → N σ7 H7 → ∃ m, m < n ∧ ∃ i σ' H', Inv X pins σ' H' s7 ∧ tn i s7.heap ∧ (∀ b ∈ fp, H' b = none) ∧ W i m σ' H' := fun {σ7 H7} I7 n7 => by
      obtain ⟨m', hm, w7⟩ := hN σ7 H7 n7
      refine ⟨m', hm, i + 1, σ7, H7, I7.unpinned, T.keep _ _ _ st5 fun b hb o e => (I7.pin (b, o) (List.mem_append_right _ (List.mem_append_right _ (mem_pinsAt hb e)))).1, fun b hb => ?_, w7⟩
      obtain ⟨o, e, d⟩ := T.obj _ _ st5 b hb
      exact (I7.pin (b, o) (List.mem_append_right _ (List.mem_append_right _ (mem_pinsAt hb e)))).2.1
    cases f with
    | next => obtain ⟨σ7, H7, I7, n7⟩ := q7; exact again I7 n7
    | cont => obtain ⟨σ7, H7, I7, n7⟩ := q7; exact again I7 n7
    | brk => obtain ⟨σ7, H7, I7, q7⟩ := q7; exact ⟨σ7, H7, I7.unpinned, q7⟩
    | ret v => obtain ⟨x7, σ7, H7, I7, r7, q7⟩ := q7; exact ⟨x7, σ7, H7, I7.unpinned, r7, q7⟩
end
theorem for_list {K : PySem.W.Frag} {a : Addr} {xs : List V} {g : TG} {tb : TS} {D : Ends} {σ : St} {H : Hp} (Pv : Nat → St → Hp → Prop) (h0 : Pv 0 σ H) (hl : ∀ i σ H, i ≤ xs.length → Pv i σ H → SqL K H a xs)
    (hs : ∀ i x σ H, xs[i]? = some x → Pv i σ H → g x σ H fun σ2 H2 => tb { D with nx := Pv (i + 1), ct := Pv (i + 1), bk := D.nx } σ2 H2) (hd : ∀ σ H, Pv xs.length σ H → D.nx σ H) :
    ∃ W : Nat → Nat → St → Hp → Prop, (∃ m, W 0 m σ H) ∧ ∀ i m σ H, W i m σ H →
      ((Itl K a).stop i H ∧ D.nx σ H) ∨ ((Itl K a).go i H ∧ ∃ N : St → Hp → Prop, (∀ σ' H', N σ' H' → ∃ m', m' < m ∧ W (i + 1) m' σ' H') ∧ ∀ x H', (Itl K a).yld i H x H' → g x σ H' fun σ2 H2 => tb { D with nx := N, ct := N, bk := D.nx } σ2 H2) := by
  refine ⟨fun i m σ H => m = xs.length - i ∧ i ≤ xs.length ∧ Pv i σ H, ⟨xs.length, by simp, Nat.zero_le _, h0⟩, ?_⟩
  rintro i m σ H ⟨rfl, hi, p⟩
  have q := hl i σ H hi p
  by_cases hlt : i < xs.length
  · refine .inr ⟨⟨xs, xs[i], q, by simp [hlt]⟩, Pv (i + 1), fun σ' H' p' => ⟨xs.length - (i + 1), by omega, rfl, hlt, p'⟩, fun x H' y => ?_⟩
    obtain ⟨e, y⟩ := y
    subst e
    exact hs i x σ _ (y xs q) p
  · have e : i = xs.length := by omega
    subst e
    exact .inl ⟨⟨xs, q, Nat.le_refl _⟩, hd σ H p⟩
theorem for_range {lo : Int} {n : Nat} {g : TG} {tb : TS} {D : Ends} {σ : St} {H : Hp} (Pv : Nat → St → Hp → Prop) (h0 : Pv 0 σ H)
    (hs : ∀ i σ H, i < n → Pv i σ H → g (.int (lo + i)) σ H fun σ2 H2 => tb { D with nx := Pv (i + 1), ct := Pv (i + 1), bk := D.nx } σ2 H2) (hd : ∀ σ H, Pv n σ H → D.nx σ H) :
    ∃ W : Nat → Nat → St → Hp → Prop, (∃ m, W 0 m σ H) ∧ ∀ i m σ H, W i m σ H →
      ((Itr lo n).stop i H ∧ D.nx σ H) ∨ ((Itr lo n).go i H ∧ ∃ N : St → Hp → Prop, (∀ σ' H', N σ' H' → ∃ m', m' < m ∧ W (i + 1) m' σ' H') ∧ ∀ x H', (Itr lo n).yld i H x H' → g x σ H' fun σ2 H2 => tb { D with nx := N, ct := N, bk := D.nx } σ2 H2) := by
  refine ⟨fun i m σ H => m = n - i ∧ i ≤ n ∧ Pv i σ H, ⟨n, by simp, Nat.zero_le _, h0⟩, ?_⟩
  rintro i m σ H ⟨rfl, hi, p⟩
  by_cases hlt : i < n
  · refine .inr ⟨hlt, Pv (i + 1), fun σ' H' p' => ⟨n - (i + 1), by omega, rfl, hlt, p'⟩, fun x H' y => ?_⟩
    obtain ⟨e, y⟩ := y
    subst e y
    exact hs i σ _ hlt p
  · have e : i = n := by omega
    subst e
    exact .inl ⟨Nat.le_refl _, hd σ H p⟩
end L2
namespace L2
open PySem PySem.Spec PyProof.Rows
noncomputable abbrev R2 := V → V → Hp → VK → Prop
noncomputable def OpR (X : Cx) (f : Value → Value → Sem Value) (r : R2) : Prop :=
  ∀ (pins : List (Addr × Obj)) (s : Shared) (σ : St) (H : Hp) (x y : V) (v u : Value) (Q : VK), Inv X pins σ H s → RelV x v → RelV y u → r x y H Q →
    wpAny (model X.prog X.w) X.A (f v u) (EP X pins σ Q) X.xe s
noncomputable def CallR (X : Cx) (f : Value) (r : List V → Hp → VK → Prop) : Prop :=
  ∀ (pins : List (Addr × Obj)) (s : Shared) (σ : St) (H : Hp) (xs : List V) (us : List Value) (Q : VK), Inv X pins σ H s → Vals xs us → r xs H Q →
    wpAny (model X.prog X.w) X.A (call f us) (EP X pins σ Q) X.xe s
noncomputable def tOp (r : R2) (ta tb : TE) : TE := fun σ H Q => ta σ H fun x H1 => tb σ H1 fun y H2 => r x y H2 Q
noncomputable def tUn (r : V → Hp → VK → Prop) (ta : TE) : TE := fun σ H Q => ta σ H fun x H1 => r x H1 Q
noncomputable def rI (C : Int → Int → Prop) (g : Int → Int → V) : R2 := fun x y H Q => ∃ i j, x = .int i ∧ y = .int j ∧ C i j ∧ Q (g i j) H
noncomputable def rI0 (g : Int → Int → V) : R2 := fun x y H Q => ∃ i j, x = .int i ∧ y = .int j ∧ Q (g i j) H
noncomputable def rU (g : Int → V) : V → Hp → VK → Prop := fun x H Q => ∃ i, x = .int i ∧ Q (g i) H
section
variable {X : Cx} {a b c : Expr} {ta tb tc : TE} {pos : Pos}
theorem binT (ha : PE X a ta) (hb : PE X b tb) {pins : List (Addr × Obj)} {s : Shared} {σ : St} {H : Hp} {R : V → V → Hp → Prop} (I : Inv X pins σ H s)
    (h : ta σ H fun x H1 => tb σ H1 fun y H2 => R x y H2) {Q : Value → Shared → Prop} {f : Value → Value → Sem Value}
    (hf : ∀ v u s2 x y H2, Inv X pins σ H2 s2 → RelV x v → RelV y u → R x y H2 → wpAny (model X.prog X.w) X.A (f v u) Q X.xe s2) :
    wpAny (model X.prog X.w) X.A (eval a X.env) (fun v s₁ => wpAny (model X.prog X.w) X.A (eval b X.env) (fun u s₂ => wpAny (model X.prog X.w) X.A (f v u) Q X.xe s₂) X.xe s₁) X.xe s := by
  refine thn (ha pins s σ H _ I h) fun v s1 ⟨x, H1, I1, r1, q1⟩ => ?_
  refine thn (hb pins s1 σ H1 _ I1 q1) fun u s2 ⟨y, H2, I2, r2, q2⟩ => ?_
  exact hf v u s2 x y H2 I2 r1 r2 q2
theorem pe_op {op : Operator} {r : R2} (ho : OpR X (binaryOp op) r) (ha : PE X a ta) (hb : PE X b tb) : PE X (.BinOp a op b pos) (tOp r ta tb) := by
  intro pins s σ H Q I h
  exact wpAny_BinOp (binT ha hb I h fun v u s2 x y H2 I2 rx ry q => ho pins s2 σ H2 x y v u Q I2 rx ry q)
theorem opI {f : Value → Value → Sem Value} {C : Int → Int → Prop} {g : Int → Int → Int}
    (rule : ∀ (i j : Int) (t u : Tok) (s : Shared) (Q : Value → Shared → Prop) (E : Value → Shared → Prop), C i j → Q (.int (g i j) s.toks) { s with toks := s.toks + 1 } → wpAny (model X.prog X.w) X.A (f (.int i t) (.int j u)) Q E s) :
    OpR X f (rI C fun i j => .int (g i j)) := by
  intro pins s σ H x y v u Q I rx ry h
  obtain ⟨i, j, rfl, rfl, hc, q⟩ := h
  obtain ⟨t, rfl⟩ := rx
  obtain ⟨t', rfl⟩ := ry
  exact rule i j t t' s _ _ hc ⟨.int (g i j), H, I.tok _, ⟨_, rfl⟩, q⟩
theorem opI0 {f : Value → Value → Sem Value} {g : Int → Int → Int}
    (rule : ∀ (i j : Int) (t u : Tok) (s : Shared) (Q : Value → Shared → Prop) (E : Value → Shared → Prop), Q (.int (g i j) s.toks) { s with toks := s.toks + 1 } → wpAny (model X.prog X.w) X.A (f (.int i t) (.int j u)) Q E s) :
    OpR X f (rI0 fun i j => .int (g i j)) := by
  intro pins s σ H x y v u Q I rx ry h
  obtain ⟨i, j, rfl, rfl, q⟩ := h
  obtain ⟨t, rfl⟩ := rx
  obtain ⟨t', rfl⟩ := ry
  exact rule i j t t' s _ _ ⟨.int (g i j), H, I.tok _, ⟨_, rfl⟩, q⟩
theorem opB0 {f : Value → Value → Sem Value} {g : Int → Int → Bool}
    (rule : ∀ (i j : Int) (t u : Tok) (s : Shared) (Q : Value → Shared → Prop) (E : Value → Shared → Prop), Q (.bool (g i j)) s → wpAny (model X.prog X.w) X.A (f (.int i t) (.int j u)) Q E s) :
    OpR X f (rI0 fun i j => .bl (g i j)) := by
  intro pins s σ H x y v u Q I rx ry h
  obtain ⟨i, j, rfl, rfl, q⟩ := h
  obtain ⟨t, rfl⟩ := rx
  obtain ⟨t', rfl⟩ := ry
  exact rule i j t t' s _ _ ⟨.bl (g i j), H, I, rfl, q⟩
noncomputable def CDiv (i j : Int) : Prop := 0 < j ∧ j < 1073741824
noncomputable def CMul (i j : Int) : Prop := (-(2 ^ 64) < i ∧ i < 2 ^ 64) ∨ (-(2 ^ 64) < j ∧ j < 2 ^ 64)
theorem op_add : OpR X (binaryOp .Add) (rI0 fun i j => .int (i + j)) := opI0 fun _ _ _ _ _ _ _ q => add_int q
theorem op_sub : OpR X (binaryOp .Sub) (rI0 fun i j => .int (i - j)) := opI0 fun _ _ _ _ _ _ _ q => sub_int q
theorem op_fdiv : OpR X (binaryOp .FloorDiv) (rI CDiv fun i j => .int (i / j)) := opI fun i j _ _ _ _ _ hc q => by
  have h1 : (0 : Int) < j := hc.1
  have h2 : j < 1073741824 := hc.2
  exact floordiv_int (by omega) (by rw [Int.fdiv_eq_ediv_of_nonneg i (by omega)]; exact q) (.inl (PyProof.noPylong_small (by omega)))
theorem op_mod : OpR X (binaryOp .Mod) (rI (fun _ j => 0 < j) fun i j => .int (i % j)) := opI fun i j _ _ _ _ _ hc q => by
  have h1 : (0 : Int) < j := hc
  exact mod_int' (by omega) (by rw [Int.fmod_eq_emod_of_nonneg i (by omega)]; exact q)
end
noncomputable def scal : V → V → Bool
  | .non, .non => true | .non, .int _ => true | .int _, .non => true | .non, .bl _ => true | .bl _, .non => true | .non, .str _ => true | .str _, .non => true
  | .int _, .int _ => true | .bl _, .bl _ => true | .str _, .str _ => true | .byt _, .byt _ => true
  | .int _, .str _ => true | .str _, .int _ => true | .bl _, .str _ => true | .str _, .bl _ => true
  | _, _ => false
noncomputable def rEq : R2 := fun x y H Q => scal x y = true ∧ Q (.bl (decide (x = y))) H
noncomputable def rNe : R2 := fun x y H Q => scal x y = true ∧ Q (.bl (!decide (x = y))) H
theorem dec_int {i j : Int} : decide (V.int i = V.int j) = (i == j) := by
  rw [Bool.eq_iff_iff]
  simp
theorem dec_bl {i j : Bool} : decide (V.bl i = V.bl j) = (i == j) := by
  rw [Bool.eq_iff_iff]
  simp
theorem dec_str {i j : Str} : decide (V.str i = V.str j) = (i == j) := by
  rw [Bool.eq_iff_iff]
  simp
theorem dec_byt {i j : Array UInt8} : decide (V.byt i = V.byt j) = (i.toList == j.toList) := by
  rw [Bool.eq_iff_iff]
  cases i
  cases j
  simp
section
variable {X : Cx} {a b c : Expr} {ta tb tc : TE} {pos : Pos}
theorem fin_bl {pins : List (Addr × Obj)} {σ : St} {H : Hp} {s : Shared} {Q : VK} {k k' : Bool} (I : Inv X pins σ H s) (q : Q (.bl k) H) (e : k = k') : EP X pins σ Q (.bool k') s := by
  subst e
  exact ⟨.bl k, H, I, rfl, q⟩
theorem op_eq : OpR X (compareOp .Eq) rEq := by
  intro pins s σ H x y v u Q I rx ry h
  obtain ⟨hs, q⟩ := h
  cases x with
  | non =>
    cases rx
    cases y with
    | non => cases ry; exact PySem.EqNone.eq_none_none (fin_bl I q (by simp))
    | bl j => cases ry; exact PySem.EqNone.eq_none_bool (fin_bl I q (by simp))
    | int j => obtain ⟨t', rfl⟩ := ry; exact PySem.EqNone.eq_none_int (fin_bl I q (by simp))
    | str j => obtain ⟨t', rfl⟩ := ry; exact PySem.EqNone.eq_none_str (fin_bl I q (by simp))
    | _ => exact absurd (show false = true from hs) Bool.false_ne_true
  | bl i =>
    cases rx
    cases y with
    | non => cases ry; exact PySem.EqNone.eq_bool_none (fin_bl I q (by simp))
    | bl j => cases ry; exact eq_bool (fin_bl I q dec_bl)
    | str j => obtain ⟨t', rfl⟩ := ry; exact PySem.EqMixed.eq_bool_str (fin_bl I q (by simp))
    | _ => exact absurd (show false = true from hs) Bool.false_ne_true
  | int i =>
    obtain ⟨t, rfl⟩ := rx
    cases y with
    | non => cases ry; exact PySem.EqNone.eq_int_none (fin_bl I q (by simp))
    | int j => obtain ⟨t', rfl⟩ := ry; exact eq_int (fin_bl I q dec_int)
    | str j => obtain ⟨t', rfl⟩ := ry; exact PySem.EqMixed.eq_int_str (fin_bl I q (by simp))
    | _ => exact absurd (show false = true from hs) Bool.false_ne_true
  | str i =>
    obtain ⟨t, rfl⟩ := rx
    cases y with
    | non => cases ry; exact PySem.EqNone.eq_str_none (fin_bl I q (by simp))
    | bl j => cases ry; exact PySem.EqMixed.eq_str_bool (fin_bl I q (by simp))
    | int j => obtain ⟨t', rfl⟩ := ry; exact PySem.EqMixed.eq_str_int (fin_bl I q (by simp))
    | str j => obtain ⟨t', rfl⟩ := ry; exact eq_str (fin_bl I q dec_str)
    | _ => exact absurd (show false = true from hs) Bool.false_ne_true
  | byt i =>
    obtain ⟨t, rfl⟩ := rx
    cases y with
    | byt j => obtain ⟨t', rfl⟩ := ry; exact PySem.W.eq_bytes (fin_bl I q dec_byt)
    | _ => exact absurd (show false = true from hs) Bool.false_ne_true
  | _ => cases y <;> exact absurd (show false = true from hs) Bool.false_ne_true
theorem op_ne : OpR X (compareOp .NotEq) rNe := by
  intro pins s σ H x y v u Q I rx ry h
  obtain ⟨hs, q⟩ := h
  cases x with
  | non =>
    cases rx
    cases y with
    | non => cases ry; exact PySem.EqNone.ne_none_none (fin_bl I q (by simp))
    | bl j => cases ry; exact PySem.EqNone.ne_none_bool (fin_bl I q (by simp))
    | int j => obtain ⟨t', rfl⟩ := ry; exact PySem.EqNone.ne_none_int (fin_bl I q (by simp))
    | str j => obtain ⟨t', rfl⟩ := ry; exact PySem.EqNone.ne_none_str (fin_bl I q (by simp))
    | _ => exact absurd (show false = true from hs) Bool.false_ne_true
  | bl i =>
    cases rx
    cases y with
    | non => cases ry; exact PySem.EqNone.ne_bool_none (fin_bl I q (by simp))
    | bl j => cases ry; exact ne_bool (fin_bl I q (congrArg not dec_bl))
    | str j => obtain ⟨t', rfl⟩ := ry; exact PySem.EqMixed.ne_bool_str (fin_bl I q (by simp))
    | _ => exact absurd (show false = true from hs) Bool.false_ne_true
  | int i =>
    obtain ⟨t, rfl⟩ := rx
    cases y with
    | non => cases ry; exact PySem.EqNone.ne_int_none (fin_bl I q (by simp))
    | int j => obtain ⟨t', rfl⟩ := ry; exact ne_int (fin_bl I q (congrArg not dec_int))
    | str j => obtain ⟨t', rfl⟩ := ry; exact PySem.EqMixed.ne_int_str (fin_bl I q (by simp))
    | _ => exact absurd (show false = true from hs) Bool.false_ne_true
  | str i =>
    obtain ⟨t, rfl⟩ := rx
    cases y with
    | non => cases ry; exact PySem.EqNone.ne_str_none (fin_bl I q (by simp))
    | bl j => cases ry; exact PySem.EqMixed.ne_str_bool (fin_bl I q (by simp))
    | int j => obtain ⟨t', rfl⟩ := ry; exact PySem.EqMixed.ne_str_int (fin_bl I q (by simp))
    | str j => obtain ⟨t', rfl⟩ := ry; exact ne_str (fin_bl I q (congrArg not dec_str))
    | _ => exact absurd (show false = true from hs) Bool.false_ne_true
  | byt i =>
    obtain ⟨t, rfl⟩ := rx
    cases y with
    | byt j => obtain ⟨t', rfl⟩ := ry; exact PySem.W.ne_bytes (fin_bl I q (congrArg not dec_byt))
    | _ => exact absurd (show false = true from hs) Bool.false_ne_true
  | _ => cases y <;> exact absurd (show false = true from hs) Bool.false_ne_true
theorem op_lt : OpR X (compareOp .Lt) (rI0 fun i j => .bl (decide (i < j))) := opB0 fun _ _ _ _ _ _ _ q => lt_int q
theorem op_gt : OpR X (compareOp .Gt) (rI0 fun i j => .bl (decide (j < i))) := opB0 fun _ _ _ _ _ _ _ q => gt_int q
theorem op_in_str : OpR X (compareOp .In) (fun x y H Q => ∃ i j, x = .str i ∧ y = .str j ∧ Q (.bl (!(Builtin.Str.occurrences j i 0 j.length 1).isEmpty)) H) := by
  intro pins s σ H x y v u Q I rx ry h
  obtain ⟨i, j, rfl, rfl, q⟩ := h
  obtain ⟨t, rfl⟩ := rx
  obtain ⟨t', rfl⟩ := ry
  exact in_str (fin_bl I q rfl)
theorem op_isN : OpR X (compareOp .Is) (fun x y H Q => y = .non ∧ Q (.bl (decide (x = .non))) H) := by
  intro pins s σ H x y v u Q I rx ry h
  obtain ⟨rfl, q⟩ := h
  cases ry
  refine is_none_gen (fin_bl I q ?_)
  cases x <;> first
    | (cases rx; rfl)
    | (obtain ⟨t, rfl⟩ := rx; rfl)
theorem OpR.or {f : Value → Value → Sem Value} {r r' : R2} (h : OpR X f r) (h' : OpR X f r') : OpR X f (fun x y H Q => r x y H Q ∨ r' x y H Q) := by
  intro pins s σ H x y v u Q I rx ry q
  rcases q with q | q
  · exact h pins s σ H x y v u Q I rx ry q
  · exact h' pins s σ H x y v u Q I rx ry q
theorem nomark (b : Expr) {op : CmpOp} (h : op ≠ .In := by decide) (h2 : op ≠ .NotIn := by decide) : behindInMarks op b = false := by
  have e1 : (op == CmpOp.In) = false := by cases op <;> first | rfl | exact absurd rfl h
  have e2 : (op == CmpOp.NotIn) = false := by cases op <;> first | rfl | exact absurd rfl h2
  cases b <;> simp [behindInMarks, e1, e2]
theorem pe_cmpR {op : CmpOp} {r : R2} (ho : OpR X (compareOp op) r) (ha : PE X a ta) (hb : PE X b tb) (hm : behindInMarks op b = false) : PE X (.Compare a [op] [b] pos) (tOp r ta tb) := by
  intro pins s σ H Q I h
  exact wpAny_Compare1 (binT ha hb I h fun v u s2 x y H2 I2 rx ry q => ho pins s2 σ H2 x y v u Q I2 rx ry q) hm
noncomputable def tTest (t : TE) : TT := fun σ H Q => t σ H fun x H' => ∃ k, x = .bl k ∧ Q k H'
theorem pt_cmpR {op : CmpOp} {r : R2} (ho : OpR X (compareOp op) r) (ha : PE X a ta) (hb : PE X b tb) (hm : behindInMarks op b = false) : PT X (.Compare a [op] [b] pos) (tTest (tOp r ta tb)) := by
  intro pins s σ H Q I h
  refine wpAny_isTrue_Compare1 (thn (ha pins s σ H _ I h) fun v s1 ⟨x, H1, I1, r1, q1⟩ => thn (hb pins s1 σ H1 _ I1 q1) fun u s2 ⟨y, H2, I2, r2, q2⟩ =>
    thn (ho pins s2 σ H2 x y v u _ I2 r1 r2 q2) fun c s3 ⟨z, H3, I3, r3, k, e, q3⟩ => ?_) hm
  subst e
  cases r3
  exact wpAny_truthy_bool ⟨H3, I3, q3⟩
theorem line63 : (sizeLine : Nat) < 2 ^ 63 := by rw [sizeLine_eq]; decide
theorem op_add_str : OpR X (binaryOp .Add) (fun x y H Q => ∃ i j, x = .str i ∧ y = .str j ∧ i.length + j.length ≤ sizeLine ∧ Q (.str (i ++ j)) H) := by
  intro pins s σ H x y v u Q I rx ry h
  obtain ⟨i, j, rfl, rfl, hz, q⟩ := h
  obtain ⟨t, rfl⟩ := rx
  obtain ⟨t', rfl⟩ := ry
  exact add_str (fun t' tk => ⟨.str (i ++ j), H, I.tok _, ⟨_, rfl⟩, q⟩) hz
theorem vals1 {x : V} {us : List Value} (r : Vals [x] us) : ∃ u, us = [u] ∧ RelV x u := by
  cases r with
  | cons r1 r2 => cases r2; exact ⟨_, rfl, r1⟩
theorem call_int1 : CallR X (.type "int") (fun xs H Q => (∃ i, xs = [.int i] ∧ Q (.int i) H) ∨ ∃ k, xs = [.bl k] ∧ Q (.int (if k then 1 else 0)) H) := by
  intro pins s σ H xs us Q I r h
  rcases h with ⟨i, rfl, q⟩ | ⟨k, rfl, q⟩
  · obtain ⟨u, rfl, t, rfl⟩ := vals1 r
    exact call_int_int ⟨.int i, H, I, ⟨_, rfl⟩, q⟩
  · obtain ⟨u, rfl, r1⟩ := vals1 r
    cases r1
    exact call_int_bool ⟨.int (if k then 1 else 0), H, I.tok _, ⟨_, rfl⟩, q⟩
theorem call_str_int : CallR X (.type "str") (fun xs H Q => ∃ i, xs = [.int i] ∧ i.natAbs.log2 < 1920 ∧ Q (.str (toString i)) H) := by
  intro pins s σ H xs us Q I r h
  obtain ⟨i, rfl, hz, q⟩ := h
  obtain ⟨u, rfl, t, rfl⟩ := vals1 r
  exact PySem.P.str_of_int hz ⟨.str _, H, I.tok _, ⟨_, rfl⟩, q⟩
end
end L2
namespace L2
open PySem PySem.Spec PyProof.Rows
structure ObjM (h : Heap) (x dx C : Addr) (mA : Str → Option Value) : Prop where
  obj : h.get? x = some (PySem.W.instObj C dx)
  ns : h.Ns1 dx mA
  ne : dx ≠ x
theorem lookIn_ns {h : Heap} {dx : Addr} {mA : Str → Option Value} (n : h.Ns1 dx mA) : ∃ od, h.get? dx = some od ∧ ∀ name, PySem.W.lookIn name od = some (mA name) := by
  obtain ⟨o, es, ep, ho, hd, hk, _, hm⟩ := n
  refine ⟨o, ho, fun name => ?_⟩
  have e := hm name
  unfold nsFind findBy at e
  rw [← Array.find?_toList] at e
  unfold PySem.W.lookIn
  rw [hd]
  dsimp only
  split
  · rename_i y q
    rw [q] at e
    exact congrArg some e
  · rename_i q
    rw [q] at e
    have a : es.toList.any (·.refKey) = false := by
      rw [List.any_eq_false]
      intro y hy
      obtain ⟨z, t, hkey⟩ := hk y (Array.mem_toList_iff.mp hy)
      simp [DictEntry.refKey, hkey]
    have a' : ¬ es.toList.any (·.refKey) = true := by rw [a]; exact Bool.false_ne_true
    rw [if_neg a']
    exact congrArg some e
theorem ObjM.look {h : Heap} {x dx C : Addr} {mA : Str → Option Value} (I : ObjM h x dx C mA) : ∃ od, PySem.W.InstAt h x (PySem.W.instObj C dx) C (some od) ∧ ∀ name, PySem.W.lookIn name od = some (mA name) :=
  let ⟨od, ho, hl⟩ := lookIn_ns I.ns
  ⟨od, ⟨I.obj, rfl, rfl, ho⟩, hl⟩
section
variable {prog : Program} {w : World} {A : Around} {E : Value → Shared → Prop} {s : Shared} {K : PySem.W.Frag} {x dx C f : Addr} {mA : Str → Option Value} {name : Str} {v : Value}
theorem get_map {expr : Bool} {Q : Value → Shared → Prop} (X : K.In s.heap) (I : ObjM s.heap x dx C mA) (hg : PySem.W.plainGet K C name = true) (hh : PySem.W.hasDictIn K C = true)
    (ha : PySem.W.findIn K (.ref C) name = some none) (hv : mA name = some v) (hv' : PySem.W.handedIn v = true) (h : Q v { s with toks := s.toks + 1 }) :
    wpAny (model prog w) A (getAttr (.ref x) name expr) Q E s := by
  obtain ⟨od, J, hl⟩ := I.look
  exact PySem.W.get_value X J (PySem.W.plainGet_of hg).1 (PySem.W.findObj_own hh ha rfl (by rw [hl, hv])) hv' h
theorem get_meth {pl : Sem Bool} {Q : Value × List Value → Shared → Prop} (X : K.In s.heap) (I : ObjM s.heap x dx C mA) (hg : PySem.W.plainGet K C name = true)
    (hf : PySem.W.findIn K (.ref C) name = some (some (.ref f))) (ht : PySem.W.isFn K (.ref f) = true) (hv : mA name = none) (h : Q (.ref f, [.ref x]) s) :
    wpAny (model prog w) A (getMethod (.ref x) name pl) Q E s := by
  obtain ⟨od, J, hl⟩ := I.look
  exact PySem.W.method_fn X J (PySem.W.plainGet_of hg).1 (PySem.W.plainGet_of hg).2 hf (beq_iff_eq.mp ht) (by show (PySem.W.lookIn name od).map (·.isSome) = some false; rw [hl, hv]; rfl) h
theorem set_map {ns : List Str} {Q : Unit → Shared → Prop} (X : K.In s.heap) (I : ObjM s.heap x dx C mA)
    (hs : PySem.W.findIn K (.ref C) "__setattr__" = some (some (.builtin "object.__setattr__"))) (hp : PySem.W.plainOver K C = true) (ht : PySem.W.takerIn K C name = some none) (hh : PySem.W.hasDictIn K C = true)
    (hw : PySem.Within mA ns) (hsz : ns.length ≤ sizeLine)
    (h : ∀ h', ObjM h' x dx C (fun y => if y = name then some v else mA y) → Heap.SameBut dx s.heap h' → Q () { s with heap := h', toks := s.toks + 2 }) :
    wpAny (model prog w) A (setAttr (.ref x) name v) Q E s := by
  obtain ⟨od, J, hl⟩ := I.look
  refine PySem.W.set_plain X J hs (PySem.W.osa_open (s := { s with toks := s.toks + 1 }) (r := none) X J hp ht fun b => ?_)
  obtain ⟨cd, hc, hd'⟩ := PySem.W.any_some hh
  have hx : s.heap.get? x = some ⟨.ref C, some dx, .plain, #[]⟩ := I.obj
  refine wpAny_bind (wpAny_pure (wpAny_bind (wpAny_bind (wpAny_loadPart hx (wpAny_bind (PySem.W.Looks.here (s := { s with toks := s.toks + 1 }) (PySem.W.looks_clsIn X hc) ?_))))))
  rw [hd']
  refine wpAny_pure (a := some dx) (wpAny_bind (wpAny_pure (wpAny_bind ?_)))
  refine wpAny_nsSet1 (s := { s with toks := s.toks + 1 }) I.ns fun h' hn2 hs2 => ?_
  obtain ⟨oD, esD, epD, hoD, hdD, hcD⟩ := hn2.count (PySem.Within.cons name v hw)
  refine wpAny_bind (wpAny_lookBehind hoD (by rw [hdD]; exact pastItsLine_dict (Nat.le_trans hcD (by rw [List.length_cons]; omega))) ?_)
  exact wpAny_pure (h _ ⟨(hs2.2 _ (Ne.symm I.ne)).trans I.obj, hn2, I.ne⟩ hs2)
theorem make_map {R : Result → Shared → Prop} {vs : List Value} {kw : List (Str × Value)} (X : K.In s.heap) (hm : PySem.W.makesIn K C = true)
    (hi : PySem.W.findIn K (.ref C) "__init__" = some (some (.ref f))) (hf : PySem.W.typeIn K (.ref f) = some (.type "function"))
    (h : codeAny (model prog w) (A.under (.builtin "type.__call__" ⟨.ref C :: vs, kw⟩)) (.call (.ref f) ⟨.ref (s.heap.objs.size + 1) :: vs, kw⟩) (PySem.W.InitBack (s.heap.objs.size + 1) R)
      { s with heap := (s.heap.push PySem.W.emptyDict).push (PySem.W.instObj C s.heap.objs.size) }) :
    codeAny (model prog w) A (.call (.ref C) ⟨vs, kw⟩) R s := by
  obtain ⟨hh, g, d, t, os⟩ := s
  exact PySem.W.make_core (PySem.W.makes_of X hm) (PySem.W.looks_findIn X hi) (fun self => PySem.W.bind_fn X self hf) (.inl rfl) h
end
noncomputable def putF (f : Str) (v : V) : List (Str × V) → List (Str × V)
  | [] => [(f, v)]
  | (g, x) :: r => if g = f then (g, v) :: r else (g, x) :: putF f v r
theorem lookup_putF (f g : Str) (v : V) : ∀ fs : List (Str × V), (putF f v fs).lookup g = if g = f then some v else fs.lookup g
  | [] => by
    show List.lookup g [(f, v)] = _
    by_cases h : g = f
    · have hb : (g == f) = true := beq_iff_eq.mpr h
      simp only [List.lookup, hb, if_pos h]
    · have hb : (g == f) = false := beq_eq_false_iff_ne.mpr h
      simp only [List.lookup, hb, if_neg h]
  | (k, x) :: r => by
    have ih := lookup_putF f g v r
    rw [show putF f v ((k, x) :: r) = (if k = f then (k, v) :: r else (k, x) :: putF f v r) from rfl]
    by_cases hk : k = f
    · rw [if_pos hk]
      by_cases h : g = k
      · have hb : (g == k) = true := beq_iff_eq.mpr h
        simp only [List.lookup, hb, if_pos (h.trans hk)]
      · have hb : (g == k) = false := beq_eq_false_iff_ne.mpr h
        simp only [List.lookup, hb, if_neg (fun e : g = f => h (e.trans hk.symm))]
    · rw [if_neg hk]
      by_cases h : g = k
      · have hb : (g == k) = true := beq_iff_eq.mpr h
        simp only [List.lookup, hb, if_neg (fun e : g = f => hk (h.symm.trans e))]
      · have hb : (g == k) = false := beq_eq_false_iff_ne.mpr h
        simp only [List.lookup, hb]
        exact ih
theorem keys_putF (f : Str) (v : V) : ∀ fs : List (Str × V), f ∈ (putF f v fs).map (·.1) ∧ ∀ g, g ∈ fs.map (·.1) → g ∈ (putF f v fs).map (·.1)
  | [] => ⟨by simp [putF], fun g h => by simp at h⟩
  | (k, x) :: r => by
    obtain ⟨i1, i2⟩ := keys_putF f v r
    rw [show putF f v ((k, x) :: r) = (if k = f then (k, v) :: r else (k, x) :: putF f v r) from rfl]
    by_cases hk : k = f
    · rw [if_pos hk]
      subst hk
      exact ⟨by simp, fun g h => by simpa using h⟩
    · rw [if_neg hk]
      refine ⟨?_, fun g h => ?_⟩
      · rw [List.map_cons]
        exact List.mem_cons_of_mem _ i1
      · rw [List.map_cons] at h ⊢
        rcases List.mem_cons.mp h with e | e
        · exact List.mem_cons.mpr (.inl e)
        · exact List.mem_cons_of_mem _ (i2 g e)
theorem length_putF (f : Str) (v : V) : ∀ fs : List (Str × V), (putF f v fs).length ≤ fs.length + 1
  | [] => by simp [putF]
  | (k, x) :: r => by
    have ih := length_putF f v r
    rw [show putF f v ((k, x) :: r) = (if k = f then (k, v) :: r else (k, x) :: putF f v r) from rfl]
    by_cases hk : k = f
    · rw [if_pos hk, List.length_cons, List.length_cons]; omega
    · rw [if_neg hk, List.length_cons, List.length_cons]; omega
theorem RelO.some_of {v : V} {o : Option Value} (r : RelO (some v) o) : ∃ u, o = some u ∧ RelV v u := by
  cases o with
  | none => exact (show False from r).elim
  | some u => exact ⟨u, rfl, r⟩
theorem RelO.none_of {o : Option Value} (r : RelO none o) : o = none := by
  cases o with
  | none => rfl
  | some u => exact (show False from r).elim
theorem handed_of {v : V} {u : Value} (r : RelV v u) : PySem.W.handedIn u = true := by
  cases v with
  | non => cases (show u = Value.none from r); rfl
  | bl b => cases (show u = Value.bool b from r); rfl
  | int i => obtain ⟨t, e⟩ := (show ∃ t, u = Value.int i t from r); cases e; rfl
  | str x => obtain ⟨t, e⟩ := (show ∃ t, u = Value.str x t from r); cases e; rfl
  | byt b => obtain ⟨t, e⟩ := (show ∃ t, u = Value.bytes b t from r); cases e; rfl
  | flt b => obtain ⟨t, e⟩ := (show ∃ t, u = Value.float b t from r); cases e; rfl
  | ref a => cases (show u = Value.ref a from r); rfl
  | ty n => cases (show u = Value.type n from r); rfl
section
variable {P : Program} {w : World} {H H' : Hp} {h h' : Heap} {a C dx : Addr} {fs fs' : List (Str × V)}
theorem ins_get (hok : HOk P w H h) (e : H a = some (.ins C dx fs)) : ∃ mA, ObjM h a dx C mA ∧ (∀ f, RelO (fs.lookup f) (mA f)) ∧ PySem.Within mA (fs.map (·.1)) ∧ fs.length ≤ 1000 ∧ H dx = some (.own a) := by
  obtain ⟨d, z, ne, ob, mA, n, r, q⟩ := (show ObjOk P w H h a (.ins C dx fs) from hok a _ e)
  exact ⟨mA, ⟨ob, n, ne⟩, r, q, z, d⟩
end
structure Cls (K : PySem.W.Frag) (C : Addr) : Prop where
  pg : PySem.W.plainGet K C Str.empty = true
  hd : PySem.W.hasDictIn K C = true
  po : PySem.W.plainOver K C = true
  sa : PySem.W.findIn K (.ref C) "__setattr__" = some (some (.builtin "object.__setattr__"))
theorem Cls.get {K : PySem.W.Frag} {C : Addr} (c : Cls K C) (f : Str) : PySem.W.plainGet K C f = true := c.pg
noncomputable def NoAttr (K : PySem.W.Frag) (C : Addr) (f : Str) : Prop := PySem.W.findIn K (.ref C) f = some none
theorem NoAttr.taker {K : PySem.W.Frag} {C : Addr} {f : Str} (n : NoAttr K C f) : PySem.W.takerIn K C f = some none := by
  unfold PySem.W.takerIn
  rw [show PySem.W.findIn K (.ref C) f = some none from n]
  rfl
structure Meth (K : PySem.W.Frag) (C : Addr) (m : Str) (f : Addr) : Prop where
  at_ : PySem.W.findIn K (.ref C) m = some (some (.ref f))
  fn : PySem.W.isFn K (.ref f) = true
  kp : PySem.W.keepIn K (.ref f) = true
section
variable {X : Cx} {pins : List (Addr × Obj)} {σ : St} {H : Hp} {s : Shared} {a C dx : Addr} {fs : List (Str × V)} {f : Str} {v : V} {A : Around} {E : Value → Shared → Prop}
theorem getattr_ok {b : Bool} {Q : Value → Shared → Prop} (I : Inv X pins σ H s) (e : H a = some (.ins C dx fs)) (c : Cls X.K C) (n : NoAttr X.K C f) (l : fs.lookup f = some v)
    (h : ∀ u s', Inv X pins σ H s' → RelV v u → Q u s') : wpAny (model X.prog X.w) A (getAttr (.ref a) f b) Q E s := by
  obtain ⟨mA, O, r, _, _, _⟩ := ins_get I.hok e
  obtain ⟨u, hu, ru⟩ := RelO.some_of (v := v) (o := mA f) (by rw [← l]; exact r f)
  exact get_map I.kIn O (c.get f) c.hd n hu (handed_of ru) (h u _ (I.tok _) ru)
theorem getmeth_ok {m : Str} {g : Addr} {pl : Sem Bool} {Q : Value × List Value → Shared → Prop} (I : Inv X pins σ H s) (e : H a = some (.ins C dx fs)) (c : Cls X.K C) (k : Meth X.K C m g) (l : fs.lookup m = none)
    (h : Q (.ref g, [.ref a]) s) : wpAny (model X.prog X.w) A (getMethod (.ref a) m pl) Q E s := by
  obtain ⟨mA, O, r, _, _, _⟩ := ins_get I.hok e
  have hn : mA m = none := RelO.none_of (by rw [← l]; exact r m)
  exact get_meth I.kIn O (c.get m) k.at_ k.fn hn h
theorem setattr_ok {y : V} {u : Value} {Q : Unit → Shared → Prop} (I : Inv X pins σ H s) (e : H a = some (.ins C dx fs)) (c : Cls X.K C) (n : NoAttr X.K C f) (hl : fs.length < 1000) (ry : RelV y u)
    (h : ∀ s', Inv X pins σ (upd H a (.ins C dx (putF f y fs))) s' → Q () s') : wpAny (model X.prog X.w) A (setAttr (.ref a) f u) Q E s := by
  obtain ⟨mA, O, r, wi, _, ho⟩ := ins_get I.hok e
  have hz : (fs.map (·.1)).length ≤ sizeLine := by rw [List.length_map, sizeLine_eq]; omega
  refine set_map I.kIn O c.sa c.po n.taker c.hd wi hz fun h' O' sb => h _ ?_
  have hd : ∃ o, h'.get? dx = some o := let ⟨o, _, _, e', _⟩ := O'.ns; ⟨o, e'⟩
  refine I.write (x := a) (e := dx) (by rw [e]; exact True.intro) (.inr ho) (fun b q hb z => (sb.2 b hb).trans z) hd ?_
  refine ⟨by rw [upd_ne O.ne]; exact ho, ?_, O.ne, O'.obj, _, O'.ns, fun g => ?_, fun g hg => ?_⟩
  · have := length_putF f y fs; omega
  · show RelO ((putF f y fs).lookup g) (if g = f then some u else mA g)
    rw [lookup_putF]
    by_cases q : g = f
    · rw [if_pos q, if_pos q]; exact ry
    · rw [if_neg q, if_neg q]; exact r g
  · by_cases q : g = f
    · rw [q]; exact (keys_putF f y fs).1
    · refine (keys_putF f y fs).2 g (wi g fun z => hg ?_)
      show (if g = f then some u else mA g) = none
      rw [if_neg q]; exact z
theorem Inv.made (I : Inv X pins σ H s) : Inv X pins σ (upd (upd H s.heap.objs.size (.own (s.heap.objs.size + 1))) (s.heap.objs.size + 1) (.ins C s.heap.objs.size []))
    { s with heap := (s.heap.push PySem.W.emptyDict).push (PySem.W.instObj C s.heap.objs.size) } := by
  have e1 : (s.heap.push PySem.W.emptyDict).get? s.heap.objs.size = some PySem.W.emptyDict := Heap.get?_push_size s.heap rfl
  have e2 : ((s.heap.push PySem.W.emptyDict).push (PySem.W.instObj C s.heap.objs.size)).get? (s.heap.objs.size + 1) = some (PySem.W.instObj C s.heap.objs.size) := by
    have := Heap.get?_push_size (s.heap.push PySem.W.emptyDict) (o := PySem.W.instObj C s.heap.objs.size) rfl
    rwa [Heap.size_push] at this
  have e3 : (s.heap.push PySem.W.emptyDict).Ns s.heap.objs.size (fun _ => none) := ⟨PySem.W.emptyDict, #[], _, e1, rfl, (fun e he => absurd he (by simp)), fun _ => rfl⟩
  have I1 := I.laid (a := s.heap.objs.size) (o := .own (s.heap.objs.size + 1)) (h' := s.heap.push PySem.W.emptyDict) (t' := s.toks) (fun b u q => Heap.get?_push_of_some _ q) (Nat.le_refl _) ⟨_, e1⟩
  refine I1.laid (a := s.heap.objs.size + 1) (o := .ins C s.heap.objs.size []) (t' := s.toks) (fun b u q => Heap.get?_push_of_some _ q) (Nat.le_of_eq (Heap.size_push _ _)) ?_
  have ne : s.heap.objs.size ≠ s.heap.objs.size + 1 := Nat.ne_of_lt (Nat.lt_succ_self _)
  refine ⟨by rw [upd_ne ne, upd_same], Nat.zero_le _, ne, e2, fun _ => none, (Heap.Ns1.of_empty e3).at fun o q => Heap.get?_push_of_some _ q, fun _ => True.intro, fun y hy => absurd rfl hy⟩
theorem attr_of {prog : Program} {w : World} {env : Env} {e : Expr} {f : Str} {pos : Pos} {s : Shared} {Q : Value → Shared → Prop} (hb : attributeBase e f env (eval e env) = eval e env)
    (h : wpAny (model prog w) A (eval e env) (fun o s₁ => wpAny (model prog w) A (getAttr o f true) Q E s₁) E s) : wpAny (model prog w) A (eval (.Attribute e f pos) env) Q E s :=
  Attribute_any_ h (by rw [arm_eval_Attribute, hb])
end
section
variable {X : Cx} {o e value : Expr} {f : Str} {pos pos' tpos : Pos} {ta tv : TE}
end
section
variable {X : Cx} {pins : List (Addr × Obj)} {σ : St} {H : Hp} {s : Shared} {A : Around} {E : Value → Shared → Prop} {Q : Value → Shared → Prop} {c : Value} {b : Bool}
inductive TyOf (K : PySem.W.Frag) (H : Hp) : V → Value → Prop where
  | non : TyOf K H .non (.type "NoneType")
  | bl (x : Bool) : TyOf K H (.bl x) (.type "bool")
  | int (i : Int) : TyOf K H (.int i) (.type "int")
  | str (x : Str) : TyOf K H (.str x) (.type "str")
  | flt (x : UInt64) : TyOf K H (.flt x) (.type "float")
  | lst {a : Addr} {xs : List V} (e : H a = some (.lst xs)) : TyOf K H (.ref a) (.type "list")
  | frz {a : Addr} {o : Obj} {xs : List V} (e : H a = some (.frz o (.lst xs))) : TyOf K H (.ref a) (.type "list")
  | tup {a : Addr} {xs : List V} (e : H a = some (.tup xs)) : TyOf K H (.ref a) (.type "tuple")
  | dK {a : Addr} {kvs : List (Key × V)} (e : H a = some (.dK kvs)) : TyOf K H (.ref a) (.type "dict")
  | dT {a : Addr} {kvs : List (List Key × V)} (e : H a = some (.dT kvs)) : TyOf K H (.ref a) (.type "dict")
  | ins {a C dx : Addr} {fs : List (Str × V)} (e : H a = some (.ins C dx fs)) (cl : Cls K C) (ha : PySem.W.findIn K (.ref C) "__class__" = some (some (.builtin "object.__class__")))
      (hn : PySem.W.specialIn K (.builtin "object.__class__") "__get__" = some (some (.builtin "getset_descriptor.__get__"))) (htk : PySem.W.takesIn K (.builtin "object.__class__") = some true)
      (hm : PySem.W.mroIn K C (.type "object") = some true) : TyOf K H (.ref a) (.ref C)
theorem isinst_ok {x : V} {u t : Value} (I : Inv X pins σ H s) (rx : RelV x u) (ty : TyOf X.K H x t) (e : PySem.W.kitOne X.K t c = some b) (h : ∀ tk, Q (.bool b) { s with toks := tk }) :
    wpAny (model X.prog X.w) A (call (.builtin "isinstance") [u, c]) Q E s := by
  cases ty with
  | non => cases (show u = Value.none from rx); exact PySem.W.kia_one PySem.W.kitx_none I.kIn True.intro e (fun z => nomatch z) h
  | bl y => cases (show u = Value.bool y from rx); exact PySem.W.kia_one PySem.W.kitx_bool I.kIn True.intro e (fun z => nomatch z) h
  | int i => obtain ⟨t, q⟩ := (show ∃ t, u = Value.int i t from rx); cases q; exact PySem.W.kia_one PySem.W.kitx_int I.kIn True.intro e (fun z => nomatch z) h
  | str y => obtain ⟨t, q⟩ := (show ∃ t, u = Value.str y t from rx); cases q; exact PySem.W.kia_one PySem.W.kitx_str I.kIn True.intro e (fun z => nomatch z) h
  | flt y => obtain ⟨t, q⟩ := (show ∃ t, u = Value.float y t from rx); cases q; exact PySem.W.kia_one PySem.W.kitx_float I.kIn True.intro e (fun z => nomatch z) h
  | @lst a xs ea =>
    cases (show u = Value.ref a from rx)
    obtain ⟨_, _, n, _, h1⟩ := (show ObjOk X.prog X.w H s.heap a (.lst xs) from I.hok a _ ea)
    exact PySem.W.kia_one PySem.W.kitx_list I.kIn ⟨_, h1, rfl⟩ e (fun z => nomatch z) h
  | @frz a ob xs ea =>
    cases (show u = Value.ref a from rx)
    obtain ⟨_, _, _, n, _, h1⟩ := (show ObjOk X.prog X.w H s.heap a (.frz ob (.lst xs)) from I.hok a _ ea)
    exact PySem.W.kia_one PySem.W.kitx_list I.kIn ⟨_, h1, rfl⟩ e (fun z => nomatch z) h
  | @tup a xs ea =>
    cases (show u = Value.ref a from rx)
    obtain ⟨_, _, _, p⟩ := (show ObjOk X.prog X.w H s.heap a (.tup xs) from I.hok a _ ea)
    obtain ⟨o, h1, h2, _⟩ := p
    exact PySem.W.kia_one PySem.W.kitx_tuple I.kIn ⟨o, h1, h2⟩ e (fun z => nomatch z) h
  | @dK a kvs ea =>
    cases (show u = Value.ref a from rx)
    obtain ⟨_, _, vs, _, p⟩ := (show ObjOk X.prog X.w H s.heap a (.dK kvs) from I.hok a _ ea)
    obtain ⟨o, es, ep, h1, h2, _⟩ := p
    exact PySem.W.kia_one PySem.W.kitx_dict I.kIn ⟨o, h1, h2.1⟩ e (fun z => nomatch z) h
  | @dT a kvs ea =>
    cases (show u = Value.ref a from rx)
    obtain ⟨_, _, xs, _, o, es, ep, h1, h2, _⟩ := (show ObjOk X.prog X.w H s.heap a (.dT kvs) from I.hok a _ ea)
    exact PySem.W.kia_one PySem.W.kitx_dict I.kIn ⟨o, h1, h2.1⟩ e (fun z => nomatch z) h
  | @ins a C dx fs ea cl ha hn htk hm =>
    cases (show u = Value.ref a from rx)
    obtain ⟨mA, O, _⟩ := ins_get I.hok ea
    obtain ⟨od, J, _⟩ := O.look
    exact PySem.W.kia_one (PySem.W.kitx_own (cl.get _) cl.hd ha hn htk hm) I.kIn J e (fun z => nomatch z) h
end
end L2
namespace L2
open PySem PySem.Spec PyProof.Rows
structure Room (k : Nat) (A : Around) : Prop where
  hd : A.handled = none
  dp : A.depth + 3 * k + 5 < recursionLimit
  un : A.units + 16 * k + 200 < cLine
theorem Room.mono {j k : Nat} {A : Around} (r : Room k A) (h : j ≤ k) : Room j A := ⟨r.hd, by have := r.dp; omega, by have := r.un; omega⟩
theorem Room.deeper {k : Nat} {A : Around} (r : Room (k + 1) A) (env : Env) : Room k (A.deeper env) :=
  ⟨r.hd, by have := r.dp; show A.depth + 1 + 3 * k + 5 < _; omega, by have := r.un; show A.units + 3 + 16 * k + 200 < _; omega⟩
theorem make_depth {A : Around} {C : Addr} {us : List Value} {kw : List (Str × Value)} : (A.under (.builtin "type.__call__" ⟨.ref C :: us, kw⟩)).depth = A.depth + 1 := by
  first | rfl | simp [Around.under, Code.weight, Code.isCreation, Code.isGuard, Code.isCaller, Code.frames, Code.isFrame, guardIds]
theorem make_units {A : Around} {C : Addr} {us : List Value} {kw : List (Str × Value)} : (A.under (.builtin "type.__call__" ⟨.ref C :: us, kw⟩)).units = A.units + 1 := by
  first | rfl | simp [Around.under, Code.cUnits, Code.frames, Code.isFrame]
theorem Room.make {k : Nat} {A : Around} (r : Room (k + 1) A) (C : Addr) (us : List Value) (kw : List (Str × Value)) : Room k (A.under (.builtin "type.__call__" ⟨.ref C :: us, kw⟩)) :=
  ⟨r.hd, by have := r.dp; rw [make_depth]; omega, by have := r.un; rw [make_units]; omega⟩
theorem Room.depth {k : Nat} {A : Around} (r : Room k A) : A.depth < recursionLimit := by have := r.dp; omega
theorem Room.units {k : Nat} {A : Around} (r : Room k A) : A.units + 64 < cLine := by have := r.un; omega
theorem Room.units0 {k : Nat} {A : Around} (r : Room k A) : A.units < cLine := by have := r.un; omega
noncomputable def tNil : TA := fun _ H Q => Q [] H
noncomputable def tCons (ta : TE) (tr : TA) : TA := fun σ H Q => ta σ H fun x H1 => tr σ H1 fun xs H2 => Q (x :: xs) H2
section
variable {X : Cx} {e : Expr} {es : List Expr} {te : TE} {t : TA} {pos : Pos}
theorem pa_nil : PA X [] tNil := fun _ _ _ _ H Q I h => Calls.spliced_nil ⟨[], H, I, .nil, h⟩
theorem pa_cons (ha : PE X e te) (hr : PA X es t) (hs : starEach (e :: es) X.env = (false, eval e X.env) :: starEach es X.env := by rfl) : PA X (e :: es) (tCons te t) := by
  intro pos pins s σ H Q I h
  rw [hs]
  show wpAny _ _ (spliced ((false, eval e X.env) :: backTo pos (starEach es X.env))) _ _ s
  refine Calls.spliced_cons (thn (ha pins s σ H _ I h) fun u s1 ⟨x, H1, I1, r1, q1⟩ => ?_)
  exact thn (hr pos pins s1 σ H1 _ I1 q1) fun us s2 ⟨xs, H2, I2, r2, q2⟩ => ⟨x :: xs, H2, I2, .cons r1 r2, q2⟩
noncomputable def tTup (t : TA) : TE := fun σ H Q => t σ H fun xs H1 => xs.length ≤ sizeLine ∧ ∀ p, H1 p = none → Q (.ref p) (upd H1 p (.tup xs))
noncomputable def tLst (t : TA) : TE := fun σ H Q => t σ H fun xs H1 => xs.length ≤ sizeLine ∧ ∀ p, H1 p = none → Q (.ref p) (upd H1 p (.lst xs))
theorem pe_tup {x1} (h : PA X es t) : PE X (.Tuple es x1 pos) (tTup t) := by
  intro pins s σ H Q I hq
  refine wpAny_Tuple_spliced (thn (h pos pins s σ H _ I hq) fun us s1 ⟨xs, H1, I1, r, z, q⟩ => ⟨by rw [← r.length]; exact z, ?_⟩)
  have hf : H1 s1.heap.objs.size = none := I1.hok.fresh (Nat.le_refl _)
  refine ⟨.ref s1.heap.objs.size, upd H1 s1.heap.objs.size (.tup xs), I1.laid (t' := s1.toks) (fun b u e => Heap.get?_push_of_some _ e) (Nat.le_refl _) ?_, rfl, q _ hf⟩
  exact ⟨z, us, r, ⟨_, Heap.get?_push_size _ rfl, rfl, _, rfl⟩⟩
theorem pe_lst (h : PA X es t) : PE X (.List es pos) (tLst t) := by
  intro pins s σ H Q I hq
  refine wpAny_List_spliced (thn (h pos pins s σ H _ I hq) fun us s1 ⟨xs, H1, I1, r, z, q⟩ => ⟨by rw [← r.length]; exact z, ?_⟩)
  have hf : H1 s1.heap.objs.size = none := I1.hok.fresh (Nat.le_refl _)
  refine ⟨.ref s1.heap.objs.size, upd H1 s1.heap.objs.size (.lst xs), I1.laid (t' := s1.toks) (fun b u e => Heap.get?_push_of_some _ e) (Nat.le_refl _) ?_, rfl, q _ hf⟩
  exact ⟨z, us, 0, r, Heap.get?_push_size _ rfl⟩
end
noncomputable abbrev Sp := List V → Hp → VK → XK → Prop
noncomputable abbrev CXT := List Env → Hp → Shared → XK → Value → Shared → Prop
structure Env0 (P : Program) (w : World) (K : PySem.W.Frag) (mg : Str → Option Value) (base : Heap) (A : Around) (outer : List Env) (s : Shared) (H : Hp) : Prop where
  frames : A.frames = some outer
  mod : Mod K mg base
  bs : ∀ b o, base.get? b = some o → s.heap.get? b = some o ∧ H b = none
  bsz : base.objs.size ≤ s.heap.objs.size
  funs : s.heap.FunFrames base outer
  frf : ∀ b ∈ frs outer, H b = none
  hok : HOk P w H s.heap
  bare : AllBare s.gens
noncomputable def CE (outer : List Env) (P : Program) (w : World) (H : Hp) (s : Shared) (Q : VK) (u : Value) (s' : Shared) : Prop :=
  ∃ v H', s'.os = s.os ∧ AllBare s'.gens ∧ Un (frs outer) [] H H' s.heap s'.heap ∧ HOk P w H' s'.heap ∧ RelV v u ∧ Q v H'
noncomputable def CR (CX : CXT) (outer : List Env) (P : Program) (w : World) (H : Hp) (s : Shared) (Q : VK) (E : XK) (r : Result) (s' : Shared) : Prop :=
  match r with
  | .ok (.ret u) => CE outer P w H s Q u s'
  | .ok _ => False
  | .error e => CX outer H s E e s'
structure FnOk (P : Program) (w : World) (K : PySem.W.Frag) (mg : Str → Option Value) (base : Heap) (CX : CXT) (k : Nat) (f : Addr) (fd : FuncData) (ps : List Str) (sp : Sp) : Prop where
  len : ∀ vs H Q E, sp vs H Q E → vs.length = ps.length
  run : ∀ (A : Around) (outer : List Env) (s : Shared) (H : Hp) (args : Args) (us : List Value) (vs : List V) (Q : VK) (E : XK), Room k A → Env0 P w K mg base A outer s H → BindsTo s fd args (ps.zip us) → Vals vs us → sp vs H Q E →
    codeAny (model P w) A (.call (.ref f) args) (CR CX outer P w H s Q E) s
theorem FnOk.mono {P : Program} {w : World} {K : PySem.W.Frag} {mg : Str → Option Value} {base : Heap} {CX : CXT} {j k : Nat} {f : Addr} {fd : FuncData} {ps : List Str} {sp : Sp} (F : FnOk P w K mg base CX j f fd ps sp) (h : j ≤ k) :
    FnOk P w K mg base CX k f fd ps sp := ⟨F.len, fun A outer s H args us vs Q E hr => F.run A outer s H args us vs Q E (hr.mono h)⟩
theorem Env0.make {P : Program} {w : World} {K : PySem.W.Frag} {mg : Str → Option Value} {base : Heap} {A : Around} {outer : List Env} {s : Shared} {H : Hp} (e : Env0 P w K mg base A outer s H) (C : Addr) (us : List Value) (kw : List (Str × Value)) :
    Env0 P w K mg base (A.under (.builtin "type.__call__" ⟨.ref C :: us, kw⟩)) outer s H := ⟨by first | exact e.frames | (simpa [Around.under, Code.envs, Code.isFrame, pushEnvs] using e.frames), e.mod, e.bs, e.bsz, e.funs, e.frf, e.hok, e.bare⟩
section
variable {X : Cx} {pins : List (Addr × Obj)} {σ : St} {H : Hp} {s s' : Shared}
theorem Inv.env0 (I : Inv X pins σ H s) : Env0 X.prog X.w X.K X.mg X.base X.A X.stack s H :=
  ⟨I.ok.frames, I.ok.mod, I.bs, Nat.le_trans I.ok.bsz I.sz, I.stack, I.stkFree, I.hok, I.bare⟩
theorem Inv.after {Q : VK} {u : Value} (I : Inv X pins σ H s) (h : CE X.stack X.prog X.w H s Q u s') : EP X pins σ Q u s' := by
  obtain ⟨v, H', os, bare, un, hok, r, q⟩ := h
  obtain ⟨hh, g, d, t, os'⟩ := s'
  obtain rfl : os' = s.os := os
  exact ⟨v, H', I.call (h' := hh) (g' := g) (d' := d) (t' := t) (ch := []) un hok bare (fun b z => absurd z (by simp)), r, q⟩
end
noncomputable def tCall (sp : Sp) (dvs : List V) (E : XK) (t : TA) : TE := fun σ H Q => t σ H fun vs H1 => sp (vs ++ dvs) H1 Q E
noncomputable def tMeth (C : Addr) (m : Str) (sp : Sp) (dvs : List V) (E : XK) (ta : TE) (t : TA) : TE := fun σ H Q => ta σ H fun x H1 => ∃ a dx fs, x = .ref a ∧ H1 a = some (.ins C dx fs) ∧ fs.lookup m = none ∧
  t σ H1 fun vs H2 => sp (x :: (vs ++ dvs)) H2 Q E
noncomputable def tMake (C : Addr) (sp : Sp) (dvs : List V) (E : XK) (t : TA) : TE := fun σ H Q => t σ H fun vs H1 => ∀ x dx, H1 x = none → H1 dx = none → dx ≠ x →
  sp (.ref x :: (vs ++ dvs)) (upd (upd H1 dx (.own x)) x (.ins C dx [])) (fun v H2 => v = .non ∧ Q (.ref x) H2) E
noncomputable def Binds (K : PySem.W.Frag) (fd : FuncData) (ps : List Str) (ds : List Value) : Prop :=
  ∀ (s : Shared) (us : List Value), K.In s.heap → (us ++ ds).length = ps.length → BindsTo s fd ⟨us, []⟩ (ps.zip (us ++ ds))
theorem Binds.all {K : PySem.W.Frag} {fd : FuncData} {ps : List Str} (h : ∀ us : List Value, us.length = ps.length → bindArgs fd ⟨us, []⟩ = pure (ps.zip us)) : Binds K fd ps [] := fun s us _ hl => by
  rw [List.append_nil] at hl ⊢
  exact .of_eq (h us hl)
noncomputable def Passes (CX : CXT) (X : Cx) (E : XK) : Prop := ∀ (pins : List (Addr × Obj)) (σ : St) (H : Hp) (s : Shared) (e : Value) (s' : Shared), Inv X pins σ H s → CX X.stack H s E e s' → X.xe e s'
section
variable {X : Cx} {CX : CXT} {k : Nat} {f C : Addr} {fd : FuncData} {ps : List Str} {sp : Sp} {dvs : List V} {ds : List Value} {E : XK} {x m : Str} {p pos apos : Pos} {e o : Expr} {es : List Expr} {ta : TE} {t : TA}
theorem run_fn {pins : List (Addr × Obj)} {σ : St} {H : Hp} {s : Shared} {Q : VK} {us : List Value} {vs : List V} (F : FnOk X.prog X.w X.K X.mg X.base CX k f fd ps sp) (hr : Room k X.A) (hb : Binds X.K fd ps ds) (hd : Vals dvs ds) (hx : Passes CX X E)
    (I : Inv X pins σ H s) (r : Vals vs us) (h : sp (vs ++ dvs) H Q E) : wpAny (model X.prog X.w) X.A (call (.ref f) us) (EP X pins σ Q) X.xe s := by
  have r2 : Vals (vs ++ dvs) (us ++ ds) := r.append hd
  have hl : (us ++ ds).length = ps.length := by rw [← r2.length]; exact F.len _ _ _ _ h
  refine wpAny_call (codeAny_mono (F.run X.A X.stack s H ⟨us, []⟩ (us ++ ds) (vs ++ dvs) Q E hr I.env0 (hb s us I.kIn hl) r2 h) fun r s' hq => ?_)
  cases r with
  | error e => exact hx pins σ H s e s' I hq
  | ok fl =>
    cases fl with
    | ret u => exact I.after hq
    | next => exact False.elim hq
    | brk => exact False.elim hq
    | cont => exact False.elim hq
theorem pe_call (F : FnOk X.prog X.w X.K X.mg X.base CX k f fd ps sp) (hr : Room k X.A) (hg : Gl X x) (hm : X.mg x = some (.ref f)) (hk : PySem.W.keepIn X.K (.ref f) = true) (hb : Binds X.K fd ps ds) (hd : Vals dvs ds) (hx : Passes CX X E)
    (ha : PA X (e :: es) t) (hdb : (x == ("__debug__" : Str)) = false := by decide) (he : starEach (e :: es) X.env = (false, eval e X.env) :: starEach es X.env := by rfl) (hpl : (backTo pos (starEach es X.env)).any (·.1) = false := by rfl) :
    PE X (.Call (.Name x p) (e :: es) [] pos) (tCall sp dvs E t) := by
  intro pins s σ H Q I h
  refine wpAny_Call_Name_kw (ld_glob I hg hm ?_ hdb)
  refine PySem.W.callWith_K (h₀ := X.base) I.ok.mod.kin hk (thn (ha pos pins s σ H _ I h) fun us s1 ⟨vs, H1, I1, r, q⟩ => ⟨I1.kIn, ?_⟩) he hpl
  exact run_fn F hr hb hd hx I1 r q
theorem pe_meth {pl : Sem Bool} (he : PE X o ta) (c : Cls X.K C) (hm : Meth X.K C m f) (F : FnOk X.prog X.w X.K X.mg X.base CX k f fd ps sp) (hr : Room k X.A) (hb : Binds X.K fd ps ds) (hd : Vals dvs ds) (hx : Passes CX X E) (ha : PA X (e :: es) t)
    (hst : starEach (e :: es) X.env = (false, eval e X.env) :: starEach es X.env := by rfl) (hpl : (backTo pos (starEach es X.env)).any (·.1) = false := by rfl)
    (ht : eval (.Call (.Attribute o m apos) (e :: es) [] pos) X.env = (do
      let ov ← eval o X.env
      standAt apos.atName
      let (f, first) ← holding [ov] (getMethod ov m pl)
      callWith pos f first (backTo pos (starEach (e :: es) X.env)) (backToKw pos (keywordEach [] X.env))) := by rfl) :
    PE X (.Call (.Attribute o m apos) (e :: es) [] pos) (tMeth C m sp dvs E ta t) := by
  intro pins s σ H Q I h
  refine PySem.W.methodCall_KW (pl := pl) (thn (he pins s σ H _ I h) fun u s1 ⟨x, H1, I1, rx, a, dx, fs, ex, ea, l, q⟩ => ?_) ht
  subst ex
  obtain rfl : u = Value.ref a := rx
  refine getmeth_ok I1 ea c hm l ?_
  refine PySem.W.callWith_K (first := [.ref a]) (h₀ := X.base) I.ok.mod.kin hm.kp (thn (ha pos pins s1 σ H1 _ I1 q) fun us s2 ⟨vs, H2, I2, r, q2⟩ => ⟨I2.kIn, ?_⟩) hst hpl
  exact run_fn (us := .ref a :: us) (vs := .ref a :: vs) F hr hb hd hx I2 (.cons rfl r) q2
theorem pe_meth0 {pl : Sem Bool} (he : PE X o ta) (c : Cls X.K C) (hm : Meth X.K C m f) (F : FnOk X.prog X.w X.K X.mg X.base CX k f fd ps sp) (hr : Room k X.A) (hb : Binds X.K fd ps ds) (hd : Vals dvs ds) (hx : Passes CX X E)
    (ht : eval (.Call (.Attribute o m apos) [] [] pos) X.env = (do
      let ov ← eval o X.env
      standAt apos.atName
      let (f, first) ← holding [ov] (getMethod ov m pl)
      callWith pos f first (backTo pos (starEach [] X.env)) (backToKw pos (keywordEach [] X.env))) := by rfl) :
    PE X (.Call (.Attribute o m apos) [] [] pos) (tMeth C m sp dvs E ta tNil) := by
  intro pins s σ H Q I h
  refine PySem.W.methodCall_KW (pl := pl) (thn (he pins s σ H _ I h) fun u s1 ⟨x, H1, I1, rx, a, dx, fs, ex, ea, l, q⟩ => ?_) ht
  subst ex
  obtain rfl : u = Value.ref a := rx
  refine getmeth_ok I1 ea c hm l ?_
  exact PySem.W.callWith_K0 (first := [.ref a]) I1.kIn hm.kp (run_fn (us := [.ref a]) (vs := [.ref a]) F hr hb hd hx I1 (.cons rfl .nil) q)
structure Mk (K : PySem.W.Frag) (C f : Addr) : Prop where
  makes : PySem.W.makesIn K C = true
  init : PySem.W.findIn K (.ref C) "__init__" = some (some (.ref f))
  fn : PySem.W.isFn K (.ref f) = true
  kp : PySem.W.keepIn K (.ref C) = true
theorem run_make {pins : List (Addr × Obj)} {σ : St} {H : Hp} {s : Shared} {Q : VK} {us : List Value} {vs : List V} (M : Mk X.K C f) (F : FnOk X.prog X.w X.K X.mg X.base CX k f fd ps sp) (hr : Room (k + 1) X.A) (hb : Binds X.K fd ps ds) (hd : Vals dvs ds)
    (hx : Passes CX X E) (I : Inv X pins σ H s) (r : Vals vs us)
    (h : ∀ x dx, H x = none → H dx = none → dx ≠ x → sp (.ref x :: (vs ++ dvs)) (upd (upd H dx (.own x)) x (.ins C dx [])) (fun v H2 => v = .non ∧ Q (.ref x) H2) E) :
    wpAny (model X.prog X.w) X.A (call (.ref C) us) (EP X pins σ Q) X.xe s := by
  have hq := h (s.heap.objs.size + 1) s.heap.objs.size (I.hok.fresh (Nat.le_succ _)) (I.hok.fresh (Nat.le_refl _)) (Nat.ne_of_lt (Nat.lt_succ_self _))
  have I2 := Inv.made (C := C) I
  have r2 : Vals (V.ref (s.heap.objs.size + 1) :: (vs ++ dvs)) (Value.ref (s.heap.objs.size + 1) :: (us ++ ds)) := .cons rfl (r.append hd)
  have hl : (Value.ref (s.heap.objs.size + 1) :: us ++ ds).length = ps.length := by
    have e := r2.length
    rw [F.len _ _ _ _ hq] at e
    exact e.symm
  refine wpAny_call (make_map (f := f) I.kIn M.makes M.init (beq_iff_eq.mp M.fn) (codeAny_mono (F.run _ X.stack _ _ ⟨Value.ref (s.heap.objs.size + 1) :: us, []⟩ (Value.ref (s.heap.objs.size + 1) :: (us ++ ds)) _ _ E (hr.make C us [])
    (I2.env0.make C us []) (hb _ (Value.ref (s.heap.objs.size + 1) :: us) I2.kIn hl) r2 hq) fun r s' hq' => ?_))
  cases r with
  | error e => exact hx pins σ _ _ e s' I2 hq'
  | ok fl =>
    cases fl with
    | ret u =>
      obtain ⟨v, H', I3, rv, ev, q3⟩ := I2.after hq'
      subst ev
      exact ⟨rv, ⟨V.ref (s.heap.objs.size + 1), H', I3, rfl, q3⟩⟩
    | next => exact False.elim hq'
    | brk => exact False.elim hq'
    | cont => exact False.elim hq'
theorem pe_make (M : Mk X.K C f) (F : FnOk X.prog X.w X.K X.mg X.base CX k f fd ps sp) (hr : Room (k + 1) X.A) (hg : Gl X x) (hm : X.mg x = some (.ref C)) (hb : Binds X.K fd ps ds) (hd : Vals dvs ds) (hx : Passes CX X E)
    (ha : PA X (e :: es) t) (hdb : (x == ("__debug__" : Str)) = false := by decide) (he : starEach (e :: es) X.env = (false, eval e X.env) :: starEach es X.env := by rfl) (hpl : (backTo pos (starEach es X.env)).any (·.1) = false := by rfl) :
    PE X (.Call (.Name x p) (e :: es) [] pos) (tMake C sp dvs E t) := by
  intro pins s σ H Q I h
  refine wpAny_Call_Name_kw (ld_glob I hg hm ?_ hdb)
  refine PySem.W.callWith_K (h₀ := X.base) I.ok.mod.kin M.kp (thn (ha pos pins s σ H _ I h) fun us s1 ⟨vs, H1, I1, r, q⟩ => ⟨I1.kIn, ?_⟩) he hpl
  exact run_make M F hr hb hd hx I1 r q
end
section
variable {X : Cx} {CX : CXT} {k : Nat} {f C : Addr} {fd : FuncData} {ps ks : List Str} {sp : Sp} {E : XK} {x m : Str} {p pos apos kpos : Pos} {e o : Expr} {es : List Expr} {kws : List Keyword} {te ta : TE} {t tk : TA} {nm : Option Str}
variable {g : List Value → List Value → List Value} {gV : List V → List V → List V}
end
structure FnScope (N P : List Str) (sc : Scope) : Prop where
  kind : sc.kind = .function
  co : sc.isCoroutine = false
  gen : sc.isGenerator = false
  nd : N.Nodup
  pre : N.take P.length = P
  par : ∀ x ∈ P, sc.names.lookup x = some .local ∨ sc.names.lookup x = some .cell
  nofree : ∀ y ∈ sc.names, y.2 ≠ .free
theorem bindL_out {kindOf : Str → Option NameKind} {x : Str} : ∀ {binds : List (Str × Value)} {m : Str → Option Value}, (∀ v, (x, v) ∉ binds) → bindL kindOf binds m x = m x
  | [], _, _ => rfl
  | (n, v) :: r, m, h => by
    unfold bindL
    rw [bindL_out fun w hw => h w (List.mem_cons_of_mem _ hw)]
    split
    · have : x ≠ n := by rintro rfl; exact h v List.mem_cons_self
      simp [this]
    · rfl
theorem bindC_out {kindOf : Str → Option NameKind} {x : Str} : ∀ {binds : List (Str × Value)} {m : Str → Option Value}, (∀ v, (x, v) ∉ binds) → bindC kindOf binds m x = m x
  | [], _, _ => rfl
  | (n, v) :: r, m, h => by
    unfold bindC
    rw [bindC_out fun w hw => h w (List.mem_cons_of_mem _ hw)]
    split
    · rfl
    · have : x ≠ n := by rintro rfl; exact h v List.mem_cons_self
      simp [this]
theorem bindL_get {kindOf : Str → Option NameKind} {x : Str} {v : Value} : ∀ {P : List Str} {vs : List Value} {i : Nat} {m : Str → Option Value}, P.Nodup → P[i]? = some x → vs[i]? = some v → kindOf x = some .local →
    bindL kindOf (P.zip vs) m x = some v
  | [], _, _, _, _, h, _, _ => by simp at h
  | _ :: _, [], _, _, _, _, h, _ => by simp at h
  | p :: P, w :: vs, 0, m, nd, h1, h2, hk => by
    simp at h1 h2; subst h1; subst h2
    show bindL kindOf ((p, w) :: P.zip vs) m p = _
    unfold bindL
    rw [bindL_out fun v hv => (List.nodup_cons.mp nd).1 (List.of_mem_zip hv).1, if_pos hk]
    simp
  | p :: P, w :: vs, i + 1, m, nd, h1, h2, hk => by
    show bindL kindOf ((p, w) :: P.zip vs) m x = _
    unfold bindL
    exact bindL_get (i := i) (List.nodup_cons.mp nd).2 (by simpa using h1) (by simpa using h2) hk
theorem bindC_get {kindOf : Str → Option NameKind} {x : Str} {v : Value} : ∀ {P : List Str} {vs : List Value} {i : Nat} {m : Str → Option Value}, P.Nodup → P[i]? = some x → vs[i]? = some v → kindOf x ≠ some .local →
    bindC kindOf (P.zip vs) m x = some v
  | [], _, _, _, _, h, _, _ => by simp at h
  | _ :: _, [], _, _, _, _, h, _ => by simp at h
  | p :: P, w :: vs, 0, m, nd, h1, h2, hk => by
    simp at h1 h2; subst h1; subst h2
    show bindC kindOf ((p, w) :: P.zip vs) m p = _
    unfold bindC
    rw [bindC_out fun v hv => (List.nodup_cons.mp nd).1 (List.of_mem_zip hv).1, if_neg hk]
    simp
  | p :: P, w :: vs, i + 1, m, nd, h1, h2, hk => by
    show bindC kindOf ((p, w) :: P.zip vs) m x = _
    unfold bindC
    exact bindC_get (i := i) (List.nodup_cons.mp nd).2 (by simpa using h1) (by simpa using h2) hk
noncomputable def start (N : List Str) (vs : List V) : St := vs.map some ++ List.replicate (N.length - vs.length) none
noncomputable def cxOf (CX : CXT) (P : Program) (w : World) (K : PySem.W.Frag) (mg : Str → Option Value) (base : Heap) (N : List Str) (qual : Str) (scope : Scope) (f : Addr) (cd : Value) (A : Around) (outer : List Env) (s : Shared) (H : Hp) (E : XK) : Cx where
  prog := P
  w := w
  K := K
  mg := mg
  base := base
  A := A.deeper (envOfC qual scope s.heap.objs.size f cd)
  N := N
  s₀ := s
  H₀ := H
  env := envOfC qual scope s.heap.objs.size f cd
  outer := outer
  stack := envOfC qual scope s.heap.objs.size f cd :: outer
  ex := []
  calm := true
  fn := fun _ => true
  pn := []
  xe := fun e s' => wpAny (model P w) (A.deeper (envOfC qual scope s.heap.objs.size f cd)) (leaving (envOfC qual scope s.heap.objs.size f cd) e) (fun _ s'' => CX outer H s E e s'') (fun e' s'' => CX outer H s E e' s'') s'
theorem cell_has {sc : Scope} {n : Nat} {x : Str} (h : sc.names.lookup x = some .cell) : ∃ c, (cellsFrom n sc.names []).lookup x = some c := by
  have q := PySem.W.cellsFrom_some sc.names n [] (.inl h)
  exact Option.isSome_iff_exists.mp q
theorem inv_start {CX : CXT} {P : Program} {w : World} {K : PySem.W.Frag} {mg : Str → Option Value} {base : Heap} {N ps : List Str} {qual : Str} {scope : Scope} {f : Addr} {cd : Value} {A : Around} {outer : List Env} {s s1 : Shared} {H : Hp} {E : XK} {us : List Value} {vs : List V}
    (S : FnScope N ps scope) (hd : A.handled = none) (e0 : Env0 P w K mg base A outer s H) (hl : vs.length = ps.length) (r : Vals vs us)
    (x : InCallC s s.heap.objs.size (bindL (envOfC qual scope s.heap.objs.size f cd).kindOf (ps.zip us) fun _ => none) (cellsFrom (s.heap.objs.size + 1) scope.names []) (bindC (envOfC qual scope s.heap.objs.size f cd).kindOf (ps.zip us) fun _ => none) s1) :
    Inv (cxOf CX P w K mg base N qual scope f cd A outer s H E) [] (start N vs) H s1 := by
  have hpl : ps.length ≤ N.length := by have := congrArg List.length S.pre; rw [List.length_take] at this; omega
  obtain ⟨h1, tk, rfl, hk⟩ := x.done
  have noA : ∀ b : Addr, b ∉ (cxOf CX P w K mg base N qual scope f cd A outer s H E).ex := fun b z => absurd (show b ∈ ([] : List Addr) from z) (by simp)
  refine ⟨⟨e0.mod, S.kind, rfl, rfl, Nat.le_refl _, fun y z c h1 h2 => ?_, fun y hy => ?_, fun y c _ h => ?_, fun _ => hd, Around.frames_deeper e0.frames, .inr ⟨rfl, rfl⟩, fun b z => absurd z (noA b), e0.bs, e0.bsz, fun b _ _ => noA b, fun b z => absurd z (noA b), e0.funs, e0.frf⟩,
    rfl, e0.bare, Un.kept hk, ⟨_, x.toInCall.ns, fun i y v h1 h2 h3 => ?_⟩, fun y c h => ⟨_, x.cell y c h⟩, e0.hok.fresh (Nat.le_refl _), fun y c h => ?_, fun p hp => absurd (show p ∈ ([] : List (Addr × Obj)) from hp) (by simp), e0.hok.kept hk, ?_⟩
  · exact name_of_addr x.apart (PySem.mem_of_lookup h1) (PySem.mem_of_lookup h2)
  · have hy : scope.names.lookup y = some .cell ∨ scope.names.lookup y = some .free := hy
    rcases hy with hy | hy
    · exact cell_has hy
    · exact absurd rfl (S.nofree _ (PySem.mem_of_lookup hy))
  · exact Nat.le_of_lt (x.above y c (PySem.mem_of_lookup h))
  · have hi : i < vs.length := by
      unfold start at h2
      by_cases hi : i < vs.length
      · exact hi
      · rw [List.getElem?_append_right (by simpa using hi)] at h2
        rw [List.getElem?_replicate] at h2
        split at h2 <;> cases h2
    have ha : vs[i]? = some v := by
      unfold start at h2
      rw [List.getElem?_append_left (by simpa using hi), List.getElem?_map] at h2
      cases e : vs[i]? with
      | none => rw [e] at h2; cases h2
      | some a => rw [e] at h2; cases h2; rfl
    obtain ⟨u, hu, rv⟩ := r.get ha
    have hp : ps[i]? = some y := by
      rw [← S.pre, List.getElem?_take_of_lt (by omega)]; exact h1
    have ndP : ps.Nodup := by rw [← S.pre]; exact S.nd.sublist (List.take_sublist _ _)
    refine ⟨u, rv, ?_⟩
    rcases S.par y (List.mem_of_getElem? hp) with k | k
    · exact .inl ⟨k, bindL_get ndP hp hu k⟩
    · obtain ⟨c, e⟩ := cell_has (n := s.heap.objs.size + 1) k
      refine .inr ⟨.inl k, c, e, ?_⟩
      have q := x.cell y c e
      rw [bindC_get ndP hp hu (by show scope.names.lookup y ≠ _; rw [k]; decide)] at q
      exact q
  · exact e0.hok.fresh (Nat.le_of_lt (x.above y c (PySem.mem_of_lookup h)))
  · unfold start
    show _ = N.length
    rw [List.length_append, List.length_map, List.length_replicate]
    omega
theorem fn_of {CX : CXT} {P : Program} {w : World} {K : PySem.W.Frag} {mg : Str → Option Value} {base : Heap} {k : Nat} {f : Addr} {name qual : Str} {params : Arguments} {body : List Stmt} {scope : Scope} {dV kV doc pm cdv ct oc : Value} {an od : Option Addr}
    {osl : Array (Option Value)} {N ps : List Str} {sp : Sp} (lk : K.lookup f = some ⟨oc, od, .func (PySem.W.fnOf name qual params body scope dV kV doc pm an cdv ct), osl⟩) (hcd : PySem.W.codeIn K cdv qual = true) (S : FnScope N ps scope)
    (len : ∀ vs H Q E, sp vs H Q E → vs.length = ps.length)
    (hbody : ∀ (A : Around) (outer : List Env) (s : Shared) (H : Hp) (vs : List V) (Q : VK) (E : XK), Room k (A.deeper (envOfC qual scope s.heap.objs.size f cdv)) → sp vs H Q E →
      ∃ t, PSs (cxOf CX P w K mg base N qual scope f cdv A outer s H E) body t ∧ t { nx := fun _ H' => Q .non H', rt := Q } (start N vs) H) :
    FnOk P w K mg base CX (k + 1) f (PySem.W.fnOf name qual params body scope dV kV doc pm an cdv ct) ps sp := by
  refine ⟨len, fun A outer s H args us vs Q E hr e0 hb r hsp => ?_⟩
  have hl := len _ _ _ _ hsp
  have KX : K.In s.heap := e0.mod.kin.keeps fun b o e => (e0.bs b o e).1
  have lim : s.heap.NoLimit := e0.mod.nolimit.keeps fun b o e => (e0.bs b o e).1
  have hkind : ∀ y ∈ ps.zip us, scope.names.lookup y.1 = some .local ∨ (scope.names.lookup y.1 = some .cell ∧ ((cellsFrom (s.heap.objs.size + 1) scope.names []).lookup y.1).isSome = true) := fun ⟨n, v⟩ hy => by
    rcases S.par n (List.of_mem_zip hy).1 with q | q
    · exact .inl q
    · exact .inr ⟨q, PySem.W.cellsFrom_some _ _ _ (.inl q)⟩
  refine codeAny_call_function hr.depth (KX _ _ lk) rfl S.co S.gen rfl (PySem.W.codeRec_of KX hcd) (hb _ _ _ _ ?_)
  refine wpAny_newFunctionEnv_cells S.kind hkind fun env he s1 x => ?_
  subst he
  refine ⟨lim.keeps x.toInCall.keep, codeAny_func ?_⟩
  obtain ⟨t, ht, hq⟩ := hbody A outer s H vs Q E (hr.deeper _) hsp
  have I : Inv (cxOf CX P w K mg base N qual scope f cdv A outer s H E) [] (start N vs) H s1 := inv_start S hr.hd e0 hl r x
  refine wpAny_mono (ht [] s1 (start N vs) H _ I hq) (fun fl s' hs => ?_) fun e s' hs => hs
  have fin : ∀ {σ' : St} {H' : Hp} {v : V} {u : Value}, Inv (cxOf CX P w K mg base N qual scope f cdv A outer s H E) [] σ' H' s' → RelV v u → Q v H' → CE outer P w H s Q u s' :=
    fun {σ' H' v u} J rv q => ⟨v, H', J.os, J.bare, J.base, J.hok, rv, q⟩
  cases fl with
  | ret u =>
    obtain ⟨v, σ', H', J, rv, q⟩ := hs
    exact fin J rv q
  | next =>
    obtain ⟨σ', H', J, q⟩ := hs
    exact fin (v := V.non) (u := Value.none) J rfl q
  | brk =>
    obtain ⟨_, _, _, q⟩ := hs
    exact False.elim q
  | cont =>
    obtain ⟨_, _, _, q⟩ := hs
    exact False.elim q
end L2
namespace L2
open PySem PySem.Spec PyProof.Rows
section
variable {X : Cx} {x : Str} {p pos : Pos} {e : Expr} {es : List Expr} {t : TA} {id T : String} {r : List V → Hp → VK → Prop}
noncomputable def tCB (r : List V → Hp → VK → Prop) (t : TA) : TE := fun σ H Q => t σ H fun vs H1 => r vs H1 Q
theorem pe_callB (hc : CallR X (.builtin id) r) (hg : Gl X x) (hm : X.mg x = none) (hv : bootBuiltins x = some (.builtin id)) (ha : PA X (e :: es) t) (hn : x ≠ "__name__" := by decide) (hdb : (x == ("__debug__" : Str)) = false := by decide)
    (he : starEach (e :: es) X.env = (false, eval e X.env) :: starEach es X.env := by rfl) (hpl : (backTo pos (starEach es X.env)).any (·.1) = false := by rfl) : PE X (.Call (.Name x p) (e :: es) [] pos) (tCB r t) := by
  intro pins s σ H Q I h
  refine wpAny_Call_Name_kw (ld_blt I hg hm hv ?_ hn hdb)
  exact PyProof.Rows.callWith_builtin1 (thn (ha pos pins s σ H _ I h) fun us s1 ⟨vs, H1, I1, r1, q1⟩ => hc pins s1 σ H1 vs us Q I1 r1 q1) he hpl
theorem pe_callTy (hc : CallR X (.type T) r) (hg : Gl X x) (hm : X.mg x = none) (hv : bootBuiltins x = some (.type T)) (ha : PA X (e :: es) t) (hn : x ≠ "__name__" := by decide) (hdb : (x == ("__debug__" : Str)) = false := by decide)
    (he : starEach (e :: es) X.env = (false, eval e X.env) :: starEach es X.env := by rfl) (hpl : (backTo pos (starEach es X.env)).any (·.1) = false := by rfl) : PE X (.Call (.Name x p) (e :: es) [] pos) (tCB r t) := by
  intro pins s σ H Q I h
  refine wpAny_Call_Name_kw (ld_blt I hg hm hv ?_ hn hdb)
  exact PyProof.Rows.callWith_type1 (thn (ha pos pins s σ H _ I h) fun us s1 ⟨vs, H1, I1, r1, q1⟩ => hc pins s1 σ H1 vs us Q I1 r1 q1) he hpl
end
end L2
namespace HT
open PySem PyProof.Rows
section
open PySem.SeqAt
open PySem.AutoSeq1 (wpAny_loadPart')
open PySem.MeetsSeq PySem.MeetsSeq2 PySem.MeetsSeq3
end
section
variable {prog : Program} {w : World} {A : Around} {E : Value → Shared → Prop} {s : Shared}
theorem cat_tup {t b : Addr} {vs ws : List Value} {Q : Value → Shared → Prop} (ht : IsTup s.heap t vs.toArray) (hb : IsTup s.heap b ws.toArray) (hv : vs ≠ [])
    (h1 : ws = [] → Q (.ref t) s) (h2 : ws ≠ [] → Q (.ref s.heap.objs.size) { s with heap := s.heap.push { cls := .type "tuple", data := .seq (vs ++ ws).toArray } })
    (hsz : vs.length + ws.length ≤ sizeLine) : wpAny (model prog w) A (binaryOp .Add (.ref t) (.ref b)) Q E s := by
  obtain ⟨⟨cls, dd, data, sl⟩, ho, hc, n, hd⟩ := id ht
  obtain ⟨⟨cls2, dd2, data2, sl2⟩, ho2, hc2, n2, hd2⟩ := id hb
  simp only at hc hd hc2 hd2
  subst hc hd hc2 hd2
  have e : vs.toArray ++ ws.toArray = (vs ++ ws).toArray := by simp
  by_cases hw : ws = []
  · exact concat_meets ⟨_, ho, rfl⟩ ⟨_, ho2, rfl⟩ noFill_tuple_add seq_tuple_add PySem.F.slot_tuple_add PySem.F.entry_tuple_add (PySem.F.args_tuple_add_2 _ _)
      (tuple_addW1 t b vs.toArray ws.toArray n n2 dd dd2 sl sl2 (by simpa using hv) (by simp [hw])) ⟨ho, ho2, h1 hw⟩
  · refine concat_meets ⟨_, ho, rfl⟩ ⟨_, ho2, rfl⟩ noFill_tuple_add seq_tuple_add PySem.F.slot_tuple_add PySem.F.entry_tuple_add (PySem.F.args_tuple_add_2 _ _)
      (tuple_addW2 t b vs.toArray ws.toArray n n2 dd dd2 sl sl2 (by simpa using hv) (by simpa using hw) (by rw [List.size_toArray, List.size_toArray]; exact hsz)) ⟨ho, ho2, ?_⟩
    rw [e]
    exact h2 hw
noncomputable def sIx (n d : Nat) : Option Int → Nat
  | none => d
  | some v => if v < 0 then (v + (n : Int)).toNat else min v.toNat n
theorem sIx_none (n d : Nat) : sIx n d none = d := rfl
theorem sIx_nat (n d k : Nat) : sIx n d (some (k : Int)) = min k n := by
  show (if (k : Int) < 0 then ((k : Int) + (n : Int)).toNat else min (k : Int).toNat n) = min k n
  rw [if_neg (by omega), Int.toNat_natCast]
theorem sIx_le (n d : Nat) (hd : d ≤ n) (o : Option Int) : sIx n d o ≤ n := by
  cases o with
  | none => exact hd
  | some v =>
    show (if v < 0 then (v + (n : Int)).toNat else min v.toNat n) ≤ n
    by_cases hv : v < 0
    · rw [if_pos hv]; omega
    · rw [if_neg hv]; exact Nat.min_le_right _ _
theorem clip_eq (v : Int) (n d : Nat) : (if v < 0 then max (v + (n : Int)) 0 else min v (n : Int)) = ((sIx n d (some v) : Nat) : Int) := by
  show (if v < 0 then max (v + (n : Int)) 0 else min v (n : Int)) = (((if v < 0 then (v + (n : Int)).toNat else min v.toNat n) : Nat) : Int)
  by_cases hv : v < 0
  · simp only [if_pos hv]; omega
  · simp only [if_neg hv]; omega
theorem adjust_gen (lo hi : Option Int) (n : Nat) : Builtin.Slice.sliceAdjust lo hi 1 (n : Int) = (((sIx n 0 lo : Nat) : Int), ((sIx n n hi : Nat) : Int)) := by
  have h1 : ¬ ((1 : Int) < 0) := by omega
  unfold Builtin.Slice.sliceAdjust
  simp only [h1, if_false]
  refine Prod.ext ?_ ?_
  · cases lo with
    | none => rfl
    | some v => exact clip_eq v n 0
  · cases hi with
    | none => rfl
    | some v => exact clip_eq v n n
theorem places_gen (i j : Nat) : Builtin.Slice.slicePlaces (i : Int) (j : Int) 1 = j - i := by
  unfold Builtin.Slice.slicePlaces
  have h1 : (1 : Int) > 0 := by omega
  simp only [h1, if_true, Int.ediv_one]
  split <;> omega
theorem slicePart_ {v : Value} {o : Option Int} {Q : Option Int → Shared → Prop} (p : IsPart v o) (h : Q o s) : wpAny (model prog w) A (Builtin.Slice.slicePartIndex v) Q E s := by
  cases p with
  | none => exact slicePart_none h
  | int i t => exact slicePart_int h
theorem sliceApplied_gen {sl : Addr} {vl vu : Value} {lo hi : Option Int} {n : Nat} {Q : Int × Int × Nat → Shared → Prop} (hs : s.heap.IsSliceOf sl vl vu .none) (pl : IsPart vl lo) (pu : IsPart vu hi)
    (h : Q (((sIx n 0 lo : Nat) : Int), 1, sIx n n hi - sIx n 0 lo) s) : wpAny (model prog w) A (Builtin.Slice.sliceApplied (.ref sl) (pure (n : Int))) Q E s := by
  obtain ⟨os, hos, hcs, hds⟩ := id hs
  unfold Builtin.Slice.sliceApplied Builtin.Slice.sliceFields
  refine wpAny_bind (wpAny_bind (wpAny_field hos hds (x := vl) rfl (wpAny_bind (wpAny_field hos hds (x := vu) rfl (wpAny_bind (wpAny_field hos hds (x := .none) rfl (wpAny_pure ?_)))))))
  refine wpAny_bind (slicePart_none ?_)
  show wpAny _ _ (if ((1 : Int) == 0) = true then _ else _) _ _ s
  rw [if_neg (by decide)]
  refine wpAny_bind (slicePart_ pl (wpAny_bind (slicePart_ pu (wpAny_bind (wpAny_pure ?_)))))
  show wpAny _ _ (match Builtin.Slice.sliceAdjust lo hi 1 (n : Int) with | (lo, hi) => pure (lo, (1 : Int), Builtin.Slice.slicePlaces lo hi 1)) _ _ s
  rw [adjust_gen lo hi n]
  show wpAny _ _ (pure (((sIx n 0 lo : Nat) : Int), (1 : Int), Builtin.Slice.slicePlaces ((sIx n 0 lo : Nat) : Int) ((sIx n n hi : Nat) : Int) 1)) _ _ s
  rw [places_gen]
  exact wpAny_pure h
theorem pick_gen (xs : Array Value) (i k : Nat) : ((List.range k).filterMap fun (m : Nat) => xs[((i : Int) + (m : Int) * 1).toNat]?).toArray = ((xs.toList.drop i).take k).toArray := by
  have e : (fun (m : Nat) => xs[((i : Int) + (m : Int) * 1).toNat]?) = fun m => xs[i + m]? := by
    funext m
    have : ((i : Int) + (m : Int) * 1).toNat = i + m := by omega
    rw [this]
  rw [e]
  have := pick_run xs i k
  rw [List.filterMap_map] at this
  have e2 : ((fun x => xs[x]?) ∘ fun x => i + x) = fun m => xs[i + m]? := rfl
  rw [e2] at this
  rw [this]
theorem getItem_tuple_cut {t sl : Addr} {items : Array Value} {vl vu : Value} {lo hi : Option Int} {Q : Value → Shared → Prop} (ht : IsTup s.heap t items) (hs : s.heap.IsSliceOf sl vl vu .none) (pl : IsPart vl lo) (pu : IsPart vu hi)
    (hw : ¬ (sIx items.size 0 lo = 0 ∧ sIx items.size items.size hi = items.size))
    (h : Q (.ref s.heap.objs.size) { s with heap := s.heap.push { cls := .type "tuple", data := .seq ((items.toList.drop (sIx items.size 0 lo)).take (sIx items.size items.size hi - sIx items.size 0 lo)).toArray } })
    (hsz : items.size ≤ sizeLine) : wpAny (model prog w) A (getItem (.ref t) (.ref sl)) Q E s := by
  have htake : sizeOk (.seq ((items.toList.drop (sIx items.size 0 lo)).take (sIx items.size items.size hi - sIx items.size 0 lo)).toArray) := by
    show ((items.toList.drop (sIx items.size 0 lo)).take (sIx items.size items.size hi - sIx items.size 0 lo)).toArray.size ≤ sizeLine
    rw [List.size_toArray, List.length_take, List.length_drop, Array.length_toList]
    omega
  have hj : sIx items.size items.size hi ≤ items.size := sIx_le _ _ (Nat.le_refl _) hi
  obtain ⟨os, hos, hcs, hds⟩ := id hs
  have hTs : s.TypeIs (.ref sl) "slice" := ⟨os, hos, hcs⟩
  unfold getItem
  try with_reducible refine wpAny_holding ?_
  first | refine wpAny_bind (wpAny_pure ?_) | skip
  refine wpAny_bind (wpAny_sequenceKey ht.typeIs (by decide) ?_)
  refine wpAny_bind (wpAny_callSpecial?_slot (name := Str.ofString "__getitem__") ht.typeIs PyProof.Rows.slot_tuple_getitem
    (wpAny_call_entry PyProof.Rows.slot_tuple_getitem ht.typeIs entry_tuple_getitem ?_ (args_tuple_getitem _ _)))
  show wpAny _ _ (Builtin.Tuple.tupleItemsOf (.ref t) >>= _) _ _ s
  refine wpAny_bind (tupleItemsOf_ ht ?_)
  refine wpAny_bind (wpAny_typeOf hTs ?_)
  rw [if_pos (by decide)]
  refine wpAny_bind (sliceApplied_gen hs pl pu ?_)
  have hno : ¬ ((((sIx items.size 0 lo : Nat) : Int) == 0 && (1 : Int) == 1 && (sIx items.size items.size hi - sIx items.size 0 lo) == items.size) = true) := by
    intro q
    rw [Bool.and_eq_true, Bool.and_eq_true] at q
    have q1 : ((sIx items.size 0 lo : Nat) : Int) = 0 := eq_of_beq q.1.1
    have q2 : sIx items.size items.size hi - sIx items.size 0 lo = items.size := eq_of_beq q.2
    exact hw ⟨by omega, by omega⟩
  show wpAny _ _ (if (((sIx items.size 0 lo : Nat) : Int) == 0 && (1 : Int) == 1 && (sIx items.size items.size hi - sIx items.size 0 lo) == items.size) = true then _ else _) _ _ s
  rw [if_neg hno, pick_gen]
  first
    | exact wpAny_bind (m := Builtin.Tuple.tupleExact _) (wpAny_newObj_type (wpAny_pure ⟨_, rfl, wpAny_pure h⟩) htake)
    | exact wpAny_bind (m := Builtin.Tuple.tupleExact _) (wpAny_newObj_type (wpAny_bind (wpAny_pure (wpAny_pure ⟨_, rfl, wpAny_pure h⟩))) htake)
    | exact wpAny_bind (wpAny_bind (m := Builtin.Tuple.tupleExact _) (wpAny_newObj_type (wpAny_pure (wpAny_pure ⟨_, rfl, wpAny_pure h⟩)) htake))
    | exact wpAny_bind (wpAny_bind (m := Builtin.Tuple.tupleExact _) (wpAny_newObj_type (wpAny_pure ⟨_, rfl, wpAny_pure h⟩) htake))
end
end HT
namespace L2
open PySem PySem.Spec PyProof.Rows
noncomputable abbrev TO := St → Hp → (Option Int → Hp → Prop) → Prop
noncomputable def PO (X : Cx) (e : Option Expr) (t : TO) : Prop :=
  ∀ (pins : List (Addr × Obj)) (s : Shared) (σ : St) (H : Hp) (Q : Option Int → Hp → Prop), Inv X pins σ H s → t σ H Q →
    wpAny (model X.prog X.w) X.A (evalPart e X.env) (fun u s' => ∃ o H', Inv X pins σ H' s' ∧ IsPart u o ∧ Q o H') X.xe s
noncomputable def tNoPart : TO := fun _ H Q => Q none H
noncomputable def tPart (t : TE) : TO := fun σ H Q => t σ H fun x H1 => ∃ i, x = .int i ∧ Q (some i) H1
section
variable {X : Cx} {e : Expr} {te : TE} {lo hi : Option Expr} {tl th : TO} {pos p2 : Pos}
theorem po_none : PO X none tNoPart := by
  intro pins s σ H Q I h
  rw [evalPart_none]
  exact wpAny_pure ⟨none, H, I, .none, h⟩
theorem po_some (h : PE X e te) : PO X (some e) (tPart te) := by
  intro pins s σ H Q I hw
  rw [evalPart_some]
  refine thn (h pins s σ H _ I hw) fun u s1 ⟨x, H1, I1, r1, q1⟩ => ?_
  obtain ⟨i, rfl, q⟩ := q1
  obtain ⟨t, rfl⟩ := r1
  exact ⟨some i, H1, I1, .int i t, q⟩
noncomputable def SlR (X : Cx) (r : V → Option Int → Option Int → Hp → VK → Prop) : Prop :=
  ∀ (pins : List (Addr × Obj)) (s : Shared) (σ : St) (H : Hp) (x : V) (v vl vu : Value) (lo hi : Option Int) (sl : Addr) (Q : VK), Inv X pins σ H s → RelV x v → s.heap.IsSliceOf sl vl vu .none → IsPart vl lo → IsPart vu hi → r x lo hi H Q →
    ∃ T id, typeLookup (.type T) "__getitem__" = pure (some (.builtin id)) ∧ s.TypeIs v T ∧ wpAny (model X.prog X.w) X.A (getItem v (.ref sl)) (EP X pins σ Q) X.xe s
theorem SlR.or {r r' : V → Option Int → Option Int → Hp → VK → Prop} (h : SlR X r) (h' : SlR X r') : SlR X (fun x lo hi H Q => r x lo hi H Q ∨ r' x lo hi H Q) := by
  intro pins s σ H x v vl vu lo hi sl Q I rx hs pl pu q
  rcases q with q | q
  · exact h pins s σ H x v vl vu lo hi sl Q I rx hs pl pu q
  · exact h' pins s σ H x v vl vu lo hi sl Q I rx hs pl pu q
noncomputable def tSl (r : V → Option Int → Option Int → Hp → VK → Prop) (te : TE) (tl th : TO) : TE := fun σ H Q => te σ H fun x H1 => tl σ H1 fun l H2 => th σ H2 fun u H3 => r x l u H3 Q
theorem pe_slice {r : V → Option Int → Option Int → Hp → VK → Prop} (hr : SlR X r) (he : PE X e te) (hl : PO X lo tl) (hu : PO X hi th) : PE X (.Subscript e (.Slice lo hi none p2) pos) (tSl r te tl th) := by
  intro pins s σ H Q I h
  refine Subscript_ (thn (he pins s σ H _ I h) fun v s1 ⟨x, H1, I1, r1, q1⟩ => ?_)
  refine wpAny_Slice (thn (hl pins s1 σ H1 _ I1 q1) fun vl s2 ⟨l, H2, I2, pl, q2⟩ => thn (hu pins s2 σ H2 _ I2 q2) fun vu s3 ⟨u, H3, I3, pu, q3⟩ => ?_)
  rw [evalPart_none]
  refine wpAny_pure ?_
  have I4 : Inv X pins σ H3 { s3 with heap := s3.heap.push { cls := .type "slice", data := .fields #[vl, vu, .none] } } := I3.kept (t' := s3.toks) fun b ob q => Heap.get?_push_of_some _ q
  obtain ⟨T, id, hT, ht, hg⟩ := hr pins { s3 with heap := s3.heap.push { cls := .type "slice", data := .fields #[vl, vu, .none] } } σ H3 x v vl vu l u s3.heap.objs.size Q I4 r1 (Heap.IsSliceOf.new ..) pl pu q3
  show wpAny (model X.prog X.w) X.A (subscriptTail e (.Slice lo hi none p2) v (.ref s3.heap.objs.size)) (EP X pins σ Q) X.xe { s3 with heap := s3.heap.push { cls := .type "slice", data := .fields #[vl, vu, .none] } }
  exact tail_any (ops := [.ref s3.heap.objs.size, v]) ht hT hg (by with_unfolding_all rfl)
noncomputable def cutV (xs : List V) (lo hi : Option Int) : List V := (xs.drop (HT.sIx xs.length 0 lo)).take (HT.sIx xs.length xs.length hi - HT.sIx xs.length 0 lo)
theorem cutV_length (xs : List V) (lo hi : Option Int) : (cutV xs lo hi).length ≤ xs.length := by
  unfold cutV
  rw [List.length_take, List.length_drop]
  omega
noncomputable def rSlT (K : PySem.W.Frag) : V → Option Int → Option Int → Hp → VK → Prop := fun x lo hi H Q => ∃ a xs, x = .ref a ∧ SqT K H a xs ∧
  ¬ (HT.sIx xs.length 0 lo = 0 ∧ HT.sIx xs.length xs.length hi = xs.length) ∧ ∀ p, H p = none → Q (.ref p) (upd H p (.tup (cutV xs lo hi)))
theorem sl_tup : SlR X (rSlT X.K) := by
  intro pins s σ H x v vl vu lo hi sl Q I rx hs pl pu h
  obtain ⟨a, xs, rfl, hx, hw, q⟩ := h
  cases rx
  obtain ⟨its, r, ht, hz⟩ := I.tuple hx
  have hlen : its.toArray.size = xs.length := by rw [List.size_toArray]; exact r.length.symm
  refine ⟨"tuple", _, PyProof.Rows.slot_tuple_getitem.lookup, ht.typeIs, ?_⟩
  refine HT.getItem_tuple_cut ht hs pl pu (by rw [hlen]; exact hw) ?_ (by rw [hlen]; exact hz)
  rw [hlen]
  refine ⟨.ref s.heap.objs.size, _, I.laid (t' := s.toks) (o := .tup (cutV xs lo hi)) (fun b ob q => Heap.get?_push_of_some _ q) (Nat.le_refl _) ?_, rfl, q _ (I.hok.fresh (Nat.le_refl _))⟩
  exact ⟨Nat.le_trans (cutV_length xs lo hi) hz, _, (r.drop (HT.sIx xs.length 0 lo)).take (HT.sIx xs.length xs.length hi - HT.sIx xs.length 0 lo), IsTup.new _ _⟩
noncomputable def rCatT (K : PySem.W.Frag) : R2 := fun x y H Q => ∃ a b xs ys, x = .ref a ∧ y = .ref b ∧ SqT K H a xs ∧ SqT K H b ys ∧ xs ≠ [] ∧ xs.length + ys.length ≤ sizeLine ∧
  (ys = [] → Q (.ref a) H) ∧ (ys ≠ [] → ∀ p, H p = none → Q (.ref p) (upd H p (.tup (xs ++ ys))))
theorem Vals.nil_iff {xs : List V} {us : List Value} (r : Vals xs us) : us = [] ↔ xs = [] := by
  cases r with
  | nil => simp
  | cons _ _ => simp
theorem op_catT : OpR X (binaryOp .Add) (rCatT X.K) := by
  intro pins s σ H x y v u Q I rx ry h
  obtain ⟨a, b, xs, ys, rfl, rfl, ha, hb, hx, hz, q1, q2⟩ := h
  cases rx
  cases ry
  obtain ⟨its, r1, p1, _⟩ := I.tuple ha
  obtain ⟨its2, r2, p2, _⟩ := I.tuple hb
  refine HT.cat_tup p1 p2 (fun z => hx (r1.nil_iff.mp z)) (fun z => ⟨.ref a, H, I, rfl, q1 (r2.nil_iff.mp z)⟩) (fun z => ?_) (by rw [← r1.length, ← r2.length]; exact hz)
  refine ⟨.ref s.heap.objs.size, _, I.laid (t' := s.toks) (o := .tup (xs ++ ys)) (fun b ob q => Heap.get?_push_of_some _ q) (Nat.le_refl _) ?_, rfl, q2 (fun w => z (r2.nil_iff.mpr w)) _ (I.hok.fresh (Nat.le_refl _))⟩
  exact ⟨by rw [List.length_append]; exact hz, _, r1.append r2, IsTup.new _ _⟩
end
end L2
namespace L2
open PySem PySem.Spec PyProof.Rows
noncomputable def ixN (n : Nat) (i : Int) : Option Nat := if 0 ≤ i then (if i < n then some i.toNat else none) else if -(n : Int) ≤ i then some (i + n).toNat else none
noncomputable def atI {α : Type} (xs : List α) (i : Int) : Option α := (ixN xs.length i).bind fun j => xs[j]?
theorem ixN_seq {n : Nat} {i : Int} {j : Nat} (h : ixN n i = some j) : seqIndex? i n = some j ∧ j < n ∧ -(n : Int) ≤ i ∧ i < n := by
  unfold ixN at h
  by_cases h0 : 0 ≤ i
  · rw [if_pos h0] at h
    by_cases h1 : i < n
    · rw [if_pos h1] at h
      have e : i.toNat = j := Option.some.inj h
      exact ⟨by rw [seqIndex_of h0 h1, e], by omega, by omega, h1⟩
    · rw [if_neg h1] at h; cases h
  · rw [if_neg h0] at h
    by_cases h1 : -(n : Int) ≤ i
    · rw [if_pos h1] at h
      have e : (i + n).toNat = j := Option.some.inj h
      exact ⟨by rw [seqIndex_neg (by omega) h1, e], by omega, h1, by omega⟩
    · rw [if_neg h1] at h; cases h
theorem atI_get {α : Type} {xs : List α} {i : Int} {v : α} (h : atI xs i = some v) : ∃ j, seqIndex? i xs.length = some j ∧ xs[j]? = some v ∧ j < xs.length ∧ -(xs.length : Int) ≤ i ∧ i < xs.length := by
  unfold atI at h
  cases e : ixN xs.length i with
  | none => rw [e] at h; cases h
  | some j =>
    rw [e] at h
    obtain ⟨h1, h2, h3, h4⟩ := ixN_seq e
    exact ⟨j, h1, h, h2, h3, h4⟩
theorem atI_nat {α : Type} {xs : List α} {j : Nat} {v : α} (h : xs[j]? = some v) : atI xs (j : Int) = some v := by
  have hj : j < xs.length := (List.getElem?_eq_some_iff.mp h).1
  have e : ixN xs.length (j : Int) = some j := by
    unfold ixN
    rw [if_pos (by omega), if_pos (by omega)]; simp
  unfold atI; rw [e]; exact h
noncomputable def PlainIx (b : Expr) : Prop := ∀ o i, subscripted b false o i = operate [o, i] (getItem o i)
noncomputable def IxR (X : Cx) (r : R2) : Prop :=
  ∀ (value slice : Expr) (pins : List (Addr × Obj)) (s : Shared) (σ : St) (H : Hp) (x y : V) (v u : Value) (Q : VK), Inv X pins σ H s → RelV x v → RelV y u → r x y H Q →
    subscripted slice false v u = operate [v, u] (getItem v u) → wpAny (model X.prog X.w) X.A (subscriptTail value slice v u) (EP X pins σ Q) X.xe s
noncomputable def MtR (X : Cx) (id : String) (r : V → List V → Hp → VK → Prop) : Prop :=
  ∀ (pins : List (Addr × Obj)) (s : Shared) (σ : St) (H : Hp) (x : V) (xs : List V) (v : Value) (us : List Value) (Q : VK), Inv X pins σ H s → RelV x v → Vals xs us → r x xs H Q →
    wpAny (model X.prog X.w) X.A (call (.builtin id) (v :: us)) (EP X pins σ Q) X.xe s
section
variable {X : Cx} {a b : Expr} {ta tb : TE} {pos : Pos}
theorem IxR.or {r r' : R2} (h : IxR X r) (h' : IxR X r') : IxR X (fun x y H Q => r x y H Q ∨ r' x y H Q) := by
  intro value slice pins s σ H x y v u Q I rx ry q hs
  rcases q with q | q
  · exact h value slice pins s σ H x y v u Q I rx ry q hs
  · exact h' value slice pins s σ H x y v u Q I rx ry q hs
theorem MtR.or {id : String} {r r' : V → List V → Hp → VK → Prop} (h : MtR X id r) (h' : MtR X id r') : MtR X id (fun x xs H Q => r x xs H Q ∨ r' x xs H Q) := by
  intro pins s σ H x xs v us Q I rx rs q
  rcases q with q | q
  · exact h pins s σ H x xs v us Q I rx rs q
  · exact h' pins s σ H x xs v us Q I rx rs q
theorem pe_ix {r : R2} (hr : IxR X r) (ha : PE X a ta) (hb : PE X b tb) (hs : PlainIx b) : PE X (.Subscript a b pos) (tOp r ta tb) := by
  intro pins s σ H Q I h
  exact Subscript_ (binT ha hb I h fun v u s2 x y H2 I2 rx ry q => hr a b pins s2 σ H2 x y v u Q I2 rx ry q (hs _ _))
noncomputable def rIxL (K : PySem.W.Frag) : R2 := fun x y H Q => ∃ p xs i v, x = .ref p ∧ y = .int i ∧ SqL K H p xs ∧ atI xs i = some v ∧ Q v H
noncomputable def rIxT (K : PySem.W.Frag) : R2 := fun x y H Q => ∃ p xs i v, x = .ref p ∧ y = .int i ∧ SqT K H p xs ∧ atI xs i = some v ∧ Q v H
noncomputable def rIxS : R2 := fun x y H Q => ∃ z i c, x = .str z ∧ y = .int i ∧ z.length ≤ sizeLine ∧ atI z.cps.toList i = some c ∧ Q (.str ⟨#[c]⟩) H
theorem ix_list : IxR X (rIxL X.K) := by
  intro value slice pins s σ H x y v u Q I rx ry h hs
  obtain ⟨p, xs, i, z, rfl, rfl, hq, he, q⟩ := h
  cases rx
  obtain ⟨t, rfl⟩ := ry
  obtain ⟨its, r, pl, hz⟩ := I.list hq
  obtain ⟨j, h1, h2, h3, h4, h5⟩ := atI_get he
  obtain ⟨w, ew, rw'⟩ := r.get h2
  have hl := r.length
  have hn := line63
  have fin : EP X pins σ Q w s := ⟨z, H, I, rw', q⟩
  by_cases h0 : 0 ≤ i
  · have hj : i.toNat = j := by
      rw [seqIndex_of h0 h5] at h1
      exact Option.some.inj h1
    exact item_listR pl.isList h0 (by omega) (by rw [hj]; simpa using ew) fin hs
  · have hj : (i + (its.toArray.size : Int)).toNat = j := by
      rw [seqIndex_neg (by omega) h4] at h1
      rw [List.size_toArray, ← hl]
      exact Option.some.inj h1
    exact subscriptTail_builtinR (x := w) pl.isList.typeIs slot_list_getitem.lookup
      (wpAny_getItem_list_neg (Q := fun r s' => r = w ∧ EP X pins σ Q r s') pl.isList (by omega) (by rw [List.size_toArray] <;> omega) (by omega) (by rw [hj]; simpa using ew) ⟨rfl, fin⟩) hs
theorem ix_tup : IxR X (rIxT X.K) := by
  intro value slice pins s σ H x y v u Q I rx ry h hs
  obtain ⟨p, xs, i, z, rfl, rfl, hq, he, q⟩ := h
  cases rx
  obtain ⟨t, rfl⟩ := ry
  obtain ⟨its, r, pl, hz⟩ := I.tuple hq
  obtain ⟨j, h1, h2, h3, h4, h5⟩ := atI_get he
  obtain ⟨w, ew, rw'⟩ := r.get h2
  have hl := r.length
  have hn := line63
  have fin : EP X pins σ Q w s := ⟨z, H, I, rw', q⟩
  exact subscriptTail_builtinR (x := w) pl.typeIs slot_tuple_getitem.lookup
    (getItem_tuple (j := j) (Q := fun r s' => r = w ∧ EP X pins σ Q r s') pl (by omega) (by omega) (by rw [List.size_toArray, ← hl]; exact h1) (by simpa using ew) ⟨rfl, fin⟩) hs
theorem ix_str : IxR X rIxS := by
  intro value slice pins s σ H x y v u Q I rx ry h hs
  obtain ⟨z, i, c, rfl, rfl, hz, he, q⟩ := h
  obtain ⟨t, rfl⟩ := rx
  obtain ⟨t', rfl⟩ := ry
  obtain ⟨j, h1, h2, h3, h4, h5⟩ := atI_get he
  have hl : z.cps.toList.length = z.length := by simp [Str.length]
  rw [hl] at h1 h4 h5
  have hn := line63
  exact tail_any (typeIs_str s z t) slot_str_getitem.lookup (getItem_str (c := c) (by
    have e1 : decide (i < -(2 ^ 63 : Int)) = false := decide_eq_false (by omega)
    have e2 : decide (i ≥ 2 ^ 63) = false := decide_eq_false (by omega)
    rw [e1, e2, Bool.or_false]) (by rw [h1]; simpa using h2) ⟨.str ⟨#[c]⟩, H, I.tok _, ⟨_, rfl⟩, q⟩) hs
theorem Inv.lst {pins : List (Addr × Obj)} {σ : St} {H : Hp} {s : Shared} {p : Addr} {xs : List V} (I : Inv X pins σ H s) (h : H p = some (.lst xs)) :
    ∃ (its : List Value) (n : Nat), Vals xs its ∧ s.heap.get? p = some { cls := .type "list", data := .seq its.toArray n } ∧ xs.length ≤ sizeLine := by
  obtain ⟨z, its, n, r, e⟩ := I.hok p _ h
  exact ⟨its, n, r, e, z⟩
theorem slice_bounds (lo hi : Option Int) (n : Nat) : (sliceBounds lo hi none n).1 = ((HT.sIx n 0 lo : Nat) : Int) ∧ (sliceBounds lo hi none n).2.1 = ((HT.sIx n n hi : Nat) : Int) ∧ (sliceBounds lo hi none n).2.2 = 1 := by
  refine ⟨?_, ?_, rfl⟩
  · cases lo with
    | none => simp [sliceBounds, HT.sIx]
    | some i =>
      simp only [sliceBounds, HT.sIx, Option.getD_none, show (1 : Int) > 0 by decide, if_true]
      by_cases h : i < 0
      · simp only [h, if_true] <;> omega
      · simp only [h, if_false] <;> omega
  · cases hi with
    | none => simp [sliceBounds, HT.sIx]
    | some i =>
      simp only [sliceBounds, HT.sIx, Option.getD_none, show (1 : Int) > 0 by decide, if_true]
      by_cases h : i < 0
      · simp only [h, if_true] <;> omega
      · simp only [h, if_false] <;> omega
theorem slicePick_cut (its : List Value) (lo hi : Option Int) : slicePick its.toArray lo hi none = ((its.drop (HT.sIx its.length 0 lo)).take (HT.sIx its.length its.length hi - HT.sIx its.length 0 lo)).toArray := by
  obtain ⟨h1, h2, h3⟩ := slice_bounds lo hi its.toArray.size
  unfold slicePick
  rw [h1, h2, h3]
  simp only [sliceRange_one, pick_run, List.size_toArray] <;> rfl
noncomputable def rSlL (K : PySem.W.Frag) : V → Option Int → Option Int → Hp → VK → Prop := fun x lo hi H Q => ∃ a xs, x = .ref a ∧ SqL K H a xs ∧ ∀ p, H p = none → Q (.ref p) (upd H p (.lst (cutV xs lo hi)))
theorem sl_list : SlR X (rSlL X.K) := by
  intro pins s σ H x v vl vu lo hi sl Q I rx hs pl pu h
  obtain ⟨a, xs, rfl, hx, q⟩ := h
  cases rx
  obtain ⟨its, r, ht, hz⟩ := I.list hx
  have hlen := r.length
  refine ⟨"list", _, slot_list_getitem.lookup, ht.isList.typeIs, ?_⟩
  refine wpAny_getItem_list_slice ht.isList hs pl pu .none (by simp) ?_ (by rw [List.size_toArray] <;> omega)
  rw [slicePick_cut, ← hlen]
  refine ⟨.ref s.heap.objs.size, _, I.laid (t' := s.toks) (o := .lst (cutV xs lo hi)) (fun b ob q => Heap.get?_push_of_some _ q) (Nat.le_refl _) ?_, rfl, q _ (I.hok.fresh (Nat.le_refl _))⟩
  exact ⟨Nat.le_trans (cutV_length xs lo hi) hz, _, 0, (r.drop (HT.sIx xs.length 0 lo)).take (HT.sIx xs.length xs.length hi - HT.sIx xs.length 0 lo), Heap.get?_push_size _ rfl⟩
noncomputable def flatV : V → Bool
  | .non => true
  | .bl _ => true
  | .int _ => true
  | .str _ => true
  | _ => false
noncomputable def eqV : V → V → Bool
  | .non, .non => true
  | .bl a, .bl b => a == b
  | .bl a, .int b => (if a then 1 else 0) == b
  | .int a, .bl b => a == (if b then 1 else 0)
  | .int a, .int b => a == b
  | .str a, .str b => a == b
  | _, _ => false
theorem eqAt_V {A : Around} {s : Shared} {y x : V} {u v : Value} (ry : RelV y u) (rx : RelV x v) (fy : flatV y = true) (fx : flatV x = true) : SeqAt.EqAt A s u v (eqV y x) := by
  cases y with
  | non =>
    cases ry
    cases x with
    | non => cases rx; exact SeqAt.EqAt.same _
    | bl b => cases rx; exact SeqAt.EqAt.none_bool b
    | int b => obtain ⟨t, rfl⟩ := rx; exact SeqAt.EqAt.none_int b t
    | str b => obtain ⟨t, rfl⟩ := rx; exact SeqAt.EqAt.none_str b t
    | _ => exact absurd (show false = true from fx) Bool.false_ne_true
  | bl a =>
    cases ry
    cases x with
    | non => cases rx; exact SeqAt.EqAt.bool_none a
    | bl b => cases rx; exact SeqAt.EqAt.bool_bool a b
    | int b => obtain ⟨t, rfl⟩ := rx; exact SeqAt.EqAt.bool_int a b t
    | str b => obtain ⟨t, rfl⟩ := rx; exact SeqAt.EqAt.bool_str a b t
    | _ => exact absurd (show false = true from fx) Bool.false_ne_true
  | int a =>
    obtain ⟨t', rfl⟩ := ry
    cases x with
    | non => cases rx; exact SeqAt.EqAt.int_none a t'
    | bl b => cases rx; exact SeqAt.EqAt.int_bool a t' b
    | int b => obtain ⟨t, rfl⟩ := rx; exact SeqAt.EqAt.int_int a t' b t
    | str b => obtain ⟨t, rfl⟩ := rx; exact SeqAt.EqAt.int_str a t' b t
    | _ => exact absurd (show false = true from fx) Bool.false_ne_true
  | str a =>
    obtain ⟨t', rfl⟩ := ry
    cases x with
    | non => cases rx; exact SeqAt.EqAt.str_none a t'
    | bl b => cases rx; exact SeqAt.EqAt.str_bool a t' b
    | int b => obtain ⟨t, rfl⟩ := rx; exact SeqAt.EqAt.str_int a t' b t
    | str b => obtain ⟨t, rfl⟩ := rx; exact SeqAt.EqAt.str_str a t' b t
    | _ => exact absurd (show false = true from fx) Bool.false_ne_true
  | _ => exact absurd (show false = true from fy) Bool.false_ne_true
noncomputable def eqU (x : V) (u : Value) : Bool := match u with
  | .none => eqV .non x
  | .bool b => eqV (.bl b) x
  | .int i _ => eqV (.int i) x
  | .str z _ => eqV (.str z) x
  | _ => false
theorem eqU_of {x y : V} {u : Value} (r : RelV y u) (f : flatV y = true) : eqU x u = eqV y x := by
  cases y with
  | non => cases r; rfl
  | bl b => cases r; rfl
  | int i => obtain ⟨t, rfl⟩ := r; rfl
  | str z => obtain ⟨t, rfl⟩ := r; rfl
  | _ => exact absurd (show false = true from f) Bool.false_ne_true
theorem any_eqU {x : V} : ∀ {xs : List V} {us : List Value}, Vals xs us → xs.all flatV = true → us.any (eqU x) = xs.any fun y => eqV y x
  | _, _, .nil, _ => rfl
  | y :: xs, u :: us, .cons r t, f => by
    rw [List.all_cons, Bool.and_eq_true] at f
    rw [List.any_cons, List.any_cons, eqU_of r f.1, any_eqU t f.2]
theorem mem_eqAt {A : Around} {s : Shared} {x : V} {v : Value} (rx : RelV x v) (fx : flatV x = true) : ∀ {xs : List V} {us : List Value}, Vals xs us → xs.all flatV = true → ∀ u ∈ us, SeqAt.EqAt A s u v (eqU x u)
  | _, _, .nil, _ => fun u hu => by cases hu
  | y :: xs, u :: us, .cons r t, f => fun u' hu => by
    rw [List.all_cons, Bool.and_eq_true] at f
    rcases List.mem_cons.mp hu with rfl | hu
    · rw [eqU_of r f.1]; exact eqAt_V r rx f.1 fx
    · exact mem_eqAt rx fx t f.2 u' hu
noncomputable def inV (x : V) (xs : List V) : Bool := xs.any fun y => eqV y x
noncomputable def rIn (K : PySem.W.Frag) (neg : Bool) : R2 := fun x y H Q => ∃ p xs, y = .ref p ∧ (SqL K H p xs ∨ SqT K H p xs) ∧ flatV x = true ∧ xs.all flatV = true ∧ Q (.bl (if neg then !inV x xs else inV x xs)) H
theorem op_in_seq : OpR X (compareOp .In) (rIn X.K false) := by
  intro pins s σ H x y v u Q I rx ry h
  obtain ⟨p, xs, rfl, hq, fx, fs, q⟩ := h
  cases ry
  rcases hq with hq | hq
  · obtain ⟨its, r, pl, hz⟩ := I.list hq
    refine SeqAt.in_listAt (eqU x) pl.isList (fun w hw => mem_eqAt rx fx r fs w (by simpa using hw)) ⟨.bl _, H, I, rfl, ?_⟩
    rw [show its.toArray.any (eqU x) = its.any (eqU x) by simp, any_eqU r fs]
    exact q
  · obtain ⟨its, r, pl, hz⟩ := I.tuple hq
    refine SeqAt.in_tupleAt (eqU x) pl (fun w hw => mem_eqAt rx fx r fs w (by simpa using hw)) ⟨.bl _, H, I, rfl, ?_⟩
    rw [show its.toArray.any (eqU x) = its.any (eqU x) by simp, any_eqU r fs]
    exact q
theorem call_len_seq : CallR X (.builtin "len") (fun xs H Q => ∃ p ys, xs = [.ref p] ∧ (SqL X.K H p ys ∨ SqT X.K H p ys) ∧ Q (.int ys.length) H) := by
  intro pins s σ H xs us Q I r h
  obtain ⟨p, ys, rfl, hq, q⟩ := h
  obtain ⟨u, rfl, rx⟩ := vals1 r
  cases rx
  have hn := line63
  rcases hq with hq | hq
  · obtain ⟨its, r', pl, hz⟩ := I.list hq
    have hlen := r'.length
    exact Calls.call_len_list pl.isList (by simp only [List.size_toArray] <;> omega) ⟨.int ys.length, H, I.tok _, ⟨s.toks + 1, by rw [List.size_toArray, hlen]⟩, q⟩
  · obtain ⟨its, r', pl, hz⟩ := I.tuple hq
    have hlen := r'.length
    exact len_tuple pl (by simp only [List.size_toArray] <;> omega) ⟨.int ys.length, H, I.tok _, ⟨s.toks + 1, by rw [List.size_toArray, hlen]⟩, q⟩
theorem call_len_str : CallR X (.builtin "len") (fun xs H Q => ∃ z, xs = [.str z] ∧ z.length ≤ sizeLine ∧ Q (.int z.length) H) := by
  intro pins s σ H xs us Q I r h
  obtain ⟨z, rfl, hz, q⟩ := h
  obtain ⟨u, rfl, t, rfl⟩ := vals1 r
  have hn := line63
  exact len_str (by omega) ⟨.int z.length, H, I.tok _, ⟨_, rfl⟩, q⟩
theorem CallR.or {f : Value} {r r' : List V → Hp → VK → Prop} (h : CallR X f r) (h' : CallR X f r') : CallR X f (fun xs H Q => r xs H Q ∨ r' xs H Q) := by
  intro pins s σ H xs us Q I rs q
  rcases q with q | q
  · exact h pins s σ H xs us Q I rs q
  · exact h' pins s σ H xs us Q I rs q
theorem call_list_of : CallR X (.type "list") (fun xs H Q => ∃ p ys, xs = [.ref p] ∧ (SqL X.K H p ys ∨ SqT X.K H p ys) ∧ ∀ l, H l = none → Q (.ref l) (upd H l (.lst ys))) := by
  intro pins s σ H xs us Q I r h
  obtain ⟨p, ys, rfl, hq, q⟩ := h
  obtain ⟨u, rfl, rx⟩ := vals1 r
  cases rx
  have fin : ∀ (its : List Value), Vals ys its → ys.length ≤ sizeLine → ∀ (h' : Heap) (c' : Nat), (∀ b o', s.heap.get? b = some o' → h'.get? b = some o') →
      h'.get? s.heap.objs.size = some { cls := .type "list", dict := none, data := .seq its.toArray c', slots := #[] } → EP X pins σ Q (.ref s.heap.objs.size) { s with heap := h' } := fun its r' hz h' c' kp e =>
    ⟨.ref s.heap.objs.size, _, I.laid (t' := s.toks) kp (Nat.le_refl _) (show ObjOk X.prog X.w _ h' _ (.lst ys) from ⟨hz, its, c', r', e⟩), rfl, q _ (I.hok.fresh (Nat.le_refl _))⟩
  rcases hq with hq | hq
  · obtain ⟨its, r', pl, hz⟩ := I.list hq
    have hlen := r'.length
    obtain ⟨o, ho, hc, n, hd⟩ := pl.isList
    exact call_list_seq p (.inl rfl) ho hc hd (fun h' c' kp e => fin its r' hz h' c' kp e) (by simp only [List.size_toArray] <;> omega)
  · obtain ⟨its, r', pl, hz⟩ := I.tuple hq
    have hlen := r'.length
    obtain ⟨o, ho, hc, n, hd⟩ := pl
    exact call_list_seq p (.inr rfl) ho hc hd (fun h' c' kp e => fin its r' hz h' c' kp e) (by simp only [List.size_toArray] <;> omega)
noncomputable def tyV (K : PySem.W.Frag) (T : String) (x : V) (H : Hp) : Prop := match x with
  | .str _ => T = "str"
  | .int _ => T = "int"
  | .ref p => (T = "list" ∧ ∃ xs, SqL K H p xs) ∨ (T = "tuple" ∧ ∃ o, K.lookup p = some o ∧ o.cls = .type "tuple" ∧ o.dict = none) ∨
      (T = "dict" ∧ ((∃ kvs, H p = some (.dK kvs)) ∨ ∃ kvs, H p = some (.dT kvs))) ∨ (T = "set" ∧ ∃ S n, H p = some (.set S n))
  | _ => False
theorem tyV_is {pins : List (Addr × Obj)} {σ : St} {H : Hp} {s : Shared} {T : String} {x : V} {v : Value} (I : Inv X pins σ H s) (r : RelV x v) (ty : tyV X.K T x H) :
    s.TypeIs v T ∧ ∀ a, v = .ref a → ∃ ob, s.heap.get? a = some ob ∧ ob.dict = none := by
  cases x with
  | str z =>
    obtain ⟨t, rfl⟩ := r
    cases (show T = "str" from ty)
    exact ⟨typeIs_str s z t, fun _ e => nomatch e⟩
  | int i =>
    obtain ⟨t, rfl⟩ := r
    cases (show T = "int" from ty)
    exact ⟨typeIs_int s i t, fun _ e => nomatch e⟩
  | ref p =>
    cases r
    rcases ty with ⟨rfl, xs, hq⟩ | ⟨rfl, o, hk, hc, hd⟩ | ⟨rfl, hk⟩ | ⟨rfl, S, n, hk⟩
    · obtain ⟨its, _, pl, _⟩ := I.list hq
      refine ⟨pl.isList.typeIs, fun a e => ?_⟩
      cases e
      obtain ⟨o, n, e, c, hd, _⟩ := pl
      exact ⟨o, e, hd⟩
    · refine ⟨⟨o, I.kIn p o hk, hc⟩, fun a e => ?_⟩
      cases e
      exact ⟨o, I.kIn _ o hk, hd⟩
    · have z : ∃ o, s.heap.get? p = some o ∧ o.ExactDict := by
        rcases hk with ⟨kvs, hk⟩ | ⟨kvs, hk⟩
        · obtain ⟨_, _, _, _, o, _, _, e, ex, _⟩ := I.hok p _ hk
          exact ⟨o, e, ex⟩
        · obtain ⟨_, _, _, _, o, _, _, e, ex, _⟩ := I.hok p _ hk
          exact ⟨o, e, ex⟩
      obtain ⟨o, e, ex⟩ := z
      refine ⟨⟨o, e, ex.1⟩, fun a e2 => ?_⟩
      cases e2
      exact ⟨o, e, ex.2.1⟩
    · obtain ⟨o, _, _, _, e, ex, _⟩ := I.hok p _ hk
      refine ⟨⟨o, e, ex.1⟩, fun a e2 => ?_⟩
      cases e2
      exact ⟨o, e, ex.2.1⟩
  | _ => exact False.elim ty
noncomputable def tBM0 (K : PySem.W.Frag) (T : String) (r : V → List V → Hp → VK → Prop) (to : TE) : TE := fun σ H Q => to σ H fun x H1 => tyV K T x H1 ∧ r x [] H1 Q
noncomputable def tBM (K : PySem.W.Frag) (T : String) (r : V → List V → Hp → VK → Prop) (to : TE) (t : TA) : TE := fun σ H Q => to σ H fun x H1 => tyV K T x H1 ∧ t σ H1 fun xs H2 => r x xs H2 Q
variable {o e : Expr} {es : List Expr} {to : TE} {t : TA} {name : Str} {apos cpos : Pos} {T id : String} {r : V → List V → Hp → VK → Prop}
theorem pe_bm0 (pa : PlainAttrs T) (slot : Slot T name id) (hty : typeOf (.builtin id) = pure (.type "method_descriptor")) (hm : MtR X id r) (ho : PE X o to)
    (hbase : attributeBase o name X.env (eval o X.env) = eval o X.env := by rfl) (hline : (apos.endLine == cpos.line) = true := by rfl) : PE X (.Call (.Attribute o name apos) [] [] cpos) (tBM0 X.K T r to) := by
  intro pins s σ H Q I h
  refine wpAny_Call_method0_late hbase hline (thn (ho pins s σ H _ I h) fun v s1 ⟨x, H1, I1, r1, ty, q1⟩ => ?_)
  obtain ⟨h1, h2⟩ := tyV_is I1 r1 ty
  exact ⟨T, id, pa, slot, hty, h1, h2, Calls.callWith_builtin rfl (PySem.evalArgs_none (hm pins s1 σ H1 x [] v [] Q I1 r1 .nil q1))⟩
theorem pe_bm (pa : PlainAttrs T) (slot : Slot T name id) (hty : typeOf (.builtin id) = pure (.type "method_descriptor")) (hm : MtR X id r) (ho : PE X o to) (ha : PA X (e :: es) t)
    (hbase : attributeBase o name X.env (eval o X.env) = eval o X.env := by rfl)
    (hfew : ((backTo cpos (starEach (e :: es) X.env)).all (fun x => !x.1) && (backToKw cpos (keywordEach [] X.env)).all (fun x => x.1.isSome)
      && decide ((e :: es).length + ([] : List Keyword).length + (if ([] : List Keyword).isEmpty then 0 else 1) < 30)) = true := by rfl)
    (hline : (apos.endLine == cpos.line) = true := by rfl) (hs : starEach (e :: es) X.env = (false, eval e X.env) :: starEach es X.env := by rfl) (hplain : (backTo cpos (starEach es X.env)).any (·.1) = false := by rfl) :
    PE X (.Call (.Attribute o name apos) (e :: es) [] cpos) (tBM X.K T r to t) := by
  intro pins s σ H Q I h
  refine wpAny_Call_method_late hbase hfew hline rfl (thn (ho pins s σ H _ I h) fun v s1 ⟨x, H1, I1, r1, ty, q1⟩ => ?_)
  obtain ⟨h1, h2⟩ := tyV_is I1 r1 ty
  refine ⟨T, id, pa, slot, hty, h1, h2, ?_⟩
  have hA := ha cpos pins s1 σ H1 _ I1 q1
  rw [hs] at hA ⊢
  refine Calls.callWith_builtin (by show (false || (backTo cpos (starEach es X.env)).any (·.1)) = false; rw [hplain] <;> rfl) (Calls.evalArgs_plain ?_)
  exact thn hA fun us s2 ⟨vs, H2, I2, r2, q2⟩ => hm pins s2 σ H2 x vs v us Q I2 r1 r2 q2
end
end L2
namespace L2
open PySem PySem.Spec PyProof.Rows
noncomputable def MtM (X : Cx) (id : String) (r : V → List V → Hp → VK → Prop) : Prop :=
  ∀ (pins : List (Addr × Obj)) (s : Shared) (σ : St) (H : Hp) (x : V) (xs : List V) (v : Value) (us : List Value) (Q : VK), Inv X pins σ H s → RelV x v → Vals xs us → r x xs H Q →
    wpAny (model X.prog X.w) X.A (call (.builtin id) (v :: us)) (EP X pins σ Q) X.xe s
theorem Vals.one : ∀ {x : V} {us : List Value}, Vals [x] us → ∃ u, us = [u] ∧ RelV x u
  | _, _, .cons r .nil => ⟨_, rfl, r⟩
theorem Vals.two : ∀ {x y : V} {us : List Value}, Vals [x, y] us → ∃ u v, us = [u, v] ∧ RelV x u ∧ RelV y v
  | _, _, _, .cons r (.cons q .nil) => ⟨_, _, rfl, r, q⟩
theorem Vals.zero : ∀ {us : List Value}, Vals [] us → us = []
  | _, .nil => rfl
theorem Vals.dropLast {xs : List V} {us : List Value} (h : Vals xs us) : Vals xs.dropLast us.dropLast := by
  induction h with
  | nil => exact .nil
  | cons r t ih =>
    cases t with
    | nil => exact .nil
    | cons q t' => exact .cons r ih
theorem Vals.reverse {xs : List V} {us : List Value} (h : Vals xs us) : Vals xs.reverse us.reverse := by
  induction h with
  | nil => exact .nil
  | cons r t ih => rw [List.reverse_cons, List.reverse_cons]; exact Vals.append ih (.cons r .nil)
theorem erase_last {α : Type} (l : List α) : l.eraseIdx (l.length - 1) = l.dropLast := by
  induction l with
  | nil => rfl
  | cons a r ih =>
    cases r with
    | nil => rfl
    | cons b r =>
      have e : (a :: b :: r).length - 1 = ((b :: r).length - 1) + 1 := by
        have h1 : (a :: b :: r).length = r.length + 2 := rfl
        have h2 : (b :: r).length = r.length + 1 := rfl
        omega
      rw [e, List.eraseIdx_cons_succ, ih]
      all_goals rfl
section
variable {X : Cx} {pins : List (Addr × Obj)} {σ : St} {H : Hp} {s : Shared} {l b : Addr} {xs ys zs : List V}
theorem Inv.lset {its its' : List Value} {n : Nat} {f : Array Value → Array Value} {t' : Nat} (I : Inv X pins σ H s) (hH : H l = some (.lst xs))
    (e : s.heap.get? l = some { cls := .type "list", data := .seq its.toArray n }) (hf : f its.toArray = its'.toArray) (hv : Vals ys its') (hz : ys.length ≤ sizeLine) :
    Inv X pins σ (upd H l (.lst ys)) { s with heap := s.heap.update l (Obj.mapSeq f), toks := t' } := by
  have q := PySem.IsL.update e f
  rw [hf] at q
  refine I.write (x := l) (e := l) (by rw [hH]; exact trivial) (.inl rfl) (fun b' u hb hu => (Heap.get?_update_other s.heap (Obj.mapSeq f) (Ne.symm hb)).trans hu) ⟨_, q⟩ ?_
  exact ⟨hz, its', _, hv, q⟩
theorem Inv.lnew {its : List Value} {t' : Nat} (I : Inv X pins σ H s) (hv : Vals ys its) (hz : ys.length ≤ sizeLine) :
    Inv X pins σ (upd H s.heap.objs.size (.lst ys)) { s with heap := s.heap.push { cls := .type "list", data := .seq its.toArray }, toks := t' } :=
  I.laid (fun _ _ q => Heap.get?_push_of_some _ q) (Nat.le_refl _) ⟨hz, its, 0, hv, Heap.get?_push_size _ rfl⟩
theorem Inv.fresh (I : Inv X pins σ H s) : H s.heap.objs.size = none := I.hok.fresh (Nat.le_refl _)
theorem Inv.lstM (I : Inv X pins σ H s) (hH : H l = some (.lst xs)) : xs.length ≤ sizeLine ∧ ∃ (its : List Value) (n : Nat), Vals xs its ∧ xs.length = its.length ∧ s.heap.get? l = some { cls := .type "list", data := .seq its.toArray n } := by
  obtain ⟨z, its, n, r, e⟩ := I.hok l _ hH
  exact ⟨z, its, n, r, r.length, e⟩
end
section
variable {X : Cx}
noncomputable def rAppend : V → List V → Hp → VK → Prop := fun x vs H Q => ∃ l xs y, x = .ref l ∧ vs = [y] ∧ H l = some (.lst xs) ∧ xs.length < sizeLine ∧ Q .non (upd H l (.lst (xs ++ [y])))
theorem mt_append : MtM X "list.append" rAppend := by
  intro pins s σ H x vs v us Q I rx rv h
  obtain ⟨l, xs, y, rfl, rfl, hH, hz, q⟩ := h
  cases rx
  obtain ⟨u, rfl, ru⟩ := rv.one
  obtain ⟨z, its, n, r, hl, e⟩ := I.lstM hH
  refine call_meets F.slot_list_append ⟨_, e, rfl⟩ F.entry_list_append (F.args_list_append_2 _ _) (PySem.list_append l its.toArray n u (by rw [List.size_toArray]; omega)) ⟨e, ?_⟩
  refine ⟨.non, _, I.lset (its' := its ++ [u]) hH e (by simp) (r.append (.cons ru .nil)) ?_, rfl, q⟩
  rw [List.length_append, List.length_singleton]
  omega
noncomputable def rExtend : V → List V → Hp → VK → Prop := fun x vs H Q => ∃ l b xs zs, x = .ref l ∧ vs = [.ref b] ∧ H l = some (.lst xs) ∧ H b = some (.lst zs) ∧ xs.length + zs.length ≤ sizeLine ∧ Q .non (upd H l (.lst (xs ++ zs)))
noncomputable def rPop : V → List V → Hp → VK → Prop := fun x vs H Q => ∃ l xs y, x = .ref l ∧ vs = [] ∧ H l = some (.lst xs) ∧ xs[xs.length - 1]? = some y ∧ Q y (upd H l (.lst xs.dropLast))
theorem mt_pop : MtM X "list.pop" rPop := by
  intro pins s σ H x vs v us Q I rx rv h
  obtain ⟨l, xs, y, rfl, rfl, hH, hy, q⟩ := h
  cases rx
  have hus := rv.zero
  subst hus
  obtain ⟨z, its, n, r, hl, e⟩ := I.lstM hH
  obtain ⟨u, hu, ru⟩ := r.get hy
  have hy' : its.toArray[its.toArray.size - 1]? = some u := by
    show its.toArray[its.length - 1]? = some u
    rw [← Array.getElem?_toList, ← hl]
    exact hu
  refine call_meets F.slot_list_pop ⟨_, e, rfl⟩ F.entry_list_pop (F.args_list_pop_1 _) (MeetsSeq.list_pop_last l its.toArray n u hy' (by rw [List.size_toArray]; omega)) ⟨e, ?_⟩
  refine ⟨y, _, I.lset (its' := its.dropLast) hH e ?_ r.dropLast ?_, ru, q⟩
  · show its.toArray.eraseIdxIfInBounds (its.toArray.size - 1) = its.dropLast.toArray
    rw [List.size_toArray, List.eraseIdxIfInBounds_toArray, erase_last]
  · rw [List.length_dropLast]
    omega
noncomputable def rReverse : V → List V → Hp → VK → Prop := fun x vs H Q => ∃ l xs, x = .ref l ∧ vs = [] ∧ H l = some (.lst xs) ∧ Q .non (upd H l (.lst xs.reverse))
noncomputable def rCat : R2 := fun x y H Q => ∃ l b xs zs, x = .ref l ∧ y = .ref b ∧ H l = some (.lst xs) ∧ H b = some (.lst zs) ∧ xs.length + zs.length ≤ sizeLine ∧ ∀ p, H p = none → Q (.ref p) (upd H p (.lst (xs ++ zs)))
theorem op_cat : OpR X (binaryOp .Add) rCat := by
  intro pins s σ H x y v u Q I rx ry h
  obtain ⟨l, b, xs, zs, rfl, rfl, hH, hB, hz, q⟩ := h
  cases rx
  cases ry
  obtain ⟨z, its, n, r, hl, e⟩ := I.lstM hH
  obtain ⟨z2, its2, n2, r2, hl2, e2⟩ := I.lstM hB
  refine PySem.P.add_list e e2 ?_ (by rw [List.size_toArray, List.size_toArray]; omega)
  have ea : its.toArray ++ its2.toArray = (its ++ its2).toArray := by simp
  rw [ea]
  exact ⟨.ref _, _, I.lnew (t' := s.toks) (r.append r2) (by rw [List.length_append]; omega), rfl, q _ I.fresh⟩
end
section
variable {prog : Program} {w : World} {A : Around} {E : Value → Shared → Prop} {s : Shared}
end
section
variable {X : Cx}
end
end L2
namespace L2
open PySem PySem.Spec PyProof.Rows
section
variable {κ : Type} [DecidableEq κ]
noncomputable def valV (kvs : List (κ × V)) (k : κ) : Option V := (kvs.find? fun kv => decide (kv.1 = k)).map (·.2)
noncomputable def putK (kvs : List (κ × V)) (k : κ) (v : V) : List (κ × V) :=
  if (kvs.any fun kv => decide (kv.1 = k)) = true then kvs.map (fun kv => if kv.1 = k then (kv.1, v) else kv) else kvs ++ [(k, v)]
noncomputable def dropK (kvs : List (κ × V)) (k : κ) : List (κ × V) := kvs.filter fun kv => decide (kv.1 ≠ k)
theorem valV_pos {p : κ × V} {r : List (κ × V)} {k : κ} (e : p.1 = k) : valV (p :: r) k = some p.2 := by simp [valV, List.find?_cons, e]
theorem valV_neg {p : κ × V} {r : List (κ × V)} {k : κ} (e : ¬ p.1 = k) : valV (p :: r) k = valV r k := by simp [valV, List.find?_cons, e]
theorem length_putK (kvs : List (κ × V)) (k : κ) (v : V) : (putK kvs k v).length ≤ kvs.length + 1 := by
  unfold putK
  split
  · rw [List.length_map]; omega
  · rw [List.length_append, List.length_cons, List.length_nil]; omega
theorem RelO.isSome_eq {o : Option V} {u : Option Value} (r : RelO o u) : o.isSome = u.isSome := by
  cases o with
  | none => cases u with
    | none => rfl
    | some _ => exact (show False from r).elim
  | some _ => cases u with
    | none => exact (show False from r).elim
    | some _ => rfl
theorem RelO.getD {o : Option V} {u : Option Value} {d : V} {d' : Value} (r : RelO o u) (rd : RelV d d') : RelV (o.getD d) (u.getD d') := by
  cases o with
  | none => cases u with
    | none => exact rd
    | some _ => exact (show False from r).elim
  | some _ => cases u with
    | none => exact (show False from r).elim
    | some _ => exact r
theorem KV.val {kvs : List (κ × V)} {vs : List (κ × Value)} (r : KV kvs vs) (k : κ) : RelO (valV kvs k) (valueAt vs k) := by
  unfold KV at r
  induction r with
  | nil => exact True.intro
  | @cons p q ps qs h t ih =>
    obtain ⟨h1, h2⟩ := h
    by_cases e : p.1 = k
    · have e' : q.1 = k := h1.symm.trans e
      have b : valueAt (q :: qs) k = some q.2 := by simp [valueAt, List.find?_cons, e']
      rw [valV_pos e, b]; exact h2
    · have e' : ¬ q.1 = k := fun z => e (h1.trans z)
      have b : valueAt (q :: qs) k = valueAt qs k := by simp [valueAt, List.find?_cons, e']
      rw [valV_neg e, b]; exact ih
theorem KV.any {kvs : List (κ × V)} {vs : List (κ × Value)} (r : KV kvs vs) (k : κ) : (kvs.any fun kv => decide (kv.1 = k)) = vs.any fun kv => decide (kv.1 = k) := by
  unfold KV at r
  induction r with
  | nil => rfl
  | cons h t ih => rw [List.any_cons, List.any_cons, ih, h.1]
theorem KV.repl {kvs : List (κ × V)} {vs : List (κ × Value)} (r : KV kvs vs) (k : κ) {y : V} {u : Value} (ry : RelV y u) :
    KV (kvs.map fun kv => if kv.1 = k then (kv.1, y) else kv) (vs.map fun kv => if kv.1 = k then (kv.1, u) else kv) := by
  unfold KV at r ⊢
  induction r with
  | nil => exact .nil
  | @cons p q ps qs h t ih =>
    rw [List.map_cons, List.map_cons]
    refine .cons ?_ ih
    obtain ⟨h1, h2⟩ := h
    by_cases e : p.1 = k
    · rw [if_pos e, if_pos (h1.symm.trans e)]; exact ⟨h1, ry⟩
    · rw [if_neg e, if_neg (fun z => e (h1.trans z))]; exact ⟨h1, h2⟩
theorem KV.put {kvs : List (κ × V)} {vs : List (κ × Value)} (r : KV kvs vs) (k : κ) {y : V} {u : Value} (ry : RelV y u) : KV (putK kvs k y) (stored vs k u) := by
  unfold putK stored
  rw [r.any k]
  by_cases e : (vs.any fun kv => decide (kv.1 = k)) = true
  · rw [if_pos e, if_pos e]; exact r.repl k ry
  · rw [if_neg e, if_neg e]; exact Paired.snoc r ⟨rfl, ry⟩
theorem KV.drop {kvs : List (κ × V)} {vs : List (κ × Value)} (r : KV kvs vs) (k : κ) : KV (dropK kvs k) (without vs k) := by
  unfold KV at r ⊢
  unfold dropK without
  induction r with
  | nil => exact .nil
  | @cons p q ps qs h t ih =>
    obtain ⟨h1, h2⟩ := h
    rw [List.filter_cons, List.filter_cons]
    by_cases e : p.1 = k
    · have a : ¬ decide (p.1 ≠ k) = true := by simp [e]
      have b : ¬ decide (q.1 ≠ k) = true := by simp [h1.symm.trans e]
      rw [if_neg a, if_neg b]; exact ih
    · have e' : ¬ q.1 = k := fun z => e (h1.trans z)
      have a : decide (p.1 ≠ k) = true := by simp [e]
      have b : decide (q.1 ≠ k) = true := by simp [e']
      rw [if_pos a, if_pos b]; exact .cons ⟨h1, h2⟩ ih
theorem KV.length {kvs : List (κ × V)} {vs : List (κ × Value)} (r : KV kvs vs) : kvs.length = vs.length := Paired.length r
end
theorem kV_is {P : Program} {w : World} {k : Key} {u : Value} (r : RelV (kV k) u) : (mixKind P w).is k u = true := by
  cases k with
  | inl i => obtain ⟨t, e⟩ := (show ∃ t, u = Value.int i t from r); subst e; exact mixKind_int P w i t
  | inr x => obtain ⟨t, e⟩ := (show ∃ t, u = Value.str x t from r); subst e; exact mixKind_str P w x t
noncomputable def KeyAt (H : Hp) (b : Addr) (ks : List Key) : Prop := ∃ ys, H b = some (.tup ys) ∧ Paired kB ks ys
theorem KeyAt.of {H : Hp} {b : Addr} {ks : List Key} (h : H b = some (.tup (ks.map kV))) : KeyAt H b ks := ⟨_, h, kB_all ks⟩
theorem kB_is {P : Program} {w : World} {k : Key} {v : V} {u : Value} (h : kB k v) (r : RelV v u) : (mixB P w).is k u = true := by
  rcases h with rfl | ⟨b, rfl, rfl⟩
  · cases k with
    | inl i => obtain ⟨t, e⟩ := (show ∃ t, u = Value.int i t from r); subst e; exact keyIs_int i t
    | inr x => obtain ⟨t, e⟩ := (show ∃ t, u = Value.str x t from r); subst e; exact keyIs_str x t
  · have e : u = Value.bool b := r
    subst e
    exact decide_eq_true rfl
theorem itemsB_are {P : Program} {w : World} : ∀ {ks : List Key} {ys : List V} {us : List Value}, Paired kB ks ys → Vals ys us → ItemsAre (mixB P w) ks us
  | [], _, _, p, r => by cases p; cases r; exact .nil
  | k :: ks, _, _, p, r => by
    cases p with
    | cons h t => cases r with
      | cons h2 t2 => exact .cons (kB_is h h2) (itemsB_are t t2)
noncomputable abbrev KT (H : Hp) : List (List Key × V) → List (List Key × Addr × Value) → Prop := Paired fun p q => p.1 = q.1 ∧ KeyAt H q.2.1 p.1 ∧ RelV p.2 q.2.2
theorem KT.val {H : Hp} {kvs : List (List Key × V)} {xs : List (List Key × Addr × Value)} (r : KT H kvs xs) (k : List Key) : RelO (valV kvs k) ((atKey xs k).map (·.2)) := by
  induction r with
  | nil => exact True.intro
  | @cons p q ps qs h t ih =>
    obtain ⟨h1, _, h2⟩ := h
    by_cases e : p.1 = k
    · have e' : q.1 = k := h1.symm.trans e
      have b : atKey (q :: qs) k = some q.2 := by simp [atKey, List.find?_cons, e']
      rw [valV_pos e, b]; exact h2
    · have e' : ¬ q.1 = k := fun z => e (h1.trans z)
      have b : atKey (q :: qs) k = atKey qs k := by simp [atKey, List.find?_cons, e']
      rw [valV_neg e, b]; exact ih
section
variable {P : Program} {w : World} {H : Hp} {h : Heap} {a : Addr}
theorem rd_of {u : HO} (ok : HOk P w H h) (e : Rd H a u) : ObjOk P w H h a u := e.ok ok
theorem dk_rd {kvs : List (Key × V)} (ok : HOk P w H h) (e : Rd H a (.dK kvs)) : kvs.length ≤ sizeLine ∧ (a == sysModules) = false ∧ ∃ vs, KV kvs vs ∧ h.DictOf (mixKind P w) a vs :=
  show ObjOk P w H h a (.dK kvs) from rd_of ok e
theorem dk_of {kvs : List (Key × V)} (ok : HOk P w H h) (e : H a = some (.dK kvs)) : kvs.length ≤ sizeLine ∧ (a == sysModules) = false ∧ ∃ vs, KV kvs vs ∧ h.DictOf (mixKind P w) a vs := dk_rd ok (.inl e)
theorem key_of {ks : List Key} (ok : HOk P w H h) (e : KeyAt H a ks) : (tupleKind (mixB P w)).is h ks a := by
  obtain ⟨ys, e, kb⟩ := e
  obtain ⟨_, its, r, o, h1, h2, n, h3⟩ := (show ObjOk P w H h a (.tup ys) from ok a _ e)
  exact ⟨o, its.toArray, n, h1, h2, h3, by simpa using itemsB_are kb r⟩
theorem dt_rd {kvs : List (List Key × V)} (ok : HOk P w H h) (e : Rd H a (.dT kvs)) : kvs.length ≤ sizeLine ∧ (a == sysModules) = false ∧
    ∃ xs, KT H kvs xs ∧ h.DictOfH (tupleKind (mixB P w)) a xs := by
  obtain ⟨z, y, xs, r, o, es, ep, h1, h2, h3, h4, h5⟩ := (show ObjOk P w H h a (.dT kvs) from rd_of ok e)
  refine ⟨z, y, xs, r, o, es, ep, h1, h2, h3, h4, fun x hx => ?_, h5⟩
  have all : ∀ {l : List (List Key × V)} {m : List (List Key × Addr × Value)}, KT H l m → ∀ x ∈ m, (tupleKind (mixB P w)).is h x.1 x.2.1 := by
    intro l m q
    induction q with
    | nil => intro x hx; exact nomatch hx
    | @cons p q ps qs hq t ih =>
      intro x hx
      rcases List.mem_cons.mp hx with e | hx
      · subst e
        exact key_of ok (by rw [← hq.1]; exact hq.2.1)
      · exact ih x hx
  exact all r x hx
end
noncomputable def DGet (H : Hp) (a : Addr) (y : V) (r : Option V) : Prop :=
  (∃ kvs k, Rd H a (.dK kvs) ∧ y = kV k ∧ r = valV kvs k) ∨ ∃ kvs k b, Rd H a (.dT kvs) ∧ y = .ref b ∧ KeyAt H b k ∧ r = valV kvs k
noncomputable def DPut (H : Hp) (a : Addr) (y v : V) (H' : Hp) : Prop :=
  (∃ kvs k, H a = some (.dK kvs) ∧ y = kV k ∧ kvs.length < sizeLine ∧ H' = upd H a (.dK (putK kvs k v))) ∨
  ∃ kvs k b, H a = some (.dT kvs) ∧ y = .ref b ∧ KeyAt H b k ∧ kvs.length < sizeLine ∧ H' = upd H a (.dT (putK kvs k v))
theorem DGet.k {H : Hp} {a : Addr} {kvs : List (Key × V)} {k : Key} (e : H a = some (.dK kvs)) : DGet H a (kV k) (valV kvs k) := .inl ⟨kvs, k, .inl e, rfl, rfl⟩
theorem DGet.t {H : Hp} {a b : Addr} {kvs : List (List Key × V)} {k : List Key} (e : H a = some (.dT kvs)) (eb : H b = some (.tup (k.map kV))) : DGet H a (.ref b) (valV kvs k) := .inr ⟨kvs, k, b, .inl e, rfl, KeyAt.of eb, rfl⟩
theorem DGet.b {H : Hp} {a b : Addr} {kvs : List (List Key × V)} {k : List Key} (e : H a = some (.dT kvs)) (eb : KeyAt H b k) : DGet H a (.ref b) (valV kvs k) := .inr ⟨kvs, k, b, .inl e, rfl, eb, rfl⟩
theorem DPut.k {H : Hp} {a : Addr} {kvs : List (Key × V)} {k : Key} {v : V} (e : H a = some (.dK kvs)) (hl : kvs.length < sizeLine) : DPut H a (kV k) v (upd H a (.dK (putK kvs k v))) := .inl ⟨kvs, k, e, rfl, hl, rfl⟩
theorem DPut.t {H : Hp} {a b : Addr} {kvs : List (List Key × V)} {k : List Key} {v : V} (e : H a = some (.dT kvs)) (eb : H b = some (.tup (k.map kV))) (hl : kvs.length < sizeLine) :
    DPut H a (.ref b) v (upd H a (.dT (putK kvs k v))) := .inr ⟨kvs, k, b, e, rfl, KeyAt.of eb, hl, rfl⟩
theorem DPut.b {H : Hp} {a b : Addr} {kvs : List (List Key × V)} {k : List Key} {v : V} (e : H a = some (.dT kvs)) (eb : KeyAt H b k) (hl : kvs.length < sizeLine) :
    DPut H a (.ref b) v (upd H a (.dT (putK kvs k v))) := .inr ⟨kvs, k, b, e, rfl, eb, hl, rfl⟩
section
variable {X : Cx} {pins : List (Addr × Obj)} {σ : St} {H : Hp} {s : Shared} {a : Addr} {y v : V} {u r : Value} {o : Option V} {A : Around} {E : Value → Shared → Prop}
theorem Inv.big (I : Inv X pins σ H s) : sysModules < s.heap.objs.size := by
  have h : mainGlobals < s.heap.objs.size := (I.mod.glob.keeps I.bk).lt
  exact Nat.lt_trans (by decide) h
theorem d_write {h' : Heap} {t' : Nat} {ob : HO} (I : Inv X pins σ H s) (mu : Mut (H a)) (hs : Heap.SameBut a s.heap h') (he : ∃ q, h'.get? a = some q) (new : ObjOk X.prog X.w (upd H a ob) h' a ob) :
    Inv X pins σ (upd H a ob) { s with heap := h', toks := t' } :=
  I.write (x := a) (e := a) mu (.inl rfl) (fun b q hb z => (hs.2 b hb).trans z) he new
theorem dk_new {P : Program} {w : World} {H' : Hp} {h' : Heap} {kvs : List (Key × V)} {vs : List (Key × Value)} (z : kvs.length ≤ sizeLine) (hd : (a == sysModules) = false) (rel : KV kvs vs) (dd : h'.DictOf (mixKind P w) a vs) :
    ObjOk P w H' h' a (.dK kvs) := ⟨z, hd, vs, rel, dd⟩
end
section
variable {X : Cx} {pins : List (Addr × Obj)} {σ : St} {H : Hp} {s : Shared} {a : Addr} {kvs : List (Key × V)} {k : Key} {u : Value} {A : Around} {E : Value → Shared → Prop}
end
noncomputable def NoSl (i : Expr) : Prop := ∀ ov iv, subscripted i false ov iv = operate [ov, iv] (getItem ov iv)
theorem subD_of {prog : Program} {w : World} {A : Around} {E : Value → Shared → Prop} {s : Shared} {env : Env} {value slice : Expr} {pos : Pos} {T id : String} {Q : Value → Shared → Prop}
    (hl : typeLookup (.type T) "__getitem__" = pure (some (.builtin id))) (hs : NoSl slice)
    (h : wpAny (model prog w) A (eval value env) (fun o s₁ => wpAny (model prog w) A (eval slice env) (fun i s₂ => s₂.TypeIs o T ∧ wpAny (model prog w) A (getItem o i) Q E s₂) E s₁) E s) :
    wpAny (model prog w) A (eval (.Subscript value slice pos) env) Q E s := by
  refine Subscript_ (wpAny_mono h (fun o s₁ h₁ => wpAny_mono h₁ (fun i s₂ h₂ => ?_) fun _ _ x => x) fun _ _ x => x)
  obtain ⟨hT, h₂⟩ := h₂
  unfold subscriptTail
  refine wpAny_bind ?_
  rw [getitemInPython_of_ne hT.not_modules]
  refine wpAny_bind (wpAny_specialOf hT hl ?_)
  have fin : wpAny (model prog w) A (subscripted slice false o i) (fun r s₃ => wpAny (model prog w) A (letTemporaryGo value o r >>= fun _ => pure r) Q E s₃) E s₂ := by
    rw [hs o i]
    exact wpAny_operating (wpAny_mono h₂ (fun r s₃ h₃ => wpAny_bind (wpAny_letTemporaryGo (wpAny_pure h₃))) fun _ _ x => x)
  first
    | exact wpAny_pure (wpAny_bind fin)
    | exact wpAny_bind (wpAny_pure (wpAny_bind fin))
    | exact wpAny_bind fin
noncomputable def tDGet (td ty : TE) : TE := fun σ H Q => td σ H fun x H1 => ty σ H1 fun y H2 => ∃ a v, x = .ref a ∧ DGet H2 a y (some v) ∧ Q v H2
noncomputable def tDIn (ty td : TE) : TE := fun σ H Q => ty σ H fun y H1 => td σ H1 fun x H2 => ∃ a o, x = .ref a ∧ DGet H2 a y o ∧ Q (.bl o.isSome) H2
noncomputable def tDNotIn (ty td : TE) : TE := fun σ H Q => ty σ H fun y H1 => td σ H1 fun x H2 => ∃ a o, x = .ref a ∧ DGet H2 a y o ∧ Q (.bl (!o.isSome)) H2
noncomputable def sDPut (td ty tv : TE) : TS := fun D σ H => tv σ H fun v H1 => td σ H1 fun x H2 => ty σ H2 fun y H3 => ∃ a H4, x = .ref a ∧ DPut H3 a y v H4 ∧ D.nx σ H4
section
variable {X : Cx} {o i e value : Expr} {pos pos' tpos : Pos} {td ty tv : TE}
end
theorem dk_empty {P : Program} {w : World} {H : Hp} (h : Heap) (hb : sysModules < h.objs.size) : ObjOk P w H (h.push { cls := .type "dict", data := .dict #[] }) h.objs.size (.dK []) :=
  ⟨Nat.zero_le _, beq_eq_false_iff_ne.mpr (Ne.symm (Nat.ne_of_lt hb)), [], .nil, Heap.DictOf.new h⟩
section
variable {X : Cx} {pos : Pos}
end
noncomputable def tPairs : List (TE × TE) → St → Hp → (List (V × V) → Hp → Prop) → Prop
  | [], _, H, Q => Q [] H
  | (tk, tv) :: r, σ, H, Q => tk σ H fun x H1 => tv σ H1 fun y H2 => tPairs r σ H2 fun ps H3 => Q ((x, y) :: ps) H3
noncomputable abbrev VV : List (V × V) → List (Value × Value) → Prop := Paired fun p q => RelV p.1 q.1 ∧ RelV p.2 q.2
noncomputable def PPs (X : Cx) (pos : Pos) (keys : List (Option Expr)) (values : List Expr) (trs : List (TE × TE)) : Prop :=
  ∀ (pins : List (Addr × Obj)) (s : Shared) (σ : St) (H : Hp) (Q : List (V × V) → Hp → Prop), Inv X pins σ H s → tPairs trs σ H Q →
    wpAny (model X.prog X.w) X.A (evalPairs (pairTrees keys values X.env pos)) (fun vs s' => ∃ ps H', Inv X pins σ H' s' ∧ VV ps vs ∧ Q ps H') X.xe s
theorem pps_nil {X : Cx} {pos : Pos} : PPs X pos [] [] [] := fun pins s σ H Q I h => pairTrees_nil_walk ⟨[], H, I, .nil, h⟩
theorem pps_cons {X : Cx} {pos : Pos} {k v : Expr} {ks : List (Option Expr)} {vs : List Expr} {tk tv : TE} {trs : List (TE × TE)} (hk : PE X k tk) (hv : PE X v tv) (hr : PPs X pos ks vs trs) :
    PPs X pos (some k :: ks) (v :: vs) ((tk, tv) :: trs) := fun pins s σ H Q I h =>
  pairTrees_cons_walk (thn (hk pins s σ H _ I h) fun u s1 ⟨x, H1, I1, rx, q1⟩ => thn (hv pins s1 σ H1 _ I1 q1) fun w2 s2 ⟨y, H2, I2, ry, q2⟩ =>
    thn (hr pins s2 σ H2 _ I2 q2) fun ws s3 ⟨ps, H3, I3, rel, q3⟩ => ⟨(x, y) :: ps, H3, I3, .cons ⟨rx, ry⟩ rel, q3⟩)
noncomputable def mergeK (kvs more : List (Key × V)) : List (Key × V) := more.foldl (fun acc kv => putK acc kv.1 kv.2) kvs
theorem KV.merge : ∀ {more : List (Key × V)} {rs : List (Key × Value)} {kvs : List (Key × V)} {vs : List (Key × Value)}, KV more rs → KV kvs vs → KV (mergeK kvs more) (merged vs rs) := by
  intro more rs kvs vs r
  unfold KV at r
  induction r generalizing kvs vs with
  | nil => intro q; exact q
  | @cons p q ps qs h t ih =>
    intro r0
    have e : KV (putK kvs p.1 p.2) (stored vs q.1 q.2) := by
      have := r0.put p.1 h.2
      rw [← h.1]; exact this
    exact ih e
theorem length_mergeK : ∀ (more kvs : List (Key × V)), (mergeK kvs more).length ≤ kvs.length + more.length
  | [], kvs => by show kvs.length ≤ kvs.length + 0; omega
  | p :: r, kvs => by
    have h1 := length_mergeK r (putK kvs p.1 p.2)
    have h2 := length_putK kvs p.1 p.2
    show (mergeK (putK kvs p.1 p.2) r).length ≤ _
    rw [List.length_cons]; omega
theorem carries_of {P : Program} {w : World} : ∀ {kvs : List (Key × V)} {ws : List (Value × Value)}, VV (kvs.map fun kv => (kV kv.1, kv.2)) ws → ∃ rs, Carries (mixKind P w) ws rs ∧ KV kvs rs
  | [], _, r => by rw [List.map_nil] at r; cases r; exact ⟨[], True.intro, .nil⟩
  | p :: kvs, _, r => by
    rw [List.map_cons] at r
    cases r with
    | @cons a b as bs h t =>
      obtain ⟨rs, c, q⟩ := carries_of (P := P) (w := w) t
      obtain ⟨b1, b2⟩ := b
      exact ⟨(p.1, b2) :: rs, ⟨kV_is h.1, rfl, c⟩, .cons ⟨rfl, h.2⟩ q⟩
noncomputable def tDisp (trs : List (TE × TE)) : TE := fun σ H Q => ∀ p, H p = none → tPairs trs σ (upd H p (.dK [])) fun ps H2 => H2 p = some (.dK []) ∧ ∃ kvs : List (Key × V), ps = kvs.map (fun kv => (kV kv.1, kv.2)) ∧ kvs.length ≤ 15 ∧ Q (.ref p) (upd H2 p (.dK (mergeK [] kvs)))
theorem pe_disp {X : Cx} {pos : Pos} {keys : List (Option Expr)} {values : List Expr} {trs : List (TE × TE)} (h : PPs X pos keys values trs) (hall : keys.all (·.isSome) = true) (hl : keys.length = values.length) (h0 : keys ≠ [])
    (h15 : keys.length ≤ 15) : PE X (.Dict keys values pos) (tDisp trs) := by
  intro pins s σ H Q I q
  have hn := I.hok.fresh (Nat.le_refl s.heap.objs.size)
  have I1 := I.laid (a := s.heap.objs.size) (o := .dK []) (h' := s.heap.push { cls := .type "dict", data := .dict #[] }) (t' := s.toks) (fun _ _ q => Heap.get?_push_of_some _ q) (Nat.le_refl _) (dk_empty s.heap I.big)
  refine wpAny_Dict_walk (knd := mixKind X.prog X.w) hall hl h0 h15 (thn (h pins _ σ _ _ I1 (q _ hn)) fun ws s2 ⟨ps, H2, I2, rel, e, kvs, ep, lk, q2⟩ => ?_)
  subst ep
  obtain ⟨rs, c, rk⟩ := carries_of (P := X.prog) (w := X.w) rel
  obtain ⟨z, hd, vs0, r0, dd⟩ := dk_of I2.hok e
  cases r0
  refine ⟨rs, c, dd, fun h' dd' hs => ⟨.ref s.heap.objs.size, _, ?_, rfl, q2⟩⟩
  have hz : (mergeK [] kvs).length ≤ sizeLine := by
    have h1 := length_mergeK kvs []
    rw [List.length_nil] at h1
    rw [sizeLine_eq]; omega
  have he : ∃ q, h'.get? s.heap.objs.size = some q := let ⟨q, _, _, hq, _⟩ := dd'; ⟨q, hq⟩
  exact d_write I2 (by rw [e]; exact True.intro) hs he (dk_new hz hd (rk.merge .nil) dd')
structure M1 (X : Cx) (o : Expr) (m : Str) (apos : Pos) (e : Expr) (cpos : Pos) : Prop where
  base : attributeBase o m X.env (eval o X.env) = eval o X.env
  few : ((backTo cpos (starEach [e] X.env)).all (fun x => !x.1) && (backToKw cpos (keywordEach [] X.env)).all (fun x => x.1.isSome)
    && decide (([e] : List Expr).length + ([] : List Keyword).length + (if ([] : List Keyword).isEmpty then 0 else 1) < 30)) = true
  line : (apos.endLine == cpos.line) = true
  trees : backTo cpos (starEach [e] X.env) = [(false, eval e X.env)]
structure M2 (X : Cx) (o : Expr) (m : Str) (apos : Pos) (e f : Expr) (cpos : Pos) : Prop where
  base : attributeBase o m X.env (eval o X.env) = eval o X.env
  few : ((backTo cpos (starEach [e, f] X.env)).all (fun x => !x.1) && (backToKw cpos (keywordEach [] X.env)).all (fun x => x.1.isSome)
    && decide (([e, f] : List Expr).length + ([] : List Keyword).length + (if ([] : List Keyword).isEmpty then 0 else 1) < 30)) = true
  line : (apos.endLine == cpos.line) = true
  trees : backTo cpos (starEach [e, f] X.env) = [(false, eval e X.env), (false, eval f X.env)]
noncomputable def IsD (H : Hp) (a : Addr) : Prop := (∃ kvs, Rd H a (.dK kvs)) ∨ ∃ kvs, Rd H a (.dT kvs)
theorem isD_at {X : Cx} {pins : List (Addr × Obj)} {σ : St} {H : Hp} {s : Shared} {a : Addr} (I : Inv X pins σ H s) (d : IsD H a) :
    s.TypeIs (.ref a) "dict" ∧ (∀ b, Value.ref a = .ref b → ∃ ob, s.heap.get? b = some ob ∧ ob.dict = none) ∧ (a == sysModules) = false := by
  rcases d with ⟨kvs, e⟩ | ⟨kvs, e⟩
  · obtain ⟨_, hd, vs, _, dd⟩ := dk_rd I.hok e
    refine ⟨dd.typeIs, fun b q => ?_, hd⟩
    cases q
    obtain ⟨ob, _, _, h1, h2, _⟩ := dd
    exact ⟨ob, h1, h2.2.1⟩
  · obtain ⟨_, hd, xs, _, dd⟩ := dt_rd I.hok e
    refine ⟨dd.typeIs, fun b q => ?_, hd⟩
    cases q
    obtain ⟨ob, _, _, h1, h2, _⟩ := dd
    exact ⟨ob, h1, h2.2.1⟩
section
variable {X : Cx} {pins : List (Addr × Obj)} {σ : St} {H : Hp} {s : Shared} {a : Addr} {y d : V} {u r : Value} {o : Option V} {A : Around} {E : Value → Shared → Prop}
theorem d_get2 {Q : Value → Shared → Prop} (hu : A.units + 1 < cLine) (I : Inv X pins σ H s) (g : DGet H a y o) (ry : RelV y u) (rd : RelV d r) (h : ∀ w' s', Inv X pins σ H s' → RelV (o.getD d) w' → Q w' s') :
    wpAny (model X.prog X.w) A (call (.builtin "dict.get") [.ref a, u, r]) Q E s := by
  rcases g with ⟨kvs, k, e, ey, l⟩ | ⟨kvs, k, b, e, ey, eb, l⟩
  · subst ey
    obtain ⟨z, hd, vs, rel, dd⟩ := dk_rd I.hok e
    refine call_meetsIn PySem.F.slot_dict_get dd.typeIs PySem.F.entry_dict_get (PySem.F.args_dict_get_3 _ _ _) (meets_dict_get_default (mixKind X.prog X.w) a (kV_is ry) hd r) ⟨_, dd.mapOf, h _ _ (I.tok _) ?_⟩
    rw [l]
    exact (rel.val k).getD rd
  · subst ey
    cases (show u = Value.ref b from ry)
    obtain ⟨z, hd, xs, rel, dd⟩ := dt_rd I.hok e
    refine call_meetsIn PySem.F.slot_dict_get dd.typeIs PySem.F.entry_dict_get (PySem.F.args_dict_get_3 _ _ _) (meetsH_dict_get_default (tupleKind (mixB X.prog X.w)) a b hd r) ⟨tupleKind_room_in1 hu, k, xs, key_of I.hok eb, dd, h _ _ (I.tok _) ?_⟩
    rw [l]
    exact (rel.val k).getD rd
end
noncomputable def tDGet2 (td ty tx : TE) : TE := fun σ H Q => td σ H fun x H1 => ∃ a, x = .ref a ∧ IsD H1 a ∧ ty σ H1 fun y H2 => tx σ H2 fun z H3 => ∃ o, DGet H3 a y o ∧ Q (o.getD z) H3
section
variable {X : Cx} {o e f : Expr} {apos cpos : Pos} {td ty tx : TE}
theorem pe_dget2 (hu : X.A.units + 1 < cLine) (ho : PE X o td) (he : PE X e ty) (hf : PE X f tx) (m : M2 X o "get" apos e f cpos) : PE X (.Call (.Attribute o "get" apos) [e, f] [] cpos) (tDGet2 td ty tx) := by
  intro pins s σ H Q I h
  refine wpAny_Call_method m.base m.few m.line PySem.F.plainAttrs_dict PySem.F.slot_dict_get PySem.F.type_dict_get (thn (ho pins s σ H _ I h) fun u s1 ⟨x, H1, I1, rx, a, ex, d, q1⟩ => ?_)
  subst ex
  obtain rfl : u = Value.ref a := rx
  obtain ⟨t1, t2, _⟩ := isD_at I1 d
  refine ⟨t1, t2, ?_⟩
  rw [m.trees]
  refine Calls.callWith_builtin rfl (Calls.evalArgs_plain (Calls.spliced_cons (thn (he pins s1 σ H1 _ I1 q1) fun iv s2 ⟨y, H2, I2, ry, q2⟩ =>
    Calls.spliced_cons (thn (hf pins s2 σ H2 _ I2 q2) fun fv s3 ⟨z, H3, I3, rz, ov, g, q3⟩ => Calls.spliced_nil ?_))))
  exact d_get2 hu I3 g ry rz fun w' s4 I4 rw' => ⟨_, H3, I4, rw', q3⟩
end
section
variable {X : Cx} {pins : List (Addr × Obj)} {σ : St} {H : Hp} {s : Shared} {a : Addr} {kvs : List (Key × V)} {A : Around} {E : Value → Shared → Prop}
end
section
variable {X : Cx} {pins : List (Addr × Obj)} {σ : St} {H : Hp} {s : Shared} {a : Addr} {y : V} {u : Value} {A : Around} {E : Value → Shared → Prop}
end
end L2
namespace Att
open PySem PySem.W PySem.Calls PyProof.Rows
theorem ints_of_wellAll {P : Params} {h : Heap} : ∀ (ns : List Int) (vs : List Value), WellAll P h vs (ns.map WData.int) → IntsAre vs ns := by
  intro ns
  induction ns with
  | nil =>
    intro vs w
    rw [List.map_nil] at w
    cases w
    exact .nil
  | cons n ns ih =>
    intro vs w
    rw [List.map_cons] at w
    cases w with
    | cons a b =>
      cases a
      exact .cons _ _ (ih _ b)
theorem script_of {l : OpenLaw} {n : Nat} (hn : l.most = some n) {P : Params} {h : Heap} {args : List WData} {vals : List Value}
    (hpre : l.row.toRowW.claim.pre args = true) (hwl : WellAll P h vals args) :
    ∃ a vs ns, vals = [Value.ref a] ∧ args = [WData.list (ns.map WData.int)] ∧ h.get? a = some { cls := .type "list", data := .seq vs.toArray } ∧ IntsAre vs ns ∧ ns.length ≤ n := by
  have hsh : WShape.hasAll [] args [.list .int] = true := (pre_splitW hpre).1
  have hc : l.pre.holds [] { args := args } = true := (pre_splitW hpre).2
  obtain ⟨d, r, rfl, h1, h2⟩ := hasAllW_cons hsh
  obtain rfl := hasAllW_nil h2
  obtain ⟨xs, rfl, h3⟩ := hasW_list h1
  obtain ⟨ns, rfl⟩ := items_int h3
  have hlen : ns.length ≤ n := by
    unfold OpenLaw.pre at hc
    have h4 : (WTm.not (.lt (.lit (.int (n : Int))) (.len (.arg 0)))).holds [] { args := [.list (ns.map .int)] } = true := by
      have h4 := (holds_andW hc).1
      rw [hn] at h4
      exact h4
    have h5 := condW_of h4 (w_not (w_lt w_lit (w_len_list (w_arg rfl))))
    rw [List.length_map] at h5
    refine Nat.le_of_not_lt fun q => ?_
    have q' : (n : Int) < ((ns.length : Nat) : Int) := by omega
    first
      | (rw [decide_eq_true q'] at h5; exact absurd h5 (by decide))
      | (simp at h5; omega)
  cases hwl with
  | cons w1 w2 =>
    cases w2
    cases w1 with
    | list ho hall => exact ⟨_, _, ns, rfl, rfl, ho, ints_of_wellAll ns _ hall, hlen⟩
theorem post_true (l : OpenLaw) (args : List WData) : l.row.toRowW.claim.post args (.bool true) args = true :=
  postW_of (r := l.row.toRowW) (X := (true == true))
    (show WShape.has [] (.bool true) .bool = true by first | rfl | decide | simp [WShape.has, WShape.arms, WShape.armsAll])
    (show (WTm.eq .res (.lit (.bool true))).value [] { args := args, res := some (.bool true), after := args } = some (.bool (true == true)) from w_eq_bool (w_res rfl) w_lit) rfl
theorem attach_call {l : OpenLaw} {n : Nat} {q : Program} {loose : List Str} {XP : (Str → Option Value) → Heap → Prop} {YP : World → Heap → Prop} {d : DefRec}
    (hn : l.most = some n) (hdf : d.params.defaults = [])
    (call : ∀ (w : World) (s₀ s₁ : Shared) (mg mb : Str → Option Value) (fa : Addr) (o : Obj) (pm cd doc : Value) (a : Addr) (vs : List Value) (ns : List Int),
      Ground q loose [] XP w s₀ mg mb s₁.heap → YP w s₁.heap →
      s₁.heap.get? fa = some o → o.data = .func (docDef d.name d.params d.body d.scope pm cd doc) → s₁.heap.CodeRec cd d.name → mg d.name = some (.ref fa) →
      s₁.heap.get? a = some { cls := .type "list", data := .seq vs.toArray } → IntsAre vs ns → ns.length ≤ n → s₁.gens = #[] →
      codeAny (model l.prog w) callerA (.call (.ref fa) ⟨[.ref a], []⟩) (fun r s' => r = .ok (.ret (.bool true)) ∧ OldK s₁.heap s'.heap ∧ s'.os = s₁.os ∧ AllBare s'.gens) s₁) :
    WalkO q loose XP YP l.row.toRowW d [] (fun f vs => PySem.call f vs) := by
  intro w s₀ s₁ mg mb G Y fa o pm cd doc dV kV ho hd hcd hD hmg hg args vals as hpre hlay hrd hwl hlo
  obtain rfl : dV = .none := Dflts.none hD hdf
  obtain rfl : kV = .none := Dflts.noKw hD
  obtain ⟨a, vs, ns, rfl, rfl, hobj, hints, hlen⟩ := script_of hn hpre hwl
  refine enter_call (codeAny_mono (call w s₀ s₁ mg mb fa o pm cd doc a vs ns G Y ho (fd_plain hd) hcd hmg hobj hints hlen hg) fun r s' hq => ?_)
  obtain ⟨rfl, h2, h3, h4⟩ := hq
  exact ⟨.inl ⟨.bool true, .bool true, [], rfl, fun _ => rfl, .bool true, post_true l _, fun _ => ⟨List.Pairwise.nil, fun _ hm => (nomatch hm)⟩⟩, h2, h3, h4⟩
section
variable {prog : Program} {w : World} {A : Around} {E : Value → Shared → Prop} {s : Shared} {K : Frag}
end
end Att
namespace L2
open PySem PySem.Spec PyProof.Rows
theorem vals_ints : ∀ {vs : List Value} {ns : List Int}, IntsAre vs ns → Vals (ns.map V.int) vs
  | _, _, .nil => .nil
  | _, _, .cons n t h => .cons ⟨t, rfl⟩ (vals_ints h)
noncomputable def Only (H : Hp) : Prop := ∀ b, H b = none ∨ ∃ o xs, H b = some (.frz o (.lst xs))
theorem law_call {P : Program} {w : World} {K : PySem.W.Frag} {mg mb : Str → Option Value} {CX : CXT} {k : Nat} {fa a : Addr} {fd : FuncData} {x : Str} {sp : Sp} {s₁ : Shared} {vs : List Value} {ns : List Int}
    (KX : K.In s₁.heap) (hns : s₁.heap.Ns mainGlobals mg) (hb : s₁.heap.Ns builtinsNs mb) (hbb : ∀ x : Str, x ≠ "__name__" → mb x = bootBuiltins x) (hlim : s₁.heap.NoLimit) (hg : s₁.gens = #[])
    (ha : s₁.heap.get? a = some { cls := .type "list", data := .seq vs.toArray }) (hi : IntsAre vs ns) (hl : ns.length ≤ sizeLine) (hr : Room k callerA)
    (F : ∀ base : Heap, K.In base → base.Ns mainGlobals mg → FnOk P w K mg base CX k fa fd [x] sp) (hbind : ∀ (s : Shared) (u : Value), BindsTo s fd ⟨[u], []⟩ [(x, u)])
    (hsp : ∀ H : Hp, Only H → SqL K H a (ns.map V.int) → sp [.ref a] H (fun v _ => v = .bl true) fun _ _ _ => False)
    (hCX : ∀ H e s', CX [] H s₁ (fun _ _ _ => False) e s' → False) :
    codeAny (model P w) callerA (.call (.ref fa) ⟨[.ref a], []⟩) (fun r s' => r = .ok (.ret (.bool true)) ∧ OldK s₁.heap s'.heap ∧ s'.os = s₁.os ∧ AllBare s'.gens) s₁ := by
  have rv := vals_ints hi
  have lenV := hi.length
  have core : ∀ H : Hp, Only H → SqL K H a (ns.map V.int) → HOk P w H s₁.heap → (∀ b, H b ≠ none → b = a) → (H a ≠ none → K.lookup a = none) →
      codeAny (model P w) callerA (.call (.ref fa) ⟨[.ref a], []⟩) (fun r s' => r = .ok (.ret (.bool true)) ∧ OldK s₁.heap s'.heap ∧ s'.os = s₁.os ∧ AllBare s'.gens) s₁ := by
    intro H hO hS hok hA hK
    have base_of : ∀ {b : Addr} {o : Obj}, s₁.heap.get? b = some o → H b = none → (hidT s₁.heap H).get? b = some o := fun e n => hidT_get e n
    have noA : ∀ {b : Addr} {o : Obj} {es : Array DictEntry} {ep : Nat}, s₁.heap.get? b = some o → o.data = .dict es ep → H b = none := fun {b o es ep} e d => by
      cases q : H b with
      | none => rfl
      | some u =>
        have e' : b = a := hA b (by rw [q]; simp)
        subst e'
        rw [ha] at e; cases e
        have d' : Data.seq vs.toArray _ = Data.dict es ep := d
        cases d'
    have nsK : ∀ {b : Addr} {m : Str → Option Value}, s₁.heap.Ns b m → (hidT s₁.heap H).Ns b m := fun {b m} ⟨o, es, ep, e, d, r⟩ => ⟨o, es, ep, base_of e (noA e d), d, r⟩
    have hKb : K.In (hidT s₁.heap H) := fun b o e => base_of (KX b o e) (by
      cases q : H b with
      | none => rfl
      | some u =>
        have e' : b = a := hA b (by rw [q]; simp)
        subst e'
        rw [hK (by rw [q]; simp)] at e; cases e)
    have hM : Mod K mg (hidT s₁.heap H) := ⟨hKb, nsK hns, ⟨mb, nsK hb, hbb⟩, let ⟨mc, h1, h2⟩ := hlim; ⟨mc, nsK h1, h2⟩⟩
    have e0 : Env0 P w K mg (hidT s₁.heap H) callerA [] s₁ H := ⟨rfl, hM, fun b o e => of_hidT e, Nat.le_of_eq (hidT_size _ _), trivial, fun b hb => absurd (show b ∈ ([] : List Addr) from hb) (by simp), hok, .of_eq hg⟩
    refine codeAny_mono ((F _ hKb (nsK hns)).run callerA [] s₁ H ⟨[.ref a], []⟩ [.ref a] [.ref a] _ _ hr e0 (hbind s₁ (.ref a)) (.cons rfl .nil) (hsp H hO hS)) fun r s' h => ?_
    cases r with
    | error e => exact (hCX H e s' h).elim
    | ok fl =>
      cases fl with
      | next => exact False.elim h
      | brk => exact False.elim h
      | cont => exact False.elim h
      | ret u =>
        obtain ⟨v, H', os, bare, un, hok', r', q⟩ := h
        have q' : v = .bl true := q
        subst q'
        obtain rfl : u = Value.bool true := r'
        refine ⟨rfl, OldK.of_keep fun b o e => ?_, os, bare⟩
        cases q : H b with
        | none => exact un.keep b o e q (by intro z; exact absurd (show b ∈ ([] : List Addr) from z) (by simp)) (by simp)
        | some u =>
          rcases hO b with z | ⟨ob, xs, z⟩
          · rw [q] at z; cases z
          · have z2 := un.frzs b ob _ z
            obtain ⟨e1, _⟩ := hok b _ z
            obtain ⟨e2, _⟩ := hok' b _ z2
            rw [e] at e1; cases e1
            exact e2
  cases hk : K.lookup a with
  | some o =>
    have e := KX a o hk
    rw [ha] at e
    cases e
    refine core (fun _ => none) (fun _ => .inl rfl) (.inr ⟨_, vs.toArray, _, hk, rfl, rfl, rfl, by rw [List.size_toArray, lenV]; exact hl, by simpa using rv⟩) (fun b u z => by have z' : (none : Option HO) = some u := z; cases z') (fun b z => absurd rfl z) fun z => absurd rfl z
  | none =>
    refine core (fun b => if b = a then some (.frz { cls := .type "list", data := .seq vs.toArray } (.lst (ns.map V.int))) else none) (fun b => ?_) (.inl (.inr ⟨{ cls := .type "list", data := .seq vs.toArray }, if_pos rfl⟩)) (fun b u z => ?_) (fun b z => ?_) fun _ => hk
    · by_cases hb : b = a
      · exact .inr ⟨_, _, if_pos hb⟩
      · exact .inl (if_neg hb)
    · by_cases hb : b = a
      · have z' := (if_pos hb).symm.trans z
        cases z'
        subst hb
        exact ⟨ha, by rw [List.length_map]; exact hl, vs, _, rv, ha⟩
      · have z' := (if_neg hb).symm.trans z
        cases z'
    · by_cases hb : b = a
      · exact hb
      · exact absurd (if_neg hb) z
end L2
namespace L2
open PySem PySem.Spec PyProof.Rows
theorem walk_of {l : PySem.W.OpenLaw} {n k : Nat} {q : Program} {loose : List Str} {XP : (Str → Option Value) → Heap → Prop} {YP : World → Heap → Prop} {d : DefRec} {K : Params → PySem.W.Frag} {CX : World → CXT} {sp : World → Sp} {x : Str}
    (hn : l.most = some n) (hn2 : n ≤ sizeLine) (hdf : d.params.defaults = []) (hr : Room k callerA)
    (hY : ∀ (w : World) (h : Heap), YP w h → (K w.params).In h)
    (F : ∀ (w : World) (mg : Str → Option Value) (fa : Addr) (h : Heap), (K w.params).In h → h.Ns mainGlobals mg → mg d.name = some (.ref fa) →
      ∃ fd : FuncData, (∀ (s : Shared) (u : Value), BindsTo s fd ⟨[u], []⟩ [(x, u)]) ∧
        ∀ base : Heap, (K w.params).In base → base.Ns mainGlobals mg → FnOk l.prog w (K w.params) mg base (CX w) k fa fd [x] (sp w))
    (hsp : ∀ (w : World) (H : Hp) (a : Addr) (ns : List Int), ns.length ≤ n → Only H → SqL (K w.params) H a (ns.map V.int) → sp w [.ref a] H (fun v _ => v = .bl true) fun _ _ _ => False)
    (hCX : ∀ (w : World) (H : Hp) (s : Shared) (e : Value) (s' : Shared), CX w [] H s (fun _ _ _ => False) e s' → False) :
    PySem.W.WalkO q loose XP YP l.row.toRowW d [] (fun f vs => PySem.call f vs) := by
  refine Att.attach_call hn hdf fun w s₀ s₁ mg mb fa o pm cd doc a vs ns G Y ho hd hcd hmg hobj hints hlen hg => ?_
  have KX := hY w _ Y
  obtain ⟨fd, hb, hF⟩ := F w mg fa _ KX G.T.g hmg
  exact law_call KX G.T.g G.T.b G.T.builtins G.T.nolimit hg hobj hints (Nat.le_trans hlen hn2) hr hF hb (fun H hO hS => hsp w H a ns hlen hO hS) fun H e s' => hCX w H s₁ e s'
end L2
namespace L2
open PySem PySem.Spec PyProof.Rows
noncomputable def inClass (s : Stmt) (j : Nat) : Stmt := match s with
  | .ClassDef _ _ _ body _ _ _ _ _ _ _ => body.getD j (.Pass ⟨0, 0, 0, 0⟩)
  | _ => .Pass ⟨0, 0, 0, 0⟩
noncomputable def defArgs (s : Stmt) : Arguments := match s with
  | .FunctionDef _ a _ _ _ _ _ _ _ _ => a
  | _ => { posonlyargs := [], args := [], vararg := none, kwonlyargs := [], kw_defaults := [], kwarg := none, defaults := [] }
noncomputable def defBody (s : Stmt) : List Stmt := match s with
  | .FunctionDef _ _ b _ _ _ _ _ _ _ => b
  | _ => []
noncomputable def defScope (s : Stmt) : Scope := match s with
  | .FunctionDef _ _ _ _ _ _ sc _ _ _ => sc
  | _ => { kind := .function, names := [], isGenerator := false, isCoroutine := false }
noncomputable abbrev CX0 : CXT := fun _ _ _ _ _ _ => False
noncomputable abbrev E0 : XK := fun _ _ _ => False
theorem pass0 {X : Cx} : Passes CX0 X E0 := fun _ _ _ _ _ _ _ h => h.elim
structure Fun (K : PySem.W.Frag) (x qual : Str) (st : Stmt) (f : Addr) (fd : FuncData) : Prop where
  ex : ∃ (oc : Value) (od : Option Addr) (kV doc pm : Value) (an : Option Addr) (cdv ct : Value) (osl : Array (Option Value)),
    fd = PySem.W.fnOf x qual (defArgs st) (defBody st) (defScope st) .none kV doc pm an cdv ct ∧ K.lookup f = some ⟨oc, od, .func fd, osl⟩ ∧ PySem.W.codeIn K cdv qual = true
  kp : PySem.W.keepIn K (.ref f) = true
section
variable {P : Program} {w : World} {K : PySem.W.Frag} {mg : Str → Option Value} {base : Heap}
theorem Fun.ok {x qual : Str} {st : Stmt} {f : Addr} {fd : FuncData} {N ps : List Str} {k : Nat} {sp : Sp} (F : Fun K x qual st f fd) (S : FnScope N ps (defScope st)) (len : ∀ vs H Q E, sp vs H Q E → vs.length = ps.length)
    (hbody : ∀ (cdv : Value) (A : Around) (outer : List Env) (s : Shared) (H : Hp) (vs : List V) (Q : VK) (E : XK), Room k (A.deeper (envOfC qual (defScope st) s.heap.objs.size f cdv)) → sp vs H Q E →
      ∃ t, PSs (cxOf CX0 P w K mg base N qual (defScope st) f cdv A outer s H E).nox (defBody st) t ∧ t { nx := fun _ H' => Q .non H', rt := Q } (start N vs) H) : FnOk P w K mg base CX0 (k + 1) f fd ps sp := by
  obtain ⟨oc, od, kV, doc, pm, an, cdv, ct, osl, rfl, lk, hcd⟩ := F.ex
  refine fn_of lk hcd S len fun A outer s H vs Q E hr hsp => ?_
  obtain ⟨t, h, q⟩ := hbody cdv A outer s H vs Q E hr hsp
  exact ⟨t, h.nox, q⟩
theorem Fun.binds {x qual : Str} {st : Stmt} {f : Addr} {fd : FuncData} {ps : List Str} (F : Fun K x qual st f fd)
    (h : ∀ (kV doc pm : Value) (an : Option Addr) (cdv ct : Value) (us : List Value), us.length = ps.length → bindArgs (PySem.W.fnOf x qual (defArgs st) (defBody st) (defScope st) .none kV doc pm an cdv ct) ⟨us, []⟩ = pure (ps.zip us)) : Binds K fd ps [] := by
  obtain ⟨oc, od, kV, doc, pm, an, cdv, ct, osl, rfl, lk, hcd⟩ := F.ex
  exact .all (h kV doc pm an cdv ct)
theorem fun_mk {x qual : Str} {st : Stmt} {f : Addr} {oc : Value} {od an : Option Addr} {osl : Array (Option Value)} {kV doc pm cdv ct : Value} (l : K.lookup f = some ⟨oc, od, .func (PySem.W.fnOf x qual (defArgs st) (defBody st) (defScope st) .none kV doc pm an cdv ct), osl⟩)
    (c : PySem.W.codeIn K cdv qual = true) (k : PySem.W.keepIn K (.ref f) = true) : Fun K x qual st f (PySem.W.fnOf x qual (defArgs st) (defBody st) (defScope st) .none kV doc pm an cdv ct) := ⟨⟨oc, od, kV, doc, pm, an, cdv, ct, osl, rfl, l, c⟩, k⟩
end
theorem hu_of {A : Around} {k : Nat} (hr : Room k A) : A.units + 1 < cLine := Nat.lt_of_le_of_lt (Nat.add_le_add_left (by decide : 1 ≤ 64) _) hr.units
theorem small1000 {n : Nat} (h : n ≤ 1000) : n < sizeLine := Nat.lt_of_le_of_lt h (by decide)
section
variable {X : Cx}
theorem pv (i : Nat) {x : Str} {pos : Pos} (hN : X.N[i]? = some x := by rfl) (hv : Vis X.env.scope x := by first | exact Or.inl rfl | exact Or.inr (Or.inl rfl) | exact Or.inr (Or.inr rfl)) (hd : (x == ("__debug__" : Str)) = false := by decide)
    (hcd : (x == ("__classdict__" : Str)) = false := by decide) : PE X (.Name x pos) (tVar i) := pe_var hN hv hd hcd
end
theorem iteF {A B : Prop} (h : B) : if false = true then A else B := by
  rw [if_neg Bool.false_ne_true]
  exact h
theorem iteT {A B : Prop} (h : A) : if true = true then A else B := by
  rw [if_pos rfl]
  exact h
theorem ite2 {c A B : Prop} [Decidable c] (h1 : c → A) (h2 : ¬ c → B) : if c then A else B := by
  by_cases h : c
  · rw [if_pos h]
    exact h1 h
  · rw [if_neg h]
    exact h2 h
noncomputable def Same (H H' : Hp) : Prop := ∀ b o, H b = some o → H' b = some o
theorem Same.refl (H : Hp) : Same H H := fun _ _ h => h
theorem Same.trans {H H1 H2 : Hp} (a : Same H H1) (b : Same H1 H2) : Same H H2 := fun c o h => b c o (a c o h)
theorem Same.free {H H' : Hp} (e : Same H H') {l : Addr} (h : H' l = Option.none) : H l = Option.none := by
  cases q : H l with
  | none => rfl
  | some o =>
    rw [e l o q] at h
    cases h
theorem Same.seq {K : PySem.W.Frag} {H H' : Hp} {a : Addr} {xs : List V} (e : Same H H') (h : SqL K H a xs) : SqL K H' a xs := by
  rcases h with (h | ⟨o, h⟩) | h
  · exact .inl (.inl (e _ _ h))
  · exact .inl (.inr ⟨o, e _ _ h⟩)
  · exact .inr h
section
variable {κ : Type} [DecidableEq κ]
end
end L2
end
section
set_option Elab.async false
set_option linter.all false
namespace CN
open PySem
inductive Stm where
  | yes | no
  | sw (n : Int)
  | nt (a : Stm)
  | an (a b : Stm)
  | og (a b : Stm)
  | al (n : Int) (a : Stm)
  | sm (n : Int) (a : Stm)
  
noncomputable abbrev tS (x : String) : PyData := .str (Str.ofString x)
noncomputable def dat : Stm → PyData
  | .yes => .tuple [tS "yes"]
  | .no => .tuple [tS "no"]
  | .sw n => .tuple [tS "switch", .int n]
  | .nt a => .tuple [tS "not", dat a]
  | .an a b => .tuple [tS "and", dat a, dat b]
  | .og a b => .tuple [tS "or", dat a, dat b]
  | .al n a => .tuple [tS "all", .int n, dat a]
  | .sm n a => .tuple [tS "some", .int n, dat a]
noncomputable def Stm.size : Stm → Nat
  | .yes => 1 | .no => 1 | .sw _ => 1
  | .nt a => a.size + 1
  | .an a b => a.size + b.size + 1
  | .og a b => a.size + b.size + 1
  | .al _ a => a.size + 1
  | .sm _ a => a.size + 1
theorem Stm.size_pos (a : Stm) : 0 < a.size := by cases a <;> simp only [Stm.size] <;> omega
noncomputable def Stm.ok (b : Int) : Stm → Prop
  | .yes => True | .no => True
  | .sw n => 0 ≤ n ∧ n < b
  | .nt a => a.ok b
  | .an x y => x.ok b ∧ y.ok b
  | .og x y => x.ok b ∧ y.ok b
  | .al n a => (0 ≤ n ∧ n < b) ∧ a.ok b
  | .sm n a => (0 ≤ n ∧ n < b) ∧ a.ok b
theorem Stm.ok.mono {b c : Int} (h : b ≤ c) : ∀ {a : Stm}, a.ok b → a.ok c := by
  intro a
  induction a with
  | yes => intro _; trivial
  | no => intro _; trivial
  | sw n => intro k; simp only [Stm.ok] at *; omega
  | nt a ih => intro k; simp only [Stm.ok] at *; exact ih k
  | an x y i j => intro k; simp only [Stm.ok] at *; exact ⟨i k.1, j k.2⟩
  | og x y i j => intro k; simp only [Stm.ok] at *; exact ⟨i k.1, j k.2⟩
  | al n a ih => intro k; simp only [Stm.ok] at *; exact ⟨by omega, ih k.2⟩
  | sm n a ih => intro k; simp only [Stm.ok] at *; exact ⟨by omega, ih k.2⟩
noncomputable def numS (n : Int) : Str := Str.ofString (toString n)
noncomputable def line : Stm → Str
  | .yes => Str.ofString "Y"
  | .no => Str.ofString "N"
  | .sw n => numS n
  | .nt a => Str.ofString "!" ++ line a
  | .an a b => Str.ofString "(" ++ line a ++ Str.ofString "&" ++ line b ++ Str.ofString ")"
  | .og a b => Str.ofString "(" ++ line a ++ Str.ofString "|" ++ line b ++ Str.ofString ")"
  | .al n a => Str.ofString "A" ++ numS n ++ Str.ofString "." ++ line a
  | .sm n a => Str.ofString "S" ++ numS n ++ Str.ofString "." ++ line a
theorem str_ext {x y : Str} (h : x.cps.toList = y.cps.toList) : x = y := by
  cases x; cases y
  simp only at h
  rw [Array.toList_inj.mp h]
theorem app_cps (x y : Str) : (x ++ y).cps.toList = x.cps.toList ++ y.cps.toList := by
  show (x.cps ++ y.cps).toList = _
  rw [Array.toList_append]
theorem app_assoc (x y z : Str) : x ++ y ++ z = x ++ (y ++ z) := str_ext (by simp only [app_cps, List.append_assoc])
theorem app_len (x y : Str) : (x ++ y).length = x.length + y.length := by
  show (x.cps ++ y.cps).size = _
  rw [Array.size_append]; rfl
theorem app_nil (x : Str) : x ++ Str.ofString "" = x := by
  apply str_ext
  rw [app_cps]
  have : (Str.ofString "").cps.toList = [] := by decide +kernel
  rw [this, List.append_nil]
theorem nil_app (x : Str) : Str.ofString "" ++ x = x := by
  apply str_ext
  rw [app_cps]
  have : (Str.ofString "").cps.toList = [] := by decide +kernel
  rw [this, List.nil_append]
end CN
end
section
set_option Elab.async false
set_option linter.all false
set_option maxRecDepth 100000
namespace CN
open PySem
noncomputable def tx (x : Str) : List Nat := x.cps.toList
noncomputable def ch (c : Nat) : Str := ⟨#[c]⟩
noncomputable def mkS (l : List Nat) : Str := ⟨l.toArray⟩
theorem tx_mk (l : List Nat) : tx (mkS l) = l := rfl
theorem mk_tx (x : Str) : mkS (tx x) = x := str_ext rfl
theorem tx_app (x y : Str) : tx (x ++ y) = tx x ++ tx y := app_cps x y
theorem mk_one (c : Nat) : mkS [c] = ch c := rfl
theorem ch_inj {c d : Nat} : (ch c = ch d) = (c = d) := by
  apply propext; constructor
  · intro h
    have : tx (ch c) = tx (ch d) := by rw [h]
    simpa [tx, ch] using this
  · intro h; rw [h]
theorem mk_inj {l m : List Nat} (h : mkS l = mkS m) : l = m := by
  have : tx (mkS l) = tx (mkS m) := by rw [h]
  exact this
theorem of_Y : Str.ofString "Y" = ch 89 := by decide +kernel
theorem of_N : Str.ofString "N" = ch 78 := by decide +kernel
theorem of_nt : Str.ofString "!" = ch 33 := by decide +kernel
theorem of_op : Str.ofString "(" = ch 40 := by decide +kernel
theorem of_cl : Str.ofString ")" = ch 41 := by decide +kernel
theorem of_an : Str.ofString "&" = ch 38 := by decide +kernel
theorem of_or : Str.ofString "|" = ch 124 := by decide +kernel
theorem of_A : Str.ofString "A" = ch 65 := by decide +kernel
theorem of_S : Str.ofString "S" = ch 83 := by decide +kernel
theorem of_dot : Str.ofString "." = ch 46 := by decide +kernel
theorem of_0 : Str.ofString "0" = ch 48 := by decide +kernel
theorem of_e : Str.ofString "" = mkS [] := by decide +kernel
theorem tx_ch (c : Nat) : tx (ch c) = [c] := rfl
inductive Frm where
  | nt
  | op (c : Bool) (b : Stm)
  | sd (c : Bool) (a : Stm)
  | al (n : Int)
  | sm (n : Int)
noncomputable def two (c : Bool) (a b : Stm) : Stm := if c = true then .an a b else .og a b
noncomputable def sg (c : Bool) : Nat := if c = true then 38 else 124
noncomputable def rest : List Frm → List Nat
  | [] => []
  | .nt :: g => rest g
  | .op c b :: g => sg c :: (tx (line b) ++ 41 :: rest g)
  | .sd _ _ :: g => 41 :: rest g
  | .al _ :: g => rest g
  | .sm _ :: g => rest g
noncomputable def NoFig (l : List Nat) : Prop := l = [] ∨ ∃ c r, l = c :: r ∧ ¬ (48 ≤ c ∧ c ≤ 57)
noncomputable def figs (m : Nat) : List Nat := (Nat.toDigits 10 m).map Char.toNat
theorem dig_char : ∀ d : Nat, d < 10 → (Nat.digitChar d).toNat = 48 + d := by decide
theorem figs_small {m : Nat} (h : m < 10) : figs m = [48 + m] := by
  unfold figs; rw [Nat.toDigits_of_lt_base h, List.map_cons, List.map_nil, dig_char m h]
theorem figs_big {m : Nat} (h : ¬ m < 10) : figs m = figs (m / 10) ++ [48 + m % 10] := by
  have hm : m % 10 < 10 := Nat.mod_lt m (by decide)
  have t : Nat.toDigits 10 (m / 10) ++ Nat.toDigits 10 (m % 10) = Nat.toDigits 10 (10 * (m / 10) + m % 10) := Nat.toDigits_append_toDigits (by decide) (by omega) hm
  rw [Nat.div_add_mod] at t
  rw [← figs_small hm]
  unfold figs
  rw [← t, List.map_append]
theorem figs_all (m : Nat) : ∀ c ∈ figs m, 48 ≤ c ∧ c ≤ 57 := by
  induction m using Nat.strongRecOn with
  | _ m ih =>
    by_cases h : m < 10
    · rw [figs_small h]; intro c hc; rw [List.mem_singleton] at hc; omega
    · rw [figs_big h]; intro c hc
      rcases List.mem_append.mp hc with hc | hc
      · exact ih (m / 10) (by omega) c hc
      · rw [List.mem_singleton] at hc; omega
theorem figs_head (m : Nat) : ∃ c r, figs m = c :: r ∧ (m = 0 ∨ c ≠ 48) := by
  induction m using Nat.strongRecOn with
  | _ m ih =>
    by_cases h : m < 10
    · rw [figs_small h]; exact ⟨_, _, rfl, by omega⟩
    · obtain ⟨c, r, e, q⟩ := ih (m / 10) (by omega)
      rw [figs_big h, e]
      exact ⟨c, r ++ [48 + m % 10], rfl, by omega⟩
theorem figs_zero : figs 0 = [48] := figs_small (by decide)
theorem tx_yes : tx (line .yes) = [89] := by rw [line, of_Y]; rfl
theorem tx_no : tx (line .no) = [78] := by rw [line, of_N]; rfl
theorem tx_nt (a : Stm) : tx (line (.nt a)) = 33 :: tx (line a) := by rw [line, tx_app, of_nt]; rfl
theorem tx_two (c : Bool) (a b : Stm) : tx (line (two c a b)) = 40 :: (tx (line a) ++ sg c :: (tx (line b) ++ [41])) := by
  cases c
  · show tx (line (.og a b)) = _
    rw [line]; simp only [tx_app, of_op, of_or, of_cl, tx_ch, sg, List.append_assoc, List.cons_append, List.nil_append]; rfl
  · show tx (line (.an a b)) = _
    rw [line]; simp only [tx_app, of_op, of_an, of_cl, tx_ch, sg, List.append_assoc, List.cons_append, List.nil_append]; rfl
theorem tx_al (n : Int) (a : Stm) : tx (line (.al n a)) = 65 :: (tx (numS n) ++ 46 :: tx (line a)) := by
  rw [line]; simp only [tx_app, of_A, of_dot, tx_ch, List.append_assoc, List.cons_append, List.nil_append]
theorem tx_sm (n : Int) (a : Stm) : tx (line (.sm n a)) = 83 :: (tx (numS n) ++ 46 :: tx (line a)) := by
  rw [line]; simp only [tx_app, of_S, of_dot, tx_ch, List.append_assoc, List.cons_append, List.nil_append]
end CN
end
section
set_option Elab.async false
set_option linter.all false
set_option maxRecDepth 100000
namespace L2
open PySem PySem.Spec PyProof.Rows
mutual
inductive DT (H : Hp) : V → PyData → Prop
  | non : DT H .non .none
  | bl (b : Bool) : DT H (.bl b) (.bool b)
  | int (i : Int) : DT H (.int i) (.int i)
  | str (x : Str) : DT H (.str x) (.str x)
  | tup {a : Addr} {xs : List V} {ds : List PyData} : H a = some (.tup xs) → DTs H xs ds → DT H (.ref a) (.tuple ds)
inductive DTs (H : Hp) : List V → List PyData → Prop
  | nil : DTs H [] []
  | cons {x : V} {d : PyData} {xs : List V} {ds : List PyData} : DT H x d → DTs H xs ds → DTs H (x :: xs) (d :: ds)
end
noncomputable def Tk (H H' : Hp) : Prop := ∀ b xs, H b = some (.tup xs) → H' b = some (.tup xs)
theorem Tk.trans {H H1 H2 : Hp} (a : Tk H H1) (b : Tk H1 H2) : Tk H H2 := fun c o h => b c o (a c o h)
theorem Same.tk {H H' : Hp} (s : Same H H') : Tk H H' := fun b xs h => s b _ h
theorem Same.new {H : Hp} {p : Addr} {o : HO} (h : H p = none) : Same H (upd H p o) := fun b u e => by
  rw [upd_ne (ne_of_none e h)]; exact e
theorem Same.mut {H H2 : Hp} {p : Addr} {o : HO} (s : Same H H2) (hp : H p = none) : Same H (upd H2 p o) := fun b u e => by
  rw [upd_ne (ne_of_none e hp)]; exact s b u e
theorem Tk.lst {H : Hp} {p : Addr} {o : HO} {xs : List V} (h : H p = some (.lst xs)) : Tk H (upd H p o) := fun b u e => by
  rw [upd_ne (ne_of e h (by intro z; cases z))]; exact e
mutual
theorem DT.tk {H H' : Hp} (k : Tk H H') : ∀ (d : PyData) (v : V), DT H v d → DT H' v d
  | .none, v, x => by cases x; exact .non
  | .bool b, v, x => by cases x; exact .bl _
  | .int i, v, x => by cases x; exact .int _
  | .str y, v, x => by cases x; exact .str _
  | .tuple ds, v, x => by
    cases x with
    | tup e xs => exact .tup (k _ _ e) (DTs.tk k ds _ xs)
  | .list _, v, x => nomatch x
  | .dict _, v, x => nomatch x
theorem DTs.tk {H H' : Hp} (k : Tk H H') : ∀ (ds : List PyData) (vs : List V), DTs H vs ds → DTs H' vs ds
  | [], vs, x => by cases x; exact .nil
  | d :: ds, vs, x => by
    cases x with
    | cons a b => exact .cons (DT.tk k d _ a) (DTs.tk k ds _ b)
end
theorem DT.to {H H' : Hp} {d : PyData} {v : V} (x : DT H v d) (k : Tk H H') : DT H' v d := DT.tk k d v x
theorem DTs.to {H H' : Hp} {ds : List PyData} {vs : List V} (x : DTs H vs ds) (k : Tk H H') : DTs H' vs ds := DTs.tk k ds vs x
section
variable {P : Program} {w : World} {H : Hp} {h : Heap}
end
section
variable {X : Cx} {k : Nat}
theorem op_eqNil (hr : Room k X.A) : OpR X (compareOp .Eq) (fun x y H Q => ∃ a b xs, x = .ref a ∧ y = .ref b ∧ H a = some (.lst xs) ∧ H b = some (.lst []) ∧ Q (.bl xs.isEmpty) H) := by
  intro pins s σ H x y v u Q I rx ry h
  obtain ⟨a, b, xs, rfl, rfl, ha, hb, q⟩ := h
  cases (show v = Value.ref a from rx)
  cases (show u = Value.ref b from ry)
  obtain ⟨i1, r1, p1, _⟩ := I.list (SqL.of ha)
  obtain ⟨i2, r2, p2, _⟩ := I.list (SqL.of hb)
  have e2 : i2 = [] := r2.zero
  subst e2
  have hu := hr.units0
  cases xs with
  | nil =>
    have e1 : i1 = [] := r1.zero
    subst e1
    exact SeqAt.eq_listAt (e := fun _ => true) p1.isList p2.isList rfl hu (fun j h1 _ => absurd h1 (Nat.not_lt_zero _)) ⟨.bl true, H, I, rfl, q⟩
  | cons z zs =>
    have l1 : i1.length = zs.length + 1 := by rw [← r1.length]; rfl
    exact SeqAt.eq_list_lengthsAt p1.isList p2.isList (by rw [List.size_toArray, List.size_toArray, l1]; rfl) hu ⟨.bl false, H, I, rfl, q⟩
theorem op_neNil (hr : Room k X.A) : OpR X (compareOp .NotEq) (fun x y H Q => ∃ a b xs, x = .ref a ∧ y = .ref b ∧ H a = some (.lst xs) ∧ H b = some (.lst []) ∧ Q (.bl (!xs.isEmpty)) H) := by
  intro pins s σ H x y v u Q I rx ry h
  obtain ⟨a, b, xs, rfl, rfl, ha, hb, q⟩ := h
  cases (show v = Value.ref a from rx)
  cases (show u = Value.ref b from ry)
  obtain ⟨i1, r1, p1, _⟩ := I.list (SqL.of ha)
  obtain ⟨i2, r2, p2, _⟩ := I.list (SqL.of hb)
  have e2 : i2 = [] := r2.zero
  subst e2
  have hu := hr.units0
  cases xs with
  | nil =>
    have e1 : i1 = [] := r1.zero
    subst e1
    exact SeqAt.RcNeAt.lists (e := fun _ => true) p1.isList p2.isList rfl hu (fun j h1 _ => absurd h1 (Nat.not_lt_zero _)) _ _ _ _ ⟨.bl false, H, I, rfl, q⟩
  | cons z zs =>
    have l1 : i1.length = zs.length + 1 := by rw [← r1.length]; rfl
    exact SeqAt.RcNeAt.lists_lengths p1.isList p2.isList (by rw [List.size_toArray, List.size_toArray, l1]; rfl) hu _ _ _ _ ⟨.bl true, H, I, rfl, q⟩
theorem call_isinst : CallR X (.builtin "isinstance") (fun xs H Q => ∃ x T t b, xs = [x, .ty T] ∧ TyOf X.K H x t ∧ PySem.W.kitOne X.K t (.type T) = some b ∧ Q (.bl b) H) := by
  intro pins s σ H xs us Q I r h
  obtain ⟨x, T, t, b, rfl, ty, e, q⟩ := h
  obtain ⟨u, c, rfl, ru, rc⟩ := r.two
  cases (show c = Value.type T from rc)
  exact isinst_ok I ru ty e fun tk => ⟨.bl b, H, I.tok tk, rfl, q⟩
noncomputable def tCallL (i : Nat) (f : Addr) (sp : Sp) (dvs : List V) (E : XK) (t : TA) : TE := fun σ H Q => σ[i]? = some (some (.ref f)) ∧ t σ H fun vs H1 => sp (vs ++ dvs) H1 Q E
noncomputable def rInsert0 : V → List V → Hp → VK → Prop := fun x vs H Q => ∃ l xs y, x = .ref l ∧ vs = [.int 0, y] ∧ H l = some (.lst xs) ∧ xs.length < sizeLine ∧ Q .non (upd H l (.lst (y :: xs)))
end
theorem PE.imp {X : Cx} {e : Expr} {t t' : TE} (h : PE X e t) (hi : ∀ σ H Q, t' σ H Q → t σ H Q) : PE X e t' := fun pins s σ H Q I q => h pins s σ H Q I (hi σ H Q q)
noncomputable abbrev CR4 := Str × Int × Pos × Pos
noncomputable def kC (l : List CR4) : List (Option Expr) := l.map fun x => some (.Constant (.str x.1) 0 x.2.2.1)
noncomputable def vC (l : List CR4) : List Expr := l.map fun x => .Constant (.int x.2.1) 0 x.2.2.2
noncomputable def kvC (l : List CR4) : List (Key × V) := l.map fun x => (Sum.inr x.1, .int x.2.1)
noncomputable def tC4 (l : List CR4) : List (TE × TE) := l.map fun x => (tC (.str x.1), tC (.int x.2.1))
theorem pps_C {X : Cx} {pos : Pos} : ∀ l : List CR4, PPs X pos (kC l) (vC l) (tC4 l)
  | [] => pps_nil
  | _ :: l => pps_cons pe_str pe_int (pps_C l)
theorem tPairs_C {σ : St} {H : Hp} : ∀ (l : List CR4) (W : List (V × V) → Hp → Prop), tPairs (tC4 l) σ H W = W ((kvC l).map fun kv => (kV kv.1, kv.2)) H
  | [], _ => rfl
  | x :: l, W => tPairs_C l fun ps H3 => W ((.str x.1, .int x.2.1) :: ps) H3
noncomputable def tDispC (l : List CR4) : TE := fun _ H Q => ∀ p, H p = none → Q (.ref p) (upd H p (.dK (mergeK [] (kvC l))))
theorem pe_dispC {X : Cx} {pos : Pos} (l : List CR4) (h0 : (!l.isEmpty) = true) (h15 : Nat.ble l.length 15 = true) : PE X (.Dict (kC l) (vC l) pos) (tDispC l) := by
  have hl : l.length ≤ 15 := Nat.le_of_ble_eq_true h15
  refine (pe_disp (pps_C l) (by simp [kC]) (by simp [kC, vC]) (by cases l with | nil => cases h0 | cons => simp [kC]) (by simpa [kC] using hl)).imp fun σ H Q q p hp => ?_
  rw [tPairs_C]
  refine ⟨upd_same, kvC l, rfl, by simpa [kvC] using hl, ?_⟩
  rw [upd_upd]
  exact q p hp
noncomputable def tFldC (C : Addr) (ta : TE) (f : Str) : TE := fun σ H Q => ta σ H fun x H1 => ∃ a dx fs v, x = .ref a ∧ H1 a = some (.ins C dx fs) ∧ fs.lookup f = some v ∧ Q v H1
theorem pe_fldC {X : Cx} {e : Expr} {f : Str} {pos : Pos} {ta : TE} {C : Addr} (c : Cls X.K C) (n : NoAttr X.K C f) (he : PE X e ta) (hb : attributeBase e f X.env (eval e X.env) = eval e X.env) : PE X (.Attribute e f pos) (tFldC C ta f) := by
  intro pins s σ H Q I h
  refine attr_of hb (thn (he pins s σ H _ I h) fun u s1 ⟨x, H1, I1, r1, q1⟩ => ?_)
  obtain ⟨a, dx, fs, v, rfl, ha, l, q⟩ := q1
  cases (show u = Value.ref a from r1)
  exact getattr_ok I1 ha c n l fun u' s2 I2 r2 => ⟨v, H1, I2, r2, q⟩
section
variable {D : Ends} {σ : St} {H : Hp} {Q : VK} {R : Bool → Hp → Prop} {A : List V → Hp → Prop} {t u : TS} {c d : TT} {ta tb tc : TE} {tr : TA}
theorem rd_seq : tSeq t u D σ H = t { D with nx := u D } σ H := rfl
theorem rd_if : tIfS c t u D σ H = c σ H fun b H1 => if b = true then t D σ H1 else u D σ H1 := rfl
theorem rd_ret : tRet ta D σ H = ta σ H D.rt := rfl
theorem rd_retN : tRetN D σ H = D.rt .non H := rfl
theorem rd_drop : tDrop ta D σ H = ta σ H fun _ H1 => D.nx σ H1 := rfl
theorem rd_asg {g : TG} : tAsg ta g D σ H = ta σ H fun x H1 => g x σ H1 D.nx := rfl
theorem rd_name {i : Nat} {v : V} {N : St → Hp → Prop} : gName i v σ H N = N (σ.set i (some v)) H := rfl
theorem rd_next : tNext D σ H = D.nx σ H := rfl
theorem rd_cont : tCont D σ H = D.ct σ H := rfl
theorem rd_break : tBreak D σ H = D.bk σ H := rfl
theorem rd_never : tNever D σ H = False := rfl
theorem rd_var {i : Nat} : tVar i σ H Q = ∃ v, σ[i]? = some (some v) ∧ Q v H := rfl
theorem rd_c {v : V} : tC v σ H Q = Q v H := rfl
theorem rd_op {r : R2} : tOp r ta tb σ H Q = ta σ H fun x H1 => tb σ H1 fun y H2 => r x y H2 Q := rfl
theorem rd_un {r : V → Hp → VK → Prop} : tUn r ta σ H Q = ta σ H fun x H1 => r x H1 Q := rfl
theorem rd_rI0 {g : Int → Int → V} {i j : Int} : rI0 g (.int i) (.int j) H Q = Q (g i j) H := by
  apply propext; constructor
  · rintro ⟨_, _, e, f, q⟩; cases e; cases f; exact q
  · intro q; exact ⟨_, _, rfl, rfl, q⟩
theorem rd_rI {C : Int → Int → Prop} {g : Int → Int → V} {i j : Int} : rI C g (.int i) (.int j) H Q = (C i j ∧ Q (g i j) H) := by
  apply propext; constructor
  · rintro ⟨_, _, e, f, q⟩; cases e; cases f; exact q
  · intro q; exact ⟨_, _, rfl, rfl, q⟩
theorem rd_rU {g : Int → V} {i : Int} : rU g (.int i) H Q = Q (g i) H := by
  apply propext; constructor
  · rintro ⟨_, e, q⟩; cases e; exact q
  · intro q; exact ⟨_, rfl, q⟩
theorem rd_eqI {i j : Int} : rEq (.int i) (.int j) H Q = Q (.bl (decide (i = j))) H := by
  have e : decide (V.int i = V.int j) = decide (i = j) := by simp
  unfold rEq; rw [e]; simp [scal]
theorem rd_eqS {x y : Str} : rEq (.str x) (.str y) H Q = Q (.bl (decide (x = y))) H := by
  have e : decide (V.str x = V.str y) = decide (x = y) := by simp
  unfold rEq; rw [e]; simp [scal]
theorem rd_neI {i j : Int} : rNe (.int i) (.int j) H Q = Q (.bl (!decide (i = j))) H := by
  have e : decide (V.int i = V.int j) = decide (i = j) := by simp
  unfold rNe; rw [e]; simp [scal]
theorem rd_neS {x y : Str} : rNe (.str x) (.str y) H Q = Q (.bl (!decide (x = y))) H := by
  have e : decide (V.str x = V.str y) = decide (x = y) := by simp
  unfold rNe; rw [e]; simp [scal]
theorem rd_test : tTest ta σ H R = ta σ H fun x H' => ∃ k, x = .bl k ∧ R k H' := rfl
theorem rd_tB : tB ta σ H R = ta σ H fun x H' => ∃ k, x = .bl k ∧ R k H' := rfl
theorem rd_and : tAnd c d σ H R = c σ H fun b H1 => if b = true then d σ H1 R else R false H1 := rfl
theorem rd_or : tOr c d σ H R = c σ H fun b H1 => if b = true then R true H1 else d σ H1 R := rfl
theorem rd_not : tNot c σ H R = c σ H fun b H1 => R (!b) H1 := rfl
theorem rd_andV : tAndV ta tb σ H Q = ta σ H fun x H1 => ∃ b, x = .bl b ∧ if b = true then tb σ H1 Q else Q (.bl false) H1 := rfl
theorem rd_orV : tOrV ta tb σ H Q = ta σ H fun x H1 => ∃ b, x = .bl b ∧ if b = true then Q (.bl true) H1 else tb σ H1 Q := rfl
theorem rd_notV : tNotV ta σ H Q = ta σ H fun x H1 => ∃ b, x = .bl b ∧ Q (.bl (!b)) H1 := rfl
theorem rd_ife : tIf c ta tb σ H Q = c σ H fun b H1 => if b = true then ta σ H1 Q else tb σ H1 Q := rfl
theorem rd_nil : tNil σ H A = A [] H := rfl
theorem rd_cons : tCons ta tr σ H A = ta σ H fun x H1 => tr σ H1 fun xs H2 => A (x :: xs) H2 := rfl
theorem rd_tup : tTup tr σ H Q = tr σ H fun xs H1 => xs.length ≤ sizeLine ∧ ∀ p, H1 p = none → Q (.ref p) (upd H1 p (.tup xs)) := rfl
theorem rd_lst : tLst tr σ H Q = tr σ H fun xs H1 => xs.length ≤ sizeLine ∧ ∀ p, H1 p = none → Q (.ref p) (upd H1 p (.lst xs)) := rfl
theorem rd_call {sp : Sp} {dvs : List V} {E : XK} : tCall sp dvs E tr σ H Q = tr σ H fun vs H1 => sp (vs ++ dvs) H1 Q E := rfl
theorem rd_callL {i : Nat} {f : Addr} {sp : Sp} {dvs : List V} {E : XK} : tCallL i f sp dvs E tr σ H Q = (σ[i]? = some (some (.ref f)) ∧ tr σ H fun vs H1 => sp (vs ++ dvs) H1 Q E) := rfl
theorem rd_cb {r : List V → Hp → VK → Prop} : tCB r tr σ H Q = tr σ H fun vs H1 => r vs H1 Q := rfl
theorem rd_bm {K : PySem.W.Frag} {T : String} {r : V → List V → Hp → VK → Prop} : tBM K T r ta tr σ H Q = ta σ H fun x H1 => tyV K T x H1 ∧ tr σ H1 fun xs H2 => r x xs H2 Q := rfl
theorem rd_bm0 {K : PySem.W.Frag} {T : String} {r : V → List V → Hp → VK → Prop} : tBM0 K T r ta σ H Q = ta σ H fun x H1 => tyV K T x H1 ∧ r x [] H1 Q := rfl
theorem rd_sl {r : V → Option Int → Option Int → Hp → VK → Prop} {tl th : TO} : tSl r ta tl th σ H Q = ta σ H fun x H1 => tl σ H1 fun l H2 => th σ H2 fun u H3 => r x l u H3 Q := rfl
theorem rd_nopart {O : Option Int → Hp → Prop} : tNoPart σ H O = O none H := rfl
theorem rd_part {O : Option Int → Hp → Prop} : tPart ta σ H O = ta σ H fun x H1 => ∃ i, x = .int i ∧ O (some i) H1 := rfl
theorem rd_exbl {b : Bool} {P : Bool → Prop} : (∃ k, V.bl b = V.bl k ∧ P k) = P b := by
  apply propext; constructor
  · rintro ⟨_, e, q⟩; cases e; exact q
  · intro q; exact ⟨_, rfl, q⟩
theorem rd_exint {b : Int} {P : Int → Prop} : (∃ k, V.int b = V.int k ∧ P k) = P b := by
  apply propext; constructor
  · rintro ⟨_, e, q⟩; cases e; exact q
  · intro q; exact ⟨_, rfl, q⟩
theorem rd_exsome {α : Type} {v : α} {P : α → Prop} : (∃ k, (some (some v) : Option (Option α)) = some (some k) ∧ P k) = P v := by
  apply propext; constructor
  · rintro ⟨_, e, q⟩; cases e; exact q
  · intro q; exact ⟨_, rfl, q⟩
theorem rd_tyL {K : PySem.W.Frag} {p : Addr} : tyV K "list" (.ref p) H = ∃ xs, SqL K H p xs := by
  apply propext; constructor
  · rintro (⟨_, x⟩ | ⟨e, _⟩ | ⟨e, _⟩ | ⟨e, _⟩)
    · exact x
    · exact absurd e (by decide)
    · exact absurd e (by decide)
    · exact absurd e (by decide)
  · intro x; exact .inl ⟨rfl, x⟩
theorem rd_app {p : Addr} {y : V} : rAppend (.ref p) [y] H Q = ∃ xs, H p = some (.lst xs) ∧ xs.length < sizeLine ∧ Q .non (upd H p (.lst (xs ++ [y]))) := by
  apply propext; constructor
  · rintro ⟨l, xs, z, e, f, q⟩; cases e; cases f; exact ⟨xs, q⟩
  · rintro ⟨xs, q⟩; exact ⟨p, xs, y, rfl, rfl, q⟩
theorem rd_pop {p : Addr} : rPop (.ref p) [] H Q = ∃ xs y, H p = some (.lst xs) ∧ xs[xs.length - 1]? = some y ∧ Q y (upd H p (.lst xs.dropLast)) := by
  apply propext; constructor
  · rintro ⟨l, xs, z, e, f, q⟩; cases e; exact ⟨xs, z, q⟩
  · rintro ⟨xs, y, q⟩; exact ⟨p, xs, y, rfl, rfl, q⟩
theorem rd_ins0 {p : Addr} {y : V} : rInsert0 (.ref p) [.int 0, y] H Q = ∃ xs, H p = some (.lst xs) ∧ xs.length < sizeLine ∧ Q .non (upd H p (.lst (y :: xs))) := by
  apply propext; constructor
  · rintro ⟨l, xs, z, e, f, q⟩; cases e; cases f; exact ⟨xs, q⟩
  · rintro ⟨xs, q⟩; exact ⟨p, xs, y, rfl, rfl, q⟩
theorem rd_ext {p b : Addr} : rExtend (.ref p) [.ref b] H Q = ∃ xs zs, H p = some (.lst xs) ∧ H b = some (.lst zs) ∧ xs.length + zs.length ≤ sizeLine ∧ Q .non (upd H p (.lst (xs ++ zs))) := by
  apply propext; constructor
  · rintro ⟨l, b, xs, z, e, f, q⟩; cases e; cases f; exact ⟨xs, z, q⟩
  · rintro ⟨xs, zs, q⟩; exact ⟨p, b, xs, zs, rfl, rfl, q⟩
theorem rd_rev {p : Addr} : rReverse (.ref p) [] H Q = ∃ xs, H p = some (.lst xs) ∧ Q .non (upd H p (.lst xs.reverse)) := by
  apply propext; constructor
  · rintro ⟨l, xs, e, f, q⟩; cases e; exact ⟨xs, q⟩
  · rintro ⟨xs, q⟩; exact ⟨p, xs, rfl, rfl, q⟩
theorem rd_cat {p b : Addr} : rCat (.ref p) (.ref b) H Q = ∃ xs zs, H p = some (.lst xs) ∧ H b = some (.lst zs) ∧ xs.length + zs.length ≤ sizeLine ∧ ∀ q, H q = none → Q (.ref q) (upd H q (.lst (xs ++ zs))) := by
  apply propext; constructor
  · rintro ⟨l, b, xs, z, e, f, q⟩; cases e; cases f; exact ⟨xs, z, q⟩
  · rintro ⟨xs, zs, q⟩; exact ⟨p, b, xs, zs, rfl, rfl, q⟩
theorem rd_ixT {K : PySem.W.Frag} {p : Addr} {i : Int} : rIxT K (.ref p) (.int i) H Q = ∃ xs v, SqT K H p xs ∧ atI xs i = some v ∧ Q v H := by
  apply propext; constructor
  · rintro ⟨l, xs, z, v, e, f, q⟩; cases e; cases f; exact ⟨xs, v, q⟩
  · rintro ⟨xs, v, q⟩; exact ⟨p, xs, i, v, rfl, rfl, q⟩
theorem rd_ixL {K : PySem.W.Frag} {p : Addr} {i : Int} : rIxL K (.ref p) (.int i) H Q = ∃ xs v, SqL K H p xs ∧ atI xs i = some v ∧ Q v H := by
  apply propext; constructor
  · rintro ⟨l, xs, z, v, e, f, q⟩; cases e; cases f; exact ⟨xs, v, q⟩
  · rintro ⟨xs, v, q⟩; exact ⟨p, xs, i, v, rfl, rfl, q⟩
theorem rd_slL {K : PySem.W.Frag} {p : Addr} {lo hi : Option Int} : rSlL K (.ref p) lo hi H Q = ∃ xs, SqL K H p xs ∧ ∀ q, H q = none → Q (.ref q) (upd H q (.lst (cutV xs lo hi))) := by
  apply propext; constructor
  · rintro ⟨l, xs, e, q⟩; cases e; exact ⟨xs, q⟩
  · rintro ⟨xs, q⟩; exact ⟨p, xs, rfl, q⟩
theorem rd_inS {K : PySem.W.Frag} {neg : Bool} {x : V} {p : Addr} : rIn K neg x (.ref p) H Q = ∃ xs, (SqL K H p xs ∨ SqT K H p xs) ∧ flatV x = true ∧ xs.all flatV = true ∧ Q (.bl (if neg then !inV x xs else inV x xs)) H := by
  apply propext; constructor
  · rintro ⟨l, xs, e, q⟩; cases e; exact ⟨xs, q⟩
  · rintro ⟨xs, q⟩; exact ⟨p, xs, rfl, q⟩
theorem rd_dispC {l : List CR4} : tDispC l σ H Q = ∀ p, H p = none → Q (.ref p) (upd H p (.dK (mergeK [] (kvC l)))) := rfl
theorem rd_dget2 : tDGet2 ta tb tc σ H Q = ta σ H fun x H1 => ∃ a, x = .ref a ∧ IsD H1 a ∧ tb σ H1 fun y H2 => tc σ H2 fun z H3 => ∃ o, DGet H3 a y o ∧ Q (o.getD z) H3 := rfl
noncomputable def tForIn (J : It) (g : TG) (tb : TS) : TS := fun D σ H1 => ∃ W : Nat → Nat → St → Hp → Prop, (∃ m, W 0 m σ H1) ∧ ∀ i m σ H, W i m σ H →
  (J.stop i H ∧ D.nx σ H) ∨ (J.go i H ∧ ∃ N : St → Hp → Prop, (∀ σ' H', N σ' H' → ∃ m', m' < m ∧ W (i + 1) m' σ' H') ∧ ∀ x H', J.yld i H x H' → g x σ H' fun σ2 H2 => tb { D with nx := N, ct := N, bk := D.nx } σ2 H2)
theorem rd_forL {K : PySem.W.Frag} {g : TG} {tb : TS} : tFor (iList K ta) g tb D σ H = ta σ H fun x H1 => ∃ a, x = .ref a ∧ (∃ xs, SqL K H1 a xs) ∧ tForIn (Itl K a) g tb D σ H1 := rfl
theorem rd_forR {g : TG} {tb : TS} : tFor (iRng1 tr) g tb D σ H = tr σ H fun vs H1 => ∃ j : Int, vs = [.int j] ∧ -(2 ^ 62) ≤ j ∧ j < 2 ^ 62 ∧ tForIn (Itr 0 j.toNat) g tb D σ H1 := rfl
theorem rd_fldC {C : Addr} {f : Str} : tFldC C ta f σ H Q = ta σ H fun x H1 => ∃ a dx fs v, x = .ref a ∧ H1 a = some (.ins C dx fs) ∧ fs.lookup f = some v ∧ Q v H1 := rfl
theorem rd_dget : tDGet ta tb σ H Q = ta σ H fun x H1 => tb σ H1 fun y H2 => ∃ a v, x = .ref a ∧ DGet H2 a y (some v) ∧ Q v H2 := rfl
theorem rd_din : tDIn ta tb σ H Q = ta σ H fun y H1 => tb σ H1 fun x H2 => ∃ a o, x = .ref a ∧ DGet H2 a y o ∧ Q (.bl o.isSome) H2 := rfl
theorem rd_dnotin : tDNotIn ta tb σ H Q = ta σ H fun y H1 => tb σ H1 fun x H2 => ∃ a o, x = .ref a ∧ DGet H2 a y o ∧ Q (.bl (!o.isSome)) H2 := rfl
theorem rd_dput : sDPut ta tb tc D σ H = tc σ H fun v H1 => ta σ H1 fun x H2 => tb σ H2 fun y H3 => ∃ a H4, x = .ref a ∧ DPut H3 a y v H4 ∧ D.nx σ H4 := rfl
theorem rd_meth {C : Addr} {m : Str} {sp : Sp} {dvs : List V} {E : XK} : tMeth C m sp dvs E ta tr σ H Q = ta σ H fun x H1 => ∃ a dx fs, x = .ref a ∧ H1 a = some (.ins C dx fs) ∧ fs.lookup m = none ∧ tr σ H1 fun vs H2 => sp (x :: (vs ++ dvs)) H2 Q E := rfl
end
theorem rd_s0 : (0 ≤ sizeLine) = True := eq_true (by decide)
theorem rd_s1 : (1 ≤ sizeLine) = True := eq_true (by decide)
theorem rd_s2 : (2 ≤ sizeLine) = True := eq_true (by decide)
theorem rd_s3 : (3 ≤ sizeLine) = True := eq_true (by decide)
theorem rd_s4 : (4 ≤ sizeLine) = True := eq_true (by decide)
theorem rd_s5 : (5 ≤ sizeLine) = True := eq_true (by decide)
theorem rd_s6 : (6 ≤ sizeLine) = True := eq_true (by decide)
theorem rd_s7 : (7 ≤ sizeLine) = True := eq_true (by decide)
theorem rd_s8 : (8 ≤ sizeLine) = True := eq_true (by decide)
theorem rd_s9 : (9 ≤ sizeLine) = True := eq_true (by decide)
theorem atI0 {α : Type} (a : α) (xs : List α) : atI (a :: xs) 0 = some a := by simp [atI, ixN]
theorem atI1 {α : Type} (a b : α) (xs : List α) : atI (a :: b :: xs) 1 = some b := atI_nat (j := 1) rfl
theorem atI2 {α : Type} (a b c : α) (xs : List α) : atI (a :: b :: c :: xs) 2 = some c := atI_nat (j := 2) rfl
section
variable {P : Program} {w : World} {K : PySem.W.Frag} {mg : Str → Option Value} {base : Heap} {N : List Str} {qual : Str} {scope : Scope} {f : Addr} {cd : Value} {A : Around} {outer : List Env} {s : Shared} {H : Hp} {E : XK} {CX : CXT}
theorem cx_K2 : (cxOf CX P w K mg base N qual scope f cd A outer s H E).K = K := rfl
theorem cx_K : (cxOf CX P w K mg base N qual scope f cd A outer s H E).nox.K = K := rfl
end
theorem bo_len : bootBuiltins "len" = some (.builtin "len") := by decide +kernel
theorem bo_isinstance : bootBuiltins "isinstance" = some (.builtin "isinstance") := by decide +kernel
theorem bo_int : bootBuiltins "int" = some (.type "int") := by decide +kernel
theorem bo_str : bootBuiltins "str" = some (.type "str") := by decide +kernel
theorem bo_bool : bootBuiltins "bool" = some (.type "bool") := by decide +kernel
theorem bo_list : bootBuiltins "list" = some (.type "list") := by decide +kernel
theorem bo_tuple : bootBuiltins "tuple" = some (.type "tuple") := by decide +kernel
theorem kit_same (K : PySem.W.Frag) (T : String) : PySem.W.kitOne K (.type T) (.type T) = some true := by
  unfold PySem.W.kitOne
  rw [if_pos (beq_self_eq_true _)]
theorem kit_ib (K : PySem.W.Frag) : PySem.W.kitOne K (.type "int") (.type "bool") = some false := by rfl
theorem kit_ts (K : PySem.W.Frag) : PySem.W.kitOne K (.type "tuple") (.type "str") = some false := by rfl
structure Df (K : PySem.W.Frag) (mg : Str → Option Value) (x : Str) (st : Stmt) (ps : List Str) (f : Addr) (fd : FuncData) : Prop where
  F : Fun K x x st f fd
  b : Binds K fd ps []
  m : mg x = some (.ref f)
end L2
end
section
set_option Elab.async false
set_option linter.all false
set_option maxRecDepth 100000
namespace CN
open PySem L2
noncomputable abbrev sv (x : String) : V := .str (Str.ofString x)
noncomputable abbrev IsSt (H : Hp) (v : V) (a : Stm) : Prop := DT H v (dat a)
noncomputable def Sh (H : Hp) : Stm → List V → Prop
  | .yes, xs => xs = [sv "yes"]
  | .no, xs => xs = [sv "no"]
  | .sw n, xs => xs = [sv "switch", .int n]
  | .nt a, xs => ∃ v, xs = [sv "not", v] ∧ IsSt H v a
  | .an a b, xs => ∃ v u, xs = [sv "and", v, u] ∧ IsSt H v a ∧ IsSt H u b
  | .og a b, xs => ∃ v u, xs = [sv "or", v, u] ∧ IsSt H v a ∧ IsSt H u b
  | .al n a, xs => ∃ v, xs = [sv "all", .int n, v] ∧ IsSt H v a
  | .sm n a, xs => ∃ v, xs = [sv "some", .int n, v] ∧ IsSt H v a
theorem st_mk {H : Hp} {p : Addr} {xs : List V} {a : Stm} (h : H p = some (.tup xs)) (s : Sh H a xs) : IsSt H (.ref p) a := by
  cases a with
  | yes => cases s; exact .tup h (.cons (.str _) .nil)
  | no => cases s; exact .tup h (.cons (.str _) .nil)
  | sw n => cases s; exact .tup h (.cons (.str _) (.cons (.int _) .nil))
  | nt a => obtain ⟨v, rfl, k⟩ := s; exact .tup h (.cons (.str _) (.cons k .nil))
  | an a b => obtain ⟨v, u, rfl, k, l⟩ := s; exact .tup h (.cons (.str _) (.cons k (.cons l .nil)))
  | og a b => obtain ⟨v, u, rfl, k, l⟩ := s; exact .tup h (.cons (.str _) (.cons k (.cons l .nil)))
  | al n a => obtain ⟨v, rfl, k⟩ := s; exact .tup h (.cons (.str _) (.cons (.int _) (.cons k .nil)))
  | sm n a => obtain ⟨v, rfl, k⟩ := s; exact .tup h (.cons (.str _) (.cons (.int _) (.cons k .nil)))
structure Bt (mg : Str → Option Value) : Prop where
  n_len : mg "len" = none
  n_range : mg "range" = none
  n_isinstance : mg "isinstance" = none
  n_int : mg "int" = none
  n_str : mg "str" = none
  n_bool : mg "bool" = none
  n_list : mg "list" = none
  n_tuple : mg "tuple" = none
  n_abs : mg "abs" = none
noncomputable def word : Stm → Str
  | .yes => Str.ofString "yes" | .no => Str.ofString "no" | .sw _ => Str.ofString "switch" | .nt _ => Str.ofString "not" | .an _ _ => Str.ofString "and" | .og _ _ => Str.ofString "or" | .al _ _ => Str.ofString "all" | .sm _ _ => Str.ofString "some"
noncomputable def arity : Stm → Nat
  | .yes => 1 | .no => 1 | .sw _ => 2 | .nt _ => 2 | .an _ _ => 3 | .og _ _ => 3 | .al _ _ => 3 | .sm _ _ => 3
noncomputable abbrev Sts (H : Hp) : List V → List Stm → Prop := Paired (IsSt H)
theorem Sts.to {H H' : Hp} (k : Tk H H') : ∀ {xs : List V} {as : List Stm}, Sts H xs as → Sts H' xs as
  | _, _, .nil => .nil
  | _, _, .cons a b => .cons (DT.to a k) (Sts.to k b)
theorem Sts.app {H : Hp} : ∀ {xs ys : List V} {as bs : List Stm}, Sts H xs as → Sts H ys bs → Sts H (xs ++ ys) (as ++ bs)
  | _, _, _, _, .nil, s => s
  | _, _, _, _, .cons r t, s => .cons r (Sts.app t s)
theorem Sts.one {H : Hp} {v : V} {a : Stm} (h : IsSt H v a) : Sts H [v] [a] := .cons h .nil
theorem Sts.snoc {H : Hp} : ∀ {xs : List V} {x : V} {as : List Stm}, Sts H (xs ++ [x]) as → ∃ bs b, as = bs ++ [b] ∧ Sts H xs bs ∧ IsSt H x b
  | [], x, _, .cons a .nil => ⟨[], _, rfl, .nil, a⟩
  | y :: xs, x, _, .cons a r => by
    obtain ⟨bs, b, rfl, h1, h2⟩ := Sts.snoc (xs := xs) r
    exact ⟨_ :: bs, b, rfl, .cons a h1, h2⟩
theorem Sts.get {H : Hp} : ∀ {xs : List V} {as : List Stm} {i : Nat} {x : V}, Sts H xs as → xs[i]? = some x → ∃ a, as[i]? = some a ∧ IsSt H x a
  | _, _, _, _, .nil, e => by simp at e
  | _, _, 0, _, .cons r _, e => by simp at e; subst e; exact ⟨_, rfl, r⟩
  | _, _, i + 1, x, .cons _ t, e => by
    obtain ⟨u, h1, h2⟩ := Sts.get (i := i) (x := x) t (by simpa using e)
    exact ⟨u, by simpa using h1, h2⟩
noncomputable def sizes (as : List Stm) : Nat := (as.map Stm.size).sum
theorem sizes_app (as bs : List Stm) : sizes (as ++ bs) = sizes as + sizes bs := by simp [sizes]
theorem sizes_one (a : Stm) : sizes [a] = a.size := by simp [sizes]
theorem sizes_len (as : List Stm) : as.length ≤ sizes as := by
  induction as with
  | nil => simp [sizes]
  | cons a as ih =>
    have := a.size_pos
    simp only [sizes, List.map_cons, List.sum_cons, List.length_cons] at *
    omega
theorem snoc_of {α : Type} : ∀ {xs : List α}, xs ≠ [] → ∃ ys y, xs = ys ++ [y]
  | [], h => absurd rfl h
  | [x], _ => ⟨[], x, rfl⟩
  | x :: y :: r, _ => by
    obtain ⟨ys, z, e⟩ := snoc_of (xs := y :: r) (by simp)
    exact ⟨x :: ys, z, by rw [e]; rfl⟩
theorem last_of {α : Type} (xs : List α) (x : α) : (xs ++ [x])[(xs ++ [x]).length - 1]? = some x := by simp
theorem drop_of {α : Type} (xs : List α) (x : α) : (xs ++ [x]).dropLast = xs := List.dropLast_concat
end CN
end
section
set_option Elab.async false
set_option linter.all false
set_option maxRecDepth 100000
namespace L2
open PySem PySem.Spec PyProof.Rows
noncomputable def Tq (K : PySem.W.Frag) (H : Hp) (a : Addr) (xs : List V) : Prop :=
  H a = some (.tup xs) ∨ ∃ (o : Obj) (its : Array Value) (n : Nat), K.lookup a = some o ∧ o.cls = .type "tuple" ∧ o.data = .seq its n ∧ its.size ≤ sizeLine ∧ Vals xs its.toList
section
variable {K : PySem.W.Frag} {H H' : Hp} {a : Addr} {xs : List V}
theorem Tq.of (h : H a = some (.tup xs)) : Tq K H a xs := .inl h
theorem Tq.sq (h : Tq K H a xs) : SqT K H a xs := by
  rcases h with h | h
  · exact .inl (.inl h)
  · exact .inr h
theorem Tq.to (h : Tq K H a xs) (k : Tk H H') : Tq K H' a xs := by
  rcases h with h | h
  · exact .inl (k _ _ h)
  · exact .inr h
end
mutual
inductive DK (K : PySem.W.Frag) (H : Hp) : V → PyData → Prop
  | non : DK K H .non .none
  | bl (b : Bool) : DK K H (.bl b) (.bool b)
  | int (i : Int) : DK K H (.int i) (.int i)
  | str (x : Str) : DK K H (.str x) (.str x)
  | tup {a : Addr} {xs : List V} {ds : List PyData} : Tq K H a xs → DKs K H xs ds → DK K H (.ref a) (.tuple ds)
inductive DKs (K : PySem.W.Frag) (H : Hp) : List V → List PyData → Prop
  | nil : DKs K H [] []
  | cons {x : V} {d : PyData} {xs : List V} {ds : List PyData} : DK K H x d → DKs K H xs ds → DKs K H (x :: xs) (d :: ds)
end
mutual
theorem DK.tk {K : PySem.W.Frag} {H H' : Hp} (k : Tk H H') : ∀ (d : PyData) (v : V), DK K H v d → DK K H' v d
  | .none, v, x => by cases x; exact .non
  | .bool b, v, x => by cases x; exact .bl _
  | .int i, v, x => by cases x; exact .int _
  | .str y, v, x => by cases x; exact .str _
  | .tuple ds, v, x => by
    cases x with
    | tup e xs => exact .tup (e.to k) (DKs.tk k ds _ xs)
  | .list _, v, x => nomatch x
  | .dict _, v, x => nomatch x
theorem DKs.tk {K : PySem.W.Frag} {H H' : Hp} (k : Tk H H') : ∀ (ds : List PyData) (vs : List V), DKs K H vs ds → DKs K H' vs ds
  | [], vs, x => by cases x; exact .nil
  | d :: ds, vs, x => by
    cases x with
    | cons a b => exact .cons (DK.tk k d _ a) (DKs.tk k ds _ b)
end
theorem DK.to {K : PySem.W.Frag} {H H' : Hp} {d : PyData} {v : V} (x : DK K H v d) (k : Tk H H') : DK K H' v d := DK.tk k d v x
mutual
theorem DK.ofT {K : PySem.W.Frag} {H : Hp} : ∀ (d : PyData) (v : V), DT H v d → DK K H v d
  | .none, v, x => by cases x; exact .non
  | .bool b, v, x => by cases x; exact .bl _
  | .int i, v, x => by cases x; exact .int _
  | .str y, v, x => by cases x; exact .str _
  | .tuple ds, v, x => by
    cases x with
    | tup e xs => exact .tup (.inl e) (DKs.ofT ds _ xs)
  | .list _, v, x => nomatch x
  | .dict _, v, x => nomatch x
theorem DKs.ofT {K : PySem.W.Frag} {H : Hp} : ∀ (ds : List PyData) (vs : List V), DTs H vs ds → DKs K H vs ds
  | [], vs, x => by cases x; exact .nil
  | d :: ds, vs, x => by
    cases x with
    | cons a b => exact .cons (DK.ofT d _ a) (DKs.ofT ds _ b)
end
section
variable {P : Program} {w : World} {K : PySem.W.Frag} {H : Hp} {h : Heap}
end
section
variable {X : Cx} {k : Nat}
theorem call_isinstT : CallR X (.builtin "isinstance") (fun xs H Q => ∃ a ys T b, xs = [.ref a, .ty T] ∧ Tq X.K H a ys ∧ PySem.W.kitOne X.K (.type "tuple") (.type T) = some b ∧ Q (.bl b) H) := by
  intro pins s σ H xs us Q I r h
  obtain ⟨a, ys, T, b, rfl, ty, e, q⟩ := h
  obtain ⟨u, c, rfl, ru, rc⟩ := r.two
  cases (show c = Value.type T from rc)
  cases (show u = Value.ref a from ru)
  obtain ⟨its, _, ⟨o, h1, h2, _⟩, _⟩ := I.tuple ty.sq
  exact PySem.W.kia_one PySem.W.kitx_tuple I.kIn ⟨o, h1, h2⟩ e (fun z => nomatch z) fun tk => ⟨.bl b, H, I.tok tk, rfl, q⟩
end
noncomputable def KD (K : PySem.W.Frag) (P : Params) (a : Addr) (g : Str → Option V) : Prop :=
  (a == sysModules) = false ∧ ∃ (es : Array DictEntry) (n : Nat), K.lookup a = some ⟨.type "dict", none, .dict es n, #[]⟩ ∧ PySem.W.KeysLit P es.toList ∧ ∀ x, RelO (g x) (findBy Value.isStrOf es x)
noncomputable def tKGet (K : PySem.W.Frag) (P : Params) (td ty : TE) : TE := fun σ H Q => td σ H fun x H1 => ty σ H1 fun y H2 => ∃ a g k v, x = .ref a ∧ y = .str k ∧ KD K P a g ∧ g k = some v ∧ Q v H2
noncomputable def tKIn (K : PySem.W.Frag) (P : Params) (ty td : TE) : TE := fun σ H Q => ty σ H fun y H1 => td σ H1 fun x H2 => ∃ a g k, x = .ref a ∧ y = .str k ∧ KD K P a g ∧ Q (.bl (g k).isSome) H2
section
variable {X : Cx} {o i : Expr} {pos : Pos} {td ty : TE}
theorem pe_kget (ho : PE X o td) (hi : PE X i ty) (hs : NoSl i) : PE X (.Subscript o i pos) (tKGet X.K X.w.params td ty) := by
  intro pins s σ H Q I h
  refine subD_of PySem.F.slot_dict_getitem.lookup hs (thn (ho pins s σ H _ I h) fun u s1 ⟨x, H1, I1, rx, q1⟩ => thn (hi pins s1 σ H1 _ I1 q1) fun iv s2 ⟨y, H2, I2, ry, a, g, k, v, ex, ey, hkd, e, q2⟩ => ?_)
  subst ex ey
  obtain rfl : u = Value.ref a := rx
  obtain ⟨t, rfl⟩ := ry
  obtain ⟨hd, es, n, hl, hk, hg⟩ := hkd
  have hm := PySem.W.mapOf_K (prog := X.prog) (w := X.w) I2.kIn hl hk
  obtain ⟨w', hw, rw'⟩ := RelO.some_of (v := v) (o := findBy Value.isStrOf es k) (by rw [← e]; exact hg k)
  exact ⟨hm.typeIs, wpAny_getItem_of (PySem.strKind_is X.prog X.w k t) hm hw ⟨v, H2, I2.tok _, rw', q2⟩⟩
theorem pc_kin (hi : PE X i ty) (ho : PE X o td) : PC X .In i o (tKIn X.K X.w.params ty td) := by
  intro pins s σ H Q I h
  refine thn (hi pins s σ H _ I h) fun iv s1 ⟨y, H1, I1, ry, q1⟩ => thn (ho pins s1 σ H1 _ I1 q1) fun u s2 ⟨x, H2, I2, rx, a, g, k, ex, ey, hkd, q2⟩ => ?_
  subst ex ey
  obtain rfl : u = Value.ref a := rx
  obtain ⟨t, rfl⟩ := ry
  obtain ⟨hd, es, n, hl, hk, hg⟩ := hkd
  refine wpAny_in_of (PySem.strKind_is X.prog X.w k t) hd (PySem.W.mapOf_K (prog := X.prog) (w := X.w) I2.kIn hl hk) ?_
  rw [← (hg k).isSome_eq]
  exact ⟨.bl _, H2, I2.tok _, rfl, q2⟩
end
noncomputable def gOf (l : List (Str × V)) (x : Str) : Option V := (l.find? fun e => decide (e.1 = x)).map (·.2)
theorem keysLit_of (P : Params) : ∀ l : List (Str × Tok × V × Value), PySem.W.KeysLit P (l.map fun e => (⟨PyData.keyHash P e.1, .str e.1 e.2.1, e.2.2.2⟩ : DictEntry))
  | [] => trivial
  | e :: r => ⟨⟨_, _, rfl, rfl⟩, keysLit_of P r⟩
theorem find_of (P : Params) (x : Str) : ∀ l : List (Str × Tok × V × Value), (∀ e ∈ l, RelV e.2.2.1 e.2.2.2) →
    RelO (gOf (l.map fun e => (e.1, e.2.2.1)) x) (((l.map fun e => (⟨PyData.keyHash P e.1, .str e.1 e.2.1, e.2.2.2⟩ : DictEntry)).find? fun e => Value.isStrOf x e.key).map (·.val))
  | [], _ => trivial
  | e :: r, h => by
    have ih := find_of P x r fun e' he => h e' (List.mem_cons_of_mem _ he)
    unfold gOf at ih ⊢
    rw [List.map_cons, List.map_cons, List.find?_cons, List.find?_cons]
    show RelO (Option.map _ (match decide (e.1 = x) with | true => _ | false => _)) (Option.map _ (match (e.1 == x) with | true => _ | false => _))
    rw [show (e.1 == x) = decide (e.1 = x) from by by_cases q : e.1 = x <;> simp [q]]
    by_cases q : e.1 = x
    · rw [decide_eq_true q]; exact h e (List.mem_cons_self ..)
    · rw [decide_eq_false q]; exact ih
theorem KD.mk {K : PySem.W.Frag} {P : Params} {a : Addr} {n : Nat} (l : List (Str × Tok × V × Value)) (hd : (a == sysModules) = false)
    (h : K.lookup a = some ⟨.type "dict", none, .dict (l.map fun e => (⟨PyData.keyHash P e.1, .str e.1 e.2.1, e.2.2.2⟩ : DictEntry)).toArray n, #[]⟩) (hv : ∀ e ∈ l, RelV e.2.2.1 e.2.2.2) : KD K P a (gOf (l.map fun e => (e.1, e.2.2.1))) :=
  ⟨hd, _, n, h, keysLit_of P l, fun x => by
    have := find_of P x l hv
    unfold findBy
    rw [List.find?_toArray]
    exact this⟩
noncomputable def rSlS : V → Option Int → Option Int → Hp → VK → Prop := fun x lo hi H Q => ∃ (z : Str) (i j : Nat), x = .str z ∧ lo = some (i : Int) ∧ hi = some (j : Int) ∧ z.length ≤ sizeLine ∧ Q (.str (CN.mkS (((CN.tx z).drop i).take (j - i)))) H
theorem str_slice_ix (i j n : Nat) : Builtin.Str.strSliceIndices (some (i : Int)) (some (j : Int)) 1 n = (List.range (min j n - min i n)).map (min i n + ·) := by
  unfold Builtin.Str.strSliceIndices
  have h1 : ¬ ((i : Int) < 0) := by omega
  have h2 : ¬ ((j : Int) < 0) := by omega
  simp only [h1, h2, if_false, show (1 : Int) > 0 by decide, if_true]
  rw [show max (0 : Int) (min (i : Int) (n : Int)) = ((min i n : Nat) : Int) by omega, show max (0 : Int) (min (j : Int) (n : Int)) = ((min j n : Nat) : Int) by omega, sliceRange_one]
theorem drop_take_min {α : Type} (l : List α) (i j : Nat) : (l.drop (min i l.length)).take (min j l.length - min i l.length) = (l.drop i).take (j - i) := by
  by_cases hi : i ≤ l.length
  · rw [Nat.min_eq_left hi]
    by_cases hj : j ≤ l.length
    · rw [Nat.min_eq_left hj]
    · rw [Nat.min_eq_right (by omega), List.take_of_length_le (by rw [List.length_drop]; omega), List.take_of_length_le (by rw [List.length_drop]; omega)]
  · rw [show min i l.length = l.length from Nat.min_eq_right (by omega), List.drop_of_length_le (Nat.le_refl _), List.drop_of_length_le (show l.length ≤ i by omega)]; simp
theorem sl_str {X : Cx} : SlR X rSlS := by
  intro pins s σ H x v vl vu lo hi sl Q I rx hs pl pu h
  obtain ⟨z, i, j, rfl, rfl, rfl, hz, q⟩ := h
  obtain ⟨t, rfl⟩ := rx
  obtain ⟨ti, rfl⟩ : ∃ ti, vl = .int (i : Int) ti := by cases pl; exact ⟨_, rfl⟩
  obtain ⟨tj, rfl⟩ : ∃ tj, vu = .int (j : Int) tj := by cases pu; exact ⟨_, rfl⟩
  refine ⟨"str", _, PySem.F.slot_str_getitem.lookup, typeIs_str s z t, ?_⟩
  refine wpAny_getItem_str_slice (l := some ((i : Int), ti)) (u := some ((j : Int), tj)) (st := none) hs rfl ?_
  have e : slicePicked z (some ((i : Int), ti)) (some ((j : Int), tj)) none = (List.range (min j z.length - min i z.length)).map (min i z.length + ·) := by
    unfold slicePicked
    exact str_slice_ix i j z.length
  have hl : (CN.tx z).length = z.length := Array.length_toList
  unfold sliceMade
  rw [e]
  split
  · rename_i hc
    refine ⟨.str (CN.mkS (((CN.tx z).drop i).take (j - i))), H, I, ⟨t, ?_⟩, q⟩
    simp only [Option.map_none, Option.getD_none, beq_self_eq_true, Bool.true_and, List.length_map, List.length_range, beq_iff_eq] at hc
    have : CN.mkS (((CN.tx z).drop i).take (j - i)) = z := by
      by_cases h0 : z.length = 0
      · have : CN.tx z = [] := List.eq_nil_of_length_eq_zero (by omega)
        rw [← CN.mk_tx z, this]; simp [CN.tx_mk]
      · have hi : i = 0 := by omega
        rw [hi, List.drop_zero, List.take_of_length_le (by omega), CN.mk_tx]
    rw [this]
  · rw [pick_run, show z.cps.toList = CN.tx z from rfl, ← hl, drop_take_min]
    refine ⟨?_, ⟨.str (CN.mkS (((CN.tx z).drop i).take (j - i))), H, I.tok _, ⟨_, rfl⟩, q⟩⟩
    show ((CN.tx z).drop i |>.take (j - i)).toArray.size ≤ sizeLine
    rw [List.size_toArray, List.length_take, List.length_drop]; omega
theorem call_int_str {X : Cx} : CallR X (.type "int") (fun xs H Q => ∃ x n, xs = [.str x] ∧ PySem.intText? x = some n ∧ x.length ≤ 640 ∧ Q (.int n) H) := by
  intro pins s σ H xs us Q I r h
  obtain ⟨x, n, rfl, hn, hl, q⟩ := h
  obtain ⟨u, rfl, rx⟩ := vals1 r
  obtain ⟨t, rfl⟩ := rx
  exact PySem.W.KIN.call_text hn hl ⟨.int n, H, I.tok _, ⟨_, rfl⟩, q⟩
noncomputable def sFldC (C : Addr) (ta tv : TE) (f : Str) : TS := fun D σ H => tv σ H fun y H1 => ta σ H1 fun x H2 => ∃ a dx fs, x = .ref a ∧ H2 a = some (.ins C dx fs) ∧ fs.length < 1000 ∧ D.nx σ (upd H2 a (.ins C dx (putF f y fs)))
theorem ps_fldC {X : Cx} {o value : Expr} {f : Str} {pos pos' : Pos} {ta tv : TE} {C : Addr} (c : Cls X.K C) (n : NoAttr X.K C f) (ha : PE X o ta) (hv : PE X value tv) (hs : swapsWith value (some (.Attribute o f pos')) pos.line X.env = pure false) : PS X (.Assign [.Attribute o f pos'] value pos) (sFldC C ta tv f) := by
  intro pins s σ H D I h
  refine plainObj_wpAny_Assign_Attribute (thn (hv pins s σ H _ I h) fun u s1 ⟨y, H1, I1, ry, q⟩ => thn (ha pins s1 σ H1 _ I1 q) fun ov s2 ⟨x, H2, I2, rx, a, dx, fs, ex, ea, l, q2⟩ => ?_) hs
  subst ex
  obtain rfl : ov = Value.ref a := rx
  exact setattr_ok I2 ea c n l ry fun s3 I3 => ⟨σ, _, I3, q2⟩
section
variable {D : Ends} {σ : St} {H : Hp} {Q : VK} {ta tb tc : TE} {tr : TA}
theorem rd_kget {K : PySem.W.Frag} {P : Params} : tKGet K P ta tb σ H Q = ta σ H fun x H1 => tb σ H1 fun y H2 => ∃ a g k v, x = .ref a ∧ y = .str k ∧ KD K P a g ∧ g k = some v ∧ Q v H2 := rfl
theorem rd_kin {K : PySem.W.Frag} {P : Params} : tKIn K P ta tb σ H Q = ta σ H fun y H1 => tb σ H1 fun x H2 => ∃ a g k, x = .ref a ∧ y = .str k ∧ KD K P a g ∧ Q (.bl (g k).isSome) H2 := rfl
theorem rd_fldP {C : Addr} {f : Str} : sFldC C ta tc f D σ H = tc σ H fun y H1 => ta σ H1 fun x H2 => ∃ a dx fs, x = .ref a ∧ H2 a = some (.ins C dx fs) ∧ fs.length < 1000 ∧ D.nx σ (upd H2 a (.ins C dx (putF f y fs))) := rfl
theorem rd_make {C : Addr} {sp : Sp} {dvs : List V} {E : XK} : tMake C sp dvs E tr σ H Q = tr σ H fun vs H1 => ∀ x dx, H1 x = none → H1 dx = none → dx ≠ x → sp (.ref x :: (vs ++ dvs)) (upd (upd H1 dx (.own x)) x (.ins C dx [])) (fun v H2 => v = .non ∧ Q (.ref x) H2) E := rfl
theorem rd_slS {z : Str} {lo hi : Option Int} : rSlS (.str z) lo hi H Q = ∃ (i j : Nat), lo = some (i : Int) ∧ hi = some (j : Int) ∧ z.length ≤ sizeLine ∧ Q (.str (CN.mkS (((CN.tx z).drop i).take (j - i)))) H := by
  apply propext; constructor
  · rintro ⟨z', i, j, e, q⟩; cases e; exact ⟨i, j, q⟩
  · rintro ⟨i, j, q⟩; exact ⟨z, i, j, rfl, q⟩
end
section
variable {P : Program} {w : World} {K : PySem.W.Frag} {mg : Str → Option Value} {base : Heap} {N : List Str} {qual : Str} {scope : Scope} {f : Addr} {cd : Value} {A : Around} {outer : List Env} {s : Shared} {H : Hp} {E : XK} {CX : CXT}
theorem cx_w2 : (cxOf CX P w K mg base N qual scope f cd A outer s H E).w = w := rfl
theorem cx_w : (cxOf CX P w K mg base N qual scope f cd A outer s H E).nox.w = w := rfl
end
theorem pe_gref {X : Cx} {x : Str} {p : Pos} {a : Addr} (hg : Gl X x) (hm : X.mg x = some (.ref a)) (hdb : (x == ("__debug__" : Str)) = false := by decide) : PE X (.Name x p) (tC (.ref a)) := pe_glob (v := .ref a) (hd := hdb) hg hm rfl
structure Gd (mg : Str → Option Value) (x : Str) (a : Addr) : Prop where
  m : mg x = some (.ref a)
end L2
namespace CN
open PySem L2
noncomputable abbrev IsSk (K : PySem.W.Frag) (H : Hp) (v : V) (a : Stm) : Prop := DK K H v (dat a)
theorem IsSt.k {K : PySem.W.Frag} {H : Hp} {v : V} {a : Stm} (h : IsSt H v a) : IsSk K H v a := DK.ofT _ _ h
noncomputable def Shk (K : PySem.W.Frag) (H : Hp) : Stm → List V → Prop
  | .yes, xs => xs = [sv "yes"]
  | .no, xs => xs = [sv "no"]
  | .sw n, xs => xs = [sv "switch", .int n]
  | .nt a, xs => ∃ v, xs = [sv "not", v] ∧ IsSk K H v a
  | .an a b, xs => ∃ v u, xs = [sv "and", v, u] ∧ IsSk K H v a ∧ IsSk K H u b
  | .og a b, xs => ∃ v u, xs = [sv "or", v, u] ∧ IsSk K H v a ∧ IsSk K H u b
  | .al n a, xs => ∃ v, xs = [sv "all", .int n, v] ∧ IsSk K H v a
  | .sm n a, xs => ∃ v, xs = [sv "some", .int n, v] ∧ IsSk K H v a
section
variable {K : PySem.W.Frag} {H H' : Hp}
theorem dk_str {v : V} {x : Str} (h : DK K H v (.str x)) : v = .str x := by cases h; rfl
theorem dk_int {v : V} {i : Int} (h : DK K H v (.int i)) : v = .int i := by cases h; rfl
theorem dks1 {xs : List V} {d : PyData} (h : DKs K H xs [d]) : ∃ x, xs = [x] ∧ DK K H x d := by
  cases h with
  | cons a b => cases b; exact ⟨_, rfl, a⟩
theorem dks2 {xs : List V} {d e : PyData} (h : DKs K H xs [d, e]) : ∃ x y, xs = [x, y] ∧ DK K H x d ∧ DK K H y e := by
  cases h with
  | cons a b => obtain ⟨y, rfl, k⟩ := dks1 b; exact ⟨_, _, rfl, a, k⟩
theorem dks3 {xs : List V} {d e f : PyData} (h : DKs K H xs [d, e, f]) : ∃ x y z, xs = [x, y, z] ∧ DK K H x d ∧ DK K H y e ∧ DK K H z f := by
  cases h with
  | cons a b => obtain ⟨y, z, rfl, k, l⟩ := dks2 b; exact ⟨_, _, _, rfl, a, k, l⟩
theorem sk_get {v : V} {a : Stm} (h : IsSk K H v a) : ∃ p xs, v = .ref p ∧ Tq K H p xs ∧ Shk K H a xs := by
  cases a with
  | yes =>
    cases h with
    | tup e k => obtain ⟨x, rfl, k1⟩ := dks1 k; cases dk_str k1; exact ⟨_, _, rfl, e, rfl⟩
  | no =>
    cases h with
    | tup e k => obtain ⟨x, rfl, k1⟩ := dks1 k; cases dk_str k1; exact ⟨_, _, rfl, e, rfl⟩
  | sw n =>
    cases h with
    | tup e k => obtain ⟨x, y, rfl, k1, k2⟩ := dks2 k; cases dk_str k1; cases dk_int k2; exact ⟨_, _, rfl, e, rfl⟩
  | nt a =>
    cases h with
    | tup e k => obtain ⟨x, y, rfl, k1, k2⟩ := dks2 k; cases dk_str k1; exact ⟨_, _, rfl, e, _, rfl, k2⟩
  | an a b =>
    cases h with
    | tup e k => obtain ⟨x, y, z, rfl, k1, k2, k3⟩ := dks3 k; cases dk_str k1; exact ⟨_, _, rfl, e, _, _, rfl, k2, k3⟩
  | og a b =>
    cases h with
    | tup e k => obtain ⟨x, y, z, rfl, k1, k2, k3⟩ := dks3 k; cases dk_str k1; exact ⟨_, _, rfl, e, _, _, rfl, k2, k3⟩
  | al n a =>
    cases h with
    | tup e k => obtain ⟨x, y, z, rfl, k1, k2, k3⟩ := dks3 k; cases dk_str k1; cases dk_int k2; exact ⟨_, _, rfl, e, _, rfl, k3⟩
  | sm n a =>
    cases h with
    | tup e k => obtain ⟨x, y, z, rfl, k1, k2, k3⟩ := dks3 k; cases dk_str k1; cases dk_int k2; exact ⟨_, _, rfl, e, _, rfl, k3⟩
theorem sk_mk {p : Addr} {xs : List V} {a : Stm} (h : Tq K H p xs) (s : Shk K H a xs) : IsSk K H (.ref p) a := by
  cases a with
  | yes => cases s; exact .tup h (.cons (.str _) .nil)
  | no => cases s; exact .tup h (.cons (.str _) .nil)
  | sw n => cases s; exact .tup h (.cons (.str _) (.cons (.int _) .nil))
  | nt a => obtain ⟨v, rfl, k⟩ := s; exact .tup h (.cons (.str _) (.cons k .nil))
  | an a b => obtain ⟨v, u, rfl, k, l⟩ := s; exact .tup h (.cons (.str _) (.cons k (.cons l .nil)))
  | og a b => obtain ⟨v, u, rfl, k, l⟩ := s; exact .tup h (.cons (.str _) (.cons k (.cons l .nil)))
  | al n a => obtain ⟨v, rfl, k⟩ := s; exact .tup h (.cons (.str _) (.cons (.int _) (.cons k .nil)))
  | sm n a => obtain ⟨v, rfl, k⟩ := s; exact .tup h (.cons (.str _) (.cons (.int _) (.cons k .nil)))
theorem Shk.to {a : Stm} {xs : List V} (s : Shk K H a xs) (k : Tk H H') : Shk K H' a xs := by
  cases a with
  | yes => exact s
  | no => exact s
  | sw n => exact s
  | nt a => obtain ⟨v, e, h⟩ := s; exact ⟨v, e, DK.to h k⟩
  | an a b => obtain ⟨v, u, e, h, l⟩ := s; exact ⟨v, u, e, DK.to h k, DK.to l k⟩
  | og a b => obtain ⟨v, u, e, h, l⟩ := s; exact ⟨v, u, e, DK.to h k, DK.to l k⟩
  | al n a => obtain ⟨v, e, h⟩ := s; exact ⟨v, e, DK.to h k⟩
  | sm n a => obtain ⟨v, e, h⟩ := s; exact ⟨v, e, DK.to h k⟩
theorem shk_head {a : Stm} {cs : List V} (s : Shk K H a cs) : ∃ rest, cs = .str (word a) :: rest ∧ rest.length + 1 = arity a := by
  cases a with
  | yes => cases s; exact ⟨_, rfl, rfl⟩
  | no => cases s; exact ⟨_, rfl, rfl⟩
  | sw n => cases s; exact ⟨_, rfl, rfl⟩
  | nt a => obtain ⟨v, rfl, _⟩ := s; exact ⟨_, rfl, rfl⟩
  | an a b => obtain ⟨v, u, rfl, _⟩ := s; exact ⟨_, rfl, rfl⟩
  | og a b => obtain ⟨v, u, rfl, _⟩ := s; exact ⟨_, rfl, rfl⟩
  | al n a => obtain ⟨v, rfl, _⟩ := s; exact ⟨_, rfl, rfl⟩
  | sm n a => obtain ⟨v, rfl, _⟩ := s; exact ⟨_, rfl, rfl⟩
noncomputable abbrev Stk (K : PySem.W.Frag) (H : Hp) : List V → List Stm → Prop := Paired (IsSk K H)
theorem Stk.to (k : Tk H H') : ∀ {xs : List V} {as : List Stm}, Stk K H xs as → Stk K H' xs as
  | _, _, .nil => .nil
  | _, _, .cons a b => .cons (DK.to a k) (Stk.to k b)
theorem Stk.app : ∀ {xs ys : List V} {as bs : List Stm}, Stk K H xs as → Stk K H ys bs → Stk K H (xs ++ ys) (as ++ bs)
  | _, _, _, _, .nil, s => s
  | _, _, _, _, .cons r t, s => .cons r (Stk.app t s)
theorem Stk.one {v : V} {a : Stm} (h : IsSk K H v a) : Stk K H [v] [a] := .cons h .nil
theorem Stk.snoc : ∀ {xs : List V} {x : V} {as : List Stm}, Stk K H (xs ++ [x]) as → ∃ bs b, as = bs ++ [b] ∧ Stk K H xs bs ∧ IsSk K H x b
  | [], x, _, .cons a .nil => ⟨[], _, rfl, .nil, a⟩
  | y :: xs, x, _, .cons a r => by
    obtain ⟨bs, b, rfl, h1, h2⟩ := Stk.snoc (xs := xs) r
    exact ⟨_ :: bs, b, rfl, .cons a h1, h2⟩
end
theorem tx_num {n : Int} (h : 0 ≤ n) : tx (numS n) = figs n.toNat := by
  obtain ⟨m, rfl⟩ := Int.eq_ofNat_of_zero_le h
  exact PySem.W.KIN.signs_num m
theorem num_back {n : Int} (h : 0 ≤ n) (hl : (numS n).length ≤ 640) : PySem.intText? (numS n) = some n := by
  obtain ⟨m, rfl⟩ := Int.eq_ofNat_of_zero_le h
  have ht : (numS ((m : Nat) : Int)).cps.toList = figs m := tx_num h
  have hne : figs m ≠ [] := by
    obtain ⟨c, r, e, _⟩ := figs_head m
    rw [e]; exact List.cons_ne_nil _ _
  have e := PySem.intText_digits (x := numS ((m : Nat) : Int)) (fun c hc => by rw [ht] at hc; exact figs_all m c hc) (by rw [ht]; exact hne) (Nat.le_trans hl (by decide))
  rw [ht] at e
  rw [e]
  exact congrArg (fun k : Nat => some (k : Int)) (PySem.W.KIN.val_back m)
end CN
end
section
set_option Elab.async false
set_option linter.all false
set_option maxRecDepth 100000
set_option maxHeartbeats 1000000
namespace L2
open PySem PySem.Spec PyProof.Rows
section
variable {prog : Program} {w : World} {A : Around} {E : Value → Shared → Prop} {R : Result → Shared → Prop} {s : Shared}
theorem comp_loop {elt target iter : Expr} {ifs : List Expr} {scope : Scope} {pos : Pos} {it acc : Value} {env : Env} (I : Nat → Shared → Prop)
    (turn : ∀ n s, I n s → wpAny (model prog w) A (pyNext it) (fun r s₁ => match r with
      | none => R (.ok .next) s₁
      | some v => wpAny (model prog w) A (letOwnedTupleGo target it v) (fun _ s₀ => wpAny (model prog w) A (assign target env v) (fun _ s₂ =>
          wpAny (model prog w) A (forIn ifs true fun c r => if r = true then do let ok ← isTrue c env (eval c env); pure (ForInStep.yield ok) else pure (ForInStep.yield r)) (fun ok s₃ =>
            if ok = true then wpAny (model prog w) A (eval elt env) (fun x s₄ =>
              wpAny (model prog w) A (call (.builtin "list.append") [acc, x]) (fun _ s₅ => ∃ m, m < n ∧ I m s₅) (fun _ _ => False) s₄) (fun _ _ => False) s₃
            else ∃ m, m < n ∧ I m s₃) (fun _ _ => False) s₂) (fun _ _ => False) s₀) (fun _ _ => False) s₁) (fun _ _ => False) s)
    (n : Nat) (h : I n s) :
    codeAny (model prog w) A (.compLoop (.ListComp elt [⟨target, iter, ifs, 0⟩] scope pos) 0 it acc env) R s := by
  refine codeAny_loop rfl I (fun n s hI => ?_) n h
  show wpAny _ A ((compTurn (.ListComp elt [⟨target, iter, ifs, 0⟩] scope pos) 0 it acc env).onRaise (fun x => do noteFrame x env; theTreesLotGoes x)) _ _ s
  refine wpAny_noted ?_
  rw [compTurn_list]
  refine wpAny_bind (wpAny_standAt (wpAny_bind (wpAny_mono (turn n s hI) (fun r s₁ h₁ => ?_) fun _ _ h' => h'.elim)))
  cases r with
  | none => exact wpAny_pure h₁
  | some v =>
    refine wpAny_bind (wpAny_mono h₁ (fun _ s₀ h₀ => ?_) fun _ _ h' => h'.elim)
    refine wpAny_bind (wpAny_mono h₀ (fun _ s₂ h₂ => wpAny_bind (wpAny_mono h₂ (fun ok s₃ h₃ => ?_) fun _ _ h' => h'.elim)) fun _ _ h' => h'.elim)
    cases ok with
    | false => exact wpAny_pure ⟨rfl, h₃⟩
    | true =>
      exact wpAny_bind (wpAny_bind (wpAny_mono h₃ (fun x s₄ h₄ => wpAny_bind (wpAny_mono h₄ (fun _ s₅ h₅ => wpAny_pure (wpAny_pure ⟨rfl, h₅⟩)) fun _ _ h' => h'.elim)) fun _ _ h' => h'.elim))
end
theorem lookup_relabel_free {env : Env} : ∀ {names : List (Str × NameKind)} {x : Str}, names.lookup x = some .free →
    (names.map fun (n, k) => if (k == NameKind.free && env.scope.kind == .function && env.kindOf n == some .cell) then (n, NameKind.cell) else (n, k)).lookup x = some .cell ∨
    (names.map fun (n, k) => if (k == NameKind.free && env.scope.kind == .function && env.kindOf n == some .cell) then (n, NameKind.cell) else (n, k)).lookup x = some .free
  | [], _, h => by simp at h
  | (n, k) :: r, x, h => by
    have ih := @lookup_relabel_free env r x
    cases hx : x == n with
    | true =>
      simp only [List.lookup_cons, hx] at h
      cases h
      rw [List.map_cons]
      dsimp only
      by_cases hc : (NameKind.free == NameKind.free && env.scope.kind == .function && env.kindOf n == some .cell) = true
      · left; rw [if_pos hc, List.lookup_cons, hx]
      · right; rw [if_neg hc, List.lookup_cons, hx]
    | false =>
      simp only [List.lookup_cons, hx] at h
      rw [List.map_cons]
      dsimp only
      by_cases hc : (k == NameKind.free && env.scope.kind == .function && env.kindOf n == some .cell) = true
      · rw [if_pos hc, List.lookup_cons, hx]; exact ih h
      · rw [if_neg hc, List.lookup_cons, hx]; exact ih h
theorem lookup_relabel_vis {env : Env} : ∀ {names : List (Str × NameKind)} {x : Str} {k : NameKind},
    (names.map fun (n, k) => if (k == NameKind.free && env.scope.kind == .function && env.kindOf n == some .cell) then (n, NameKind.cell) else (n, k)).lookup x = some k → names.lookup x = some k ∨ (k = .cell ∧ names.lookup x = some .free)
  | [], _, _, h => by simp at h
  | (n, j) :: r, x, k, h => by
    have ih := @lookup_relabel_vis env r x k
    rw [List.map_cons] at h
    dsimp only at h
    cases hx : x == n with
    | true =>
      by_cases hc : (j == NameKind.free && env.scope.kind == .function && env.kindOf n == some .cell) = true
      · rw [if_pos hc, List.lookup_cons, hx] at h
        cases h
        right
        refine ⟨rfl, ?_⟩
        rw [List.lookup_cons, hx]
        have : j = .free := by
          have := (Bool.and_eq_true _ _).mp ((Bool.and_eq_true _ _).mp hc).1
          simpa using this.1
        rw [this]
      · rw [if_neg hc, List.lookup_cons, hx] at h
        left; rw [List.lookup_cons, hx]; exact h
    | false =>
      have h' : (r.map fun (n, k) => if (k == NameKind.free && env.scope.kind == .function && env.kindOf n == some .cell) then (n, NameKind.cell) else (n, k)).lookup x = some k := by
        by_cases hc : (j == NameKind.free && env.scope.kind == .function && env.kindOf n == some .cell) = true
        · rw [if_pos hc, List.lookup_cons, hx] at h; exact h
        · rw [if_neg hc, List.lookup_cons, hx] at h; exact h
      rw [List.lookup_cons, hx]
      exact ih h'
structure CSc (X : Cx) (scope : Scope) (cl : List (Str × Addr)) (x : Str) (M : List Str) : Prop where
  kind : scope.kind = .function
  nocell : ∀ y ∈ scope.names, y.2 ≠ .cell
  names : ∀ y ∈ scope.names, y.2 = .local → scope.names.lookup y.1 = some .local
  hx : scope.names.lookup x = some .local
  clos : closureFor scope X.env = pure cl
  sub : ∀ y c, cl.lookup y = some c → X.env.cells.lookup y = some c
  has : ∀ y, scope.names.lookup y = some .free → ∃ c, cl.lookup y = some c
  up : ∀ y, scope.names.lookup y = some .free → X.env.kindOf y = some .cell ∨ X.env.kindOf y = some .free
  len : M.length = X.N.length
  nd : (x :: M).Nodup
  slot : ∀ (i : Nat) (y : Str), M[i]? = some y → scope.names.lookup y = none ∨ scope.names.lookup y = some .globalImplicit ∨ (scope.names.lookup y = some .free ∧ X.N[i]? = some y)
noncomputable def compCx (X : Cx) (scope : Scope) (cl : List (Str × Addr)) (x : Str) (M : List Str) (fp : List Addr) (pins : List (Addr × Obj)) (s : Shared) (H : Hp) : Cx :=
  { X with N := x :: M, s₀ := s, H₀ := H, env := compEnvC scope cl s.heap.objs.size X.env, outer := X.stack, stack := X.stack, ex := fp, fn := fun _ => false, pn := X.pn ++ pins, xe := fun _ _ => False }
section
variable {X : Cx} {pins : List (Addr × Obj)} {σ : St} {H : Hp} {s : Shared} {scope : Scope} {cl : List (Str × Addr)} {x : Str} {M : List Str} {fp : List Addr}
theorem comp_ok (I : Inv X pins σ H s) (S : CSc X scope cl x M) (hf : ∀ b ∈ fp, FpOk X pins H b ∧ b < s.heap.objs.size) : (compCx X scope cl x M fp pins s H).Ok where
  mod := I.ok.mod
  kind := S.kind
  glob := I.ok.glob
  blt := I.ok.blt
  above := Nat.le_refl _
  inj := fun y z c h1 h2 => I.ok.inj y z c (S.sub y c h1) (S.sub z c h2)
  has := fun y h => by
    have : scope.names.lookup y = some .free := by
      rcases h with h | h
      · rcases lookup_relabel_vis h with e | ⟨_, e⟩
        · obtain ⟨k, hk⟩ : ∃ p, p ∈ scope.names ∧ p.2 = .cell := by
            exact absurd e (fun e => by
              have := List.lookup_eq_some_iff.mp e
              obtain ⟨l1, l2, e2, _⟩ := this
              exact S.nocell (y, .cell) (by rw [e2]; simp) rfl)
          exact absurd hk.2 (S.nocell _ hk.1)
        · exact e
      · rcases lookup_relabel_vis h with e | ⟨e, _⟩
        · exact e
        · cases e
    exact S.has y this
  cab := fun y c h _ => by cases h
  hd := I.ok.hd
  frames := I.ok.frames
  stk := .inl rfl
  exf := fun b hb => ⟨Nat.ne_of_lt (hf b hb).2, fun y c h => (hf b hb).1.2.2.2.2.1 y c (S.sub y c h)⟩
  bs := I.bs
  bsz := Nat.le_trans I.ok.bsz I.sz
  noex := fun b o e hb => by
    rcases (hf b hb).1.2.2.2.1 with h | h
    · exact I.ok.noex b o e h
    · exact absurd (Nat.lt_of_lt_of_le (Heap.lt_size e) I.ok.bsz) (Nat.not_lt.mpr h)
  exfs := fun b hb hm => by
    have h := I.stkSub b hm
    rcases List.mem_cons.mp h with h | h
    · exact (hf b hb).1.2.1 h
    · exact (hf b hb).1.2.2.1 h
  funs := I.stack
  frf := fun b hb => I.stkFree b hb
theorem comp_inv {h' : Heap} {t' : Nat} {m0 : Str → Option Value} {o : Option V} (ho : o = none) (I : Inv X pins σ H s) (S : CSc X scope cl x M) (hf : ∀ b ∈ fp, FpOk X pins H b ∧ b < s.heap.objs.size) (hns : h'.Ns s.heap.objs.size m0)
    (hk : ∀ b u, s.heap.get? b = some u → h'.get? b = some u) : Inv (compCx X scope cl x M fp pins s H) [] (o :: σ) H { s with heap := h', toks := t' } where
  ok := comp_ok I S hf
  os := rfl
  bare := I.bare
  base := Un.kept hk
  loc := by
    refine ⟨m0, hns, fun i y v e1 e2 e3 => ?_⟩
    cases i with
    | zero => subst ho; simp at e2
    | succ i =>
      have e1' : M[i]? = some y := e1
      have e2' : σ[i]? = some (some v) := e2
      have vis : scope.names.lookup y = some .free ∧ X.N[i]? = some y := by
        rcases S.slot i y e1' with h | h | h
        · exfalso
          rcases e3 with q | q | q <;> rcases lookup_relabel_vis q with e | ⟨_, e⟩ <;> rw [h] at e <;> cases e
        · exfalso
          rcases e3 with q | q | q <;> rcases lookup_relabel_vis q with e | ⟨_, e⟩ <;> rw [h] at e <;> cases e
        · exact h
      obtain ⟨m, hn, hl⟩ := I.loc
      have up := S.up y vis.1
      have vx : Vis X.env.scope y := by
        rcases up with q | q
        · exact .inr (.inl q)
        · exact .inr (.inr q)
      obtain ⟨u, r, lk⟩ := hl i y v vis.2 e2' vx
      refine ⟨u, r, .inr ⟨?_, ?_⟩⟩
      · exact lookup_relabel_free vis.1
      · obtain ⟨c, hc⟩ := S.has y vis.1
        rcases lk with ⟨q, _⟩ | ⟨_, c', hc', ic⟩
        · exfalso
          rcases up with z | z <;> rw [z] at q <;> cases q
        · rw [S.sub y c hc] at hc'
          cases hc'
          exact ⟨c, hc, ic.keeps hk⟩
  cell := fun y c h => by
    obtain ⟨v, hv⟩ := I.cell y c (S.sub y c h)
    exact ⟨v, hv.keeps hk⟩
  free := I.hok.fresh (Nat.le_refl _)
  freeC := fun y c h => I.freeC y c (S.sub y c h)
  pin := fun p hp => by
    have hp' : p ∈ X.pn ++ pins := by
      have z : p ∈ (X.pn ++ pins) ++ [] := hp
      rwa [List.append_nil] at z
    obtain ⟨h1, h2, h3, h4, h5⟩ := I.pin p hp'
    refine ⟨hk _ _ h1, h2, Nat.ne_of_lt (Heap.lt_size h1), fun hm => ?_, h5⟩
    rcases List.mem_cons.mp (I.stkSub _ hm) with q | q
    · exact h3 q
    · exact h4 q
  hok := I.hok.kept hk
  len := by
    show σ.length + 1 = M.length + 1
    rw [I.len, S.len]
end
noncomputable def PTs (X : Cx) (ifs : List Expr) (t : TT) : Prop :=
  ∀ (pins : List (Addr × Obj)) (s : Shared) (σ : St) (H : Hp) (Q : Bool → Hp → Prop), Inv X pins σ H s → t σ H Q →
    wpAny (model X.prog X.w) X.A (forIn ifs true fun c r => if r = true then do let ok ← isTrue c X.env (eval c X.env); pure (ForInStep.yield ok) else pure (ForInStep.yield r)) (TP X pins σ Q) X.xe s
noncomputable def tYes : TT := fun _ H Q => Q true H
theorem pts_nil {X : Cx} : PTs X [] tYes := fun pins s σ H Q I h => wpAny_tests_nil ⟨H, I, h⟩
noncomputable def tComp (wi : TI) (ti : TT) (te : TE) : TE := fun σ H Q => wi σ H fun J H1 => ∀ D, H1 D = none → ∃ W : Nat → Nat → List V → Hp → Prop, (∃ m, W 0 m [] (upd H1 D (.lst []))) ∧ ∀ i m ys H2, W i m ys H2 →
  (J.stop i H2 ∧ Q (.ref D) H2) ∨ (J.go i H2 ∧ ∀ x H3, J.yld i H2 x H3 → ti (some x :: σ) H3 fun b H4 =>
    if b = true then te (some x :: σ) H4 fun y H5 => H5 D = some (.lst ys) ∧ ys.length < sizeLine ∧ ∃ m', m' < m ∧ W (i + 1) m' (ys ++ [y]) (upd H5 D (.lst (ys ++ [y]))) else ∃ m', m' < m ∧ W (i + 1) m' ys H4)
noncomputable def CQ (X : Cx) (pins : List (Addr × Obj)) (σ : St) (Q : VK) (acc : Value) (C : Addr) (r : Result) (s' : Shared) : Prop := match r with
  | .ok _ => ∃ D H', acc = .ref D ∧ Inv X pins σ H' s' ∧ Q (.ref D) H' ∧ (∃ m, s'.heap.Ns C m) ∧ FpOk X pins H' C
  | .error _ => False
section
variable {X : Cx} {elt iter : Expr} {ifs : List Expr} {scope : Scope} {cl : List (Str × Addr)} {x : Str} {px pos : Pos} {M : List Str} {wi : TI} {ti : TT} {te : TE}
theorem comp_core (hc : X.calm = true) (hi : PI X (.Name x px) iter wi) (S : CSc X scope cl x M)
    (ht : ∀ fp pins s H, PTs (compCx X scope cl x M fp pins s H) ifs ti) (he : ∀ fp pins s H, PE (compCx X scope cl x M fp pins s H) elt te)
    {pins : List (Addr × Obj)} {σ : St} {H : Hp} {s : Shared} {Q : VK} (I : Inv X pins σ H s) (h : tComp wi ti te σ H Q) :
    wpAny (model X.prog X.w) X.A (eval iter X.env) (fun xv s₁ => wpAny (model X.prog X.w) X.A (pyIter xv) (fun itv s₂ => wpAny (model X.prog X.w) X.A (newList []) (fun acc s₃ =>
      wpAny (model X.prog X.w) X.A (newFunctionEnv scope X.env.globals cl [] X.env.qual none .none (some X.env)) (fun cenv s₄ =>
        codeAny (model X.prog X.w) X.A (.compStart (.ListComp elt [⟨.Name x px, iter, ifs, 0⟩] scope pos) 0 itv acc { cenv with scope := relabel scope X.env }) (CQ X pins σ Q acc cenv.locals) s₄) X.xe s₃) X.xe s₂) X.xe s₁) X.xe s := by
  refine thn (hi pins s σ H _ I h) fun v s1 h1 => thn h1 fun itv s2 h2 => ?_
  obtain ⟨it, fp, tn, J, H2, e, I2, T, st2, f2, q2⟩ := h2
  subst e
  obtain ⟨W, ⟨m0, w0⟩, turn⟩ := q2 s2.heap.objs.size (I2.hok.fresh (Nat.le_refl _))
  refine wpAny_newObj_type ?_
  have I3 : Inv X pins σ (upd H2 s2.heap.objs.size (.lst [])) { s2 with heap := s2.heap.push { cls := .type "list", dict := none, data := .seq ([] : List Value).toArray } } := I2.lnew (its := []) (ys := []) .nil (Nat.zero_le _)
  have hlt2 : ∀ b ∈ fp, b < s2.heap.objs.size := fun b hb => by
    obtain ⟨o, eo, _⟩ := T.obj _ _ st2 b hb
    exact Heap.lt_size eo
  have hfp3 : ∀ b ∈ fp, FpOk X pins (upd H2 s2.heap.objs.size (.lst [])) b ∧ b < (s2.heap.push { cls := .type "list", dict := none, data := .seq ([] : List Value).toArray }).objs.size := fun b hb =>
    ⟨⟨by rw [upd_ne (Nat.ne_of_lt (hlt2 b hb))]; exact (f2 b hb).1, (f2 b hb).2⟩, by rw [Heap.size_push]; exact Nat.lt_succ_of_lt (hlt2 b hb)⟩
  have st3 : tn 0 (s2.heap.push { cls := .type "list", dict := none, data := .seq ([] : List Value).toArray }) := T.keep _ _ _ st2 fun b _ o eo => Heap.get?_push_of_some _ eo
  generalize hD : s2.heap.objs.size = D at *
  generalize hs3 : ({ s2 with heap := s2.heap.push { cls := .type "list", dict := none, data := .seq ([] : List Value).toArray } } : Shared) = s3 at *
  have eh : s2.heap.push { cls := .type "list", dict := none, data := .seq ([] : List Value).toArray } = s3.heap := by rw [← hs3]
  rw [eh] at hfp3 st3
  generalize upd H2 D (.lst []) = H3 at *
  refine wpAny_newFunctionEnv S.nocell (by intro y hy; simp at hy) (fun h4 hns4 hsb4 => ?_) S.kind
  have hk4 : ∀ b u, s3.heap.get? b = some u → h4.get? b = some u := fun b u eb => hsb4.extBut b u (Nat.ne_of_lt (Heap.lt_size eb)) (Heap.get?_push_of_some _ eb)
  have I4 := comp_inv (x := x) (M := M) (cl := cl) (scope := scope) (fp := fp) (t' := s3.toks + ([] : List (Str × Value)).length) (o := none) rfl I3 S hfp3 hns4 hk4
  have st4 : tn 0 h4 := T.keep _ _ _ st3 fun b _ o eo => hk4 b o eo
  have hcc : (compCx X scope cl x M fp pins s3 H3).calm = true := hc
  have stat : ∀ {H' : Hp}, (∀ b ∈ fp, H' b = none) → ∀ b ∈ fp, FpOk (compCx X scope cl x M fp pins s3 H3) [] H' b := fun {H'} hn b hb => by
    have f := (hfp3 b hb).1
    refine ⟨hn b hb, Nat.ne_of_lt (hfp3 b hb).2, fun hm => ?_, .inl hb, fun y c hy => f.2.2.2.2.1 y c (S.sub y c hy), fun p hp => ?_⟩
    · rcases List.mem_cons.mp (I3.stkSub b hm) with q | q
      · exact f.2.1 q
      · exact f.2.2.1 q
    · refine f.2.2.2.2.2 p ?_
      have z : p ∈ (X.pn ++ pins) ++ [] := hp
      rwa [List.append_nil] at z
  have back : ∀ {o : Option V} {H' : Hp} {s' : Shared}, Inv (compCx X scope cl x M fp pins s3 H3) [] (o :: σ) H' s' → Inv X pins σ H' s' ∧ (∃ m, s'.heap.Ns s3.heap.objs.size m) ∧ FpOk X pins H' s3.heap.objs.size := fun {o H' s'} I' => by
    refine ⟨I3.call' (ch := fp) I'.os I'.base I'.hok I'.bare fun b hb => ?_, ?_, I3.fpOk (Nat.le_refl _) I'.free⟩
    · have f := (hfp3 b hb).1
      exact ⟨f.2.2.2.1, f.2.1, f.2.2.2.2.1, f.2.2.2.2.2⟩
    · obtain ⟨m, hn, _⟩ := I'.loc
      exact ⟨m, hn⟩
  have loop : codeAny (model X.prog X.w) X.A (.compLoop (.ListComp elt [⟨.Name x px, iter, ifs, 0⟩] scope pos) 0 (.ref it) (.ref D) (compEnvC scope cl s3.heap.objs.size X.env)) (CQ X pins σ Q (.ref D) s3.heap.objs.size)
      { s3 with heap := h4, toks := s3.toks + ([] : List (Str × Value)).length } := by
    refine comp_loop (fun n s' => ∃ i o ys H', Inv (compCx X scope cl x M fp pins s3 H3) [] (o :: σ) H' s' ∧ tn i s'.heap ∧ (∀ b ∈ fp, H' b = none) ∧ W i n ys H') ?_ m0 ⟨0, none, [], H3, I4, st4, fun b hb => (hfp3 b hb).1.1, w0⟩
    rintro n s5 ⟨i, o, ys, H5, I5, st5, fr5, w5⟩
    rcases turn i n ys H5 w5 with ⟨stop, qn⟩ | ⟨go, step⟩
    · refine thn (T.done (compCx X scope cl x M fp pins s3 H3) rfl rfl rfl hcc i [] s5 (o :: σ) H5 _ I5 (stat fr5) st5 stop) fun r s6 ⟨hr, I6⟩ => ?_
      subst hr
      obtain ⟨b1, b2, b3⟩ := back I6
      exact ⟨D, H5, rfl, b1, qn, b2, b3⟩
    · refine thn (T.item (compCx X scope cl x M fp pins s3 H3) rfl rfl rfl hcc i [] s5 (o :: σ) H5 _ I5 (stat fr5) st5 go) fun r s6 ⟨u, hr, h6⟩ => ?_
      subst hr
      refine thn h6 fun _ s7 ⟨y, H7, I7, r7, y7, st7, fr7⟩ => ?_
      have I7' := I7.pinned (stat fr7) (T.obj _ _ st7)
      have hN0 : (compCx X scope cl x M fp pins s3 H3).N[0]? = some x := rfl
      have hloc : Loc (compCx X scope cl x M fp pins s3 H3).env.scope x := .inl (lookup_relabel_local S.hx)
      refine wpAny_assign_Name (store_ok I7' S.nd hN0 hloc r7 (fun s8 I8 => ?_) (.inr (lookup_relabel_local S.hx)))
      have I8' : Inv (compCx X scope cl x M fp pins s3 H3) ([] ++ pinsAt fp s7.heap) (some y :: σ) H7 s8 := I8
      have again : ∀ {H9 : Hp} {s9 : Shared} {ys' : List V} {m' : Nat}, m' < n → Inv (compCx X scope cl x M fp pins s3 H3) ([] ++ pinsAt fp s7.heap) (some y :: σ) H9 s9 → W (i + 1) m' ys' H9 →
          ∃ m, m < n ∧ ∃ i o ys H', Inv (compCx X scope cl x M fp pins s3 H3) [] (o :: σ) H' s9 ∧ tn i s9.heap ∧ (∀ b ∈ fp, H' b = none) ∧ W i m ys H' := fun {H9 s9 ys' m'} hm I9 w9 => by
        refine ⟨m', hm, i + 1, some y, ys', H9, I9.unpinned, T.keep _ _ _ st7 fun b hb oo eo => (I9.pin (b, oo) (List.mem_append_right _ (List.mem_append_right _ (mem_pinsAt hb eo)))).1, fun b hb => ?_, w9⟩
        obtain ⟨oo, eo, _⟩ := T.obj _ _ st7 b hb
        exact (I9.pin (b, oo) (List.mem_append_right _ (List.mem_append_right _ (mem_pinsAt hb eo)))).2.1
      refine thn (ht fp pins s3 H3 _ s8 (some y :: σ) H7 _ I8' (step y H7 y7)) fun ok s9 ⟨H9, I9, q9⟩ => ?_
      cases ok with
      | false =>
        rw [if_neg (by simp)] at q9 ⊢
        obtain ⟨m', hm, w9⟩ := q9
        exact again hm I9 w9
      | true =>
        rw [if_pos rfl] at q9 ⊢
        refine thn (he fp pins s3 H3 _ s9 (some y :: σ) H9 _ I9 q9) fun z s10 ⟨zv, H10, I10, r10, hd10, hz10, m', hm, w10⟩ => ?_
        refine thn (mt_append _ s10 (some y :: σ) H10 (.ref D) [zv] (.ref D) [z] (fun _ H' => ∃ m', m' < n ∧ W (i + 1) m' (ys ++ [zv]) H') I10 rfl (.cons r10 .nil) ⟨D, ys, zv, rfl, rfl, hd10, hz10, m', hm, w10⟩) fun _ s11 ⟨_, H11, I11, _, m2, hm2, w11⟩ => ?_
        exact again hm2 I11 w11
  exact codeAny_compStart_list loop (T.self _ 0 _ _ _ st4 loop)
theorem pe_comp (hc : X.calm = true) (hi : PI X (.Name x px) iter wi) (S : CSc X scope cl x M)
    (ht : ∀ fp pins s H, PTs (compCx X scope cl x M fp pins s H) ifs ti) (he : ∀ fp pins s H, PE (compCx X scope cl x M fp pins s H) elt te)
    (hs : ∀ x, foldedSetIterable iter X.env x = pure x := by intro _; rfl) : PE X (.ListComp elt [⟨.Name x px, iter, ifs, 0⟩] scope pos) (tComp wi ti te) := by
  intro pins s σ H Q I h
  rw [eval_ListComp]
  refine wpAny_comprehension_free (use := none) rfl hs S.clos S.kind S.names (wpAny_mono (comp_core (pos := pos) hc hi S ht he I h) (fun xv s1 h1 => wpAny_mono h1 (fun itv s2 h2 => wpAny_mono h2 (fun acc s3 h3 => wpAny_mono h3 (fun cenv s4 h4 => codeAny_mono h4 fun r s5 h5 => ?_) fun _ _ e => e) fun _ _ e => e) fun _ _ e => e) fun _ _ e => e)
  cases r with
  | error e => exact h5.elim
  | ok f =>
    obtain ⟨D, H', rfl, I5, q5, ⟨m, hn⟩, f5⟩ := h5
    refine ⟨m, hn, fun h' hsb => ⟨.ref D, H', ?_, rfl, q5⟩⟩
    exact I5.turned (t' := s5.toks) (fun b o hb eb => hsb.extBut b o hb eb) f5.1 f5.2.1 f5.2.2.2.1 f5.2.2.2.2.1 f5.2.2.2.2.2
end
noncomputable def clOf (env : Env) : List (Str × NameKind) → List (Str × Addr) → List (Str × Addr)
  | [], cs => cs
  | (n, k) :: r, cs => clOf env r (if k == .free then (n, (env.cells.lookup n).getD 0) :: cs else cs)
theorem closure_of {scope : Scope} {env : Env} (h : ∀ p ∈ scope.names, p.2 = .free → ∃ c, env.cells.lookup p.1 = some c) : closureFor scope env = pure (clOf env scope.names []) := by
  simp only [closureFor]
  suffices ∀ (l : List (Str × NameKind)) (cs : List (Str × Addr)), (∀ p ∈ l, p.2 = .free → ∃ c, env.cells.lookup p.1 = some c) →
      (forIn l cs fun x r => match x with
        | (name, kind) => if (kind == NameKind.free) = true then do let a ← cellOf env name; pure (ForInStep.yield ((name, a) :: r)) else pure (ForInStep.yield r)) = (pure (clOf env l cs) : Sem (List (Str × Addr))) by
    rw [this _ _ h]; rfl
  intro l
  induction l with
  | nil => intro cs _; rfl
  | cons p r ih =>
    obtain ⟨n, k⟩ := p
    intro cs hp
    rw [List.forIn_cons]
    by_cases hk : (k == NameKind.free) = true
    · have hk' : k = .free := by simpa using hk
      obtain ⟨c, hc⟩ := hp (n, k) (List.mem_cons_self ..) hk'
      simp only [hk, if_true, cellOf, hc]
      rw [clOf, if_pos hk, hc]
      exact ih _ fun q hq => hp q (List.mem_cons_of_mem _ hq)
    · simp only [hk, if_false]
      rw [clOf, if_neg hk]
      exact ih _ fun q hq => hp q (List.mem_cons_of_mem _ hq)
theorem clOf_sub {env : Env} : ∀ (l : List (Str × NameKind)) (cs : List (Str × Addr)), (∀ p ∈ l, p.2 = .free → ∃ c, env.cells.lookup p.1 = some c) → (∀ y c, cs.lookup y = some c → env.cells.lookup y = some c) →
    ∀ y c, (clOf env l cs).lookup y = some c → env.cells.lookup y = some c
  | [], cs, _, h, y, c, e => h y c e
  | (n, k) :: r, cs, hp, h, y, c, e => by
    rw [clOf] at e
    refine clOf_sub r _ (fun q hq => hp q (List.mem_cons_of_mem _ hq)) ?_ y c e
    intro z d hz
    by_cases hk : (k == NameKind.free) = true
    · rw [if_pos hk, List.lookup_cons] at hz
      have hk' : k = .free := by simpa using hk
      obtain ⟨c', hc'⟩ := hp (n, k) (List.mem_cons_self ..) hk'
      cases hzn : z == n with
      | true =>
        rw [hzn] at hz
        have : z = n := by simpa using hzn
        rw [this]
        simp only [hc', Option.getD_some, Option.some.injEq] at hz
        rw [hc', hz]
      | false => rw [hzn] at hz; exact h z d hz
    · rw [if_neg hk] at hz; exact h z d hz
theorem clOf_has {env : Env} {y : Str} : ∀ (l : List (Str × NameKind)) (cs : List (Str × Addr)), ((∃ c, cs.lookup y = some c) ∨ (y, NameKind.free) ∈ l) → ∃ c, (clOf env l cs).lookup y = some c
  | [], cs, h => by
    rcases h with h | h
    · exact h
    · simp at h
  | (n, k) :: r, cs, h => by
    rw [clOf]
    refine clOf_has r _ ?_
    rcases h with ⟨c, hc⟩ | h
    · left
      by_cases hk : (k == NameKind.free) = true
      · rw [if_pos hk, List.lookup_cons]
        cases y == n with
        | true => exact ⟨_, rfl⟩
        | false => exact ⟨c, hc⟩
      · rw [if_neg hk]; exact ⟨c, hc⟩
    · rcases List.mem_cons.mp h with e | e
      · cases e
        left
        rw [if_pos (beq_self_eq_true _), List.lookup_cons, beq_self_eq_true]
        exact ⟨_, rfl⟩
      · exact .inr e
theorem mem_of_lookup {l : List (Str × NameKind)} {y : Str} {k : NameKind} (h : l.lookup y = some k) : (y, k) ∈ l := by
  obtain ⟨l1, l2, e, _⟩ := List.lookup_eq_some_iff.mp h
  rw [e]; simp
noncomputable def cscB (scF scope : Scope) (x : Str) (N M : List Str) : Bool :=
  scope.names.all (fun p => p.2 != .cell) && scope.names.all (fun p => p.2 != .local || scope.names.lookup p.1 == some .local) && scope.names.lookup x == some .local &&
  scope.names.all (fun p => p.2 != .free || scF.names.lookup p.1 == some .cell) && M.length == N.length &&
  (N.zip M).all (fun p => match scope.names.lookup p.2 with | none => true | some .globalImplicit => true | some .free => p.1 == p.2 | _ => false)
theorem csc_of {CX : CXT} {P : Program} {w : World} {K : PySem.W.Frag} {mg : Str → Option Value} {base : Heap} {N : List Str} {qual : Str} {scF scope : Scope} {f : Addr} {cd : Value} {A : Around} {outer : List Env} {s : Shared} {H : Hp} {E : XK} {x : Str} {M : List Str}
    (hk : scope.kind = .function) (hb : cscB scF scope x N M = true) (hnd : (x :: M).Nodup) :
    CSc (cxOf CX P w K mg base N qual scF f cd A outer s H E).nox scope (clOf (envOfC qual scF s.heap.objs.size f cd) scope.names []) x M := by
  simp only [cscB, Bool.and_eq_true, List.all_eq_true, beq_iff_eq] at hb
  obtain ⟨⟨⟨⟨⟨h1, h2⟩, h3⟩, h4⟩, h5⟩, h6⟩ := hb
  have hcell : ∀ p ∈ scope.names, p.2 = .free → scF.names.lookup p.1 = some .cell := fun p hp hf => by
    have := h4 p hp
    rw [hf] at this
    simpa using this
  have hfc : ∀ p ∈ scope.names, p.2 = .free → ∃ c, (envOfC qual scF s.heap.objs.size f cd).cells.lookup p.1 = some c := fun p hp hf => cell_has (hcell p hp hf)
  refine ⟨hk, fun p hp => by simpa using h1 p hp, fun p hp hl => ?_, h3, closure_of hfc, clOf_sub _ _ hfc (fun _ _ e => by simp at e), fun y hy => clOf_has _ _ (.inr (mem_of_lookup hy)), fun y hy => .inl (hcell (y, .free) (mem_of_lookup hy) rfl), h5, hnd, fun i y hy => ?_⟩
  · have := h2 p hp
    rw [hl] at this
    simpa using this
  · obtain ⟨hi, hg⟩ := List.getElem?_eq_some_iff.mp hy
    have hiN : i < N.length := by omega
    have hz : (N[i], y) ∈ N.zip M := by
      have : (N.zip M)[i]? = some (N[i], y) := by
        rw [List.getElem?_zip_eq_some]
        exact ⟨List.getElem?_eq_getElem hiN, hy⟩
      exact List.mem_of_getElem? this
    have h := h6 _ hz
    simp only at h
    cases hq : scope.names.lookup y with
    | none => exact .inl rfl
    | some k =>
      rw [hq] at h
      cases k with
      | globalImplicit => exact .inr (.inl rfl)
      | free =>
        have e : N[i] = y := by simpa using h
        exact .inr (.inr ⟨rfl, by show N[i]? = some y; rw [List.getElem?_eq_getElem hiN, e]⟩)
      | _ => simp at h
theorem ix_listK {X : Cx} {K : PySem.W.Frag} (h : X.K = K) : IxR X (rIxL K) := by subst h; exact ix_list
noncomputable def tCompIn (J : It) (D : Addr) (ti : TT) (te : TE) (σ : St) (Q : VK) (H1 : Hp) : Prop := ∃ W : Nat → Nat → List V → Hp → Prop, (∃ m, W 0 m [] (upd H1 D (.lst []))) ∧ ∀ i m ys H2, W i m ys H2 →
  (J.stop i H2 ∧ Q (.ref D) H2) ∨ (J.go i H2 ∧ ∀ x H3, J.yld i H2 x H3 → ti (some x :: σ) H3 fun b H4 =>
    if b = true then te (some x :: σ) H4 fun y H5 => H5 D = some (.lst ys) ∧ ys.length < sizeLine ∧ ∃ m', m' < m ∧ W (i + 1) m' (ys ++ [y]) (upd H5 D (.lst (ys ++ [y]))) else ∃ m', m' < m ∧ W (i + 1) m' ys H4)
section
variable {σ : St} {H : Hp} {Q : VK} {ti : TT} {te ta : TE} {tr : TA} {K : PySem.W.Frag}
theorem rd_compT : tComp (iTup K ta) ti te σ H Q = ta σ H fun x H1 => ∃ a, x = .ref a ∧ (∃ xs, SqT K H1 a xs) ∧ ∀ D, H1 D = none → tCompIn (Itt K a) D ti te σ Q H1 := rfl
theorem rd_compL : tComp (iList K ta) ti te σ H Q = ta σ H fun x H1 => ∃ a, x = .ref a ∧ (∃ xs, SqL K H1 a xs) ∧ ∀ D, H1 D = none → tCompIn (Itl K a) D ti te σ Q H1 := rfl
theorem rd_compR : tComp (iRng1 tr) ti te σ H Q = tr σ H fun vs H1 => ∃ j : Int, vs = [.int j] ∧ -(2 ^ 62) ≤ j ∧ j < 2 ^ 62 ∧ ∀ D, H1 D = none → tCompIn (Itr 0 j.toNat) D ti te σ Q H1 := rfl
theorem rd_tyes {R : Bool → Hp → Prop} : tYes σ H R = R true H := rfl
end
theorem comp_list {K : PySem.W.Frag} {a D : Addr} {xs : List V} {ti : TT} {te : TE} {σ : St} {H1 : Hp} {Q : VK} (Pv : Nat → List V → Hp → Prop) (h0 : Pv 0 [] (upd H1 D (.lst []))) (hl : ∀ i ys H, i ≤ xs.length → Pv i ys H → SqL K H a xs)
    (hs : ∀ i x ys H, xs[i]? = some x → Pv i ys H → ti (some x :: σ) H fun b H4 => if b = true then te (some x :: σ) H4 fun y H5 => H5 D = some (.lst ys) ∧ ys.length < sizeLine ∧ ∃ m', m' < xs.length - i ∧ (m' = xs.length - (i + 1) ∧ i + 1 ≤ xs.length ∧ Pv (i + 1) (ys ++ [y]) (upd H5 D (.lst (ys ++ [y])))) else ∃ m', m' < xs.length - i ∧ (m' = xs.length - (i + 1) ∧ i + 1 ≤ xs.length ∧ Pv (i + 1) ys H4))
    (hd : ∀ ys H, Pv xs.length ys H → Q (.ref D) H) : tCompIn (Itl K a) D ti te σ Q H1 := by
  refine ⟨fun i m ys H => m = xs.length - i ∧ i ≤ xs.length ∧ Pv i ys H, ⟨xs.length, by simp, Nat.zero_le _, h0⟩, ?_⟩
  rintro i m ys H ⟨rfl, hi, p⟩
  have q := hl i ys H hi p
  by_cases hlt : i < xs.length
  · refine .inr ⟨⟨xs, xs[i], q, by simp [hlt]⟩, fun x H' y => ?_⟩
    obtain ⟨e, y⟩ := y
    subst e
    exact hs i x ys _ (y xs q) p
  · have e : i = xs.length := by omega
    subst e
    exact .inl ⟨⟨xs, q, Nat.le_refl _⟩, hd ys H p⟩
end L2
end
section
set_option Elab.async false
set_option linter.all false
set_option maxRecDepth 100000
set_option maxHeartbeats 4000000
namespace L2
open PySem PySem.Spec PyProof.Rows
noncomputable def CodeO (c : Addr) (q : Str) : HO := .ext fun h => h.CodeRec (.ref c) q
noncomputable def TabAt (H : Hp) (P : Addr) (pos : Pos) (q : Str) : Prop :=
  ∃ ps : Array Value, H P = some (.tbl ps) ∧ TriplesOk ps.toList ∧ (codeAmong pos ps.toList = none ∨ ∃ c, codeAmong pos ps.toList = some (.ref c) ∧ H c = some (CodeO c q))
section
variable {X : Cx} {pins : List (Addr × Obj)} {σ : St} {H : Hp} {s : Shared} {A : Around} {E : Value → Shared → Prop}
end
end L2
end
section
set_option Elab.async false
set_option linter.all false
set_option maxRecDepth 100000
set_option maxHeartbeats 4000000
namespace L2
open PySem PySem.Spec PyProof.Rows
section
variable {P : Program} {w : World} {K : PySem.W.Frag} {mg : Str → Option Value} {base : Heap}
end
end L2
end
section
set_option Elab.async false
set_option linter.all false
set_option maxRecDepth 100000
set_option maxHeartbeats 4000000
namespace L2
open PySem PySem.Spec PyProof.Rows
end L2
end
section
set_option Elab.async false
set_option linter.all false
set_option maxRecDepth 100000
namespace L2
open PySem PySem.Spec PyProof.Rows
end L2
end
section
set_option Elab.async false
set_option linter.all false
namespace CN
structure Nd where
  sw : Int
  off : Nat
  on : Nat
  deriving DecidableEq
noncomputable abbrev Set1 := Int → Bool
noncomputable def put (ρ : Set1) (s : Int) (b : Bool) : Set1 := fun t => if t = s then b else ρ t
noncomputable def stepV (ρ : Set1) (vs : List Bool) (nd : Nd) : List Bool := vs ++ [vs.getD (if ρ nd.sw then nd.on else nd.off) false]
noncomputable def vals (ρ : Set1) (ns : List Nd) : List Bool := ns.foldl (stepV ρ) [false, true]
noncomputable def val (ns : List Nd) (p : Nat) (ρ : Set1) : Bool := (vals ρ ns).getD p false
theorem foldV (ρ : Set1) : ∀ (ms : List Nd) (vs : List Bool), ∃ t, ms.foldl (stepV ρ) vs = vs ++ t ∧ t.length = ms.length
  | [], vs => ⟨[], by simp⟩
  | nd :: ms, vs => by
    obtain ⟨t, h1, h2⟩ := foldV ρ ms (stepV ρ vs nd)
    refine ⟨vs.getD (if ρ nd.sw then nd.on else nd.off) false :: t, ?_, by simp [h2]⟩
    rw [List.foldl_cons, h1, stepV, List.append_assoc]
    rfl
theorem vals_len (ρ : Set1) (ns : List Nd) : (vals ρ ns).length = ns.length + 2 := by
  obtain ⟨t, h1, h2⟩ := foldV ρ ns [false, true]
  unfold vals
  rw [h1, List.length_append, h2]
  simp only [List.length_cons, List.length_nil]
  omega
theorem vals_app (ρ : Set1) (ns ms : List Nd) : ∃ t, vals ρ (ns ++ ms) = vals ρ ns ++ t ∧ t.length = ms.length := by
  obtain ⟨t, h1, h2⟩ := foldV ρ ms (vals ρ ns)
  exact ⟨t, by unfold vals at *; rw [List.foldl_append]; exact h1, h2⟩
theorem val_app (ρ : Set1) (ns ms : List Nd) {p : Nat} (h : p < ns.length + 2) : val (ns ++ ms) p ρ = val ns p ρ := by
  obtain ⟨t, h1, _⟩ := vals_app ρ ns ms
  unfold val
  rw [h1, List.getD_eq_getElem?_getD, List.getElem?_append_left (by rw [vals_len]; exact h), ← List.getD_eq_getElem?_getD]
theorem val_no (ns : List Nd) (ρ : Set1) : val ns 0 ρ = false := by
  have h := val_app ρ [] ns (p := 0) (by simp)
  rw [List.nil_append] at h
  rw [h]; rfl
theorem val_yes (ns : List Nd) (ρ : Set1) : val ns 1 ρ = true := by
  have h := val_app ρ [] ns (p := 1) (by simp)
  rw [List.nil_append] at h
  rw [h]; rfl
theorem val_last (ns : List Nd) (nd : Nd) (ρ : Set1) (h1 : nd.off < ns.length + 2) (h2 : nd.on < ns.length + 2) :
    val (ns ++ [nd]) (ns.length + 2) ρ = val (ns ++ [nd]) (if ρ nd.sw then nd.on else nd.off) ρ := by
  have e : vals ρ (ns ++ [nd]) = vals ρ ns ++ [(vals ρ ns).getD (if ρ nd.sw then nd.on else nd.off) false] := by
    unfold vals; rw [List.foldl_append]; rfl
  have hc : (if ρ nd.sw then nd.on else nd.off) < ns.length + 2 := by split <;> assumption
  rw [val_app ρ ns [nd] hc]
  unfold val
  rw [e, List.getD_eq_getElem?_getD, List.getElem?_append_right (by rw [vals_len]; exact Nat.le_refl _), vals_len, Nat.sub_self]
  rfl
theorem val_node {ns : List Nd} {i : Nat} {nd : Nd} (e : ns[i]? = some nd) (h1 : nd.off < i + 2) (h2 : nd.on < i + 2) (ρ : Set1) :
    val ns (i + 2) ρ = val ns (if ρ nd.sw then nd.on else nd.off) ρ := by
  obtain ⟨hi, hg⟩ := List.getElem?_eq_some_iff.mp e
  have hs : ns = (ns.take i ++ [nd]) ++ ns.drop (i + 1) := by
    rw [← hg, List.take_append_getElem hi, List.take_append_drop]
  have hl : (ns.take i).length = i := by rw [List.length_take]; omega
  have k := val_last (ns.take i) nd ρ (by rw [hl]; exact h1) (by rw [hl]; exact h2)
  rw [hl] at k
  have hl2 : (ns.take i ++ [nd]).length = i + 1 := by rw [List.length_append, hl]; rfl
  have hc : (if ρ nd.sw then nd.on else nd.off) < i + 2 := by split <;> assumption
  have k1 := val_app ρ (ns.take i ++ [nd]) (ns.drop (i + 1)) (p := i + 2) (by rw [hl2]; omega)
  have k2 := val_app ρ (ns.take i ++ [nd]) (ns.drop (i + 1)) (p := if ρ nd.sw then nd.on else nd.off) (by rw [hl2]; omega)
  rw [← hs] at k1 k2
  rw [k1, k2]
  exact k
noncomputable def Above (ns : List Nd) (b : Int) (p : Nat) : Prop := p < 2 ∨ ∃ nd, ns[p - 2]? = some nd ∧ b < nd.sw
structure Net (ns : List Nd) : Prop where
  ord : ∀ (i : Nat) (nd : Nd), ns[i]? = some nd → nd.off < i + 2 ∧ nd.on < i + 2 ∧ nd.off ≠ nd.on ∧ Above ns nd.sw nd.off ∧ Above ns nd.sw nd.on
  one : ∀ (i j : Nat) (nd : Nd), ns[i]? = some nd → ns[j]? = some nd → i = j
theorem Net.at {ns : List Nd} (N : Net ns) {p : Nat} {nd : Nd} (e : ns[p - 2]? = some nd) (h2 : ¬ p < 2) (ρ : Set1) :
    val ns p ρ = val ns (if ρ nd.sw then nd.on else nd.off) ρ := by
  obtain ⟨a, b, _⟩ := N.ord _ _ e
  have h := val_node e a b ρ
  have e2 : p - 2 + 2 = p := by omega
  rw [e2] at h
  exact h
end CN
end
section
set_option Elab.async false
set_option linter.all false
namespace CN
open PySem
noncomputable def tr : Stm → Set1 → Bool
  | .yes, _ => true
  | .no, _ => false
  | .sw n, ρ => ρ n
  | .nt a, ρ => !tr a ρ
  | .an a b, ρ => tr a ρ && tr b ρ
  | .og a b, ρ => tr a ρ || tr b ρ
  | .al n a, ρ => tr a (put ρ n false) && tr a (put ρ n true)
  | .sm n a, ρ => tr a (put ρ n false) || tr a (put ρ n true)
noncomputable abbrev Pl (ns : List Nd) (p : Nat) : Prop := p < ns.length + 2
noncomputable def Ext (ns ns' : List Nd) : Prop := ∃ ms, ns' = ns ++ ms
theorem Ext.trans {a b c : List Nd} (h : Ext a b) (k : Ext b c) : Ext a c := by
  obtain ⟨x, rfl⟩ := h; obtain ⟨y, rfl⟩ := k
  exact ⟨x ++ y, by rw [List.append_assoc]⟩
theorem Ext.pl {a b : List Nd} (h : Ext a b) {p : Nat} (k : Pl a p) : Pl b p := by
  obtain ⟨x, rfl⟩ := h
  unfold Pl at *
  rw [List.length_append]; omega
theorem Ext.val {a b : List Nd} (h : Ext a b) {p : Nat} (k : Pl a p) (ρ : Set1) : val b p ρ = val a p ρ := by
  obtain ⟨x, rfl⟩ := h
  exact val_app ρ a x k
structure Ite (ns : List Nd) (t y n r : Nat) : Prop where
  pl : Pl ns r
  say : ∀ ρ, val ns r ρ = if val ns t ρ then val ns y ρ else val ns n ρ
structure Stl (ns : List Nd) (p : Nat) (s : Int) (b : Bool) (r : Nat) : Prop where
  pl : Pl ns r
  say : ∀ ρ, val ns r ρ = val ns p (put ρ s b)
structure Means (ns : List Nd) (r : Nat) (a : Stm) : Prop where
  pl : Pl ns r
  say : ∀ ρ, val ns r ρ = tr a ρ
end CN
end
section
set_option Elab.async false
set_option linter.all false
namespace CN
open PySem
structure Ws where
  num : Nat → Option Nat
  out : List Nd
noncomputable def w0 : Ws := ⟨fun p => if p = 0 then some 0 else if p = 1 then some 1 else none, []⟩
end CN
end
section
set_option Elab.async false
set_option linter.all false
namespace CN
open PySem
section
variable {ns : List Nd} {w : Ws} {p : Nat} {r : List Nat} {nd : Nd}
end
end CN
end
section
set_option Elab.async false
set_option linter.all false
set_option maxRecDepth 100000
set_option maxHeartbeats 1000000
namespace L2
open PySem PySem.Spec PyProof.Rows
structure Fl (P : Program) (w : World) (outer : List Env) (H H' : Hp) (h B h' : Heap) : Prop where
  keep : ∀ b o, h.get? b = some o → H b = none → b ∉ frs outer → B.get? b = some o
  slot : ∀ b o, h.get? b = some o → H b = none → b ∈ frs outer → ∃ sl, h'.get? b = some { o with slots := sl }
  free : ∀ b o, h.get? b = some o → H b = none → H' b = none
  there : ∀ b o, h.get? b = some o → b ∉ frs outer → ∃ o', B.get? b = some o'
  tups : ∀ b xs, H b = some (.tup xs) → H' b = some (.tup xs)
  frzs : ∀ b o u, H b = some (.frz o u) → H' b = some (.frz o u)
  tbls : ∀ b ps, H b = some (.tbl ps) → ∃ more, H' b = some (.tbl (ps ++ more))
  hok : HOk P w H' B
section
variable {P : Program} {w : World} {outer : List Env} {H H' : Hp} {h B B' h1 h2 : Heap}
theorem HOk.stays (x : HOk P w H B) (k : B.StaysIn h1) : HOk P w H h1 := fun a o e => (x a o e).stay (fun b u _ q => k b u q) (fun _ q => q) (fun _ _ q => q)
theorem Fl.on (x : Fl P w outer H H' h B h1) (fl : h1.FunFrames B' outer) (u : h1.UpToSlots h2) : Fl P w outer H H' h B h2 :=
  ⟨x.keep, fun b o q n hb => by
    obtain ⟨sl, e⟩ := x.slot b o q n hb
    obtain ⟨_, o', ho', hd⟩ := fl.mem hb
    have hd' : ∀ vs, ({ o with slots := sl } : Obj).data ≠ .fields vs := by rw [e] at ho'; cases ho'; exact hd
    obtain ⟨sl', e'⟩ := u b _ e hd'
    exact ⟨sl', e'⟩, x.free, x.there, x.tups, x.frzs, x.tbls, x.hok⟩
theorem Fl.un (x : Fl P w outer H H' h B h1) (k : B.StaysIn h1) (hf : ∀ b ∈ frs outer, H b = none) : Un (frs outer) [] H H' h h1 where
  keep := fun b o q n hb _ => k b o (x.keep b o q n hb)
  slot := fun b o q n hb _ => x.slot b o q n hb
  free := fun b o q n _ => x.free b o q n
  there := fun b o q _ => by
    by_cases hb : b ∈ frs outer
    · obtain ⟨sl, e⟩ := x.slot b o q (hf b hb) hb
      exact ⟨_, e⟩
    · obtain ⟨o', e⟩ := x.there b o q hb
      exact ⟨o', k b o' e⟩
  tups := x.tups
  frzs := x.frzs
  tbls := x.tbls
end
noncomputable def CXe (P : Program) (w : World) : CXT := fun outer H s E e s' =>
  ∃ (x t : Addr) (cls : Value) (H' : Hp) (B : Heap), e = .ref x ∧ s'.os = s.os ∧ AllBare s'.gens ∧ Fl P w outer H H' s.heap B s'.heap ∧ Heap.FlyingW B outer x cls (.ref t) s'.heap ∧ E cls none H'
theorem frs_cons {env : Env} {outer : List Env} {L b : Addr} (hf : env.frame = some L) : b ∈ frs (env :: outer) ↔ b = L ∨ b ∈ frs outer := by
  unfold frs; rw [List.filterMap_cons, hf]; exact List.mem_cons
section
variable {CX : CXT} {P : Program} {w : World} {K : PySem.W.Frag} {mg : Str → Option Value} {base : Heap} {N : List Str} {qual : Str} {scope : Scope} {f : Addr} {cd : Value} {A : Around} {outer : List Env} {s : Shared} {H : Hp} {E : XK}
theorem leave_made {pins : List (Addr × Obj)} {σ : St} {H1 : Hp} {s1 : Shared} {h' : Heap} {e : Addr} {cls : Value} {vs : List Value}
    (I : Inv (cxOf (CXe P w) P w K mg base N qual scope f cd A outer s H E) pins σ H1 s1) (m : Heap.MadeExcOf s1.heap h' e cls vs) (hE : E cls none H1) :
    (cxOf (CXe P w) P w K mg base N qual scope f cd A outer s H E).xe (.ref e) { s1 with heap := h' } := by
  show wpAny _ _ (leaving _ _) _ _ _
  have st := I.stack
  have hin : ∀ env ∈ (envOfC qual scope s.heap.objs.size f cd :: outer), ∀ b, env.frame = some b → b ∈ frs (envOfC qual scope s.heap.objs.size f cd :: outer) := fun env he b hb => List.mem_filterMap.mpr ⟨env, he, hb⟩
  refine wpAny_leaves_madeW (base := PySem.W.hideAll s1.heap (frs (envOfC qual scope s.heap.objs.size f cd :: outer))) I.ok.frames rfl (fun b o q => PySem.W.of_hideAll _ q) (PySem.W.funFrames_hide st hin) m fun h2 t x1 x2 x3 x4 => ?_
  have lt : ∀ b o, s.heap.get? b = some o → b ≠ s.heap.objs.size := fun b o q => Nat.ne_of_lt (Heap.lt_size q)
  have nin : ∀ b o, s.heap.get? b = some o → b ∉ frs outer → b ∉ frs (envOfC qual scope s.heap.objs.size f cd :: outer) := fun b o q n hb => by
    rcases (frs_cons (L := s.heap.objs.size) rfl).mp hb with z | z
    · exact lt b o q z
    · exact n z
  refine ⟨e, t, cls, H1, _, rfl, I.os, I.bare, ⟨fun b o q n hb => ?_, fun b o q n hb => ?_, fun b o q n => I.base.free b o q n (by simp [cxOf]), fun b o q hb => ?_, I.base.tups, I.base.frzs, I.base.tbls, ?_⟩, x1, hE⟩
  · exact PySem.W.hideAll_get _ (I.base.keep b o q n hb (by simp [cxOf])) (nin b o q hb)
  · obtain ⟨sl, e1⟩ := I.base.slot b o q n hb (by simp [cxOf])
    obtain ⟨_, o', ho', hd⟩ := st.mem ((frs_cons (L := s.heap.objs.size) rfl).mpr (.inr hb))
    have hd' : ∀ vs, ({ o with slots := sl } : Obj).data ≠ .fields vs := by rw [e1] at ho'; cases ho'; exact hd
    obtain ⟨sl', e2⟩ := x4 b _ (m.keeps b _ e1) hd'
    exact ⟨sl', e2⟩
  · obtain ⟨o', e1⟩ := I.base.there b o q (by simp [cxOf])
    exact ⟨o', PySem.W.hideAll_get _ e1 (nin b o q hb)⟩
  · exact fun a o e1 => (I.hok a o e1).stay (fun b u hb q => PySem.W.hideAll_get _ q fun z => by
      have hn := I.stkFree b z
      rcases hb with rfl | hb
      · rw [hn] at e1; cases e1
      · rw [hn] at hb; cases hb) (fun _ q => q) (fun _ _ q => q)
theorem passes_on : Passes (CXe P w) (cxOf (CXe P w) P w K mg base N qual scope f cd A outer s H E) E := by
  intro pins σ H1 s1 e s' I h
  obtain ⟨x, t, cls, H', B, rfl, os, bare, F, fl, hE⟩ := h
  show wpAny _ _ (leaving _ _) _ _ _
  refine wpAny_leaves_onW I.ok.frames rfl fl fun h2 x1 x4 => ?_
  have lt : ∀ b o, s.heap.get? b = some o → b ≠ s.heap.objs.size := fun b o q => Nat.ne_of_lt (Heap.lt_size q)
  have nin : ∀ b o, s.heap.get? b = some o → b ∉ frs outer → b ∉ frs (envOfC qual scope s.heap.objs.size f cd :: outer) := fun b o q n hb => by
    rcases (frs_cons (L := s.heap.objs.size) rfl).mp hb with z | z
    · exact lt b o q z
    · exact n z
  have F2 := F.on fl.2.2.1 x4
  refine ⟨x, t, cls, H', B, rfl, os.trans I.os, bare, ⟨fun b o q n hb => ?_, fun b o q n hb => ?_, fun b o q n => ?_, fun b o q hb => ?_, fun b xs q => F.tups b xs (I.base.tups b xs q), fun b o u q => F.frzs b o u (I.base.frzs b o u q), fun b ps q => ?_, F.hok⟩, x1, hE⟩
  · exact F.keep b o (I.base.keep b o q n hb (by simp [cxOf])) (I.base.free b o q n (by simp [cxOf])) (nin b o q hb)
  · obtain ⟨sl, e1⟩ := I.base.slot b o q n hb (by simp [cxOf])
    obtain ⟨sl', e2⟩ := F2.slot b _ e1 (I.base.free b o q n (by simp [cxOf])) ((frs_cons (L := s.heap.objs.size) rfl).mpr (.inr hb))
    exact ⟨sl', e2⟩
  · obtain ⟨o', e1⟩ := I.base.there b o q (by simp [cxOf])
    exact F.free b o' e1 (I.base.free b o q n (by simp [cxOf]))
  · obtain ⟨o', e1⟩ := I.base.there b o q (by simp [cxOf])
    exact F.there b o' e1 (nin b o q hb)
  · obtain ⟨m1, e1⟩ := I.base.tbls b ps q
    obtain ⟨m2, e2⟩ := F.tbls b _ e1
    exact ⟨m1 ++ m2, by rw [e2, Array.append_assoc]⟩
end
end L2
end
section
set_option Elab.async false
set_option linter.all false
set_option maxRecDepth 100000
set_option maxHeartbeats 1000000
namespace L2
open PySem PySem.Spec PyProof.Rows
theorem own_in {K : PySem.W.Frag} {h : Heap} {mg : Str → Option Value} {x : Str} {C : Addr} {bmB : List Value} {newId : String} (X : K.In h) (hm : mg x = some (.ref C)) (q : PySem.W.excIn K C bmB newId = true) : OwnCls x C bmB newId mg h := by
  refine ⟨hm, ?_⟩
  unfold PySem.W.excIn at q
  split at q
  · rename_i dd cd sl ho
    split at q
    · rename_i hm' hs
      simp only [Bool.and_eq_true, beq_iff_eq, Bool.not_eq_true'] at q
      obtain ⟨⟨⟨⟨⟨rfl, rfl⟩, hdel⟩, ht⟩, hok⟩, hni⟩ := q
      obtain ⟨nm, bs, mro, ns, qn, hd, sn, sub, ab, col, del⟩ := cd
      obtain ⟨l⟩ := sl
      dsimp only at hm' hdel hok hni hs
      subst hm' hdel hs
      exact ⟨_, ns, nm, qn, bs, hd, sn, sub, ab, col, dd, _, _, _, _, _, _, X _ _ ho, .of_isNs (PySem.W.isNs_of_in X hok), PySem.W.nsMap_none_of_in X hok hni, PySem.W.tail_of_in X ht⟩
    · cases q
  · cases q
noncomputable def tRaise (C : Addr) (E : XK) (t : TA) : TS := fun _ σ H => t σ H fun vs H1 => vs.length ≤ sizeLine ∧ E (.ref C) none H1
section
variable {P : Program} {w : World} {K : PySem.W.Frag} {mg : Str → Option Value} {base : Heap} {N : List Str} {qual : Str} {scope : Scope} {f : Addr} {cd : Value} {A : Around} {outer : List Env} {s : Shared} {H : Hp} {E : XK}
  {x : Str} {C : Addr} {bmB : List Value} {B newId initId : String} {e : Expr} {es : List Expr} {t : TA} {np cpos pos : Pos}
theorem ps_raise (hg : Gl (cxOf (CXe P w) P w K mg base N qual scope f cd A outer s H E) x) (hm : mg x = some (.ref C)) (q : PySem.W.excIn K C bmB newId = true) (FB : ExcBaseFacts B newId initId bmB)
    (ha : PA (cxOf (CXe P w) P w K mg base N qual scope f cd A outer s H E) (e :: es) t) (hdb : (x == ("__debug__" : Str)) = false := by decide)
    (he : starEach (e :: es) (cxOf (CXe P w) P w K mg base N qual scope f cd A outer s H E).env = (false, eval e (cxOf (CXe P w) P w K mg base N qual scope f cd A outer s H E).env) :: starEach es (cxOf (CXe P w) P w K mg base N qual scope f cd A outer s H E).env := by rfl)
    (hpl : (backTo cpos (starEach es (cxOf (CXe P w) P w K mg base N qual scope f cd A outer s H E).env)).any (·.1) = false := by rfl) :
    PS (cxOf (CXe P w) P w K mg base N qual scope f cd A outer s H E) (.Raise (some (.Call (.Name x np) (e :: es) [] cpos)) none pos) (tRaise C E t) := by
  intro pins s1 σ H1 D I h
  obtain ⟨tl, Nn, nm, qn, bs, hdct, sn, sub, ab, col, dd, k0, k1, k2, k3, k5, mN, hC, hN, hni, T⟩ := (own_in I.ok.mod.kin hm q).obj
  refine wpAny_Raise_call_subT (C := C) (nm := nm) (q := qn) (N := Nn) (bs := bs) (bm := tl) (hdct := hdct) (sn := sn) (sub := sub) (ab := ab) (col := col) (dd := dd) (k0 := k0) (k1 := k1) (k2 := k2) (k3 := k3) (k5 := k5)
    FB (mN := mN) (T.hasType FB.hasBase) (I.ok.hd rfl) (by rw [he]; show (false || (backTo cpos (starEach es _)).any (·.1)) = false; rw [hpl]; rfl) hni (ld_glob I hg hm ⟨rfl, ?_⟩ hdb)
  have hA := ha cpos pins s1 σ H1 _ I h
  rw [he] at hA ⊢
  refine Calls.evalArgs_plain (thn hA fun us s2 ⟨vs, H2, I2, r, hl, hE⟩ => ⟨rfl, by rw [← r.length]; exact hl, I2.bk _ _ hC, hN.keeps I2.bk, T.keeps I2.bk, fun h' ex m => leave_made I2 m hE⟩)
end
noncomputable def XP (X : Cx) (pins : List (Addr × Obj)) (σ : St) (E : XK) (e : Value) (s' : Shared) : Prop := ∃ H1 s1, Inv X pins σ H1 s1 ∧ CXe X.prog X.w X.stack H1 s1 E e s'
noncomputable def PEx (X : Cx) (E : XK) (e : Expr) (t : TE) : Prop :=
  ∀ (pins : List (Addr × Obj)) (s : Shared) (σ : St) (H : Hp) (Q : VK), Inv X pins σ H s → t σ H Q → wpAny (model X.prog X.w) X.A (eval e X.env) (EP X pins σ Q) (XP X pins σ E) s
noncomputable def PSx (X : Cx) (E : XK) (st : List Stmt) (t : TS) : Prop :=
  ∀ (pins : List (Addr × Obj)) (s : Shared) (σ : St) (H : Hp) (D : Ends), Inv X pins σ H s → t D σ H → wpAny (model X.prog X.w) X.A (execs st X.env) (SP X pins D) (XP X pins σ E) s
section
variable {X : Cx} {k : Nat} {f : Addr} {fd : FuncData} {ps : List Str} {sp : Sp} {dvs : List V} {ds : List Value} {E : XK} {x : Str} {p pos : Pos} {e : Expr} {es : List Expr} {t : TA} {te : TE}
theorem pex_call (hx0 : X.xe = fun _ _ => False) (F : FnOk X.prog X.w X.K X.mg X.base (CXe X.prog X.w) k f fd ps sp) (hr : Room k X.A) (hg : Gl X x) (hm : X.mg x = some (.ref f)) (hk : PySem.W.keepIn X.K (.ref f) = true) (hb : Binds X.K fd ps ds) (hd : Vals dvs ds)
    (ha : PA X (e :: es) t) (hdb : (x == ("__debug__" : Str)) = false := by decide) (he : starEach (e :: es) X.env = (false, eval e X.env) :: starEach es X.env := by rfl) (hpl : (backTo pos (starEach es X.env)).any (·.1) = false := by rfl) :
    PEx X E (.Call (.Name x p) (e :: es) [] pos) (tCall sp dvs E t) := by
  intro pins s σ H Q I h
  refine wpAny_Call_Name_kw (ld_glob I hg hm ?_ hdb)
  have hA := ha pos pins s σ H _ I h
  rw [hx0] at hA
  refine PySem.W.callWith_K (h₀ := X.base) I.ok.mod.kin hk (wpAny_mono hA (fun us s1 ⟨vs, H1, I1, r, q⟩ => ⟨I1.kIn, ?_⟩) fun _ _ z => False.elim z) he hpl
  have r2 : Vals (vs ++ dvs) (us ++ ds) := r.append hd
  have hl : (us ++ ds).length = ps.length := by rw [← r2.length]; exact F.len _ _ _ _ q
  refine wpAny_call (codeAny_mono (F.run X.A X.stack s1 H1 ⟨us, []⟩ (us ++ ds) (vs ++ dvs) Q E hr I1.env0 (hb s1 us I1.kIn hl) r2 q) fun r s' hq => ?_)
  cases r with
  | error e => exact ⟨H1, s1, I1, hq⟩
  | ok fl =>
    cases fl with
    | ret u => exact I1.after hq
    | next => exact False.elim hq
    | brk => exact False.elim hq
    | cont => exact False.elim hq
theorem psx_expr (he : PEx X E e te) (hs : swapsWith e none pos.line X.env = pure false := by rfl) : PSx X E [.Expr e pos] (tDrop te) := by
  intro pins s σ H D I h
  refine wpAny_execs_cons (wpAny_Expr_any (thn (he pins s σ H _ I h) fun v s1 ⟨x, H1, I1, r1, q1⟩ => ?_) I.quiet hs)
  exact wpAny_execs_nil ⟨σ, H1, I1, q1⟩
theorem psx_set {i : Nat} {x : Str} {pos' : Pos} (hN : X.N.Nodup) (hi : X.N[i]? = some x) (hx : Loc X.env.scope x) (he : PEx X E e te) (hs : swapsWith e (some (.Name x pos')) pos.line X.env = pure false := by rfl) (hf : X.fn x = true ∨ X.env.scope.names.lookup x = some .local := by first | exact .inl rfl | exact .inr rfl | assumption) :
    PSx X E [.Assign [.Name x pos'] e pos] (tAsg te (gName i)) := by
  intro pins s σ H D I h
  refine wpAny_execs_cons (wpAny_Assign_Name (thn (he pins s σ H _ I h) fun v s1 ⟨y, H1, I1, r1, q1⟩ => ?_) hs)
  exact store_ok I1 hN hi hx r1 (fun s2 I2 => wpAny_execs_nil ⟨_, H1, I2, q1⟩) hf
end
noncomputable abbrev Cx.hdl (X : Cx) (e : Value) : Cx := { X with A := X.A.mark (some e), calm := false }
section
variable {X : Cx} {pins : List (Addr × Obj)} {σ : St} {H H' : Hp} {s s' : Shared} {e : Value}
theorem Cx.Ok.hdl (ok : X.Ok) (e : Value) : (X.hdl e).Ok :=
  ⟨ok.mod, ok.kind, ok.glob, ok.blt, ok.above, ok.inj, ok.has, ok.cab, (fun z => nomatch z), ok.frames, ok.stk, ok.exf, ok.bs, ok.bsz, ok.noex, ok.exfs, ok.funs, ok.frf⟩
theorem Inv.hdl (I : Inv X pins σ H s) (e : Value) : Inv (X.hdl e) pins σ H s := ⟨I.ok.hdl e, I.os, I.bare, I.base, I.loc, I.cell, I.free, I.freeC, I.pin, I.hok, I.len⟩
theorem Inv.unhdl (ok : X.Ok) (I : Inv (X.hdl e) pins σ H s) : Inv X pins σ H s := ⟨ok, I.os, I.bare, I.base, I.loc, I.cell, I.free, I.freeC, I.pin, I.hok, I.len⟩
theorem SP.unhdl {D : Ends} {f : Flow} (ok : X.Ok) (h : SP (X.hdl e) pins D f s') : SP X pins D f s' := by
  cases f with
  | next => obtain ⟨σ', H', I, q⟩ := h; exact ⟨σ', H', I.unhdl ok, q⟩
  | brk => obtain ⟨σ', H', I, q⟩ := h; exact ⟨σ', H', I.unhdl ok, q⟩
  | cont => obtain ⟨σ', H', I, q⟩ := h; exact ⟨σ', H', I.unhdl ok, q⟩
  | ret u => obtain ⟨v, σ', H', I, r, q⟩ := h; exact ⟨v, σ', H', I.unhdl ok, r, q⟩
theorem Inv.flew {B h2 : Heap} (I : Inv X pins σ H s) (os : s'.os = s.os) (bare : AllBare s'.gens) (F : Fl X.prog X.w X.stack H H' s.heap B h2) (k : B.StaysIn h2) : Inv X pins σ H' { s' with heap := h2 } :=
  I.call' (s' := { s' with heap := h2 }) (ch := []) os (F.un k I.stkFree) (F.hok.stays k) bare (fun b z => absurd z (by simp))
end
noncomputable def Mat (K : PySem.W.Frag) (C D : Addr) : Prop := ∀ (M : Model) (A : Around) (E : Value → Shared → Prop) (Q : Bool → Shared → Prop) (s : Shared) (e : Addr) (oe : Obj), K.In s.heap → s.heap.get? e = some oe → oe.cls = .ref C → Q true s → wpAny M A (excMatches (.ref e) (.ref D)) Q E s
theorem mat_self {K : PySem.W.Frag} {C : Addr} {bmB : List Value} {newId : String} (q : PySem.W.excIn K C bmB newId = true) (hb : bmB.contains (.type "BaseException") = true) : Mat K C C := by
  intro M A E Q s e oe X he hc hq
  obtain ⟨tl, Nn, nm, qn, bs, hdct, sn, sub, ab, col, dd, k0, k1, k2, k3, k5, mN, hC, hN, hni, T⟩ := (own_in (mg := fun _ => some (.ref C)) (x := "x") X rfl q).obj
  obtain ⟨h, g, d, t, os⟩ := s
  exact wpAny_excMatches_sub_self hC he hc (T.hasType hb) hq
noncomputable def tTry (C : Addr) (tb : XK → TS) (th : TS) : TS := fun D σ H => tb (fun cls _ H' => cls = .ref C ∧ th D σ H') D σ H
section
variable {X : Cx} {body suite : List Stmt} {b₀ : Stmt} {x : Str} {C Cc : Addr} {tb : XK → TS} {th : TS} {np hpos pos : Pos}
theorem ps_try (hx0 : X.xe = fun _ _ => False) (hst : X.stack = X.env :: X.outer) (hfr : X.env.frame = some X.env.locals) (hb : ∀ E, PSx X E body (tb E)) (hg : Gl X x) (hm : X.mg x = some (.ref Cc)) (mt : Mat X.K C Cc)
    (hh : ∀ e, PSs (X.hdl e) (b₀ :: suite) th) (hdb : (x == ("__debug__" : Str)) = false := by decide) :
    PS X (.Try body [.ExceptHandler (some (.Name x np)) none (b₀ :: suite) hpos] [] [] pos) (tTry C tb th) := by
  intro pins s σ H D I h
  refine wpAny_Try_except (wpAny_mono (hb _ pins s σ H D I h) (fun fl s1 q => ?_) fun e s1 q => ?_)
  · cases fl with
    | next => exact wpAny_execs_nil q
    | brk => exact q
    | cont => exact q
    | ret u => exact q
  · obtain ⟨H1, s0, I0, y, t, cls, H', B, rfl, os, bare, F, fl, rfl, hth⟩ := q
    rw [hst] at fl
    refine wpAny_looks_onW (by rw [I0.ok.frames, hst]) hfr fl fun h4 f4 u4 => ?_
    refine wpAny_landsW f4 fun h5 f5 u5 => ?_
    have fl' : s1.heap.FunFrames B X.stack := by rw [hst]; exact fl.2.2.1
    have F5 := F.on fl' (u4.trans u5)
    have I5 : Inv X pins σ H' { s1 with heap := h5 } := I0.flew os bare F5 f5.1
    obtain ⟨ob, hob, hobc⟩ := f5.there
    refine wpAny_handleBy_cons (codeAny_handlers_test (ld_glob (I5.hdl (.ref y)) hg hm ?_ hdb)) (by intro q; cases q)
    refine mt _ _ _ _ _ y ob I5.kIn hob hobc (codeAny_handlers_suite ?_)
    refine lands_againW f5 fun h6 f6 u6 => ?_
    have F6 := F5.on (B' := B) (by rw [hst]; exact f5.2.2.1) u6
    have I6 : Inv X pins σ H' { s1 with heap := h6 } := I0.flew os bare F6 f6.1
    refine wpAny_mono (hh (.ref y) pins _ σ H' D (I6.hdl _) hth) (fun f s2 q => q.unhdl I.ok) fun e' s2 z => ?_
    have z' : X.xe e' s2 := z
    rw [hx0] at z'
    exact False.elim z'
end
end L2
end
section
set_option Elab.async false
set_option linter.all false
set_option maxRecDepth 100000
set_option maxHeartbeats 1000000
namespace L2
open PySem PySem.Spec PySem.Calls PyProof.Rows PySem.W PySem.Builtin PySem.Builtin.ObjectAttr PySem.Builtin.Getset_descriptor
structure Xc (K : PySem.W.Frag) (D : Addr) : Prop where
  ga : PySem.W.findIn K (.ref D) "__getattribute__" = some (some (.builtin "BaseException.__getattribute__"))
  gt : PySem.W.findIn K (.ref D) "__getattr__" = some none
  ca : PySem.W.findIn K (.ref D) "__class__" = some (some (.builtin "object.__class__"))
  hn : PySem.W.specialIn K (.builtin "object.__class__") "__get__" = some (some (.builtin "getset_descriptor.__get__"))
  tk : PySem.W.takesIn K (.builtin "object.__class__") = some true
  ob : PySem.W.mroIn K D (.type "object") = some true
  be : PySem.W.mroIn K D (.type "BaseException") = some true
  tp : PySem.W.hasDictIn K D = true
section
variable {prog : Program} {w : World} {A : Around} {E : Value → Shared → Prop} {R : Result → Shared → Prop} {s : Shared} {K : PySem.W.Frag} {x D : Addr} {ox : Obj} {B : String} {bmB : List Value}
theorem exc_find {M : Model} {h : Heap} (X : K.In h) (c : Xc K D) : Looks M h (Builtin.ObjectAttr.find (.ref x) (.ref D) "__class__") (.bind (.builtin "getset_descriptor.__get__") (.builtin "object.__class__")) := by
  have L1 := looks_findIn (M := M) X c.ca
  have L2 := looks_specialIn (M := M) X c.hn
  have L3 := looks_takesIn (M := M) X c.tk
  refine L1.andThen (L2.andThen ?_)
  refine Looks.andThen (a := some (.builtin "getset_descriptor.__get__", .builtin "object.__class__")) (L3.andThen .now) (Looks.tag .now)
theorem exc_get {tp : Value} (X : K.In s.heap) (c : Xc K D) (L0 : Looks (model prog w) s.heap (typeOf (.ref x)) (.ref D)) (h : R (.ok (.ret (.ref D))) s) :
    codeAny (model prog w) A (.call (.builtin "getset_descriptor.__get__") ⟨[.builtin "object.__class__", .ref x, tp], []⟩) R s := by
  obtain ⟨hh, g, dr, t, os⟩ := s
  have L1 := looks_mroIn (M := model prog w) X c.ob
  refine codeAny_call_builtin KF.slot_gs.plain KF.entry_gs (KF.slot_gs.check _ _ _ _ _ _ _ _ KF.type_class (KF.args_gs _ _ _) ?_)
  unfold Builtin.«getset_descriptor.__get__» descrGet
  rw [dga_obj]
  refine wpAny_bind (wpAny_pure ?_)
  unfold descrGetter descrCheckInstance descrNameAndClass isInstance
  simp only [KF.owner_class]
  repeat lk
  refine ⟨Code.quiet_builtin _ (by decide +kernel), codeAny_builtin KF.entry_class ?_⟩
  unfold Builtin.«object.__class__» shownTypeOf
  repeat lk
  exact h
theorem exc_entry {tk : Tok} {Q : PySem.Fin → Shared → Prop} (X : K.In s.heap) (c : Xc K D) (L0 : Looks (model prog w) s.heap (typeOf (.ref x)) (.ref D)) (hq : Q (.done (.ret (.ref D))) s) : wpAny (model prog w) A (Builtin.«object.__getattribute__» ⟨[.ref x, .str "__class__" tk], []⟩) Q E s := by
  obtain ⟨hh, g, d, t, os⟩ := s
  have L1 := exc_find (M := model prog w) (x := x) X c
  unfold Builtin.«object.__getattribute__»
  refine wpAny_bind (wpAny_pure ?_)
  refine wpAny_bind (wpAny_pure ?_)
  refine wpAny_bind (L0.at ?_)
  refine wpAny_bind (L1.at ?_)
  show wpAny _ _ (holding [.builtin "object.__class__"] (call (.builtin "getset_descriptor.__get__") [.builtin "object.__class__", .ref x, .ref D]) >>= ret) _ _ _
  exact wpAny_bind (wpAny_holding (wpAny_call (exc_get X c L0 (wpAny_pure hq))))
theorem exc_check {Q : Unit → Shared → Prop} {nameV : Value} (X : K.In s.heap) (c : Xc K D) (L0 : Looks (model prog w) s.heap (typeOf (.ref x)) (.ref D)) (hq : Q () s) :
    wpAny (model prog w) A (checkBuiltinCall "BaseException.__getattribute__" ⟨[.ref x, nameV], []⟩) Q E s := by
  have hk : builtinKind "BaseException.__getattribute__" = some .slot := by decide +kernel
  have hsplit : splitId "BaseException.__getattribute__" = some ("BaseException", "__getattribute__") := by decide +kernel
  have ha := F.args_bexc_ga (.ref x) nameV
  obtain ⟨hh, g, d, t, os⟩ := s
  have L1 := PySem.W.looks_mroIn (M := model prog w) X c.be
  have LI : Looks (model prog w) hh (isInstance (.ref x) (.type "BaseException")) true := L0.andThen L1
  simp only [checkBuiltinCall, hk, hsplit]
  refine wpAny_bind (LI.at ?_)
  repeat (first | exact hq | wp_step)
theorem exc_class {Q : Option Value → Shared → Prop} (FB : ExcAttrBase B bmB) (X : K.In s.heap) (c : Xc K D) (L0 : ∀ M : Model, Looks M s.heap (typeOf (.ref x)) (.ref D)) (h : Q (some (.ref D)) { s with toks := s.toks + 1 }) : wpAny (model prog w) A (getAttr? (.ref x) "__class__") Q E s := by
  obtain ⟨hh, g, d, t, os⟩ := s
  have L0 := L0 (model prog w)
  have L1 := looks_findIn (M := model prog w) X c.ga
  have L2 := looks_findIn (M := model prog w) X c.gt
  have f3 := FB.ga.bind (.ref x)
  have hx2 : (Value.builtin "BaseException.__getattribute__" == Value.builtin "object.__getattribute__") = false := by decide +kernel
  unfold getAttr? getAttrBy? getAttrBy
  refine wpAny_bind (wpAny_mkText (wpAny_bind (wpAny_attempt (wpAny_holding (wpAny_bind (L0.at (wpAny_bind (L1.at ?_))))))))
  simp only [hx2, Bool.and_false, Bool.false_eq_true, if_false]
  unfold getAttrByItsOwn hookBefore
  refine wpAny_bind (L2.at (wpAny_bind (wpAny_attempt (wpAny_holding ?_))))
  show wpAny _ _ (boundAndCalled _ _ _) _ _ _
  unfold boundAndCalled
  rw [f3]
  refine wpAny_bind (wpAny_pure (wpAny_call (codeAny_call_builtin FB.ga.plain F.entry_bexc_ga (exc_check (s := ⟨hh, g, d, t + 1, os⟩) X c L0 (exc_entry (s := ⟨hh, g, d, t + 1, os⟩) X c L0 ?_)))))
  exact handed_on rfl (wpAny_pure h)
noncomputable def XcAt (D x : Addr) (h : Heap) : Prop := ∃ o, h.get? x = some o ∧ o.cls = .ref D
theorem XcAt.type {M : Model} {h : Heap} (I : XcAt D x h) : Looks M h (typeOf (.ref x)) (.ref D) := by
  obtain ⟨o, e, c⟩ := I
  exact c ▸ (Looks.ld e).andThen .now
theorem kitx_exc (FB : ExcAttrBase B bmB) (c : Xc K D) : PySem.W.KitX K (.ref x) (.ref D) (XcAt D x) where
  ty := fun _ _ _ I => I.type
  it := fun _ _ X _ => by
    obtain ⟨cdD, hcD, _⟩ := PySem.W.any_some c.tp
    unfold PySem.W.clsIn at hcD
    split at hcD
    · rename_i ho
      intro A' Q' E' s' k q
      unfold isType loadHead
      exact wpAny_bind (wpAny_loadPart (k _ _ (X _ _ ho)) (wpAny_pure q))
    · cases hcD
  ne := fun h tp dd its n sl X htp => by
    obtain ⟨cdD, hcD, _⟩ := PySem.W.any_some c.tp
    refine Bool.eq_false_iff.mpr fun q => ?_
    have e : D = tp := Value.ref.inj (beq_iff_eq.mp q)
    subst e
    unfold PySem.W.clsIn at hcD
    split at hcD
    · rename_i ho
      have z := (X _ _ ho).symm.trans htp
      cases z
    · cases hcD
  ca := fun X I k => exc_class FB X c (fun _ => I.type) k
end
noncomputable abbrev xo (D x : Addr) : HO := .ext (XcAt D x)
theorem xo_ok {P : Program} {w : World} {H : Hp} {h : Heap} {D x : Addr} (I : XcAt D x h) : ObjOk P w H h x (xo D x) :=
  ⟨I, let ⟨o, e, _⟩ := I; ⟨o, e⟩, fun h1 h2 ⟨o, e, c⟩ k => ⟨o, k o e, c⟩⟩
section
variable {X : Cx} {B : String} {bmB : List Value}
theorem call_isinstX (FB : ExcAttrBase B bmB) : CallR X (.builtin "isinstance") (fun xs H Q => ∃ a D v c b, xs = [.ref a, v] ∧ RelV v c ∧ (∀ c', RelV v c' → c' = c) ∧ H a = some (xo D a) ∧ Xc X.K D ∧ PySem.W.kitOne X.K (.ref D) c = some b ∧ Q (.bl b) H) := by
  intro pins s σ H xs us Q I r h
  obtain ⟨a, D, v, c, b, rfl, rv, uq, ea, xc, e, q⟩ := h
  obtain ⟨u, c', rfl, ru, rc⟩ := r.two
  cases (show u = Value.ref a from ru)
  rw [uq c' rc]
  obtain ⟨p, _, _⟩ := (show ObjOk X.prog X.w H s.heap a (xo D a) from I.hok a _ ea)
  exact PySem.W.kia_one (kitx_exc FB xc) I.kIn p e (fun z => nomatch z) fun tk => ⟨.bl b, H, I.tok tk, rfl, q⟩
end
end L2
end
section
set_option Elab.async false
set_option linter.all false
set_option maxRecDepth 100000
set_option maxHeartbeats 1000000
namespace L2
open PySem PySem.Spec PySem.Calls PyProof.Rows
theorem mat_sub {K : PySem.W.Frag} {C D : Addr} {bmD : List Value} {newId : String} (q : PySem.W.excIn K D bmD newId = true) (hb : bmD.contains (.type "BaseException") = true) (hm : PySem.W.mroIn K C (.ref D) = some true) : Mat K C D := by
  intro M A E Q s e oe X he hcls hq
  obtain ⟨tl, Nn, nm, qn, bs, hdct, sn, sub, ab, col, dd, k0, k1, k2, k3, k5, mN, hD, hN, hni, T⟩ := (own_in (mg := fun _ => some (.ref D)) (x := "x") X rfl q).obj
  obtain ⟨h, g, d, t, os⟩ := s
  have L := PySem.W.looks_mroIn (M := M) X hm
  have hcB : (Value.ref D :: tl).contains (.type "BaseException") = true := by rw [List.contains_cons, T.hasType hb, Bool.or_true]
  have f := tc_notTuple
  unfold excMatches
  repeat (first | (with_reducible refine wpAny_loadPart_at he ?_; rw [hcls]) | with_reducible refine wpAny_loadPart_at hD ?_ | with_reducible refine L.at ?_ | (with_reducible refine wpAny_isSubtype_exc hD ?_; rw [hcB]) | wp_step)
  exact hq
theorem ObjOk.here {P : Program} {w : World} {H : Hp} {h : Heap} {a : Addr} {o : HO} (x : ObjOk P w H h a o) : ∃ ob, h.get? a = some ob := by
  cases o with
  | lst xs => obtain ⟨_, _, _, _, e⟩ := x; exact ⟨_, e⟩
  | tup xs => obtain ⟨_, _, _, ob, e, _⟩ := x; exact ⟨_, e⟩
  | dK kvs => obtain ⟨_, _, _, _, o, _, _, e, _⟩ := x; exact ⟨_, e⟩
  | dT kvs => obtain ⟨_, _, _, _, o, _, _, e, _⟩ := x; exact ⟨_, e⟩
  | set S n => obtain ⟨o, _, _, _, e, _⟩ := x; exact ⟨_, e⟩
  | ins C dx fs => obtain ⟨_, _, _, e, _⟩ := x; exact ⟨_, e⟩
  | own y => obtain ⟨_, e⟩ := x; exact ⟨_, e⟩
  | xd fs => obtain ⟨_, ⟨_, _, _, e, _⟩, _⟩ := x; exact ⟨_, e⟩
  | rng lo hi => obtain ⟨_, _, _, e⟩ := x; exact ⟨_, e⟩
  | frz ob u => obtain ⟨e, _⟩ := x; exact ⟨_, e⟩
  | tbl ps => exact ⟨_, (show h.get? a = some _ from x)⟩
  | met f y => exact ⟨_, (show h.get? a = some _ from x)⟩
  | ext φ => obtain ⟨_, e, _⟩ := x; exact e
section
variable {X : Cx} {pins : List (Addr × Obj)} {σ σ' : St} {H H1 : Hp} {s s0 : Shared}
theorem Inv.track {a : Addr} {o : HO} (I0 : Inv X pins σ' H1 s0) (h0 : s0.heap.get? a = none) (I : Inv X pins σ H s) (new : ObjOk X.prog X.w (upd H a o) s.heap a o) (hn : H a = none) : Inv X pins σ (upd H a o) s := by
  have ne : ∀ b ob, s0.heap.get? b = some ob → b ≠ a := fun b ob e z => by rw [z, h0] at e; cases e
  have ne0 : ∀ b ob, X.s₀.heap.get? b = some ob → b ∉ X.ex → b ≠ a := fun b ob e hx => by
    obtain ⟨o', e'⟩ := I0.base.there b ob e hx
    exact ne b o' e'
  have nh : ∀ b u, H b = some u → b ≠ a := fun b u e z => by rw [z, hn] at e; cases e
  refine ⟨I.ok, I.os, I.bare, ⟨I.base.keep, I.base.slot, fun b ob q n hx => ?_, I.base.there, fun b xs q => ?_, fun b ob u q => ?_, fun b ps q => ?_⟩, I.loc, I.cell, ?_, fun x c e => ?_, fun p hp => ?_, fun b u e => ?_, I.len⟩
  · rw [upd_ne (ne0 b ob q hx)]; exact I.base.free b ob q n hx
  · have := I.base.tups b xs q; rw [upd_ne (nh b _ this)]; exact this
  · have := I.base.frzs b ob u q; rw [upd_ne (nh b _ this)]; exact this
  · obtain ⟨m, e⟩ := I.base.tbls b ps q
    exact ⟨m, by rw [upd_ne (nh b _ e)]; exact e⟩
  · obtain ⟨m, ⟨ob, _, _, e, _⟩, _⟩ := I0.loc
    rw [upd_ne (ne _ ob e)]; exact I.free
  · obtain ⟨v, ob, e1, _⟩ := I0.cell x c e
    rw [upd_ne (ne _ ob e1)]; exact I.freeC x c e
  · obtain ⟨e, n, q⟩ := I.pin p hp
    exact ⟨e, by rw [upd_ne (ne _ _ (I0.pin p hp).1)]; exact n, q⟩
  · by_cases hb : b = a
    · subst hb
      rw [upd_same] at e; cases e
      exact new
    · rw [upd_ne hb] at e
      exact (I.hok b u e).stay (fun _ _ _ q => q) (fun c q => by rw [upd_ne (nh c _ q)]; exact q) (fun c xs q => by rw [upd_ne (nh c _ q)]; exact q)
theorem Inv.gone {i : Nat} {x : Str} {h' : Heap} {t' : Nat} {m' : Option Value} {m : Str → Option Value} (I : Inv X pins σ H s) (hN : X.N.Nodup) (hi : X.N[i]? = some x)
    (hl : ∀ (i : Nat) (x : Str) (v : V), X.N[i]? = some x → σ[i]? = some (some v) → Vis X.env.scope x → ∃ u, RelV v u ∧ Look X.env s.heap m x u) (oL : ∃ o, s.heap.get? X.env.locals = some o)
    (hn' : h'.Ns X.env.locals fun y => if y = x then m' else m y) (hs : Heap.SameBut X.env.locals s.heap h') : Inv X pins (σ.set i none) H { s with heap := h', toks := t' } := by
  have hiσ : i < σ.length := by rw [I.len]; exact (List.getElem?_eq_some_iff.mp hi).1
  refine ⟨I.ok, I.os, I.bare, ⟨fun b o e n hb hx => ?_, fun b o e n hb hx => ?_, I.base.free, fun b o e hx => ?_, I.base.tups, I.base.frzs, I.base.tbls⟩, ⟨_, hn', fun j y v' e1 e2 e3 => ?_⟩, fun y c e => ?_, I.free, I.freeC, fun p hp => ?_, fun b ob e => ?_, by simpa using I.len⟩
  · exact (hs.2 b (Nat.ne_of_lt (Nat.lt_of_lt_of_le (Heap.lt_size e) I.ok.above))).trans (I.base.keep b o e n hb hx)
  · obtain ⟨sl, e1⟩ := I.base.slot b o e n hb hx
    exact ⟨sl, (hs.2 b (Nat.ne_of_lt (Nat.lt_of_lt_of_le (Heap.lt_size e) I.ok.above))).trans e1⟩
  · obtain ⟨o', e1⟩ := I.base.there b o e hx
    exact ⟨o', (hs.2 b (Nat.ne_of_lt (Nat.lt_of_lt_of_le (Heap.lt_size e) I.ok.above))).trans e1⟩
  · by_cases hj : j = i
    · subst hj
      rw [List.getElem?_set_self hiσ] at e2
      cases e2
    · rw [List.getElem?_set_ne (Ne.symm hj)] at e2
      obtain ⟨u', r', q⟩ := hl j y v' e1 e2 e3
      refine ⟨u', r', ?_⟩
      rcases q with ⟨k, e⟩ | ⟨k, c, e, z⟩
      · refine .inl ⟨k, ?_⟩
        have : y ≠ x := fun e => hj (nodup_ix hN e1 (e ▸ hi))
        simp [this, e]
      · exact .inr ⟨k, c, e, z.sameBut hs (I.cne y c e)⟩
  · obtain ⟨w', z⟩ := I.cell y c e
    exact ⟨w', z.sameBut hs (I.cne y c e)⟩
  · obtain ⟨e, n, ne, nf, d⟩ := I.pin p hp
    exact ⟨(hs.2 p.1 ne).trans e, n, ne, nf, d⟩
  · refine (I.hok b ob e).stay (fun c w' hc q => (hs.2 c ?_).trans q) (fun _ q => q) fun _ _ q => q
    rintro rfl
    have hf := I.free
    rcases hc with rfl | hc
    · rw [hf] at e; cases e
    · rw [hf] at hc; cases hc
end
noncomputable def tTryAs (C : Addr) (i : Nat) (tb : XK → TS) (th : TS) : TS := fun D σ H => tb (fun cls _ H' => cls = .ref C ∧ ∀ y, H' y = none → th { nx := fun _ _ => False, rt := D.rt } (σ.set i (some (.ref y))) (upd H' y (xo C y))) D σ H
section
variable {X : Cx} {body suite : List Stmt} {b₀ : Stmt} {x n : Str} {C Cc : Addr} {i : Nat} {tb : XK → TS} {th : TS} {np hpos pos : Pos}
theorem ps_tryas (hx0 : X.xe = fun _ _ => False) (hst : X.stack = X.env :: X.outer) (hfr : X.env.frame = some X.env.locals) (hN : X.N.Nodup) (hi : X.N[i]? = some n) (hlo : X.env.scope.names.lookup n = some .local) (hb : ∀ E, PSx X E body (tb E)) (hg : Gl X x) (hm : X.mg x = some (.ref Cc)) (mt : Mat X.K C Cc)
    (hh : ∀ e, PSs (X.hdl e) (b₀ :: suite) th) (hdb : (x == ("__debug__" : Str)) = false := by decide) :
    PS X (.Try body [.ExceptHandler (some (.Name x np)) (some n) (b₀ :: suite) hpos] [] [] pos) (tTryAs C i tb th) := by
  intro pins s σ H D I h
  refine wpAny_Try_except (wpAny_mono (hb _ pins s σ H D I h) (fun fl s1 q => ?_) fun e s1 q => ?_)
  · cases fl with
    | next => exact wpAny_execs_nil q
    | brk => exact q
    | cont => exact q
    | ret u => exact q
  · obtain ⟨H1, s0, I0, y, t, cls, H', B, rfl, os, bare, F, fl, rfl, hth⟩ := q
    have hy0 : s0.heap.get? y = none := by
      cases e : s0.heap.get? y with
      | none => rfl
      | some o =>
        by_cases hy : y ∈ frs X.stack
        · obtain ⟨_, o', e1, hd⟩ := fl.2.2.1.mem hy
          obtain ⟨oe, vs, e2, _, hd2, _⟩ := fl.first
          rw [e1] at e2; cases e2
          exact absurd hd2 (hd vs)
        · obtain ⟨o', e1⟩ := F.there y o e hy
          rw [fl.2.1] at e1; cases e1
    have hyH : H' y = none := by
      cases e : H' y with
      | none => rfl
      | some o =>
        obtain ⟨ob, e1⟩ := (F.hok y o e).here
        rw [fl.2.1] at e1; cases e1
    rw [hst] at fl
    refine wpAny_looks_onW (by rw [I0.ok.frames, hst]) hfr fl fun h4 f4 u4 => ?_
    refine wpAny_landsW f4 fun h5 f5 u5 => ?_
    have fl' : s1.heap.FunFrames B X.stack := by rw [hst]; exact fl.2.2.1
    have F5 := F.on fl' (u4.trans u5)
    have I5 : Inv X pins σ H' { s1 with heap := h5 } := I0.flew os bare F5 f5.1
    obtain ⟨ob, hob, hobc⟩ := f5.there
    refine wpAny_handleBy_cons (codeAny_handlers_test (ld_glob (I5.hdl (.ref y)) hg hm ?_ hdb)) (by intro q; cases q)
    refine mt _ _ _ _ _ y ob I5.kIn hob hobc (codeAny_handlers_suite_as ?_)
    refine lands_againW f5 fun h6 f6 u6 => ?_
    have F6 := F5.on (B' := B) (by rw [hst]; exact f5.2.2.1) u6
    have I6 : Inv X pins σ H' { s1 with heap := h6 } := I0.flew os bare F6 f6.1
    have I7 : Inv X pins σ (upd H' y (xo C y)) { s1 with heap := h6 } := I0.track hy0 I6 (xo_ok (let ⟨o, e, c⟩ := f6.there; ⟨o, e, c⟩)) hyH
    refine store_ok I7 hN hi (.inl hlo) (v := .ref y) rfl (fun s2 I8 => ?_) (.inr hlo)
    refine wpAny_mono (hh (.ref y) pins _ _ _ _ (I8.hdl _) (hth y hyH)) (fun f s3 q => ?_) fun e' s3 z => ?_
    · cases f with
      | next => obtain ⟨_, _, _, z⟩ := q; exact False.elim z
      | brk => obtain ⟨_, _, _, z⟩ := q; exact False.elim z
      | cont => obtain ⟨_, _, _, z⟩ := q; exact False.elim z
      | ret u =>
        obtain ⟨v, σ3, H3, I9, rv, q⟩ := q
        have I9 := I9.unhdl I.ok
        obtain ⟨m, hn, hl⟩ := id I9.loc
        refine wpAny_nameGoes_keeps hlo hn (by rw [I.ok.kind]; rfl) fun h' v' hn' hs => ?_
        refine ⟨v, _, H3, I9.gone hN hi hl ?_ hn' hs, rv, q⟩
        obtain ⟨o, _, _, e, _⟩ := hn
        exact ⟨o, e⟩
    · have z' : X.xe e' s3 := z
      rw [hx0] at z'
      exact False.elim z'
end
end L2
end
section
set_option Elab.async false
set_option linter.all false
set_option maxRecDepth 100000
set_option maxHeartbeats 1000000
namespace L2
open PySem PySem.Spec PySem.Calls PyProof.Rows
noncomputable def tFs (a b : Str) (te : TE) : TE := fun σ H Q => te σ H fun v H1 => ∃ i : Int, v = .int i ∧ i.natAbs.log2 < 1920 ∧ (Str.empty ++ a ++ (toString i : Str)).length ≤ sizeLine ∧ (Str.empty ++ a ++ (toString i : Str) ++ b).length ≤ sizeLine ∧ Q (.str (Str.empty ++ a ++ (toString i : Str) ++ b)) H1
theorem pe_fstr {X : Cx} {e : Expr} {te : TE} {a b : Str} {j1 j2 : Nat} {p1 p2 p3 pos : Pos} (he : PE X e te) (ha : (Str.empty ++ a).length ≤ sizeLine := by decide) : PE X (.JoinedStr [.Constant (.str a) j1 p1, .FormattedValue e (-1) none p2, .Constant (.str b) j2 p3] pos) (tFs a b te) := by
  intro pins s σ H Q I h
  refine JoinedStr_many (joinParts_cons (Calls.Constant_str ⟨ha, ?_⟩))
  refine joinParts_cons (FormattedValue_plain (thn (he pins _ σ H _ (I.tok _) h) fun u s1 ⟨v, H1, I1, r, i, ev, hd, h1, h2, q⟩ => ?_))
  subst ev
  obtain ⟨t, rfl⟩ := r
  refine wpAny_formatField_int hd ⟨h1, ?_⟩
  refine joinParts_cons (Calls.Constant_str ⟨h2, ?_⟩)
  exact joinParts_nil ⟨.str _, H1, ((I1.tok _).tok _).tok _, ⟨_, rfl⟩, q⟩ h2
theorem rd_fs {a b : Str} {te : TE} {σ : St} {H : Hp} {Q : VK} : tFs a b te σ H Q = te σ H fun v H1 => ∃ i : Int, v = .int i ∧ i.natAbs.log2 < 1920 ∧ (Str.empty ++ a ++ (toString i : Str)).length ≤ sizeLine ∧ (Str.empty ++ a ++ (toString i : Str) ++ b).length ≤ sizeLine ∧ Q (.str (Str.empty ++ a ++ (toString i : Str) ++ b)) H1 := rfl
end L2
end
section
set_option Elab.async false
set_option linter.all false
set_option maxRecDepth 100000
namespace CN
open PySem PySem.Builtin PySem.Builtin.Str
noncomputable def repk (p z : List Nat) : Nat → List Nat → List Nat
  | _, [] => []
  | k + 1, _ :: s => repk p z k s
  | 0, c :: s => if p.isPrefixOf (c :: s) then z ++ repk p z (p.length - 1) s else c :: repk p z 0 s
noncomputable def rep (p z s : List Nat) : List Nat := repk p z 0 s
noncomputable def occl (p : List Nat) : Nat → Nat → List Nat → List Nat
  | _, _, [] => []
  | i, k + 1, _ :: s => occl p (i + 1) k s
  | i, 0, c :: s => if p.isPrefixOf (c :: s) then i :: occl p (i + 1) (p.length - 1) s else occl p (i + 1) 0 s
theorem repk_skip (p z : List Nat) : ∀ (k : Nat) (s : List Nat), repk p z k s = repk p z 0 (s.drop k)
  | 0, s => rfl
  | k + 1, [] => rfl
  | k + 1, c :: s => by rw [List.drop_succ_cons, ← repk_skip p z k s]; rfl
theorem occl_skip (p : List Nat) : ∀ (k i : Nat) (s : List Nat), occl p i k s = occl p (i + k) 0 (s.drop k)
  | 0, i, s => rfl
  | k + 1, i, [] => by cases k <;> rfl
  | k + 1, i, c :: s => by
    rw [List.drop_succ_cons, show i + (k + 1) = i + 1 + k by omega, ← occl_skip p k (i + 1) s]; rfl
theorem rep_hit {p z s : List Nat} (h : p ≠ []) : rep p z (p ++ s) = z ++ rep p z s := by
  cases p with
  | nil => exact absurd rfl h
  | cons c p =>
    unfold rep
    show repk (c :: p) z 0 (c :: (p ++ s)) = _
    rw [repk, if_pos (by simp), repk_skip]
    simp
theorem rep_no {p z s : List Nat} {c : Nat} (h : ¬ p <+: c :: s) : rep p z (c :: s) = c :: rep p z s := by
  unfold rep
  rw [repk, if_neg (by rw [List.isPrefixOf_iff_prefix]; exact h)]
theorem rep_nil (p z : List Nat) : rep p z [] = [] := rfl
theorem sub_pre {x y : Str} {i : Nat} : subAt x y i = true ↔ (tx y) <+: (tx x).drop i := by
  rw [StrLaws.subAt_eq, beq_iff_eq]
  show ((tx x).drop i).take (y.length) = tx y ↔ _
  have hy : y.length = (tx y).length := by simp [Str.length, tx]
  rw [hy]
  constructor
  · intro e; rw [← e]; exact List.take_prefix _ _
  · intro h; exact (List.prefix_iff_eq_take.mp h).symm
theorem occ_list {x y : Str} (hy : 0 < (tx y).length) : ∀ (m i f : Nat) (acc : Array Nat), i + m = (tx x).length + 1 → acc.size ≤ i →
    (forIn (List.range' i m) (acc, f) (StrLaws.occBody x y x.length (x.length + 1))).run.fst.toList = acc.toList ++ occl (tx y) i (f - i) ((tx x).drop i)
  | 0, i, f, acc, h, _ => by
    have : (tx x).drop i = [] := List.drop_eq_nil_of_le (by omega)
    rw [this]
    cases f - i <;> simp [occl]
  | m + 1, i, f, acc, h, ha => by
    have hx : x.length = (tx x).length := by simp [Str.length, tx]
    have hyl : y.length = (tx y).length := by simp [Str.length, tx]
    rw [List.range'_succ, List.forIn_cons]
    unfold StrLaws.occBody
    by_cases hi : i < (tx x).length
    · obtain ⟨c, s, e⟩ : ∃ c s, (tx x).drop i = c :: s := ⟨_, _, List.drop_eq_getElem_cons hi⟩
      have e1 : (tx x).drop (i + 1) = s := by rw [← List.drop_drop, e]; rfl
      split
      · rename_i hc
        have hf : f - i = 0 := by have := hc.1.1.2; dsimp only at this; omega
        have hp : (tx y) <+: c :: s := by rw [← e]; exact sub_pre.mp hc.2
        refine (occ_list hy m (i + 1) (i + y.length) (acc.push i) (by omega) (by simp; omega)).trans ?_
        rw [hf, e, occl, if_pos (by rw [List.isPrefixOf_iff_prefix]; exact hp), Array.toList_push, List.append_assoc, e1, show i + y.length - (i + 1) = (tx y).length - 1 by omega]
        rfl
      · rename_i hc
        refine (occ_list hy m (i + 1) f acc (by omega) (by omega)).trans ?_
        rw [e, e1]
        congr 1
        cases hk : f - i with
        | succ k => rw [occl, show f - (i + 1) = k by omega]
        | zero =>
          rw [occl, if_neg, show f - (i + 1) = 0 by omega]
          intro hp
          rw [List.isPrefixOf_iff_prefix, ← e] at hp
          refine hc ⟨⟨⟨by dsimp only; omega, by dsimp only; omega⟩, ?_⟩, sub_pre.mpr hp⟩
          have := hp.length_le
          rw [List.length_drop] at this
          omega
    · have hm : m = 0 := by omega
      subst hm
      have e : (tx x).drop i = [] := List.drop_eq_nil_of_le (by omega)
      rw [if_neg (by intro hc; have := hc.1.2; omega), e]
      cases f - i <;> simp [occl]
theorem tx_sub (x : Str) (a b : Nat) : tx (strSub x a b) = ((tx x).drop a).take (b - a) := StrLaws.strSub_toList x a b
theorem parts_rep {x y z : Str} (hy : 0 < (tx y).length) : ∀ (n a i : Nat), (tx x).length - i = n → a ≤ i → i ≤ (tx x).length →
    tx (Str.join z (StrLaws.partsFrom x y.length a (occl (tx y) i 0 ((tx x).drop i)))) = ((tx x).drop a).take (i - a) ++ rep (tx y) (tx z) ((tx x).drop i) := by
  intro n
  induction n using Nat.strongRecOn with
  | _ n ih =>
    intro a i hn ha hi
    have hx : x.length = (tx x).length := by simp [Str.length, tx]
    have hyl : y.length = (tx y).length := by simp [Str.length, tx]
    by_cases hl : i < (tx x).length
    · obtain ⟨c, s, e⟩ : ∃ c s, (tx x).drop i = c :: s := ⟨_, _, List.drop_eq_getElem_cons hl⟩
      have e1 : (tx x).drop (i + 1) = s := by rw [← List.drop_drop, e]; rfl
      by_cases hp : (tx y) <+: c :: s
      · obtain ⟨t, et⟩ := hp
        have hlen : (tx y).length + t.length = (tx x).length - i := by
          have := congrArg List.length e
          rw [List.length_drop, ← et, List.length_append] at this
          omega
        have e2 : (tx x).drop (i + y.length) = t := by rw [← List.drop_drop, e, ← et, hyl, List.drop_left]
        rw [e, occl, if_pos (by rw [List.isPrefixOf_iff_prefix]; exact ⟨t, et⟩), occl_skip, show i + 1 + ((tx y).length - 1) = i + y.length by omega]
        have e3 : s.drop ((tx y).length - 1) = (tx x).drop (i + y.length) := by rw [← e1, List.drop_drop, show i + 1 + ((tx y).length - 1) = i + y.length by omega]
        rw [e3, StrLaws.partsFrom]
        obtain ⟨q, r, eq⟩ := StrLaws.partsFrom_ne x y.length (i + y.length) (occl (tx y) (i + y.length) 0 ((tx x).drop (i + y.length)))
        have k := ih ((tx x).length - (i + y.length)) (by omega) (i + y.length) (i + y.length) rfl (Nat.le_refl _) (by omega)
        rw [eq] at k ⊢
        rw [show Str.join z (strSub x a i :: q :: r) = strSub x a i ++ z ++ Str.join z (q :: r) from rfl, tx_app, tx_app, tx_sub, k, ← et, rep_hit (by intro z; rw [z] at hy; simp at hy), e2, Nat.sub_self, List.take_zero, List.nil_append, List.append_assoc]
      · have k := ih ((tx x).length - (i + 1)) (by omega) a (i + 1) rfl (by omega) (by omega)
        rw [e, occl, if_neg (by rw [List.isPrefixOf_iff_prefix]; exact hp), ← e1, k, e1, rep_no hp]
        have e4 : ((tx x).drop a).take (i + 1 - a) = ((tx x).drop a).take (i - a) ++ [c] := by
          rw [show i + 1 - a = (i - a) + 1 by omega, List.take_add_one, List.getElem?_drop, show a + (i - a) = i by omega]
          have : (tx x)[i]? = some c := by
            have := congrArg (fun l => l[0]?) e
            simpa [List.getElem?_drop] using this
          rw [this]; rfl
        rw [e4, List.append_assoc]; rfl
    · have hi' : i = (tx x).length := by omega
      subst hi'
      rw [List.drop_length, occl, StrLaws.partsFrom, rep_nil, List.append_nil, show Str.join z [strSub x a x.length] = strSub x a x.length from rfl, tx_sub, hx]
theorem tx_replace {x y z : Str} (hy : 0 < (tx y).length) : tx (Txt.replace x y z) = rep (tx y) (tx z) (tx x) := by
  have hx : x.length = (tx x).length := by simp [Str.length, tx]
  have hyl : y.length = (tx y).length := by simp [Str.length, tx]
  have ho : occurrences x y 0 x.length (x.length + 1) = occl (tx y) 0 0 (tx x) := by
    rw [StrLaws.occ_eq]
    have := occ_list (x := x) (y := y) hy (x.length + 1 - 0) 0 0 #[] (by omega) (Nat.le_refl _)
    simpa using this
  have k := parts_rep (x := x) (y := y) (z := z) hy _ 0 0 rfl (Nat.le_refl _) (Nat.zero_le _)
  rw [Nat.sub_self, List.take_zero, List.nil_append, List.drop_zero] at k
  unfold Txt.replace
  rw [ho]
  split
  · rename_i hc
    have he : occl (tx y) 0 0 (tx x) = [] := by
      rw [Bool.or_eq_true, Bool.and_eq_true] at hc
      rcases hc with hc | hc
      · simpa using hc
      · have := hc.1; simp at this; omega
    rw [he, StrLaws.partsFrom, show Str.join z [strSub x 0 x.length] = strSub x 0 x.length from rfl, StrLaws.sub_whole] at k
    exact k
  · rw [StrLaws.glued_eq_join, StrLaws.partsBetween_eq]
    exact k
end CN
end
section
set_option Elab.async false
set_option linter.all false
set_option maxRecDepth 100000
namespace CN
open PySem
inductive Rdm : List Nat → List Nat → Prop
  | p (s : List Nat) : Rdm (80 :: s) s
  | nt {s r : List Nat} : Rdm s r → Rdm (33 :: s) r
  | pr {s s1 s2 : List Nat} {c : Nat} : Rdm s (c :: s1) → (c = 38 ∨ c = 124) → Rdm s1 (41 :: s2) → Rdm (40 :: s) s2
theorem Rdm.one {s r : List Nat} (h : Rdm s r) : ∀ {t : List Nat}, Rdm s t → r = t := by
  induction h with
  | p s => intro t k; cases k; rfl
  | nt h ih => intro t k; cases k with | nt k => exact ih k
  | pr h hc k i j =>
    intro t q
    cases q with
    | pr q1 qc q2 =>
      have e := i q1
      cases e
      have e := j q2
      cases e
      rfl
inductive Hdl : List Nat → Prop
  | nt : Hdl [33, 80]
  | an : Hdl [40, 80, 38, 80, 41]
  | og : Hdl [40, 80, 124, 80, 41]
theorem Hdl.rd {p : List Nat} (h : Hdl p) (s : List Nat) : Rdm (p ++ s) s := by
  cases h with
  | nt => exact .nt (.p s)
  | an => exact .pr (.p _) (.inl rfl) (.p _)
  | og => exact .pr (.p _) (.inr rfl) (.p _)
theorem Hdl.ne {p : List Nat} (h : Hdl p) : p ≠ [] := by cases h <;> simp
theorem Hdl.hd {p : List Nat} (h : Hdl p) {c : Nat} {s : List Nat} (k : p <+: c :: s) : c = 33 ∨ c = 40 := by
  cases h with
  | nt => obtain ⟨t, e⟩ := k; injection e with e _; exact .inl e.symm
  | an => obtain ⟨t, e⟩ := k; injection e with e _; exact .inr e.symm
  | og => obtain ⟨t, e⟩ := k; injection e with e _; exact .inr e.symm
theorem Hdl.two {p : List Nat} (h : Hdl p) : 2 ≤ p.length := by cases h <;> decide
theorem rep_fw {p : List Nat} (hp : Hdl p) {s r : List Nat} (h : Rdm s r) : Rdm (rep p [80] s) (rep p [80] r) := by
  have hit : ∀ {s r}, Rdm s r → p <+: s → Rdm (rep p [80] s) (rep p [80] r) := fun {s r} h k => by
    obtain ⟨t, rfl⟩ := k
    have e := h.one (hp.rd t)
    subst e
    rw [rep_hit hp.ne]
    exact .p _
  induction h with
  | p s =>
    rw [rep_no fun k => by have := hp.hd k; omega]
    exact .p _
  | @nt s r h ih =>
    by_cases k : p <+: 33 :: s
    · exact hit (.nt h) k
    · rw [rep_no k]; exact .nt ih
  | @pr s s1 s2 c h hc h2 i j =>
    by_cases k : p <+: 40 :: s
    · exact hit (.pr h hc h2) k
    · rw [rep_no k]
      rw [rep_no fun k => by have := hp.hd k; omega] at i
      rw [rep_no fun k => by have := hp.hd k; omega] at j
      exact .pr i hc j
theorem rep_bw {p : List Nat} (hp : Hdl p) {m t : List Nat} (h : Rdm m t) : ∀ {s : List Nat}, m = rep p [80] s → ∃ r, t = rep p [80] r ∧ Rdm s r := by
  have cut : ∀ {s : List Nat} {c : Nat} {u : List Nat}, c :: u = rep p [80] s → (∃ v, s = p ++ v ∧ c = 80 ∧ u = rep p [80] v) ∨ ∃ v, s = c :: v ∧ u = rep p [80] v := fun {s c u} e => by
    cases s with
    | nil => rw [rep_nil] at e; cases e
    | cons d s =>
      by_cases k : p <+: d :: s
      · obtain ⟨v, ev⟩ := k
        rw [← ev, rep_hit hp.ne] at e
        injection e with e1 e2
        exact .inl ⟨v, ev.symm, e1, e2⟩
      · rw [rep_no k] at e
        injection e with e1 e2
        subst e1
        exact .inr ⟨s, rfl, e2⟩
  induction h with
  | p u =>
    intro s e
    rcases cut e with ⟨v, rfl, _, rfl⟩ | ⟨v, rfl, rfl⟩
    · exact ⟨v, rfl, hp.rd v⟩
    · exact ⟨v, rfl, .p v⟩
  | nt h ih =>
    intro s e
    rcases cut e with ⟨v, _, z, _⟩ | ⟨v, rfl, rfl⟩
    · exact absurd z (by decide)
    · obtain ⟨r, e, k⟩ := ih rfl
      exact ⟨r, e, .nt k⟩
  | pr h hc h2 i j =>
    intro s e
    rcases cut e with ⟨v, _, z, _⟩ | ⟨v, rfl, rfl⟩
    · exact absurd z (by decide)
    · obtain ⟨r, e, k⟩ := i rfl
      rcases cut e with ⟨v', _, z, _⟩ | ⟨v', rfl, rfl⟩
      · omega
      · obtain ⟨r2, e2, k2⟩ := j rfl
        rcases cut e2 with ⟨v2, _, z, _⟩ | ⟨v2, rfl, rfl⟩
        · exact absurd z (by decide)
        · exact ⟨v2, rfl, .pr k hc k2⟩
theorem Rdm.more {s r : List Nat} (h : Rdm s r) : s = 80 :: r ∨ ∃ p u v, Hdl p ∧ s = u ++ (p ++ v) := by
  induction h with
  | p s => exact .inl rfl
  | @nt s r h ih =>
    rcases ih with rfl | ⟨p, u, v, hp, rfl⟩
    · exact .inr ⟨_, [], r, .nt, rfl⟩
    · exact .inr ⟨p, 33 :: u, v, hp, rfl⟩
  | @pr s s1 s2 c h hc h2 i j =>
    rcases i with rfl | ⟨p, u, v, hp, rfl⟩
    · rcases j with rfl | ⟨p, u, v, hp, rfl⟩
      · rcases hc with rfl | rfl
        · exact .inr ⟨_, [], s2, .an, rfl⟩
        · exact .inr ⟨_, [], s2, .og, rfl⟩
      · exact .inr ⟨p, 40 :: 80 :: c :: u, v, hp, rfl⟩
    · exact .inr ⟨p, 40 :: u, v, hp, rfl⟩
theorem rep_le {p : List Nat} (hp : Hdl p) : ∀ (n : Nat) (s : List Nat), s.length = n → (rep p [80] s).length ≤ s.length ∧ ((∃ u v, s = u ++ (p ++ v)) → (rep p [80] s).length < s.length) := by
  intro n
  induction n using Nat.strongRecOn with
  | _ n ih =>
    intro s hn
    cases s with
    | nil =>
      refine ⟨Nat.le_refl _, fun ⟨u, v, e⟩ => ?_⟩
      have := congrArg List.length e
      rw [List.length_append, List.length_append] at this
      have := hp.two
      simp at *
      omega
    | cons c s =>
      by_cases k : p <+: c :: s
      · obtain ⟨v, ev⟩ := k
        have hl := congrArg List.length ev
        rw [List.length_append] at hl
        have h2 := hp.two
        rw [← ev, rep_hit hp.ne]
        have := (ih v.length (by rw [← hn]; omega) v rfl).1
        simp only [List.length_append, List.length_cons, List.length_nil]
        exact ⟨by omega, fun _ => by omega⟩
      · rw [rep_no k]
        have i := ih s.length (by rw [← hn]; simp) s rfl
        simp only [List.length_cons]
        refine ⟨by omega, fun ⟨u, v, e⟩ => ?_⟩
        cases u with
        | nil => exact absurd ⟨v, e.symm⟩ k
        | cons d u =>
          injection e with _ e
          have := i.2 ⟨u, v, e⟩
          omega
theorem rep_id {p : List Nat} : ∀ {s : List Nat}, (¬ ∃ u v, s = u ++ (p ++ v)) → rep p [80] s = s
  | [], _ => rfl
  | c :: s, h => by
    rw [rep_no fun ⟨v, e⟩ => h ⟨[], v, e.symm⟩, rep_id fun ⟨u, v, e⟩ => h ⟨c :: u, v, by rw [e]; rfl⟩]
noncomputable def rnd (s : List Nat) : List Nat := rep [40, 80, 124, 80, 41] [80] (rep [40, 80, 38, 80, 41] [80] (rep [33, 80] [80] s))
theorem rnd_iff (s : List Nat) : Rdm (rnd s) [] ↔ Rdm s [] := by
  have one : ∀ {p}, Hdl p → ∀ s, Rdm (rep p [80] s) [] ↔ Rdm s [] := fun {p} hp s => by
    constructor
    · intro h
      obtain ⟨r, e, k⟩ := rep_bw hp h rfl
      cases r with
      | nil => exact k
      | cons c r =>
        by_cases q : p <+: c :: r
        · obtain ⟨v, ev⟩ := q; rw [← ev, rep_hit hp.ne] at e; cases e
        · rw [rep_no q] at e; cases e
    · exact fun h => rep_fw hp h
  unfold rnd
  rw [one .og, one .an, one .nt]
theorem rnd_lt {s : List Nat} (h : Rdm s []) (hs : s ≠ [80]) : (rnd s).length < s.length := by
  rcases h.more with e | ⟨p, u, v, hp, e⟩
  · exact absurd e hs
  · have l1 := rep_le .nt _ s rfl
    have l2 := rep_le .an _ (rep [33, 80] [80] s) rfl
    have l3 := rep_le .og _ (rep [40, 80, 38, 80, 41] [80] (rep [33, 80] [80] s)) rfl
    unfold rnd
    by_cases q1 : ∃ u v, s = u ++ ([33, 80] ++ v)
    · have := l1.2 q1; omega
    · have i1 := rep_id q1
      by_cases q2 : ∃ u v, s = u ++ ([40, 80, 38, 80, 41] ++ v)
      · rw [i1] at l2 l3 ⊢
        have := l2.2 q2; omega
      · have i2 := rep_id q2
        rw [i1, i2] at l3 ⊢
        cases hp with
        | nt => exact absurd ⟨u, v, e⟩ q1
        | an => exact absurd ⟨u, v, e⟩ q2
        | og => exact l3.2 ⟨u, v, e⟩
noncomputable def rnds : Nat → List Nat → List Nat
  | 0, s => s
  | n + 1, s => rnd (rnds n s)
theorem rnds_iff (s : List Nat) : ∀ n, Rdm (rnds n s) [] ↔ Rdm s []
  | 0 => Iff.rfl
  | n + 1 => (rnd_iff _).trans (rnds_iff s n)
theorem rnd_P : rnd [80] = [80] := by decide
theorem rnds_end {s : List Nat} {n : Nat} (hn : s.length ≤ n) : rnds n s = [80] ↔ Rdm s [] := by
  constructor
  · intro e
    rw [← rnds_iff s n, e]; exact .p []
  · intro h
    have key : ∀ k, rnds k s = [80] ∨ (rnds k s).length + k ≤ s.length := fun k => by
      induction k with
      | zero => exact .inr (Nat.le_refl _)
      | succ k ih =>
        rcases ih with e | ih
        · exact .inl (by show rnd (rnds k s) = _; rw [e, rnd_P])
        · by_cases q : rnds k s = [80]
          · exact .inl (by show rnd (rnds k s) = _; rw [q, rnd_P])
          · have := rnd_lt ((rnds_iff s k).mpr h) q
            exact .inr (by show (rnd (rnds k s)).length + (k + 1) ≤ _; omega)
    rcases key n with e | e
    · exact e
    · have : rnds n s = [] := List.length_eq_zero_iff.mp (by omega)
      have k := (rnds_iff s n).mpr h
      rw [this] at k
      cases k
end CN
end
section
set_option Elab.async false
set_option linter.all false
set_option maxRecDepth 100000
namespace CN
open PySem
noncomputable def dgb (c : Nat) : Bool := decide (48 ≤ c) && decide (c ≤ 57)
theorem dgb_iff {c : Nat} : dgb c = true ↔ 48 ≤ c ∧ c ≤ 57 := by unfold dgb; simp
noncomputable def vd : List Nat → Bool
  | [] => false
  | c :: ds => c != 48 || ds.isEmpty
noncomputable def sgs : List Nat := [40, 41, 38, 124, 33, 65, 83, 46, 89, 78]
theorem figs_vd (m : Nat) : vd (figs m) = true := by
  obtain ⟨c, r, e, h⟩ := figs_head m
  rcases h with h | h
  · subst h; rw [figs_zero]; rfl
  · rw [e]; simp [vd, h]
theorem figs_of : ∀ (n : Nat) (ds : List Nat), ds.length = n → (∀ c ∈ ds, 48 ≤ c ∧ c ≤ 57) → vd ds = true → ∃ m, figs m = ds := by
  intro n
  induction n with
  | zero => intro ds h _ hv; rw [List.length_eq_zero_iff.mp h] at hv; cases hv
  | succ n ih =>
    intro ds h hd hv
    have hne : ds ≠ [] := by intro z; rw [z] at h; cases h
    obtain ⟨ini, d, rfl⟩ : ∃ ini d, ds = ini ++ [d] := ⟨_, _, (List.dropLast_concat_getLast hne).symm⟩
    have hdd := hd d (by simp)
    cases ini with
    | nil =>
      refine ⟨d - 48, ?_⟩
      rw [figs_small (by omega)]
      simp; omega
    | cons c cs =>
      have hc : c ≠ 48 := by simpa [vd] using hv
      obtain ⟨m, hm⟩ := ih (c :: cs) (by simp at h ⊢; omega) (fun x hx => hd x (List.mem_append_left _ hx)) (by simp [vd, hc])
      have hm0 : m ≠ 0 := fun z => by rw [z, figs_zero] at hm; injection hm with hm _; exact hc hm.symm
      refine ⟨10 * m + (d - 48), ?_⟩
      rw [figs_big (by omega), show (10 * m + (d - 48)) / 10 = m by omega, show (10 * m + (d - 48)) % 10 = d - 48 by omega, hm]
      congr 1
      simp; omega
noncomputable def tok : List Nat → List Nat
  | [] => []
  | c :: s => if dgb c = true then (if vd (c :: s.takeWhile dgb) = true then 68 else 63) :: tok (s.dropWhile dgb) else (if c ∈ sgs then c else 63) :: tok s
termination_by s => s.length
decreasing_by
  · have := (List.dropWhile_sublist dgb (l := s)).length_le; simp; omega
  · simp
theorem tok_nil : tok [] = [] := by rw [tok]
theorem tok_sg {c : Nat} {s : List Nat} (h : c ∈ sgs) : tok (c :: s) = c :: tok s := by
  rw [tok, if_neg, if_pos h]
  intro z
  rw [dgb_iff] at z
  simp only [sgs, List.mem_cons, List.not_mem_nil, or_false] at h
  omega
theorem take_figs {ds t : List Nat} (h : ∀ c ∈ ds, 48 ≤ c ∧ c ≤ 57) (ht : NoFig t) : (ds ++ t).takeWhile dgb = ds ∧ (ds ++ t).dropWhile dgb = t := by
  have h0 : t.takeWhile dgb = [] ∧ t.dropWhile dgb = t := by
    rcases ht with rfl | ⟨c, r, rfl, hc⟩
    · exact ⟨rfl, rfl⟩
    · have : dgb c = false := by
        cases q : dgb c with
        | false => rfl
        | true => exact absurd (dgb_iff.mp q) hc
      exact ⟨by rw [List.takeWhile_cons, this]; rfl, by rw [List.dropWhile_cons, this]; rfl⟩
  induction ds with
  | nil => exact h0
  | cons d ds ih =>
    have i := ih fun c hc => h c (List.mem_cons_of_mem _ hc)
    have hd : dgb d = true := dgb_iff.mpr (h d List.mem_cons_self)
    rw [List.cons_append, List.takeWhile_cons, List.dropWhile_cons, hd]
    exact ⟨by simp [i.1], by simpa using i.2⟩
theorem tok_figs {ds t : List Nat} (h : ∀ c ∈ ds, 48 ≤ c ∧ c ≤ 57) (ht : NoFig t) (hv : vd ds = true) : tok (ds ++ t) = 68 :: tok t := by
  cases ds with
  | nil => cases hv
  | cons d ds =>
    have i := take_figs (fun c hc => h c (List.mem_cons_of_mem _ hc)) ht
    rw [List.cons_append, tok, if_pos (dgb_iff.mpr (h d List.mem_cons_self)), i.1, i.2, if_pos hv]
theorem drop_nofig (s : List Nat) : NoFig (s.dropWhile dgb) := by
  induction s with
  | nil => exact .inl rfl
  | cons c s ih =>
    rw [List.dropWhile_cons]
    split
    · exact ih
    · rename_i h
      exact .inr ⟨c, s, rfl, fun z => h (dgb_iff.mpr z)⟩
theorem take_all (s : List Nat) : ∀ c ∈ s.takeWhile dgb, 48 ≤ c ∧ c ≤ 57 := by
  induction s with
  | nil => intro c h; cases h
  | cons d s ih =>
    rw [List.takeWhile_cons]
    split
    · rename_i h
      intro c hc
      rcases List.mem_cons.mp hc with rfl | hc
      · exact dgb_iff.mp h
      · exact ih c hc
    · intro c h; cases h
noncomputable def pm (c : Nat) : Nat := if c = 89 ∨ c = 78 ∨ c = 68 then 80 else c
noncomputable def norm : List Nat → List Nat
  | [] => []
  | c :: s => if (c = 65 ∨ c = 83) ∧ [68, 46] <+: s then 33 :: norm (s.drop 2) else pm c :: norm s
termination_by s => s.length
decreasing_by
  · simp; omega
  · simp
theorem norm_nil : norm [] = [] := by rw [norm]
theorem norm_hit {c : Nat} {s : List Nat} (h : c = 65 ∨ c = 83) : norm (c :: 68 :: 46 :: s) = 33 :: norm s := by
  rw [norm, if_pos ⟨h, ⟨s, rfl⟩⟩]; rfl
theorem norm_no {c : Nat} {s : List Nat} (h : ¬ (c = 65 ∨ c = 83)) : norm (c :: s) = pm c :: norm s := by
  rw [norm, if_neg fun z => h z.1]
noncomputable def nn : Stm → Prop
  | .yes => True | .no => True | .sw n => 0 ≤ n
  | .nt a => nn a | .an a b => nn a ∧ nn b | .og a b => nn a ∧ nn b
  | .al n a => 0 ≤ n ∧ nn a | .sm n a => 0 ≤ n ∧ nn a
theorem tx_an (a b : Stm) : tx (line (.an a b)) = 40 :: (tx (line a) ++ 38 :: (tx (line b) ++ [41])) := tx_two true a b
theorem tx_og (a b : Stm) : tx (line (.og a b)) = 40 :: (tx (line a) ++ 124 :: (tx (line b) ++ [41])) := tx_two false a b
theorem nofig_of {c : Nat} {s : List Nat} (h : ¬ (48 ≤ c ∧ c ≤ 57)) : NoFig (c :: s) := .inr ⟨c, s, rfl, h⟩
theorem nt_sg {c : Nat} {s : List Nat} (h : c ∈ sgs) (h2 : ¬ (c = 65 ∨ c = 83)) : norm (tok (c :: s)) = pm c :: norm (tok s) := by rw [tok_sg h, norm_no h2]
theorem rd_fw : ∀ {a : Stm}, nn a → ∀ {t : List Nat}, NoFig t → Rdm (norm (tok (tx (line a) ++ t))) (norm (tok t)) := by
  intro a
  induction a with
  | yes => intro _ t ht; rw [tx_yes, List.cons_append, nt_sg (by decide) (by decide)]; exact .p _
  | no => intro _ t ht; rw [tx_no, List.cons_append, nt_sg (by decide) (by decide)]; exact .p _
  | sw n =>
    intro h t ht
    rw [show line (.sw n) = numS n from rfl, tx_num h, tok_figs (figs_all _) ht (figs_vd _), norm_no (by decide)]
    exact .p _
  | nt a ih => intro h t ht; rw [tx_nt, List.cons_append, nt_sg (by decide) (by decide)]; exact .nt (ih h ht)
  | an a b i j =>
    intro h t ht
    rw [tx_an, List.cons_append, nt_sg (by decide) (by decide), List.append_assoc, List.cons_append]
    have i1 := i h.1 (t := 38 :: (tx (line b) ++ [41] ++ t)) (nofig_of (by decide))
    rw [nt_sg (c := 38) (by decide) (by decide)] at i1
    have j1 := j h.2 (t := 41 :: t) (nofig_of (by decide))
    rw [nt_sg (c := 41) (by decide) (by decide)] at j1
    exact .pr i1 (.inl rfl) (by simpa [pm] using j1)
  | og a b i j =>
    intro h t ht
    rw [tx_og, List.cons_append, nt_sg (by decide) (by decide), List.append_assoc, List.cons_append]
    have i1 := i h.1 (t := 124 :: (tx (line b) ++ [41] ++ t)) (nofig_of (by decide))
    rw [nt_sg (c := 124) (by decide) (by decide)] at i1
    have j1 := j h.2 (t := 41 :: t) (nofig_of (by decide))
    rw [nt_sg (c := 41) (by decide) (by decide)] at j1
    exact .pr i1 (.inr rfl) (by simpa [pm] using j1)
  | al n a ih =>
    intro h t ht
    rw [tx_al, tx_num h.1, List.cons_append, List.append_assoc, List.cons_append, tok_sg (by decide), tok_figs (figs_all _) (nofig_of (by decide)) (figs_vd _), tok_sg (by decide), norm_hit (.inl rfl)]
    exact .nt (ih h.2 ht)
  | sm n a ih =>
    intro h t ht
    rw [tx_sm, tx_num h.1, List.cons_append, List.append_assoc, List.cons_append, tok_sg (by decide), tok_figs (figs_all _) (nofig_of (by decide)) (figs_vd _), tok_sg (by decide), norm_hit (.inr rfl)]
    exact .nt (ih h.2 ht)
theorem tok_inv {s : List Nat} {d : Nat} {m : List Nat} (h : d :: m = tok s) :
    (∃ ds t, d = 68 ∧ s = ds ++ t ∧ (∀ c ∈ ds, 48 ≤ c ∧ c ≤ 57) ∧ vd ds = true ∧ m = tok t) ∨ (d ∈ sgs ∧ ∃ t, s = d :: t ∧ m = tok t) ∨ d = 63 := by
  cases s with
  | nil => rw [tok_nil] at h; cases h
  | cons c s =>
    rw [tok] at h
    by_cases hc : dgb c = true
    · rw [if_pos hc] at h
      injection h with h1 h2
      by_cases hv : vd (c :: s.takeWhile dgb) = true
      · rw [if_pos hv] at h1
        refine .inl ⟨c :: s.takeWhile dgb, s.dropWhile dgb, h1, by rw [List.cons_append, List.takeWhile_append_dropWhile], fun x hx => ?_, hv, h2⟩
        rcases List.mem_cons.mp hx with rfl | hx
        · exact dgb_iff.mp hc
        · exact take_all s x hx
      · rw [if_neg hv] at h1
        exact .inr (.inr h1)
    · rw [if_neg hc] at h
      injection h with h1 h2
      by_cases hs : c ∈ sgs
      · rw [if_pos hs] at h1
        subst h1
        exact .inr (.inl ⟨hs, s, rfl, h2⟩)
      · rw [if_neg hs] at h1
        exact .inr (.inr h1)
theorem norm_inv {d : Nat} {m s : List Nat} (h : d :: m = norm s) : (d = 33 ∧ ∃ c t, (c = 65 ∨ c = 83) ∧ s = c :: 68 :: 46 :: t ∧ m = norm t) ∨ ∃ c t, s = c :: t ∧ d = pm c ∧ m = norm t := by
  cases s with
  | nil => rw [norm_nil] at h; cases h
  | cons c s =>
    rw [norm] at h
    by_cases k : (c = 65 ∨ c = 83) ∧ [68, 46] <+: s
    · rw [if_pos k] at h
      injection h with h1 h2
      obtain ⟨hc, t, rfl⟩ := k
      exact .inl ⟨h1, c, t, hc, rfl, h2⟩
    · rw [if_neg k] at h
      injection h with h1 h2
      exact .inr ⟨c, s, rfl, h1, h2⟩
theorem pm_sg {c d : Nat} (h : pm c = d) (hd : d ≠ 80) : c = d := by
  unfold pm at h
  split at h
  · exact absurd h.symm hd
  · exact h
theorem num_of {ds : List Nat} (h : ∀ c ∈ ds, 48 ≤ c ∧ c ≤ 57) (hv : vd ds = true) : ∃ n : Int, 0 ≤ n ∧ tx (numS n) = ds := by
  obtain ⟨m, hm⟩ := figs_of _ ds rfl h hv
  exact ⟨(m : Int), by omega, by rw [tx_num (by omega), Int.toNat_natCast, hm]⟩
theorem one_sg {c : Nat} {t' s m : List Nat} (e : c :: m = norm (tok s)) (hc : c ≠ 80) (h33 : c ≠ 33) (h63 : c ≠ 63) (h68 : c ≠ 68) : ∃ t, s = c :: t ∧ m = norm (tok t) := by
  rcases norm_inv e with ⟨z, _⟩ | ⟨d, t, et, ed, em⟩
  · exact absurd z h33
  · have := pm_sg ed.symm hc
    subst this
    rcases tok_inv et.symm with ⟨ds, t2, z, _⟩ | ⟨_, t2, rfl, rfl⟩ | z
    · exact absurd z h68
    · exact ⟨t2, rfl, em⟩
    · exact absurd z h63
theorem rd_bw {m r : List Nat} (h : Rdm m r) : ∀ {s : List Nat}, m = norm (tok s) → ∃ a t, nn a ∧ s = tx (line a) ++ t ∧ r = norm (tok t) := by
  induction h with
  | p r =>
    intro s e
    rcases norm_inv e with ⟨z, _⟩ | ⟨d, t, et, ed, em⟩
    · exact absurd z (by decide)
    · have hd : d = 89 ∨ d = 78 ∨ d = 68 ∨ d = 80 := by
        unfold pm at ed
        split at ed
        · omega
        · exact .inr (.inr (.inr ed.symm))
      rcases tok_inv et.symm with ⟨ds, t2, rfl, rfl, hds, hv, rfl⟩ | ⟨hs, t2, rfl, rfl⟩ | rfl
      · obtain ⟨n, hn, en⟩ := num_of hds hv
        exact ⟨.sw n, t2, hn, by rw [← en]; rfl, em⟩
      · rcases hd with rfl | rfl | rfl | rfl
        · exact ⟨.yes, t2, trivial, by rw [tx_yes]; rfl, em⟩
        · exact ⟨.no, t2, trivial, by rw [tx_no]; rfl, em⟩
        · exact absurd hs (by decide)
        · exact absurd hs (by decide)
      · omega
  | nt h ih =>
    intro s e
    rcases norm_inv e with ⟨_, c, t, hc, et, em⟩ | ⟨d, t, et, ed, em⟩
    · rcases tok_inv et.symm with ⟨ds, t2, z, _⟩ | ⟨hs, t2, rfl, e2⟩ | z
      · omega
      · rcases tok_inv e2 with ⟨ds, t3, _, rfl, hds, hv, e3⟩ | ⟨z, _⟩ | z
        · rcases tok_inv e3 with ⟨_, _, z, _⟩ | ⟨_, t4, rfl, rfl⟩ | z
          · exact absurd z (by decide)
          · obtain ⟨a, t5, ha, rfl, er⟩ := ih em
            obtain ⟨n, hn, en⟩ := num_of hds hv
            rcases hc with rfl | rfl
            · exact ⟨.al n a, t5, ⟨hn, ha⟩, by rw [tx_al, en]; simp, er⟩
            · exact ⟨.sm n a, t5, ⟨hn, ha⟩, by rw [tx_sm, en]; simp, er⟩
          · exact absurd z (by decide)
        · exact absurd z (by decide)
        · exact absurd z (by decide)
      · omega
    · have := pm_sg ed.symm (by decide)
      subst this
      rcases tok_inv et.symm with ⟨_, _, z, _⟩ | ⟨_, t2, rfl, rfl⟩ | z
      · exact absurd z (by decide)
      · obtain ⟨a, t5, ha, rfl, er⟩ := ih em
        exact ⟨.nt a, t5, ha, by rw [tx_nt]; rfl, er⟩
      · exact absurd z (by decide)
  | pr h hc h2 i j =>
    intro s e
    obtain ⟨t, rfl, em⟩ := one_sg (t' := []) e (by decide) (by decide) (by decide) (by decide)
    obtain ⟨a, t1, ha, rfl, e1⟩ := i em
    obtain ⟨t2, rfl, e2⟩ := one_sg (t' := []) e1 (by omega) (by omega) (by omega) (by omega)
    obtain ⟨b, t3, hb, rfl, e3⟩ := j e2
    obtain ⟨t4, rfl, e4⟩ := one_sg (t' := []) e3 (by decide) (by decide) (by decide) (by decide)
    rcases hc with rfl | rfl
    · exact ⟨.an a b, t4, ⟨ha, hb⟩, by rw [tx_an]; simp, e4⟩
    · exact ⟨.og a b, t4, ⟨ha, hb⟩, by rw [tx_og]; simp, e4⟩
noncomputable def Wf (L : List Nat) : Prop := ∃ a, nn a ∧ L = tx (line a)
theorem wf_iff (L : List Nat) : Rdm (norm (tok L)) [] ↔ Wf L := by
  constructor
  · intro h
    obtain ⟨a, t, ha, e, et⟩ := rd_bw h rfl
    have : t = [] := by
      cases t with
      | nil => rfl
      | cons c t =>
        exfalso
        have : tok (c :: t) ≠ [] := by rw [tok]; split <;> simp
        cases q : tok (c :: t) with
        | nil => exact this q
        | cons d m => rw [q, norm] at et; split at et <;> cases et
    subst this
    exact ⟨a, ha, by simpa using e⟩
  · rintro ⟨a, ha, rfl⟩
    have := rd_fw ha (t := []) (.inl rfl)
    rw [List.append_nil, tok_nil, norm_nil] at this
    exact this
theorem tok_len : ∀ (n : Nat) (s : List Nat), s.length = n → (tok s).length ≤ s.length := by
  intro n
  induction n using Nat.strongRecOn with
  | _ n ih =>
    intro s hn
    cases s with
    | nil => rw [tok_nil]; exact Nat.le_refl _
    | cons c s =>
      have h1 := (List.dropWhile_sublist dgb (l := s)).length_le
      rw [tok]
      simp only [List.length_cons] at hn ⊢
      split
      · have := ih (s.dropWhile dgb).length (by omega) _ rfl
        simp only [List.length_cons]; omega
      · have := ih s.length (by omega) s rfl
        simp only [List.length_cons]; omega
theorem norm_len : ∀ (n : Nat) (s : List Nat), s.length = n → (norm s).length ≤ s.length := by
  intro n
  induction n using Nat.strongRecOn with
  | _ n ih =>
    intro s hn
    cases s with
    | nil => rw [norm_nil]; exact Nat.le_refl _
    | cons c s =>
      rw [norm]
      simp only [List.length_cons] at hn ⊢
      split
      · have := ih (s.drop 2).length (by rw [List.length_drop]; omega) _ rfl
        rw [List.length_drop] at this
        simp only [List.length_cons]; omega
      · have := ih s.length (by omega) s rfl
        simp only [List.length_cons]; omega
theorem rep_one (a z : Nat) : ∀ s : List Nat, rep [a] [z] s = s.map fun c => if c = a then z else c
  | [] => rfl
  | c :: s => by
    by_cases h : c = a
    · subst h
      rw [show c :: s = [c] ++ s from rfl, rep_hit (by simp), rep_one c z s]
      simp
    · rw [rep_no (by intro k; have := (List.cons_prefix_cons.mp k).1; exact h this.symm), rep_one a z s]
      simp [h]
theorem rep3_pre {c : Nat} (h : c ≠ 68 ∧ c ≠ 46) (s : List Nat) : [68, 46] <+: rep [c, 68, 46] [33] s ↔ [68, 46] <+: s := by
  cases s with
  | nil => exact Iff.rfl
  | cons d s =>
    by_cases k : [c, 68, 46] <+: d :: s
    · obtain ⟨t, e⟩ := k
      rw [← e, rep_hit (by simp)]
      constructor
      · intro z; have := (List.cons_prefix_cons.mp z).1; omega
      · intro z; have := (List.cons_prefix_cons.mp z).1; omega
    · rw [rep_no k, List.cons_prefix_cons, List.cons_prefix_cons]
      refine and_congr_right fun _ => ?_
      cases s with
      | nil => exact Iff.rfl
      | cons d2 s =>
        by_cases k2 : [c, 68, 46] <+: d2 :: s
        · obtain ⟨t, e⟩ := k2
          rw [← e, rep_hit (by simp)]
          constructor
          · intro z; have := (List.cons_prefix_cons.mp z).1; omega
          · intro z; have := (List.cons_prefix_cons.mp z).1; omega
        · rw [rep_no k2, List.cons_prefix_cons, List.cons_prefix_cons]
          simp
theorem norm_eq : ∀ (n : Nat) (s : List Nat), s.length = n → rep [68] [80] (rep [78] [80] (rep [89] [80] (rep [83, 68, 46] [33] (rep [65, 68, 46] [33] s)))) = norm s := by
  have m : ∀ s : List Nat, rep [68] [80] (rep [78] [80] (rep [89] [80] s)) = s.map pm := fun s => by
    rw [rep_one, rep_one, rep_one, List.map_map, List.map_map]
    refine List.map_congr_left fun c _ => ?_
    simp only [Function.comp, pm]
    by_cases h1 : c = 89
    · simp [h1]
    · by_cases h2 : c = 78
      · simp [h2]
      · by_cases h3 : c = 68
        · simp [h3]
        · simp [h1, h2, h3]
  intro n
  induction n using Nat.strongRecOn with
  | _ n ih =>
    intro s hn
    rw [m]
    cases s with
    | nil => rw [norm_nil]; rfl
    | cons c s =>
      simp only [List.length_cons] at hn
      by_cases k : (c = 65 ∨ c = 83) ∧ [68, 46] <+: s
      · obtain ⟨hc, t, rfl⟩ := k
        have i := ih t.length (by simp at hn; omega) t rfl
        rw [m] at i
        rw [show c :: ([68, 46] ++ t) = c :: 68 :: 46 :: t from rfl, norm_hit hc, ← i]
        rcases hc with rfl | rfl
        · rw [show 65 :: 68 :: 46 :: t = [65, 68, 46] ++ t from rfl, rep_hit (by simp), List.cons_append, List.nil_append, rep_no (by intro z; have := (List.cons_prefix_cons.mp z).1; omega)]
          simp [pm]
        · rw [rep_no (p := [65, 68, 46]) (by intro z; have := (List.cons_prefix_cons.mp z).1; omega), rep_no (p := [65, 68, 46]) (by intro z; have := (List.cons_prefix_cons.mp z).1; omega), rep_no (p := [65, 68, 46]) (by intro z; have := (List.cons_prefix_cons.mp z).1; omega)]
          rw [show 83 :: 68 :: 46 :: rep [65, 68, 46] [33] t = [83, 68, 46] ++ rep [65, 68, 46] [33] t from rfl, rep_hit (by simp)]
          simp [pm]
      · have i := ih s.length (by omega) s rfl
        rw [m] at i
        rw [norm, if_neg k, ← i]
        have k1 : ¬ [65, 68, 46] <+: c :: s := fun z => by
          have e := (List.cons_prefix_cons.mp z).1
          exact k ⟨.inl e.symm, (List.cons_prefix_cons.mp z).2⟩
        have k2 : ¬ [83, 68, 46] <+: c :: rep [65, 68, 46] [33] s := fun z => by
          have e := (List.cons_prefix_cons.mp z).1
          exact k ⟨.inr e.symm, (rep3_pre (by decide) s).mp (List.cons_prefix_cons.mp z).2⟩
        rw [rep_no k1, rep_no k2, List.map_cons]
end CN
end
section
set_option Elab.async false
set_option linter.all false
set_option maxRecDepth 100000
namespace CN
open PySem
inductive Fq where
  | nt | op | sd (c : Bool) (a : Stm) | al (n : Int) | sm (n : Int)
noncomputable def consT : List Fq → List Nat
  | [] => []
  | .nt :: g => consT g ++ [33]
  | .op :: g => consT g ++ [40]
  | .sd c a :: g => consT g ++ 40 :: (tx (line a) ++ [sg c])
  | .al n :: g => consT g ++ 65 :: (tx (numS n) ++ [46])
  | .sm n :: g => consT g ++ 83 :: (tx (numS n) ++ [46])
noncomputable def WE : List Fq → List Nat → Prop
  | [], s => s = []
  | .op :: g, s => ∃ c s' d s'', s = sg c :: s' ∧ nn d ∧ s' = tx (line d) ++ 41 :: s'' ∧ WE g s''
  | .sd _ _ :: g, s => ∃ s', s = 41 :: s' ∧ WE g s'
  | .nt :: g, s => WE g s
  | .al _ :: g, s => WE g s
  | .sm _ :: g, s => WE g s
noncomputable def W (gs : List Fq) (s : List Nat) : Prop := ∃ a s', nn a ∧ s = tx (line a) ++ s' ∧ WE gs s'
theorem WE_nofig : ∀ {gs : List Fq} {s : List Nat}, WE gs s → NoFig s
  | [], s, h => .inl h
  | .op :: g, s, h => by
    obtain ⟨c, s', d, s'', rfl, _⟩ := h
    exact nofig_of (by cases c <;> decide)
  | .sd _ _ :: g, s, h => by
    obtain ⟨s', rfl, _⟩ := h
    exact nofig_of (by decide)
  | .nt :: g, s, h => WE_nofig (gs := g) h
  | .al _ :: g, s, h => WE_nofig (gs := g) h
  | .sm _ :: g, s, h => WE_nofig (gs := g) h
theorem wq_start {L : List Nat} (h : Wf L) : W [] L := by
  obtain ⟨a, ha, rfl⟩ := h
  exact ⟨a, [], ha, by simp, rfl⟩
theorem line_cases {a : Stm} (ha : nn a) {c : Nat} {s rest : List Nat} (e : c :: s = tx (line a) ++ rest) :
    (c = 89 ∧ a = .yes ∧ s = rest) ∨ (c = 78 ∧ a = .no ∧ s = rest) ∨ (c = 33 ∧ ∃ b, a = .nt b ∧ s = tx (line b) ++ rest) ∨
    (c = 40 ∧ ∃ k b d, a = two k b d ∧ s = tx (line b) ++ sg k :: (tx (line d) ++ 41 :: rest)) ∨ (c = 65 ∧ ∃ n b, a = .al n b ∧ s = tx (numS n) ++ 46 :: (tx (line b) ++ rest)) ∨
    (c = 83 ∧ ∃ n b, a = .sm n b ∧ s = tx (numS n) ++ 46 :: (tx (line b) ++ rest)) ∨ ((48 ≤ c ∧ c ≤ 57) ∧ ∃ n, a = .sw n) := by
  cases a with
  | yes => rw [tx_yes] at e; injection e with e1 e2; exact .inl ⟨e1, rfl, e2⟩
  | no => rw [tx_no] at e; injection e with e1 e2; exact .inr (.inl ⟨e1, rfl, e2⟩)
  | nt b => rw [tx_nt, List.cons_append] at e; injection e with e1 e2; exact .inr (.inr (.inl ⟨e1, b, rfl, e2⟩))
  | an b d => rw [tx_an, List.cons_append] at e; injection e with e1 e2; exact .inr (.inr (.inr (.inl ⟨e1, true, b, d, rfl, by rw [e2]; simp [sg]⟩)))
  | og b d => rw [tx_og, List.cons_append] at e; injection e with e1 e2; exact .inr (.inr (.inr (.inl ⟨e1, false, b, d, rfl, by rw [e2]; simp [sg]⟩)))
  | al n b => rw [tx_al, List.cons_append] at e; injection e with e1 e2; exact .inr (.inr (.inr (.inr (.inl ⟨e1, n, b, rfl, by rw [e2]; simp⟩))))
  | sm n b => rw [tx_sm, List.cons_append] at e; injection e with e1 e2; exact .inr (.inr (.inr (.inr (.inr (.inl ⟨e1, n, b, rfl, by rw [e2]; simp⟩)))))
  | sw n =>
    rw [show line (.sw n) = numS n from rfl, tx_num ha] at e
    obtain ⟨d, r, ed, _⟩ := figs_head n.toNat
    have hd := figs_all n.toNat d (by rw [ed]; exact List.mem_cons_self)
    rw [ed, List.cons_append] at e
    injection e with e1 _
    exact .inr (.inr (.inr (.inr (.inr (.inr ⟨by rw [e1]; exact hd, n, rfl⟩)))))
theorem two_nn {k : Bool} {b d : Stm} (h : nn (two k b d)) : nn b ∧ nn d := by cases k <;> exact h
theorem wq_nt {gs : List Fq} {s : List Nat} (h : W gs (33 :: s)) : W (.nt :: gs) s := by
  obtain ⟨a, r, ha, e, hr⟩ := h
  rcases line_cases ha e with ⟨z, _⟩ | ⟨z, _⟩ | ⟨_, b, rfl, eb⟩ | ⟨z, _⟩ | ⟨z, _⟩ | ⟨z, _⟩ | ⟨z, _⟩
  · omega
  · omega
  · exact ⟨b, r, ha, eb, hr⟩
  · omega
  · omega
  · omega
  · omega
theorem wq_op {gs : List Fq} {s : List Nat} (h : W gs (40 :: s)) : W (.op :: gs) s := by
  obtain ⟨a, r, ha, e, hr⟩ := h
  rcases line_cases ha e with ⟨z, _⟩ | ⟨z, _⟩ | ⟨z, _⟩ | ⟨_, k, b, d, rfl, eb⟩ | ⟨z, _⟩ | ⟨z, _⟩ | ⟨z, _⟩
  · omega
  · omega
  · omega
  · exact ⟨b, _, (two_nn ha).1, eb, k, _, d, r, rfl, (two_nn ha).2, rfl, hr⟩
  · omega
  · omega
  · omega
theorem wq_al {gs : List Fq} {s : List Nat} (h : W gs (65 :: s)) : ∃ n s', 0 ≤ n ∧ s = tx (numS n) ++ 46 :: s' ∧ ∀ m, W (.al m :: gs) s' := by
  obtain ⟨a, r, ha, e, hr⟩ := h
  rcases line_cases ha e with ⟨z, _⟩ | ⟨z, _⟩ | ⟨z, _⟩ | ⟨z, _⟩ | ⟨_, n, b, rfl, eb⟩ | ⟨z, _⟩ | ⟨z, _⟩
  · omega
  · omega
  · omega
  · omega
  · exact ⟨n, _, ha.1, eb, fun m => ⟨b, r, ha.2, rfl, hr⟩⟩
  · omega
  · omega
theorem wq_sm {gs : List Fq} {s : List Nat} (h : W gs (83 :: s)) : ∃ n s', 0 ≤ n ∧ s = tx (numS n) ++ 46 :: s' ∧ ∀ m, W (.sm m :: gs) s' := by
  obtain ⟨a, r, ha, e, hr⟩ := h
  rcases line_cases ha e with ⟨z, _⟩ | ⟨z, _⟩ | ⟨z, _⟩ | ⟨z, _⟩ | ⟨z, _⟩ | ⟨_, n, b, rfl, eb⟩ | ⟨z, _⟩
  · omega
  · omega
  · omega
  · omega
  · omega
  · exact ⟨n, _, ha.1, eb, fun m => ⟨b, r, ha.2, rfl, hr⟩⟩
  · omega
theorem wq_yn {gs : List Fq} {c : Nat} {s : List Nat} (hc : c = 89 ∨ c = 78) (h : W gs (c :: s)) : WE gs s := by
  obtain ⟨a, r, ha, e, hr⟩ := h
  rcases line_cases ha e with ⟨_, _, rfl⟩ | ⟨_, _, rfl⟩ | ⟨z, _⟩ | ⟨z, _⟩ | ⟨z, _⟩ | ⟨z, _⟩ | ⟨z, _⟩
  · exact hr
  · exact hr
  · omega
  · omega
  · omega
  · omega
  · omega
theorem wq_sw {gs : List Fq} {s : List Nat} (hs : ∀ c r, s = c :: r → c ≠ 33 ∧ c ≠ 40 ∧ c ≠ 65 ∧ c ≠ 83 ∧ c ≠ 89 ∧ c ≠ 78) (h : W gs s) : ∃ n t, 0 ≤ n ∧ s = tx (numS n) ++ t ∧ WE gs t := by
  obtain ⟨a, r, ha, e, hr⟩ := h
  cases s with
  | nil =>
    exfalso
    have : tx (line a) = [] := (List.append_eq_nil_iff.mp e.symm).1
    have h0 : ∃ c u, tx (line a) = c :: u := by
      cases a with
      | yes => exact ⟨_, _, tx_yes⟩
      | no => exact ⟨_, _, tx_no⟩
      | nt b => exact ⟨_, _, tx_nt b⟩
      | an b d => exact ⟨_, _, tx_an b d⟩
      | og b d => exact ⟨_, _, tx_og b d⟩
      | al n b => exact ⟨_, _, tx_al n b⟩
      | sm n b => exact ⟨_, _, tx_sm n b⟩
      | sw n =>
        obtain ⟨d, u, ed, _⟩ := figs_head n.toNat
        exact ⟨d, u, (tx_num ha).trans ed⟩
    obtain ⟨c, u, q⟩ := h0
    rw [q] at this; cases this
  | cons c s =>
    obtain ⟨h1, h2, h3, h4, h5, h6⟩ := hs c s rfl
    rcases line_cases ha e with ⟨z, _⟩ | ⟨z, _⟩ | ⟨z, _⟩ | ⟨z, _⟩ | ⟨z, _⟩ | ⟨z, _⟩ | ⟨_, n, rfl⟩
    · exact absurd z h5
    · exact absurd z h6
    · exact absurd z h1
    · exact absurd z h2
    · exact absurd z h3
    · exact absurd z h4
    · exact ⟨n, r, ha, e, hr⟩
theorem num_one {n m : Int} {t u : List Nat} (hn : 0 ≤ n) (hm : 0 ≤ m) (ht : NoFig t) (hu : NoFig u) (e : tx (numS n) ++ t = tx (numS m) ++ u) : t = u ∧ tx (numS n) = tx (numS m) := by
  rw [tx_num hn, tx_num hm] at e ⊢
  have a := take_figs (figs_all n.toNat) ht
  have b := take_figs (figs_all m.toNat) hu
  rw [e] at a
  exact ⟨a.2.symm.trans b.2, a.1.symm.trans b.1⟩
theorem run_no {s : List Nat} (hv : vd (s.takeWhile dgb) = false) : ¬ ∃ (n : Int) (t : List Nat), 0 ≤ n ∧ s = tx (numS n) ++ t ∧ NoFig t := by
  rintro ⟨n, t, hn, rfl, ht⟩
  rw [tx_num hn, (take_figs (figs_all _) ht).1, figs_vd] at hv
  cases hv
theorem cons_len : ∀ gs : List Fq, gs.length ≤ (consT gs).length
  | [] => Nat.le_refl _
  | .nt :: g => by have := cons_len g; simp [consT]; omega
  | .op :: g => by have := cons_len g; simp [consT]; omega
  | .sd c a :: g => by have := cons_len g; simp [consT]; omega
  | .al n :: g => by have := cons_len g; simp [consT]; omega
  | .sm n :: g => by have := cons_len g; simp [consT]; omega
theorem tx_len (x : Str) : (tx x).length = x.length := by simp [tx, Str.length]
theorem num_lt {n : Int} (h0 : 0 ≤ n) : n < 10 ^ (tx (numS n)).length := by
  have key : ∀ m : Nat, m < 10 ^ (figs m).length := fun m => by
    induction m using Nat.strongRecOn with
    | _ m ih =>
      by_cases h : m < 10
      · rw [figs_small h]; simpa using h
      · have i := ih (m / 10) (by omega)
        rw [figs_big h, List.length_append, List.length_singleton, Nat.pow_succ]
        omega
  have := key n.toNat
  rw [tx_num h0]
  have e : ((n.toNat : Nat) : Int) < ((10 ^ (figs n.toNat).length : Nat) : Int) := by exact_mod_cast this
  rw [Int.toNat_of_nonneg h0] at e
  simpa using e
theorem ok_len : ∀ {a : Stm} {k : Nat}, nn a → (tx (line a)).length ≤ k → a.ok (10 ^ k) ∧ a.size ≤ (tx (line a)).length := by
  intro a
  have pw : ∀ {n : Int} {k : Nat}, 0 ≤ n → (tx (numS n)).length ≤ k → n < 10 ^ k := fun {n k} h0 hl => by
    have h1 := num_lt h0
    have h2 : (10 : Int) ^ (tx (numS n)).length ≤ 10 ^ k := by
      have : 10 ^ (tx (numS n)).length ≤ 10 ^ k := Nat.pow_le_pow_right (by decide) hl
      exact_mod_cast this
    omega
  have ps : ∀ {n : Int}, 0 ≤ n → 1 ≤ (tx (numS n)).length := fun {n} h0 => by
    obtain ⟨d, u, ed, _⟩ := figs_head n.toNat
    rw [tx_num h0, ed]; simp
  induction a with
  | yes => intro k _ _; exact ⟨trivial, by rw [tx_yes]; exact Nat.le_refl _⟩
  | no => intro k _ _; exact ⟨trivial, by rw [tx_no]; exact Nat.le_refl _⟩
  | sw n => intro k h hl; exact ⟨⟨h, pw h hl⟩, ps h⟩
  | nt a ih => intro k h hl; rw [tx_nt] at *; simp only [List.length_cons] at *; have := ih (k := k) h (by omega); exact ⟨this.1, by simp only [Stm.size]; omega⟩
  | an a b i j => intro k h hl; rw [tx_an] at *; simp only [List.length_cons, List.length_append, List.length_nil] at *; have x := i (k := k) h.1 (by omega); have y := j (k := k) h.2 (by omega); exact ⟨⟨x.1, y.1⟩, by simp only [Stm.size]; omega⟩
  | og a b i j => intro k h hl; rw [tx_og] at *; simp only [List.length_cons, List.length_append, List.length_nil] at *; have x := i (k := k) h.1 (by omega); have y := j (k := k) h.2 (by omega); exact ⟨⟨x.1, y.1⟩, by simp only [Stm.size]; omega⟩
  | al n a ih => intro k h hl; rw [tx_al] at *; simp only [List.length_cons, List.length_append] at *; have x := ih (k := k) h.2 (by omega); have := pw (k := k) h.1 (by omega); exact ⟨⟨⟨h.1, this⟩, x.1⟩, by simp only [Stm.size]; omega⟩
  | sm n a ih => intro k h hl; rw [tx_sm] at *; simp only [List.length_cons, List.length_append] at *; have x := ih (k := k) h.2 (by omega); have := pw (k := k) h.1 (by omega); exact ⟨⟨⟨h.1, this⟩, x.1⟩, by simp only [Stm.size]; omega⟩
end CN
end
section
set_option Elab.async false
set_option linter.all false
set_option maxRecDepth 100000
set_option maxHeartbeats 1000000
namespace L2
open PySem PySem.Spec PyProof.Rows
noncomputable def PE1 (X : Cx) (e : Expr) (t : TE) : Prop :=
  ∀ (pins : List (Addr × Obj)) (s : Shared) (σ : St) (H : Hp) (Q : VK), 1 ≤ s.toks → Inv X pins σ H s → t σ H Q → wpAny (model X.prog X.w) X.A (eval e X.env) (EP X pins σ Q) X.xe s
noncomputable def PS1 (X : Cx) (st : Stmt) (t : TS) : Prop :=
  ∀ (pins : List (Addr × Obj)) (s : Shared) (σ : St) (H : Hp) (D : Ends), 1 ≤ s.toks → Inv X pins σ H s → t D σ H → wpAny (model X.prog X.w) X.A (exec st X.env) (SP X pins D) X.xe s
noncomputable def PSs1 (X : Cx) (st : List Stmt) (t : TS) : Prop :=
  ∀ (pins : List (Addr × Obj)) (s : Shared) (σ : St) (H : Hp) (D : Ends), 1 ≤ s.toks → Inv X pins σ H s → t D σ H → wpAny (model X.prog X.w) X.A (execs st X.env) (SP X pins D) X.xe s
theorem thn1 {α : Type} {t : Sem α} {Q Q' : α → Shared → Prop} {M : Model} {A : Around} {E : Value → Shared → Prop} {s : Shared} (hk : 1 ≤ s.toks) (h : wpAny M A t Q E s) (hQ : ∀ a s, 1 ≤ s.toks → Q a s → Q' a s) : wpAny M A t Q' E s :=
  wpAny_mono (wpAny_toks_of hk h) (fun a s x => hQ a s x.1 x.2) fun _ _ x => x.2
section
variable {X : Cx} {st : Stmt} {rest : List Stmt} {t u : TS} {pos : Pos} {e o : Expr} {te to : TE}
theorem pe1_of (h : PE X e te) : PE1 X e te := fun pins s σ H Q _ I q => h pins s σ H Q I q
theorem ps1_of (h : PS X st t) : PS1 X st t := fun pins s σ H D _ I q => h pins s σ H D I q
theorem pss1_cons (h1 : PS1 X st t) (h2 : PSs1 X rest u) : PSs1 X (st :: rest) (tSeq t u) := by
  intro pins s σ H D hk I h
  refine wpAny_execs_cons (thn1 hk (h1 pins s σ H { D with nx := u D } hk I h) fun f s1 k1 q => ?_)
  cases f with
  | next =>
    obtain ⟨σ', H', I', q⟩ := q
    exact h2 pins s1 σ' H' D k1 I' q
  | ret v => exact q
  | brk => exact q
  | cont => exact q
theorem pss1_one (h1 : PS1 X st t) : PSs1 X [st] t := by
  intro pins s σ H D hk I h
  refine wpAny_execs_cons (thn (h1 pins s σ H D hk I h) fun f s1 q => ?_)
  cases f with
  | next => exact wpAny_execs_nil q
  | ret v => exact q
  | brk => exact q
  | cont => exact q
theorem ps1_set {i : Nat} {x : Str} {pos' : Pos} (hN : X.N.Nodup) (hi : X.N[i]? = some x) (hx : Loc X.env.scope x) (he : PE1 X e te) (hs : swapsWith e (some (.Name x pos')) pos.line X.env = pure false := by rfl) (hf : X.fn x = true ∨ X.env.scope.names.lookup x = some .local := by first | exact .inl rfl | exact .inr rfl | assumption) :
    PS1 X (.Assign [.Name x pos'] e pos) (tAsg te (gName i)) := by
  intro pins s σ H D hk I h
  refine wpAny_Assign_Name (thn (he pins s σ H _ hk I h) fun v s1 ⟨y, H1, I1, r1, q1⟩ => ?_) hs
  exact store_ok I1 hN hi hx r1 (fun s2 I2 => ⟨_, H1, I2, q1⟩) hf
theorem pss_first {i : Nat} {x a : Str} {pos' cp : Pos} {j : Nat} (hN : X.N.Nodup) (hi : X.N[i]? = some x) (hx : Loc X.env.scope x) (h2 : PSs1 X rest u) (hs : swapsWith (.Constant (.str a) j cp) (some (.Name x pos')) pos.line X.env = pure false := by rfl)
    (hf : X.fn x = true ∨ X.env.scope.names.lookup x = some .local := by first | exact .inl rfl | exact .inr rfl | assumption) :
    PSs X (.Assign [.Name x pos'] (.Constant (.str a) j cp) pos :: rest) (tSeq (tAsg (tC (.str a)) (gName i)) u) := by
  intro pins s σ H D I h
  refine wpAny_execs_cons (wpAny_Assign_Name (Calls.Constant_str ?_) hs)
  refine thn1 (s := { s with toks := s.toks + 1 }) (Nat.le_add_left _ _) (store_ok (v := .str a) (Q := fun _ s1 => ∃ σ' H', Inv X pins σ' H' s1 ∧ u D σ' H') (I.tok _) hN hi hx ⟨_, rfl⟩ (fun s2 I2 => ⟨_, H, I2, h⟩) hf) fun f s1 k1 q => ?_
  obtain ⟨σ', H', I', q⟩ := q
  exact h2 pins s1 σ' H' D k1 I' q
noncomputable def tRepl (a b : Str) (to : TE) : TE := fun σ H Q => to σ H fun x H1 => ∃ y, x = .str y ∧ y.length ≤ 1048576 ∧ Q (.str (Txt.replace y a b)) H1
theorem pe1_repl {a b : Str} {ka kb : Nat} {pa pb apos cpos : Pos} (hab : (a == b) = false) (hb : b.length ≤ 14) (ho : PE1 X o to)
    (hbase : attributeBase o "replace" X.env (eval o X.env) = eval o X.env := by rfl)
    (hfew : ((backTo cpos (starEach [.Constant (.str a) ka pa, .Constant (.str b) kb pb] X.env)).all (fun x => !x.1) && (backToKw cpos (keywordEach [] X.env)).all (fun x => x.1.isSome)
      && decide (([.Constant (.str a) ka pa, .Constant (.str b) kb pb] : List Expr).length + ([] : List Keyword).length + (if ([] : List Keyword).isEmpty then 0 else 1) < 30)) = true := by rfl)
    (hline : (apos.endLine == cpos.line) = true := by rfl) :
    PE1 X (.Call (.Attribute o "replace" apos) [.Constant (.str a) ka pa, .Constant (.str b) kb pb] [] cpos) (tRepl a b to) := by
  intro pins s σ H Q hk I h
  refine wpAny_Call_method_late hbase hfew hline rfl (thn1 hk (ho pins s σ H _ hk I h) fun v s1 k1 ⟨x, H1, I1, r1, q1⟩ => ?_)
  obtain ⟨y, rfl, hy, q1⟩ := q1
  obtain ⟨t, rfl⟩ := r1
  obtain ⟨g1, g2⟩ := tyV_is (T := "str") (x := .str y) I1 ⟨t, rfl⟩ (by first | exact trivial | exact rfl | exact ⟨_, rfl⟩)
  refine ⟨"str", "str.replace", PySem.F.plainAttrs_str, PySem.F.slot_str_replace, PySem.F.type_str_replace, g1, g2, ?_⟩
  refine Calls.callWith_builtin rfl (Calls.evalArgs_plain (x := eval (.Constant (.str a) ka pa) X.env) (rest := backTo cpos (starEach [.Constant (.str b) kb pb] X.env)) ?_)
  refine Calls.spliced_cons (Calls.Constant_str ?_)
  show wpAny _ _ (spliced ((false, eval (.Constant (.str b) kb pb) X.env) :: backTo cpos (starEach [] X.env))) _ _ _
  refine Calls.spliced_cons (Calls.Constant_str (Calls.spliced_nil ?_))
  show wpAny _ _ (call (.builtin "str.replace") [.str y t, .str a s1.toks, .str b (s1.toks + 1)] []) _ _ _
  refine PySem.SC.replaceW (show @Ne Nat _ _ from by omega) (show @Ne Nat _ _ from by omega) (show @Ne Nat _ _ from by omega) hab hy hb fun t' k => ?_
  exact ⟨.str (Txt.replace y a b), H1, I1.tok k, ⟨_, rfl⟩, q1⟩
theorem ps1_for {tg iter : Expr} {body : List Stmt} {wi : TI} {g : TG} {tb : TS} (hp : PassesOwn (model X.prog X.w) X.A X.env X.xe) (hc : X.calm = true) (hi : PI X tg iter wi) (hg : PG X tg g) (hb : PSs1 X body tb)
    (hs : ∀ x, foldedSetIterable iter X.env x = pure x := by intro _; rfl) : PS1 X (.For tg iter body [] pos) (tFor wi g tb) := by
  intro pins s σ H D hk I h
  refine wpAny_For (thn1 hk (hi pins s σ H _ I h) fun v s1 k1 h1 => thn1 k1 h1 fun itv s2 k2 h2 => ?_) hs
  obtain ⟨it, fp, tn, J, H2, e, I2, T, st2, f2, W, ⟨m0, w0⟩, turn⟩ := h2
  subst e
  have stat : ∀ {H' : Hp}, (∀ b ∈ fp, H' b = none) → ∀ b ∈ fp, FpOk X pins H' b := fun hn b hb => ⟨hn b hb, (f2 b hb).2⟩
  refine codeAny_forLoop_any (fun n s' => 1 ≤ s'.toks ∧ ∃ i σ' H', Inv X pins σ' H' s' ∧ tn i s'.heap ∧ (∀ b ∈ fp, H' b = none) ∧ W i n σ' H') ?_ m0 ⟨k2, 0, σ, H2, I2, st2, fun b hb => (f2 b hb).1, w0⟩
  rintro n s3 ⟨k3, i, σ3, H3, I3, st3, fr3, w3⟩
  rcases turn i n σ3 H3 w3 with ⟨stop, qn⟩ | ⟨go, N, hN, step⟩
  · refine wpAny_passesOwn hp (thn (T.done X rfl rfl rfl hc i pins s3 σ3 H3 X.xe I3 (stat fr3) st3 stop) fun r s4 ⟨hr, I4⟩ => ?_)
    subst hr
    exact wpAny_execs_nil ⟨σ3, H3, I4, qn⟩
  · refine wpAny_passesOwn hp (thn1 k3 (T.item X rfl rfl rfl hc i pins s3 σ3 H3 X.xe I3 (stat fr3) st3 go) fun r s4 k4 ⟨u, hr, h4⟩ => ?_)
    subst hr
    refine wpAny_passesOwn hp (thn1 k4 h4 fun _ s5 k5 ⟨x, H5, I5, r5, y5, st5, fr5⟩ => ?_)
    have I5' := I5.pinned (stat fr5) (T.obj _ _ st5)
    refine wpAny_passesOwn hp (thn1 k5 (hg _ s5 σ3 H5 x u _ I5' r5 (step x H5 y5)) fun _ s6 k6 ⟨σ6, H6, I6, q6⟩ => ?_)
    refine wpAny_passesOwn hp (thn1 k6 (hb _ s6 σ6 H6 _ k6 I6 q6) fun f s7 k7 q7 => ?_)
    have again : ∀ {σ7 : St} {H7 : Hp}, Inv X (pins ++ pinsAt fp s5.heap) σ7 H7 s7 → N σ7 H7 → ∃ m, m < n ∧ 1 ≤ s7.toks ∧ ∃ i σ' H', Inv X pins σ' H' s7 ∧ tn i s7.heap ∧ (∀ b ∈ fp, H' b = none) ∧ W i m σ' H' := fun {σ7 H7} I7 n7 => by
      obtain ⟨m', hm, w7⟩ := hN σ7 H7 n7
      refine ⟨m', hm, k7, i + 1, σ7, H7, I7.unpinned, T.keep _ _ _ st5 fun b hb o e => (I7.pin (b, o) (List.mem_append_right _ (List.mem_append_right _ (mem_pinsAt hb e)))).1, fun b hb => ?_, w7⟩
      obtain ⟨o, e, d⟩ := T.obj _ _ st5 b hb
      exact (I7.pin (b, o) (List.mem_append_right _ (List.mem_append_right _ (mem_pinsAt hb e)))).2.1
    cases f with
    | next => obtain ⟨σ7, H7, I7, n7⟩ := q7; exact again I7 n7
    | cont => obtain ⟨σ7, H7, I7, n7⟩ := q7; exact again I7 n7
    | brk => obtain ⟨σ7, H7, I7, q7⟩ := q7; exact ⟨σ7, H7, I7.unpinned, q7⟩
    | ret v => obtain ⟨x7, σ7, H7, I7, r7, q7⟩ := q7; exact ⟨x7, σ7, H7, I7.unpinned, r7, q7⟩
theorem rd_repl {a b : Str} {to : TE} {σ : St} {H : Hp} {Q : VK} : tRepl a b to σ H Q = to σ H fun x H1 => ∃ y, x = .str y ∧ y.length ≤ 1048576 ∧ Q (.str (Txt.replace y a b)) H1 := rfl
end
end L2
end
section
set_option Elab.async false
set_option linter.all false
set_option maxRecDepth 100000
set_option maxHeartbeats 1000000
namespace L2
open PySem PySem.Spec PyProof.Rows
noncomputable def rSlA : V → Option Int → Option Int → Hp → VK → Prop := fun x lo hi H Q => ∃ (z : Str) (j : Nat), x = .str z ∧ lo = none ∧ hi = some (j : Int) ∧ z.length ≤ sizeLine ∧ ∀ y : Str, y.length ≤ z.length → Q (.str y) H
noncomputable def rSlB : V → Option Int → Option Int → Hp → VK → Prop := fun x lo hi H Q => ∃ (z : Str) (i : Nat), x = .str z ∧ lo = some (i : Int) ∧ hi = none ∧ z.length ≤ sizeLine ∧ ∀ y : Str, y.length ≤ z.length → Q (.str y) H
theorem ix_A (j n : Nat) : Builtin.Str.strSliceIndices none (some (j : Int)) 1 n = (List.range (min j n)).map (0 + ·) := by
  have := str_slice_ix 0 j n
  unfold Builtin.Str.strSliceIndices at this ⊢
  simp only [show ¬ ((((0 : Nat)) : Int) < 0) by omega, if_false, show (1 : Int) > 0 by decide, if_true, show max (0 : Int) (min (((0 : Nat) : Int)) (n : Int)) = 0 by omega, Nat.zero_min, Nat.sub_zero] at this ⊢
  exact this
theorem ix_B (i n : Nat) : Builtin.Str.strSliceIndices (some (i : Int)) none 1 n = (List.range (n - min i n)).map (min i n + ·) := by
  have := str_slice_ix i n n
  unfold Builtin.Str.strSliceIndices at this ⊢
  simp only [show ¬ (((n : Nat) : Int) < 0) by omega, if_false, show (1 : Int) > 0 by decide, if_true, show max (0 : Int) (min ((n : Nat) : Int) (n : Int)) = (n : Int) by omega, Nat.min_self] at this ⊢
  exact this
theorem cut_str {X : Cx} {pins : List (Addr × Obj)} {s : Shared} {σ : St} {H : Hp} {z : Str} {t : Tok} {l u : Option (Int × Tok)} {sl : Addr} {Q : VK} {a k : Nat} (I : Inv X pins σ H s) (hs : s.heap.IsSliceOf sl (partValue l) (partValue u) .none)
    (e : slicePicked z l u none = (List.range k).map (a + ·)) (hk : k ≤ z.length) (hz : z.length ≤ sizeLine) (q : ∀ y : Str, y.length ≤ z.length → Q (.str y) H) : wpAny (model X.prog X.w) X.A (getItem (.str z t) (.ref sl)) (EP X pins σ Q) X.xe s := by
  refine wpAny_getItem_str_slice (l := l) (u := u) (st := none) hs rfl ?_
  unfold sliceMade
  split
  · exact ⟨.str z, H, I, ⟨t, rfl⟩, q z (Nat.le_refl _)⟩
  · rw [e]
    have hl : (((List.range k).map (a + ·)).filterMap (z.cps[·]?)).length ≤ z.length := by
      refine Nat.le_trans (List.length_filterMap_le _ _) ?_
      rw [List.length_map, List.length_range]
      exact hk
    refine ⟨?_, ⟨.str ⟨(((List.range k).map (a + ·)).filterMap (z.cps[·]?)).toArray⟩, H, I.tok _, ⟨_, rfl⟩, q _ ?_⟩⟩
    · show (((List.range k).map (a + ·)).filterMap (z.cps[·]?)).toArray.size ≤ sizeLine
      rw [List.size_toArray]; omega
    · show (((List.range k).map (a + ·)).filterMap (z.cps[·]?)).toArray.size ≤ z.length
      rw [List.size_toArray]; exact hl
theorem sl_strA {X : Cx} : SlR X rSlA := by
  intro pins s σ H x v vl vu lo hi sl Q I rx hs pl pu h
  obtain ⟨z, j, rfl, rfl, rfl, hz, q⟩ := h
  obtain ⟨t, rfl⟩ := rx
  obtain rfl : vl = .none := by cases pl; rfl
  obtain ⟨tj, rfl⟩ : ∃ tj, vu = .int (j : Int) tj := by cases pu; exact ⟨_, rfl⟩
  exact ⟨"str", _, PySem.F.slot_str_getitem.lookup, typeIs_str s z t, cut_str (l := none) (u := some ((j : Int), tj)) I hs (ix_A j z.length) (by omega) hz q⟩
theorem sl_strB {X : Cx} : SlR X rSlB := by
  intro pins s σ H x v vl vu lo hi sl Q I rx hs pl pu h
  obtain ⟨z, i, rfl, rfl, rfl, hz, q⟩ := h
  obtain ⟨t, rfl⟩ := rx
  obtain rfl : vu = .none := by cases pu; rfl
  obtain ⟨tj, rfl⟩ : ∃ tj, vl = .int (i : Int) tj := by cases pl; exact ⟨_, rfl⟩
  exact ⟨"str", _, PySem.F.slot_str_getitem.lookup, typeIs_str s z t, cut_str (l := some ((i : Int), tj)) (u := none) I hs (ix_B i z.length) (by omega) hz q⟩
noncomputable def rJoin : V → List V → Hp → VK → Prop := fun x xs H Q => ∃ (y : Str) (a : Addr) (zs : List Str), x = .str y ∧ xs = [.ref a] ∧ H a = some (.lst (zs.map V.str)) ∧ (zs.map (·.length)).sum + zs.length * y.length ≤ 16777216 ∧ Q (.str (Txt.join y zs)) H
theorem strs_of : ∀ {zs : List Str} {us : List Value}, Vals (zs.map V.str) us → StrsAre us zs
  | [], _, h => by cases h; exact .nil
  | z :: zs, _, h => by
    cases h with
    | cons h1 h2 =>
      obtain ⟨t, rfl⟩ := h1
      exact .cons z t (strs_of h2)
theorem mt_join {X : Cx} : MtR X "str.join" rJoin := by
  intro pins s σ H x xs v us Q I rx rs h
  obtain ⟨y, a, zs, rfl, rfl, ha, hn, q⟩ := h
  obtain ⟨t, rfl⟩ := rx
  obtain ⟨u, rfl, ru⟩ := vals1 rs
  obtain rfl : u = Value.ref a := ru
  obtain ⟨its, r, pl, hz⟩ := I.list (SqL.of ha)
  exact join_list pl.isList (by simpa using strs_of r) hn fun t' k => ⟨.str _, H, I.tok k, ⟨t', rfl⟩, q⟩
theorem len_app (x y : Str) : (x ++ y).length = x.length + y.length := by
  show (x.cps ++ y.cps).size = x.cps.size + y.cps.size
  exact Array.size_append
theorem join_len {y : Str} (h : y.length = 0) (n : Nat) : ∀ zs : List Str, (∀ z ∈ zs, z.length ≤ n) → (Str.join y zs).length ≤ zs.length * n
  | [], _ => Nat.zero_le _
  | [z], h1 => by
    have := h1 z (by simp)
    show z.length ≤ _
    simp only [List.length_cons, List.length_nil]
    omega
  | z :: z2 :: zs, h1 => by
    have i := join_len h n (z2 :: zs) fun x hx => h1 x (List.mem_cons_of_mem _ hx)
    have h2 := h1 z (by simp)
    show (z ++ y ++ Str.join y (z2 :: zs)).length ≤ _
    rw [len_app, len_app, h]
    simp only [List.length_cons] at i ⊢
    have e : (zs.length + 1 + 1) * n = (zs.length + 1) * n + n := by rw [Nat.add_mul (zs.length + 1) 1 n, Nat.one_mul]
    omega
end L2
end
section
set_option Elab.async false
set_option linter.all false
set_option maxRecDepth 100000
set_option maxHeartbeats 4000000
namespace CN
open PySem L2
seal L2.PE L2.PT L2.PS L2.PSs L2.PA L2.PPs L2.PW L2.PC L2.PG L2.PGs L2.PI L2.PO
noncomputable def top (i : Nat) : Stmt := PySem.Challenge.pw_choicenet_k11_lines_read_or_refused.main.body.getD i (.Pass ⟨0, 0, 0, 0⟩)
noncomputable abbrev s_L_at : Stmt := top 15
noncomputable abbrev p_L_at : List Str := ["_law_script", "_law_k"]
theorem sc_L_at : FnScope ["_law_script", "_law_k"] ["_law_script", "_law_k"] (defScope s_L_at) := ⟨rfl, rfl, rfl, by decide +kernel, rfl, by decide +kernel, by decide +kernel⟩
noncomputable abbrev s_L_whole : Stmt := top 14
noncomputable abbrev p_L_whole : List Str := ["_law_found"]
theorem sc_L_whole : FnScope ["_law_found"] ["_law_found"] (defScope s_L_whole) := ⟨rfl, rfl, rfl, by decide +kernel, rfl, by decide +kernel, by decide +kernel⟩
noncomputable abbrev s_L_drawn_statement : Stmt := top 16
noncomputable abbrev p_L_drawn_statement : List Str := ["_law_cells", "_law_many"]
theorem sc_L_drawn_statement : FnScope ["_law_cells", "_law_many", "_law_pile", "_law_cell", "_law_rest", "_law_way", "_law_two", "_law_statement", "_law_k"] ["_law_cells", "_law_many"] (defScope s_L_drawn_statement) := ⟨rfl, rfl, rfl, by decide +kernel, rfl, by decide +kernel, by decide +kernel⟩
section
variable {P : Program} {w : World} {K : PySem.W.Frag} {mg : Str → Option Value} {base : Heap}
noncomputable def spAt (K : PySem.W.Frag) : Sp := fun vs H Q _ => ∃ (l : Addr) (ns : List Int) (k : Nat), vs = [.ref l, .int k] ∧ SqL K H l (ns.map V.int) ∧ ∀ i : Int, Q (.int i) H
theorem ok_at {f : Addr} {fd : FuncData} (BT : Bt mg) (D : Df K mg "_law_at" s_L_at p_L_at f fd) : FnOk P w K mg base CX0 1 f fd p_L_at (spAt K) := by
  refine D.F.ok sc_L_at (fun vs H Q E h => ?_) (fun cdv A outer s H vs Q E hr h => ?_)
  · obtain ⟨l, ns, k, rfl, _⟩ := h
    rfl
  · obtain ⟨l, ns, k, rfl, hl, q⟩ := h
    refine ⟨_, (pss_cons (ps_if (pt_cmpR op_lt (pv 1) (pe_callB call_len_seq (by rfl) BT.n_len bo_len (pa_cons (pv 0) pa_nil)) (nomark _))
      (pss_one (ps_ret (pe_ix ix_list (pv 0) (pv 1) (fun _ _ => rfl))))
      pss_nil)
    (pss_one (ps_ret pe_int))), ?_⟩
    simp only [rdA]
    refine ⟨_, .inl hl, ite2 (fun hk => ?_) fun _ => q 0⟩
    have hk' : k < (ns.map V.int).length := by simpa using hk
    have hk2 : k < ns.length := by simpa using hk'
    refine ⟨_, hl, .int ns[k], atI_nat ?_, q _⟩
    rw [List.getElem?_map, List.getElem?_eq_getElem hk2]
    rfl
noncomputable def spWhole : Sp := fun vs H Q _ => ∃ i : Int, vs = [.int i] ∧ Q (.bl true) H
theorem ok_whole {f : Addr} {fd : FuncData} (BT : Bt mg) (D : Df K mg "_law_whole" s_L_whole p_L_whole f fd) : FnOk P w K mg base CX0 1 f fd p_L_whole spWhole := by
  refine D.F.ok sc_L_whole (fun vs H Q E h => ?_) (fun cdv A outer s H vs Q E hr h => ?_)
  · obtain ⟨c, rfl, _⟩ := h
    rfl
  · obtain ⟨c, rfl, q⟩ := h
    refine ⟨_, (pss_one (ps_ret (pe_and (pe_callB (call_isinst) (by rfl) BT.n_isinstance bo_isinstance (pa_cons (pv 0) (pa_cons (pe_bltn (v := .ty "int") (by rfl) BT.n_int bo_int rfl) pa_nil))) (pe_one (pe_not (pe_callB (call_isinst) (by rfl) BT.n_isinstance bo_isinstance (pa_cons (pv 0) (pa_cons (pe_bltn (v := .ty "bool") (by rfl) BT.n_bool bo_bool rfl) pa_nil)))))))), ?_⟩
    simp only [rdA]
    refine ⟨_, .int c, _, kit_same K "int", iteT ⟨_, .int c, _, kit_ib K, q⟩⟩
noncomputable def spDraw (K : PySem.W.Frag) : Sp := fun vs H Q _ => ∃ (l : Addr) (ns : List Int) (m : Int), vs = [.ref l, .int m] ∧ SqL K H l (ns.map V.int) ∧ ns.length ≤ 63 ∧ 0 < m ∧
  ∀ v a H', Same H H' → IsSt H' v a → a.ok m → a.size ≤ 2 * ns.length + 1 → Q v H'
structure DrawInv (H : Hp) (l : Addr) (m : Int) (p : Addr) (i : Nat) (σ : St) (H2 : Hp) : Prop where
  ex : ∃ (xs : List V) (as : List Stm) (o3 o4 o5 o6 : Option V), σ = [some (.ref l), some (.int m), some (.ref p), o3, o4, o5, o6, none, none] ∧ Same H H2 ∧ H2 p = some (.lst xs) ∧ Sts H2 xs as ∧ (∀ a ∈ as, a.ok m) ∧ sizes as ≤ i
theorem draw_push {H H3 : Hp} {l p : Addr} {m : Int} {i : Nat} {xs : List V} {as : List Stm} {v : V} {b : Stm} {o3 o4 o5 o6 : Option V} (hp : H p = none) (s : Same H H3) (h3 : H3 p = some (.lst xs)) (hs : Sts H3 xs as) (hb : IsSt H3 v b)
    (ok : ∀ a ∈ as, a.ok m) (okb : b.ok m) (sz : sizes as + b.size ≤ i) : DrawInv H l m p i [some (.ref l), some (.int m), some (.ref p), o3, o4, o5, o6, none, none] (upd H3 p (.lst (xs ++ [v]))) := by
  have k : Tk H3 (upd H3 p (.lst (xs ++ [v]))) := Tk.lst h3
  refine ⟨xs ++ [v], as ++ [b], o3, o4, o5, o6, rfl, s.mut hp, upd_same, (hs.to k).app (Sts.one (hb.to k)), fun a h => ?_, by rw [sizes_app, sizes_one]; exact sz⟩
  rcases List.mem_append.mp h with h | h
  · exact ok a h
  · rw [List.mem_singleton] at h; rw [h]; exact okb
structure JoinInv (H : Hp) (l : Addr) (m : Int) (p : Addr) (xs : List V) (as : List Stm) (o3 o4 o5 o6 : Option V) (k : Nat) (σ : St) (H3 : Hp) : Prop where
  ex : ∃ (v : V) (a : Stm) (o8 : Option V), σ = [some (.ref l), some (.int m), some (.ref p), o3, o4, o5, o6, some v, o8] ∧ Same H H3 ∧ H3 p = some (.lst xs) ∧ Sts H3 xs as ∧ IsSt H3 v a ∧ a.ok m ∧ a.size ≤ sizes (as.take k) + k + 1
theorem small_of {n : Nat} (h : n ≤ 63) : n < sizeLine := small1000 (by omega)
theorem ok_draw {f : Addr} {fd : FuncData} (BT : Bt mg) (D : Df K mg "_law_drawn_statement" s_L_drawn_statement p_L_drawn_statement f fd) : FnOk P w K mg base CX0 1 f fd p_L_drawn_statement (spDraw K) := by
  refine D.F.ok sc_L_drawn_statement (fun vs H Q E h => ?_) (fun cdv A outer s H vs Q E hr h => ?_)
  · obtain ⟨l, ns, m, rfl, _⟩ := h
    rfl
  · obtain ⟨l, ns, m, rfl, hl, hn, hm, q⟩ := h
    refine ⟨_, (pss_cons (ps_set (i := 2) sc_L_drawn_statement.nd rfl (by first | exact Or.inl rfl | exact Or.inr rfl) (pe_lst pa_nil))
    (pss_cons (ps_for PassesOwn.never rfl (pi_list (pv 0)) (pg_name (i := 3) sc_L_drawn_statement.nd rfl (by first | exact Or.inl rfl | exact Or.inr rfl))
      (pss_cons (ps_set (i := 4) sc_L_drawn_statement.nd rfl (by first | exact Or.inl rfl | exact Or.inr rfl) (pe_op op_fdiv (pv 3) pe_int))
      (pss_cons (ps_set (i := 5) sc_L_drawn_statement.nd rfl (by first | exact Or.inl rfl | exact Or.inr rfl) (pe_op op_mod (pv 3) pe_int))
      (pss_one (ps_if (pt_cmpR op_eq (pv 5) pe_int (nomark _))
        (pss_one (ps_expr (pe_bm PySem.F.plainAttrs_list PySem.F.slot_list_append PySem.F.type_list_append mt_append (pv 2) (pa_cons (pe_ix ix_list (pe_lst (pa_cons (pe_tup (pa_cons pe_str pa_nil)) (pa_cons (pe_tup (pa_cons pe_str pa_nil)) pa_nil))) (pe_op op_mod (pv 4) pe_int) (fun _ _ => rfl)) pa_nil))))
        (pss_one (ps_if (PW.pt (pw_or (pt_cmpR op_lt (pv 5) pe_int (nomark _)) (pw_or1 (pt_cmpR (op_eqNil hr) (pv 2) (pe_lst pa_nil) (nomark _)))))
          (pss_one (ps_expr (pe_bm PySem.F.plainAttrs_list PySem.F.slot_list_append PySem.F.type_list_append mt_append (pv 2) (pa_cons (pe_tup (pa_cons pe_str (pa_cons (pe_op op_mod (pv 4) (pv 1)) pa_nil))) pa_nil))))
          (pss_one (ps_if (pt_cmpR op_eq (pv 5) pe_int (nomark _))
            (pss_one (ps_expr (pe_bm PySem.F.plainAttrs_list PySem.F.slot_list_append PySem.F.type_list_append mt_append (pv 2) (pa_cons (pe_tup (pa_cons pe_str (pa_cons (pe_bm0 PySem.F.plainAttrs_list PySem.F.slot_list_pop PySem.F.type_list_pop mt_pop (pv 2)) pa_nil))) pa_nil))))
            (pss_one (ps_if (pt_cmpR op_gt (pv 5) pe_int (nomark _))
              (pss_one (ps_expr (pe_bm PySem.F.plainAttrs_list PySem.F.slot_list_append PySem.F.type_list_append mt_append (pv 2) (pa_cons (pe_tup (pa_cons (pe_ix ix_list (pe_lst (pa_cons pe_str (pa_cons pe_str pa_nil))) (pe_op op_sub (pv 5) pe_int) (fun _ _ => rfl)) (pa_cons (pe_op op_mod (pv 4) (pv 1)) (pa_cons (pe_bm0 PySem.F.plainAttrs_list PySem.F.slot_list_pop PySem.F.type_list_pop mt_pop (pv 2)) pa_nil)))) pa_nil))))
              (pss_one (ps_if (pt_cmpR op_gt (pe_callB call_len_seq (by rfl) BT.n_len bo_len (pa_cons (pv 2) pa_nil)) pe_int (nomark _))
                (pss_cons (ps_set (i := 6) sc_L_drawn_statement.nd rfl (by first | exact Or.inl rfl | exact Or.inr rfl) (pe_bm0 PySem.F.plainAttrs_list PySem.F.slot_list_pop PySem.F.type_list_pop mt_pop (pv 2)))
                (pss_one (ps_expr (pe_bm PySem.F.plainAttrs_list PySem.F.slot_list_append PySem.F.type_list_append mt_append (pv 2) (pa_cons (pe_tup (pa_cons (pe_ix ix_list (pe_lst (pa_cons pe_str (pa_cons pe_str pa_nil))) (pe_op op_sub (pv 5) pe_int) (fun _ _ => rfl)) (pa_cons (pe_bm0 PySem.F.plainAttrs_list PySem.F.slot_list_pop PySem.F.type_list_pop mt_pop (pv 2)) (pa_cons (pv 6) pa_nil)))) pa_nil)))))
                pss_nil)))))))))))))
    (pss_cons (ps_set (i := 7) sc_L_drawn_statement.nd rfl (by first | exact Or.inl rfl | exact Or.inr rfl) (pe_tup (pa_cons pe_str pa_nil)))
    (pss_cons (ps_for PassesOwn.never rfl (pi_range1 (by rfl) BT.n_range (pa_cons (pe_callB call_len_seq (by rfl) BT.n_len bo_len (pa_cons (pv 2) pa_nil)) pa_nil)) (pg_name (i := 8) sc_L_drawn_statement.nd rfl (by first | exact Or.inl rfl | exact Or.inr rfl))
      (pss_one (ps_set (i := 7) sc_L_drawn_statement.nd rfl (by first | exact Or.inl rfl | exact Or.inr rfl) (pe_tup (pa_cons (pe_ix ix_list (pe_lst (pa_cons pe_str (pa_cons pe_str pa_nil))) (pe_op op_mod (pv 8) pe_int) (fun _ _ => rfl)) (pa_cons (pe_ix ix_list (pv 2) (pv 8) (fun _ _ => rfl)) (pa_cons (pv 7) pa_nil)))))))
    (pss_one (ps_ret (pv 7))))))), ?_⟩
    simp only [rdA]
    refine fun p hp => ?_
    refine ⟨_, rfl, l, rfl, ⟨_, (Same.new hp).seq hl⟩, for_list (K := K) (a := l) (xs := ns.map V.int) (DrawInv H l m p)
      ⟨[], [], none, none, none, none, rfl, Same.new hp, upd_same, .nil, fun a h => by simp at h, Nat.le_refl _⟩ (fun i σ H2 _ h => by obtain ⟨_, _, _, _, _, _, _, sm, _⟩ := h; exact sm.seq hl) ?_ ?_⟩
    · rintro i y σ H2 hi ⟨xs, as, o3, o4, o5, o6, rfl, sm, hx, hs, hok, hsz⟩
      have hil : i < ns.length := by
        have := (List.getElem?_eq_some_iff.mp hi).1
        simpa using this
      obtain ⟨z, rfl⟩ : ∃ z, y = V.int z := by
        rw [List.getElem?_map] at hi
        cases e : ns[i]? with
        | none => rw [e] at hi; cases hi
        | some z => rw [e] at hi; exact ⟨z, (Option.some.inj hi).symm⟩
      have hxl : xs.length ≤ 63 := by
        have h1 : xs.length = as.length := Paired.length hs
        have h2 := sizes_len as
        omega
      have hxs := small_of hxl
      simp only [rdA]
      have m1 : 0 ≤ z / 8 % m := Int.emod_nonneg _ (by omega)
      have m2 : z / 8 % m < m := Int.emod_lt_of_pos _ hm
      generalize z / 8 % m = zm at *
      refine ite2 (fun h8 => ?_) (fun h8 => ?_)
      · refine ⟨⟨_, SqL.of hx⟩, fun p1 h1 p2 h2 p3 h3 => ⟨_, SqL.of upd_same, ?_⟩⟩
        have s2 := Same.new (o := HO.tup [sv "no"]) h2
        have s3 := Same.new (o := HO.lst [V.ref p1, V.ref p2]) h3
        have sA := ((Same.new (o := HO.tup [sv "yes"]) h1).trans s2).trans s3
        have hb : z / 8 % 2 = 0 ∨ z / 8 % 2 = 1 := by omega
        rcases hb with hb | hb
        · rw [hb]
          exact ⟨_, atI0 _ _, _, sA _ _ hx, hxs, draw_push hp (sm.trans sA) (sA _ _ hx) (hs.to sA.tk) (st_mk (a := .yes) (s3 _ _ (s2 _ _ upd_same)) rfl) hok trivial (by simp only [Stm.size]; omega)⟩
        · rw [hb]
          exact ⟨_, atI1 _ _ _, _, sA _ _ hx, hxs, draw_push hp (sm.trans sA) (sA _ _ hx) (hs.to sA.tk) (st_mk (a := .no) (s3 _ _ upd_same) rfl) hok trivial (by simp only [Stm.size]; omega)⟩
      · have sw : ∀ H2, Same H H2 → H2 p = some (.lst xs) → Sts H2 xs as → (∃ xs, SqL K H2 p xs) ∧ 0 < m ∧ ∀ p1, H2 p1 = none → ∃ xs, upd H2 p1 (.tup [V.str (Str.ofString "switch"), V.int zm]) p = some (.lst xs) ∧ xs.length < sizeLine ∧
            DrawInv H l m p (i + 1) [some (.ref l), some (.int m), some (.ref p), some (.int z), some (.int (z / 8)), some (.int (z % 8)), o6, none, none] (upd (upd H2 p1 (.tup [V.str (Str.ofString "switch"), V.int zm])) p (.lst (xs ++ [V.ref p1]))) :=
          fun H2 sm hx hs => ⟨⟨_, SqL.of hx⟩, hm, fun p1 h1 => by
            have s1 := Same.new (o := HO.tup [sv "switch", V.int zm]) h1
            exact ⟨_, s1 _ _ hx, hxs, draw_push hp (sm.trans s1) (s1 _ _ hx) (hs.to s1.tk) (st_mk (a := .sw zm) upd_same rfl) hok ⟨m1, m2⟩ (by simp only [Stm.size]; omega)⟩⟩
        refine ite2 (fun h2 => sw H2 sm hx hs) (fun h2 => ?_)
        refine fun p0 h0 => ⟨_, Same.new h0 _ _ hx, upd_same, ?_⟩
        have s0 := Same.new (o := HO.lst []) h0
        replace hx := s0 _ _ hx
        replace sm := sm.trans s0
        replace hs := hs.to s0.tk
        generalize upd H2 p0 (HO.lst []) = H3 at *
        refine ite2 (fun he => sw H3 sm hx hs) (fun he => ?_)
        obtain ⟨ys, y, rfl⟩ := snoc_of (xs := xs) (by rintro rfl; exact he rfl)
        obtain ⟨bs, b, rfl, hs1, hs2⟩ := Sts.snoc hs
        have okb : b.ok m := hok b (List.mem_append.mpr (.inr (List.mem_singleton.mpr rfl)))
        have okbs : ∀ a ∈ bs, a.ok m := fun a h => hok a (List.mem_append.mpr (.inl h))
        rw [sizes_app, sizes_one] at hsz
        have hys : ys.length < sizeLine := by rw [List.length_append] at hxs; omega
        have hlast : (ys ++ [y])[(ys ++ [y]).length - 1]? = some y := last_of ys y
        refine ite2 (fun h3 => ?_) (fun h3 => ?_)
        · refine ⟨⟨_, SqL.of hx⟩, ⟨_, SqL.of hx⟩, _, hx, _, hlast, fun p1 h1 => ?_⟩
          rw [drop_of] at h1 ⊢
          have s1 := Same.new (o := HO.tup [sv "not", y]) h1
          have k : Tk H3 _ := (Tk.lst (o := .lst ys) hx).trans s1.tk
          exact ⟨_, s1 _ _ upd_same, hys, draw_push hp ((sm.mut hp).trans s1) (s1 _ _ upd_same) (hs1.to k) (st_mk (a := .nt b) upd_same ⟨_, rfl, hs2.to k⟩) okbs okb (by simp only [Stm.size]; omega)⟩
        · refine ite2 (fun h5 => ?_) (fun h5 => ?_)
          · refine ⟨⟨_, SqL.of hx⟩, fun p1 h1 => ⟨_, SqL.of upd_same, ?_⟩⟩
            have s1 := Same.new (o := HO.lst [sv "all", sv "some"]) h1
            have hx1 := s1 _ _ hx
            obtain ⟨wd, c, ea, okc, szc, shc⟩ : ∃ (wd : V) (c : Stm), atI [sv "all", sv "some"] (z % 8 - 6) = some wd ∧ c.ok m ∧ c.size = b.size + 1 ∧ ∀ H', IsSt H' y b → Sh H' c [wd, .int zm, y] := by
              have hb : z % 8 - 6 = 0 ∨ z % 8 - 6 = 1 := by
                have h5' : 5 < z % 8 := by simpa using h5
                omega
              rcases hb with hb | hb
              · rw [hb]; exact ⟨_, .al zm b, atI0 _ _, ⟨⟨m1, m2⟩, okb⟩, rfl, fun H' k => ⟨_, rfl, k⟩⟩
              · rw [hb]; exact ⟨_, .sm zm b, atI1 _ _ _, ⟨⟨m1, m2⟩, okb⟩, rfl, fun H' k => ⟨_, rfl, k⟩⟩
            refine ⟨_, ea, hm, ⟨_, SqL.of hx1⟩, _, hx1, _, hlast, fun p2 h2 => ?_⟩
            rw [drop_of] at h2 ⊢
            have s2 := Same.new (o := HO.tup [wd, V.int zm, y]) h2
            have k : Tk H3 _ := (s1.tk.trans (Tk.lst (o := .lst ys) hx1)).trans s2.tk
            exact ⟨_, s2 _ _ upd_same, hys, draw_push hp (((sm.trans s1).mut hp).trans s2) (s2 _ _ upd_same) (hs1.to k) (st_mk (a := c) upd_same (shc _ (hs2.to k))) okbs okc (by omega)⟩
          · refine ⟨_, .inl (SqL.of hx), ite2 (fun h1 => ?_) (fun h1 => ?_)⟩
            · have hne : ys ≠ [] := by
                rintro rfl
                simp at h1
              obtain ⟨xs, x, rfl⟩ := snoc_of hne
              obtain ⟨cs, c, rfl, hs3, hs4⟩ := Sts.snoc hs1
              have okc : c.ok m := okbs c (List.mem_append.mpr (.inr (List.mem_singleton.mpr rfl)))
              have okcs : ∀ a ∈ cs, a.ok m := fun a h => okbs a (List.mem_append.mpr (.inl h))
              rw [sizes_app, sizes_one] at hsz
              have hxs' : xs.length < sizeLine := by rw [List.length_append] at hys; omega
              refine ⟨⟨_, SqL.of hx⟩, _, hx, _, hlast, ?_⟩
              rw [drop_of]
              have k0 : Tk H3 _ := Tk.lst (o := .lst (xs ++ [x])) hx
              refine ⟨⟨_, SqL.of upd_same⟩, fun p1 h1 => ⟨_, SqL.of upd_same, ?_⟩⟩
              have s1 := Same.new (o := HO.lst [sv "and", sv "or"]) h1
              obtain ⟨wd, d, ea, okd, szd, shd⟩ : ∃ (wd : V) (d : Stm), atI [sv "and", sv "or"] (z % 8 - 4) = some wd ∧ d.ok m ∧ d.size = c.size + b.size + 1 ∧ ∀ H', IsSt H' x c → IsSt H' y b → Sh H' d [wd, x, y] := by
                have hb : z % 8 - 4 = 0 ∨ z % 8 - 4 = 1 := by
                  have a1 : ¬ 5 < z % 8 := by simpa using h5
                  have a2 : ¬ z % 8 = 3 := by simpa using h3
                  have a3 : ¬ z % 8 = 2 := by simpa using h8
                  have a4 : ¬ z % 8 < 2 := by simpa using h2
                  omega
                rcases hb with hb | hb
                · rw [hb]; exact ⟨_, .an c b, atI0 _ _, ⟨okc, okb⟩, rfl, fun H' k k' => ⟨_, _, rfl, k, k'⟩⟩
                · rw [hb]; exact ⟨_, .og c b, atI1 _ _ _, ⟨okc, okb⟩, rfl, fun H' k k' => ⟨_, _, rfl, k, k'⟩⟩
              have hx1 := s1 _ _ upd_same
              refine ⟨_, ea, ⟨_, SqL.of hx1⟩, _, hx1, _, last_of xs x, fun p2 h2 => ?_⟩
              rw [drop_of] at h2 ⊢
              have s2 := Same.new (o := HO.tup [wd, x, y]) h2
              have k : Tk H3 _ := ((k0.trans s1.tk).trans (Tk.lst (o := .lst xs) hx1)).trans s2.tk
              exact ⟨_, s2 _ _ upd_same, hxs', draw_push hp ((((sm.mut hp).trans s1).mut hp).trans s2) (s2 _ _ upd_same) (hs3.to k) (st_mk (a := d) upd_same (shd _ (hs4.to k) (hs2.to k))) okcs okd (by omega)⟩
            · exact ⟨_, _, _, _, _, _, rfl, sm, hx, hs, hok, by rw [sizes_app, sizes_one]; omega⟩
    · rintro σ H2 ⟨xs, as, o3, o4, o5, o6, rfl, sm, hx, hs, hok, hsz⟩
      simp only [rdA]
      intro p1 h1
      have s1 := Same.new (o := HO.tup [sv "yes"]) h1
      have hlen : xs.length = as.length := Paired.length hs
      have hle := sizes_len as
      rw [List.length_map] at hsz
      refine ⟨_, rfl, p, rfl, xs, .inl (SqL.of (s1 _ _ hx)), (xs.length : Int), rfl, by omega, by omega, for_range (lo := 0) (n := ((xs.length : Nat) : Int).toNat)
        (JoinInv H l m p xs as o3 o4 o5 o6)
        ⟨_, .yes, none, rfl, sm.trans s1, s1 _ _ hx, hs.to s1.tk, st_mk upd_same rfl, trivial, by simp only [Stm.size]; omega⟩ ?_ ?_⟩
      · rintro k σ H3 hk ⟨v, a, o8, rfl, sm3, hx3, hs3, ha, oka, sza⟩
        have hk' : k < xs.length := by simpa using hk
        simp only [rdA]
        obtain ⟨x, hxk⟩ : ∃ x, xs[k]? = some x := ⟨_, List.getElem?_eq_getElem hk'⟩
        obtain ⟨b, hbk, hb⟩ := hs3.get hxk
        have hbm : b ∈ as := List.mem_of_getElem? hbk
        have okb := hok b hbm
        have hst : sizes (as.take (k + 1)) = sizes (as.take k) + b.size := by
          have : as.take (k + 1) = as.take k ++ [b] := by
            rw [List.take_add_one, hbk]; rfl
          rw [this, sizes_app, sizes_one]
        intro p2 h2
        have s2 := Same.new (o := HO.lst [sv "and", sv "or"]) h2
        refine ⟨_, SqL.of upd_same, ?_⟩
        obtain ⟨wd, d, ea, okd, szd, shd⟩ : ∃ (wd : V) (d : Stm), atI [sv "and", sv "or"] ((k : Int) % 2) = some wd ∧ d.ok m ∧ d.size = b.size + a.size + 1 ∧ ∀ H', IsSt H' x b → IsSt H' v a → Sh H' d [wd, x, v] := by
          have hb : (k : Int) % 2 = 0 ∨ (k : Int) % 2 = 1 := by omega
          rcases hb with hb | hb
          · rw [hb]; exact ⟨_, .an b a, atI0 _ _, ⟨okb, oka⟩, rfl, fun H' k k' => ⟨_, _, rfl, k, k'⟩⟩
          · rw [hb]; exact ⟨_, .og b a, atI1 _ _ _, ⟨okb, oka⟩, rfl, fun H' k k' => ⟨_, _, rfl, k, k'⟩⟩
        refine ⟨_, ea, _, SqL.of (s2 _ _ hx3), _, atI_nat hxk, fun p3 h3 => ?_⟩
        have s3 := Same.new (o := HO.tup [wd, x, v]) h3
        have sA := s2.trans s3
        exact ⟨_, d, _, rfl, sm3.trans sA, sA _ _ hx3, hs3.to sA.tk, st_mk upd_same (shd _ (hb.to sA.tk) (ha.to sA.tk)), okd, by rw [hst]; omega⟩
      · rintro σ H3 ⟨v, a, o8, rfl, sm3, hx3, hs3, ha, oka, sza⟩
        refine ⟨_, rfl, q v a H3 sm3 ha oka ?_⟩
        have : sizes (as.take ((xs.length : Nat) : Int).toNat) = sizes as := by rw [Int.toNat_natCast, List.take_of_length_le (by omega)]
        rw [this, Int.toNat_natCast] at sza
        omega
end
end CN
end
section
set_option Elab.async false
set_option linter.all false
set_option maxRecDepth 100000
set_option maxHeartbeats 4000000
namespace CN
open PySem L2
seal L2.PE L2.PT L2.PS L2.PSs L2.PA L2.PPs L2.PW L2.PC L2.PG L2.PGs L2.PI L2.PO
noncomputable abbrev s_L_is_statement : Stmt := top 17
noncomputable abbrev p_L_is_statement : List Str := ["_law_found"]
theorem sc_L_is_statement : FnScope ["_law_found", "_law_todo", "_law_part", "_law_sizes"] ["_law_found"] (defScope s_L_is_statement) := ⟨rfl, rfl, rfl, by decide +kernel, rfl, by decide +kernel, by decide +kernel⟩
section
variable {P : Program} {w : World} {K : PySem.W.Frag} {mg : Str → Option Value} {base : Heap}
noncomputable def sizes0 : List (Key × V) := mergeK [] [(Sum.inr (Str.ofString "yes"), .int 1), (Sum.inr (Str.ofString "no"), .int 1), (Sum.inr (Str.ofString "switch"), .int 2), (Sum.inr (Str.ofString "not"), .int 2), (Sum.inr (Str.ofString "and"), .int 3), (Sum.inr (Str.ofString "or"), .int 3), (Sum.inr (Str.ofString "all"), .int 3), (Sum.inr (Str.ofString "some"), .int 3)]
theorem sizes0_eq : mergeK [] [((Sum.inr (Str.ofString "yes") : Key), V.int 1), (Sum.inr (Str.ofString "no"), .int 1), (Sum.inr (Str.ofString "switch"), .int 2), (Sum.inr (Str.ofString "not"), .int 2), (Sum.inr (Str.ofString "and"), .int 3), (Sum.inr (Str.ofString "or"), .int 3), (Sum.inr (Str.ofString "all"), .int 3), (Sum.inr (Str.ofString "some"), .int 3)] = sizes0 := rfl
theorem in_num (a : Stm) : inV (.str (word a)) [sv "switch", sv "all", sv "some"] = match a with | .sw _ => true | .al _ _ => true | .sm _ _ => true | _ => false := by
  cases a <;> simp only [word] <;> decide +kernel
theorem in_two (a : Stm) : inV (.str (word a)) [sv "not", sv "and", sv "or"] = match a with | .nt _ => true | .an _ _ => true | .og _ _ => true | _ => false := by
  cases a <;> simp only [word] <;> decide +kernel
theorem in_look (a : Stm) : inV (.str (word a)) [sv "all", sv "some"] = match a with | .al _ _ => true | .sm _ _ => true | _ => false := by
  cases a <;> simp only [word] <;> decide +kernel
theorem sizes0_at (a : Stm) : valV sizes0 (Sum.inr (word a)) = some (.int (arity a : Nat)) := by
  cases a <;> simp only [word, arity] <;> decide +kernel
theorem if_both {c : Bool} {A B : Prop} (h1 : c = true → B → A) (h2 : B) : if c = true then A else B := by
  cases c with
  | true => rw [if_pos rfl]; exact h1 rfl h2
  | false => rw [if_neg (by simp)]; exact h2
structure IsInv (K : PySem.W.Frag) (H : Hp) (v : V) (b : Int) (m : Nat) (σ : St) (H2 : Hp) : Prop where
  ex : ∃ (t : Addr) (xs : List V) (as : List Stm) (o2 o3 : Option V), σ = [some v, some (.ref t), o2, o3] ∧ Same H H2 ∧ H t = none ∧ H2 t = some (.lst xs) ∧ Stk K H2 xs as ∧ (∀ a ∈ as, a.ok b) ∧ sizes as = m ∧ m ≤ 1000
noncomputable def spIsSt (K : PySem.W.Frag) : Sp := fun vs H Q _ => ∃ (v : V) (a : Stm) (b : Int), vs = [v] ∧ IsSk K H v a ∧ a.ok b ∧ a.size ≤ 1000 ∧ ∀ H', Same H H' → Q (.bl true) H'
theorem ok_isSt {f fw : Addr} {fd fdw : FuncData} (BT : Bt mg) (D_L_whole : Df K mg "_law_whole" s_L_whole p_L_whole fw fdw) (D : Df K mg "_law_is_statement" s_L_is_statement p_L_is_statement f fd) : FnOk P w K mg base CX0 2 f fd p_L_is_statement (spIsSt K) := by
  have G_L_whole : FnOk P w K mg base CX0 1 fw fdw p_L_whole spWhole := ok_whole BT D_L_whole
  refine D.F.ok sc_L_is_statement (fun vs H Q E h => ?_) (fun cdv A outer s H vs Q E hr h => ?_)
  · obtain ⟨v, a, b, rfl, _⟩ := h
    rfl
  · obtain ⟨v, a, b, rfl, ha, hok, hsz, q⟩ := h
    have hu := hu_of hr
    refine ⟨_, (pss_cons (ps_set (i := 1) sc_L_is_statement.nd rfl (by first | exact Or.inl rfl | exact Or.inr rfl) (pe_lst (pa_cons (pv 0) pa_nil)))
    (pss_cons (ps_while PassesOwn.never (pt_cmpR (op_neNil hr) (pv 1) (pe_lst pa_nil) (nomark _))
      (pss_cons (ps_set (i := 2) sc_L_is_statement.nd rfl (by first | exact Or.inl rfl | exact Or.inr rfl) (pe_bm0 PySem.F.plainAttrs_list PySem.F.slot_list_pop PySem.F.type_list_pop mt_pop (pv 1)))
      (pss_cons (ps_if (PW.pt (pw_or (pt_not (pt_val (pe_callB (call_isinstT) (by rfl) BT.n_isinstance bo_isinstance (pa_cons (pv 2) (pa_cons (pe_bltn (v := .ty "tuple") (by rfl) BT.n_tuple bo_tuple rfl) pa_nil))))) (pw_or (pt_cmpR op_eq (pe_callB call_len_seq (by rfl) BT.n_len bo_len (pa_cons (pv 2) pa_nil)) pe_int (nomark _)) (pw_or1 (pt_not (pt_val (pe_callB (call_isinst) (by rfl) BT.n_isinstance bo_isinstance (pa_cons (pe_ix ix_tup (pv 2) pe_int (fun _ _ => rfl)) (pa_cons (pe_bltn (v := .ty "str") (by rfl) BT.n_str bo_str rfl) pa_nil)))))))))
        (pss_one (ps_ret pe_bl))
        pss_nil)
      (pss_cons (ps_set (i := 3) sc_L_is_statement.nd rfl (by first | exact Or.inl rfl | exact Or.inr rfl) (pe_dispC [("yes", 1, ⟨113, 22, 113, 27⟩, ⟨113, 29, 113, 30⟩), ("no", 1, ⟨113, 32, 113, 36⟩, ⟨113, 38, 113, 39⟩), ("switch", 2, ⟨113, 41, 113, 49⟩, ⟨113, 51, 113, 52⟩), ("not", 2, ⟨113, 54, 113, 59⟩, ⟨113, 61, 113, 62⟩), ("and", 3, ⟨113, 64, 113, 69⟩, ⟨113, 71, 113, 72⟩), ("or", 3, ⟨113, 74, 113, 78⟩, ⟨113, 80, 113, 81⟩), ("all", 3, ⟨113, 83, 113, 88⟩, ⟨113, 90, 113, 91⟩), ("some", 3, ⟨113, 93, 113, 99⟩, ⟨113, 101, 113, 102⟩)] (by rfl) (by rfl)))
      (pss_cons (ps_if (pt_cmpR op_ne (pe_dget2 hu (pv 3) (pe_ix ix_tup (pv 2) pe_int (fun _ _ => rfl)) pe_int ⟨by rfl, by rfl, by rfl, by rfl⟩) (pe_callB call_len_seq (by rfl) BT.n_len bo_len (pa_cons (pv 2) pa_nil)) (nomark _))
        (pss_one (ps_ret pe_bl))
        pss_nil)
      (pss_cons (ps_if (pt_cmpR op_in_seq (pe_ix ix_tup (pv 2) pe_int (fun _ _ => rfl)) (pe_lst (pa_cons pe_str (pa_cons pe_str (pa_cons pe_str pa_nil)))) (by with_unfolding_all rfl))
        (pss_one (ps_if (PW.pt (pw_or (pt_not (pt_val (pe_call G_L_whole (hr) (by rfl) D_L_whole.m D_L_whole.F.kp D_L_whole.b .nil pass0 (pa_cons (pe_ix ix_tup (pv 2) pe_int (fun _ _ => rfl)) pa_nil)))) (pw_or1 (pt_cmpR op_lt (pe_ix ix_tup (pv 2) pe_int (fun _ _ => rfl)) pe_int (nomark _)))))
          (pss_one (ps_ret pe_bl))
          pss_nil))
        pss_nil)
      (pss_cons (ps_if (pt_cmpR op_in_seq (pe_ix ix_tup (pv 2) pe_int (fun _ _ => rfl)) (pe_lst (pa_cons pe_str (pa_cons pe_str (pa_cons pe_str pa_nil)))) (by with_unfolding_all rfl))
        (pss_one (ps_set (i := 1) sc_L_is_statement.nd rfl (by first | exact Or.inl rfl | exact Or.inr rfl) (pe_op op_cat (pv 1) (pe_callTy call_list_of (by rfl) BT.n_list bo_list (pa_cons (pe_slice sl_tup (pv 2) (po_some pe_int) po_none) pa_nil)))))
        pss_nil)
      (pss_one (ps_if (pt_cmpR op_in_seq (pe_ix ix_tup (pv 2) pe_int (fun _ _ => rfl)) (pe_lst (pa_cons pe_str (pa_cons pe_str pa_nil))) (by with_unfolding_all rfl))
        (pss_one (ps_expr (pe_bm PySem.F.plainAttrs_list PySem.F.slot_list_append PySem.F.type_list_append mt_append (pv 1) (pa_cons (pe_ix ix_tup (pv 2) pe_int (fun _ _ => rfl)) pa_nil))))
        pss_nil)))))))))
    (pss_one (ps_ret pe_bl)))), ?_⟩
    simp only [rdA]
    intro t0 ht0
    have s0 := Same.new (o := HO.lst [v]) ht0
    refine ⟨IsInv K H v b, ⟨_, _, _, _, none, none, rfl, s0, ht0, upd_same, Stk.one (ha.to s0.tk), fun c hc => by rw [List.mem_singleton] at hc; rw [hc]; exact hok, sizes_one a, hsz⟩, ?_⟩
    rintro m σ H2 ⟨t, xs, as, o2, o3, rfl, sm, ht, hx, hs, hall, hm, hm2⟩
    simp only [rdA]
    intro p0 hp0
    refine ⟨_, Same.new hp0 _ _ hx, upd_same, ?_⟩
    have s0 := Same.new (o := HO.lst []) hp0
    replace hx := s0 _ _ hx
    replace sm := sm.trans s0
    replace hs := hs.to s0.tk
    generalize upd H2 p0 (HO.lst []) = H3 at *
    refine ite2 (fun he => ?_) (fun he => q H3 sm)
    refine ⟨fun σ' H' => ∃ m', m' < m ∧ IsInv K H v b m' σ' H', fun _ _ h => h, ?_⟩
    obtain ⟨ys, y, rfl⟩ := snoc_of (xs := xs) (by rintro rfl; simp at he)
    obtain ⟨bs, a1, rfl, hs1, hs2⟩ := Stk.snoc hs
    refine ⟨⟨_, SqL.of hx⟩, _, hx, _, last_of ys y, ?_⟩
    rw [drop_of]
    have k0 : Tk H3 _ := Tk.lst (o := .lst ys) hx
    replace hs1 := hs1.to k0
    replace hs2 := hs2.to k0
    replace hx : upd H3 t (HO.lst ys) t = some (.lst ys) := upd_same
    replace sm : Same H (upd H3 t (HO.lst ys)) := sm.mut ht
    generalize upd H3 t (HO.lst ys) = H4 at *
    obtain ⟨p1, cs, rfl, hp1, sh⟩ := sk_get hs2
    rw [sizes_app, sizes_one] at hm
    have okA : a1.ok b := hall a1 (List.mem_append.mpr (.inr (List.mem_singleton.mpr rfl)))
    have okB : ∀ c ∈ bs, c.ok b := fun c h => hall c (List.mem_append.mpr (.inl h))
    obtain ⟨rest, rfl, har⟩ := shk_head sh
    simp only [rdA, sizes0_eq]
    refine ⟨_, hp1, _, kit_same K "tuple", iteF ⟨_, .inr (hp1.sq), ite2 (fun h => ?_) fun _ => ⟨_, hp1.sq, _, atI0 _ _, _, .str _, _, kit_same K "str", iteF fun p2 hp2 => ⟨.inl ⟨_, .inl upd_same⟩, ?_⟩⟩⟩⟩
    · simp at h
      omega
    have s2 := Same.new (o := HO.dK sizes0) hp2
    have hd : upd H4 p2 (HO.dK sizes0) p2 = some (.dK sizes0) := upd_same
    replace hp1 := hp1.to s2.tk
    replace hx := s2 _ _ hx
    replace sm := sm.trans s2
    replace hs1 := hs1.to s2.tk
    replace sh := sh.to s2.tk
    generalize upd H4 p2 (HO.dK sizes0) = H5 at *
    refine ⟨_, hp1.sq, _, atI0 _ _, _, DGet.k (k := Sum.inr (word a1)) hd, _, .inr (hp1.sq), ?_⟩
    rw [sizes0_at, Option.getD_some, rd_neI]
    refine ⟨_, rfl, ?_⟩
    rw [List.length_cons, har]
    simp only [decide_true, Bool.not_true, Bool.false_eq_true, if_false]
    refine ⟨_, hp1.sq, _, atI0 _ _, fun p3 hp3 => ⟨_, .inl (SqL.of upd_same), rfl, rfl, ?_⟩⟩
    have s3 := Same.new (o := HO.lst [sv "switch", sv "all", sv "some"]) hp3
    replace hp1 := hp1.to s3.tk
    replace hx := s3 _ _ hx
    replace sm := sm.trans s3
    replace hs1 := hs1.to s3.tk
    replace sh := sh.to s3.tk
    generalize upd H5 p3 (HO.lst [sv "switch", sv "all", sv "some"]) = H6 at *
    refine if_both (fun hc hB => ?_) ?_
    · have hn : ∃ (n : Int) (r : List V), rest = .int n :: r ∧ 0 ≤ n := by
        rw [show [V.str (Str.ofString "switch"), V.str (Str.ofString "all"), V.str (Str.ofString "some")] = [sv "switch", sv "all", sv "some"] from rfl, in_num] at hc
        cases a1 with
        | sw n => cases sh; exact ⟨n, _, rfl, okA.1⟩
        | al n a => obtain ⟨v, e, _⟩ := sh; cases e; exact ⟨n, _, rfl, okA.1.1⟩
        | sm n a => obtain ⟨v, e, _⟩ := sh; cases e; exact ⟨n, _, rfl, okA.1.1⟩
        | yes => cases hc
        | no => cases hc
        | nt a => cases hc
        | an a b => cases hc
        | og a b => cases hc
      obtain ⟨n, r, rfl, hn0⟩ := hn
      refine ⟨_, hp1.sq, _, atI1 _ _ _, n, rfl, true, rfl, iteF ⟨_, hp1.sq, _, atI1 _ _ _, ?_⟩⟩
      rw [rd_rI0]
      refine ⟨_, rfl, ?_⟩
      rw [decide_eq_false (by omega)]
      exact iteF hB
    refine ⟨_, hp1.sq, _, atI0 _ _, fun p4 hp4 => ⟨_, .inl (SqL.of upd_same), rfl, rfl, ?_⟩⟩
    have s4 := Same.new (o := HO.lst [sv "not", sv "and", sv "or"]) hp4
    replace hp1 := hp1.to s4.tk
    replace hx := s4 _ _ hx
    replace sm := sm.trans s4
    replace hs1 := hs1.to s4.tk
    replace sh := sh.to s4.tk
    generalize upd H6 p4 (HO.lst [sv "not", sv "and", sv "or"]) = H7 at *
    rw [show [V.str (Str.ofString "not"), V.str (Str.ofString "and"), V.str (Str.ofString "or")] = [sv "not", sv "and", sv "or"] from rfl, in_two]
    refine ite2 (fun h2 => ?_) (fun h2 => ?_)
    · -- not, and, or: those within are laid behind
      obtain ⟨cs, hcs, hsc, hokc⟩ : ∃ cs : List Stm, Stk K H7 rest cs ∧ sizes cs + 1 = a1.size ∧ ∀ c ∈ cs, c.ok b := by
        cases a1 with
        | nt a => obtain ⟨v, e, k⟩ := sh; cases e; exact ⟨[a], Stk.one k, by rw [sizes_one]; rfl, fun c hc => by rw [List.mem_singleton] at hc; rw [hc]; exact okA⟩
        | an a c => obtain ⟨v, u, e, k, l⟩ := sh; cases e; exact ⟨[a, c], .cons k (.cons l .nil), by simp [sizes, Stm.size], fun d hd => by
            rcases List.mem_cons.mp hd with h | h
            · rw [h]; exact okA.1
            · rw [List.mem_singleton] at h; rw [h]; exact okA.2⟩
        | og a c => obtain ⟨v, u, e, k, l⟩ := sh; cases e; exact ⟨[a, c], .cons k (.cons l .nil), by simp [sizes, Stm.size], fun d hd => by
            rcases List.mem_cons.mp hd with h | h
            · rw [h]; exact okA.1
            · rw [List.mem_singleton] at h; rw [h]; exact okA.2⟩
        | yes => cases h2
        | no => cases h2
        | sw n => cases h2
        | al n a => cases h2
        | sm n a => cases h2
      have hl1 : rest.length = cs.length := Paired.length hcs
      have hl2 : ys.length = bs.length := Paired.length hs1
      have hl3 := sizes_len cs
      have hl4 := sizes_len bs
      have hcut : cutV (V.str (word a1) :: rest) (some 1) none = rest := by
        simp only [cutV, List.length_cons]
        rw [show HT.sIx (rest.length + 1) 0 (some 1) = 1 from by rw [show (1 : Int) = ((1 : Nat) : Int) from rfl, HT.sIx_nat]; omega, HT.sIx_none]
        simp
      have hnw : ¬ (HT.sIx (V.str (word a1) :: rest).length 0 (some 1) = 0 ∧ HT.sIx (V.str (word a1) :: rest).length (V.str (word a1) :: rest).length none = (V.str (word a1) :: rest).length) := fun z => by
        have z1 := z.1
        rw [List.length_cons, show (1 : Int) = ((1 : Nat) : Int) from rfl, HT.sIx_nat] at z1
        omega
      refine ⟨p1, _, rfl, hp1.sq, hnw, fun p5 hp5 => ⟨_, rfl, _, .inr (SqT.of upd_same), fun l hl => ?_⟩⟩
      rw [hcut] at hl ⊢
      have s5 := Same.new (o := HO.tup rest) hp5
      have s6 := Same.new (o := HO.lst rest) hl
      have sA := s5.trans s6
      refine ⟨_, sA _ _ hx, _, upd_same, Nat.le_of_lt (small1000 (by omega)), fun q' hq' => ?_⟩
      have s7 := Same.new (o := HO.lst (ys ++ rest)) hq'
      have sB := sA.trans s7
      refine ⟨_, (hp1.to sB.tk).sq, _, atI0 _ _, fun p6 hp6 => ⟨_, .inl (SqL.of upd_same), rfl, rfl, ?_⟩⟩
      have s8 := Same.new (o := HO.lst [sv "all", sv "some"]) hp6
      have sC := sB.trans s8
      rw [show [V.str (Str.ofString "all"), V.str (Str.ofString "some")] = [sv "all", sv "some"] from rfl, in_look]
      refine ite2 (fun h3 => ?_) (fun h3 => ?_)
      · exfalso
        cases a1 with
        | nt a => cases h3
        | an a c => cases h3
        | og a c => cases h3
        | yes => cases h2
        | no => cases h2
        | sw n => cases h2
        | al n a => cases h2
        | sm n a => cases h2
      · have hq0 : H q' = none := (sm.trans sA).free hq'
        refine ⟨sizes bs + sizes cs, by omega, q', ys ++ rest, bs ++ cs, _, _, rfl, sm.trans sC, hq0, s8 _ _ upd_same, (hs1.to sC.tk).app (hcs.to sC.tk), fun d hd => ?_, sizes_app _ _, by omega⟩
        rcases List.mem_append.mp hd with h | h
        · exact okB d h
        · exact hokc d h
    · refine ⟨_, hp1.sq, _, atI0 _ _, fun p5 hp5 => ⟨_, .inl (SqL.of upd_same), rfl, rfl, ?_⟩⟩
      have s5 := Same.new (o := HO.lst [sv "all", sv "some"]) hp5
      rw [show [V.str (Str.ofString "all"), V.str (Str.ofString "some")] = [sv "all", sv "some"] from rfl, in_look]
      have hsz1 := a1.size_pos
      have hl2 : ys.length = bs.length := Paired.length hs1
      have hl4 := sizes_len bs
      refine ite2 (fun h3 => ?_) (fun h3 => ?_)
      · obtain ⟨n, u, c, er, hu, hsc, hokc⟩ : ∃ (n : Int) (u : V) (c : Stm), rest = [.int n, u] ∧ IsSk K H7 u c ∧ c.size + 1 = a1.size ∧ c.ok b := by
          cases a1 with
          | al n a => obtain ⟨v, e, k⟩ := sh; cases e; exact ⟨n, v, a, rfl, k, rfl, okA.2⟩
          | sm n a => obtain ⟨v, e, k⟩ := sh; cases e; exact ⟨n, v, a, rfl, k, rfl, okA.2⟩
          | yes => cases h3
          | no => cases h3
          | sw n => cases h3
          | nt a => cases h3
          | an a c => cases h3
          | og a c => cases h3
        subst er
        refine ⟨⟨_, SqL.of (s5 _ _ hx)⟩, _, (hp1.to s5.tk).sq, _, atI2 _ _ _ _, _, s5 _ _ hx, small1000 (by omega), sizes bs + c.size, by omega, t, ys ++ [u], bs ++ [c], _, _, rfl, (sm.trans s5).mut ht, ht, upd_same, ?_, fun d hd => ?_, by rw [sizes_app, sizes_one], by omega⟩
        · have k : Tk H7 _ := s5.tk.trans (Tk.lst (o := .lst (ys ++ [u])) (s5 _ _ hx))
          exact (hs1.to k).app (Stk.one (hu.to k))
        · rcases List.mem_append.mp hd with h | h
          · exact okB d h
          · rw [List.mem_singleton] at h; rw [h]; exact hokc
      · exact ⟨sizes bs, by omega, t, ys, bs, _, _, rfl, sm.trans s5, ht, s5 _ _ hx, hs1.to s5.tk, okB, rfl, by omega⟩
end
end CN
end
section
set_option Elab.async false
set_option linter.all false
set_option maxRecDepth 100000
set_option maxHeartbeats 4000000
namespace CN
open PySem L2
seal L2.PE L2.PT L2.PS L2.PSs L2.PA L2.PPs L2.PW L2.PC L2.PG L2.PGs L2.PI L2.PO
theorem num_len {n : Int} (h0 : 0 ≤ n) (h : n < 10 ^ 300) : (numS n).length ≤ 300 := PyProof.Rows.toString_length_le h0 (by decide) h
theorem log_small {n : Int} (h0 : 0 ≤ n) (h : n < 10 ^ 300) : n.natAbs.log2 < 1920 := by
  by_cases hz : n.natAbs = 0
  · rw [hz]; decide
  · rw [Nat.log2_lt hz]
    have h1 : n.natAbs < 10 ^ 300 := by omega
    have h2 : (10 : Nat) ^ 60 ≤ 2 ^ 1920 := by decide +kernel
    omega
theorem len1 : (Str.ofString "Y").length = 1 ∧ (Str.ofString "N").length = 1 ∧ (Str.ofString "!").length = 1 ∧ (Str.ofString "(").length = 1 ∧ (Str.ofString ")").length = 1 ∧ (Str.ofString "&").length = 1 ∧ (Str.ofString "|").length = 1 ∧ (Str.ofString "A").length = 1 ∧ (Str.ofString "S").length = 1 ∧ (Str.ofString ".").length = 1 := by decide +kernel
theorem line_len : ∀ (a : Stm), a.ok (10 ^ 300) → (line a).length ≤ 310 * a.size := by
  obtain ⟨l1, l2, l3, l4, l5, l6, l7, l8, l9, l10⟩ := len1
  intro a
  induction a with
  | yes => intro _; simp only [line, Stm.size, l1]; omega
  | no => intro _; simp only [line, Stm.size, l2]; omega
  | sw n => intro h; have := num_len h.1 h.2; simp only [line, Stm.size]; omega
  | nt a ih => intro h; have := ih h; simp only [line, Stm.size, app_len, l3]; omega
  | an x y i j => intro h; have := i h.1; have := j h.2; simp only [line, Stm.size, app_len, l4, l5, l6]; omega
  | og x y i j => intro h; have := i h.1; have := j h.2; simp only [line, Stm.size, app_len, l4, l5, l7]; omega
  | al n a ih => intro h; have := ih h.2; have := num_len h.1.1 h.1.2; simp only [line, Stm.size, app_len, l8, l10]; omega
  | sm n a ih => intro h; have := ih h.2; have := num_len h.1.1 h.1.2; simp only [line, Stm.size, app_len, l9, l10]; omega
noncomputable abbrev Pc := Sum Str Stm
noncomputable def PcIs (K : PySem.W.Frag) (H : Hp) (v : V) : Pc → Prop
  | .inl x => v = .str x
  | .inr a => IsSk K H v a
noncomputable def pcOut : Pc → Str
  | .inl x => x
  | .inr a => line a
noncomputable def pcWt : Pc → Nat
  | .inl _ => 1
  | .inr a => 5 * a.size
noncomputable def pcOk : Pc → Prop
  | .inl _ => True
  | .inr a => a.ok (10 ^ 300)
noncomputable def outs : List Pc → Str
  | [] => Str.ofString ""
  | p :: ps => pcOut p ++ outs ps
theorem outs_app : ∀ xs ys : List Pc, outs (xs ++ ys) = outs xs ++ outs ys
  | [], ys => (nil_app _).symm
  | p :: ps, ys => by rw [List.cons_append, outs, outs, outs_app ps ys, app_assoc]
noncomputable def wts (ps : List Pc) : Nat := (ps.map pcWt).sum
theorem wts_app (ps qs : List Pc) : wts (ps ++ qs) = wts ps + wts qs := by simp [wts]
theorem wts_cons (p : Pc) (ps : List Pc) : wts (p :: ps) = pcWt p + wts ps := by simp [wts]
theorem wts_nil : wts [] = 0 := rfl
theorem wts_len (ps : List Pc) : ps.length ≤ wts ps := by
  induction ps with
  | nil => simp [wts]
  | cons p ps ih =>
    rw [wts_cons, List.length_cons]
    have : 1 ≤ pcWt p := by
      cases p with
      | inl x => exact Nat.le_refl _
      | inr a => have := a.size_pos; simp only [pcWt]; omega
    omega
noncomputable abbrev Pcs (K : PySem.W.Frag) (H : Hp) : List V → List Pc → Prop := Paired (PcIs K H)
theorem PcIs.to {K : PySem.W.Frag} {H H' : Hp} (k : Tk H H') {v : V} : ∀ {p : Pc}, PcIs K H v p → PcIs K H' v p
  | .inl _, h => h
  | .inr _, h => DK.to h k
theorem Pcs.to {K : PySem.W.Frag} {H H' : Hp} (k : Tk H H') : ∀ {xs : List V} {as : List Pc}, Pcs K H xs as → Pcs K H' xs as
  | _, _, .nil => .nil
  | _, _, .cons a b => .cons (PcIs.to k a) (Pcs.to k b)
theorem Pcs.app {K : PySem.W.Frag} {H : Hp} : ∀ {xs ys : List V} {as bs : List Pc}, Pcs K H xs as → Pcs K H ys bs → Pcs K H (xs ++ ys) (as ++ bs)
  | _, _, _, _, .nil, s => s
  | _, _, _, _, .cons r t, s => .cons r (Pcs.app t s)
theorem Pcs.snoc {K : PySem.W.Frag} {H : Hp} : ∀ {xs : List V} {x : V} {as : List Pc}, Pcs K H (xs ++ [x]) as → ∃ bs b, as = bs ++ [b] ∧ Pcs K H xs bs ∧ PcIs K H x b
  | [], x, _, .cons a .nil => ⟨[], _, rfl, .nil, a⟩
  | y :: xs, x, _, .cons a r => by
    obtain ⟨bs, b, rfl, h1, h2⟩ := Pcs.snoc (xs := xs) r
    exact ⟨_ :: bs, b, rfl, .cons a h1, h2⟩
structure LnInv (K : PySem.W.Frag) (H : Hp) (v : V) (a0 : Stm) (m : Nat) (σ : St) (H2 : Hp) : Prop where
  ex : ∃ (t : Addr) (xs : List V) (ps : List Pc) (cur : Str) (o3 : Option V), σ = [some v, some (.str cur), some (.ref t), o3] ∧ Same H H2 ∧ H t = none ∧ H2 t = some (.lst xs) ∧ Pcs K H2 xs ps ∧ (∀ p ∈ ps, pcOk p) ∧ cur ++ outs ps.reverse = line a0 ∧ wts ps = m ∧ m ≤ 5000
theorem small9 {n : Nat} (h : n ≤ 1000000) : n ≤ sizeLine := Nat.le_trans h (by decide)
theorem lt9 {n : Nat} (h : n ≤ 1000000) : n < sizeLine := Nat.lt_of_le_of_lt h (by decide)
theorem in_yn (a : Stm) : inV (.str (word a)) [sv "yes", sv "no"] = match a with | .yes => true | .no => true | _ => false := by
  cases a <;> simp only [word] <;> decide +kernel
theorem w_sw (a : Stm) : decide (word a = Str.ofString "switch") = match a with | .sw _ => true | _ => false := by
  cases a with
  | yes => exact decide_eq_false (by decide +kernel : ¬ Str.ofString "yes" = Str.ofString "switch")
  | no => exact decide_eq_false (by decide +kernel : ¬ Str.ofString "no" = Str.ofString "switch")
  | sw n => exact decide_eq_true rfl
  | nt a => exact decide_eq_false (by decide +kernel : ¬ Str.ofString "not" = Str.ofString "switch")
  | an a b => exact decide_eq_false (by decide +kernel : ¬ Str.ofString "and" = Str.ofString "switch")
  | og a b => exact decide_eq_false (by decide +kernel : ¬ Str.ofString "or" = Str.ofString "switch")
  | al n a => exact decide_eq_false (by decide +kernel : ¬ Str.ofString "all" = Str.ofString "switch")
  | sm n a => exact decide_eq_false (by decide +kernel : ¬ Str.ofString "some" = Str.ofString "switch")
theorem w_nt (a : Stm) : decide (word a = Str.ofString "not") = match a with | .nt _ => true | _ => false := by
  cases a with
  | yes => exact decide_eq_false (by decide +kernel : ¬ Str.ofString "yes" = Str.ofString "not")
  | no => exact decide_eq_false (by decide +kernel : ¬ Str.ofString "no" = Str.ofString "not")
  | sw n => exact decide_eq_false (by decide +kernel : ¬ Str.ofString "switch" = Str.ofString "not")
  | nt a => exact decide_eq_true rfl
  | an a b => exact decide_eq_false (by decide +kernel : ¬ Str.ofString "and" = Str.ofString "not")
  | og a b => exact decide_eq_false (by decide +kernel : ¬ Str.ofString "or" = Str.ofString "not")
  | al n a => exact decide_eq_false (by decide +kernel : ¬ Str.ofString "all" = Str.ofString "not")
  | sm n a => exact decide_eq_false (by decide +kernel : ¬ Str.ofString "some" = Str.ofString "not")
theorem w_yes (a : Stm) : decide (word a = Str.ofString "yes") = match a with | .yes => true | _ => false := by
  cases a with
  | yes => exact decide_eq_true rfl
  | no => exact decide_eq_false (by decide +kernel : ¬ Str.ofString "no" = Str.ofString "yes")
  | sw n => exact decide_eq_false (by decide +kernel : ¬ Str.ofString "switch" = Str.ofString "yes")
  | nt a => exact decide_eq_false (by decide +kernel : ¬ Str.ofString "not" = Str.ofString "yes")
  | an a b => exact decide_eq_false (by decide +kernel : ¬ Str.ofString "and" = Str.ofString "yes")
  | og a b => exact decide_eq_false (by decide +kernel : ¬ Str.ofString "or" = Str.ofString "yes")
  | al n a => exact decide_eq_false (by decide +kernel : ¬ Str.ofString "all" = Str.ofString "yes")
  | sm n a => exact decide_eq_false (by decide +kernel : ¬ Str.ofString "some" = Str.ofString "yes")
theorem w_all (a : Stm) : decide (word a = Str.ofString "all") = match a with | .al _ _ => true | _ => false := by
  cases a with
  | yes => exact decide_eq_false (by decide +kernel : ¬ Str.ofString "yes" = Str.ofString "all")
  | no => exact decide_eq_false (by decide +kernel : ¬ Str.ofString "no" = Str.ofString "all")
  | sw n => exact decide_eq_false (by decide +kernel : ¬ Str.ofString "switch" = Str.ofString "all")
  | nt a => exact decide_eq_false (by decide +kernel : ¬ Str.ofString "not" = Str.ofString "all")
  | an a b => exact decide_eq_false (by decide +kernel : ¬ Str.ofString "and" = Str.ofString "all")
  | og a b => exact decide_eq_false (by decide +kernel : ¬ Str.ofString "or" = Str.ofString "all")
  | al n a => exact decide_eq_true rfl
  | sm n a => exact decide_eq_false (by decide +kernel : ¬ Str.ofString "some" = Str.ofString "all")
theorem w_and (a : Stm) : decide (word a = Str.ofString "and") = match a with | .an _ _ => true | _ => false := by
  cases a with
  | yes => exact decide_eq_false (by decide +kernel : ¬ Str.ofString "yes" = Str.ofString "and")
  | no => exact decide_eq_false (by decide +kernel : ¬ Str.ofString "no" = Str.ofString "and")
  | sw n => exact decide_eq_false (by decide +kernel : ¬ Str.ofString "switch" = Str.ofString "and")
  | nt a => exact decide_eq_false (by decide +kernel : ¬ Str.ofString "not" = Str.ofString "and")
  | an a b => exact decide_eq_true rfl
  | og a b => exact decide_eq_false (by decide +kernel : ¬ Str.ofString "or" = Str.ofString "and")
  | al n a => exact decide_eq_false (by decide +kernel : ¬ Str.ofString "all" = Str.ofString "and")
  | sm n a => exact decide_eq_false (by decide +kernel : ¬ Str.ofString "some" = Str.ofString "and")
noncomputable abbrev s_L_line_of : Stmt := top 18
noncomputable abbrev p_L_line_of : List Str := ["_law_statement"]
theorem sc_L_line_of : FnScope ["_law_statement", "_law_line", "_law_todo", "_law_part"] ["_law_statement"] (defScope s_L_line_of) := ⟨rfl, rfl, rfl, by decide +kernel, rfl, by decide +kernel, by decide +kernel⟩
section
variable {P : Program} {w : World} {K : PySem.W.Frag} {mg : Str → Option Value} {base : Heap}
noncomputable def spLine (K : PySem.W.Frag) : Sp := fun vs H Q _ => ∃ (v : V) (a : Stm), vs = [v] ∧ IsSk K H v a ∧ a.ok (10 ^ 300) ∧ a.size ≤ 1000 ∧ ∀ H', Same H H' → Q (.str (line a)) H'
theorem ok_line {f : Addr} {fd : FuncData} (BT : Bt mg) (D : Df K mg "_law_line_of" s_L_line_of p_L_line_of f fd) : FnOk P w K mg base CX0 1 f fd p_L_line_of (spLine K) := by
  refine D.F.ok sc_L_line_of (fun vs H Q E h => ?_) (fun cdv A outer s H vs Q E hr h => ?_)
  · obtain ⟨v, a, rfl, _⟩ := h
    rfl
  · obtain ⟨v, a, rfl, ha, hok, hsz, q⟩ := h
    refine ⟨_, (pss_cons (ps_set (i := 1) sc_L_line_of.nd rfl (by first | exact Or.inl rfl | exact Or.inr rfl) pe_str)
    (pss_cons (ps_set (i := 2) sc_L_line_of.nd rfl (by first | exact Or.inl rfl | exact Or.inr rfl) (pe_lst (pa_cons (pv 0) pa_nil)))
    (pss_cons (ps_while PassesOwn.never (pt_cmpR (op_neNil hr) (pv 2) (pe_lst pa_nil) (nomark _))
      (pss_cons (ps_set (i := 3) sc_L_line_of.nd rfl (by first | exact Or.inl rfl | exact Or.inr rfl) (pe_bm0 PySem.F.plainAttrs_list PySem.F.slot_list_pop PySem.F.type_list_pop mt_pop (pv 2)))
      (pss_one (ps_if (pt_val (pe_callB (call_isinst.or call_isinstT) (by rfl) BT.n_isinstance bo_isinstance (pa_cons (pv 3) (pa_cons (pe_bltn (v := .ty "str") (by rfl) BT.n_str bo_str rfl) pa_nil))))
        (pss_one (ps_set (i := 1) sc_L_line_of.nd rfl (by first | exact Or.inl rfl | exact Or.inr rfl) (pe_op op_add_str (pv 1) (pv 3))))
        (pss_one (ps_if (pt_cmpR op_in_seq (pe_ix ix_tup (pv 3) pe_int (fun _ _ => rfl)) (pe_lst (pa_cons pe_str (pa_cons pe_str pa_nil))) (by with_unfolding_all rfl))
          (pss_one (ps_set (i := 1) sc_L_line_of.nd rfl (by first | exact Or.inl rfl | exact Or.inr rfl) (pe_op op_add_str (pv 1) (pe_ix ix_list (pe_lst (pa_cons pe_str (pa_cons pe_str pa_nil))) (pe_callTy call_int1 (by rfl) BT.n_int bo_int (pa_cons (pe_cmpR op_eq (pe_ix ix_tup (pv 3) pe_int (fun _ _ => rfl)) pe_str (nomark _)) pa_nil)) (fun _ _ => rfl)))))
          (pss_one (ps_if (pt_cmpR op_eq (pe_ix ix_tup (pv 3) pe_int (fun _ _ => rfl)) pe_str (nomark _))
            (pss_one (ps_set (i := 1) sc_L_line_of.nd rfl (by first | exact Or.inl rfl | exact Or.inr rfl) (pe_op op_add_str (pv 1) (pe_callTy call_str_int (by rfl) BT.n_str bo_str (pa_cons (pe_ix ix_tup (pv 3) pe_int (fun _ _ => rfl)) pa_nil)))))
            (pss_one (ps_if (pt_cmpR op_eq (pe_ix ix_tup (pv 3) pe_int (fun _ _ => rfl)) pe_str (nomark _))
              (pss_cons (ps_set (i := 1) sc_L_line_of.nd rfl (by first | exact Or.inl rfl | exact Or.inr rfl) (pe_op op_add_str (pv 1) pe_str))
              (pss_one (ps_expr (pe_bm PySem.F.plainAttrs_list PySem.F.slot_list_append PySem.F.type_list_append mt_append (pv 2) (pa_cons (pe_ix ix_tup (pv 3) pe_int (fun _ _ => rfl)) pa_nil)))))
              (pss_one (ps_if (pt_cmpR op_in_seq (pe_ix ix_tup (pv 3) pe_int (fun _ _ => rfl)) (pe_lst (pa_cons pe_str (pa_cons pe_str pa_nil))) (by with_unfolding_all rfl))
                (pss_cons (ps_set (i := 1) sc_L_line_of.nd rfl (by first | exact Or.inl rfl | exact Or.inr rfl) (pe_op op_add_str (pe_op op_add_str (pe_op op_add_str (pv 1) (pe_ix ix_list (pe_lst (pa_cons pe_str (pa_cons pe_str pa_nil))) (pe_callTy call_int1 (by rfl) BT.n_int bo_int (pa_cons (pe_cmpR op_eq (pe_ix ix_tup (pv 3) pe_int (fun _ _ => rfl)) pe_str (nomark _)) pa_nil)) (fun _ _ => rfl))) (pe_callTy call_str_int (by rfl) BT.n_str bo_str (pa_cons (pe_ix ix_tup (pv 3) pe_int (fun _ _ => rfl)) pa_nil))) pe_str))
                (pss_one (ps_expr (pe_bm PySem.F.plainAttrs_list PySem.F.slot_list_append PySem.F.type_list_append mt_append (pv 2) (pa_cons (pe_ix ix_tup (pv 3) pe_int (fun _ _ => rfl)) pa_nil)))))
                (pss_cons (ps_set (i := 1) sc_L_line_of.nd rfl (by first | exact Or.inl rfl | exact Or.inr rfl) (pe_op op_add_str (pv 1) pe_str))
                (pss_one (ps_set (i := 2) sc_L_line_of.nd rfl (by first | exact Or.inl rfl | exact Or.inr rfl) (pe_op op_cat (pv 2) (pe_lst (pa_cons pe_str (pa_cons (pe_ix ix_tup (pv 3) pe_int (fun _ _ => rfl)) (pa_cons (pe_ix ix_list (pe_lst (pa_cons pe_str (pa_cons pe_str pa_nil))) (pe_callTy call_int1 (by rfl) BT.n_int bo_int (pa_cons (pe_cmpR op_eq (pe_ix ix_tup (pv 3) pe_int (fun _ _ => rfl)) pe_str (nomark _)) pa_nil)) (fun _ _ => rfl)) (pa_cons (pe_ix ix_tup (pv 3) pe_int (fun _ _ => rfl)) pa_nil)))))))))))))))))))))
    (pss_one (ps_ret (pv 1)))))), ?_⟩
    simp only [rdA]
    intro t0 ht0
    have s0 := Same.new (o := HO.lst [v]) ht0
    have hln := line_len a hok
    refine ⟨LnInv K H v a, ⟨_, t0, [v], [.inr a], Str.ofString "", none, rfl, s0, ht0, upd_same, .cons (show PcIs K _ v (.inr a) from ha.to s0.tk) .nil, fun p hp => by rw [List.mem_singleton] at hp; rw [hp]; exact hok, ?_, rfl, by rw [wts_cons, wts_nil]; simp only [pcWt]; omega⟩, ?_⟩
    · show Str.ofString "" ++ (line a ++ Str.ofString "") = line a
      rw [nil_app, app_nil]
    rintro m σ H2 ⟨t, xs, ps, cur, o3, rfl, sm, ht, hx, hs, hall, hout, hm, hm2⟩
    simp only [rdA]
    intro p0 hp0
    refine ⟨_, Same.new hp0 _ _ hx, upd_same, ?_⟩
    have s0 := Same.new (o := HO.lst []) hp0
    replace hx := s0 _ _ hx
    replace sm := sm.trans s0
    replace hs := hs.to s0.tk
    generalize upd H2 p0 (HO.lst []) = H3 at *
    refine ite2 (fun he => ?_) (fun he => ?_)
    · refine ⟨fun σ' H' => ∃ m', m' < m ∧ LnInv K H v a m' σ' H', fun _ _ h => h, ?_⟩
      obtain ⟨ys, y, rfl⟩ := snoc_of (xs := xs) (by rintro rfl; simp at he)
      obtain ⟨bs, pc, rfl, hs1, hs2⟩ := Pcs.snoc hs
      refine ⟨⟨_, SqL.of hx⟩, _, hx, _, last_of ys y, ?_⟩
      rw [drop_of]
      have k0 : Tk H3 _ := Tk.lst (o := .lst ys) hx
      replace hs1 := hs1.to k0
      replace hs2 := hs2.to k0
      replace hx : upd H3 t (HO.lst ys) t = some (.lst ys) := upd_same
      replace sm : Same H (upd H3 t (HO.lst ys)) := sm.mut ht
      generalize upd H3 t (HO.lst ys) = H4 at *
      rw [wts_app, wts_cons, wts_nil] at hm
      rw [List.reverse_append, List.reverse_cons, List.reverse_nil, List.nil_append, List.cons_append, List.nil_append, outs] at hout
      have okA : pcOk pc := hall pc (List.mem_append.mpr (.inr (List.mem_singleton.mpr rfl)))
      have okB : ∀ c ∈ bs, pcOk c := fun c h => hall c (List.mem_append.mpr (.inl h))
      have hlen : cur.length + (pcOut pc).length ≤ 310000 := by
        have := congrArg Str.length hout
        rw [app_len, app_len] at this
        omega
      have hyl : ys.length ≤ 5000 := by
        have h1 : ys.length = bs.length := Paired.length hs1
        have h2 := wts_len bs
        omega
      cases pc with
      | inl x =>
        cases (show y = .str x from hs2)
        refine .inl ⟨_, .str x, _, kit_same K "str", iteT ⟨x, rfl, small9 (by simp only [pcOut] at hlen; omega), wts bs, by simp only [pcWt] at hm; omega, t, ys, bs, cur ++ x, _, rfl, sm, ht, hx, hs1, okB, ?_, rfl, by omega⟩⟩
        rw [app_assoc]; exact hout
      | inr c =>
        obtain ⟨p1, cs, rfl, hp1, sh⟩ := sk_get (show IsSk K H4 y c from hs2)
        obtain ⟨rest, rfl, har⟩ := shk_head sh
        refine .inr ⟨_, rfl, _, hp1, _, kit_ts K, iteF ?_⟩
        simp only [rdA]
        simp only [pcWt] at hm
        simp only [pcOut] at hlen hout
        have okC : c.ok (10 ^ 300) := okA
        refine ⟨_, hp1.sq, _, atI0 _ _, fun p2 hp2 => ⟨_, .inl (SqL.of upd_same), rfl, rfl, ?_⟩⟩
        have s2 := Same.new (o := HO.lst [sv "yes", sv "no"]) hp2
        replace hp1 := hp1.to s2.tk
        replace hx := s2 _ _ hx
        replace sm := sm.trans s2
        replace hs1 := hs1.to s2.tk
        replace hs2 : IsSk K _ _ c := DK.to hs2 s2.tk
        replace sh := sh.to s2.tk
        generalize upd H4 p2 (HO.lst [sv "yes", sv "no"]) = H5 at *
        rw [show [V.str (Str.ofString "yes"), V.str (Str.ofString "no")] = [sv "yes", sv "no"] from rfl, in_yn]
        refine ite2 (fun h2 => ?_) (fun h2 => ?_)
        · intro p3 hp3
          have s3 := Same.new (o := HO.lst [sv "N", sv "Y"]) hp3
          refine ⟨_, (hp1.to s3.tk).sq, _, atI0 _ _, ?_⟩
          rw [rd_eqS, w_yes]
          refine .inr ⟨_, rfl, _, SqL.of upd_same, ?_⟩
          cases c with
          | yes =>
            refine ⟨_, atI1 _ _ _, _, rfl, small9 (by simp only [line] at hlen; omega), wts bs, by simp only [Stm.size] at hm; omega, t, ys, bs, _, _, rfl, sm.trans s3, ht, s3 _ _ hx, hs1.to s3.tk, okB, ?_, rfl, by omega⟩
            rw [app_assoc]; exact hout
          | no =>
            refine ⟨_, atI0 _ _, _, rfl, small9 (by simp only [line] at hlen; omega), wts bs, by simp only [Stm.size] at hm; omega, t, ys, bs, _, _, rfl, sm.trans s3, ht, s3 _ _ hx, hs1.to s3.tk, okB, ?_, rfl, by omega⟩
            rw [app_assoc]; exact hout
          | sw n => cases h2
          | nt a => cases h2
          | an a b => cases h2
          | og a b => cases h2
          | al n a => cases h2
          | sm n a => cases h2
        · refine ⟨_, hp1.sq, _, atI0 _ _, ?_⟩
          rw [rd_eqS, w_sw]
          refine ⟨_, rfl, ite2 (fun h3 => ?_) (fun h3 => ?_)⟩
          · cases c with
            | sw n =>
              cases sh
              refine ⟨_, hp1.sq, _, atI1 _ _ _, n, rfl, log_small okC.1 okC.2, small9 (by simp only [line, numS] at hlen; omega), wts bs, by simp only [Stm.size] at hm; omega, t, ys, bs, _, _, rfl, sm, ht, hx, hs1, okB, ?_, rfl, by omega⟩
              rw [app_assoc]; exact hout
            | yes => cases h3
            | no => cases h3
            | nt a => cases h3
            | an a b => cases h3
            | og a b => cases h3
            | al n a => cases h3
            | sm n a => cases h3
          · refine ⟨_, hp1.sq, _, atI0 _ _, ?_⟩
            rw [rd_eqS, w_nt]
            refine ⟨_, rfl, ite2 (fun h4 => ?_) (fun h4 => ?_)⟩
            · cases c with
              | nt d =>
                obtain ⟨u, e, hu⟩ := sh
                cases e
                have k : Tk H5 _ := Tk.lst (o := .lst (ys ++ [u])) hx
                have l3 := len1.2.2.1
                refine ⟨small9 (by simp only [line, app_len] at hlen; omega), ⟨_, SqL.of hx⟩, _, hp1.sq, _, atI1 _ _ _, _, hx, lt9 (by omega), wts bs + 5 * d.size, by simp only [Stm.size] at hm; omega, t, ys ++ [u], bs ++ [.inr d], _, _, rfl, sm.mut ht, ht, upd_same, (hs1.to k).app (.cons (show PcIs K _ u (.inr d) from hu.to k) .nil), fun p hp => ?_, ?_, ?_, ?_⟩
                · rcases List.mem_append.mp hp with h | h
                  · exact okB p h
                  · rw [List.mem_singleton] at h; rw [h]; exact okC
                · rw [List.reverse_append, List.reverse_cons, List.reverse_nil, List.nil_append, List.cons_append, List.nil_append, outs, ← hout]
                  simp only [line, pcOut, app_assoc]
                · rw [wts_app, wts_cons, wts_nil]; rfl
                · simp only [Stm.size] at hm; omega
              | yes => cases h4
              | no => cases h4
              | sw n => cases h4
              | an a b => cases h4
              | og a b => cases h4
              | al n a => cases h4
              | sm n a => cases h4
            · refine ⟨_, hp1.sq, _, atI0 _ _, fun p3 hp3 => ⟨_, .inl (SqL.of upd_same), rfl, rfl, ?_⟩⟩
              have s3 := Same.new (o := HO.lst [sv "all", sv "some"]) hp3
              replace hp1 := hp1.to s3.tk
              replace hx := s3 _ _ hx
              replace sm := sm.trans s3
              replace hs1 := hs1.to s3.tk
              replace hs2 : IsSk K _ _ c := DK.to hs2 s3.tk
              replace sh := sh.to s3.tk
              generalize upd H5 p3 (HO.lst [sv "all", sv "some"]) = H6 at *
              rw [show [V.str (Str.ofString "all"), V.str (Str.ofString "some")] = [sv "all", sv "some"] from rfl, in_look]
              refine ite2 (fun h5 => ?_) (fun h5 => ?_)
              · intro p4 hp4
                obtain ⟨n, u, d, wd, er, hu, hsc, hokn, hokd, hl, hsel⟩ : ∃ (n : Int) (u : V) (d : Stm) (wd : Str), rest = [.int n, u] ∧ IsSk K H6 u d ∧ d.size + 1 = c.size ∧ (0 ≤ n ∧ n < 10 ^ 300) ∧ d.ok (10 ^ 300) ∧ line c = wd ++ numS n ++ Str.ofString "." ++ line d ∧
                    atI [sv "S", sv "A"] (if decide (word c = Str.ofString "all") = true then 1 else 0) = some (.str wd) := by
                  cases c with
                  | al n a => obtain ⟨v, e, k⟩ := sh; cases e; exact ⟨n, v, a, _, rfl, k, rfl, okC.1, okC.2, rfl, by rw [w_all]; exact atI1 _ _ _⟩
                  | sm n a => obtain ⟨v, e, k⟩ := sh; cases e; exact ⟨n, v, a, _, rfl, k, rfl, okC.1, okC.2, rfl, by rw [w_all]; exact atI0 _ _⟩
                  | yes => cases h5
                  | no => cases h5
                  | sw n => cases h5
                  | nt a => cases h5
                  | an a b => cases h5
                  | og a b => cases h5
                subst er
                have s4 := Same.new (o := HO.lst [sv "S", sv "A"]) hp4
                refine ⟨_, (hp1.to s4.tk).sq, _, atI0 _ _, ?_⟩
                rw [rd_eqS]
                have hw := congrArg Str.length hl
                simp only [app_len] at hw
                have hx4 := s4 _ _ hx
                have k : Tk H6 _ := s4.tk.trans (Tk.lst (o := .lst (ys ++ [u])) hx4)
                refine .inr ⟨_, rfl, _, SqL.of upd_same, _, hsel, _, rfl, small9 (by omega), _, (hp1.to s4.tk).sq, _, atI1 _ _ _, n, rfl, log_small hokn.1 hokn.2, small9 ?_, small9 ?_, ⟨_, SqL.of hx4⟩, _, (hp1.to s4.tk).sq, _, atI2 _ _ _ _, _, hx4, lt9 (by omega), wts bs + 5 * d.size, by omega, t, ys ++ [u], bs ++ [.inr d], _, _, rfl, (sm.trans s4).mut ht, ht, upd_same, (hs1.to k).app (.cons (show PcIs K _ u (.inr d) from hu.to k) .nil), fun p hp => ?_, ?_, ?_, ?_⟩
                · simp only [app_len, numS] at *; omega
                · simp only [app_len, numS] at *; omega
                · rcases List.mem_append.mp hp with h | h
                  · exact okB p h
                  · rw [List.mem_singleton] at h; rw [h]; exact hokd
                · rw [List.reverse_append, List.reverse_cons, List.reverse_nil, List.nil_append, List.cons_append, List.nil_append, outs, ← hout, hl]
                  simp only [numS, pcOut, app_assoc]
                · rw [wts_app, wts_cons, wts_nil]; rfl
                · omega
              · obtain ⟨u1, u2, d1, d2, wd, er, hu1, hu2, hsc, hok1, hok2, hl, hwl, hsel⟩ : ∃ (u1 u2 : V) (d1 d2 : Stm) (wd : Str), rest = [u1, u2] ∧ IsSk K H6 u1 d1 ∧ IsSk K H6 u2 d2 ∧ d1.size + d2.size + 1 = c.size ∧ d1.ok (10 ^ 300) ∧ d2.ok (10 ^ 300) ∧ line c = Str.ofString "(" ++ line d1 ++ wd ++ line d2 ++ Str.ofString ")" ∧ wd.length = 1 ∧
                    atI [sv "|", sv "&"] (if decide (word c = Str.ofString "and") = true then 1 else 0) = some (.str wd) := by
                  cases c with
                  | an a b => obtain ⟨v, u, e, k, l⟩ := sh; cases e; exact ⟨v, u, a, b, _, rfl, k, l, rfl, okC.1, okC.2, rfl, len1.2.2.2.2.2.1, by rw [w_and]; exact atI1 _ _ _⟩
                  | og a b => obtain ⟨v, u, e, k, l⟩ := sh; cases e; exact ⟨v, u, a, b, _, rfl, k, l, rfl, okC.1, okC.2, rfl, len1.2.2.2.2.2.2.1, by rw [w_and]; exact atI0 _ _⟩
                  | yes => exact absurd rfl h2
                  | no => exact absurd rfl h2
                  | sw n => exact absurd rfl h3
                  | nt a => exact absurd rfl h4
                  | al n a => exact absurd rfl h5
                  | sm n a => exact absurd rfl h5
                subst er
                have l4 := len1.2.2.2.1
                have hw := congrArg Str.length hl
                simp only [app_len] at hw
                refine ⟨small9 (by omega), _, hp1.sq, _, atI2 _ _ _ _, fun p4 hp4 => ?_⟩
                have s4 := Same.new (o := HO.lst [sv "|", sv "&"]) hp4
                refine ⟨_, (hp1.to s4.tk).sq, _, atI0 _ _, ?_⟩
                rw [rd_eqS]
                refine .inr ⟨_, rfl, _, SqL.of upd_same, _, hsel, _, (hp1.to s4.tk).sq, _, atI1 _ _ _, fun p5 hp5 => ?_⟩
                have s5 := Same.new (o := HO.lst [sv ")", u2, .str wd, u1]) hp5
                have sA := s4.trans s5
                refine ⟨_, sA _ _ hx, _, upd_same, small9 (by simp only [List.length_cons, List.length_nil]; omega), fun p6 hp6 => ?_⟩
                have s6 := Same.new (o := HO.lst (ys ++ [sv ")", u2, .str wd, u1])) hp6
                have sB := sA.trans s6
                have h60 : H p6 = none := (sm.trans sA).free hp6
                refine ⟨wts bs + (2 + 5 * d1.size + 5 * d2.size), by omega, p6, ys ++ [sv ")", u2, .str wd, u1], bs ++ [.inl (Str.ofString ")"), .inr d2, .inl wd, .inr d1], _, _, rfl, sm.trans sB, h60, upd_same, (hs1.to sB.tk).app (.cons (show PcIs K _ (sv ")") (.inl (Str.ofString ")")) from rfl) (.cons (show PcIs K _ u2 (.inr d2) from hu2.to sB.tk) (.cons (show PcIs K _ (.str wd) (.inl wd) from rfl) (.cons (show PcIs K _ u1 (.inr d1) from hu1.to sB.tk) .nil)))), fun p hp => ?_, ?_, ?_, by omega⟩
                · rcases List.mem_append.mp hp with h | h
                  · exact okB p h
                  · simp only [List.mem_cons, List.not_mem_nil, or_false] at h
                    rcases h with h | h | h | h
                    · rw [h]; exact trivial
                    · rw [h]; exact hok2
                    · rw [h]; exact trivial
                    · rw [h]; exact hok1
                · rw [List.reverse_append, outs_app, ← hout, hl]
                  simp only [List.reverse_cons, List.reverse_nil, List.nil_append, List.cons_append, outs, pcOut, app_assoc, app_nil, nil_app]
                · rw [wts_app, wts_cons, wts_cons, wts_cons, wts_cons, wts_nil]
                  simp only [pcWt]; omega
    · have hps : ps = [] := by
        have h1 : xs.length = ps.length := Paired.length hs
        have h2 : xs = [] := by
          cases xs with
          | nil => rfl
          | cons => simp at he
        rw [h2] at h1
        exact List.eq_nil_of_length_eq_zero h1.symm
      subst hps
      have e : cur = line a := by
        rw [← hout]
        show cur = cur ++ Str.ofString ""
        rw [app_nil]
      rw [e]
      exact q H3 sm
end
end CN
end
section
set_option Elab.async false
set_option linter.all false
set_option maxRecDepth 100000
set_option maxHeartbeats 4000000
namespace L2
open PySem PySem.Spec PyProof.Rows
theorem Fun.okE {P : Program} {w : World} {K : PySem.W.Frag} {mg : Str → Option Value} {base : Heap} {x qual : Str} {st : Stmt} {f : Addr} {fd : FuncData} {N ps : List Str} {k : Nat} {sp : Sp} (F : Fun K x qual st f fd) (S : FnScope N ps (defScope st)) (len : ∀ vs H Q E, sp vs H Q E → vs.length = ps.length)
    (hbody : ∀ (cdv : Value) (A : Around) (outer : List Env) (s : Shared) (H : Hp) (vs : List V) (Q : VK) (E : XK), Room k (A.deeper (envOfC qual (defScope st) s.heap.objs.size f cdv)) → sp vs H Q E →
      ∃ t, PSs (cxOf (CXe P w) P w K mg base N qual (defScope st) f cdv A outer s H E) (defBody st) t ∧ t { nx := fun _ H' => Q .non H', rt := Q } (start N vs) H) : FnOk P w K mg base (CXe P w) (k + 1) f fd ps sp := by
  obtain ⟨oc, od, kV, doc, pm, an, cdv, ct, osl, rfl, lk, hcd⟩ := F.ex
  exact fn_of lk hcd S len fun A outer s H vs Q E hr hsp => hbody cdv A outer s H vs Q E hr hsp
theorem rd_raise {C : Addr} {E : XK} {t : TA} {D : Ends} {σ : St} {H : Hp} : tRaise C E t D σ H = t σ H fun vs H1 => vs.length ≤ sizeLine ∧ E (.ref C) none H1 := rfl
theorem rd_try {C : Addr} {tb : XK → TS} {th : TS} {D : Ends} {σ : St} {H : Hp} : tTry C tb th D σ H = tb (fun cls _ H' => cls = .ref C ∧ th D σ H') D σ H := rfl
theorem rd_tryas {C : Addr} {i : Nat} {tb : XK → TS} {th : TS} {D : Ends} {σ : St} {H : Hp} : tTryAs C i tb th D σ H = tb (fun cls _ H' => cls = .ref C ∧ ∀ y, H' y = none → th { nx := fun _ _ => False, rt := D.rt } (σ.set i (some (.ref y))) (upd H' y (xo C y))) D σ H := rfl
theorem bo_ValueError : bootBuiltins "ValueError" = some (.type "ValueError") := by decide +kernel
theorem call_isinstR {X : Cx} {K : PySem.W.Frag} {B : String} {bmB : List Value} (hK : X.K = K) (FB : ExcAttrBase B bmB) : CallR X (.builtin "isinstance") (fun xs H Q => ∃ a D c b, xs = [.ref a, .ref c] ∧ H a = some (xo D a) ∧ Xc K D ∧ PySem.W.kitOne K (.ref D) (.ref c) = some b ∧ Q (.bl b) H) := by
  subst hK
  intro pins s σ H xs us Q I r ⟨a, D, c, b, e, h1, h2, h3, q⟩
  exact call_isinstX FB pins s σ H xs us Q I r ⟨a, D, .ref c, .ref c, b, e, rfl, fun _ z => z, h1, h2, h3, q⟩
theorem call_isinstB {X : Cx} {K : PySem.W.Frag} {B : String} {bmB : List Value} (hK : X.K = K) (FB : ExcAttrBase B bmB) : CallR X (.builtin "isinstance") (fun xs H Q => ∃ a D T b, xs = [.ref a, .ty T] ∧ H a = some (xo D a) ∧ Xc K D ∧ PySem.W.kitOne K (.ref D) (.type T) = some b ∧ Q (.bl b) H) := by
  subst hK
  intro pins s σ H xs us Q I r ⟨a, D, T, b, e, h1, h2, h3, q⟩
  exact call_isinstX FB pins s σ H xs us Q I r ⟨a, D, .ty T, .type T, b, e, rfl, fun _ z => z, h1, h2, h3, q⟩
structure Xs (K : PySem.W.Frag) (mg : Str → Option Value) (CE CW CS : Addr) : Prop where
  mE : mg "NetError" = some (.ref CE)
  mW : mg "NoWay" = some (.ref CW)
  mS : mg "NoStatement" = some (.ref CS)
  eE : PySem.W.excIn K CE [.type "ValueError", .type "Exception", .type "BaseException", .type "object"] "ValueError.__new__" = true
  eW : PySem.W.excIn K CW [.type "ValueError", .type "Exception", .type "BaseException", .type "object"] "ValueError.__new__" = true
  eS : PySem.W.excIn K CS [.type "ValueError", .type "Exception", .type "BaseException", .type "object"] "ValueError.__new__" = true
  wE : PySem.W.mroIn K CW (.ref CE) = some true
  sE : PySem.W.mroIn K CS (.ref CE) = some true
  xW : Xc K CW
  xS : Xc K CS
  wW : PySem.W.kitOne K (.ref CW) (.ref CW) = some true
  wS : PySem.W.kitOne K (.ref CW) (.ref CS) = some false
  wV : PySem.W.kitOne K (.ref CW) (.type "ValueError") = some true
  sW : PySem.W.kitOne K (.ref CS) (.ref CW) = some false
  sS : PySem.W.kitOne K (.ref CS) (.ref CS) = some true
  sV : PySem.W.kitOne K (.ref CS) (.type "ValueError") = some true
end L2
namespace CN
open PySem L2
seal L2.PE L2.PT L2.PS L2.PSs L2.PA L2.PPs L2.PW L2.PC L2.PG L2.PGs L2.PI L2.PO
noncomputable abbrev s_Reader___init__ : Stmt := inClass (top 11) 0
noncomputable abbrev p_Reader___init__ : List Str := ["self", "line"]
theorem sc_Reader___init__ : FnScope ["self", "line"] ["self", "line"] (defScope s_Reader___init__) := ⟨rfl, rfl, rfl, by decide +kernel, rfl, by decide +kernel, by decide +kernel⟩
noncomputable abbrev s_Reader_sign : Stmt := inClass (top 11) 1
noncomputable abbrev p_Reader_sign : List Str := ["self"]
theorem sc_Reader_sign : FnScope ["self"] ["self"] (defScope s_Reader_sign) := ⟨rfl, rfl, rfl, by decide +kernel, rfl, by decide +kernel, by decide +kernel⟩
noncomputable abbrev s_Reader_demand : Stmt := inClass (top 11) 2
noncomputable abbrev p_Reader_demand : List Str := ["self", "fine"]
theorem sc_Reader_demand : FnScope ["self", "fine", "spot"] ["self", "fine"] (defScope s_Reader_demand) := ⟨rfl, rfl, rfl, by decide +kernel, rfl, by decide +kernel, by decide +kernel⟩
noncomputable abbrev s_Reader_pass_by : Stmt := inClass (top 11) 3
noncomputable abbrev p_Reader_pass_by : List Str := ["self", "sign"]
theorem sc_Reader_pass_by : FnScope ["self", "sign"] ["self", "sign"] (defScope s_Reader_pass_by) := ⟨rfl, rfl, rfl, by decide +kernel, rfl, by decide +kernel, by decide +kernel⟩
noncomputable abbrev s_Reader_number : Stmt := inClass (top 11) 4
noncomputable abbrev p_Reader_number : List Str := ["self"]
theorem sc_Reader_number : FnScope ["self", "start", "figures"] ["self"] (defScope s_Reader_number) := ⟨rfl, rfl, rfl, by decide +kernel, rfl, by decide +kernel, by decide +kernel⟩
noncomputable abbrev s_Reader_leaf : Stmt := inClass (top 11) 5
noncomputable abbrev p_Reader_leaf : List Str := ["self"]
theorem sc_Reader_leaf : FnScope ["self", "sign"] ["self"] (defScope s_Reader_leaf) := ⟨rfl, rfl, rfl, by decide +kernel, rfl, by decide +kernel, by decide +kernel⟩
noncomputable abbrev s_Reader_ended : Stmt := inClass (top 11) 6
noncomputable abbrev p_Reader_ended : List Str := ["self", "one"]
theorem sc_Reader_ended : FnScope ["self", "one", "begun", "sign"] ["self", "one"] (defScope s_Reader_ended) := ⟨rfl, rfl, rfl, by decide +kernel, rfl, by decide +kernel, by decide +kernel⟩
noncomputable abbrev s_read : Stmt := top 12
noncomputable abbrev p_read : List Str := ["line"]
theorem sc_read : FnScope ["line", "reader", "statement"] ["line"] (defScope s_read) := ⟨rfl, rfl, rfl, by decide +kernel, rfl, by decide +kernel, by decide +kernel⟩
noncomputable abbrev s_is_pair : Stmt := top 5
noncomputable abbrev p_is_pair : List Str := ["statement"]
theorem sc_is_pair : FnScope ["statement"] ["statement"] (defScope s_is_pair) := ⟨rfl, rfl, rfl, by decide +kernel, rfl, by decide +kernel, by decide +kernel⟩
noncomputable def rflds (L : Str) (i : Nat) (l : Addr) : List (Str × V) := [("line", .str L), ("spot", .int (i : Int)), ("begun", .ref l)]
theorem ne_ls : ¬ (("line" : Str) = "spot") := by decide +kernel
theorem ne_lb : ¬ (("line" : Str) = "begun") := by decide +kernel
theorem ne_sb : ¬ (("spot" : Str) = "begun") := by decide +kernel
theorem fl_line (L : Str) (i : Nat) (l : Addr) : (rflds L i l).lookup ("line" : Str) = some (.str L) := by unfold rflds; rw [List.lookup_cons, beq_self_eq_true]
theorem fl_spot (L : Str) (i : Nat) (l : Addr) : (rflds L i l).lookup ("spot" : Str) = some (.int (i : Int)) := by
  unfold rflds
  rw [List.lookup_cons, show (("spot" : Str) == "line") = false from by decide +kernel, List.lookup_cons, beq_self_eq_true]
theorem fl_begun (L : Str) (i : Nat) (l : Addr) : (rflds L i l).lookup ("begun" : Str) = some (.ref l) := by
  unfold rflds
  rw [List.lookup_cons, show (("begun" : Str) == "line") = false from by decide +kernel, List.lookup_cons, show (("begun" : Str) == "spot") = false from by decide +kernel, List.lookup_cons, beq_self_eq_true]
theorem fl_none {x : Str} (h1 : (x == ("line" : Str)) = false) (h2 : (x == ("spot" : Str)) = false) (h3 : (x == ("begun" : Str)) = false) (L : Str) (i : Nat) (l : Addr) : (rflds L i l).lookup x = none := by
  unfold rflds
  rw [List.lookup_cons, h1, List.lookup_cons, h2, List.lookup_cons, h3]; rfl
theorem fl_sign (L : Str) (i : Nat) (l : Addr) : (rflds L i l).lookup ("sign" : Str) = none := fl_none (by decide +kernel) (by decide +kernel) (by decide +kernel) _ _ _
theorem fl_demand (L : Str) (i : Nat) (l : Addr) : (rflds L i l).lookup ("demand" : Str) = none := fl_none (by decide +kernel) (by decide +kernel) (by decide +kernel) _ _ _
theorem fl_pass (L : Str) (i : Nat) (l : Addr) : (rflds L i l).lookup ("pass_by" : Str) = none := fl_none (by decide +kernel) (by decide +kernel) (by decide +kernel) _ _ _
theorem fl_number (L : Str) (i : Nat) (l : Addr) : (rflds L i l).lookup ("number" : Str) = none := fl_none (by decide +kernel) (by decide +kernel) (by decide +kernel) _ _ _
theorem fl_leaf (L : Str) (i : Nat) (l : Addr) : (rflds L i l).lookup ("leaf" : Str) = none := fl_none (by decide +kernel) (by decide +kernel) (by decide +kernel) _ _ _
theorem fl_ended (L : Str) (i : Nat) (l : Addr) : (rflds L i l).lookup ("ended" : Str) = none := fl_none (by decide +kernel) (by decide +kernel) (by decide +kernel) _ _ _
theorem put_spot (L : Str) (i j : Nat) (l : Addr) : putF "spot" (.int (j : Int)) (rflds L i l) = rflds L j l := by
  unfold rflds
  rw [putF, if_neg ne_ls, putF, if_pos rfl]
theorem put_two (L : Str) : putF "spot" (.int 0) (putF "line" (.str L) []) = [(("line" : Str), .str L), ("spot", .int 0)] := by
  rw [show putF "line" (.str L) [] = [(("line" : Str), V.str L)] from rfl, putF, if_neg ne_ls]; rfl
theorem put_all (L : Str) (p : Addr) : putF "begun" (.ref p) (putF "spot" (.int 0) (putF "line" (.str L) [])) = rflds L 0 p := by
  rw [put_two, putF, if_neg ne_lb, putF, if_neg ne_sb]; rfl
structure RdAt (C : Addr) (H : Hp) (r dx l : Addr) (L : Str) (i : Nat) (xs : List V) : Prop where
  ob : H r = some (.ins C dx (rflds L i l))
  be : H l = some (.lst xs)
noncomputable def Bu (r l : Addr) (H H' : Hp) : Prop := ∀ b o, H b = some o → b ≠ r → b ≠ l → H' b = some o
section
variable {C r dx l : Addr} {H H1 H2 : Hp} {L : Str} {i j : Nat} {xs ys : List V}
theorem RdAt.ne (h : RdAt C H r dx l L i xs) : r ≠ l := ne_of h.ob h.be (by intro z; cases z)
theorem Bu.refl (r l : Addr) (H : Hp) : Bu r l H H := fun _ _ e _ _ => e
theorem Bu.trans (a : Bu r l H H1) (b : Bu r l H1 H2) : Bu r l H H2 := fun c o e h1 h2 => b c o (a c o e h1 h2) h1 h2
theorem Bu.of (s : Same H H1) : Bu r l H H1 := fun b o e _ _ => s b o e
theorem Bu.tk (b : Bu r l H H1) (h : RdAt C H r dx l L i xs) : Tk H H1 := fun c ys e => b c _ e (ne_of e h.ob (by intro z; cases z)) (ne_of e h.be (by intro z; cases z))
theorem RdAt.same (h : RdAt C H r dx l L i xs) (s : Same H H1) : RdAt C H1 r dx l L i xs := ⟨s _ _ h.ob, s _ _ h.be⟩
theorem RdAt.spot (h : RdAt C H r dx l L i xs) (j : Nat) : RdAt C (upd H r (.ins C dx (rflds L j l))) r dx l L j xs ∧ Bu r l H (upd H r (.ins C dx (rflds L j l))) :=
  ⟨⟨upd_same, by rw [upd_ne h.ne.symm]; exact h.be⟩, fun b o e h1 _ => by rw [upd_ne h1]; exact e⟩
theorem RdAt.list (h : RdAt C H r dx l L i xs) (ys : List V) : RdAt C (upd H l (.lst ys)) r dx l L i ys ∧ Bu r l H (upd H l (.lst ys)) :=
  ⟨⟨by rw [upd_ne h.ne]; exact h.ob, upd_same⟩, fun b o e _ h2 => by rw [upd_ne h2]; exact e⟩
end
noncomputable def sgn (L : Str) (i : Nat) : Str := mkS (((tx L).drop i).take 1)
theorem sgn_cons {L : Str} {i : Nat} {c : Nat} {r : List Nat} (h : (tx L).drop i = c :: r) : sgn L i = ch c := by unfold sgn; rw [h]; rfl
theorem sgn_nil {L : Str} {i : Nat} (h : (tx L).drop i = []) : sgn L i = mkS [] := by unfold sgn; rw [h]; rfl
theorem drop_next {L : Str} {i : Nat} {c : Nat} {r : List Nat} (h : (tx L).drop i = c :: r) : (tx L).drop (i + 1) = r := by
  rw [← List.drop_drop, h]; rfl
structure RTx (K : PySem.W.Frag) (C : Addr) : Prop where
  cl : Cls K C
  n_line : NoAttr K C "line"
  n_spot : NoAttr K C "spot"
  n_begun : NoAttr K C "begun"
section
variable {P : Program} {w : World} {K : PySem.W.Frag} {mg : Str → Option Value} {base : Heap}
noncomputable def spInit (C : Addr) : Sp := fun vs H Q _ => ∃ (r dx : Addr) (L : Str), vs = [.ref r, .str L] ∧ H r = some (.ins C dx []) ∧ ∀ l H', H l = none → RdAt C H' r dx l L 0 [] → (∀ b o, H b = some o → b ≠ r → H' b = some o) → Q .non H'
theorem ok_init {f C : Addr} {fd : FuncData} (F : Fun K "__init__" "Reader.__init__" s_Reader___init__ f fd) (NT : RTx K C) : FnOk P w K mg base CX0 1 f fd p_Reader___init__ (spInit C) := by
  refine F.ok sc_Reader___init__ (fun vs H Q E h => ?_) (fun cdv A outer s H vs Q E hr h => ?_)
  · obtain ⟨r, dx, L, rfl, _⟩ := h
    rfl
  · obtain ⟨r, dx, L, rfl, h0, q⟩ := h
    refine ⟨_, (pss_cons (ps_fldC NT.cl NT.n_line (pv 0) (pv 1) rfl)
    (pss_cons (ps_fldC NT.cl NT.n_spot (pv 0) pe_int rfl)
    (pss_one (ps_fldC NT.cl NT.n_begun (pv 0) (pe_lst pa_nil) rfl)))), ?_⟩
    simp only [rdA, rd_forL, rd_forR, rd_kget, rd_kin, rd_fldP, rd_make, rd_slS, cx_w, cx_w2]
    refine ⟨_, _, h0, by show 0 < 1000; decide, _, _, upd_same, by show 1 < 1000; decide, fun p hp => ?_⟩
    have hpr : p ≠ r := (ne_of_none upd_same hp).symm
    rw [upd_ne hpr, upd_ne hpr] at hp
    refine ⟨_, _, (upd_ne hpr.symm).trans upd_same, by rw [put_two]; show 2 < 1000; decide, ?_⟩
    rw [put_all]
    refine q p _ hp ⟨upd_same, (upd_ne hpr).trans upd_same⟩ fun b o e hb => ?_
    rw [upd_ne hb, upd_ne (ne_of_none e hp), upd_ne hb, upd_ne hb]
    exact e
noncomputable def spSign (C : Addr) : Sp := fun vs H Q _ => ∃ (r dx l : Addr) (L : Str) (i : Nat) (xs : List V), vs = [.ref r] ∧ RdAt C H r dx l L i xs ∧ L.length ≤ sizeLine ∧ Q (.str (sgn L i)) H
theorem ok_sign {f C : Addr} {fd : FuncData} (F : Fun K "sign" "Reader.sign" s_Reader_sign f fd) (NT : RTx K C) : FnOk P w K mg base CX0 1 f fd p_Reader_sign (spSign C) := by
  refine F.ok sc_Reader_sign (fun vs H Q E h => ?_) (fun cdv A outer s H vs Q E hr h => ?_)
  · obtain ⟨r, dx, l, L, i, xs, rfl, _⟩ := h
    rfl
  · obtain ⟨r, dx, l, L, i, xs, rfl, hR, hL, q⟩ := h
    refine ⟨_, (pss_one (ps_ret (pe_slice sl_str (pe_fldC NT.cl NT.n_line (pv 0) (by rfl)) (po_some (pe_fldC NT.cl NT.n_spot (pv 0) (by rfl))) (po_some (pe_op op_add (pe_fldC NT.cl NT.n_spot (pv 0) (by rfl)) pe_int))))), ?_⟩
    simp only [rdA, rd_forL, rd_forR, rd_kget, rd_kin, rd_fldP, rd_make, rd_slS, cx_w, cx_w2]
    refine ⟨_, _, hR.ob, _, fl_line _ _ _, _, _, hR.ob, _, fl_spot _ _ _, _, rfl, _, _, hR.ob, _, fl_spot _ _ _, ?_⟩
    rw [rd_rI0]
    refine ⟨_, rfl, ?_⟩
    rw [rd_slS]
    refine ⟨i, i + 1, rfl, rfl, hL, ?_⟩
    rw [Nat.add_sub_cancel_left]
    exact q
noncomputable def spDem (C CS : Addr) : Sp := fun vs H Q E => ∃ (r dx l : Addr) (L : Str) (i : Nat) (xs : List V) (b : Bool), vs = [.ref r, .bl b] ∧ RdAt C H r dx l L i xs ∧ i ≤ 1000 ∧ (b = true → Q .non H) ∧ (b = false → ∀ H', E (.ref CS) none H')
theorem ok_dem {f C CE CW CS : Addr} {fd : FuncData} (F : Fun K "demand" "Reader.demand" s_Reader_demand f fd) (NT : RTx K C) (XS : Xs K mg CE CW CS) : FnOk P w K mg base (CXe P w) 1 f fd p_Reader_demand (spDem C CS) := by
  refine F.okE sc_Reader_demand (fun vs H Q E h => ?_) (fun cdv A outer s H vs Q E hr h => ?_)
  · obtain ⟨r, dx, l, L, i, xs, b, rfl, _⟩ := h
    rfl
  · obtain ⟨r, dx, l, L, i, xs, b, rfl, hR, hi, q, qe⟩ := h
    refine ⟨_, (pss_cons (ps_set (i := 2) sc_Reader_demand.nd rfl (by first | exact Or.inl rfl | exact Or.inr rfl) (pe_fldC NT.cl NT.n_spot (pv 0) (by rfl)))
    (pss_one (ps_if (pt_not (pt_val (pv 1)))
      (pss_one (ps_raise rfl XS.mS XS.eS PySem.F.excBase_ValueError (pa_cons (pe_fstr (pv 2)) pa_nil)))
      pss_nil))), ?_⟩
    simp only [rdA, rd_forL, rd_forR, rd_kget, rd_kin, rd_fldP, rd_make, rd_slS, cx_w, cx_w2, rd_raise, rd_fs]
    refine ⟨_, _, hR.ob, _, fl_spot _ _ _, ?_⟩
    cases b with
    | true => rw [if_neg (by decide)]; exact q rfl
    | false =>
      rw [if_pos (by decide)]
      have h0 : (0 : Int) ≤ ((i : Nat) : Int) := Int.natCast_nonneg _
      have h1 : ((i : Nat) : Int) < 10 ^ 300 := Int.lt_of_lt_of_le (show ((i : Nat) : Int) < 1001 by omega) (by decide)
      have hl : (Str.ofString (toString ((i : Nat) : Int))).length ≤ 300 := num_len h0 h1
      have hp : (Str.empty ++ Str.ofString "no statement is written so, from sign ").length ≤ 100 := by decide +kernel
      have hq : (Str.ofString " on").length ≤ 100 := by decide +kernel
      refine ⟨_, rfl, log_small h0 h1, ?_, ?_, qe rfl H⟩
      · rw [app_len]; exact small9 (by omega)
      · rw [app_len, app_len]; exact small9 (by omega)
noncomputable def spPq (C CS : Addr) : Sp := fun vs H Q E => ∃ (r dx l : Addr) (L : Str) (i : Nat) (xs : List V) (z : Str), vs = [.ref r, .str z] ∧ RdAt C H r dx l L i xs ∧ i ≤ 1000 ∧ L.length ≤ sizeLine ∧ (∀ H', sgn L i = z → RdAt C H' r dx l L (i + 1) xs → Bu r l H H' → Q .non H') ∧ (sgn L i ≠ z → ∀ H', E (.ref CS) none H')
theorem ok_pq {f f1 f2 C CS : Addr} {fd fd1 fd2 : FuncData} (F : Fun K "pass_by" "Reader.pass_by" s_Reader_pass_by f fd) (NT : RTx K C)
    (m_sign : Meth K C "sign" f1) (b_sign : Binds K fd1 p_Reader_sign []) (G_sign : FnOk P w K mg base CX0 1 f1 fd1 p_Reader_sign (spSign C))
    (m_demand : Meth K C "demand" f2) (b_demand : Binds K fd2 p_Reader_demand []) (G_demand : FnOk P w K mg base (CXe P w) 1 f2 fd2 p_Reader_demand (spDem C CS)) : FnOk P w K mg base (CXe P w) 2 f fd p_Reader_pass_by (spPq C CS) := by
  refine F.okE sc_Reader_pass_by (fun vs H Q E h => ?_) (fun cdv A outer s H vs Q E hr h => ?_)
  · obtain ⟨r, dx, l, L, i, xs, z, rfl, _⟩ := h
    rfl
  · obtain ⟨r, dx, l, L, i, xs, z, rfl, hR, hi, hL, q, qe⟩ := h
    refine ⟨_, (pss_cons (ps_expr (pe_meth (pv 0) NT.cl m_demand G_demand (hr) b_demand .nil passes_on (pa_cons (pe_cmpR op_eq (pe_meth0 (pv 0) NT.cl m_sign G_sign (hr) b_sign .nil pass0) (pv 1) (nomark _)) pa_nil)))
    (pss_one (ps_fldC NT.cl NT.n_spot (pv 0) (pe_op op_add (pe_fldC NT.cl NT.n_spot (pv 0) (by rfl)) pe_int) rfl))), ?_⟩
    simp only [rdA, rd_forL, rd_forR, rd_kget, rd_kin, rd_fldP, rd_make, rd_slS, cx_w, cx_w2]
    refine ⟨_, _, hR.ob, fl_demand _ _ _, _, _, hR.ob, fl_sign _ _ _, r, dx, l, L, i, xs, rfl, hR, hL, ?_⟩
    simp only [rd_eqS]
    refine ⟨r, dx, l, L, i, xs, _, rfl, hR, hi, fun e => ?_, fun e => qe (of_decide_eq_false e)⟩
    refine ⟨_, _, hR.ob, _, fl_spot _ _ _, ?_⟩
    rw [rd_rI0]
    refine ⟨_, _, hR.ob, by show 3 < 1000; decide, ?_⟩
    rw [show ((i : Nat) : Int) + 1 = ((i + 1 : Nat) : Int) from rfl, put_spot]
    exact q _ (of_decide_eq_true e) (hR.spot (i + 1)).1 (hR.spot (i + 1)).2
noncomputable def figV : List V := [sv "0", sv "1", sv "2", sv "3", sv "4", sv "5", sv "6", sv "7", sv "8", sv "9"]
noncomputable def KTup (K : PySem.W.Frag) (a : Addr) (xs : List V) : Prop := ∃ (o : Obj) (its : Array Value) (n : Nat), K.lookup a = some o ∧ o.cls = .type "tuple" ∧ o.data = .seq its n ∧ its.size ≤ sizeLine ∧ Vals xs its.toList
theorem KTup.sq {a : Addr} {xs : List V} {H : Hp} (h : KTup K a xs) : SqT K H a xs := .inr h
theorem KTup.tq {a : Addr} {xs : List V} {H : Hp} (h : KTup K a xs) : Tq K H a xs := .inr h
theorem fig_in {c : Nat} (h : 48 ≤ c ∧ c ≤ 57) : inV (.str (ch c)) figV = true := by
  obtain ⟨d, hd, rfl⟩ : ∃ d, d < 10 ∧ c = 48 + d := ⟨c - 48, by omega, by omega⟩
  revert d
  decide +kernel
theorem fig_out {l : List Nat} (h : NoFig l) : inV (.str (mkS (l.take 1))) figV = false := by
  rcases h with rfl | ⟨c, r, rfl, hc⟩
  · decide +kernel
  · rw [show List.take 1 (c :: r) = [c] from rfl, mk_one]
    have e : ∀ d, d < 10 → ¬ (ch (48 + d) = ch c) := fun d hd => by rw [ch_inj]; omega
    have q : ∀ (x : String) (d : Nat), d < 10 → Str.ofString x = ch (48 + d) → eqV (sv x) (.str (ch c)) = false := fun x d hd hx => by
      show (Str.ofString x == ch c) = false
      rw [hx]; exact beq_eq_false_iff_ne.mpr (e d hd)
    unfold inV figV
    simp only [List.any_cons, List.any_nil, q "0" 0 (by decide) (by decide +kernel), q "1" 1 (by decide) (by decide +kernel), q "2" 2 (by decide) (by decide +kernel), q "3" 3 (by decide) (by decide +kernel), q "4" 4 (by decide) (by decide +kernel), q "5" 5 (by decide) (by decide +kernel), q "6" 6 (by decide) (by decide +kernel), q "7" 7 (by decide) (by decide +kernel), q "8" 8 (by decide) (by decide +kernel), q "9" 9 (by decide) (by decide +kernel), Bool.or_false, Bool.or_self]
noncomputable def spNq (C CS : Addr) : Sp := fun vs H Q E => ∃ (r dx l : Addr) (L : Str) (i : Nat) (xs : List V), vs = [.ref r] ∧ RdAt C H r dx l L i xs ∧ L.length ≤ 600 ∧ i ≤ L.length ∧
  (∀ (n : Int) j H', 0 ≤ n → (tx L).drop i = tx (numS n) ++ (tx L).drop j → NoFig ((tx L).drop j) → i < j → j ≤ L.length → RdAt C H' r dx l L j xs → Bu r l H H' → Q (.int n) H') ∧
  ((¬ ∃ (n : Int) (t : List Nat), 0 ≤ n ∧ (tx L).drop i = tx (numS n) ++ t ∧ NoFig t) → ∀ H', E (.ref CS) none H')
structure NqInv (C : Addr) (H : Hp) (r dx l : Addr) (L : Str) (i : Nat) (xs : List V) (ds : List Nat) (m : Nat) (σ : St) (H2 : Hp) : Prop where
  ex : ∃ (k : Nat) (o2 : Option V), σ = [some (.ref r), some (.int (i : Int)), o2] ∧ k + m = ds.length ∧ RdAt C H2 r dx l L (i + k) xs ∧ Bu r l H H2
theorem ok_nq {f f1 f2 C CS aF : Addr} {fd fd1 fd2 : FuncData} (BT : Bt mg) (F : Fun K "number" "Reader.number" s_Reader_number f fd) (NT : RTx K C) (D_FIGURES : Gd mg "FIGURES" aF) (KF : KTup K aF figV)
    (m_sign : Meth K C "sign" f1) (b_sign : Binds K fd1 p_Reader_sign []) (G_sign : FnOk P w K mg base CX0 1 f1 fd1 p_Reader_sign (spSign C))
    (m_demand : Meth K C "demand" f2) (b_demand : Binds K fd2 p_Reader_demand []) (G_demand : FnOk P w K mg base (CXe P w) 1 f2 fd2 p_Reader_demand (spDem C CS)) : FnOk P w K mg base (CXe P w) 2 f fd p_Reader_number (spNq C CS) := by
  refine F.okE sc_Reader_number (fun vs H Q E h => ?_) (fun cdv A outer s H vs Q E hr h => ?_)
  · obtain ⟨r, dx, l, L, i, xs, rfl, _⟩ := h
    rfl
  · obtain ⟨r, dx, l, L, i, xs, rfl, hR, hLn, hiL, q, qe⟩ := h
    have hL : L.length ≤ sizeLine := small9 (by omega)
    refine ⟨_, (pss_cons (ps_set (i := 1) sc_Reader_number.nd rfl (by first | exact Or.inl rfl | exact Or.inr rfl) (pe_fldC NT.cl NT.n_spot (pv 0) (by rfl)))
    (pss_cons (ps_while PassesOwn.leaving (pt_cmpR op_in_seq (pe_meth0 (pv 0) NT.cl m_sign G_sign (hr) b_sign .nil pass0) (pe_gref (by rfl) D_FIGURES.m) (by with_unfolding_all rfl))
      (pss_one (ps_fldC NT.cl NT.n_spot (pv 0) (pe_op op_add (pe_fldC NT.cl NT.n_spot (pv 0) (by rfl)) pe_int) rfl)))
    (pss_cons (ps_set (i := 2) sc_Reader_number.nd rfl (by first | exact Or.inl rfl | exact Or.inr rfl) (pe_slice sl_str (pe_fldC NT.cl NT.n_line (pv 0) (by rfl)) (po_some (pv 1)) (po_some (pe_fldC NT.cl NT.n_spot (pv 0) (by rfl)))))
    (pss_cons (ps_expr (pe_meth (pv 0) NT.cl m_demand G_demand (hr) b_demand .nil passes_on (pa_cons (pe_or (pe_cmpR op_eq (pv 2) pe_str (nomark _)) (pe_one (pe_and (pe_cmpR op_ne (pv 2) pe_str (nomark _)) (pe_one (pe_cmpR op_ne (pe_ix ix_str (pv 2) pe_int (fun _ _ => rfl)) pe_str (nomark _)))))) pa_nil)))
    (pss_one (ps_ret (pe_callTy call_int_str (by rfl) BT.n_int bo_int (pa_cons (pv 2) pa_nil)))))))), ?_⟩
    simp only [rdA, rd_forL, rd_forR, rd_kget, rd_kin, rd_fldP, rd_make, rd_slS, cx_w, cx_w2]
    obtain ⟨ds, hds⟩ : ∃ ds, ((tx L).drop i).takeWhile dgb = ds := ⟨_, rfl⟩
    obtain ⟨rs, hrs⟩ : ∃ rs, ((tx L).drop i).dropWhile dgb = rs := ⟨_, rfl⟩
    have hd : (tx L).drop i = ds ++ rs := by rw [← hds, ← hrs, List.takeWhile_append_dropWhile]
    have hda : ∀ c ∈ ds, 48 ≤ c ∧ c ≤ 57 := by rw [← hds]; exact take_all _
    have hf : NoFig rs := by rw [← hrs]; exact drop_nofig _
    have hdl : i + ds.length + rs.length = L.length := by
      have e := congrArg List.length hd
      rw [List.length_drop, List.length_append, tx_len] at e
      omega
    refine ⟨_, _, hR.ob, _, fl_spot _ _ _, NqInv C H r dx l L i xs ds, ⟨ds.length, 0, none, rfl, by omega, hR, Bu.refl _ _ _⟩, ?_⟩
    rintro m σ H2 ⟨k, o2, rfl, hk, hR2, hB⟩
    have hdk : (tx L).drop (i + k) = ds.drop k ++ rs := by
      rw [← List.drop_drop, hd, List.drop_append_of_le_length (by omega)]
    simp only [rdA, rd_forL, rd_forR, rd_kget, rd_kin, rd_fldP, rd_make, rd_slS, cx_w, cx_w2]
    refine ⟨_, _, hR2.ob, fl_sign _ _ _, r, dx, l, L, i + k, xs, rfl, hR2, hL, ?_⟩
    simp only [rdA, rd_forL, rd_forR, rd_kget, rd_kin, rd_fldP, rd_make, rd_slS, cx_w, cx_w2]
    refine ⟨figV, .inr KF.sq, rfl, rfl, ?_⟩
    cases m with
    | succ m =>
      obtain ⟨c, cs, ec⟩ : ∃ c cs, ds.drop k = c :: cs := by
        cases e : ds.drop k with
        | nil => have := congrArg List.length e; rw [List.length_drop] at this; simp at this; omega
        | cons c cs => exact ⟨c, cs, rfl⟩
      have hc : 48 ≤ c ∧ c ≤ 57 := hda c (List.mem_of_mem_drop (by rw [ec]; exact List.mem_cons_self ..))
      rw [ec, List.cons_append] at hdk
      rw [sgn_cons hdk, fig_in hc]
      refine iteT ⟨fun σ' H' => ∃ m', m' < m + 1 ∧ NqInv C H r dx l L i xs ds m' σ' H', fun _ _ h => h, ?_⟩
      refine ⟨_, _, hR2.ob, _, fl_spot _ _ _, ?_⟩
      simp only [rdA, rd_forL, rd_forR, rd_kget, rd_kin, rd_fldP, rd_make, rd_slS, cx_w, cx_w2]
      refine ⟨_, _, hR2.ob, by show 3 < 1000; decide, m, by omega, k + 1, o2, rfl, by omega, ?_, ?_⟩
      · rw [show ((i + k : Nat) : Int) + 1 = ((i + (k + 1) : Nat) : Int) from rfl, put_spot]; exact (hR2.spot _).1
      · rw [show ((i + k : Nat) : Int) + 1 = ((i + (k + 1) : Nat) : Int) from rfl, put_spot]; exact hB.trans (hR2.spot _).2
    | zero =>
      have hkl : k = ds.length := by omega
      rw [hkl, List.drop_length, List.nil_append] at hdk
      rw [hkl] at hR2
      rw [show inV (V.str (sgn L (i + k))) figV = false from by rw [hkl]; unfold sgn; rw [hdk]; exact fig_out hf]
      refine iteF ?_
      refine ⟨_, _, hR2.ob, _, fl_line _ _ _, _, _, hR2.ob, _, fl_spot _ _ _, _, rfl, ?_⟩
      rw [rd_slS]
      have eS : mkS (((tx L).drop i).take (i + ds.length - i)) = mkS ds := by
        rw [hd, Nat.add_sub_cancel_left, List.take_left]
      refine ⟨i, i + ds.length, rfl, rfl, hL, ?_⟩
      rw [eS]
      have fin : ∀ b : Bool, b = vd ds → ∃ (r' dx' l' : Addr) (L' : Str) (i' : Nat) (xs' : List V) (b' : Bool), [V.ref r, V.bl b] = [.ref r', .bl b'] ∧ RdAt C H2 r' dx' l' L' i' xs' ∧ i' ≤ 1000 ∧ (b' = true → ∃ x_9, V.str (mkS ds) = V.str x_9 ∧ ∃ x, intText? x_9 = some x ∧ x_9.length ≤ 640 ∧ Q (V.int x) H2) ∧ (b' = false → ∀ H', E (.ref CS) none H') := fun b hb => by
        refine ⟨r, dx, l, L, i + ds.length, xs, b, rfl, hR2, by omega, fun e => ?_, fun e => qe ?_⟩
        · obtain ⟨n, hn, en⟩ := num_of hda (hb.symm.trans e)
          have e3 : mkS ds = numS n := by rw [← en, mk_tx]
          have hnl : (numS n).length ≤ 640 := by rw [← tx_len, en]; omega
          have hne : 0 < ds.length := by
            cases ds with
            | nil => rw [e] at hb; cases hb
            | cons c cs => simp
          exact ⟨_, rfl, n, by rw [e3]; exact num_back hn hnl, by rw [e3]; exact hnl, q n (i + ds.length) H2 hn (by rw [hdk, en]; exact hd) (by rw [hdk]; exact hf) (by omega) (by omega) hR2 hB⟩
        · exact run_no (by rw [hds]; exact hb.symm.trans e)
      refine ⟨_, _, hR2.ob, fl_demand _ _ _, ?_⟩
      rw [rd_eqS]
      refine ⟨_, rfl, ite2 (fun h => fin true ?_) (fun h => ?_)⟩
      · have e := of_decide_eq_true h
        rw [of_0] at e
        rw [mk_inj (show mkS ds = mkS [48] from e)]
        rfl
      · rw [rd_neS]
        refine ⟨_, rfl, ite2 (fun h2 => ?_) (fun h2 => fin false ?_)⟩
        · obtain ⟨c, cs, rfl⟩ : ∃ c cs, ds = c :: cs := by
            cases ds with
            | nil =>
              exfalso
              rw [of_e] at h2
              simp at h2
            | cons c cs => exact ⟨c, cs, rfl⟩
          refine ⟨mkS (c :: cs), 0, c, rfl, rfl, ?_, ?_, ?_⟩
          · rw [← tx_len, tx_mk]; exact small9 (by omega)
          · exact atI0 _ _
          · show rNe (V.str (ch c)) _ _ _
            rw [rd_neS]
            refine fin _ ?_
            rw [show decide (ch c = Str.ofString "0") = decide (c = 48) from by rw [of_0]; exact decide_eq_decide.mpr (by rw [ch_inj])]
            have hz : ¬ (c = 48 ∧ cs = []) := fun ⟨e1, e2⟩ => by
              subst e1; subst e2
              exact h (decide_eq_true (by rw [of_0]; rfl))
            by_cases h48 : c = 48
            · have hcs : cs ≠ [] := fun e => hz ⟨h48, e⟩
              cases cs with
              | nil => exact absurd rfl hcs
              | cons d cs => simp [vd, h48]
            · simp [vd, h48]
        · have : ds = [] := by
            cases ds with
            | nil => rfl
            | cons c cs =>
              exfalso
              apply h2
              rw [of_e]
              have : ¬ (mkS (c :: cs) = mkS []) := fun z => by have := mk_inj z; cases this
              rw [decide_eq_false this]; rfl
          rw [this]; rfl
noncomputable def FrQ (K : PySem.W.Frag) (H : Hp) (v : V) : Fq → Prop
  | .nt => ∃ p, v = .ref p ∧ H p = some (.tup [sv "not"])
  | .op => ∃ p, v = .ref p ∧ H p = some (.tup [sv "("])
  | .sd c a => nn a ∧ ∃ p u, v = .ref p ∧ H p = some (.tup [.str (if c = true then Str.ofString "and" else Str.ofString "or"), u]) ∧ IsSk K H u a
  | .al n => 0 ≤ n ∧ ∃ p, v = .ref p ∧ H p = some (.tup [sv "all", .int n])
  | .sm n => 0 ≤ n ∧ ∃ p, v = .ref p ∧ H p = some (.tup [sv "some", .int n])
theorem FrQ.to {H H' : Hp} {v : V} {g : Fq} (h : FrQ K H v g) (k : Tk H H') : FrQ K H' v g := by
  cases g with
  | nt => obtain ⟨p, e, h⟩ := h; exact ⟨p, e, k _ _ h⟩
  | op => obtain ⟨p, e, h⟩ := h; exact ⟨p, e, k _ _ h⟩
  | sd c a => obtain ⟨n, p, u, e, h, z⟩ := h; exact ⟨n, p, u, e, k _ _ h, DK.to z k⟩
  | al n => obtain ⟨n, p, e, h⟩ := h; exact ⟨n, p, e, k _ _ h⟩
  | sm n => obtain ⟨n, p, e, h⟩ := h; exact ⟨n, p, e, k _ _ h⟩
noncomputable def Fqs (K : PySem.W.Frag) (H : Hp) (xs : List V) (gs : List Fq) : Prop := Paired (FrQ K H) xs.reverse gs
theorem Fqs.to {H H' : Hp} {xs : List V} {gs : List Fq} (h : Fqs K H xs gs) (k : Tk H H') : Fqs K H' xs gs := by
  unfold Fqs at *
  generalize xs.reverse = ys at *
  induction h with
  | nil => exact .nil
  | cons a b ih => exact .cons (a.to k) ih
theorem Fqs.push {H : Hp} {xs : List V} {gs : List Fq} {v : V} {g : Fq} (h : Fqs K H xs gs) (hv : FrQ K H v g) : Fqs K H (xs ++ [v]) (g :: gs) := by
  unfold Fqs at *
  rw [List.reverse_append]; exact .cons hv h
theorem Fqs.pop {H : Hp} {xs : List V} {v : V} {gs : List Fq} (h : Fqs K H (xs ++ [v]) gs) : ∃ g gs', gs = g :: gs' ∧ FrQ K H v g ∧ Fqs K H xs gs' := by
  unfold Fqs at *
  rw [List.reverse_append] at h
  cases h with
  | cons a b => exact ⟨_, _, rfl, a, b⟩
theorem Fqs.len {H : Hp} {xs : List V} {gs : List Fq} (h : Fqs K H xs gs) : xs.length = gs.length := by
  have := Paired.length h
  rwa [List.length_reverse] at this
noncomputable def lLooks : List (Str × V) := [("A", sv "all"), ("S", sv "some")]
noncomputable def lPairs : List (Str × V) := [("&", sv "and"), ("|", sv "or")]
noncomputable def lLeaves (pY pN : Addr) : List (Str × V) := [("Y", .ref pY), ("N", .ref pN)]
theorem gOf_two (x y : Str) (u v : V) (z : Str) : gOf [(x, u), (y, v)] z = if x = z then some u else if y = z then some v else none := by
  unfold gOf
  rw [List.find?_cons]
  by_cases h : x = z
  · simp [h]
  · by_cases k : y = z
    · simp [h, k]
    · simp [h, k]
theorem push_fq {C r dx l p : Addr} {H : Hp} {L : Str} {j : Nat} {ys cs : List V} {g2 : List Fq} (hR : RdAt C H r dx l L j ys) (hF : Fqs K H ys g2) (hp : H p = none) :
    upd H p (.tup cs) l = some (.lst ys) ∧ RdAt C (upd (upd H p (.tup cs)) l (.lst (ys ++ [.ref p]))) r dx l L j (ys ++ [.ref p]) ∧ Bu r l H (upd (upd H p (.tup cs)) l (.lst (ys ++ [.ref p]))) ∧
    Tk H (upd (upd H p (.tup cs)) l (.lst (ys ++ [.ref p]))) ∧ upd (upd H p (.tup cs)) l (.lst (ys ++ [.ref p])) p = some (.tup cs) ∧
    ∀ g, FrQ K (upd (upd H p (.tup cs)) l (.lst (ys ++ [.ref p]))) (.ref p) g → Fqs K (upd (upd H p (.tup cs)) l (.lst (ys ++ [.ref p]))) (ys ++ [.ref p]) (g :: g2) := by
  have s := Same.new (o := HO.tup cs) hp
  have hR4 := hR.same s
  obtain ⟨hR5, hB5⟩ := hR4.list (ys ++ [.ref p])
  have hB := (Bu.of (r := r) (l := l) s).trans hB5
  have k := hB.tk hR
  exact ⟨hR4.be, hR5, hB, k, by rw [upd_ne (ne_of_none hR.be hp).symm]; exact upd_same, fun g hg => (hF.to k).push hg⟩
theorem looks_none {c : Nat} (h : c ≠ 65 ∧ c ≠ 83) : gOf lLooks (ch c) = none := by
  show gOf [("A", sv "all"), ("S", sv "some")] (ch c) = none
  rw [gOf_two, if_neg (by rw [show ("A" : Str) = ch 65 from of_A, ch_inj]; omega), if_neg (by rw [show ("S" : Str) = ch 83 from of_S, ch_inj]; omega)]
theorem looks_e : gOf lLooks (mkS []) = none := by decide +kernel
theorem leaves_Y (pY pN : Addr) : gOf (lLeaves pY pN) (ch 89) = some (.ref pY) := by
  show gOf [("Y", V.ref pY), ("N", V.ref pN)] (ch 89) = _
  rw [gOf_two, if_pos of_Y]
theorem leaves_N (pY pN : Addr) : gOf (lLeaves pY pN) (ch 78) = some (.ref pN) := by
  show gOf [("Y", V.ref pY), ("N", V.ref pN)] (ch 78) = _
  rw [gOf_two, if_neg (by rw [show ("Y" : Str) = ch 89 from of_Y, ch_inj]; omega), if_pos of_N]
theorem leaves_none {c : Nat} (pY pN : Addr) (h : c ≠ 89 ∧ c ≠ 78) : gOf (lLeaves pY pN) (ch c) = none := by
  show gOf [("Y", V.ref pY), ("N", V.ref pN)] (ch c) = none
  rw [gOf_two, if_neg (by rw [show ("Y" : Str) = ch 89 from of_Y, ch_inj]; omega), if_neg (by rw [show ("N" : Str) = ch 78 from of_N, ch_inj]; omega)]
theorem leaves_e (pY pN : Addr) : gOf (lLeaves pY pN) (mkS []) = none := by
  show gOf [("Y", V.ref pY), ("N", V.ref pN)] (mkS []) = none
  rw [gOf_two, if_neg (by decide +kernel), if_neg (by decide +kernel)]
theorem sgn_inv {L : Str} {j c : Nat} (h : sgn L j = ch c) : ∃ r, (tx L).drop j = c :: r := by
  cases e : (tx L).drop j with
  | nil => rw [sgn_nil e] at h; have := mk_inj (show mkS [] = mkS [c] from h); cases this
  | cons d r => rw [sgn_cons e, ch_inj] at h; subst h; exact ⟨r, rfl⟩
theorem ch_dec (c d : Nat) (x : String) (h : Str.ofString x = ch d) : decide (ch c = Str.ofString x) = decide (c = d) := by rw [h]; exact decide_eq_decide.mpr (by rw [ch_inj])
structure Ah (K : PySem.W.Frag) (C : Addr) (H : Hp) (r dx l : Addr) (L : Str) (i : Nat) (xs : List V) (gs : List Fq) : Prop where
  R : RdAt C H r dx l L i xs
  F : Fqs K H xs gs
  T : tx L = consT gs ++ (tx L).drop i
  Wq : Wf (tx L) → W gs ((tx L).drop i)
  le : i ≤ L.length
structure Bh (K : PySem.W.Frag) (C : Addr) (H : Hp) (r dx l : Addr) (L : Str) (i : Nat) (xs : List V) (gs : List Fq) (v : V) (a : Stm) : Prop where
  R : RdAt C H r dx l L i xs
  F : Fqs K H xs gs
  S : IsSk K H v a
  N : nn a
  T : tx L = consT gs ++ (tx (line a) ++ (tx L).drop i)
  Wq : Wf (tx L) → WE gs ((tx L).drop i)
  le : i ≤ L.length
noncomputable def spLq (K : PySem.W.Frag) (C CS : Addr) : Sp := fun vs H Q E => ∃ (r dx l : Addr) (L : Str) (i : Nat) (xs : List V) (gs : List Fq), vs = [.ref r] ∧ L.length ≤ 600 ∧ Ah K C H r dx l L i xs gs ∧
  (∀ v H' i' xs' gs' a, Bh K C H' r dx l L i' xs' gs' v a → Bu r l H H' → i < i' → Q v H') ∧ (¬ Wf (tx L) → ∀ H', E (.ref CS) none H')
inductive LqInv (K : PySem.W.Frag) (C : Addr) (H : Hp) (r dx l : Addr) (L : Str) (i0 : Nat) (m : Nat) (σ : St) (H2 : Hp) : Prop
  | mk (i : Nat) (xs : List V) (gs : List Fq) (h0 : σ = [some (.ref r), some (.str (sgn L i))]) (h1 : Ah K C H2 r dx l L i xs gs) (h2 : Bu r l H H2) (h3 : i0 ≤ i) (h4 : m = L.length - i) : LqInv K C H r dx l L i0 m σ H2
theorem ok_lq {f f1 f2 f3 C CS aL aV pY pN : Addr} {fd fd1 fd2 fd3 : FuncData} (F : Fun K "leaf" "Reader.leaf" s_Reader_leaf f fd) (NT : RTx K C) (D_LOOKS : Gd mg "LOOKS" aL) (KL : KD K w.params aL (gOf lLooks)) (D_LEAVES : Gd mg "LEAVES" aV) (KV : KD K w.params aV (gOf (lLeaves pY pN)))
    (KY : KTup K pY [sv "yes"]) (KN : KTup K pN [sv "no"])
    (m_sign : Meth K C "sign" f1) (b_sign : Binds K fd1 p_Reader_sign []) (G1 : FnOk P w K mg base CX0 1 f1 fd1 p_Reader_sign (spSign C))
    (m_number : Meth K C "number" f2) (b_number : Binds K fd2 p_Reader_number []) (G_number : FnOk P w K mg base (CXe P w) 2 f2 fd2 p_Reader_number (spNq C CS))
    (m_pass_by : Meth K C "pass_by" f3) (b_pass_by : Binds K fd3 p_Reader_pass_by []) (G_pass_by : FnOk P w K mg base (CXe P w) 2 f3 fd3 p_Reader_pass_by (spPq C CS)) : FnOk P w K mg base (CXe P w) 3 f fd p_Reader_leaf (spLq K C CS) := by
  have G_sign := G1.mono (show 1 ≤ 2 by omega)
  refine F.okE sc_Reader_leaf (fun vs H Q E h => ?_) (fun cdv A outer s H vs Q E hr h => ?_)
  · obtain ⟨r, dx, l, L, i, xs, gs, rfl, _⟩ := h
    rfl
  · obtain ⟨r, dx, l, L, i, xs, gs, rfl, hLn, hA, q, qe⟩ := h
    have hL : L.length ≤ sizeLine := small9 (by omega)
    have tl := tx_len L
    refine ⟨_, (pss_cons (ps_set (i := 1) sc_Reader_leaf.nd rfl (by first | exact Or.inl rfl | exact Or.inr rfl) (pe_meth0 (pv 0) NT.cl m_sign G_sign (hr) b_sign .nil pass0))
    (pss_cons (ps_while PassesOwn.leaving (PW.pt (pw_or (pt_cmpR op_eq (pv 1) pe_str (nomark _)) (pw_or (pt_cmpR op_eq (pv 1) pe_str (nomark _)) (pw_or1 (pt_cmp (pc_kin (pv 1) (pe_gref (by rfl) D_LOOKS.m)))))))
      (pss_cons (ps_fldC NT.cl NT.n_spot (pv 0) (pe_op op_add (pe_fldC NT.cl NT.n_spot (pv 0) (by rfl)) pe_int) rfl)
      (pss_cons (ps_if (pt_cmpR op_eq (pv 1) pe_str (nomark _))
        (pss_one (ps_expr (pe_bm PySem.F.plainAttrs_list PySem.F.slot_list_append PySem.F.type_list_append mt_append (pe_fldC NT.cl NT.n_begun (pv 0) (by rfl)) (pa_cons (pe_tup (pa_cons pe_str pa_nil)) pa_nil))))
        (pss_one (ps_if (pt_cmpR op_eq (pv 1) pe_str (nomark _))
          (pss_one (ps_expr (pe_bm PySem.F.plainAttrs_list PySem.F.slot_list_append PySem.F.type_list_append mt_append (pe_fldC NT.cl NT.n_begun (pv 0) (by rfl)) (pa_cons (pe_tup (pa_cons pe_str pa_nil)) pa_nil))))
          (pss_cons (ps_expr (pe_bm PySem.F.plainAttrs_list PySem.F.slot_list_append PySem.F.type_list_append mt_append (pe_fldC NT.cl NT.n_begun (pv 0) (by rfl)) (pa_cons (pe_tup (pa_cons (pe_kget (pe_gref (by rfl) D_LOOKS.m) (pv 1) (fun _ _ => rfl)) (pa_cons (pe_meth0 (pv 0) NT.cl m_number G_number (hr) b_number .nil passes_on) pa_nil))) pa_nil)))
          (pss_one (ps_expr (pe_meth (pv 0) NT.cl m_pass_by G_pass_by (hr) b_pass_by .nil passes_on (pa_cons pe_str pa_nil))))))))
      (pss_one (ps_set (i := 1) sc_Reader_leaf.nd rfl (by first | exact Or.inl rfl | exact Or.inr rfl) (pe_meth0 (pv 0) NT.cl m_sign G_sign (hr) b_sign .nil pass0))))))
    (pss_cons (ps_if (pt_cmp (pc_kin (pv 1) (pe_gref (by rfl) D_LEAVES.m)))
      (pss_cons (ps_fldC NT.cl NT.n_spot (pv 0) (pe_op op_add (pe_fldC NT.cl NT.n_spot (pv 0) (by rfl)) pe_int) rfl)
      (pss_one (ps_ret (pe_kget (pe_gref (by rfl) D_LEAVES.m) (pv 1) (fun _ _ => rfl)))))
      pss_nil)
    (pss_one (ps_ret (pe_tup (pa_cons pe_str (pa_cons (pe_meth0 (pv 0) NT.cl m_number G_number (hr) b_number .nil passes_on) pa_nil)))))))), ?_⟩
    simp only [rdA, rd_forL, rd_forR, rd_kget, rd_kin, rd_fldP, rd_make, rd_slS, cx_w, cx_w2]
    refine ⟨_, _, hA.R.ob, fl_sign _ _ _, r, dx, l, L, i, xs, rfl, hA.R, hL, ?_⟩
    refine ⟨LqInv K C H r dx l L i, ⟨_, i, xs, gs, rfl, hA, Bu.refl _ _ _, Nat.le_refl _, rfl⟩, ?_⟩
    rintro m σ H2 ⟨i2, ys, g2, rfl, hA2, hB, hi2, rfl⟩
    obtain ⟨hR2, hF2, hT2, hW2, hle2⟩ := hA2
    have hyl : ys.length ≤ 600 := by
      have h1 := hF2.len
      have h2 := cons_len g2
      have h3 := congrArg List.length hT2
      rw [List.length_append] at h3
      omega
    simp only [rdA, rd_forL, rd_forR, rd_kget, rd_kin, rd_fldP, rd_make, rd_slS, cx_w, cx_w2]
    have leafE : (∀ c r, (tx L).drop i2 = c :: r → c ≠ 33 ∧ c ≠ 40 ∧ c ≠ 65 ∧ c ≠ 83 ∧ c ≠ 89 ∧ c ≠ 78) → ∀ (R : VK), (∀ n j H', Bu r l H2 H' → 0 ≤ n → RdAt C H' r dx l L j ys → Fqs K H' ys g2 → tx L = consT g2 ++ (tx (line (.sw n)) ++ (tx L).drop j) → (Wf (tx L) → WE g2 ((tx L).drop j)) → i2 < j → j ≤ L.length → R (.int n) H') → spNq C CS [V.ref r] H2 R E := by
      intro hne R hRR
      refine ⟨r, dx, l, L, i2, ys, rfl, hR2, hLn, hle2, fun n j H' hn hd hf hij hj hR' hB' => ?_, fun hno => qe fun wf => ?_⟩
      · refine hRR n j H' hB' hn hR' (hF2.to (hB'.tk hR2)) (by rw [show tx (line (.sw n)) = tx (numS n) from rfl, ← hd]; exact hT2) (fun wf => ?_) hij hj
        obtain ⟨n', t, hn', e, ht⟩ := wq_sw hne (hW2 wf)
        have := (num_one hn' hn (WE_nofig ht) hf (e.symm.trans hd)).1
        rw [← this]; exact ht
      · obtain ⟨n', t, hn', e, ht⟩ := wq_sw hne (hW2 wf)
        exact hno ⟨n', t, hn', e, WE_nofig ht⟩
    cases ed : (tx L).drop i2 with
    | nil =>
      rw [sgn_nil ed, show decide (mkS [] = Str.ofString "!") = false from by decide +kernel, show decide (mkS [] = Str.ofString "(") = false from by decide +kernel]
      refine iteF (iteF ⟨gOf lLooks, KL, ?_⟩)
      rw [looks_e]
      refine iteF ⟨gOf (lLeaves pY pN), KV, ?_⟩
      rw [leaves_e]
      refine iteF ⟨_, _, hR2.ob, fl_number _ _ _, leafE (fun c r z => by rw [ed] at z; cases z) _ fun n j H' hB' hn hR' hF' hT' hW' hij hj => ?_⟩
      intro p hp
      have s5 := Same.new (o := HO.tup [sv "switch", .int n]) hp
      exact q _ _ j ys g2 (.sw n) ⟨hR'.same s5, hF'.to s5.tk, sk_mk (.inl upd_same) rfl, hn, hT', hW', hj⟩ ((hB.trans hB').trans (Bu.of s5)) (by omega)
    | cons c rs =>
      have hil : i2 < L.length := by
        have h3 := congrArg List.length ed
        rw [List.length_drop, List.length_cons] at h3
        omega
      rw [sgn_cons ed]
      by_cases hc : c = 33
      · subst hc
        have ed1 := drop_next ed
        rw [show decide (ch 33 = Str.ofString "!") = true from by decide +kernel]
        refine iteT ⟨fun σ' H' => ∃ m', m' < L.length - i2 ∧ LqInv K C H r dx l L i m' σ' H', fun _ _ h => h, _, _, hR2.ob, _, fl_spot _ _ _, ?_⟩
        simp only [rdA, rd_forL, rd_forR, rd_kget, rd_kin, rd_fldP, rd_make, rd_slS, cx_w, cx_w2]
        refine ⟨_, _, hR2.ob, by show 3 < 1000; decide, ?_⟩
        rw [show ((i2 : Nat) : Int) + 1 = ((i2 + 1 : Nat) : Int) from rfl, put_spot]
        obtain ⟨hR3, hB3⟩ := hR2.spot (i2 + 1)
        have hF3 := hF2.to (hB3.tk hR2)
        have hBA := hB.trans hB3
        generalize upd H2 r (HO.ins C dx (rflds L (i2 + 1) l)) = H3 at *
        refine ⟨_, _, hR3.ob, _, fl_begun _ _ _, ?_⟩
        simp only [rdA, rd_forL, rd_forR, rd_kget, rd_kin, rd_fldP, rd_make, rd_slS, cx_w, cx_w2]
        refine ⟨⟨_, SqL.of hR3.be⟩, fun p hp => ?_⟩
        obtain ⟨hl4, hR5, hB5, k5, hp5, hpush⟩ := push_fq (cs := [sv "not"]) hR3 hF3 hp
        refine ⟨ys, hl4, small1000 (by omega), _, _, hR5.ob, fl_sign _ _ _, r, dx, l, L, i2 + 1, _, rfl, hR5, hL, L.length - (i2 + 1), by omega, i2 + 1, _, .nt :: g2, rfl, ⟨hR5, hpush .nt ⟨p, rfl, hp5⟩, ?_, fun wf => ?_, by omega⟩, hBA.trans hB5, by omega, rfl⟩
        · show tx L = (consT g2 ++ [33]) ++ _
          rw [ed1]
          rw [ed] at hT2
          rw [List.append_assoc]
          exact hT2
        · have h := hW2 wf
          rw [ed] at h
          rw [ed1]
          exact wq_nt h
      by_cases hc : c = 40
      · subst hc
        have ed1 := drop_next ed
        rw [show decide (ch 40 = Str.ofString "!") = false from by decide +kernel, show decide (ch 40 = Str.ofString "(") = true from by decide +kernel]
        refine iteF (iteT ⟨fun σ' H' => ∃ m', m' < L.length - i2 ∧ LqInv K C H r dx l L i m' σ' H', fun _ _ h => h, _, _, hR2.ob, _, fl_spot _ _ _, ?_⟩)
        simp only [rdA, rd_forL, rd_forR, rd_kget, rd_kin, rd_fldP, rd_make, rd_slS, cx_w, cx_w2]
        refine ⟨_, _, hR2.ob, by show 3 < 1000; decide, ?_⟩
        rw [show ((i2 : Nat) : Int) + 1 = ((i2 + 1 : Nat) : Int) from rfl, put_spot]
        obtain ⟨hR3, hB3⟩ := hR2.spot (i2 + 1)
        have hF3 := hF2.to (hB3.tk hR2)
        have hBA := hB.trans hB3
        generalize upd H2 r (HO.ins C dx (rflds L (i2 + 1) l)) = H3 at *
        refine ⟨_, _, hR3.ob, _, fl_begun _ _ _, ?_⟩
        simp only [rdA, rd_forL, rd_forR, rd_kget, rd_kin, rd_fldP, rd_make, rd_slS, cx_w, cx_w2]
        refine ⟨⟨_, SqL.of hR3.be⟩, fun p hp => ?_⟩
        obtain ⟨hl4, hR5, hB5, k5, hp5, hpush⟩ := push_fq (cs := [sv "("]) hR3 hF3 hp
        refine ⟨ys, hl4, small1000 (by omega), _, _, hR5.ob, fl_sign _ _ _, r, dx, l, L, i2 + 1, _, rfl, hR5, hL, L.length - (i2 + 1), by omega, i2 + 1, _, .op :: g2, rfl, ⟨hR5, hpush .op ⟨p, rfl, hp5⟩, ?_, fun wf => ?_, by omega⟩, hBA.trans hB5, by omega, rfl⟩
        · show tx L = (consT g2 ++ [40]) ++ _
          rw [ed1]
          rw [ed] at hT2
          rw [List.append_assoc]
          exact hT2
        · have h := hW2 wf
          rw [ed] at h
          rw [ed1]
          exact wq_op h
      by_cases hc : c = 65
      · subst hc
        have ed1 := drop_next ed
        rw [show decide (ch 65 = Str.ofString "!") = false from by decide +kernel, show decide (ch 65 = Str.ofString "(") = false from by decide +kernel]
        refine iteF (iteF ⟨gOf lLooks, KL, ?_⟩)
        rw [show (gOf lLooks (ch 65)).isSome = true from by decide +kernel]
        refine iteT ⟨fun σ' H' => ∃ m', m' < L.length - i2 ∧ LqInv K C H r dx l L i m' σ' H', fun _ _ h => h, _, _, hR2.ob, _, fl_spot _ _ _, ?_⟩
        simp only [rdA, rd_forL, rd_forR, rd_kget, rd_kin, rd_fldP, rd_make, rd_slS, cx_w, cx_w2]
        refine ⟨_, _, hR2.ob, by show 3 < 1000; decide, ?_⟩
        rw [show ((i2 : Nat) : Int) + 1 = ((i2 + 1 : Nat) : Int) from rfl, put_spot]
        obtain ⟨hR3, hB3⟩ := hR2.spot (i2 + 1)
        have hF3 := hF2.to (hB3.tk hR2)
        have hBA := hB.trans hB3
        generalize upd H2 r (HO.ins C dx (rflds L (i2 + 1) l)) = H3 at *
        refine ⟨_, _, hR3.ob, _, fl_begun _ _ _, ?_⟩
        simp only [rdA, rd_forL, rd_forR, rd_kget, rd_kin, rd_fldP, rd_make, rd_slS, cx_w, cx_w2]
        have wal : Wf (tx L) → ∃ (n : Int) (s' : List Nat), 0 ≤ n ∧ (tx L).drop (i2 + 1) = tx (numS n) ++ 46 :: s' ∧ ∀ m, W (.al m :: g2) s' := fun wf => by
          have h := hW2 wf
          rw [ed] at h
          rw [ed1]
          exact wq_al h
        refine ⟨⟨_, SqL.of hR3.be⟩, gOf lLooks, KL, _, (by decide +kernel : gOf lLooks (ch 65) = some (sv "all")), _, _, hR3.ob, fl_number _ _ _, r, dx, l, L, i2 + 1, ys, rfl, hR3, hLn, by omega, fun n j H4 hn hd4 hf4 hij hj hR4 hB4 => ?_, fun hno => qe fun wf => ?_⟩
        · simp only [rdA, rd_forL, rd_forR, rd_kget, rd_kin, rd_fldP, rd_make, rd_slS, cx_w, cx_w2]
          intro p hp
          have hF4 := hF3.to (hB4.tk hR3)
          obtain ⟨hl5, hR5, hB5, k5, hp5, hpush⟩ := push_fq (cs := [sv "all", .int n]) hR4 hF4 hp
          have dot : Wf (tx L) → ∃ s', (tx L).drop j = 46 :: s' ∧ ∀ m, W (.al m :: g2) s' := fun wf => by
            obtain ⟨n', s', hn', e, hw⟩ := wal wf
            have := (num_one hn' hn (nofig_of (by decide)) hf4 (e.symm.trans hd4)).1
            exact ⟨s', this.symm, hw⟩
          refine ⟨ys, hl5, small1000 (by omega), _, _, hR5.ob, fl_pass _ _ _, r, dx, l, L, j, _, _, rfl, hR5, by omega, hL, fun H6 hz hR6 hB6 => ?_, fun hz => qe fun wf => ?_⟩
          · rw [of_dot] at hz
            obtain ⟨s', es⟩ := sgn_inv hz
            have es1 := drop_next es
            have hjl : j < L.length := by
              have h3 := congrArg List.length es
              rw [List.length_drop, List.length_cons] at h3
              omega
            have k6 := hB6.tk hR5
            refine ⟨_, _, hR6.ob, fl_sign _ _ _, r, dx, l, L, j + 1, _, rfl, hR6, hL, L.length - (j + 1), by omega, j + 1, _, .al n :: g2, rfl, ⟨hR6, (hpush (.al n) ⟨hn, p, rfl, hp5⟩).to k6, ?_, fun wf => ?_, by omega⟩, ((hBA.trans hB4).trans hB5).trans hB6, by omega, rfl⟩
            · show tx L = (consT g2 ++ 65 :: (tx (numS n) ++ [46])) ++ _
              rw [es1]
              rw [ed, ← ed1, hd4, es] at hT2
              rw [List.append_assoc, List.cons_append, List.append_assoc]
              exact hT2
            · obtain ⟨s2, e2, hw⟩ := dot wf
              rw [es] at e2
              injection e2 with _ e2
              rw [es1, e2]; exact hw n
          · obtain ⟨s', e, _⟩ := dot wf
            exact hz (by rw [sgn_cons e, of_dot])
        · obtain ⟨n', s', hn', e, _⟩ := wal wf
          exact hno ⟨n', _, hn', e, nofig_of (by decide)⟩
      by_cases hc : c = 83
      · subst hc
        have ed1 := drop_next ed
        rw [show decide (ch 83 = Str.ofString "!") = false from by decide +kernel, show decide (ch 83 = Str.ofString "(") = false from by decide +kernel]
        refine iteF (iteF ⟨gOf lLooks, KL, ?_⟩)
        rw [show (gOf lLooks (ch 83)).isSome = true from by decide +kernel]
        refine iteT ⟨fun σ' H' => ∃ m', m' < L.length - i2 ∧ LqInv K C H r dx l L i m' σ' H', fun _ _ h => h, _, _, hR2.ob, _, fl_spot _ _ _, ?_⟩
        simp only [rdA, rd_forL, rd_forR, rd_kget, rd_kin, rd_fldP, rd_make, rd_slS, cx_w, cx_w2]
        refine ⟨_, _, hR2.ob, by show 3 < 1000; decide, ?_⟩
        rw [show ((i2 : Nat) : Int) + 1 = ((i2 + 1 : Nat) : Int) from rfl, put_spot]
        obtain ⟨hR3, hB3⟩ := hR2.spot (i2 + 1)
        have hF3 := hF2.to (hB3.tk hR2)
        have hBA := hB.trans hB3
        generalize upd H2 r (HO.ins C dx (rflds L (i2 + 1) l)) = H3 at *
        refine ⟨_, _, hR3.ob, _, fl_begun _ _ _, ?_⟩
        simp only [rdA, rd_forL, rd_forR, rd_kget, rd_kin, rd_fldP, rd_make, rd_slS, cx_w, cx_w2]
        have wal : Wf (tx L) → ∃ (n : Int) (s' : List Nat), 0 ≤ n ∧ (tx L).drop (i2 + 1) = tx (numS n) ++ 46 :: s' ∧ ∀ m, W (.sm m :: g2) s' := fun wf => by
          have h := hW2 wf
          rw [ed] at h
          rw [ed1]
          exact wq_sm h
        refine ⟨⟨_, SqL.of hR3.be⟩, gOf lLooks, KL, _, (by decide +kernel : gOf lLooks (ch 83) = some (sv "some")), _, _, hR3.ob, fl_number _ _ _, r, dx, l, L, i2 + 1, ys, rfl, hR3, hLn, by omega, fun n j H4 hn hd4 hf4 hij hj hR4 hB4 => ?_, fun hno => qe fun wf => ?_⟩
        · simp only [rdA, rd_forL, rd_forR, rd_kget, rd_kin, rd_fldP, rd_make, rd_slS, cx_w, cx_w2]
          intro p hp
          have hF4 := hF3.to (hB4.tk hR3)
          obtain ⟨hl5, hR5, hB5, k5, hp5, hpush⟩ := push_fq (cs := [sv "some", .int n]) hR4 hF4 hp
          have dot : Wf (tx L) → ∃ s', (tx L).drop j = 46 :: s' ∧ ∀ m, W (.sm m :: g2) s' := fun wf => by
            obtain ⟨n', s', hn', e, hw⟩ := wal wf
            have := (num_one hn' hn (nofig_of (by decide)) hf4 (e.symm.trans hd4)).1
            exact ⟨s', this.symm, hw⟩
          refine ⟨ys, hl5, small1000 (by omega), _, _, hR5.ob, fl_pass _ _ _, r, dx, l, L, j, _, _, rfl, hR5, by omega, hL, fun H6 hz hR6 hB6 => ?_, fun hz => qe fun wf => ?_⟩
          · rw [of_dot] at hz
            obtain ⟨s', es⟩ := sgn_inv hz
            have es1 := drop_next es
            have hjl : j < L.length := by
              have h3 := congrArg List.length es
              rw [List.length_drop, List.length_cons] at h3
              omega
            have k6 := hB6.tk hR5
            refine ⟨_, _, hR6.ob, fl_sign _ _ _, r, dx, l, L, j + 1, _, rfl, hR6, hL, L.length - (j + 1), by omega, j + 1, _, .sm n :: g2, rfl, ⟨hR6, (hpush (.sm n) ⟨hn, p, rfl, hp5⟩).to k6, ?_, fun wf => ?_, by omega⟩, ((hBA.trans hB4).trans hB5).trans hB6, by omega, rfl⟩
            · show tx L = (consT g2 ++ 83 :: (tx (numS n) ++ [46])) ++ _
              rw [es1]
              rw [ed, ← ed1, hd4, es] at hT2
              rw [List.append_assoc, List.cons_append, List.append_assoc]
              exact hT2
            · obtain ⟨s2, e2, hw⟩ := dot wf
              rw [es] at e2
              injection e2 with _ e2
              rw [es1, e2]; exact hw n
          · obtain ⟨s', e, _⟩ := dot wf
            exact hz (by rw [sgn_cons e, of_dot])
        · obtain ⟨n', s', hn', e, _⟩ := wal wf
          exact hno ⟨n', _, hn', e, nofig_of (by decide)⟩
      by_cases hc : c = 89
      · subst hc
        have ed1 := drop_next ed
        rw [show decide (ch 89 = Str.ofString "!") = false from by decide +kernel, show decide (ch 89 = Str.ofString "(") = false from by decide +kernel]
        refine iteF (iteF ⟨gOf lLooks, KL, ?_⟩)
        rw [show (gOf lLooks (ch 89)).isSome = false from by decide +kernel]
        refine iteF ⟨gOf (lLeaves pY pN), KV, ?_⟩
        rw [leaves_Y]
        refine iteT ⟨_, _, hR2.ob, _, fl_spot _ _ _, ?_⟩
        simp only [rdA, rd_forL, rd_forR, rd_kget, rd_kin, rd_fldP, rd_make, rd_slS, cx_w, cx_w2]
        refine ⟨_, _, hR2.ob, by show 3 < 1000; decide, gOf (lLeaves pY pN), KV, _, leaves_Y pY pN, ?_⟩
        rw [show ((i2 : Nat) : Int) + 1 = ((i2 + 1 : Nat) : Int) from rfl, put_spot]
        obtain ⟨hR3, hB3⟩ := hR2.spot (i2 + 1)
        have hF3 := hF2.to (hB3.tk hR2)
        refine q _ _ (i2 + 1) ys g2 .yes ⟨hR3, hF3, sk_mk KY.tq rfl, trivial, ?_, fun wf => ?_, by omega⟩ (hB.trans hB3) (by omega)
        · rw [ed1, tx_yes]
          rw [ed] at hT2
          exact hT2
        · have h := hW2 wf
          rw [ed] at h
          rw [ed1]
          exact wq_yn (.inl rfl) h
      by_cases hc : c = 78
      · subst hc
        have ed1 := drop_next ed
        rw [show decide (ch 78 = Str.ofString "!") = false from by decide +kernel, show decide (ch 78 = Str.ofString "(") = false from by decide +kernel]
        refine iteF (iteF ⟨gOf lLooks, KL, ?_⟩)
        rw [show (gOf lLooks (ch 78)).isSome = false from by decide +kernel]
        refine iteF ⟨gOf (lLeaves pY pN), KV, ?_⟩
        rw [leaves_N]
        refine iteT ⟨_, _, hR2.ob, _, fl_spot _ _ _, ?_⟩
        simp only [rdA, rd_forL, rd_forR, rd_kget, rd_kin, rd_fldP, rd_make, rd_slS, cx_w, cx_w2]
        refine ⟨_, _, hR2.ob, by show 3 < 1000; decide, gOf (lLeaves pY pN), KV, _, leaves_N pY pN, ?_⟩
        rw [show ((i2 : Nat) : Int) + 1 = ((i2 + 1 : Nat) : Int) from rfl, put_spot]
        obtain ⟨hR3, hB3⟩ := hR2.spot (i2 + 1)
        have hF3 := hF2.to (hB3.tk hR2)
        refine q _ _ (i2 + 1) ys g2 .no ⟨hR3, hF3, sk_mk KN.tq rfl, trivial, ?_, fun wf => ?_, by omega⟩ (hB.trans hB3) (by omega)
        · rw [ed1, tx_no]
          rw [ed] at hT2
          exact hT2
        · have h := hW2 wf
          rw [ed] at h
          rw [ed1]
          exact wq_yn (.inr rfl) h
      rw [ch_dec c 33 "!" of_nt, ch_dec c 40 "(" of_op, decide_eq_false (by assumption), decide_eq_false (by assumption)]
      refine iteF (iteF ⟨gOf lLooks, KL, ?_⟩)
      rw [looks_none ⟨by assumption, by assumption⟩]
      refine iteF ⟨gOf (lLeaves pY pN), KV, ?_⟩
      rw [leaves_none pY pN ⟨by assumption, by assumption⟩]
      refine iteF ⟨_, _, hR2.ob, fl_number _ _ _, leafE (fun c' r z => by rw [ed] at z; injection z with z1 z2; subst z1; exact ⟨by assumption, by assumption, by assumption, by assumption, by assumption, by assumption⟩) _ fun n j H' hB' hn hR' hF' hT' hW' hij hj => ?_⟩
      intro p hp
      have s5 := Same.new (o := HO.tup [sv "switch", .int n]) hp
      exact q _ _ j ys g2 (.sw n) ⟨hR'.same s5, hF'.to s5.tk, sk_mk (.inl upd_same) rfl, hn, hT', hW', hj⟩ ((hB.trans hB').trans (Bu.of s5)) (by omega)
end
end CN
end
section
set_option Elab.async false
set_option linter.all false
set_option maxRecDepth 100000
set_option maxHeartbeats 4000000
namespace CN
open PySem L2
seal L2.PE L2.PT L2.PS L2.PSs L2.PA L2.PPs L2.PW L2.PC L2.PG L2.PGs L2.PI L2.PO
section
variable {P : Program} {w : World} {K : PySem.W.Frag} {mg : Str → Option Value} {base : Heap}
noncomputable def spPair2 (K : PySem.W.Frag) : Sp := fun vs H Q _ => ∃ (p : Addr) (x : Str) (rs : List V), vs = [.ref p] ∧ SqT K H p (.str x :: rs) ∧ Q (.bl (decide (x = Str.ofString "and") || decide (x = Str.ofString "or"))) H
theorem ok_isPair2 {f : Addr} {fd : FuncData} (D : Df K mg "is_pair" s_is_pair p_is_pair f fd) : FnOk P w K mg base CX0 1 f fd p_is_pair (spPair2 K) := by
  refine D.F.ok sc_is_pair (fun vs H Q E h => ?_) (fun cdv A outer s H vs Q E hr h => ?_)
  · obtain ⟨p, x, rs, rfl, _⟩ := h
    rfl
  · obtain ⟨p, x, rs, rfl, hp, q⟩ := h
    refine ⟨_, (pss_one (ps_ret (pe_or (pe_cmpR op_eq (pe_ix ix_tup (pv 0) pe_int (fun _ _ => rfl)) pe_str (nomark _)) (pe_one (pe_cmpR op_eq (pe_ix ix_tup (pv 0) pe_int (fun _ _ => rfl)) pe_str (nomark _)))))), ?_⟩
    simp only [rdA, rd_forL, rd_forR, rd_kget, rd_kin, rd_fldP, rd_make, rd_slS, cx_w, cx_w2]
    refine ⟨_, hp, _, atI0 _ _, ?_⟩
    simp only [rdA, rd_forL, rd_forR, rd_kget, rd_kin, rd_fldP, rd_make, rd_slS, cx_w, cx_w2]
    refine ite2 (fun h => ?_) (fun h => ?_)
    · rw [of_decide_eq_true h] at q; simpa using q
    · have e : decide (x = Str.ofString "and") = false := by simpa using h
      refine ⟨_, hp, _, atI0 _ _, ?_⟩
      rw [rd_eqS]
      rw [e] at q
      simpa using q
theorem wrap_fq {C r dx l p p2 : Addr} {H : Hp} {L : Str} {j : Nat} {ys cs : List V} {u : V} {b : Stm} {g : List Fq} (hR : RdAt C H r dx l L j ys) (hF : Fqs K H ys g) (hu : IsSk K H u b) (hp : H p = none) (hp2 : upd H p (.tup [u]) p2 = none) :
    RdAt C (upd (upd H p (.tup [u])) p2 (.tup cs)) r dx l L j ys ∧ Bu r l H (upd (upd H p (.tup [u])) p2 (.tup cs)) ∧ Fqs K (upd (upd H p (.tup [u])) p2 (.tup cs)) ys g ∧ IsSk K (upd (upd H p (.tup [u])) p2 (.tup cs)) u b ∧ Tk H (upd (upd H p (.tup [u])) p2 (.tup cs)) := by
  have s1 := Same.new (o := HO.tup [u]) hp
  have s2 := Same.new (o := HO.tup cs) hp2
  have s := s1.trans s2
  exact ⟨hR.same s, Bu.of s, hF.to s.tk, DK.to hu s.tk, s.tk⟩
noncomputable def gPairs : Bool → Str
  | true => Str.ofString "and"
  | false => Str.ofString "or"
theorem pairs_at (c : Bool) : gOf lPairs (ch (sg c)) = some (.str (gPairs c)) := by cases c <;> decide +kernel
theorem pairs_none {c : Nat} (h : c ≠ 38 ∧ c ≠ 124) : gOf lPairs (ch c) = none := by
  show gOf [("&", sv "and"), ("|", sv "or")] (ch c) = none
  rw [gOf_two, if_neg (by rw [show ("&" : Str) = ch 38 from of_an, ch_inj]; omega), if_neg (by rw [show ("|" : Str) = ch 124 from of_or, ch_inj]; omega)]
theorem pairs_e : gOf lPairs (mkS []) = none := by decide +kernel
theorem pairs_cases (L : Str) (i : Nat) : (∃ c s, (tx L).drop i = sg c :: s) ∨ (gOf lPairs (sgn L i) = none ∧ ¬ ∃ c s, (tx L).drop i = sg c :: s) := by
  cases e : (tx L).drop i with
  | nil => exact .inr ⟨by rw [sgn_nil e]; exact pairs_e, fun ⟨c, s, z⟩ => by cases z⟩
  | cons c s =>
    by_cases h1 : c = 38
    · exact .inl ⟨true, s, by rw [h1]; rfl⟩
    · by_cases h2 : c = 124
      · exact .inl ⟨false, s, by rw [h2]; rfl⟩
      · refine .inr ⟨by rw [sgn_cons e]; exact pairs_none ⟨h1, h2⟩, fun ⟨k, u, z⟩ => ?_⟩
        injection z with z _
        cases k
        · exact h2 z
        · exact h1 z
noncomputable def spEq (K : PySem.W.Frag) (C CS : Addr) : Sp := fun vs H Q E => ∃ (r dx l : Addr) (L : Str) (i : Nat) (xs : List V) (gs : List Fq) (v : V) (a : Stm), vs = [.ref r, v] ∧ L.length ≤ 600 ∧ Bh K C H r dx l L i xs gs v a ∧
  (∀ H' i' xs' gs', Ah K C H' r dx l L i' xs' gs' → Bu r l H H' → i < i' → Q .non H') ∧
  (∀ u H' i' b, Bh K C H' r dx l L i' [] [] u b → Bu r l H H' → Q u H') ∧ (¬ Wf (tx L) → ∀ H', E (.ref CS) none H')
inductive EqInv (K : PySem.W.Frag) (C : Addr) (H : Hp) (r dx l : Addr) (L : Str) (i0 : Nat) (m : Nat) (σ : St) (H2 : Hp) : Prop
  | mk (i : Nat) (xs : List V) (gs : List Fq) (v : V) (a : Stm) (o2 o3 : Option V) (h0 : σ = [some (.ref r), some v, o2, o3]) (h1 : Bh K C H2 r dx l L i xs gs v a) (h2 : Bu r l H H2) (h3 : i0 ≤ i) (h4 : m = gs.length) : EqInv K C H r dx l L i0 m σ H2
theorem ok_eq {f f1 f2 f3 f4 C CS aP : Addr} {fd fd1 fd2 fd3 fd4 : FuncData} (BT : Bt mg) (F : Fun K "ended" "Reader.ended" s_Reader_ended f fd) (NT : RTx K C) (D_PAIRS : Gd mg "PAIRS" aP) (KP : KD K w.params aP (gOf lPairs))
    (D_is_pair : Df K mg "is_pair" s_is_pair p_is_pair f4 fd4)
    (m_sign : Meth K C "sign" f1) (b_sign : Binds K fd1 p_Reader_sign []) (G1 : FnOk P w K mg base CX0 1 f1 fd1 p_Reader_sign (spSign C))
    (m_demand : Meth K C "demand" f2) (b_demand : Binds K fd2 p_Reader_demand []) (G2 : FnOk P w K mg base (CXe P w) 1 f2 fd2 p_Reader_demand (spDem C CS))
    (m_pass_by : Meth K C "pass_by" f3) (b_pass_by : Binds K fd3 p_Reader_pass_by []) (G_pass_by : FnOk P w K mg base (CXe P w) 2 f3 fd3 p_Reader_pass_by (spPq C CS)) : FnOk P w K mg base (CXe P w) 3 f fd p_Reader_ended (spEq K C CS) := by
  have G_sign := G1.mono (show 1 ≤ 2 by omega)
  have G_demand := G2.mono (show 1 ≤ 2 by omega)
  have G_is_pair : FnOk P w K mg base CX0 2 f4 fd4 p_is_pair (spPair2 K) := (ok_isPair2 D_is_pair).mono (show 1 ≤ 2 by omega)
  refine F.okE sc_Reader_ended (fun vs H Q E h => ?_) (fun cdv A outer s H vs Q E hr h => ?_)
  · obtain ⟨r, dx, l, L, i, xs, gs, v, a, rfl, _⟩ := h
    rfl
  · obtain ⟨r, dx, l, L, i, xs, gs, v, a, rfl, hLn, hBh, q1, q2, qe⟩ := h
    have hL : L.length ≤ sizeLine := small9 (by omega)
    have tl := tx_len L
    refine ⟨_, (pss_cons (ps_while PassesOwn.leaving (pt_cmpR op_gt (pe_callB call_len_seq (by rfl) BT.n_len bo_len (pa_cons (pe_fldC NT.cl NT.n_begun (pv 0) (by rfl)) pa_nil)) pe_int (nomark _))
      (pss_cons (ps_set (i := 2) sc_Reader_ended.nd rfl (by first | exact Or.inl rfl | exact Or.inr rfl) (pe_bm0 PySem.F.plainAttrs_list PySem.F.slot_list_pop PySem.F.type_list_pop mt_pop (pe_fldC NT.cl NT.n_begun (pv 0) (by rfl))))
      (pss_cons (ps_if (pt_cmpR op_eq (pe_ix ix_tup (pv 2) pe_int (fun _ _ => rfl)) pe_str (nomark _))
        (pss_cons (ps_set (i := 3) sc_Reader_ended.nd rfl (by first | exact Or.inl rfl | exact Or.inr rfl) (pe_meth0 (pv 0) NT.cl m_sign G_sign (hr) b_sign .nil pass0))
        (pss_cons (ps_expr (pe_meth (pv 0) NT.cl m_demand G_demand (hr) b_demand .nil passes_on (pa_cons (pe_cmp (pc_kin (pv 3) (pe_gref (by rfl) D_PAIRS.m))) pa_nil)))
        (pss_cons (ps_fldC NT.cl NT.n_spot (pv 0) (pe_op op_add (pe_fldC NT.cl NT.n_spot (pv 0) (by rfl)) pe_int) rfl)
        (pss_cons (ps_expr (pe_bm PySem.F.plainAttrs_list PySem.F.slot_list_append PySem.F.type_list_append mt_append (pe_fldC NT.cl NT.n_begun (pv 0) (by rfl)) (pa_cons (pe_tup (pa_cons (pe_kget (pe_gref (by rfl) D_PAIRS.m) (pv 3) (fun _ _ => rfl)) (pa_cons (pv 1) pa_nil))) pa_nil)))
        (pss_one (ps_ret pe_non))))))
        pss_nil)
      (pss_cons (ps_if (pt_val (pe_call G_is_pair (hr) (by rfl) D_is_pair.m D_is_pair.F.kp D_is_pair.b .nil pass0 (pa_cons (pv 2) pa_nil)))
        (pss_one (ps_expr (pe_meth (pv 0) NT.cl m_pass_by G_pass_by (hr) b_pass_by .nil passes_on (pa_cons pe_str pa_nil))))
        pss_nil)
      (pss_one (ps_set (i := 1) sc_Reader_ended.nd rfl (by first | exact Or.inl rfl | exact Or.inr rfl) (pe_op op_catT (pv 2) (pe_tup (pa_cons (pv 1) pa_nil)))))))))
    (pss_one (ps_ret (pv 1)))), ?_⟩
    simp only [rdA, rd_forL, rd_forR, rd_kget, rd_kin, rd_fldP, rd_make, rd_slS, cx_w, cx_w2]
    refine ⟨EqInv K C H r dx l L i, ⟨gs.length, i, xs, gs, v, a, none, none, rfl, hBh, Bu.refl _ _ _, Nat.le_refl _, rfl⟩, ?_⟩
    rintro m σ H2 ⟨i2, ys, g2, u, b, o2, o3, rfl, hB2, hB, hi2, rfl⟩
    obtain ⟨hR2, hF2, hu, hnb, hT2, hW2, hle2⟩ := hB2
    have hlen := hF2.len
    have hyl : ys.length ≤ 600 := by
      have h2 := cons_len g2
      have h3 := congrArg List.length hT2
      rw [List.length_append] at h3
      omega
    simp only [rdA, rd_forL, rd_forR, rd_kget, rd_kin, rd_fldP, rd_make, rd_slS, cx_w, cx_w2]
    refine ⟨_, _, hR2.ob, _, fl_begun _ _ _, ?_⟩
    simp only [rdA, rd_forL, rd_forR, rd_kget, rd_kin, rd_fldP, rd_make, rd_slS, cx_w, cx_w2]
    refine ⟨_, .inl (SqL.of hR2.be), ite2 (fun he => ?_) (fun he => ?_)⟩
    · refine ⟨fun σ' H' => ∃ m', m' < g2.length ∧ EqInv K C H r dx l L i m' σ' H', fun _ _ h => h, ?_⟩
      obtain ⟨zs, z, rfl⟩ := snoc_of (xs := ys) (by rintro rfl; simp at he)
      obtain ⟨g, g3, rfl, hz, hF3⟩ := hF2.pop
      refine ⟨_, _, hR2.ob, _, fl_begun _ _ _, ?_⟩
      simp only [rdA, rd_forL, rd_forR, rd_kget, rd_kin, rd_fldP, rd_make, rd_slS, cx_w, cx_w2]
      refine ⟨⟨_, SqL.of hR2.be⟩, _, hR2.be, _, last_of zs z, ?_⟩
      rw [drop_of]
      obtain ⟨hR3, hB3⟩ := hR2.list zs
      have k3 := hB3.tk hR2
      replace hF3 := hF3.to k3
      replace hz := hz.to k3
      replace hu : IsSk K _ u b := DK.to hu k3
      have hBA := hB.trans hB3
      generalize upd H2 l (HO.lst zs) = H3 at *
      have hl1 : zs.length ≤ 1000 := by simp only [List.length_append, List.length_cons, List.length_nil] at hyl; omega
      cases g with
      | nt =>
        obtain ⟨p0, rfl, hp0⟩ := hz
        simp only [rdA, rd_forL, rd_forR, rd_kget, rd_kin, rd_fldP, rd_make, rd_slS, cx_w, cx_w2]
        refine ⟨_, SqT.of hp0, _, atI0 _ _, ?_⟩
        simp only [rdA, rd_forL, rd_forR, rd_kget, rd_kin, rd_fldP, rd_make, rd_slS, cx_w, cx_w2]
        rw [show decide (Str.ofString "not" = Str.ofString "(") = false from by decide +kernel]
        refine iteF ⟨p0, _, _, rfl, SqT.of hp0, _, rfl, ?_⟩
        rw [show (decide (Str.ofString "not" = Str.ofString "and") || decide (Str.ofString "not" = Str.ofString "or")) = false from by decide +kernel]
        refine iteF fun p hp => ⟨p0, p, [sv "not"], [u], rfl, rfl, SqT.of (Same.new hp _ _ hp0), SqT.of upd_same, by simp, small9 (by simp), fun e => (by cases e), fun _ p2 hp2 => ?_⟩
        obtain ⟨hR5, hB5, hF5, hu5, k5⟩ := wrap_fq (cs := [sv "not"] ++ [u]) hR3 hF3 hu hp hp2
        exact ⟨g3.length, by simp, i2, zs, g3, .ref p2, .nt b, _, _, rfl, ⟨hR5, hF5, sk_mk (.inl upd_same) ⟨u, rfl, hu5⟩, hnb, by rw [tx_nt]; rw [show consT (.nt :: g3) = consT g3 ++ [33] from rfl, List.append_assoc] at hT2; exact hT2, hW2, hle2⟩, hBA.trans hB5, hi2, rfl⟩
      | al n =>
        obtain ⟨hn, p0, rfl, hp0⟩ := hz
        simp only [rdA, rd_forL, rd_forR, rd_kget, rd_kin, rd_fldP, rd_make, rd_slS, cx_w, cx_w2]
        refine ⟨_, SqT.of hp0, _, atI0 _ _, ?_⟩
        simp only [rdA, rd_forL, rd_forR, rd_kget, rd_kin, rd_fldP, rd_make, rd_slS, cx_w, cx_w2]
        rw [show decide (Str.ofString "all" = Str.ofString "(") = false from by decide +kernel]
        refine iteF ⟨p0, _, _, rfl, SqT.of hp0, _, rfl, ?_⟩
        rw [show (decide (Str.ofString "all" = Str.ofString "and") || decide (Str.ofString "all" = Str.ofString "or")) = false from by decide +kernel]
        refine iteF fun p hp => ⟨p0, p, [sv "all", .int n], [u], rfl, rfl, SqT.of (Same.new hp _ _ hp0), SqT.of upd_same, by simp, small9 (by simp), fun e => (by cases e), fun _ p2 hp2 => ?_⟩
        obtain ⟨hR5, hB5, hF5, hu5, k5⟩ := wrap_fq (cs := [sv "all", .int n] ++ [u]) hR3 hF3 hu hp hp2
        exact ⟨g3.length, by simp, i2, zs, g3, .ref p2, .al n b, _, _, rfl, ⟨hR5, hF5, sk_mk (.inl upd_same) ⟨u, rfl, hu5⟩, ⟨hn, hnb⟩, by rw [tx_al]; rw [show consT (.al n :: g3) = consT g3 ++ 65 :: (tx (numS n) ++ [46]) from rfl, List.append_assoc, List.cons_append, List.append_assoc] at hT2; rw [List.cons_append, List.append_assoc]; exact hT2, hW2, hle2⟩, hBA.trans hB5, hi2, rfl⟩
      | sm n =>
        obtain ⟨hn, p0, rfl, hp0⟩ := hz
        simp only [rdA, rd_forL, rd_forR, rd_kget, rd_kin, rd_fldP, rd_make, rd_slS, cx_w, cx_w2]
        refine ⟨_, SqT.of hp0, _, atI0 _ _, ?_⟩
        simp only [rdA, rd_forL, rd_forR, rd_kget, rd_kin, rd_fldP, rd_make, rd_slS, cx_w, cx_w2]
        rw [show decide (Str.ofString "some" = Str.ofString "(") = false from by decide +kernel]
        refine iteF ⟨p0, _, _, rfl, SqT.of hp0, _, rfl, ?_⟩
        rw [show (decide (Str.ofString "some" = Str.ofString "and") || decide (Str.ofString "some" = Str.ofString "or")) = false from by decide +kernel]
        refine iteF fun p hp => ⟨p0, p, [sv "some", .int n], [u], rfl, rfl, SqT.of (Same.new hp _ _ hp0), SqT.of upd_same, by simp, small9 (by simp), fun e => (by cases e), fun _ p2 hp2 => ?_⟩
        obtain ⟨hR5, hB5, hF5, hu5, k5⟩ := wrap_fq (cs := [sv "some", .int n] ++ [u]) hR3 hF3 hu hp hp2
        exact ⟨g3.length, by simp, i2, zs, g3, .ref p2, .sm n b, _, _, rfl, ⟨hR5, hF5, sk_mk (.inl upd_same) ⟨u, rfl, hu5⟩, ⟨hn, hnb⟩, by rw [tx_sm]; rw [show consT (.sm n :: g3) = consT g3 ++ 83 :: (tx (numS n) ++ [46]) from rfl, List.append_assoc, List.cons_append, List.append_assoc] at hT2; rw [List.cons_append, List.append_assoc]; exact hT2, hW2, hle2⟩, hBA.trans hB5, hi2, rfl⟩
      | sd c a0 =>
        obtain ⟨hn0, p0, u0, rfl, hp0, hu0⟩ := hz
        simp only [rdA, rd_forL, rd_forR, rd_kget, rd_kin, rd_fldP, rd_make, rd_slS, cx_w, cx_w2]
        refine ⟨_, SqT.of hp0, _, atI0 _ _, ?_⟩
        simp only [rdA, rd_forL, rd_forR, rd_kget, rd_kin, rd_fldP, rd_make, rd_slS, cx_w, cx_w2]
        rw [show decide ((if c = true then Str.ofString "and" else Str.ofString "or") = Str.ofString "(") = false from by cases c <;> decide +kernel]
        refine iteF ⟨p0, _, _, rfl, SqT.of hp0, _, rfl, ?_⟩
        rw [show (decide ((if c = true then Str.ofString "and" else Str.ofString "or") = Str.ofString "and") || decide ((if c = true then Str.ofString "and" else Str.ofString "or") = Str.ofString "or")) = true from by cases c <;> decide +kernel]
        refine iteT ⟨_, _, hR3.ob, fl_pass _ _ _, r, dx, l, L, i2, zs, _, rfl, hR3, by omega, hL, fun H4 hsg hR4 hB4 p hp => ?_, fun hsg => qe fun wf => ?_⟩
        · rw [of_cl] at hsg
          obtain ⟨s', es⟩ := sgn_inv hsg
          have es1 := drop_next es
          have hil : i2 < L.length := by
            have h3 := congrArg List.length es
            rw [List.length_drop, List.length_cons] at h3
            omega
          have k4 := hB4.tk hR3
          refine ⟨p0, p, _, [u], rfl, rfl, SqT.of (Same.new hp _ _ (k4 _ _ hp0)), SqT.of upd_same, by simp, small9 (by simp), fun e => (by cases e), fun _ p2 hp2 => ?_⟩
          obtain ⟨hR5, hB5, hF5, hu5, k5⟩ := wrap_fq (cs := [.str (if c = true then Str.ofString "and" else Str.ofString "or"), u0] ++ [u]) hR4 (hF3.to k4) (DK.to hu k4) hp hp2
          have hu6 : IsSk K _ u0 a0 := DK.to hu0 (k4.trans k5)
          refine ⟨g3.length, by simp, i2 + 1, zs, g3, .ref p2, two c a0 b, _, _, rfl, ⟨hR5, hF5, ?_, ?_, ?_, fun wf => ?_, by omega⟩, (hBA.trans hB4).trans hB5, by omega, rfl⟩
          · cases c with
            | true => exact sk_mk (a := .an a0 b) (.inl upd_same) ⟨u0, u, rfl, hu6, hu5⟩
            | false => exact sk_mk (a := .og a0 b) (.inl upd_same) ⟨u0, u, rfl, hu6, hu5⟩
          · cases c <;> exact ⟨hn0, hnb⟩
          · rw [tx_two, es1]
            rw [show consT (.sd c a0 :: g3) = consT g3 ++ 40 :: (tx (line a0) ++ [sg c]) from rfl, es] at hT2
            simpa using hT2
          · obtain ⟨s2, e2, hw⟩ := hW2 wf
            rw [es] at e2
            injection e2 with _ e2
            rw [es1, e2]; exact hw
        · obtain ⟨s2, e2, _⟩ := hW2 wf
          exact hsg (by rw [sgn_cons e2, of_cl])
      | op =>
        obtain ⟨p0, rfl, hp0⟩ := hz
        simp only [rdA, rd_forL, rd_forR, rd_kget, rd_kin, rd_fldP, rd_make, rd_slS, cx_w, cx_w2]
        refine ⟨_, SqT.of hp0, _, atI0 _ _, ?_⟩
        simp only [rdA, rd_forL, rd_forR, rd_kget, rd_kin, rd_fldP, rd_make, rd_slS, cx_w, cx_w2]
        rw [decide_true]
        refine iteT ⟨_, _, hR3.ob, fl_sign _ _ _, r, dx, l, L, i2, zs, rfl, hR3, hL, _, _, hR3.ob, fl_demand _ _ _, gOf lPairs, _, rfl, KP, r, dx, l, L, i2, zs, _, rfl, hR3, by omega, fun hb => ?_, fun hb => qe fun wf => ?_⟩
        · rcases pairs_cases L i2 with ⟨c, s', es⟩ | ⟨hno, _⟩
          · have es1 := drop_next es
            have hil : i2 < L.length := by
              have h3 := congrArg List.length es
              rw [List.length_drop, List.length_cons] at h3
              omega
            refine ⟨_, _, hR3.ob, _, fl_spot _ _ _, ?_⟩
            simp only [rdA, rd_forL, rd_forR, rd_kget, rd_kin, rd_fldP, rd_make, rd_slS, cx_w, cx_w2]
            refine ⟨_, _, hR3.ob, by show 3 < 1000; decide, ?_⟩
            rw [show ((i2 : Nat) : Int) + 1 = ((i2 + 1 : Nat) : Int) from rfl, put_spot]
            obtain ⟨hR4, hB4⟩ := hR3.spot (i2 + 1)
            have k4 := hB4.tk hR3
            replace hF3 := hF3.to k4
            replace hu : IsSk K _ u b := DK.to hu k4
            replace hBA := hBA.trans hB4
            generalize upd H3 r (HO.ins C dx (rflds L (i2 + 1) l)) = H4 at *
            refine ⟨_, _, hR4.ob, _, fl_begun _ _ _, ?_⟩
            simp only [rdA, rd_forL, rd_forR, rd_kget, rd_kin, rd_fldP, rd_make, rd_slS, cx_w, cx_w2]
            refine ⟨⟨_, SqL.of hR4.be⟩, gOf lPairs, KP, _, by rw [sgn_cons es]; exact pairs_at c, fun p hp => ?_⟩
            obtain ⟨hl5, hR5, hB5, k5, hp5, hpush⟩ := push_fq (cs := [.str (gPairs c), u]) hR4 hF3 hp
            refine ⟨zs, hl5, small1000 hl1, ?_⟩
            refine q1 _ (i2 + 1) _ (.sd c b :: g3) ⟨hR5, hpush (.sd c b) ⟨hnb, p, u, rfl, ?_, DK.to hu k5⟩, ?_, fun wf => ?_, by omega⟩ (hBA.trans hB5) (by omega)
            · rw [hp5]; cases c <;> rfl
            · rw [show consT (.sd c b :: g3) = consT g3 ++ 40 :: (tx (line b) ++ [sg c]) from rfl, es1]
              rw [show consT (.op :: g3) = consT g3 ++ [40] from rfl, es] at hT2
              simpa using hT2
            · obtain ⟨c', s2, d, s3, e2, hd, rfl, hw⟩ := hW2 wf
              rw [es] at e2
              injection e2 with _ e2
              rw [es1, e2]
              exact ⟨d, 41 :: s3, hd, rfl, s3, rfl, hw⟩
          · rw [hno] at hb; cases hb
        · obtain ⟨c', s2, d, s3, e2, hd, rfl, hw⟩ := hW2 wf
          rw [sgn_cons e2, pairs_at] at hb
          cases hb
    · have hys : ys = [] := by
        cases ys with
        | nil => rfl
        | cons x rr => exfalso; apply he; simp
      subst hys
      have hg : g2 = [] := List.eq_nil_of_length_eq_zero (by rw [← hlen]; rfl)
      subst hg
      exact q2 u H2 i2 b ⟨hR2, hF2, hu, hnb, hT2, hW2, hle2⟩ hB
noncomputable def spRq (K : PySem.W.Frag) (CS : Addr) : Sp := fun vs H Q E => ∃ L : Str, vs = [.str L] ∧ L.length ≤ 600 ∧ (∀ v A H', Same H H' → IsSk K H' v A → nn A → tx L = tx (line A) → Q v H') ∧ (¬ Wf (tx L) → ∀ H', E (.ref CS) none H')
inductive RqInv (K : PySem.W.Frag) (C : Addr) (H : Hp) (r dx l : Addr) (L : Str) (m : Nat) (σ : St) (H2 : Hp) : Prop
  | non (i : Nat) (xs : List V) (gs : List Fq) (h0 : σ = [some (.str L), some (.ref r), some .non]) (h1 : Same H H2) (h2 : Ah K C H2 r dx l L i xs gs) (h3 : m = L.length + 1 - i) : RqInv K C H r dx l L m σ H2
  | val (v : V) (i : Nat) (A : Stm) (h0 : σ = [some (.str L), some (.ref r), some v]) (hv : v ≠ .non) (h1 : Same H H2) (h2 : Bh K C H2 r dx l L i [] [] v A) (h3 : m = 0) : RqInv K C H r dx l L m σ H2
theorem ok_rq {f f1 f2 f3 f4 f5 C CS : Addr} {fd fd1 fd2 fd3 fd4 fd5 : FuncData} (D : Df K mg "read" s_read p_read f fd) (NT : RTx K C) (hC : mg "Reader" = some (.ref C)) (MK : Mk K C f1) (b_init : Binds K fd1 p_Reader___init__ []) (G1 : FnOk P w K mg base CX0 1 f1 fd1 p_Reader___init__ (spInit C))
    (m_sign : Meth K C "sign" f2) (b_sign : Binds K fd2 p_Reader_sign []) (G2 : FnOk P w K mg base CX0 1 f2 fd2 p_Reader_sign (spSign C))
    (m_demand : Meth K C "demand" f3) (b_demand : Binds K fd3 p_Reader_demand []) (G3 : FnOk P w K mg base (CXe P w) 1 f3 fd3 p_Reader_demand (spDem C CS))
    (m_leaf : Meth K C "leaf" f4) (b_leaf : Binds K fd4 p_Reader_leaf []) (G_leaf : FnOk P w K mg base (CXe P w) 3 f4 fd4 p_Reader_leaf (spLq K C CS))
    (m_ended : Meth K C "ended" f5) (b_ended : Binds K fd5 p_Reader_ended []) (G_ended : FnOk P w K mg base (CXe P w) 3 f5 fd5 p_Reader_ended (spEq K C CS)) : FnOk P w K mg base (CXe P w) 4 f fd p_read (spRq K CS) := by
  have G_sign := G2.mono (show 1 ≤ 3 by omega)
  have G_demand := G3.mono (show 1 ≤ 3 by omega)
  have G_init := G1.mono (show 1 ≤ 2 by omega)
  refine D.F.okE sc_read (fun vs H Q E h => ?_) (fun cdv A outer s H vs Q E hr h => ?_)
  · obtain ⟨L, rfl, _⟩ := h
    rfl
  · obtain ⟨L, rfl, hLn, q, qe⟩ := h
    have hL : L.length ≤ sizeLine := small9 (by omega)
    refine ⟨_, (pss_cons (ps_set (i := 1) sc_read.nd rfl (by first | exact Or.inl rfl | exact Or.inr rfl) (pe_make MK G_init (hr) (by rfl) hC b_init .nil pass0 (pa_cons (pv 0) pa_nil)))
    (pss_cons (ps_set (i := 2) sc_read.nd rfl (by first | exact Or.inl rfl | exact Or.inr rfl) pe_non)
    (pss_cons (ps_while PassesOwn.leaving (pt_cmpR op_isN (pv 2) pe_non (nomark _))
      (pss_one (ps_set (i := 2) sc_read.nd rfl (by first | exact Or.inl rfl | exact Or.inr rfl) (pe_meth (pv 1) NT.cl m_ended G_ended (hr) b_ended .nil passes_on (pa_cons (pe_meth0 (pv 1) NT.cl m_leaf G_leaf (hr) b_leaf .nil passes_on) pa_nil)))))
    (pss_cons (ps_expr (pe_meth (pv 1) NT.cl m_demand G_demand (hr) b_demand .nil passes_on (pa_cons (pe_cmpR op_eq (pe_meth0 (pv 1) NT.cl m_sign G_sign (hr) b_sign .nil pass0) pe_str (nomark _)) pa_nil)))
    (pss_one (ps_ret (pv 2))))))), ?_⟩
    simp only [rdA, rd_forL, rd_forR, rd_kget, rd_kin, rd_fldP, rd_make, rd_slS, cx_w, cx_w2]
    intro r dx hr0 hdx0 hne
    refine ⟨r, dx, L, rfl, upd_same, fun l H1 hl hR hkeep => ⟨rfl, ?_⟩⟩
    have sA : Same H H1 := fun b o e => hkeep b o (by rw [upd_ne (ne_of_none e hr0), upd_ne (ne_of_none e hdx0)]; exact e) (ne_of_none e hr0)
    have hl0 : H l = none := by
      cases e : H l with
      | none => rfl
      | some o => exact absurd (show upd (upd H dx (HO.own r)) r (HO.ins C dx []) l = some o by rw [upd_ne (ne_of_none e hr0), upd_ne (ne_of_none e hdx0)]; exact e) (by rw [hl]; simp)
    have sB : ∀ {H2 H3 : Hp}, Same H H2 → Bu r l H2 H3 → Same H H3 := fun s b c o e => b c o (s c o e) (ne_of_none e hr0) (ne_of_none e hl0)
    refine ⟨RqInv K C H r dx l L, ⟨_, .non 0 [] [] rfl sA ⟨hR, .nil, by simp [consT], fun wf => by rw [List.drop_zero]; exact wq_start wf, Nat.zero_le _⟩ rfl⟩, ?_⟩
    rintro m σ H2 hI
    cases hI with
    | non i2 ys g2 h0 sm hA2 hm =>
      subst h0
      simp only [rdA, rd_forL, rd_forR, rd_kget, rd_kin, rd_fldP, rd_make, rd_slS, cx_w, cx_w2]
      rw [decide_true]
      refine iteT ⟨fun σ' H' => ∃ m', m' < m ∧ RqInv K C H r dx l L m' σ' H', fun _ _ h => h, ?_⟩
      refine ⟨_, _, hA2.R.ob, fl_ended _ _ _, _, _, hA2.R.ob, fl_leaf _ _ _, r, dx, l, L, i2, ys, g2, rfl, hLn, hA2, fun v3 H3 i3 x3 g3 a3 hB3 hU3 hi3 => ⟨r, dx, l, L, i3, x3, g3, v3, a3, rfl, hLn, hB3, fun H4 i4 x4 g4 hA4 hU4 hi4 => ?_, fun u H4 i4 b4 hB4 hU4 => ?_, qe⟩, qe⟩
      · have := hA4.le
        exact ⟨L.length + 1 - i4, by omega, .non i4 x4 g4 rfl (sB (sB sm hU3) hU4) hA4 rfl⟩
      · have := hA2.le
        refine ⟨0, by omega, .val u i4 b4 rfl ?_ (sB (sB sm hU3) hU4) hB4 rfl⟩
        obtain ⟨p, _, rfl, _⟩ := sk_get hB4.S
        intro e; cases e
    | val v i2 A2 h0 hv sm hB2 hm =>
      subst h0
      simp only [rdA, rd_forL, rd_forR, rd_kget, rd_kin, rd_fldP, rd_make, rd_slS, cx_w, cx_w2]
      rw [decide_eq_false hv]
      refine iteF ?_
      have := hB2.le
      refine ⟨_, _, hB2.R.ob, fl_demand _ _ _, _, _, hB2.R.ob, fl_sign _ _ _, r, dx, l, L, i2, [], rfl, hB2.R, hL, ?_⟩
      simp only [rd_eqS]
      refine ⟨r, dx, l, L, i2, [], _, rfl, hB2.R, by omega, fun e => ?_, fun e => qe fun wf => ?_⟩
      · have ee := of_decide_eq_true e
        have hd : (tx L).drop i2 = [] := by
          cases q : (tx L).drop i2 with
          | nil => rfl
          | cons c rs => rw [sgn_cons q, of_e] at ee; have := mk_inj (show mkS [c] = mkS [] from ee); cases this
        have hT := hB2.T
        rw [hd] at hT
        exact q v A2 H2 sm hB2.S hB2.N (by simpa [consT] using hT)
      · have := hB2.Wq wf
        exact of_decide_eq_false e (by rw [sgn_nil this, of_e])
end
end CN
end
section
set_option Elab.async false
set_option linter.all false
set_option maxRecDepth 100000
set_option maxHeartbeats 4000000
namespace CN
open PySem L2
seal L2.PE L2.PT L2.PS L2.PSs L2.PA L2.PPs L2.PW L2.PC L2.PG L2.PGs L2.PI L2.PO L2.PE1 L2.PS1 L2.PSs1
noncomputable abbrev s_L_well : Stmt := top 19
noncomputable abbrev p_L_well : List Str := ["_law_line"]
theorem sc_L_well : FnScope ["_law_line", "_law_marks", "_law_spot", "_law_end", "_law_turn"] ["_law_line"] (defScope s_L_well) := ⟨rfl, rfl, rfl, by decide +kernel, rfl, by decide +kernel, by decide +kernel⟩
theorem found_ch (x : Str) (c : Nat) : (!(Builtin.Str.occurrences x ⟨#[c]⟩ 0 x.length 1).isEmpty) = decide (c ∈ tx x) := PySem.StrLaws.found_one x c
theorem tx_is {a b : Str} (h : tx a = tx b) : a = b := by
  cases a; cases b
  congr 1
  exact Array.toList_inj.mp h
theorem tx_figs : tx (Str.ofString "0123456789") = [48, 49, 50, 51, 52, 53, 54, 55, 56, 57] := by decide +kernel
theorem tx_sgs : tx (Str.ofString "()&|!AS.YN") = sgs := by decide +kernel
theorem in_figs (c : Nat) : decide (c ∈ tx (Str.ofString "0123456789")) = dgb c := by
  rw [tx_figs, Bool.eq_iff_iff, decide_eq_true_eq, dgb_iff]
  simp only [List.mem_cons, List.not_mem_nil, or_false]
  omega
theorem at_str {L : Str} {i c : Nat} {s : List Nat} (h : (tx L).drop i = c :: s) : atI L.cps.toList ((i : Nat) : Int) = some c := by
  refine atI_nat ?_
  have e := congrArg (fun l => l[0]?) h
  simp only [List.getElem?_drop, List.getElem?_cons_zero, Nat.add_zero] at e
  exact e
theorem seq_sp {a b : TS} {D : Ends} {σ : St} {H : Hp} (h : ∀ R, R = (fun σ H => b D σ H) → a { D with nx := R } σ H) : tSeq a b D σ H := h _ rfl
theorem if_sp {c : TT} {t u : TS} {D : Ends} {σ : St} {H : Hp} (h : ∀ A B, A = (fun σ H => t D σ H) → B = (fun σ H => u D σ H) → c σ H fun b H1 => if b = true then A σ H1 else B σ H1) : tIfS c t u D σ H := h _ _ rfl rfl
theorem rep_sh {p z : List Nat} (hp : p ≠ []) (hz : z.length ≤ p.length) : ∀ (n : Nat) (s : List Nat), s.length = n → (rep p z s).length ≤ s.length := by
  intro n
  induction n using Nat.strongRecOn with
  | _ n ih =>
    intro s hn
    cases s with
    | nil => exact Nat.le_refl _
    | cons c s =>
      by_cases k : p <+: c :: s
      · obtain ⟨v, ev⟩ := k
        have hl := congrArg List.length ev
        rw [List.length_append] at hl
        have h2 : 0 < p.length := List.length_pos_iff.mpr hp
        rw [← ev, rep_hit hp]
        have := ih v.length (by rw [← hn]; omega) v rfl
        simp only [List.length_append]
        omega
      · rw [rep_no k]
        have i := ih s.length (by rw [← hn]; simp) s rfl
        simp only [List.length_cons]
        omega
theorem rep_st {a b : Str} {p z : List Nat} (ha : tx a = p) (hb : tx b = z) (hz : 0 < z.length ∧ z.length ≤ p.length) (y : Str) : tx (Txt.replace y a b) = rep p z (tx y) ∧ (Txt.replace y a b).length ≤ y.length := by
  subst ha hb
  have e := tx_replace (x := y) (z := b) (show 0 < (tx a).length by omega)
  refine ⟨e, ?_⟩
  have := rep_sh (p := tx a) (z := tx b) (fun z => by have h := hz.2; rw [z] at h; simp only [List.length_nil] at h; omega) hz.2 _ (tx y) rfl
  rw [← tx_len, ← tx_len, e]
  exact this
theorem nx_sp {a : TS} {D : Ends} {σ : St} {H : Hp} (h : ∀ R, R = D.nx → a { D with nx := R } σ H) : a D σ H := h _ rfl
theorem run_at : ∀ {t : List Nat} {k : Nat}, k ≤ (t.takeWhile dgb).length → (k < (t.takeWhile dgb).length ∧ ∃ c u, t.drop k = c :: u ∧ dgb c = true) ∨ (k = (t.takeWhile dgb).length ∧ (t.drop k = [] ∨ ∃ c u, t.drop k = c :: u ∧ dgb c = false))
  | [], k, h => .inr ⟨by simpa using h, .inl (by simp)⟩
  | c :: t, 0, h => by
    cases e : dgb c with
    | true => exact .inl ⟨by simp [List.takeWhile_cons, e], c, t, rfl, e⟩
    | false => exact .inr ⟨by simp [List.takeWhile_cons, e], .inr ⟨c, t, rfl, e⟩⟩
  | c :: t, k + 1, h => by
    cases e : dgb c with
    | false => simp [List.takeWhile_cons, e] at h
    | true =>
      have h2 : k ≤ (t.takeWhile dgb).length := by simpa [List.takeWhile_cons, e] using h
      have := run_at h2
      simpa [List.takeWhile_cons, e] using this
theorem run_drop : ∀ t : List Nat, t.drop (t.takeWhile dgb).length = t.dropWhile dgb
  | [] => rfl
  | c :: t => by
    cases e : dgb c with
    | false => simp [List.takeWhile_cons, List.dropWhile_cons, e]
    | true => simpa [List.takeWhile_cons, List.dropWhile_cons, e] using run_drop t
theorem run_le (t : List Nat) : (t.takeWhile dgb).length ≤ t.length := (List.takeWhile_sublist dgb).length_le
theorem tok_step {c : Nat} {s : List Nat} (h : dgb c = false) : tok (c :: s) = (if c ∈ sgs then c else 63) :: tok s := by
  rw [tok, if_neg (by rw [h]; exact Bool.false_ne_true)]
theorem tok_run {c : Nat} {s : List Nat} (h : dgb c = true) : tok (c :: s) = (if vd ((c :: s).takeWhile dgb) = true then 68 else 63) :: tok ((c :: s).dropWhile dgb) := by
  rw [tok, if_pos h, List.takeWhile_cons, List.dropWhile_cons, h]; rfl
section
variable {P : Program} {w : World} {K : PySem.W.Frag} {mg : Str → Option Value} {base : Heap}
noncomputable def spWell : Sp := fun vs H Q _ => ∃ L : Str, vs = [.str L] ∧ L.length ≤ 600 ∧ ∀ (b : Bool) H', Same H H' → (b = true ↔ Wf (tx L)) → Q (.bl b) H'
inductive WlInv (H : Hp) (L : Str) (m : Nat) (σ : St) (H2 : Hp) : Prop
  | mk (M : Str) (i : Nat) (o3 : Option V) (h0 : σ = [some (.str L), some (.str M), some (.int (i : Nat)), o3, none]) (h1 : Same H H2) (h2 : tx M ++ tok ((tx L).drop i) = tok (tx L)) (h3 : i ≤ L.length) (h4 : M.length ≤ i) (h5 : m = L.length - i) : WlInv H L m σ H2
inductive WiInv (H2 : Hp) (L M : Str) (i : Nat) (ds : List Nat) (m : Nat) (σ : St) (H3 : Hp) : Prop
  | mk (k : Nat) (h0 : σ = [some (.str L), some (.str M), some (.int (i : Nat)), some (.int ((i + k : Nat) : Int)), none]) (h1 : k ≤ ds.length) (h2 : m = ds.length - k) (h3 : H3 = H2) : WiInv H2 L M i ds m σ H3
inductive WrInv (L : Str) (H : Hp) (s0 : List Nat) (o2 o3 : Option V) (k : Nat) (σ : St) (H2 : Hp) : Prop
  | mk (M : Str) (o4 : Option V) (h0 : σ = [some (.str L), some (.str M), o2, o3, o4]) (h1 : tx M = rnds k s0) (h2 : (tx M).length ≤ 600) (h3 : H2 = H) : WrInv L H s0 o2 o3 k σ H2
theorem ok_well {f : Addr} {fd : FuncData} (BT : Bt mg) (D : Df K mg "_law_well" s_L_well p_L_well f fd) : FnOk P w K mg base CX0 1 f fd p_L_well spWell := by
  refine D.F.ok sc_L_well (fun vs H Q E h => ?_) (fun cdv A outer s H vs Q E hr h => ?_)
  · obtain ⟨L, rfl, _⟩ := h
    rfl
  · obtain ⟨L, rfl, hLn, q⟩ := h
    have hL : L.length ≤ sizeLine := small9 (by omega)
    have tl := tx_len L
    refine ⟨_, (pss_first (i := 1) sc_L_well.nd rfl (by first | exact Or.inl rfl | exact Or.inr rfl)
    (pss1_cons (ps1_of (ps_set (i := 2) sc_L_well.nd rfl (by first | exact Or.inl rfl | exact Or.inr rfl) pe_int))
    (pss1_cons (ps1_of (ps_while PassesOwn.never (pt_cmpR op_lt (pv 2) (pe_callB call_len_str (by rfl) BT.n_len bo_len (pa_cons (pv 0) pa_nil)) (nomark _))
      (pss_cons (ps_set (i := 3) sc_L_well.nd rfl (by first | exact Or.inl rfl | exact Or.inr rfl) (pv 2))
      (pss_cons (ps_while PassesOwn.never (PW.pt (pw_and (pt_cmpR op_lt (pv 3) (pe_callB call_len_str (by rfl) BT.n_len bo_len (pa_cons (pv 0) pa_nil)) (nomark _)) (pw_and1 (pt_cmpR op_in_str (pe_ix ix_str (pv 0) (pv 3) (fun _ _ => rfl)) pe_str (by with_unfolding_all rfl)))))
        (pss_one (ps_set (i := 3) sc_L_well.nd rfl (by first | exact Or.inl rfl | exact Or.inr rfl) (pe_op op_add (pv 3) pe_int))))
      (pss_cons (ps_if (pt_cmpR op_eq (pv 3) (pv 2) (nomark _))
        (pss_cons (ps_set (i := 1) sc_L_well.nd rfl (by first | exact Or.inl rfl | exact Or.inr rfl) (pe_op op_add_str (pv 1) (pe_ix ix_list (pe_lst (pa_cons pe_str (pa_cons (pe_ix ix_str (pv 0) (pv 2) (fun _ _ => rfl)) pa_nil))) (pe_callTy call_int1 (by rfl) BT.n_int bo_int (pa_cons (pe_cmpR op_in_str (pe_ix ix_str (pv 0) (pv 2) (fun _ _ => rfl)) pe_str (by with_unfolding_all rfl)) pa_nil)) (fun _ _ => rfl))))
        (pss_one (ps_set (i := 3) sc_L_well.nd rfl (by first | exact Or.inl rfl | exact Or.inr rfl) (pe_op op_add (pv 2) pe_int))))
        (pss_one (ps_if (PW.pt (pw_and (pt_cmpR op_eq (pe_ix ix_str (pv 0) (pv 2) (fun _ _ => rfl)) pe_str (nomark _)) (pw_and1 (pt_cmpR op_gt (pv 3) (pe_op op_add (pv 2) pe_int) (nomark _)))))
          (pss_one (ps_set (i := 1) sc_L_well.nd rfl (by first | exact Or.inl rfl | exact Or.inr rfl) (pe_op op_add_str (pv 1) pe_str)))
          (pss_one (ps_set (i := 1) sc_L_well.nd rfl (by first | exact Or.inl rfl | exact Or.inr rfl) (pe_op op_add_str (pv 1) pe_str))))))
      (pss_one (ps_set (i := 2) sc_L_well.nd rfl (by first | exact Or.inl rfl | exact Or.inr rfl) (pv 3))))))))
    (pss1_cons (ps1_set (i := 1) sc_L_well.nd rfl (by first | exact Or.inl rfl | exact Or.inr rfl) (pe1_repl (by decide +kernel) (by decide +kernel) (pe1_repl (by decide +kernel) (by decide +kernel) (pe1_of (pv 1)))))
    (pss1_cons (ps1_set (i := 1) sc_L_well.nd rfl (by first | exact Or.inl rfl | exact Or.inr rfl) (pe1_repl (by decide +kernel) (by decide +kernel) (pe1_repl (by decide +kernel) (by decide +kernel) (pe1_repl (by decide +kernel) (by decide +kernel) (pe1_of (pv 1))))))
    (pss1_cons (ps1_for PassesOwn.never rfl (pi_range1 (by rfl) BT.n_range (pa_cons (pe_callB call_len_str (by rfl) BT.n_len bo_len (pa_cons (pv 0) pa_nil)) pa_nil)) (pg_name (i := 4) sc_L_well.nd rfl (by first | exact Or.inl rfl | exact Or.inr rfl)) (pss1_one (ps1_set (i := 1) sc_L_well.nd rfl (by first | exact Or.inl rfl | exact Or.inr rfl) (pe1_repl (by decide +kernel) (by decide +kernel) (pe1_repl (by decide +kernel) (by decide +kernel) (pe1_repl (by decide +kernel) (by decide +kernel) (pe1_of (pv 1))))))))
    (pss1_one (ps1_of (ps_ret (pe_cmpR op_eq (pv 1) pe_str (nomark _))))))))))), ?_⟩
    refine seq_sp fun R1 hR1 => ?_
    simp only [rdA, rd_forL, rd_forR, rd_kget, rd_kin, rd_fldP, rd_make, rd_slS, cx_w, cx_w2]
    subst hR1
    refine seq_sp fun R1 hR1 => ?_
    simp only [rdA, rd_forL, rd_forR, rd_kget, rd_kin, rd_fldP, rd_make, rd_slS, cx_w, cx_w2]
    subst hR1
    refine seq_sp fun R1 hR1 => ?_
    simp only [rdA, rd_forL, rd_forR, rd_kget, rd_kin, rd_fldP, rd_make, rd_slS, cx_w, cx_w2]
    refine ⟨WlInv H L, ⟨_, Str.ofString "", 0, none, rfl, Same.refl _, by rw [show tx (Str.ofString "") = [] from by decide +kernel]; simp, Nat.zero_le _, by decide +kernel, rfl⟩, ?_⟩
    rintro m σ H2 ⟨M, i, o3, rfl, hS, hT, hi, hM, rfl⟩
    simp only [rdA, rd_forL, rd_forR, rd_kget, rd_kin, rd_fldP, rd_make, rd_slS, cx_w, cx_w2]
    refine ⟨hL, ite2 (fun hlt => ?_) (fun hge => ?_)⟩
    · have hi2 : i < L.length := by have := of_decide_eq_true hlt; omega
      obtain ⟨c, u, ec⟩ : ∃ c u, (tx L).drop i = c :: u := by
        cases e : (tx L).drop i with
        | nil => have := congrArg List.length e; rw [List.length_drop] at this; simp at this; omega
        | cons c u => exact ⟨c, u, rfl⟩
      have eu : (tx L).drop (i + 1) = u := by rw [← List.drop_drop, ec]; rfl
      have hr1 := run_le (c :: u)
      have hr2 : (c :: u).length = L.length - i := by rw [← ec, List.length_drop, tl]
      have hat := at_str ec
      refine ⟨fun σ' H' => ∃ m', m' < L.length - i ∧ WlInv H L m' σ' H', fun _ _ h => h, ?_⟩
      refine nx_sp fun R2 hR2 => ⟨WiInv H2 L M i ((c :: u).takeWhile dgb), ⟨_, 0, rfl, Nat.zero_le _, rfl, rfl⟩, ?_⟩
      rintro m σ H3 ⟨k, rfl, hk, rfl, rfl⟩
      have hdk : (tx L).drop (i + k) = (c :: u).drop k := by rw [← List.drop_drop, ec]
      simp only [rdA, rd_forL, rd_forR, rd_kget, rd_kin, rd_fldP, rd_make, rd_slS, cx_w, cx_w2]
      refine ⟨hL, ?_⟩
      have fin : k = ((c :: u).takeWhile dgb).length → R2 [some (V.str L), some (V.str M), some (V.int (i : Nat)), some (V.int ((i + k : Nat) : Int)), none] H3 := fun hk => by
        subst hR2
        simp only [rdA, rd_forL, rd_forR, rd_kget, rd_kin, rd_fldP, rd_make, rd_slS, cx_w, cx_w2]
        refine ite2 (fun he => ?_) (fun he => ?_)
        · have hk0 : k = 0 := by have := of_decide_eq_true he; omega
          have hc : dgb c = false := by
            cases e : dgb c with
            | false => rfl
            | true => rw [hk0, List.takeWhile_cons, e] at hk; simp at hk
          rw [ec, tok_step hc] at hT
          refine ⟨_, _, c, rfl, rfl, hL, hat, fun p hp => ⟨_, _, c, rfl, rfl, hL, hat, _, rfl, _, SqL.of upd_same, ?_⟩⟩
          rw [found_ch, tx_sgs]
          have s1 := hS.trans (Same.new (o := HO.lst [V.str (Str.ofString "?"), V.str (ch c)]) hp)
          by_cases hm : c ∈ sgs
          · rw [if_pos (decide_eq_true hm)]
            rw [if_pos hm] at hT
            refine ⟨_, atI1 _ _ _, ch c, rfl, small9 (by rw [show (ch c).length = 1 from rfl]; omega), _, (by omega : L.length - (i + 1) < _), M ++ ch c, i + 1, _, rfl, s1, ?_, hi2, ?_, rfl⟩
            · rw [tx_app, show tx (ch c) = [c] from rfl, List.append_assoc, eu]; exact hT
            · rw [← tx_len, tx_app, List.length_append, tx_len]; show M.length + 1 ≤ _; omega
          · rw [if_neg (by rw [decide_eq_false hm]; exact Bool.false_ne_true)]
            rw [if_neg hm] at hT
            refine ⟨_, atI0 _ _, Str.ofString "?", rfl, small9 (by rw [show (Str.ofString "?").length = 1 from by decide +kernel]; omega), _, (by omega : L.length - (i + 1) < _), M ++ Str.ofString "?", i + 1, _, rfl, s1, ?_, hi2, ?_, rfl⟩
            · rw [tx_app, show tx (Str.ofString "?") = [63] from by decide +kernel, List.append_assoc, eu]; exact hT
            · rw [← tx_len, tx_app, List.length_append, tx_len, show (tx (Str.ofString "?")).length = 1 from by decide +kernel]; omega
        · have hk0 : k ≠ 0 := fun z => he (decide_eq_true (by rw [z]; rfl))
          have hc : dgb c = true := by
            cases e : dgb c with
            | true => rfl
            | false => rw [List.takeWhile_cons, e] at hk; simp at hk; exact absurd hk hk0
          rw [ec, tok_run hc] at hT
          have hdr : (tx L).drop (i + k) = (c :: u).dropWhile dgb := by rw [hdk, hk, run_drop]
          have htw : (c :: u).takeWhile dgb = c :: u.takeWhile dgb := by rw [List.takeWhile_cons, hc]; rfl
          refine ⟨_, _, c, rfl, rfl, hL, hat, ?_⟩
          show rEq (.str ⟨#[c]⟩) _ _ _
          rw [show (⟨#[c]⟩ : Str) = ch c from rfl, show Str.ofString "0" = ch 48 from by decide +kernel, rd_eqS]
          have put : ∀ (x : Str) (d : Nat), tx x = [d] → (if vd ((c :: u).takeWhile dgb) = true then 68 else 63) = d → M.length + x.length ≤ sizeLine ∧ ∃ m', m' < L.length - i ∧ WlInv H L m' [some (V.str L), some (V.str (M ++ x)), some (V.int ((i + k : Nat) : Int)), some (V.int ((i + k : Nat) : Int)), none] H3 := fun x d ex ed => by
            have lx : x.length = 1 := by rw [← tx_len, ex]; rfl
            refine ⟨small9 (by omega), L.length - (i + k), by omega, M ++ x, i + k, _, rfl, hS, ?_, by omega, ?_, rfl⟩
            · rw [tx_app, ex, List.append_assoc, hdr]; rw [ed] at hT; exact hT
            · rw [← tx_len, tx_app, List.length_append, tx_len, ex]; simp; omega
          have hv : vd ((c :: u).takeWhile dgb) = (c != 48 || (u.takeWhile dgb).isEmpty) := by rw [htw]; rfl
          have hlk : k = (u.takeWhile dgb).length + 1 := by rw [hk, htw]; rfl
          refine ⟨_, rfl, ite2 (fun h0 => ?_) (fun h0 => ?_)⟩
          · have h0 : c = 48 := by have := of_decide_eq_true h0; rwa [ch_inj] at this
            refine ite2 (fun h1 => ?_) (fun h1 => ?_)
            · have h1 := of_decide_eq_true h1
              refine put _ 63 (by decide +kernel) ?_
              rw [hv, h0]
              have : (u.takeWhile dgb).isEmpty = false := by
                cases e : u.takeWhile dgb with
                | nil => rw [e] at hlk; simp at hlk; omega
                | cons a b => rfl
              rw [this]; rfl
            · have h1 : ¬ _ := fun z => h1 (decide_eq_true z)
              refine put _ 68 (by decide +kernel) ?_
              rw [hv]
              have : (u.takeWhile dgb).isEmpty = true := by
                cases e : u.takeWhile dgb with
                | nil => rfl
                | cons a b => rw [e] at hlk; simp at hlk; omega
              rw [this, Bool.or_true]; rfl
          · have h0 : c ≠ 48 := fun z => h0 (decide_eq_true (by rw [z]))
            refine put _ 68 (by decide +kernel) ?_
            rw [hv]
            simp [h0]
      rcases run_at hk with ⟨hk2, d, v, ed, hd⟩ | ⟨hk2, ed | ⟨d, v, ed, hd⟩⟩
      · have hb : i + k < L.length := by omega
        rw [decide_eq_true (show (((i + k : Nat)) : Int) < (L.length : Nat) by omega)]
        refine iteT ⟨_, _, d, rfl, rfl, hL, at_str (hdk.trans ed), _, rfl, ?_⟩
        rw [found_ch, in_figs, hd]
        exact iteT ⟨fun σ' H' => ∃ m', m' < ((c :: u).takeWhile dgb).length - k ∧ WiInv H3 L M i ((c :: u).takeWhile dgb) m' σ' H', fun _ _ h => h, _, (by omega : ((c :: u).takeWhile dgb).length - (k + 1) < _), k + 1, rfl, hk2, rfl, rfl⟩
      · have hb : ¬ i + k < L.length := by have := congrArg List.length (hdk.trans ed); rw [List.length_drop, tl] at this; simp at this; omega
        rw [decide_eq_false (show ¬ (((i + k : Nat)) : Int) < (L.length : Nat) by omega)]
        exact iteF (fin hk2)
      · refine ite2 (fun _ => ⟨_, _, d, rfl, rfl, hL, at_str (hdk.trans ed), _, rfl, ?_⟩) (fun _ => fin hk2)
        rw [found_ch, in_figs, hd]
        exact iteF (fin hk2)
    · have hi3 : i = L.length := by
        have : ¬ ((i : Nat) : Int) < (L.length : Nat) := fun z => hge (decide_eq_true z)
        omega
      have hT2 : tx M = tok (tx L) := by
        rw [List.drop_of_length_le (by omega), tok_nil, List.append_nil] at hT
        exact hT
      subst hR1
      simp only [rdA, rd_repl, rd_forL, rd_forR, rd_kget, rd_kin, rd_fldP, rd_make, rd_slS, cx_w, cx_w2]
      obtain ⟨e1, l1⟩ := rep_st (a := Str.ofString "AD.") (b := Str.ofString "!") (p := [65, 68, 46]) (z := [33]) (by decide +kernel) (by decide +kernel) (by decide) M
      refine ⟨by omega, ?_⟩
      obtain ⟨e2, l2⟩ := rep_st (a := Str.ofString "SD.") (b := Str.ofString "!") (p := [83, 68, 46]) (z := [33]) (by decide +kernel) (by decide +kernel) (by decide) (Txt.replace M (Str.ofString "AD.") (Str.ofString "!"))
      rw [e1] at e2
      generalize Txt.replace M (Str.ofString "AD.") (Str.ofString "!") = M1 at *
      refine ⟨by omega, ?_⟩
      obtain ⟨e3, l3⟩ := rep_st (a := Str.ofString "Y") (b := Str.ofString "P") (p := [89]) (z := [80]) (by decide +kernel) (by decide +kernel) (by decide) (Txt.replace M1 (Str.ofString "SD.") (Str.ofString "!"))
      rw [e2] at e3
      generalize Txt.replace M1 (Str.ofString "SD.") (Str.ofString "!") = M2 at *
      refine ⟨by omega, ?_⟩
      obtain ⟨e4, l4⟩ := rep_st (a := Str.ofString "N") (b := Str.ofString "P") (p := [78]) (z := [80]) (by decide +kernel) (by decide +kernel) (by decide) (Txt.replace M2 (Str.ofString "Y") (Str.ofString "P"))
      rw [e3] at e4
      generalize Txt.replace M2 (Str.ofString "Y") (Str.ofString "P") = M3 at *
      refine ⟨by omega, ?_⟩
      obtain ⟨e5, l5⟩ := rep_st (a := Str.ofString "D") (b := Str.ofString "P") (p := [68]) (z := [80]) (by decide +kernel) (by decide +kernel) (by decide) (Txt.replace M3 (Str.ofString "N") (Str.ofString "P"))
      rw [e4] at e5
      generalize Txt.replace M3 (Str.ofString "N") (Str.ofString "P") = M4 at *
      refine ⟨by omega, ?_⟩
      generalize Txt.replace M4 (Str.ofString "D") (Str.ofString "P") = M5 at *
      rw [norm_eq _ _ rfl, hT2] at e5
      refine ⟨hL, by omega, by omega, for_range (lo := 0) (n := L.length) (WrInv L H2 (tx M5) (some (.int (i : Nat))) o3) ⟨M5, none, rfl, rfl, by rw [tx_len]; omega, rfl⟩ ?_ ?_⟩
      · rintro k σ H3 hk ⟨M6, o4, rfl, hr6, hl6, rfl⟩
        rw [tx_len] at hl6
        simp only [rdA, rd_repl, rd_forL, rd_forR, rd_kget, rd_kin, rd_fldP, rd_make, rd_slS, cx_w, cx_w2]
        obtain ⟨f1, g1⟩ := rep_st (a := Str.ofString "!P") (b := Str.ofString "P") (p := [33, 80]) (z := [80]) (by decide +kernel) (by decide +kernel) (by decide) M6
        refine ⟨by omega, ?_⟩
        obtain ⟨f2, g2⟩ := rep_st (a := Str.ofString "(P&P)") (b := Str.ofString "P") (p := [40, 80, 38, 80, 41]) (z := [80]) (by decide +kernel) (by decide +kernel) (by decide) (Txt.replace M6 (Str.ofString "!P") (Str.ofString "P"))
        rw [f1] at f2
        generalize Txt.replace M6 (Str.ofString "!P") (Str.ofString "P") = M7 at *
        refine ⟨by omega, ?_⟩
        obtain ⟨f3, g3⟩ := rep_st (a := Str.ofString "(P|P)") (b := Str.ofString "P") (p := [40, 80, 124, 80, 41]) (z := [80]) (by decide +kernel) (by decide +kernel) (by decide) (Txt.replace M7 (Str.ofString "(P&P)") (Str.ofString "P"))
        rw [f2] at f3
        generalize Txt.replace M7 (Str.ofString "(P&P)") (Str.ofString "P") = M8 at *
        refine ⟨by omega, ?_⟩
        exact ⟨_, _, rfl, by rw [f3, hr6]; rfl, by rw [tx_len]; omega, rfl⟩
      · rintro σ H3 ⟨M6, o4, rfl, hr6, hl6, rfl⟩
        simp only [rdA, rd_forL, rd_forR, rd_kget, rd_kin, rd_fldP, rd_make, rd_slS, cx_w, cx_w2]
        refine q _ _ hS ?_
        rw [decide_eq_true_eq]
        have hlen : (tx M5).length ≤ L.length := by
          rw [e5]
          exact Nat.le_trans (norm_len _ _ rfl) (Nat.le_trans (tok_len _ _ rfl) (by omega))
        rw [← wf_iff, ← e5, ← rnds_end hlen, ← hr6]
        constructor
        · rintro rfl; decide +kernel
        · intro z; exact tx_is (z.trans (by decide +kernel))
end
end CN
end
section
set_option Elab.async false
set_option linter.all false
set_option maxRecDepth 100000
set_option maxHeartbeats 4000000
namespace CN
open PySem L2
seal L2.PE L2.PT L2.PS L2.PSs L2.PA L2.PPs L2.PW L2.PC L2.PG L2.PGs L2.PI L2.PO
noncomputable abbrev s_L_room : Stmt := top 21
noncomputable abbrev p_L_room : List Str := ["_law_script", "_law_most", "_law_bound"]
theorem sc_L_room : FnScope ["_law_script", "_law_most", "_law_bound"] ["_law_script", "_law_most", "_law_bound"] (defScope s_L_room) := ⟨rfl, rfl, rfl, by decide +kernel, rfl, by decide +kernel, by decide +kernel⟩
noncomputable abbrev s_L_asked : Stmt := top 20
noncomputable abbrev p_L_asked : List Str := ["_law_script"]
theorem sc_L_asked : FnScope ["_law_script", "_law_way", "_law_pieces", "_law_line", "_law_frames", "_law_pair", "_law_place", "_law_sign", "_law_signs"] ["_law_script"] (defScope s_L_asked) := ⟨rfl, rfl, rfl, by decide +kernel, rfl, by decide +kernel, by decide +kernel⟩
section
variable {P : Program} {w : World} {K : PySem.W.Frag} {mg : Str → Option Value} {base : Heap}
noncomputable def spRoom (K : PySem.W.Frag) : Sp := fun vs H Q _ => ∃ (l : Addr) (ns : List Int) (i j : Int), vs = [.ref l, .int i, .int j] ∧ SqL K H l (ns.map V.int) ∧ ns.length ≤ 63 ∧ Q (.int i) H
theorem ok_room {f : Addr} {fd : FuncData} (BT : Bt mg) (D : Df K mg "_law_room" s_L_room p_L_room f fd) : FnOk P w K mg base CX0 1 f fd p_L_room (spRoom K) := by
  refine D.F.ok sc_L_room (fun vs H Q E h => ?_) (fun cdv A outer s H vs Q E hr h => ?_)
  · obtain ⟨l, ns, i, j, rfl, _⟩ := h
    rfl
  · obtain ⟨l, ns, i, j, rfl, hl, hn, q⟩ := h
    refine ⟨_, (pss_cons (ps_if (pt_cmpR op_gt (pe_callB call_len_seq (by rfl) BT.n_len bo_len (pa_cons (pv 0) pa_nil)) pe_int (nomark _))
      (pss_one (ps_ret (pv 2)))
      pss_nil)
    (pss_one (ps_ret (pv 1)))), ?_⟩
    simp only [rdA, rd_kget, rd_kin, rd_fldP, rd_make, rd_slS, cx_w, cx_w2]
    refine ⟨_, .inl hl, ite2 (fun hk => ?_) fun _ => q⟩
    simp at hk
    omega
noncomputable def FrAt (H : Hp) (v : V) : Prop := ∃ (p : Addr) (x y : Str), v = .ref p ∧ H p = some (.lst [.str x, .str y]) ∧ x.length ≤ 6 ∧ y.length ≤ 6
theorem FrAt.same {H H' : Hp} (k : Same H H') {v : V} (h : FrAt H v) : FrAt H' v := by
  obtain ⟨p, x, y, e, h, h1, h2⟩ := h
  exact ⟨p, x, y, e, k _ _ h, h1, h2⟩
noncomputable def FrT (t : TA) (n : Nat) : Prop := ∀ (σ : St) (H : Hp) (R : List V → Hp → Prop), (∀ xs H', Same H H' → (∀ x ∈ xs, FrAt H' x) → xs.length = n → R xs H') → t σ H R
theorem frt_nil : FrT tNil 0 := fun σ H R h => h [] H (Same.refl _) (fun x z => by cases z) rfl
theorem frt_cons {a b : Str} {t : TA} {n : Nat} (ha : a.length ≤ 6 ∧ b.length ≤ 6) (h : FrT t n) : FrT (tCons (tLst (tCons (tC (.str a)) (tCons (tC (.str b)) tNil))) t) (n + 1) := by
  intro σ H R q
  refine ⟨small9 (by simp), fun p hp => h σ _ _ fun xs H' sm hx hn => ?_⟩
  have s1 := Same.new (o := HO.lst [V.str a, V.str b]) hp
  refine q _ _ (s1.trans sm) (fun x hx2 => ?_) (by rw [List.length_cons, hn])
  rcases List.mem_cons.mp hx2 with rfl | hx2
  · exact ⟨p, a, b, rfl, sm _ _ upd_same, ha.1, ha.2⟩
  · exact hx x hx2
theorem frs_lst {t : TA} {n : Nat} {σ : St} {H : Hp} {Q : VK} (h : FrT t n) (hn : n ≤ 100) (q : ∀ p H' xs, Same H H' → H' p = some (.lst xs) → (∀ x ∈ xs, FrAt H' x) → xs.length = n → Q (.ref p) H') : tLst t σ H Q := by
  refine h σ H _ fun xs H' sm hx hl => ⟨small9 (by omega), fun p hp => ?_⟩
  have s1 := Same.new (o := HO.lst xs) hp
  exact q p _ xs (sm.trans s1) upd_same (fun x hx2 => (hx x hx2).same s1) hl
theorem line_l13 : ∀ (a : Stm), a.ok 13 → (line a).length ≤ 5 * a.size := by
  obtain ⟨l1, l2, l3, l4, l5, l6, l7, l8, l9, l10⟩ := len1
  have nl : ∀ {n : Int}, 0 ≤ n → n < 13 → (numS n).length ≤ 2 := fun h0 h => PyProof.Rows.toString_length_le h0 (by decide) (by omega)
  intro a
  induction a with
  | yes => intro h; simp only [line, Stm.size, l1]; omega
  | no => intro h; simp only [line, Stm.size, l2]; omega
  | sw n => intro h; have := nl h.1 h.2; simp only [line, Stm.size]; omega
  | nt a ih => intro h; have := ih h; simp only [line, Stm.size, app_len, l3]; omega
  | an x y i j => intro h; have := i h.1; have := j h.2; simp only [line, Stm.size, app_len, l4, l5, l6]; omega
  | og x y i j => intro h; have := i h.1; have := j h.2; simp only [line, Stm.size, app_len, l4, l5, l7]; omega
  | al n a ih => intro h; have := ih h.2; have := nl h.1.1 h.1.2; simp only [line, Stm.size, app_len, l8, l10]; omega
  | sm n a ih => intro h; have := ih h.2; have := nl h.1.1 h.1.2; simp only [line, Stm.size, app_len, l9, l10]; omega
theorem cut_ints (ns : List Int) {lo hi : Int} {m : Nat} (h0 : 0 ≤ lo) (h1 : hi - lo = m) : ∃ ns' : List Int, cutV (ns.map V.int) (some lo) (some hi) = ns'.map V.int ∧ ns'.length ≤ m := by
  refine ⟨(ns.drop (HT.sIx (ns.map V.int).length 0 (some lo))).take (HT.sIx (ns.map V.int).length (ns.map V.int).length (some hi) - HT.sIx (ns.map V.int).length 0 (some lo)), ?_, ?_⟩
  · unfold cutV; rw [List.map_take, List.map_drop]
  · rw [List.length_take, List.length_drop]
    obtain ⟨a, rfl⟩ := Int.eq_ofNat_of_zero_le h0
    obtain ⟨b, rfl⟩ := Int.eq_ofNat_of_zero_le (show 0 ≤ hi by omega)
    rw [HT.sIx_nat, HT.sIx_nat]
    omega
theorem sig_at (L : Str) {n : Int} (h0 : 0 ≤ n) (h1 : n < (L.length : Nat)) : ∃ c, atI L.cps.toList n = some c := by
  obtain ⟨i, rfl⟩ := Int.eq_ofNat_of_zero_le h0
  have hi : i < L.cps.toList.length := by rw [show L.cps.toList.length = L.length from Array.length_toList]; omega
  exact ⟨_, atI_nat (List.getElem?_eq_getElem hi)⟩
noncomputable def StT (t : TA) (zs : List Str) : Prop := ∀ (σ : St) (H : Hp) (R : List V → Hp → Prop), R (zs.map V.str) H → t σ H R
theorem stt_nil : StT tNil [] := fun σ H R h => h
theorem stt_cons {a : Str} {t : TA} {zs : List Str} (h : StT t zs) : StT (tCons (tC (.str a)) t) (a :: zs) := fun σ H R q => h σ H _ q
theorem sts_lst {t : TA} {zs : List Str} {σ : St} {H : Hp} {Q : VK} (h : StT t zs) (hn : zs.length ≤ 100) (q : ∀ p, H p = none → Q (.ref p) (upd H p (.lst (zs.map V.str)))) : tLst t σ H Q :=
  h σ H _ ⟨small9 (by rw [List.length_map]; omega), q⟩
noncomputable def pieces : List Str := [Str.ofString "Y", Str.ofString "N", Str.ofString "0", Str.ofString "7", Str.ofString "12", Str.ofString "!", Str.ofString "(", Str.ofString ")", Str.ofString "&", Str.ofString "|", Str.ofString "A1.", Str.ofString "S0.", Str.ofString "A", Str.ofString "."]
theorem pieces_len : pieces.length ≤ 100 := by decide
theorem piece_at (z : Int) : ∃ x : Str, atI (pieces.map V.str) (z % 14) = some (.str x) ∧ x.length ≤ 3 := by
  obtain ⟨i, hi⟩ := Int.eq_ofNat_of_zero_le (Int.emod_nonneg z (show (14 : Int) ≠ 0 by decide))
  have h14 := Int.emod_lt_of_pos z (show (0 : Int) < 14 by decide)
  have hl : i < pieces.length := by show i < 14; omega
  refine ⟨pieces[i], ?_, (show ∀ x ∈ pieces, x.length ≤ 3 from by decide +kernel) _ (List.getElem_mem hl)⟩
  rw [hi]
  refine atI_nat ?_
  rw [List.getElem?_map, List.getElem?_eq_getElem hl]
  rfl
noncomputable def spAsk (K : PySem.W.Frag) : Sp := fun vs H Q _ => ∃ (l : Addr) (ns : List Int), vs = [.ref l] ∧ SqL K H l (ns.map V.int) ∧ ns.length ≤ 63 ∧ ∀ (L : Str) H', Same H H' → L.length ≤ 300 → Q (.str L) H'
theorem ok_asked {f f1 f2 f3 f4 : Addr} {fd fd1 fd2 fd3 fd4 : FuncData} (BT : Bt mg) (D : Df K mg "_law_asked" s_L_asked p_L_asked f fd)
    (D_L_at : Df K mg "_law_at" s_L_at p_L_at f1 fd1) (G_L_at : FnOk P w K mg base CX0 1 f1 fd1 p_L_at (spAt K))
    (D_L_drawn_statement : Df K mg "_law_drawn_statement" s_L_drawn_statement p_L_drawn_statement f2 fd2) (G_L_drawn_statement : FnOk P w K mg base CX0 1 f2 fd2 p_L_drawn_statement (spDraw K))
    (D_L_line_of : Df K mg "_law_line_of" s_L_line_of p_L_line_of f3 fd3) (G_L_line_of : FnOk P w K mg base CX0 1 f3 fd3 p_L_line_of (spLine K))
    (D_L_room : Df K mg "_law_room" s_L_room p_L_room f4 fd4) (G_L_room : FnOk P w K mg base CX0 1 f4 fd4 p_L_room (spRoom K)) : FnOk P w K mg base CX0 2 f fd p_L_asked (spAsk K) := by
  refine D.F.ok sc_L_asked (fun vs H Q E h => ?_) (fun cdv A outer s H vs Q E hr h => ?_)
  · obtain ⟨l, ns, rfl, _⟩ := h
    rfl
  · obtain ⟨l, ns, rfl, hl, hn, q⟩ := h
    refine ⟨_, (pss_cons (ps_set (i := 1) sc_L_asked.nd rfl (by first | exact Or.inl rfl | exact Or.inr rfl) (pe_op op_mod (pe_call G_L_at (hr) (by rfl) D_L_at.m D_L_at.F.kp D_L_at.b .nil pass0 (pa_cons (pv 0) (pa_cons pe_int pa_nil))) pe_int))
    (pss_cons (ps_if (pt_cmpR op_eq (pv 1) pe_int (nomark _))
      (pss_cons (ps_set (i := 2) sc_L_asked.nd rfl (by first | exact Or.inl rfl | exact Or.inr rfl) (pe_lst (pa_cons pe_str (pa_cons pe_str (pa_cons pe_str (pa_cons pe_str (pa_cons pe_str (pa_cons pe_str (pa_cons pe_str (pa_cons pe_str (pa_cons pe_str (pa_cons pe_str (pa_cons pe_str (pa_cons pe_str (pa_cons pe_str (pa_cons pe_str pa_nil))))))))))))))))
      (pss_one (ps_ret (pe_bm PySem.F.plainAttrs_str PySem.F.slot_str_join PySem.F.type_str_join mt_join pe_str (pa_cons (pe_comp rfl (pi_list (pe_slice sl_list (pv 0) (po_some pe_int) (po_some pe_int))) (csc_of (M := ["_law_script", "_law_way", "_law_pieces", "_law_line", "_law_frames", "_law_pair", "_law_place", "_law_sign", "_law_signs"]) rfl (by decide +kernel) (by decide +kernel)) (fun _ _ _ _ => pts_nil) (fun _ _ _ _ => (pe_ix (ix_listK (K := K) rfl) (pv 3) (pe_op op_mod (pv 0) pe_int) (fun _ _ => rfl)))) pa_nil)))))
      pss_nil)
    (pss_cons (ps_set (i := 3) sc_L_asked.nd rfl (by first | exact Or.inl rfl | exact Or.inr rfl) (pe_call G_L_line_of (hr) (by rfl) D_L_line_of.m D_L_line_of.F.kp D_L_line_of.b .nil pass0 (pa_cons (pe_call G_L_drawn_statement (hr) (by rfl) D_L_drawn_statement.m D_L_drawn_statement.F.kp D_L_drawn_statement.b .nil pass0 (pa_cons (pe_slice sl_list (pv 0) (po_some pe_int) (po_some (pe_op op_add pe_int (pe_call G_L_room (hr) (by rfl) D_L_room.m D_L_room.F.kp D_L_room.b .nil pass0 (pa_cons (pv 0) (pa_cons pe_int (pa_cons pe_int pa_nil))))))) (pa_cons pe_int pa_nil))) pa_nil)))
    (pss_cons (ps_if (pt_cmpR op_gt (pv 1) pe_int (nomark _))
      (pss_cons (ps_set (i := 4) sc_L_asked.nd rfl (by first | exact Or.inl rfl | exact Or.inr rfl) (pe_lst (pa_cons (pe_lst (pa_cons pe_str (pa_cons pe_str pa_nil))) (pa_cons (pe_lst (pa_cons pe_str (pa_cons pe_str pa_nil))) (pa_cons (pe_lst (pa_cons pe_str (pa_cons pe_str pa_nil))) (pa_cons (pe_lst (pa_cons pe_str (pa_cons pe_str pa_nil))) (pa_cons (pe_lst (pa_cons pe_str (pa_cons pe_str pa_nil))) (pa_cons (pe_lst (pa_cons pe_str (pa_cons pe_str pa_nil))) pa_nil))))))))
      (pss_cons (ps_set (i := 4) sc_L_asked.nd rfl (by first | exact Or.inl rfl | exact Or.inr rfl) (pe_op op_cat (pv 4) (pe_lst (pa_cons (pe_lst (pa_cons pe_str (pa_cons pe_str pa_nil))) (pa_cons (pe_lst (pa_cons pe_str (pa_cons pe_str pa_nil))) (pa_cons (pe_lst (pa_cons pe_str (pa_cons pe_str pa_nil))) (pa_cons (pe_lst (pa_cons pe_str (pa_cons pe_str pa_nil))) (pa_cons (pe_lst (pa_cons pe_str (pa_cons pe_str pa_nil))) (pa_cons (pe_lst (pa_cons pe_str (pa_cons pe_str pa_nil))) pa_nil)))))))))
      (pss_cons (ps_set (i := 4) sc_L_asked.nd rfl (by first | exact Or.inl rfl | exact Or.inr rfl) (pe_op op_cat (pv 4) (pe_lst (pa_cons (pe_lst (pa_cons pe_str (pa_cons pe_str pa_nil))) (pa_cons (pe_lst (pa_cons pe_str (pa_cons pe_str pa_nil))) (pa_cons (pe_lst (pa_cons pe_str (pa_cons pe_str pa_nil))) (pa_cons (pe_lst (pa_cons pe_str (pa_cons pe_str pa_nil))) pa_nil)))))))
      (pss_cons (ps_set (i := 5) sc_L_asked.nd rfl (by first | exact Or.inl rfl | exact Or.inr rfl) (pe_ix ix_list (pv 4) (pe_op op_mod (pe_call G_L_at (hr) (by rfl) D_L_at.m D_L_at.F.kp D_L_at.b .nil pass0 (pa_cons (pv 0) (pa_cons pe_int pa_nil))) pe_int) (fun _ _ => rfl)))
      (pss_one (ps_ret (pe_op op_add_str (pe_op op_add_str (pe_ix ix_list (pv 5) pe_int (fun _ _ => rfl)) (pv 3)) (pe_ix ix_list (pv 5) pe_int (fun _ _ => rfl)))))))))
      pss_nil)
    (pss_cons (ps_set (i := 6) sc_L_asked.nd rfl (by first | exact Or.inl rfl | exact Or.inr rfl) (pe_op op_mod (pe_call G_L_at (hr) (by rfl) D_L_at.m D_L_at.F.kp D_L_at.b .nil pass0 (pa_cons (pv 0) (pa_cons pe_int pa_nil))) (pe_op op_add (pe_callB call_len_str (by rfl) BT.n_len bo_len (pa_cons (pv 3) pa_nil)) pe_int)))
    (pss_cons (ps_set (i := 7) sc_L_asked.nd rfl (by first | exact Or.inl rfl | exact Or.inr rfl) (pe_ix ix_str pe_str (pe_op op_mod (pe_call G_L_at (hr) (by rfl) D_L_at.m D_L_at.F.kp D_L_at.b .nil pass0 (pa_cons (pv 0) (pa_cons pe_int pa_nil))) pe_int) (fun _ _ => rfl)))
    (pss_cons (ps_if (pt_cmpR op_eq (pe_op op_mod (pe_op op_fdiv (pe_call G_L_at (hr) (by rfl) D_L_at.m D_L_at.F.kp D_L_at.b .nil pass0 (pa_cons (pv 0) (pa_cons pe_int pa_nil))) pe_int) pe_int) pe_int (nomark _))
      (pss_cons (ps_set (i := 8) sc_L_asked.nd rfl (by first | exact Or.inl rfl | exact Or.inr rfl) pe_str)
      (pss_cons (ps_set (i := 8) sc_L_asked.nd rfl (by first | exact Or.inl rfl | exact Or.inr rfl) (pe_op op_add_str (pv 8) pe_str))
      (pss_one (ps_set (i := 7) sc_L_asked.nd rfl (by first | exact Or.inl rfl | exact Or.inr rfl) (pe_ix ix_str (pv 8) (pe_op op_mod (pe_call G_L_at (hr) (by rfl) D_L_at.m D_L_at.F.kp D_L_at.b .nil pass0 (pa_cons (pv 0) (pa_cons pe_int pa_nil))) (pe_callB call_len_str (by rfl) BT.n_len bo_len (pa_cons (pv 8) pa_nil))) (fun _ _ => rfl))))))
      pss_nil)
    (pss_cons (ps_if (pt_cmpR op_eq (pv 1) pe_int (nomark _))
      (pss_one (ps_ret (pe_op op_add_str (pe_op op_add_str (pe_slice sl_strA (pv 3) po_none (po_some (pv 6))) (pv 7)) (pe_slice sl_strB (pv 3) (po_some (pe_op op_add (pv 6) pe_int)) po_none))))
      pss_nil)
    (pss_cons (ps_if (pt_cmpR op_eq (pv 1) pe_int (nomark _))
      (pss_one (ps_ret (pe_op op_add_str (pe_slice sl_strA (pv 3) po_none (po_some (pv 6))) (pe_slice sl_strB (pv 3) (po_some (pe_op op_add (pv 6) pe_int)) po_none))))
      pss_nil)
    (pss_cons (ps_if (pt_cmpR op_eq (pv 1) pe_int (nomark _))
      (pss_one (ps_ret (pe_op op_add_str (pe_op op_add_str (pe_slice sl_strA (pv 3) po_none (po_some (pv 6))) (pv 7)) (pe_slice sl_strB (pv 3) (po_some (pv 6)) po_none))))
      pss_nil)
    (pss_one (ps_ret (pv 3))))))))))))), ?_⟩
    have hnn := fun (i j : Int) (h : 0 < j) => (⟨Int.emod_nonneg i (by omega), Int.emod_lt_of_pos i h⟩ : 0 ≤ i % j ∧ i % j < j)
    refine seq_sp fun R1 hR1 => ?_
    simp only [rdA, rd_forL, rd_forR, rd_compT, rd_compL, rd_compR, rd_tyes, rd_kget, rd_kin, rd_fldP, rd_make, rd_slS, cx_w, cx_w2]
    refine ⟨l, ns, 0, rfl, hl, fun c0 => ?_⟩
    simp only [rdA, rd_forL, rd_forR, rd_compT, rd_compL, rd_compR, rd_tyes, rd_kget, rd_kin, rd_fldP, rd_make, rd_slS, cx_w, cx_w2]
    obtain ⟨w0, w1⟩ := hnn c0 7 (by decide)
    generalize c0 % 7 = way at *
    subst hR1
    refine seq_sp fun R1 hR1 => if_sp fun TA TB hTA hTB => ?_
    simp only [rdA, rd_forL, rd_forR, rd_compT, rd_compL, rd_compR, rd_tyes, rd_kget, rd_kin, rd_fldP, rd_make, rd_slS, cx_w, cx_w2]
    refine ite2 (fun h4 => ?_) (fun h4 => ?_)
    · subst hTA
      refine seq_sp fun R2 hR2 => ?_
      refine sts_lst (zs := pieces) (by unfold pieces; repeat (first | exact stt_nil | refine stt_cons ?_)) pieces_len fun p1 hp1 => ?_
      generalize hpz : pieces.map V.str = pz at *
      simp only [rdA, rd_forL, rd_forR, rd_compT, rd_compL, rd_compR, rd_tyes, rd_kget, rd_kin, rd_fldP, rd_make, rd_slS, cx_w, cx_w2]
      subst hR2
      simp only [rdA, rd_forL, rd_forR, rd_compT, rd_compL, rd_compR, rd_tyes, rd_kget, rd_kin, rd_fldP, rd_make, rd_slS, cx_w, cx_w2]
      subst hpz
      refine ⟨(by first | exact rfl | exact ⟨_, rfl⟩ | exact trivial), ⟨_, (Same.new hp1).seq hl, fun p2 hp2 => ⟨⟨_, SqL.of upd_same⟩, fun p3 hp3 => ?_⟩⟩⟩
      have s1 := Same.new (o := HO.lst (pieces.map V.str)) hp1
      have e1 := @upd_same H p1 (HO.lst (pieces.map V.str))
      obtain ⟨ms, em, hm⟩ := cut_ints ns (lo := 1) (hi := 16) (m := 15) (by decide) (by decide)
      rw [em] at hp3 ⊢
      have s2 := Same.new (o := HO.lst (ms.map V.int)) hp2
      have e2 := @upd_same (upd H p1 (HO.lst (pieces.map V.str))) p2 (HO.lst (ms.map V.int))
      have s3 := Same.new (o := HO.lst []) hp3
      refine comp_list (K := K) (a := p2) (xs := ms.map V.int) (fun i ys H2 => ∃ zs : List Str, ys = zs.map V.str ∧ zs.length = i ∧ (∀ z ∈ zs, z.length ≤ 3) ∧ Same (upd (upd H p1 (HO.lst (pieces.map V.str))) p2 (HO.lst (ms.map V.int))) H2 ∧ H2 p3 = some (.lst ys)) ⟨[], rfl, rfl, fun z hz => (by cases hz), s3, upd_same⟩ (fun i ys H2 _ h => by obtain ⟨zs, _, _, _, sm, _⟩ := h; exact SqL.of (sm _ _ e2)) ?_ ?_
      · rintro i x ys H2 hi ⟨zs, rfl, hzl, hz3, sm, hd⟩
        have hil : i < ms.length := by have := (List.getElem?_eq_some_iff.mp hi).1; simpa using this
        obtain ⟨z, rfl⟩ : ∃ z, x = V.int z := by
          rw [List.getElem?_map] at hi
          cases e : ms[i]? with
          | none => rw [e] at hi; cases hi
          | some z => rw [e] at hi; exact ⟨z, (Option.some.inj hi).symm⟩
        obtain ⟨y, ey, hy⟩ := piece_at z
        simp only [rdA, rd_forL, rd_forR, rd_compT, rd_compL, rd_compR, rd_tyes, rd_kget, rd_kin, rd_fldP, rd_make, rd_slS, cx_w, cx_w2]
        refine ⟨_, SqL.of (sm _ _ (s2 _ _ e1)), _, ey, hd, lt9 (by rw [List.length_map]; omega), _, (by rw [List.length_map]; omega : (ms.map V.int).length - (i + 1) < _), rfl, by rw [List.length_map]; omega, zs ++ [y], by rw [List.map_append]; rfl, by rw [List.length_append, hzl]; rfl, fun z hz => ?_, sm.mut hp3, upd_same⟩
        rcases List.mem_append.mp hz with h | h
        · exact hz3 z h
        · rw [List.mem_singleton.mp h]; exact hy
      · rintro ys H2 ⟨zs, rfl, hzl, hz3, sm, hd⟩
        rw [List.length_map] at hzl
        have hj := join_len (y := Str.ofString "") (by decide +kernel) 3 zs hz3
        have hsum : ∀ l : List Str, (∀ z ∈ l, z.length ≤ 3) → (l.map (·.length)).sum ≤ l.length * 3 := fun l => by
          induction l with
          | nil => intro _; exact Nat.zero_le _
          | cons z l ih =>
            intro h
            have h1 := h z (by simp)
            have h2 := ih fun x hx => h x (List.mem_cons_of_mem _ hx)
            simp only [List.map_cons, List.sum_cons, List.length_cons]
            omega
        have hs := hsum zs hz3
        have hj2 : (Txt.join (Str.ofString "") zs).length ≤ 300 := by
          show (Builtin.Str.glued (Str.ofString "") zs).length ≤ 300
          rw [StrLaws.glued_eq_join]
          omega
        refine ⟨_, p3, zs, rfl, rfl, hd, ?_, q _ _ ((s1.trans s2).trans sm) ?_⟩
        · rw [show (Str.ofString "").length = 0 from by decide +kernel]; omega
        · exact hj2
    · subst hTB
      simp only [rdA, rd_forL, rd_forR, rd_compT, rd_compL, rd_compR, rd_tyes, rd_kget, rd_kin, rd_fldP, rd_make, rd_slS, cx_w, cx_w2]
      subst hR1
      refine seq_sp fun R1 hR1 => ?_
      simp only [rdA, rd_forL, rd_forR, rd_compT, rd_compL, rd_compR, rd_tyes, rd_kget, rd_kin, rd_fldP, rd_make, rd_slS, cx_w, cx_w2]
      refine ⟨l, ns, 12, 40, rfl, hl, hn, ?_⟩
      simp only [rdA, rd_forL, rd_forR, rd_compT, rd_compL, rd_compR, rd_tyes, rd_kget, rd_kin, rd_fldP, rd_make, rd_slS, cx_w, cx_w2]
      refine ⟨_, hl, fun p1 hp1 => ?_⟩
      obtain ⟨ms, em, hm⟩ := cut_ints ns (lo := 3) (hi := 3 + 12) (m := 12) (by decide) (by decide)
      rw [em]
      have s1 := Same.new (o := HO.lst (ms.map V.int)) hp1
      refine ⟨p1, ms, 13, rfl, SqL.of upd_same, by omega, by decide, fun v a H2 sm2 ha oka hsz => ⟨v, a, rfl, ha.k, oka.mono (by decide), by omega, fun H3 sm3 => ?_⟩⟩
      have hlen := line_l13 a oka
      have sA := (s1.trans sm2).trans sm3
      have hL : (line a).length ≤ 130 := by omega
      generalize line a = L at *
      clear ha hlen
      subst hR1
      refine seq_sp fun R1 hR1 => if_sp fun TA TB hTA hTB => ?_
      simp only [rdA, rd_forL, rd_forR, rd_compT, rd_compL, rd_compR, rd_tyes, rd_kget, rd_kin, rd_fldP, rd_make, rd_slS, cx_w, cx_w2]
      refine ite2 (fun h5 => ?_) (fun h5 => ?_)
      · subst hTA
        refine seq_sp fun R2 hR2 => ?_
        refine frs_lst (n := 6) (frt_cons (by decide +kernel) (frt_cons (by decide +kernel) (frt_cons (by decide +kernel) (frt_cons (by decide +kernel) (frt_cons (by decide +kernel) (frt_cons (by decide +kernel) frt_nil)))))) (by decide) fun p4 H4 xs4 sm4 hx4 hf4 hl4 => ?_
        simp only [rdA, rd_forL, rd_forR, rd_compT, rd_compL, rd_compR, rd_tyes, rd_kget, rd_kin, rd_fldP, rd_make, rd_slS, cx_w, cx_w2]
        subst hR2
        refine seq_sp fun R2 hR2 => ⟨_, rfl, ?_⟩
        refine frs_lst (n := 6) (frt_cons (by decide +kernel) (frt_cons (by decide +kernel) (frt_cons (by decide +kernel) (frt_cons (by decide +kernel) (frt_cons (by decide +kernel) (frt_cons (by decide +kernel) frt_nil)))))) (by decide) fun p5 H5 xs5 sm5 hx5 hf5 hl5 => ?_
        simp only [rdA, rd_forL, rd_forR, rd_compT, rd_compL, rd_compR, rd_tyes, rd_kget, rd_kin, rd_fldP, rd_make, rd_slS, cx_w, cx_w2]
        refine ⟨_, sm5 _ _ hx4, _, hx5, small9 (by omega), fun p6 hp6 => ?_⟩
        have s6 := Same.new (o := HO.lst (xs4 ++ xs5)) hp6
        have hx6 := @upd_same H5 p6 (HO.lst (xs4 ++ xs5))
        have hf6 : ∀ x ∈ xs4 ++ xs5, FrAt (upd H5 p6 (HO.lst (xs4 ++ xs5))) x := fun x hx => by
          rcases List.mem_append.mp hx with h | h
          · exact (hf4 x h).same (sm5.trans s6)
          · exact (hf5 x h).same s6
        generalize upd H5 p6 (HO.lst (xs4 ++ xs5)) = H6 at *
        subst hR2
        refine seq_sp fun R2 hR2 => ⟨_, rfl, ?_⟩
        refine frs_lst (n := 4) (frt_cons (by decide +kernel) (frt_cons (by decide +kernel) (frt_cons (by decide +kernel) (frt_cons (by decide +kernel) frt_nil)))) (by decide) fun p7 H7 xs7 sm7 hx7 hf7 hl7 => ?_
        simp only [rdA, rd_forL, rd_forR, rd_compT, rd_compL, rd_compR, rd_tyes, rd_kget, rd_kin, rd_fldP, rd_make, rd_slS, cx_w, cx_w2]
        refine ⟨_, sm7 _ _ hx6, _, hx7, small9 (by rw [List.length_append]; omega), fun p8 hp8 => ?_⟩
        have s8 := Same.new (o := HO.lst (xs4 ++ xs5 ++ xs7)) hp8
        have hx8 := @upd_same H7 p8 (HO.lst (xs4 ++ xs5 ++ xs7))
        have hf8 : ∀ x ∈ xs4 ++ xs5 ++ xs7, FrAt (upd H7 p8 (HO.lst (xs4 ++ xs5 ++ xs7))) x := fun x hx => by
          rcases List.mem_append.mp hx with h | h
          · exact (hf6 x h).same (sm7.trans s8)
          · exact (hf7 x h).same s8
        generalize upd H7 p8 (HO.lst (xs4 ++ xs5 ++ xs7)) = H8 at *
        have sB := sA.trans (((sm4.trans (sm5.trans s6)).trans sm7).trans s8)
        have h16 : (xs4 ++ xs5 ++ xs7).length = 16 := by rw [List.length_append, List.length_append]; omega
        generalize xs4 ++ xs5 ++ xs7 = xs at *
        subst hR2
        simp only [rdA, rd_forL, rd_forR, rd_compT, rd_compL, rd_compR, rd_tyes, rd_kget, rd_kin, rd_fldP, rd_make, rd_slS, cx_w, cx_w2]
        refine ⟨l, ns, 1, rfl, sB.seq hl, fun c1 => ?_⟩
        simp only [rdA, rd_forL, rd_forR, rd_compT, rd_compL, rd_compR, rd_tyes, rd_kget, rd_kin, rd_fldP, rd_make, rd_slS, cx_w, cx_w2]
        obtain ⟨v0, v1⟩ := hnn c1 16 (by decide)
        obtain ⟨i, hi⟩ := Int.eq_ofNat_of_zero_le v0
        have hil : i < xs.length := by omega
        rw [hi]
        obtain ⟨p9, x, y, e9, h9, lx, ly⟩ := hf8 _ (List.getElem_mem hil)
        refine ⟨_, SqL.of hx8, xs[i], atI_nat (List.getElem?_eq_getElem hil), ?_⟩
        rw [e9]
        simp only [rdA, rd_forL, rd_forR, rd_compT, rd_compL, rd_compR, rd_tyes, rd_kget, rd_kin, rd_fldP, rd_make, rd_slS, cx_w, cx_w2]
        refine ⟨_, SqL.of h9, _, atI0 _ _, x, rfl, small9 (by omega), _, SqL.of h9, _, atI1 _ _ _, y, rfl, small9 (by rw [app_len]; omega), q _ _ sB (by rw [app_len, app_len]; omega)⟩
      · subst hTB
        simp only [rdA, rd_forL, rd_forR, rd_compT, rd_compL, rd_compR, rd_tyes, rd_kget, rd_kin, rd_fldP, rd_make, rd_slS, cx_w, cx_w2]
        subst hR1
        have hL9 : L.length ≤ sizeLine := small9 (by omega)
        refine seq_sp fun R1 hR1 => ?_
        simp only [rdA, rd_forL, rd_forR, rd_compT, rd_compL, rd_compR, rd_tyes, rd_kget, rd_kin, rd_fldP, rd_make, rd_slS, cx_w, cx_w2]
        refine ⟨l, ns, 1, rfl, sA.seq hl, fun c1 => ?_⟩
        simp only [rdA, rd_forL, rd_forR, rd_compT, rd_compL, rd_compR, rd_tyes, rd_kget, rd_kin, rd_fldP, rd_make, rd_slS, cx_w, cx_w2]
        refine ⟨hL9, by omega, ?_⟩
        obtain ⟨k0, k1⟩ := hnn c1 (((L.length : Nat) : Int) + 1) (by omega)
        obtain ⟨k, hk⟩ := Int.eq_ofNat_of_zero_le k0
        rw [hk]
        clear k0 k1 hk
        subst hR1
        refine seq_sp fun R1 hR1 => ?_
        simp only [rdA, rd_forL, rd_forR, rd_compT, rd_compL, rd_compR, rd_tyes, rd_kget, rd_kin, rd_fldP, rd_make, rd_slS, cx_w, cx_w2]
        refine ⟨l, ns, 2, rfl, sA.seq hl, fun c2 => ?_⟩
        simp only [rdA, rd_forL, rd_forR, rd_compT, rd_compL, rd_compR, rd_tyes, rd_kget, rd_kin, rd_fldP, rd_make, rd_slS, cx_w, cx_w2]
        obtain ⟨k0, k1⟩ := hnn c2 13 (by decide)
        obtain ⟨g, hg⟩ := sig_at (Str.ofString "()&|!AS.0Y7a ") k0 (by rw [show (Str.ofString "()&|!AS.0Y7a ").length = 13 from by decide +kernel]; exact k1)
        refine ⟨_, _, g, rfl, rfl, by decide +kernel, hg, ?_⟩
        subst hR1
        refine seq_sp fun R1 hR1 => if_sp fun TA TB hTA hTB => ?_
        have key : ∀ (g : Nat) (o8 : Option V), R1 [some (V.ref l), some (V.int way), none, some (V.str L), none, none, some (V.int ((k : Nat) : Int)), some (V.str ⟨#[g]⟩), o8] H3 := fun g o8 => by
          clear hTA hTB
          subst hR1
          have l1 : (⟨#[g]⟩ : Str).length = 1 := rfl
          refine seq_sp fun R1 hR1 => if_sp fun TA TB hTA hTB => ?_
          simp only [rdA, rd_forL, rd_forR, rd_compT, rd_compL, rd_compR, rd_tyes, rd_kget, rd_kin, rd_fldP, rd_make, rd_slS, cx_w, cx_w2]
          refine ite2 (fun h1 => ?_) (fun h1 => ?_)
          · subst hTA
            simp only [rdA, rSlA, rSlB, rd_forL, rd_forR, rd_compT, rd_compL, rd_compR, rd_tyes, rd_kget, rd_kin, rd_fldP, rd_make, rd_slS, cx_w, cx_w2]
            exact ⟨k, rfl, hL9, fun y hy => ⟨small9 (by omega), k + 1, rfl, hL9, fun y2 hy2 => ⟨small9 (by rw [app_len]; omega), q _ _ sA (by rw [app_len, app_len]; omega)⟩⟩⟩
          · subst hTB
            simp only [rdA, rd_forL, rd_forR, rd_compT, rd_compL, rd_compR, rd_tyes, rd_kget, rd_kin, rd_fldP, rd_make, rd_slS, cx_w, cx_w2]
            subst hR1
            simp only [rdA, rSlA, rSlB, rd_forL, rd_forR, rd_compT, rd_compL, rd_compR, rd_tyes, rd_kget, rd_kin, rd_fldP, rd_make, rd_slS, cx_w, cx_w2]
            refine ite2 (fun h2 => ?_) fun h2 => ite2 (fun h3 => ?_) fun h3 => q _ _ sA (by omega)
            · exact ⟨k, rfl, hL9, fun y hy => ⟨k + 1, rfl, hL9, fun y2 hy2 => ⟨small9 (by omega), q _ _ sA (by rw [app_len]; omega)⟩⟩⟩
            · exact ⟨k, rfl, hL9, fun y hy => ⟨small9 (by omega), k, rfl, hL9, fun y2 hy2 => ⟨small9 (by rw [app_len]; omega), q _ _ sA (by rw [app_len, app_len]; omega)⟩⟩⟩
        simp only [rdA, rd_forL, rd_forR, rd_compT, rd_compL, rd_compR, rd_tyes, rd_kget, rd_kin, rd_fldP, rd_make, rd_slS, cx_w, cx_w2]
        refine ⟨l, ns, 2, rfl, sA.seq hl, fun c3 => ?_⟩
        simp only [rdA, rd_forL, rd_forR, rd_compT, rd_compL, rd_compR, rd_tyes, rd_kget, rd_kin, rd_fldP, rd_make, rd_slS, cx_w, cx_w2]
        refine ite2 (fun h6 => ?_) (fun h6 => ?_)
        · subst hTA
          refine seq_sp fun R2 hR2 => ?_
          simp only [rdA, rd_forL, rd_forR, rd_compT, rd_compL, rd_compR, rd_tyes, rd_kget, rd_kin, rd_fldP, rd_make, rd_slS, cx_w, cx_w2]
          subst hR2
          refine seq_sp fun R2 hR2 => ?_
          simp only [rdA, rd_forL, rd_forR, rd_compT, rd_compL, rd_compR, rd_tyes, rd_kget, rd_kin, rd_fldP, rd_make, rd_slS, cx_w, cx_w2]
          refine ⟨by decide +kernel, ?_⟩
          have sl : (Str.ofString "!\"#$&'()*+,-./0123456789:;<=>?@ABCDEFGHIJKLMNOPQRSTUVWXYZ" ++ Str.ofString "[\\]^_`abcdefghijklmnopqrstuvwxyz{|}~ ").length = 94 := by decide +kernel
          generalize Str.ofString "!\"#$&'()*+,-./0123456789:;<=>?@ABCDEFGHIJKLMNOPQRSTUVWXYZ" ++ Str.ofString "[\\]^_`abcdefghijklmnopqrstuvwxyz{|}~ " = Z at *
          subst hR2
          simp only [rdA, rd_forL, rd_forR, rd_compT, rd_compL, rd_compR, rd_tyes, rd_kget, rd_kin, rd_fldP, rd_make, rd_slS, cx_w, cx_w2]
          refine ⟨l, ns, 2, rfl, sA.seq hl, fun c4 => ?_⟩
          simp only [rdA, rd_forL, rd_forR, rd_compT, rd_compL, rd_compR, rd_tyes, rd_kget, rd_kin, rd_fldP, rd_make, rd_slS, cx_w, cx_w2]
          refine ⟨small9 (by omega), by omega, ?_⟩
          obtain ⟨k2, k3⟩ := hnn c4 ((Z.length : Nat) : Int) (by omega)
          obtain ⟨g2, hg2⟩ := sig_at Z k2 k3
          exact ⟨_, _, g2, rfl, rfl, small9 (by omega), hg2, key g2 _⟩
        · subst hTB
          exact key g none
end
end CN
end
section
set_option Elab.async false
set_option linter.all false
set_option maxRecDepth 100000
set_option maxHeartbeats 4000000
namespace CN
open PySem L2
seal L2.PE L2.PT L2.PS L2.PSs L2.PA L2.PPs L2.PW L2.PC L2.PG L2.PGs L2.PI L2.PO
noncomputable abbrev s_L_base_tells : Stmt := top 22
noncomputable abbrev p_L_base_tells : List Str := ["_law_line"]
theorem sc_L_base_tells : FnScope ["_law_line", "e", "_law_many"] ["_law_line"] (defScope s_L_base_tells) := ⟨rfl, rfl, rfl, by decide +kernel, rfl, by decide +kernel, by decide +kernel⟩
noncomputable abbrev s_law : Stmt := top 23
noncomputable abbrev p_law : List Str := ["_law_script"]
theorem sc_law : FnScope ["_law_script", "_law_line", "_law_found", "_law_refused"] ["_law_script"] (defScope s_law) := ⟨rfl, rfl, rfl, by decide +kernel, rfl, by decide +kernel, by decide +kernel⟩
section
variable {P : Program} {w : World} {K : PySem.W.Frag} {mg : Str → Option Value} {base : Heap}
noncomputable def spTell : Sp := fun vs H Q _ => ∃ L : Str, vs = [.str L] ∧ L.length ≤ 600 ∧ ¬ Wf (tx L) ∧ ∀ H', Q (.bl true) H'
theorem ok_tell {f f1 CE CW CS : Addr} {fd fd1 : FuncData} (BT : Bt mg) (n_ValueError : mg "ValueError" = none) (XS : Xs K mg CE CW CS) (D_read : Df K mg "read" s_read p_read f1 fd1) (G_read : FnOk P w K mg base (CXe P w) 4 f1 fd1 p_read (spRq K CS))
    (D : Df K mg "_law_base_tells" s_L_base_tells p_L_base_tells f fd) : FnOk P w K mg base CX0 5 f fd p_L_base_tells spTell := by
  refine D.F.ok sc_L_base_tells (fun vs H Q E h => ?_) (fun cdv A outer s H vs Q E hr h => ?_)
  · obtain ⟨L, rfl, _⟩ := h
    rfl
  · obtain ⟨L, rfl, hL, hno, q⟩ := h
    refine ⟨_, (pss_cons (ps_tryas (i := 1) rfl rfl rfl sc_L_base_tells.nd rfl rfl (fun E => psx_expr (pex_call (E := E) rfl G_read hr (by rfl) D_read.m D_read.F.kp D_read.b .nil (pa_cons (pv 0) pa_nil))) (by rfl) XS.mE (mat_sub XS.eE (by decide) XS.sE) (fun e => pss_cons (ps_set (i := 2) sc_L_base_tells.nd rfl (by first | exact Or.inl rfl | exact Or.inr rfl) (pe_op op_add (pe_callTy call_int1 (by rfl) BT.n_int bo_int (pa_cons (pe_callB (call_isinstR (K := K) rfl PySem.F.attrBase_ValueError) (by rfl) BT.n_isinstance bo_isinstance (pa_cons (pv 1) (pa_cons (pe_gref (by rfl) XS.mW) pa_nil))) pa_nil)) (pe_callTy call_int1 (by rfl) BT.n_int bo_int (pa_cons (pe_callB (call_isinstR (K := K) rfl PySem.F.attrBase_ValueError) (by rfl) BT.n_isinstance bo_isinstance (pa_cons (pv 1) (pa_cons (pe_gref (by rfl) XS.mS) pa_nil))) pa_nil)))) (pss_one (ps_ret (pe_and (pe_callB (call_isinstB (K := K) rfl PySem.F.attrBase_ValueError) (by rfl) BT.n_isinstance bo_isinstance (pa_cons (pv 1) (pa_cons (pe_bltn (v := .ty "ValueError") (by rfl) n_ValueError bo_ValueError rfl) pa_nil))) (pe_one (pe_cmpR op_eq (pv 2) pe_int (nomark _))))))))
    (pss_one (ps_ret pe_bl))), ?_⟩
    simp only [rdA, rd_forL, rd_forR, rd_compT, rd_compL, rd_compR, rd_tyes, rd_kget, rd_kin, rd_fldP, rd_make, rd_slS, cx_w, cx_w2, rd_tryas]
    refine ⟨L, rfl, hL, fun v a H' _ _ hn e => (hno ⟨a, hn, e⟩).elim, fun _ H' => ⟨rfl, fun y hy => ?_⟩⟩
    refine ⟨CS, upd_same, XS.xS, false, XS.sW, CS, upd_same, XS.xS, true, XS.sS, CS, upd_same, XS.xS, true, XS.sV, ?_⟩
    exact q _
noncomputable def spLaw (K : PySem.W.Frag) : Sp := fun vs H Q _ => ∃ (a : Addr) (ns : List Int), vs = [.ref a] ∧ SqL K H a (ns.map V.int) ∧ ns.length ≤ 63 ∧ ∀ H', Q (.bl true) H'
theorem ok_law {f f1 f2 f3 f4 f5 f6 CE CW CS : Addr} {fd fd1 fd2 fd3 fd4 fd5 fd6 : FuncData} (BT : Bt mg) (XS : Xs K mg CE CW CS) (D_read : Df K mg "read" s_read p_read f1 fd1) (G1 : FnOk P w K mg base (CXe P w) 4 f1 fd1 p_read (spRq K CS))
    (D_L_asked : Df K mg "_law_asked" s_L_asked p_L_asked f2 fd2) (G2 : FnOk P w K mg base CX0 2 f2 fd2 p_L_asked (spAsk K))
    (D_L_well : Df K mg "_law_well" s_L_well p_L_well f3 fd3) (G3 : FnOk P w K mg base CX0 1 f3 fd3 p_L_well spWell)
    (D_L_base_tells : Df K mg "_law_base_tells" s_L_base_tells p_L_base_tells f4 fd4) (G4 : FnOk P w K mg base CX0 5 f4 fd4 p_L_base_tells spTell)
    (D_L_is_statement : Df K mg "_law_is_statement" s_L_is_statement p_L_is_statement f5 fd5) (G5 : FnOk P w K mg base CX0 2 f5 fd5 p_L_is_statement (spIsSt K))
    (D_L_line_of : Df K mg "_law_line_of" s_L_line_of p_L_line_of f6 fd6) (G6 : FnOk P w K mg base CX0 1 f6 fd6 p_L_line_of (spLine K))
    (D : Df K mg "law" s_law p_law f fd) : FnOk P w K mg base CX0 6 f fd p_law (spLaw K) := by
  have G_read := G1.mono (show 4 ≤ 5 by omega)
  have G_L_asked := G2.mono (show 2 ≤ 5 by omega)
  have G_L_well := G3.mono (show 1 ≤ 5 by omega)
  have G_L_base_tells := G4
  have G_L_is_statement := G5.mono (show 2 ≤ 5 by omega)
  have G_L_line_of := G6.mono (show 1 ≤ 5 by omega)
  refine D.F.ok sc_law (fun vs H Q E h => ?_) (fun cdv A outer s H vs Q E hr h => ?_)
  · obtain ⟨a, ns, rfl, _⟩ := h
    rfl
  · obtain ⟨a, ns, rfl, hl, hn, q⟩ := h
    refine ⟨_, (pss_cons (ps_set (i := 1) sc_law.nd rfl (by first | exact Or.inl rfl | exact Or.inr rfl) (pe_call G_L_asked (hr) (by rfl) D_L_asked.m D_L_asked.F.kp D_L_asked.b .nil pass0 (pa_cons (pv 0) pa_nil)))
    (pss_cons (ps_set (i := 2) sc_law.nd rfl (by first | exact Or.inl rfl | exact Or.inr rfl) pe_non)
    (pss_cons (ps_set (i := 3) sc_law.nd rfl (by first | exact Or.inl rfl | exact Or.inr rfl) pe_bl)
    (pss_cons (ps_try rfl rfl rfl (fun E => psx_set (i := 2) sc_law.nd rfl (by first | exact Or.inl rfl | exact Or.inr rfl) (pex_call (E := E) rfl G_read hr (by rfl) D_read.m D_read.F.kp D_read.b .nil (pa_cons (pv 1) pa_nil))) (by rfl) XS.mS (mat_self XS.eS (by decide)) (fun e => pss_one (ps_set (i := 3) sc_law.nd rfl (by first | exact Or.inl rfl | exact Or.inr rfl) pe_bl)))
    (pss_cons (ps_if (pt_not (pt_val (pe_call G_L_well (hr) (by rfl) D_L_well.m D_L_well.F.kp D_L_well.b .nil pass0 (pa_cons (pv 1) pa_nil))))
      (pss_one (ps_ret (pe_and (pv 3) (pe_one (pe_call G_L_base_tells (hr) (by rfl) D_L_base_tells.m D_L_base_tells.F.kp D_L_base_tells.b .nil pass0 (pa_cons (pv 1) pa_nil))))))
      pss_nil)
    (pss_one (ps_ret (pe_and (pe_not (pv 3)) (pe_and (pe_call G_L_is_statement (hr) (by rfl) D_L_is_statement.m D_L_is_statement.F.kp D_L_is_statement.b .nil pass0 (pa_cons (pv 2) pa_nil)) (pe_one (pe_cmpR op_eq (pe_call G_L_line_of (hr) (by rfl) D_L_line_of.m D_L_line_of.F.kp D_L_line_of.b .nil pass0 (pa_cons (pv 2) pa_nil)) (pv 1) (nomark _)))))))))))), ?_⟩
    simp only [rdA, rd_forL, rd_forR, rd_compT, rd_compL, rd_compR, rd_tyes, rd_kget, rd_kin, rd_fldP, rd_make, rd_slS, cx_w, cx_w2, rd_try]
    refine ⟨a, ns, rfl, hl, hn, fun L H1 s1 hL => ?_⟩
    have tl := tx_len L
    refine ⟨L, rfl, by omega, fun v A H2 s2 hv hA e => ?_, fun hno H2 => ⟨rfl, L, rfl, by omega, fun b H3 s3 hb => ⟨_, rfl, ?_⟩⟩⟩
    · refine ⟨L, rfl, by omega, fun b H3 s3 hb => ⟨_, rfl, ?_⟩⟩
      rw [hb.mpr ⟨A, hA, e⟩]
      obtain ⟨okA, szA⟩ := ok_len (k := 300) hA (by rw [← e]; omega)
      have eL : line A = L := tx_is e.symm
      refine iteF (iteT ⟨v, A, _, rfl, DK.to hv s3.tk, okA, by rw [← e] at szA; omega, fun H4 s4 => ⟨_, rfl, iteT ⟨v, A, rfl, DK.to hv (s3.trans s4).tk, okA, by rw [← e] at szA; omega, fun H5 s5 => ?_⟩⟩⟩)
      simp only [rdA, rd_forL, rd_forR, rd_compT, rd_compL, rd_compR, rd_tyes, rd_kget, rd_kin, rd_fldP, rd_make, rd_slS, cx_w, cx_w2]
      rw [eL, decide_eq_true rfl]
      exact q _
    · have hf : b = false := by
        cases b with
        | false => rfl
        | true => exact absurd (hb.mp rfl) hno
      rw [hf]
      exact iteT ⟨L, rfl, by omega, hno, fun H4 => q H4⟩
end
end CN
end
section
set_option Elab.async false
set_option linter.all false
set_option maxRecDepth 100000
set_option maxHeartbeats 4000000
namespace CN
open PySem L2
theorem df_mk {K : PySem.W.Frag} {h : Heap} {mg : Str → Option Value} (X : K.In h) (G : h.Ns mainGlobals mg) {x : Str} {st : Stmt} (ps : List Str) {f : Addr} {oc : Value} {od an : Option Addr} {osl : Array (Option Value)} {kV doc pm cdv ct : Value}
    (a : PySem.W.nsIn K mainGlobals x = some (some (.ref f))) (l : K.lookup f = some ⟨oc, od, .func (PySem.W.fnOf x x (defArgs st) (defBody st) (defScope st) .none kV doc pm an cdv ct), osl⟩) (c : PySem.W.codeIn K cdv x = true) (k : PySem.W.keepIn K (.ref f) = true)
    (hb : ∀ (kV doc pm : Value) (an : Option Addr) (cdv ct : Value) (us : List Value), us.length = ps.length → bindArgs (PySem.W.fnOf x x (defArgs st) (defBody st) (defScope st) .none kV doc pm an cdv ct) ⟨us, []⟩ = pure (ps.zip us)) :
    Df K mg x st ps f (PySem.W.fnOf x x (defArgs st) (defBody st) (defScope st) .none kV doc pm an cdv ct) :=
  ⟨fun_mk l c k, (fun_mk l c k).binds hb, PySem.W.mg_of X G a⟩
theorem ktup_mk {K : PySem.W.Frag} {a : Addr} {oc : Value} {dd : Option Addr} {sl : Array (Option Value)} {xs : List V} {us : List Value} {n : Nat} (h : K.lookup a = some ⟨oc, dd, .seq us.toArray n, sl⟩) (hc : oc = .type "tuple") (hz : us.length ≤ sizeLine) (r : Vals xs us) : KTup K a xs := ⟨_, us.toArray, n, h, hc, rfl, by rw [List.size_toArray]; exact hz, r⟩
theorem all_mk {l : PySem.W.OpenLaw} {w : World} {K : PySem.W.Frag} {h : Heap} {mg : Str → Option Value} {fa f0 f1 f2 f3 f4 f5 f6 f7 f8 f9 f10 f11 C m0 m1 m2 m3 m4 m5 m6 CE CW CS aP aL aV aF pY pN : Addr} (X : K.In h) (G : h.Ns mainGlobals mg) (hfa : mg "law" = some (.ref fa))
    {od0 an0 od1 an1 od2 an2 od3 an3 od4 an4 od5 an5 od6 an6 od7 an7 od8 an8 od9 an9 od10 an10 od11 an11 od12 an12 od13 an13 od14 an14 od15 an15 od16 an16 od17 an17 od18 an18 : Option Addr} {sl0 sl1 sl2 sl3 sl4 sl5 sl6 sl7 sl8 sl9 sl10 sl11 sl12 sl13 sl14 sl15 sl16 sl17 sl18 : Array (Option Value)}
    {oc0 kV0 dc0 pm0 cd0 ct0 oc1 kV1 dc1 pm1 cd1 ct1 oc2 kV2 dc2 pm2 cd2 ct2 oc3 kV3 dc3 pm3 cd3 ct3 oc4 kV4 dc4 pm4 cd4 ct4 oc5 kV5 dc5 pm5 cd5 ct5 oc6 kV6 dc6 pm6 cd6 ct6 oc7 kV7 dc7 pm7 cd7 ct7 oc8 kV8 dc8 pm8 cd8 ct8 oc9 kV9 dc9 pm9 cd9 ct9 oc10 kV10 dc10 pm10 cd10 ct10 oc11 kV11 dc11 pm11 cd11 ct11 oc12 kV12 dc12 pm12 cd12 ct12 oc13 kV13 dc13 pm13 cd13 ct13 oc14 kV14 dc14 pm14 cd14 ct14 oc15 kV15 dc15 pm15 cd15 ct15 oc16 kV16 dc16 pm16 cd16 ct16 oc17 kV17 dc17 pm17 cd17 ct17 oc18 kV18 dc18 pm18 cd18 ct18 : Value}
    {tPAIRS0 uPAIRS0 tPAIRS1 uPAIRS1 tLOOKS0 uLOOKS0 tLOOKS1 uLOOKS1 tV0 tV1 tY tN tF0 tF1 tF2 tF3 tF4 tF5 tF6 tF7 tF8 tF9 : Tok} {nP nL nV nF nY nN : Nat} {ocF ocY ocN : Value} {ddF ddY ddN : Option Addr} {slF slY slN : Array (Option Value)}
    (b0 : PySem.W.nsIn K mainGlobals "len" = some none)    (b1 : PySem.W.nsIn K mainGlobals "range" = some none)    (b2 : PySem.W.nsIn K mainGlobals "isinstance" = some none)    (b3 : PySem.W.nsIn K mainGlobals "int" = some none)    (b4 : PySem.W.nsIn K mainGlobals "str" = some none)    (b5 : PySem.W.nsIn K mainGlobals "bool" = some none)    (b6 : PySem.W.nsIn K mainGlobals "list" = some none)    (b7 : PySem.W.nsIn K mainGlobals "tuple" = some none)    (b8 : PySem.W.nsIn K mainGlobals "abs" = some none)    (b9 : PySem.W.nsIn K mainGlobals "ValueError" = some none)
    (a0 : PySem.W.nsIn K mainGlobals "law" = some (some (.ref f0))) (l0 : K.lookup f0 = some ⟨oc0, od0, .func (PySem.W.fnOf "law" "law" (defArgs s_law) (defBody s_law) (defScope s_law) .none kV0 dc0 pm0 an0 cd0 ct0), sl0⟩) (c0 : PySem.W.codeIn K cd0 "law" = true) (k0 : PySem.W.keepIn K (.ref f0) = true)
    (a1 : PySem.W.nsIn K mainGlobals "_law_asked" = some (some (.ref f1))) (l1 : K.lookup f1 = some ⟨oc1, od1, .func (PySem.W.fnOf "_law_asked" "_law_asked" (defArgs s_L_asked) (defBody s_L_asked) (defScope s_L_asked) .none kV1 dc1 pm1 an1 cd1 ct1), sl1⟩) (c1 : PySem.W.codeIn K cd1 "_law_asked" = true) (k1 : PySem.W.keepIn K (.ref f1) = true)
    (a2 : PySem.W.nsIn K mainGlobals "_law_at" = some (some (.ref f2))) (l2 : K.lookup f2 = some ⟨oc2, od2, .func (PySem.W.fnOf "_law_at" "_law_at" (defArgs s_L_at) (defBody s_L_at) (defScope s_L_at) .none kV2 dc2 pm2 an2 cd2 ct2), sl2⟩) (c2 : PySem.W.codeIn K cd2 "_law_at" = true) (k2 : PySem.W.keepIn K (.ref f2) = true)
    (a3 : PySem.W.nsIn K mainGlobals "_law_drawn_statement" = some (some (.ref f3))) (l3 : K.lookup f3 = some ⟨oc3, od3, .func (PySem.W.fnOf "_law_drawn_statement" "_law_drawn_statement" (defArgs s_L_drawn_statement) (defBody s_L_drawn_statement) (defScope s_L_drawn_statement) .none kV3 dc3 pm3 an3 cd3 ct3), sl3⟩) (c3 : PySem.W.codeIn K cd3 "_law_drawn_statement" = true) (k3 : PySem.W.keepIn K (.ref f3) = true)
    (a4 : PySem.W.nsIn K mainGlobals "_law_line_of" = some (some (.ref f4))) (l4 : K.lookup f4 = some ⟨oc4, od4, .func (PySem.W.fnOf "_law_line_of" "_law_line_of" (defArgs s_L_line_of) (defBody s_L_line_of) (defScope s_L_line_of) .none kV4 dc4 pm4 an4 cd4 ct4), sl4⟩) (c4 : PySem.W.codeIn K cd4 "_law_line_of" = true) (k4 : PySem.W.keepIn K (.ref f4) = true)
    (a5 : PySem.W.nsIn K mainGlobals "_law_room" = some (some (.ref f5))) (l5 : K.lookup f5 = some ⟨oc5, od5, .func (PySem.W.fnOf "_law_room" "_law_room" (defArgs s_L_room) (defBody s_L_room) (defScope s_L_room) .none kV5 dc5 pm5 an5 cd5 ct5), sl5⟩) (c5 : PySem.W.codeIn K cd5 "_law_room" = true) (k5 : PySem.W.keepIn K (.ref f5) = true)
    (a6 : PySem.W.nsIn K mainGlobals "_law_well" = some (some (.ref f6))) (l6 : K.lookup f6 = some ⟨oc6, od6, .func (PySem.W.fnOf "_law_well" "_law_well" (defArgs s_L_well) (defBody s_L_well) (defScope s_L_well) .none kV6 dc6 pm6 an6 cd6 ct6), sl6⟩) (c6 : PySem.W.codeIn K cd6 "_law_well" = true) (k6 : PySem.W.keepIn K (.ref f6) = true)
    (a7 : PySem.W.nsIn K mainGlobals "_law_base_tells" = some (some (.ref f7))) (l7 : K.lookup f7 = some ⟨oc7, od7, .func (PySem.W.fnOf "_law_base_tells" "_law_base_tells" (defArgs s_L_base_tells) (defBody s_L_base_tells) (defScope s_L_base_tells) .none kV7 dc7 pm7 an7 cd7 ct7), sl7⟩) (c7 : PySem.W.codeIn K cd7 "_law_base_tells" = true) (k7 : PySem.W.keepIn K (.ref f7) = true)
    (a8 : PySem.W.nsIn K mainGlobals "_law_is_statement" = some (some (.ref f8))) (l8 : K.lookup f8 = some ⟨oc8, od8, .func (PySem.W.fnOf "_law_is_statement" "_law_is_statement" (defArgs s_L_is_statement) (defBody s_L_is_statement) (defScope s_L_is_statement) .none kV8 dc8 pm8 an8 cd8 ct8), sl8⟩) (c8 : PySem.W.codeIn K cd8 "_law_is_statement" = true) (k8 : PySem.W.keepIn K (.ref f8) = true)
    (a9 : PySem.W.nsIn K mainGlobals "_law_whole" = some (some (.ref f9))) (l9 : K.lookup f9 = some ⟨oc9, od9, .func (PySem.W.fnOf "_law_whole" "_law_whole" (defArgs s_L_whole) (defBody s_L_whole) (defScope s_L_whole) .none kV9 dc9 pm9 an9 cd9 ct9), sl9⟩) (c9 : PySem.W.codeIn K cd9 "_law_whole" = true) (k9 : PySem.W.keepIn K (.ref f9) = true)
    (a10 : PySem.W.nsIn K mainGlobals "read" = some (some (.ref f10))) (l10 : K.lookup f10 = some ⟨oc10, od10, .func (PySem.W.fnOf "read" "read" (defArgs s_read) (defBody s_read) (defScope s_read) .none kV10 dc10 pm10 an10 cd10 ct10), sl10⟩) (c10 : PySem.W.codeIn K cd10 "read" = true) (k10 : PySem.W.keepIn K (.ref f10) = true)
    (a11 : PySem.W.nsIn K mainGlobals "is_pair" = some (some (.ref f11))) (l11 : K.lookup f11 = some ⟨oc11, od11, .func (PySem.W.fnOf "is_pair" "is_pair" (defArgs s_is_pair) (defBody s_is_pair) (defScope s_is_pair) .none kV11 dc11 pm11 an11 cd11 ct11), sl11⟩) (c11 : PySem.W.codeIn K cd11 "is_pair" = true) (k11 : PySem.W.keepIn K (.ref f11) = true)
    (r0 : PySem.W.nsIn K mainGlobals "Reader" = some (some (.ref C))) (r1 : PySem.W.plainGet K C Str.empty = true) (r2 : PySem.W.hasDictIn K C = true) (r3 : PySem.W.plainOver K C = true) (r4 : PySem.W.findIn K (.ref C) "__setattr__" = some (some (.builtin "object.__setattr__"))) (r5 : PySem.W.findIn K (.ref C) "line" = some none) (r6 : PySem.W.findIn K (.ref C) "spot" = some none) (r7 : PySem.W.findIn K (.ref C) "begun" = some none) (r8 : PySem.W.makesIn K C = true) (r9 : PySem.W.keepIn K (.ref C) = true)
    (ma0 : PySem.W.findIn K (.ref C) "__init__" = some (some (.ref m0))) (mf0 : PySem.W.isFn K (.ref m0) = true) (mk0 : PySem.W.keepIn K (.ref m0) = true) (ml0 : K.lookup m0 = some ⟨oc12, od12, .func (PySem.W.fnOf "__init__" "Reader.__init__" (defArgs s_Reader___init__) (defBody s_Reader___init__) (defScope s_Reader___init__) .none kV12 dc12 pm12 an12 cd12 ct12), sl12⟩) (mc0 : PySem.W.codeIn K cd12 "Reader.__init__" = true)
    (ma1 : PySem.W.findIn K (.ref C) "sign" = some (some (.ref m1))) (mf1 : PySem.W.isFn K (.ref m1) = true) (mk1 : PySem.W.keepIn K (.ref m1) = true) (ml1 : K.lookup m1 = some ⟨oc13, od13, .func (PySem.W.fnOf "sign" "Reader.sign" (defArgs s_Reader_sign) (defBody s_Reader_sign) (defScope s_Reader_sign) .none kV13 dc13 pm13 an13 cd13 ct13), sl13⟩) (mc1 : PySem.W.codeIn K cd13 "Reader.sign" = true)
    (ma2 : PySem.W.findIn K (.ref C) "demand" = some (some (.ref m2))) (mf2 : PySem.W.isFn K (.ref m2) = true) (mk2 : PySem.W.keepIn K (.ref m2) = true) (ml2 : K.lookup m2 = some ⟨oc14, od14, .func (PySem.W.fnOf "demand" "Reader.demand" (defArgs s_Reader_demand) (defBody s_Reader_demand) (defScope s_Reader_demand) .none kV14 dc14 pm14 an14 cd14 ct14), sl14⟩) (mc2 : PySem.W.codeIn K cd14 "Reader.demand" = true)
    (ma3 : PySem.W.findIn K (.ref C) "pass_by" = some (some (.ref m3))) (mf3 : PySem.W.isFn K (.ref m3) = true) (mk3 : PySem.W.keepIn K (.ref m3) = true) (ml3 : K.lookup m3 = some ⟨oc15, od15, .func (PySem.W.fnOf "pass_by" "Reader.pass_by" (defArgs s_Reader_pass_by) (defBody s_Reader_pass_by) (defScope s_Reader_pass_by) .none kV15 dc15 pm15 an15 cd15 ct15), sl15⟩) (mc3 : PySem.W.codeIn K cd15 "Reader.pass_by" = true)
    (ma4 : PySem.W.findIn K (.ref C) "number" = some (some (.ref m4))) (mf4 : PySem.W.isFn K (.ref m4) = true) (mk4 : PySem.W.keepIn K (.ref m4) = true) (ml4 : K.lookup m4 = some ⟨oc16, od16, .func (PySem.W.fnOf "number" "Reader.number" (defArgs s_Reader_number) (defBody s_Reader_number) (defScope s_Reader_number) .none kV16 dc16 pm16 an16 cd16 ct16), sl16⟩) (mc4 : PySem.W.codeIn K cd16 "Reader.number" = true)
    (ma5 : PySem.W.findIn K (.ref C) "leaf" = some (some (.ref m5))) (mf5 : PySem.W.isFn K (.ref m5) = true) (mk5 : PySem.W.keepIn K (.ref m5) = true) (ml5 : K.lookup m5 = some ⟨oc17, od17, .func (PySem.W.fnOf "leaf" "Reader.leaf" (defArgs s_Reader_leaf) (defBody s_Reader_leaf) (defScope s_Reader_leaf) .none kV17 dc17 pm17 an17 cd17 ct17), sl17⟩) (mc5 : PySem.W.codeIn K cd17 "Reader.leaf" = true)
    (ma6 : PySem.W.findIn K (.ref C) "ended" = some (some (.ref m6))) (mf6 : PySem.W.isFn K (.ref m6) = true) (mk6 : PySem.W.keepIn K (.ref m6) = true) (ml6 : K.lookup m6 = some ⟨oc18, od18, .func (PySem.W.fnOf "ended" "Reader.ended" (defArgs s_Reader_ended) (defBody s_Reader_ended) (defScope s_Reader_ended) .none kV18 dc18 pm18 an18 cd18 ct18), sl18⟩) (mc6 : PySem.W.codeIn K cd18 "Reader.ended" = true)
    (dPAIRS0 : PySem.W.nsIn K mainGlobals "PAIRS" = some (some (.ref aP))) (dPAIRS1 : K.lookup aP = some ⟨.type "dict", none, .dict #[⟨PyData.keyHash w.params "&", .str "&" tPAIRS0, .str "and" uPAIRS0⟩, ⟨PyData.keyHash w.params "|", .str "|" tPAIRS1, .str "or" uPAIRS1⟩] nP, #[]⟩) (dPAIRS2 : (aP == sysModules) = false)
    (dLOOKS0 : PySem.W.nsIn K mainGlobals "LOOKS" = some (some (.ref aL))) (dLOOKS1 : K.lookup aL = some ⟨.type "dict", none, .dict #[⟨PyData.keyHash w.params "A", .str "A" tLOOKS0, .str "all" uLOOKS0⟩, ⟨PyData.keyHash w.params "S", .str "S" tLOOKS1, .str "some" uLOOKS1⟩] nL, #[]⟩) (dLOOKS2 : (aL == sysModules) = false)
    (dV0 : PySem.W.nsIn K mainGlobals "LEAVES" = some (some (.ref aV))) (dV1 : K.lookup aV = some ⟨.type "dict", none, .dict #[⟨PyData.keyHash w.params "Y", .str "Y" tV0, .ref pY⟩, ⟨PyData.keyHash w.params "N", .str "N" tV1, .ref pN⟩] nV, #[]⟩) (dV2 : (aV == sysModules) = false)
    (dY1 : K.lookup pY = some ⟨ocY, ddY, .seq #[.str "yes" tY] nY, slY⟩) (dY2 : ocY = .type "tuple") (dN1 : K.lookup pN = some ⟨ocN, ddN, .seq #[.str "no" tN] nN, slN⟩) (dN2 : ocN = .type "tuple")
    (dF0 : PySem.W.nsIn K mainGlobals "FIGURES" = some (some (.ref aF))) (dF1 : K.lookup aF = some ⟨ocF, ddF, .seq #[.str "0" tF0, .str "1" tF1, .str "2" tF2, .str "3" tF3, .str "4" tF4, .str "5" tF5, .str "6" tF6, .str "7" tF7, .str "8" tF8, .str "9" tF9] nF, slF⟩) (dF2 : ocF = .type "tuple")
    (x0 : PySem.W.nsIn K mainGlobals "NetError" = some (some (.ref CE)))
    (x1 : PySem.W.nsIn K mainGlobals "NoWay" = some (some (.ref CW)))
    (x2 : PySem.W.nsIn K mainGlobals "NoStatement" = some (some (.ref CS)))
    (x3 : PySem.W.excIn K CE [.type "ValueError", .type "Exception", .type "BaseException", .type "object"] "ValueError.__new__" = true)
    (x4 : PySem.W.excIn K CW [.type "ValueError", .type "Exception", .type "BaseException", .type "object"] "ValueError.__new__" = true)
    (x5 : PySem.W.excIn K CS [.type "ValueError", .type "Exception", .type "BaseException", .type "object"] "ValueError.__new__" = true)
    (x6 : PySem.W.mroIn K CW (.ref CE) = some true)
    (x7 : PySem.W.mroIn K CS (.ref CE) = some true)
    (x8 : PySem.W.findIn K (.ref CW) "__getattribute__" = some (some (.builtin "BaseException.__getattribute__")))
    (x9 : PySem.W.findIn K (.ref CW) "__getattr__" = some none)
    (x10 : PySem.W.findIn K (.ref CW) "__class__" = some (some (.builtin "object.__class__")))
    (x11 : PySem.W.specialIn K (.builtin "object.__class__") "__get__" = some (some (.builtin "getset_descriptor.__get__")))
    (x12 : PySem.W.takesIn K (.builtin "object.__class__") = some true)
    (x13 : PySem.W.mroIn K CW (.type "object") = some true)
    (x14 : PySem.W.mroIn K CW (.type "BaseException") = some true)
    (x15 : PySem.W.hasDictIn K CW = true)
    (x16 : PySem.W.findIn K (.ref CS) "__getattribute__" = some (some (.builtin "BaseException.__getattribute__")))
    (x17 : PySem.W.findIn K (.ref CS) "__getattr__" = some none)
    (x18 : PySem.W.findIn K (.ref CS) "__class__" = some (some (.builtin "object.__class__")))
    (x19 : PySem.W.specialIn K (.builtin "object.__class__") "__get__" = some (some (.builtin "getset_descriptor.__get__")))
    (x20 : PySem.W.takesIn K (.builtin "object.__class__") = some true)
    (x21 : PySem.W.mroIn K CS (.type "object") = some true)
    (x22 : PySem.W.mroIn K CS (.type "BaseException") = some true)
    (x23 : PySem.W.hasDictIn K CS = true)
    (x24 : PySem.W.kitOne K (.ref CW) (.ref CW) = some true)
    (x25 : PySem.W.kitOne K (.ref CW) (.ref CS) = some false)
    (x26 : PySem.W.kitOne K (.ref CW) (.type "ValueError") = some true)
    (x27 : PySem.W.kitOne K (.ref CS) (.ref CW) = some false)
    (x28 : PySem.W.kitOne K (.ref CS) (.ref CS) = some true)
    (x29 : PySem.W.kitOne K (.ref CS) (.type "ValueError") = some true) :
    ∃ fd : FuncData, (∀ (s : Shared) (v : Value), BindsTo s fd ⟨[v], []⟩ [("_law_script", v)]) ∧ ∀ base : Heap, K.In base → base.Ns mainGlobals mg → FnOk l.prog w K mg base CX0 11 fa fd ["_law_script"] (spLaw K) := by
  have e := hfa.symm.trans (PySem.W.mg_of X G a0)
  cases e
  have BT : Bt mg := ⟨PySem.W.mg_none_of X G b0, PySem.W.mg_none_of X G b1, PySem.W.mg_none_of X G b2, PySem.W.mg_none_of X G b3, PySem.W.mg_none_of X G b4, PySem.W.mg_none_of X G b5, PySem.W.mg_none_of X G b6, PySem.W.mg_none_of X G b7, PySem.W.mg_none_of X G b8⟩
  have XS : Xs K mg CE CW CS := ⟨PySem.W.mg_of X G x0, PySem.W.mg_of X G x1, PySem.W.mg_of X G x2, x3, x4, x5, x6, x7, ⟨x8, x9, x10, x11, x12, x13, x14, x15⟩, ⟨x16, x17, x18, x19, x20, x21, x22, x23⟩, x24, x25, x26, x27, x28, x29⟩
  have n_ValueError := PySem.W.mg_none_of X G b9
  have D0 := df_mk X G p_law a0 l0 c0 k0 fun _ _ _ _ _ _ us hl => match us, hl with | [_], _ => rfl
  have D1 := df_mk X G p_L_asked a1 l1 c1 k1 fun _ _ _ _ _ _ us hl => match us, hl with | [_], _ => rfl
  have D2 := df_mk X G p_L_at a2 l2 c2 k2 fun _ _ _ _ _ _ us hl => match us, hl with | [_, _], _ => rfl
  have D3 := df_mk X G p_L_drawn_statement a3 l3 c3 k3 fun _ _ _ _ _ _ us hl => match us, hl with | [_, _], _ => rfl
  have D4 := df_mk X G p_L_line_of a4 l4 c4 k4 fun _ _ _ _ _ _ us hl => match us, hl with | [_], _ => rfl
  have D5 := df_mk X G p_L_room a5 l5 c5 k5 fun _ _ _ _ _ _ us hl => match us, hl with | [_, _, _], _ => rfl
  have D6 := df_mk X G p_L_well a6 l6 c6 k6 fun _ _ _ _ _ _ us hl => match us, hl with | [_], _ => rfl
  have D7 := df_mk X G p_L_base_tells a7 l7 c7 k7 fun _ _ _ _ _ _ us hl => match us, hl with | [_], _ => rfl
  have D8 := df_mk X G p_L_is_statement a8 l8 c8 k8 fun _ _ _ _ _ _ us hl => match us, hl with | [_], _ => rfl
  have D9 := df_mk X G p_L_whole a9 l9 c9 k9 fun _ _ _ _ _ _ us hl => match us, hl with | [_], _ => rfl
  have D10 := df_mk X G p_read a10 l10 c10 k10 fun _ _ _ _ _ _ us hl => match us, hl with | [_], _ => rfl
  have D11 := df_mk X G p_is_pair a11 l11 c11 k11 fun _ _ _ _ _ _ us hl => match us, hl with | [_], _ => rfl
  have F0 := fun_mk ml0 mc0 mk0
  have B0 := F0.binds (ps := p_Reader___init__) fun _ _ _ _ _ _ us hl => match us, hl with | [_, _], _ => rfl
  have M0 : Meth K C "__init__" m0 := ⟨ma0, mf0, mk0⟩
  have F1 := fun_mk ml1 mc1 mk1
  have B1 := F1.binds (ps := p_Reader_sign) fun _ _ _ _ _ _ us hl => match us, hl with | [_], _ => rfl
  have M1 : Meth K C "sign" m1 := ⟨ma1, mf1, mk1⟩
  have F2 := fun_mk ml2 mc2 mk2
  have B2 := F2.binds (ps := p_Reader_demand) fun _ _ _ _ _ _ us hl => match us, hl with | [_, _], _ => rfl
  have M2 : Meth K C "demand" m2 := ⟨ma2, mf2, mk2⟩
  have F3 := fun_mk ml3 mc3 mk3
  have B3 := F3.binds (ps := p_Reader_pass_by) fun _ _ _ _ _ _ us hl => match us, hl with | [_, _], _ => rfl
  have M3 : Meth K C "pass_by" m3 := ⟨ma3, mf3, mk3⟩
  have F4 := fun_mk ml4 mc4 mk4
  have B4 := F4.binds (ps := p_Reader_number) fun _ _ _ _ _ _ us hl => match us, hl with | [_], _ => rfl
  have M4 : Meth K C "number" m4 := ⟨ma4, mf4, mk4⟩
  have F5 := fun_mk ml5 mc5 mk5
  have B5 := F5.binds (ps := p_Reader_leaf) fun _ _ _ _ _ _ us hl => match us, hl with | [_], _ => rfl
  have M5 : Meth K C "leaf" m5 := ⟨ma5, mf5, mk5⟩
  have F6 := fun_mk ml6 mc6 mk6
  have B6 := F6.binds (ps := p_Reader_ended) fun _ _ _ _ _ _ us hl => match us, hl with | [_, _], _ => rfl
  have M6 : Meth K C "ended" m6 := ⟨ma6, mf6, mk6⟩
  have NT : RTx K C := ⟨⟨r1, r2, r3, r4⟩, r5, r6, r7⟩
  have hC := PySem.W.mg_of X G r0
  have MK : Mk K C m0 := ⟨r8, ma0, mf0, r9⟩
  have KPAIRS : KD K w.params aP (gOf lPairs) := KD.mk [("&", tPAIRS0, sv "and", .str "and" uPAIRS0), ("|", tPAIRS1, sv "or", .str "or" uPAIRS1)] dPAIRS2 dPAIRS1 (by intro e he; simp only [List.mem_cons, List.not_mem_nil, or_false] at he; rcases he with rfl | rfl <;> exact ⟨_, rfl⟩)
  have KLOOKS : KD K w.params aL (gOf lLooks) := KD.mk [("A", tLOOKS0, sv "all", .str "all" uLOOKS0), ("S", tLOOKS1, sv "some", .str "some" uLOOKS1)] dLOOKS2 dLOOKS1 (by intro e he; simp only [List.mem_cons, List.not_mem_nil, or_false] at he; rcases he with rfl | rfl <;> exact ⟨_, rfl⟩)
  have KV : KD K w.params aV (gOf (lLeaves pY pN)) := KD.mk [("Y", tV0, .ref pY, .ref pY), ("N", tV1, .ref pN, .ref pN)] dV2 dV1 (by intro e he; simp only [List.mem_cons, List.not_mem_nil, or_false] at he; rcases he with rfl | rfl <;> rfl)
  have KY : KTup K pY [sv "yes"] := ktup_mk (us := [.str "yes" tY]) dY1 dY2 (by show 1 ≤ sizeLine; decide) (.cons ⟨_, rfl⟩ .nil)
  have KN : KTup K pN [sv "no"] := ktup_mk (us := [.str "no" tN]) dN1 dN2 (by show 1 ≤ sizeLine; decide) (.cons ⟨_, rfl⟩ .nil)
  have KF : KTup K aF figV := ktup_mk (us := [.str "0" tF0, .str "1" tF1, .str "2" tF2, .str "3" tF3, .str "4" tF4, .str "5" tF5, .str "6" tF6, .str "7" tF7, .str "8" tF8, .str "9" tF9]) dF1 dF2 (by show 10 ≤ sizeLine; decide) (.cons ⟨_, rfl⟩ (.cons ⟨_, rfl⟩ (.cons ⟨_, rfl⟩ (.cons ⟨_, rfl⟩ (.cons ⟨_, rfl⟩ (.cons ⟨_, rfl⟩ (.cons ⟨_, rfl⟩ (.cons ⟨_, rfl⟩ (.cons ⟨_, rfl⟩ (.cons ⟨_, rfl⟩ (.nil)))))))))))
  refine ⟨PySem.W.fnOf "law" "law" (defArgs s_law) (defBody s_law) (defScope s_law) .none kV0 dc0 pm0 an0 cd0 ct0, fun s v => .of_eq rfl, fun base _ _ => ?_⟩
  have g_sign : FnOk l.prog w K mg base CX0 1 _ _ p_Reader_sign (spSign C) := ok_sign F1 NT
  have g_demand : FnOk l.prog w K mg base (CXe l.prog w) 1 _ _ p_Reader_demand (spDem C CS) := ok_dem F2 NT XS
  have g_pass : FnOk l.prog w K mg base (CXe l.prog w) 2 _ _ p_Reader_pass_by (spPq C CS) := ok_pq F3 NT M1 B1 g_sign M2 B2 g_demand
  have g_num : FnOk l.prog w K mg base (CXe l.prog w) 2 _ _ p_Reader_number (spNq C CS) := ok_nq BT F4 NT ⟨PySem.W.mg_of X G dF0⟩ KF M1 B1 g_sign M2 B2 g_demand
  have g_leaf : FnOk l.prog w K mg base (CXe l.prog w) 3 _ _ p_Reader_leaf (spLq K C CS) := ok_lq F5 NT ⟨PySem.W.mg_of X G dLOOKS0⟩ KLOOKS ⟨PySem.W.mg_of X G dV0⟩ KV KY KN M1 B1 g_sign M4 B4 g_num M3 B3 g_pass
  have g_ended : FnOk l.prog w K mg base (CXe l.prog w) 3 _ _ p_Reader_ended (spEq K C CS) := ok_eq BT F6 NT ⟨PySem.W.mg_of X G dPAIRS0⟩ KPAIRS D11 M1 B1 g_sign M2 B2 g_demand M3 B3 g_pass
  have g_read : FnOk l.prog w K mg base (CXe l.prog w) 4 _ _ p_read (spRq K CS) := ok_rq D10 NT hC MK B0 (ok_init F0 NT) M1 B1 g_sign M2 B2 g_demand M5 B5 g_leaf M6 B6 g_ended
  exact (ok_law BT XS D10 g_read D1 (ok_asked BT D1 D2 (ok_at BT D2) D3 (ok_draw BT D3) D4 (ok_line BT D4) D5 (ok_room BT D5)) D6 (ok_well BT D6) D7 (ok_tell BT n_ValueError XS D10 g_read D7) D8 (ok_isSt BT D9 D8) D4 (ok_line BT D4) D0).mono (by decide)
theorem walk {l : PySem.W.OpenLaw} {q : Program} {loose : List Str} {XP : (Str → Option Value) → Heap → Prop} {YP : World → Heap → Prop} {d : DefRec} {K : Params → PySem.W.Frag} (hn : l.most = some 63) (hdf : d.params.defaults = [])
    (hY : ∀ (w : World) (h : Heap), YP w h → (K w.params).In h)
    (F : ∀ (w : World) (mg : Str → Option Value) (fa : Addr) (h : Heap), (K w.params).In h → h.Ns mainGlobals mg → mg d.name = some (.ref fa) →
      ∃ fd : FuncData, (∀ (s : Shared) (u : Value), BindsTo s fd ⟨[u], []⟩ [("_law_script", u)]) ∧ ∀ base : Heap, (K w.params).In base → base.Ns mainGlobals mg → FnOk l.prog w (K w.params) mg base CX0 11 fa fd ["_law_script"] (spLaw (K w.params))) :
    PySem.W.WalkO q loose XP YP l.row.toRowW d [] (fun f vs => PySem.call f vs) :=
  L2.walk_of (n := 63) (k := 11) (x := "_law_script") (CX := fun _ => CX0) (sp := fun w => spLaw (K w.params)) hn (by decide) hdf ⟨rfl, by decide, by decide⟩ hY F (fun _ _ a ns hl _ hS => ⟨a, ns, rfl, hS, hl, fun _ => rfl⟩) fun _ _ _ _ _ z => z
end CN
open PySem PySem.W PyProof.Rows
set_option maxRecDepth 100000 in
set_option maxHeartbeats 0 in
theorem PySem.Challenge.cw_choicenet_k11_lines_read_or_refused_holds : PySem.Challenge.rw_choicenet_k11_lines_read_or_refused.Holds := by
  w_on; o_law; k_head; (case hw => w_witness2)
  k_fill
  refine CN.walk (l := PySem.Challenge.rw_choicenet_k11_lines_read_or_refused) rfl rfl (fun w h Y => PySem.W.kIn_of Y) ?F
  case F =>
    intro w mg fa h KX G hmg
    refine' CN.all_mk KX G hmg ?b0 ?b1 ?b2 ?b3 ?b4 ?b5 ?b6 ?b7 ?b8 ?b9 ?a0 ?l0 ?c0 ?k0 ?a1 ?l1 ?c1 ?k1 ?a2 ?l2 ?c2 ?k2 ?a3 ?l3 ?c3 ?k3 ?a4 ?l4 ?c4 ?k4 ?a5 ?l5 ?c5 ?k5 ?a6 ?l6 ?c6 ?k6 ?a7 ?l7 ?c7 ?k7 ?a8 ?l8 ?c8 ?k8 ?a9 ?l9 ?c9 ?k9 ?a10 ?l10 ?c10 ?k10 ?a11 ?l11 ?c11 ?k11 ?r0 ?r1 ?r2 ?r3 ?r4 ?r5 ?r6 ?r7 ?r8 ?r9 ?ma0 ?mf0 ?mk0 ?ml0 ?mc0 ?ma1 ?mf1 ?mk1 ?ml1 ?mc1 ?ma2 ?mf2 ?mk2 ?ml2 ?mc2 ?ma3 ?mf3 ?mk3 ?ml3 ?mc3 ?ma4 ?mf4 ?mk4 ?ml4 ?mc4 ?ma5 ?mf5 ?mk5 ?ml5 ?mc5 ?ma6 ?mf6 ?mk6 ?ml6 ?mc6 ?dPAIRS0 ?dPAIRS1 ?dPAIRS2 ?dLOOKS0 ?dLOOKS1 ?dLOOKS2 ?dV0 ?dV1 ?dV2 ?dY1 ?dY2 ?dN1 ?dN2 ?dF0 ?dF1 ?dF2 ?x0 ?x1 ?x2 ?x3 ?x4 ?x5 ?x6 ?x7 ?x8 ?x9 ?x10 ?x11 ?x12 ?x13 ?x14 ?x15 ?x16 ?x17 ?x18 ?x19 ?x20 ?x21 ?x22 ?x23 ?x24 ?x25 ?x26 ?x27 ?x28 ?x29
    (case b0 => k_is)
    (case b1 => k_is)
    (case b2 => k_is)
    (case b3 => k_is)
    (case b4 => k_is)
    (case b5 => k_is)
    (case b6 => k_is)
    (case b7 => k_is)
    (case b8 => k_is)
    (case b9 => k_is)
    (case a0 => k_is)
    (case l0 => k_is)
    (case c0 => k_is)
    (case k0 => k_is)
    (case a1 => k_is)
    (case l1 => k_is)
    (case c1 => k_is)
    (case k1 => k_is)
    (case a2 => k_is)
    (case l2 => k_is)
    (case c2 => k_is)
    (case k2 => k_is)
    (case a3 => k_is)
    (case l3 => k_is)
    (case c3 => k_is)
    (case k3 => k_is)
    (case a4 => k_is)
    (case l4 => k_is)
    (case c4 => k_is)
    (case k4 => k_is)
    (case a5 => k_is)
    (case l5 => k_is)
    (case c5 => k_is)
    (case k5 => k_is)
    (case a6 => k_is)
    (case l6 => k_is)
    (case c6 => k_is)
    (case k6 => k_is)
    (case a7 => k_is)
    (case l7 => k_is)
    (case c7 => k_is)
    (case k7 => k_is)
    (case a8 => k_is)
    (case l8 => k_is)
    (case c8 => k_is)
    (case k8 => k_is)
    (case a9 => k_is)
    (case l9 => k_is)
    (case c9 => k_is)
    (case k9 => k_is)
    (case a10 => k_is)
    (case l10 => k_is)
    (case c10 => k_is)
    (case k10 => k_is)
    (case a11 => k_is)
    (case l11 => k_is)
    (case c11 => k_is)
    (case k11 => k_is)
    (case r0 => k_is)
    (case r1 => k_is)
    (case r2 => k_is)
    (case r3 => k_is)
    (case r4 => k_is)
    (case r5 => k_is)
    (case r6 => k_is)
    (case r7 => k_is)
    (case r8 => k_is)
    (case r9 => k_is)
    (case ma0 => k_is)
    (case mf0 => k_is)
    (case mk0 => k_is)
    (case ml0 => k_is)
    (case mc0 => k_is)
    (case ma1 => k_is)
    (case mf1 => k_is)
    (case mk1 => k_is)
    (case ml1 => k_is)
    (case mc1 => k_is)
    (case ma2 => k_is)
    (case mf2 => k_is)
    (case mk2 => k_is)
    (case ml2 => k_is)
    (case mc2 => k_is)
    (case ma3 => k_is)
    (case mf3 => k_is)
    (case mk3 => k_is)
    (case ml3 => k_is)
    (case mc3 => k_is)
    (case ma4 => k_is)
    (case mf4 => k_is)
    (case mk4 => k_is)
    (case ml4 => k_is)
    (case mc4 => k_is)
    (case ma5 => k_is)
    (case mf5 => k_is)
    (case mk5 => k_is)
    (case ml5 => k_is)
    (case mc5 => k_is)
    (case ma6 => k_is)
    (case mf6 => k_is)
    (case mk6 => k_is)
    (case ml6 => k_is)
    (case mc6 => k_is)
    (case dPAIRS0 => k_is)
    (case dPAIRS1 => k_is)
    (case dPAIRS2 => rfl)
    (case dLOOKS0 => k_is)
    (case dLOOKS1 => k_is)
    (case dLOOKS2 => rfl)
    (case dV0 => k_is)
    (case dV1 => k_is)
    (case dV2 => rfl)
    (case dY1 => k_is)
    (case dY2 => rfl)
    (case dN1 => k_is)
    (case dN2 => rfl)
    (case dF0 => k_is)
    (case dF1 => k_is)
    (case dF2 => rfl)
    (case x0 => k_is)
    (case x1 => k_is)
    (case x2 => k_is)
    (case x3 => kernel_rfl)
    (case x4 => kernel_rfl)
    (case x5 => kernel_rfl)
    (case x6 => k_is)
    (case x7 => k_is)
    (case x8 => k_is)
    (case x9 => k_is)
    (case x10 => k_is)
    (case x11 => k_is)
    (case x12 => k_is)
    (case x13 => k_is)
    (case x14 => k_is)
    (case x15 => k_is)
    (case x16 => k_is)
    (case x17 => k_is)
    (case x18 => k_is)
    (case x19 => k_is)
    (case x20 => k_is)
    (case x21 => k_is)
    (case x22 => k_is)
    (case x23 => k_is)
    (case x24 => kernel_rfl)
    (case x25 => kernel_rfl)
    (case x26 => kernel_rfl)
    (case x27 => kernel_rfl)
    (case x28 => kernel_rfl)
    (case x29 => kernel_rfl)
end
