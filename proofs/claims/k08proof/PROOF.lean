import PyProof.Rows.All
import Wide.All
import OpenK.AllK
import Wide.FinOn
import Lean
import PyProof.EqAt
import PyProof.EqKinds
import PyProof.TupleCall
import PyProof.Lay0
import KE.KIntText
import OpenK.KTop
import KE.KNestM
import KE.KRevIter
import KE.LcSums
import PyProof.SetKind
import PyProof.Rows.SetFrom
import PyProof.DictWalks
import PyProof.FactsAll.set
import PyProof.CollectWalk
import PyProof.Rows.SortShell
import KE.KDictSum
import PyProof.P3In
import PySem.Challenge.RW_choicenet_k08_whole_known_numbers
set_option hygiene false in
local macro_rules | `(tactic| simp only [rdA]) => `(tactic| simp only [rd_ret, rd_retN, rd_drop, rd_asg, rd_name, rd_next, rd_cont, rd_break, rd_never, rd_var, rd_c, rd_op, rd_un, rd_rI0, rd_rI, rd_rU, rd_eqI, rd_eqS, rd_neI, rd_neS, rd_test, rd_tB, rd_and, rd_or, rd_not, rd_andV, rd_orV, rd_notV, rd_ife, rd_nil, rd_cons, rd_tup, rd_lst, rd_call, rd_callL, rd_cb, rd_bm, rd_bm0, rd_sl, rd_nopart, rd_part, rd_exbl, rd_exint, rd_exsome, rd_tyL, rd_app, rd_pop, rd_ins0, rd_ext, rd_rev, rd_cat, rd_ixT, rd_ixL, rd_slL, rd_inS, rd_dispC, kvC, rd_fldC, rd_dget, rd_din, rd_dnotin, rd_dput, rd_meth, rd_dget2, cx_K, CDiv, L2.start, cx_K2, List.map_cons, List.map_nil, List.length_cons, List.length_nil, Nat.reduceAdd, Nat.reduceSub, List.replicate_succ, List.replicate_zero, List.cons_append, List.nil_append, List.append_nil, List.getElem?_cons_zero, List.getElem?_cons_succ, List.set_cons_zero, List.set_cons_succ, V.ref.injEq, V.int.injEq, V.str.injEq, V.bl.injEq, List.cons.injEq, Option.some.injEq, and_true, true_and, exists_eq_left, exists_eq_left', exists_and_left, exists_eq', Nat.zero_add, if_true, if_false, Bool.false_eq_true, V.ty.injEq, and_assoc, Int.zero_add, Int.reduceLT, Int.reduceLE, Nat.reduceLeDiff, Int.reduceNeg, reduceCtorEq, false_and, exists_false, false_or, or_false, rd_s0, rd_s1, rd_s2, rd_s3, rd_s4, rd_s5, rd_s6, rd_s7, rd_s8, rd_s9])
set_option hygiene false in
local macro_rules | `(tactic| simp only [rdA, $xs,*]) => `(tactic| simp only [$xs,*, rd_ret, rd_retN, rd_drop, rd_asg, rd_name, rd_next, rd_cont, rd_break, rd_never, rd_var, rd_c, rd_op, rd_un, rd_rI0, rd_rI, rd_rU, rd_eqI, rd_eqS, rd_neI, rd_neS, rd_test, rd_tB, rd_and, rd_or, rd_not, rd_andV, rd_orV, rd_notV, rd_ife, rd_nil, rd_cons, rd_tup, rd_lst, rd_call, rd_callL, rd_cb, rd_bm, rd_bm0, rd_sl, rd_nopart, rd_part, rd_exbl, rd_exint, rd_exsome, rd_tyL, rd_app, rd_pop, rd_ins0, rd_ext, rd_rev, rd_cat, rd_ixT, rd_ixL, rd_slL, rd_inS, rd_dispC, kvC, rd_fldC, rd_dget, rd_din, rd_dnotin, rd_dput, rd_meth, rd_dget2, cx_K, CDiv, L2.start, cx_K2, List.map_cons, List.map_nil, List.length_cons, List.length_nil, Nat.reduceAdd, Nat.reduceSub, List.replicate_succ, List.replicate_zero, List.cons_append, List.nil_append, List.append_nil, List.getElem?_cons_zero, List.getElem?_cons_succ, List.set_cons_zero, List.set_cons_succ, V.ref.injEq, V.int.injEq, V.str.injEq, V.bl.injEq, List.cons.injEq, Option.some.injEq, and_true, true_and, exists_eq_left, exists_eq_left', exists_and_left, exists_eq', Nat.zero_add, if_true, if_false, Bool.false_eq_true, V.ty.injEq, and_assoc, Int.zero_add, Int.reduceLT, Int.reduceLE, Nat.reduceLeDiff, Int.reduceNeg, reduceCtorEq, false_and, exists_false, false_or, or_false, rd_s0, rd_s1, rd_s2, rd_s3, rd_s4, rd_s5, rd_s6, rd_s7, rd_s8, rd_s9])
section
set_option Elab.async false
set_option linter.all false
set_option maxRecDepth 100000
namespace L2
open PySem PySem.Spec PyProof.Rows
noncomputable abbrev Key := Sum Int Str
noncomputable def keyIs : Key → Value → Bool
  | .inl k, v => Value.isInt k v
  | .inr x, v => Value.isStrOf x v
noncomputable def keyH (w : World) : Key → Int
  | .inl k => hashInt k
  | .inr x => hashStr w x
theorem keyIs_shape : ∀ {k : Key} {v : Value}, keyIs k v = true → (∃ i t, k = Sum.inl i ∧ v = Value.int i t) ∨ (∃ x t, k = Sum.inr x ∧ v = Value.str x t)
  | .inl i, v, h => by
    obtain ⟨t, e⟩ := Value.isInt_shape (k := i) (v := v) h
    exact .inl ⟨i, t, rfl, e⟩
  | .inr x, v, h => by
    obtain ⟨t, e⟩ := Value.isStrOf_shape (x := x) (v := v) h
    exact .inr ⟨x, t, rfl, e⟩
theorem keyIs_int (i : Int) (t : Tok) : keyIs (.inl i) (.int i t) = true := by simp [keyIs, Value.isInt]
theorem keyIs_str (x : Str) (t : Tok) : keyIs (.inr x) (.str x t) = true := by simp [keyIs, Value.isStrOf]
theorem key_ll (a b : Int) : decide ((Sum.inl a : Key) = Sum.inl b) = (a == b) := by
  by_cases e : a = b
  · subst e; simp
  · have h : ¬ (Sum.inl a : Key) = Sum.inl b := fun q => e (Sum.inl.inj q)
    rw [decide_eq_false h]
    exact (beq_eq_false_iff_ne.mpr e).symm
theorem key_rr (a b : Str) : decide ((Sum.inr a : Key) = Sum.inr b) = decide (a = b) := by
  by_cases e : a = b
  · subst e; simp
  · have h : ¬ (Sum.inr a : Key) = Sum.inr b := fun q => e (Sum.inr.inj q)
    rw [decide_eq_false h, decide_eq_false e]
theorem key_lr (a : Int) (b : Str) : decide ((Sum.inl a : Key) = Sum.inr b) = false := decide_eq_false (fun q => nomatch q)
theorem key_rl (a : Str) (b : Int) : decide ((Sum.inr a : Key) = Sum.inl b) = false := decide_eq_false (fun q => nomatch q)
noncomputable def mixKind (prog : Program) (w : World) : PySem.KeyKind prog w Key where
  is := keyIs
  hash := keyH w
  inj := fun v a b ha hb => by
    rcases keyIs_shape ha with ⟨i, t, rfl, rfl⟩ | ⟨x, t, rfl, rfl⟩
    · rcases keyIs_shape hb with ⟨j, u, rfl, e⟩ | ⟨y, u, rfl, e⟩
      · injection e with e1 _; rw [e1]
      · exact nomatch e
    · rcases keyIs_shape hb with ⟨j, u, rfl, e⟩ | ⟨y, u, rfl, e⟩
      · exact nomatch e
      · injection e with e1 _; rw [e1]
  byValue := fun k v h => by
    rcases keyIs_shape h with ⟨i, t, rfl, rfl⟩ | ⟨x, t, rfl, rfl⟩ <;> rfl
  pyHash := fun hv h => by
    rcases keyIs_shape hv with ⟨i, t, rfl, rfl⟩ | ⟨x, t, rfl, rfl⟩
    · exact wpAny_pyHash_int h
    · exact wpAny_pyHash_str h
  eqBool := fun hu hv h => by
    rcases keyIs_shape hu with ⟨i, t, rfl, rfl⟩ | ⟨x, t, rfl, rfl⟩
    · rcases keyIs_shape hv with ⟨j, u, rfl, rfl⟩ | ⟨y, u, rfl, rfl⟩
      · rw [key_ll] at h; exact wpAny_eqBool_int h
      · rw [key_lr] at h; exact SeqAt.EqAt.int_str i t y u _ _ _ _ h
    · rcases keyIs_shape hv with ⟨j, u, rfl, rfl⟩ | ⟨y, u, rfl, rfl⟩
      · rw [key_rl] at h; exact SeqAt.EqAt.str_int x t j u _ _ _ _ h
      · rw [key_rr] at h; exact wpAny_eqBool_str h
  «strs» := fun k x t v h => by
    rcases keyIs_shape h with ⟨i, u, rfl, e⟩ | ⟨y, u, rfl, e⟩
    · exact nomatch e
    · injection e with e1 _
      subst e1
      cases v <;> rfl
noncomputable def bInt (b : Bool) : Int := if b = true then 1 else 0
noncomputable def keyB : Key → Value → Bool
  | k, .bool b => decide (k = Sum.inl (bInt b))
  | k, v => keyIs k v
theorem keyB_shape {k : Key} {v : Value} (h : keyB k v = true) : (∃ i t, k = Sum.inl i ∧ v = Value.int i t) ∨ (∃ x t, k = Sum.inr x ∧ v = Value.str x t) ∨ ∃ b, k = Sum.inl (bInt b) ∧ v = Value.bool b := by
  by_cases hb : ∃ b, v = .bool b
  · obtain ⟨b, rfl⟩ := hb
    exact .inr (.inr ⟨b, of_decide_eq_true h, rfl⟩)
  · have e : keyB k v = keyIs k v := by
      cases v <;> first | rfl | exact absurd ⟨_, rfl⟩ hb
    rw [e] at h
    rcases keyIs_shape h with h | h
    · exact .inl h
    · exact .inr (.inl h)
theorem pyHash_bl {prog : Program} {w : World} {A : Around} {E : Value → Shared → Prop} {s : Shared} {b : Bool} {Q : Int → Shared → Prop} (h : Q (hashInt (bInt b)) { s with toks := s.toks + 1 }) :
    wpAny (model prog w) A (PySem.pyHash (.bool b)) Q E s := by
  refine PySem.W.pyHash_slot (v := .bool b) (T := "bool") rfl F.slot_bool_hash entry_int_hash (args_int_hash _) (beq_builtin_none _) (.inl rfl) ?_
  cases b
  · exact (show wpAny _ _ (do ret (← mkInt 0)) _ _ s from wpAny_bind (wpAny_mkInt (wpAny_pure ⟨_, _, rfl, h⟩)))
  · exact (show wpAny _ _ (do ret (← mkInt 1)) _ _ s from wpAny_bind (wpAny_mkInt (wpAny_pure ⟨_, _, rfl, h⟩)))
theorem bInt_beq (a b : Bool) : (bInt a == bInt b) = (a == b) := by cases a <;> cases b <;> rfl
noncomputable def mixB (prog : Program) (w : World) : PySem.KeyKind prog w Key where
  is := keyB
  hash := keyH w
  inj := fun v a b ha hb => by
    rcases keyB_shape ha with ⟨i, t, rfl, rfl⟩ | ⟨x, t, rfl, rfl⟩ | ⟨c, rfl, rfl⟩
    · rcases keyB_shape hb with ⟨j, u, rfl, e⟩ | ⟨y, u, rfl, e⟩ | ⟨d, rfl, e⟩
      · injection e with e1 _; rw [e1]
      · exact nomatch e
      · exact nomatch e
    · rcases keyB_shape hb with ⟨j, u, rfl, e⟩ | ⟨y, u, rfl, e⟩ | ⟨d, rfl, e⟩
      · exact nomatch e
      · injection e with e1 _; rw [e1]
      · exact nomatch e
    · rcases keyB_shape hb with ⟨j, u, rfl, e⟩ | ⟨y, u, rfl, e⟩ | ⟨d, rfl, e⟩
      · exact nomatch e
      · exact nomatch e
      · injection e with e1; rw [e1]
  byValue := fun k v h => by
    rcases keyB_shape h with ⟨i, t, rfl, rfl⟩ | ⟨x, t, rfl, rfl⟩ | ⟨b, rfl, rfl⟩ <;> rfl
  pyHash := fun hv h => by
    rcases keyB_shape hv with ⟨i, t, rfl, rfl⟩ | ⟨x, t, rfl, rfl⟩ | ⟨b, rfl, rfl⟩
    · exact wpAny_pyHash_int h
    · exact wpAny_pyHash_str h
    · exact pyHash_bl h
  eqBool := fun hu hv h => by
    rcases keyB_shape hu with ⟨i, t, rfl, rfl⟩ | ⟨x, t, rfl, rfl⟩ | ⟨b, rfl, rfl⟩
    · rcases keyB_shape hv with ⟨j, u, rfl, rfl⟩ | ⟨y, u, rfl, rfl⟩ | ⟨c, rfl, rfl⟩
      · rw [key_ll] at h; exact wpAny_eqBool_int h
      · rw [key_lr] at h; exact SeqAt.EqAt.int_str i t y u _ _ _ _ h
      · rw [key_ll] at h; exact SeqAt.EqAt.int_bool i t c _ _ _ _ h
    · rcases keyB_shape hv with ⟨j, u, rfl, rfl⟩ | ⟨y, u, rfl, rfl⟩ | ⟨c, rfl, rfl⟩
      · rw [key_rl] at h; exact SeqAt.EqAt.str_int x t j u _ _ _ _ h
      · rw [key_rr] at h; exact wpAny_eqBool_str h
      · rw [key_rl] at h; exact SeqAt.EqAt.str_bool x t c _ _ _ _ h
    · rcases keyB_shape hv with ⟨j, u, rfl, rfl⟩ | ⟨y, u, rfl, rfl⟩ | ⟨c, rfl, rfl⟩
      · rw [key_ll] at h; exact SeqAt.EqAt.bool_int b j u _ _ _ _ h
      · rw [key_lr] at h; exact SeqAt.EqAt.bool_str b y u _ _ _ _ h
      · rw [key_ll, bInt_beq] at h; exact SeqAt.EqAt.bool_bool b c _ _ _ _ h
  «strs» := fun k x t v h => by
    rcases keyB_shape h with ⟨i, u, rfl, e⟩ | ⟨y, u, rfl, e⟩ | ⟨b, rfl, e⟩
    · exact nomatch e
    · injection e with e1 _
      subst e1
      cases v <;> rfl
    · exact nomatch e
theorem mixKind_int (prog : Program) (w : World) (i : Int) (t : Tok) : (mixKind prog w).is (.inl i) (.int i t) = true := keyIs_int i t
theorem mixKind_str (prog : Program) (w : World) (x : Str) (t : Tok) : (mixKind prog w).is (.inr x) (.str x t) = true := keyIs_str x t
end L2
namespace L2
open PySem PySem.Spec PyProof.Rows
inductive V where
  | non | bl (b : Bool) | int (i : Int) | str (x : Str) | byt (b : Array UInt8) | flt (b : UInt64) | ref (a : Addr) | ty (n : String)
  deriving DecidableEq
noncomputable def RelV : V → Value → Prop
  | .non, u => u = Value.none
  | .bl b, u => u = Value.bool b
  | .int i, u => ∃ t, u = Value.int i t
  | .str x, u => ∃ t, u = Value.str x t
  | .byt b, u => ∃ t, u = Value.bytes b t
  | .flt b, u => ∃ t, u = Value.float b t
  | .ref a, u => u = Value.ref a
  | .ty n, u => u = Value.type n
noncomputable abbrev Vals : List V → List Value → Prop := Paired RelV
theorem Vals.length {xs : List V} {us : List Value} (r : Vals xs us) : xs.length = us.length := Paired.length r
theorem Vals.get : ∀ {xs : List V} {us : List Value} {i : Nat} {x : V}, Vals xs us → xs[i]? = some x → ∃ u, us[i]? = some u ∧ RelV x u
  | _, _, _, _, .nil, e => by simp at e
  | _, _, 0, _, .cons r _, e => by simp at e; subst e; exact ⟨_, rfl, r⟩
  | _, _, i + 1, x, .cons _ t, e => by
    obtain ⟨u, h1, h2⟩ := Vals.get (i := i) (x := x) t (by simpa using e)
    exact ⟨u, by simpa using h1, h2⟩
theorem Vals.set {x : V} {u : Value} (r : RelV x u) : ∀ {xs : List V} {us : List Value} (i : Nat), Vals xs us → Vals (xs.set i x) (us.set i u)
  | _, _, _, .nil => .nil
  | _, _, 0, .cons _ t => .cons r t
  | _, _, i + 1, .cons q t => .cons q (Vals.set r i t)
theorem Vals.append : ∀ {xs ys : List V} {us ws : List Value}, Vals xs us → Vals ys ws → Vals (xs ++ ys) (us ++ ws)
  | _, _, _, _, .nil, s => s
  | _, _, _, _, .cons r t, s => .cons r (Vals.append t s)
theorem Vals.take : ∀ {xs : List V} {us : List Value} (n : Nat), Vals xs us → Vals (xs.take n) (us.take n)
  | _, _, 0, _ => .nil
  | _, _, _ + 1, .nil => .nil
  | _, _, n + 1, .cons r t => .cons r (Vals.take n t)
theorem Vals.drop : ∀ {xs : List V} {us : List Value} (n : Nat), Vals xs us → Vals (xs.drop n) (us.drop n)
  | _, _, 0, r => r
  | _, _, _ + 1, .nil => .nil
  | _, _, n + 1, .cons _ t => Vals.drop n t
noncomputable def RelO : Option V → Option Value → Prop
  | some v, some u => RelV v u
  | none, none => True
  | _, _ => False
noncomputable def KV {κ : Type} : List (κ × V) → List (κ × Value) → Prop := Paired fun (p : κ × V) (q : κ × Value) => p.1 = q.1 ∧ RelV p.2 q.2
noncomputable def kV : Key → V
  | .inl i => .int i
  | .inr x => .str x
noncomputable def kB (k : Key) (v : V) : Prop := v = kV k ∨ ∃ b, v = .bl b ∧ k = Sum.inl (bInt b)
theorem kB_all : ∀ ks : List Key, Paired kB ks (ks.map kV)
  | [] => .nil
  | k :: ks => .cons (.inl rfl) (kB_all ks)
inductive HO where
  | lst (xs : List V)
  | tup (xs : List V)
  | dK (kvs : List (Key × V)) | dT (kvs : List (List Key × V))
  | set (S : Int → Bool) (n : Nat)
  | ins (C dx : Addr) (fs : List (Str × V))
  | own (x : Addr)
  | xd (fs : List (Str × V))
  | met (f x : Addr)
  | rng (lo hi : Int)
  | frz (o : Obj) (u : HO)
  | tbl (ps : Array Value)
  | ext (φ : Heap → Prop)
noncomputable abbrev Hp := Addr → Option HO
noncomputable def upd (H : Hp) (a : Addr) (o : HO) : Hp := fun b => if b = a then some o else H b
theorem upd_same {H : Hp} {a : Addr} {o : HO} : upd H a o a = some o := by unfold upd; rw [if_pos rfl]
theorem upd_ne {H : Hp} {a b : Addr} {o : HO} (h : b ≠ a) : upd H a o b = H b := by unfold upd; rw [if_neg h]
theorem upd_upd {H : Hp} {a : Addr} {o u : HO} : upd (upd H a o) a u = upd H a u := by
  funext b; unfold upd; split <;> rfl
theorem ne_of {H : Hp} {a b : Addr} {o u : HO} (h : H a = some o) (h' : H b = some u) (d : o ≠ u) : a ≠ b := by
  intro e; subst e; rw [h] at h'; exact d (Option.some.inj h')
theorem ne_of_none {H : Hp} {a b : Addr} {o : HO} (h : H a = some o) (h' : H b = none) : a ≠ b := by
  intro e; subst e; rw [h] at h'; cases h'
section
variable (P : Program) (w : World)
noncomputable def ObjOk (H : Hp) (h : Heap) (a : Addr) : HO → Prop
  | .lst xs => xs.length ≤ sizeLine ∧ ∃ (its : List Value) (n : Nat), Vals xs its ∧ h.get? a = some { cls := .type "list", data := .seq its.toArray n }
  | .tup xs => xs.length ≤ sizeLine ∧ ∃ its : List Value, Vals xs its ∧ IsTup h a its.toArray
  | .dK kvs => kvs.length ≤ sizeLine ∧ (a == sysModules) = false ∧ ∃ vs, KV kvs vs ∧ h.DictOf (mixKind P w) a vs
  | .dT kvs => kvs.length ≤ sizeLine ∧ (a == sysModules) = false ∧ ∃ xs : List (List Key × Addr × Value),
      Paired (fun (p : List Key × V) (q : List Key × Addr × Value) => p.1 = q.1 ∧ (∃ ys, H q.2.1 = some (.tup ys) ∧ Paired kB p.1 ys) ∧ RelV p.2 q.2.2) kvs xs ∧
      ∃ o es ep, h.get? a = some o ∧ o.ExactDict ∧ o.data = .dict es ep ∧ es.toList = xs.map (entryOfKey (tupleKind (mixB P w))) ∧ (xs.map (·.1)).Nodup
  | .set S n => h.SetOf (intKind P w) a S n
  | .ins C dx fs => H dx = some (.own a) ∧ fs.length ≤ 1000 ∧ dx ≠ a ∧ h.get? a = some (PySem.W.instObj C dx) ∧
      ∃ mA, h.Ns1 dx mA ∧ (∀ f, RelO (fs.lookup f) (mA f)) ∧ PySem.Within mA (fs.map (·.1))
  | .own _ => ∃ o, h.get? a = some o
  | .xd fs => ∃ mA, h.Ns1 a mA ∧ ∀ f, RelO (fs.lookup f) (mA f)
  | .rng lo hi => ∃ t u v, h.get? a = some { cls := .type "range", data := .fields #[.int lo t, .int hi u, .int 1 v] }
  | .frz o u => h.get? a = some o ∧ ObjOk H h a u
  | .tbl ps => h.get? a = some { cls := .none, data := .fields ps }
  | .met f x => h.get? a = some (PySem.W.methodObj (.ref f) (.ref x))
  | .ext φ => φ h ∧ (∃ o, h.get? a = some o) ∧ ∀ h1 h2 : Heap, φ h1 → (∀ o, h1.get? a = some o → h2.get? a = some o) → φ h2
noncomputable def HOk (H : Hp) (h : Heap) : Prop := ∀ a o, H a = some o → ObjOk P w H h a o
end
section
variable {P : Program} {w : World} {H H' : Hp} {h h' : Heap} {a : Addr} {o : HO}
theorem ObjOk.lt (x : ObjOk P w H h a o) : a < h.objs.size := by
  cases o with
  | lst xs => obtain ⟨_, _, _, _, e⟩ := x; exact Heap.lt_size e
  | tup xs => obtain ⟨_, _, _, p⟩ := x; exact p.lt
  | dK kvs => obtain ⟨_, _, _, _, o, _, _, e, _⟩ := x; exact Heap.lt_size e
  | dT kvs => obtain ⟨_, _, _, _, o, _, _, e, _⟩ := x; exact Heap.lt_size e
  | set S n => obtain ⟨o, _, _, _, e, _⟩ := x; exact Heap.lt_size e
  | ins C dx fs => obtain ⟨_, _, _, e, _⟩ := x; exact Heap.lt_size e
  | own y => obtain ⟨_, e⟩ := x; exact Heap.lt_size e
  | xd fs => obtain ⟨_, ⟨_, _, _, e, _⟩, _⟩ := x; exact Heap.lt_size e
  | rng lo hi => obtain ⟨_, _, _, e⟩ := x; exact Heap.lt_size e
  | frz ob u => obtain ⟨e, _⟩ := x; exact Heap.lt_size e
  | tbl ps => exact Heap.lt_size (show h.get? a = some _ from x)
  | met f y => exact Heap.lt_size (show h.get? a = some _ from x)
  | ext φ => obtain ⟨_, ⟨_, e⟩, _⟩ := x; exact Heap.lt_size e
theorem Paired.mapP {α β : Type} {F G : α → β → Prop} : ∀ {l₁ : List α} {l₂ : List β}, Paired F l₁ l₂ → (∀ a b, F a b → G a b) → Paired G l₁ l₂
  | _, _, .nil, _ => .nil
  | _, _, .cons r t, f => .cons (f _ _ r) (Paired.mapP t f)
theorem ObjOk.stay (x : ObjOk P w H h a o) (k : ∀ b u, (b = a ∨ H b = some (.own a)) → h.get? b = some u → h'.get? b = some u)
    (ho : ∀ b, H b = some (.own a) → H' b = some (.own a)) (ht : ∀ b xs, H b = some (.tup xs) → H' b = some (.tup xs)) : ObjOk P w H' h' a o := by
  induction o with
  | lst xs => obtain ⟨z, its, n, r, e⟩ := x; exact ⟨z, its, n, r, k _ _ (.inl rfl) e⟩
  | tup xs => obtain ⟨z, its, r, ob, e, c⟩ := x; exact ⟨z, its, r, ob, k _ _ (.inl rfl) e, c⟩
  | dK kvs => obtain ⟨z, y, vs, r, ob, es, ep, e, c⟩ := x; exact ⟨z, y, vs, r, ob, es, ep, k _ _ (.inl rfl) e, c⟩
  | dT kvs =>
    obtain ⟨z, y, xs, r, ob, es, ep, e, c⟩ := x
    exact ⟨z, y, xs, Paired.mapP r fun p q z => ⟨z.1, z.2.1.imp fun _ y => ⟨ht _ _ y.1, y.2⟩, z.2.2⟩, ob, es, ep, k _ _ (.inl rfl) e, c⟩
  | set S n => obtain ⟨ob, es, ep, t, e, c⟩ := x; exact ⟨ob, es, ep, t, k _ _ (.inl rfl) e, c⟩
  | ins C dx fs =>
    obtain ⟨d, z, ne, e, mA, ⟨od, es, ep, e2, c⟩, r⟩ := x
    exact ⟨ho _ d, z, ne, k _ _ (.inl rfl) e, mA, ⟨od, es, ep, k _ _ (.inr d) e2, c⟩, r⟩
  | own y => obtain ⟨ob, e⟩ := x; exact ⟨ob, k _ _ (.inl rfl) e⟩
  | xd fs => obtain ⟨mA, ⟨od, es, ep, e, c⟩, r⟩ := x; exact ⟨mA, ⟨od, es, ep, k _ _ (.inl rfl) e, c⟩, r⟩
  | rng lo hi => obtain ⟨t, u, v, e⟩ := x; exact ⟨t, u, v, k _ _ (.inl rfl) e⟩
  | frz ob u ih => obtain ⟨e, q⟩ := x; exact ⟨k _ _ (.inl rfl) e, ih q⟩
  | tbl ps =>
    have e : h.get? a = some { cls := .none, data := .fields ps } := x
    show h'.get? a = some { cls := .none, data := .fields ps }
    exact k a _ (.inl rfl) e
  | met f y =>
    have e : h.get? a = some (PySem.W.methodObj (.ref f) (.ref y)) := x
    show h'.get? a = some (PySem.W.methodObj (.ref f) (.ref y))
    exact k a _ (.inl rfl) e
  | ext φ => obtain ⟨p, ⟨o, e⟩, st⟩ := x; exact ⟨st _ _ p fun o q => k _ _ (.inl rfl) q, ⟨o, k _ _ (.inl rfl) e⟩, st⟩
theorem HOk.lt (x : HOk P w H h) (e : H a = some o) : a < h.objs.size := (x a o e).lt
theorem HOk.fresh (x : HOk P w H h) (e : h.objs.size ≤ a) : H a = none := by
  cases q : H a with
  | none => rfl
  | some u => exact absurd (Nat.lt_of_lt_of_le (x.lt q) e) (Nat.lt_irrefl _)
theorem HOk.kept (x : HOk P w H h) (k : ∀ b u, h.get? b = some u → h'.get? b = some u) : HOk P w H h' := fun a o e =>
  (x a o e).stay (fun b u _ q => k b u q) (fun _ q => q) fun _ _ q => q
theorem HOk.laid (x : HOk P w H h) (k : ∀ b u, h.get? b = some u → h'.get? b = some u) (hp : h.objs.size ≤ a) (new : ObjOk P w (upd H a o) h' a o) : HOk P w (upd H a o) h' := fun b u e => by
  have hn := x.fresh hp
  by_cases hb : b = a
  · subst hb; rw [upd_same] at e; cases e; exact new
  · rw [upd_ne hb] at e
    exact (x b u e).stay (fun c v _ q => k c v q) (fun c q => by rw [upd_ne (ne_of_none q hn)]; exact q) fun c xs q => by rw [upd_ne (ne_of_none q hn)]; exact q
end
noncomputable def Rd (H : Hp) (a : Addr) (u : HO) : Prop := H a = some u ∨ ∃ o, H a = some (.frz o u)
theorem Rd.ok {P : Program} {w : World} {H : Hp} {h : Heap} {a : Addr} {u : HO} (r : Rd H a u) (x : HOk P w H h) : ObjOk P w H h a u := by
  rcases r with r | ⟨o, r⟩
  · exact x a u r
  · obtain ⟨_, q⟩ := x a _ r
    exact q
noncomputable def Mut : Option HO → Prop
  | some (.lst _) => True
  | some (.dK _) => True
  | some (.dT _) => True
  | some (.set _ _) => True
  | some (.ins _ _ _) => True
  | some (.ext _) => True
  | _ => False
section
variable {P : Program} {w : World} {H : Hp} {h h' : Heap} {x e : Addr} {o' : HO}
theorem HOk.write (ok : HOk P w H h) (mu : Mut (H x)) (he : e = x ∨ H e = some (.own x)) (k : ∀ b u, b ≠ e → h.get? b = some u → h'.get? b = some u) (heo : ∃ u, h'.get? e = some u)
    (new : ObjOk P w (upd H x o') h' x o') : HOk P w (upd H x o') h' := fun b u q => by
  have nown : ∀ c y, H c = some (.own y) → c ≠ x := fun c y r z => by subst z; rw [r] at mu; exact mu
  have ntup : ∀ c xs, H c = some (.tup xs) → c ≠ x := fun c xs r z => by subst z; rw [r] at mu; exact mu
  by_cases hb : b = x
  · subst hb; rw [upd_same] at q; cases q; exact new
  · rw [upd_ne hb] at q
    by_cases hbe : b = e
    · have q' : H b = some (.own x) := by
        rcases he with z | z
        · exact absurd (hbe.trans z) hb
        · rw [hbe]; exact z
      rw [q] at q'; cases q'
      obtain ⟨v, hv⟩ := heo
      exact ⟨v, by rw [hbe]; exact hv⟩
    · refine (ok b u q).stay (fun c v hc r => k c v ?_ r) (fun c r => by rw [upd_ne (nown c b r)]; exact r) fun c xs r => by rw [upd_ne (ntup c xs r)]; exact r
      rcases hc with rfl | hc
      · exact hbe
      · rintro rfl
        rcases he with z | z
        · exact nown c b hc z
        · rw [hc] at z; cases z; exact hb rfl
end
structure Un (fs ex : List Addr) (H H' : Hp) (h h' : Heap) : Prop where
  keep : ∀ b o, h.get? b = some o → H b = none → b ∉ fs → b ∉ ex → h'.get? b = some o
  slot : ∀ b o, h.get? b = some o → H b = none → b ∈ fs → b ∉ ex → ∃ sl, h'.get? b = some { o with slots := sl }
  free : ∀ b o, h.get? b = some o → H b = none → b ∉ ex → H' b = none
  there : ∀ b o, h.get? b = some o → b ∉ ex → ∃ o', h'.get? b = some o'
  tups : ∀ b xs, H b = some (.tup xs) → H' b = some (.tup xs)
  frzs : ∀ b o u, H b = some (.frz o u) → H' b = some (.frz o u)
  tbls : ∀ b ps, H b = some (.tbl ps) → ∃ more, H' b = some (.tbl (ps ++ more))
section
variable {fs fs' ex ex' : List Addr} {H H1 H2 : Hp} {h h1 h2 h' : Heap} {a x e : Addr} {o : HO}
theorem Un.any (u : Un fs ex H H1 h h1) {b : Addr} {ob : Obj} (q : h.get? b = some ob) (n : H b = none) (hx : b ∉ ex) : ∃ sl, h1.get? b = some { ob with slots := sl } := by
  by_cases hb : b ∈ fs
  · exact u.slot b ob q n hb hx
  · exact ⟨ob.slots, u.keep b ob q n hb hx⟩
theorem Un.trans (a : Un fs ex H H1 h h1) (b : Un fs ex H1 H2 h1 h2) : Un fs ex H H2 h h2 where
  keep := fun c ob q n hc hx => b.keep c ob (a.keep c ob q n hc hx) (a.free c ob q n hx) hc hx
  slot := fun c ob q n hc hx => by
    obtain ⟨sl, e1⟩ := a.slot c ob q n hc hx
    obtain ⟨sl', e2⟩ := b.slot c _ e1 (a.free c ob q n hx) hc hx
    exact ⟨sl', e2⟩
  free := fun c ob q n hx => by
    obtain ⟨o', e1⟩ := a.there c ob q hx
    exact b.free c o' e1 (a.free c ob q n hx) hx
  there := fun c ob q hx => by
    obtain ⟨o', e1⟩ := a.there c ob q hx
    exact b.there c o' e1 hx
  tups := fun c xs q => b.tups c xs (a.tups c xs q)
  frzs := fun c ob xs q => b.frzs c ob xs (a.frzs c ob xs q)
  tbls := fun c ps q => by
    obtain ⟨m1, e1⟩ := a.tbls c ps q
    obtain ⟨m2, e2⟩ := b.tbls c _ e1
    exact ⟨m1 ++ m2, by rw [e2, Array.append_assoc]⟩
theorem Un.kept (k : ∀ b u, h.get? b = some u → h'.get? b = some u) : Un fs ex H H h h' :=
  ⟨fun b ob q _ _ _ => k b ob q, fun b ob q _ _ _ => ⟨ob.slots, k b ob q⟩, fun _ _ _ n _ => n, fun b ob q _ => ⟨ob, k b ob q⟩, fun _ _ q => q, fun _ _ _ q => q, fun _ ps q => ⟨#[], by rw [q]; simp⟩⟩
theorem Un.refl : Un fs ex H H h h := Un.kept fun _ _ q => q
theorem Un.laid (k : ∀ b u, h.get? b = some u → h'.get? b = some u) (hp : h.objs.size ≤ a) (hn : H a = none) : Un fs ex H (upd H a o) h h' where
  keep := fun b u q _ _ _ => k b u q
  slot := fun b u q _ _ _ => ⟨u.slots, k b u q⟩
  free := fun b u q n _ => by rw [upd_ne (Nat.ne_of_lt (Nat.lt_of_lt_of_le (Heap.lt_size q) hp))]; exact n
  there := fun b u q _ => ⟨u, k b u q⟩
  tups := fun b xs q => by rw [upd_ne (ne_of_none q hn)]; exact q
  frzs := fun b u xs q => by rw [upd_ne (ne_of_none q hn)]; exact q
  tbls := fun b ps q => ⟨#[], by rw [upd_ne (ne_of_none q hn), q]; simp⟩
theorem Un.write (mu : Mut (H x)) (he : e = x ∨ H e = some (.own x)) (k : ∀ b u, b ≠ e → h.get? b = some u → h'.get? b = some u) (heo : ∃ u, h'.get? e = some u) : Un fs ex H (upd H x o) h h' := by
  have hx : ∀ b, H b = none → b ≠ x := fun b n z => by subst z; rw [n] at mu; exact mu
  have hb : ∀ b, H b = none → b ≠ e := fun b n z => by
    subst z
    rcases he with r | r
    · exact hx b n r
    · rw [n] at r; cases r
  have hm : ∀ b u, H b = some u → ¬ Mut (some u) → b ≠ x := fun b u q nm z => by subst z; rw [q] at mu; exact nm mu
  refine ⟨fun b u q n _ _ => k b u (hb b n) q, fun b u q n _ _ => ⟨u.slots, k b u (hb b n) q⟩, fun b u q n _ => by rw [upd_ne (hx b n)]; exact n, fun b u q _ => ?_,
    fun b xs q => by rw [upd_ne (hm b _ q fun z => z)]; exact q, fun b u xs q => by rw [upd_ne (hm b _ q fun z => z)]; exact q, fun b ps q => ⟨#[], by rw [upd_ne (hm b _ q fun z => z), q]; simp⟩⟩
  by_cases hbe : b = e
  · subst hbe; exact heo
  · exact ⟨u, k b u hbe q⟩
end
noncomputable def trk (h : Heap) (H : Hp) : List Addr := (List.range h.objs.size).filter fun a => (H a).isSome
noncomputable def hidT (h : Heap) (H : Hp) : Heap := PySem.W.hideAll h (trk h H)
theorem hidT_size (h : Heap) (H : Hp) : (hidT h H).objs.size = h.objs.size := PySem.W.hideAll_size _ _
theorem hidT_get {h : Heap} {H : Hp} {b : Addr} {o : Obj} (e : h.get? b = some o) (n : H b = none) : (hidT h H).get? b = some o :=
  PySem.W.hideAll_get _ e fun hm => by
    have q : (H b).isSome = true := (List.mem_filter.mp hm).2
    rw [n] at q; simp at q
theorem of_hidT {h : Heap} {H : Hp} {b : Addr} {o : Obj} (e : (hidT h H).get? b = some o) : h.get? b = some o ∧ H b = none := by
  have e' : h.get? b = some o := PySem.W.of_hideAll (trk h H) e
  refine ⟨e', ?_⟩
  cases q : H b with
  | none => rfl
  | some x =>
    have hm : b ∈ trk h H := List.mem_filter.mpr ⟨List.mem_range.mpr (Heap.lt_size e'), by simp [q]⟩
    have z : (hidT h H).get? b = none := PySem.W.hideAll_none (trk h H) hm
    rw [z] at e; cases e
noncomputable def allNews (g h : Heap) (L : Addr) : List (Addr × Obj) := (List.range h.objs.size).filterMap fun a => if a = L ∨ (g.get? a).isSome = true then none else (h.get? a).map fun o => (a, o)
noncomputable def rest (g h : Heap) (L d : Addr) : List (Addr × Obj) := (allNews g h L).filter fun p => decide (p.1 ≠ d)
end L2
namespace L2
open PySem PySem.Spec PyProof.Rows
structure Mod (K : PySem.W.Frag) (mg : Str → Option Value) (base : Heap) : Prop where
  kin : K.In base
  glob : base.Ns mainGlobals mg
  blt : ∃ mb, base.Ns builtinsNs mb ∧ ∀ x : Str, x ≠ "__name__" → mb x = bootBuiltins x
  nolimit : base.NoLimit
structure Cx where
  prog : Program
  w : World
  K : PySem.W.Frag
  mg : Str → Option Value
  base : Heap
  A : Around
  N : List Str
  s₀ : Shared
  H₀ : Hp
  env : Env
  outer : List Env
  stack : List Env
  ex : List Addr
  fn : Str → Bool
  calm : Bool
  pn : List (Addr × Obj)
  xe : Value → Shared → Prop
noncomputable def frs (l : List Env) : List Addr := l.filterMap (·.frame)
noncomputable abbrev Cx.fs (X : Cx) : List Addr := frs X.outer
noncomputable def Vis (sc : Scope) (x : Str) : Prop := sc.names.lookup x = some .local ∨ sc.names.lookup x = some .cell ∨ sc.names.lookup x = some .free
noncomputable def Loc (sc : Scope) (x : Str) : Prop := sc.names.lookup x = some .local ∨ sc.names.lookup x = some .cell
noncomputable def Look (env : Env) (h : Heap) (m : Str → Option Value) (x : Str) (u : Value) : Prop :=
  (env.kindOf x = some .local ∧ m x = some u) ∨ ((env.kindOf x = some .cell ∨ env.kindOf x = some .free) ∧ ∃ c, env.cells.lookup x = some c ∧ h.IsCell c (some u))
structure Cx.Ok (X : Cx) : Prop where
  mod : Mod X.K X.mg X.base
  kind : X.env.scope.kind = .function
  glob : X.env.globals = mainGlobals
  blt : X.env.builtins = builtinsNs
  above : X.s₀.heap.objs.size ≤ X.env.locals
  inj : ∀ x y c, X.env.cells.lookup x = some c → X.env.cells.lookup y = some c → x = y
  has : ∀ x, (X.env.kindOf x = some .cell ∨ X.env.kindOf x = some .free) → ∃ c, X.env.cells.lookup x = some c
  cab : ∀ x c, X.fn x = true → X.env.cells.lookup x = some c → X.s₀.heap.objs.size ≤ c
  hd : X.calm = true → X.A.handled = none
  frames : X.A.frames = some X.stack
  stk : X.stack = X.outer ∨ (X.stack = X.env :: X.outer ∧ X.env.frame = some X.env.locals)
  exf : ∀ b ∈ X.ex, b ≠ X.env.locals ∧ ∀ x c, X.env.cells.lookup x = some c → c ≠ b
  bs : ∀ b o, X.base.get? b = some o → X.s₀.heap.get? b = some o ∧ X.H₀ b = none
  bsz : X.base.objs.size ≤ X.s₀.heap.objs.size
  noex : ∀ b o, X.base.get? b = some o → b ∉ X.ex
  exfs : ∀ b ∈ X.ex, b ∉ X.fs
  funs : X.s₀.heap.FunFrames X.base X.outer
  frf : ∀ b ∈ X.fs, X.H₀ b = none
structure Inv (X : Cx) (pins : List (Addr × Obj)) (σ : List (Option V)) (H : Hp) (s : Shared) : Prop where
  ok : X.Ok
  os : s.os = X.s₀.os
  bare : AllBare s.gens
  base : Un X.fs X.ex X.H₀ H X.s₀.heap s.heap
  loc : ∃ m, s.heap.Ns X.env.locals m ∧ ∀ (i : Nat) (x : Str) (v : V), X.N[i]? = some x → σ[i]? = some (some v) → Vis X.env.scope x → ∃ u, RelV v u ∧ Look X.env s.heap m x u
  cell : ∀ x c, X.env.cells.lookup x = some c → ∃ v, s.heap.IsCell c v
  free : H X.env.locals = none
  freeC : ∀ x c, X.env.cells.lookup x = some c → H c = none
  pin : ∀ p ∈ X.pn ++ pins, s.heap.get? p.1 = some p.2 ∧ H p.1 = none ∧ p.1 ≠ X.env.locals ∧ p.1 ∉ X.fs ∧ ∀ v, p.2.data ≠ .cell v
  hok : HOk X.prog X.w H s.heap
  len : σ.length = X.N.length
section
variable {X : Cx} {pins : List (Addr × Obj)} {σ : List (Option V)} {H H' : Hp} {s : Shared} {h' : Heap}
theorem Cx.Ok.nofr (ok : X.Ok) {b : Addr} {o : Obj} (e : X.base.get? b = some o) : b ∉ X.fs := fun hb => by
  have := (ok.funs.mem hb).1
  rw [e] at this; cases this
theorem Inv.bs (I : Inv X pins σ H s) : ∀ b o, X.base.get? b = some o → s.heap.get? b = some o ∧ H b = none := fun b o e =>
  ⟨I.base.keep b o (I.ok.bs b o e).1 (I.ok.bs b o e).2 (I.ok.nofr e) (I.ok.noex b o e), I.base.free b o (I.ok.bs b o e).1 (I.ok.bs b o e).2 (I.ok.noex b o e)⟩
theorem Inv.bk (I : Inv X pins σ H s) : ∀ b o, X.base.get? b = some o → s.heap.get? b = some o := fun b o e => (I.bs b o e).1
theorem Inv.mod (I : Inv X pins σ H s) : Mod X.K X.mg X.base := I.ok.mod
theorem Inv.kIn (I : Inv X pins σ H s) : X.K.In s.heap := I.ok.mod.kin.keeps I.bk
theorem Inv.lt (I : Inv X pins σ H s) : X.env.locals < s.heap.objs.size := let ⟨_, hn, _⟩ := I.loc; hn.lt
theorem Inv.sz (I : Inv X pins σ H s) : X.s₀.heap.objs.size ≤ s.heap.objs.size := Nat.le_trans I.ok.above (Nat.le_of_lt I.lt)
theorem Inv.nofs (I : Inv X pins σ H s) {a : Addr} (h : s.heap.objs.size ≤ a) : a ∉ X.fs := fun hb => by
  obtain ⟨_, o, ho, _⟩ := I.ok.funs.mem hb
  exact absurd (Nat.lt_of_lt_of_le (Heap.lt_size ho) (Nat.le_trans I.sz h)) (Nat.lt_irrefl _)
theorem Inv.cne (I : Inv X pins σ H s) : ∀ x c, X.env.cells.lookup x = some c → c ≠ X.env.locals := fun x c e z => by
  obtain ⟨v, o, ho, hd⟩ := I.cell x c e
  obtain ⟨m, ⟨o', es, ep, ho', hd', _⟩, _⟩ := I.loc
  rw [z, ho'] at ho; cases ho; rw [hd'] at hd; cases hd
theorem Inv.funs (I : Inv X pins σ H s) : s.heap.FunFrames X.base X.outer := by
  have all : ∀ (l : List Env), (∀ b ∈ frs l, b ∈ X.fs) → X.s₀.heap.FunFrames X.base l → s.heap.FunFrames X.base l := by
    intro l
    induction l with
    | nil => intro _ _; trivial
    | cons env r ih =>
      intro hs hl
      obtain ⟨hk, ⟨L, o, hf, hn, ho, hd⟩, hr⟩ := hl
      have hL : L ∈ X.fs := hs L (by unfold frs; rw [List.filterMap_cons, hf]; exact List.mem_cons_self)
      obtain ⟨sl, e⟩ := I.base.slot L o ho (I.ok.frf L hL) hL fun z => I.ok.exfs L z hL
      exact ⟨hk, ⟨L, _, hf, hn, e, hd⟩, ih (fun b hb => hs b (by unfold frs; rw [List.filterMap_cons, hf]; exact List.mem_cons_of_mem _ hb)) hr⟩
  exact all X.outer (fun _ hb => hb) I.ok.funs
theorem Inv.stack (I : Inv X pins σ H s) : s.heap.FunFrames X.base X.stack := by
  rcases I.ok.stk with e | ⟨e, hf⟩
  · rw [e]; exact I.funs
  · rw [e]
    obtain ⟨m, hn, _⟩ := I.loc
    refine .cons (by rw [I.ok.kind]; decide) hf hn ?_ I.funs
    exact Heap.get?_none_of_le (Nat.le_trans I.ok.bsz I.ok.above)
theorem Inv.stkSub (I : Inv X pins σ H s) : ∀ b ∈ frs X.stack, b ∈ X.env.locals :: X.fs := fun b hb => by
  rcases I.ok.stk with e | ⟨e, hf⟩
  · rw [e] at hb; exact List.mem_cons_of_mem _ hb
  · rw [e] at hb
    unfold frs at hb
    rw [List.filterMap_cons, hf] at hb
    exact hb
theorem Inv.stkFree (I : Inv X pins σ H s) : ∀ b ∈ frs X.stack, H b = none := fun b hb => by
  rcases List.mem_cons.mp (I.stkSub b hb) with e | hb
  · rw [e]; exact I.free
  · obtain ⟨_, o, ho, _⟩ := I.ok.funs.mem hb
    exact I.base.free b o ho (I.ok.frf b hb) fun z => I.ok.exfs b z hb
theorem Inv.step {g' : Array GenState} {t' : Nat} {d' : Drawn} {ch : List Addr} (I : Inv X pins σ H s)
    (hch : ∀ b ∈ ch, (b ∈ X.ex ∨ X.s₀.heap.objs.size ≤ b) ∧ b ≠ X.env.locals ∧ (∀ x c, X.env.cells.lookup x = some c → c ≠ b) ∧ ∀ p ∈ X.pn ++ pins, p.1 ≠ b)
    (keep : ∀ b o, b ≠ X.env.locals → b ∉ X.fs → b ∉ ch → s.heap.get? b = some o → H b = none → h'.get? b = some o)
    (slot : ∀ b o, b ≠ X.env.locals → b ∈ X.fs → b ∉ ch → s.heap.get? b = some o → H b = none → ∃ sl, h'.get? b = some { o with slots := sl }) (free : ∀ b o, b ∉ ch → s.heap.get? b = some o → H b = none → H' b = none)
    (there : ∀ b o, b ∉ ch → s.heap.get? b = some o → ∃ o', h'.get? b = some o')
    (tups : ∀ b xs, H b = some (.tup xs) → H' b = some (.tup xs)) (frzs : ∀ b o u, H b = some (.frz o u) → H' b = some (.frz o u)) (tbls : ∀ b ps, H b = some (.tbl ps) → ∃ more, H' b = some (.tbl (ps ++ more)))
    (ns : ∀ m, s.heap.Ns X.env.locals m → h'.Ns X.env.locals m) (hok : HOk X.prog X.w H' h') (hg : AllBare g') :
    Inv X pins σ H' { s with heap := h', gens := g', drawn := d', toks := t' } := by
  have neL : ∀ b o, X.s₀.heap.get? b = some o → b ≠ X.env.locals := fun b o e => Nat.ne_of_lt (Nat.lt_of_lt_of_le (Heap.lt_size e) I.ok.above)
  have neC : ∀ b o, X.s₀.heap.get? b = some o → b ∉ X.ex → b ∉ ch := fun b o e hx hb => by
    rcases (hch b hb).1 with z | z
    · exact hx z
    · exact absurd (Nat.lt_of_lt_of_le (Heap.lt_size e) z) (Nat.lt_irrefl _)
  have cellK : ∀ x c, X.env.cells.lookup x = some c → ∀ v, s.heap.IsCell c v → h'.IsCell c v := fun x c e v ⟨o, ho, hd⟩ => by
    have nch : c ∉ ch := fun z => (hch c z).2.2.1 x c e rfl
    by_cases hc : c ∈ X.fs
    · obtain ⟨sl, q⟩ := slot c o (I.cne x c e) hc nch ho (I.freeC x c e)
      exact ⟨_, q, hd⟩
    · exact ⟨o, keep c o (I.cne x c e) hc nch ho (I.freeC x c e), hd⟩
  refine ⟨I.ok, I.os, hg, ⟨fun b o e n hb hx => ?_, fun b o e n hb hx => ?_, fun b o e n hx => ?_, fun b o e hx => ?_, fun b xs e => tups b xs (I.base.tups b xs e), fun b o xs e => frzs b o xs (I.base.frzs b o xs e), fun b ps e => ?_⟩, ?_, fun x c e => ?_, ?_, fun x c e => ?_, fun p hp => ?_, hok, I.len⟩
  · exact keep b o (neL b o e) hb (neC b o e hx) (I.base.keep b o e n hb hx) (I.base.free b o e n hx)
  · obtain ⟨sl, e1⟩ := I.base.slot b o e n hb hx
    obtain ⟨sl', e2⟩ := slot b _ (neL b o e) hb (neC b o e hx) e1 (I.base.free b o e n hx)
    exact ⟨sl', e2⟩
  · obtain ⟨o', e1⟩ := I.base.there b o e hx
    exact free b o' (neC b o e hx) e1 (I.base.free b o e n hx)
  · obtain ⟨o', e1⟩ := I.base.there b o e hx
    exact there b o' (neC b o e hx) e1
  · obtain ⟨m1, e1⟩ := I.base.tbls b ps e
    obtain ⟨m2, e2⟩ := tbls b _ e1
    exact ⟨m1 ++ m2, by rw [e2, Array.append_assoc]⟩
  · obtain ⟨m, hn, hl⟩ := I.loc
    refine ⟨m, ns m hn, fun i x v e1 e2 e3 => ?_⟩
    obtain ⟨u, r, l⟩ := hl i x v e1 e2 e3
    refine ⟨u, r, ?_⟩
    rcases l with l | ⟨k, c, e, z⟩
    · exact .inl l
    · exact .inr ⟨k, c, e, cellK x c e _ z⟩
  · obtain ⟨v, z⟩ := I.cell x c e
    exact ⟨v, cellK x c e v z⟩
  · obtain ⟨m, ⟨o, _, _, ho, _⟩, _⟩ := I.loc
    exact free _ o (fun z => (hch _ z).2.1 rfl) ho I.free
  · obtain ⟨v, o, ho, hd⟩ := I.cell x c e
    exact free c o (fun z => (hch c z).2.2.1 x c e rfl) ho (I.freeC x c e)
  · obtain ⟨e, n, ne, nf, d⟩ := I.pin p hp
    have nch : p.1 ∉ ch := fun z => (hch p.1 z).2.2.2 p hp rfl
    exact ⟨keep p.1 p.2 ne nf nch e n, free p.1 p.2 nch e n, ne, nf, d⟩
theorem Inv.un {t' : Nat} (I : Inv X pins σ H s) (u : Un X.fs [] H H' s.heap h') (hok : HOk X.prog X.w H' h') : Inv X pins σ H' { s with heap := h', toks := t' } := by
  obtain ⟨m, ⟨o, es, ep, ho, r⟩, _⟩ := id I.loc
  obtain ⟨sl, hL⟩ := u.any ho I.free (by simp)
  exact I.step (g' := s.gens) (d' := s.drawn) (ch := []) (fun _ z => nomatch z) (fun b o _ hb _ e n => u.keep b o e n hb (by simp)) (fun b o _ hb _ e n => u.slot b o e n hb (by simp)) (fun b o _ e n => u.free b o e n (by simp)) (fun b o _ e => u.there b o e (by simp)) u.tups u.frzs u.tbls (fun m' hm => by
    obtain ⟨o', es', ep', ho', r'⟩ := hm
    rw [ho] at ho'; cases ho'
    exact ⟨_, es', ep', hL, r'⟩) hok I.bare
theorem Inv.call {g' : Array GenState} {t' : Nat} {d' : Drawn} {ch : List Addr} (I : Inv X pins σ H s) (u : Un (frs X.stack) ch H H' s.heap h') (hok : HOk X.prog X.w H' h') (hg : AllBare g')
    (hch : ∀ b ∈ ch, (b ∈ X.ex ∨ X.s₀.heap.objs.size ≤ b) ∧ b ≠ X.env.locals ∧ (∀ x c, X.env.cells.lookup x = some c → c ≠ b) ∧ ∀ p ∈ X.pn ++ pins, p.1 ≠ b) :
    Inv X pins σ H' { s with heap := h', gens := g', drawn := d', toks := t' } := by
  obtain ⟨m, ⟨o, es, ep, ho, r⟩, _⟩ := id I.loc
  obtain ⟨sl, hL⟩ := u.any ho I.free fun z => (hch _ z).2.1 rfl
  exact I.step (ch := ch) hch (fun b o hL hb hc e n => u.keep b o e n (fun z => (List.mem_cons.mp (I.stkSub b z)).elim hL hb) hc) (fun b o _ _ hc e n => u.any e n hc) (fun b o hc e n => u.free b o e n hc) (fun b o hc e => u.there b o e hc) u.tups u.frzs u.tbls (fun m' hm => by
    obtain ⟨o', es', ep', ho', r'⟩ := hm
    rw [ho] at ho'; cases ho'
    exact ⟨_, es', ep', hL, r'⟩) hok hg
theorem Inv.turned {t' : Nat} {it : Addr} (I : Inv X pins σ H s) (k : ∀ b o, b ≠ it → s.heap.get? b = some o → h'.get? b = some o) (hn : H it = none) (hL : it ≠ X.env.locals)
    (h1 : it ∈ X.ex ∨ X.s₀.heap.objs.size ≤ it) (h2 : ∀ x c, X.env.cells.lookup x = some c → c ≠ it) (h3 : ∀ p ∈ X.pn ++ pins, p.1 ≠ it) : Inv X pins σ H { s with heap := h', toks := t' } := by
  have nit : ∀ b u, H b = some u → b ≠ it := fun b u e z => by rw [z, hn] at e; cases e
  refine I.step (g' := s.gens) (d' := s.drawn) (ch := [it]) (fun b hb => ?_) (fun b o _ _ hc e _ => k b o (fun z => hc (by simp [z])) e) (fun b o _ _ hc e _ => ⟨o.slots, k b o (fun z => hc (by simp [z])) e⟩) (fun _ _ _ _ n => n)
    (fun b o hc e => ⟨o, k b o (fun z => hc (by simp [z])) e⟩) (fun _ _ e => e) (fun _ _ _ e => e) (fun b ps e => ⟨#[], by rw [e]; simp⟩) (fun m hm => ?_) (fun b u e => ?_) I.bare
  · have e : b = it := by simpa using hb
    subst e
    exact ⟨h1, hL, h2, h3⟩
  · obtain ⟨o, es, ep, ho, r⟩ := hm
    exact ⟨o, es, ep, k _ o (Ne.symm hL) ho, r⟩
  · refine (I.hok b u e).stay (fun c v hc q => k c v ?_ q) (fun _ q => q) fun _ _ q => q
    rcases hc with z | z
    · rw [z]; exact nit b u e
    · exact nit c _ z
theorem Inv.tok (I : Inv X pins σ H s) (t : Nat) : Inv X pins σ H { s with toks := t } := I.un (h' := s.heap) (t' := t) Un.refl I.hok
theorem Inv.kept {t' : Nat} (I : Inv X pins σ H s) (k : ∀ b u, s.heap.get? b = some u → h'.get? b = some u) : Inv X pins σ H { s with heap := h', toks := t' } := I.un (Un.kept k) (I.hok.kept k)
theorem Inv.laid {a : Addr} {o : HO} {t' : Nat} (I : Inv X pins σ H s) (k : ∀ b u, s.heap.get? b = some u → h'.get? b = some u) (hp : s.heap.objs.size ≤ a) (new : ObjOk X.prog X.w (upd H a o) h' a o) :
    Inv X pins σ (upd H a o) { s with heap := h', toks := t' } := I.un (Un.laid k hp (I.hok.fresh hp)) (I.hok.laid k hp new)
theorem Inv.write {x e : Addr} {o : HO} {t' : Nat} (I : Inv X pins σ H s) (mu : Mut (H x)) (he : e = x ∨ H e = some (.own x)) (k : ∀ b u, b ≠ e → s.heap.get? b = some u → h'.get? b = some u) (heo : ∃ u, h'.get? e = some u)
    (new : ObjOk X.prog X.w (upd H x o) h' x o) : Inv X pins σ (upd H x o) { s with heap := h', toks := t' } := I.un (Un.write mu he k heo) (I.hok.write mu he k heo new)
theorem Inv.pins_of {pins' : List (Addr × Obj)} (I : Inv X pins σ H s) (h : ∀ p ∈ pins', s.heap.get? p.1 = some p.2 ∧ H p.1 = none ∧ p.1 ≠ X.env.locals ∧ p.1 ∉ X.fs ∧ ∀ v, p.2.data ≠ .cell v) : Inv X pins' σ H s :=
  ⟨I.ok, I.os, I.bare, I.base, I.loc, I.cell, I.free, I.freeC, fun p hp => (List.mem_append.mp hp).elim (fun z => I.pin p (List.mem_append_left _ z)) (h p), I.hok, I.len⟩
theorem nodup_ix {N : List Str} (hN : N.Nodup) {i j : Nat} {x : Str} (a : N[i]? = some x) (b : N[j]? = some x) : i = j := by
  obtain ⟨h1, e1⟩ := List.getElem?_eq_some_iff.mp a
  obtain ⟨h2, e2⟩ := List.getElem?_eq_some_iff.mp b
  exact (List.getElem_inj hN).mp (e1.trans e2.symm)
theorem store_ok2 {M : Model} {A : Around} {E : Value → Shared → Prop} {i : Nat} {x : Str} {v : V} {u : Value} {Q : Unit → Shared → Prop} (I : Inv X pins σ H s) (hN : X.N.Nodup) (hi : X.N[i]? = some x) (hx : Loc X.env.scope x) (r : RelV v u)
    (h : ∀ s', Inv X pins (σ.set i (some v)) H s' → (∃ a, Heap.SameBut a s.heap s'.heap ∧ (a = X.env.locals ∨ X.env.cells.lookup x = some a)) → Q () s') (hf : X.fn x = true ∨ X.env.scope.names.lookup x = some .local := by first | exact .inl rfl | exact .inr rfl | assumption) : wpAny M A (storeName X.env x u) Q E s := by
  obtain ⟨m, hn, hl⟩ := id I.loc
  have hcls : (X.env.scope.kind == .class || (X.env.scope.kind == .module && X.env.locals != X.env.globals)) = false := by rw [I.ok.kind]; rfl
  have hiσ : i < σ.length := by rw [I.len]; exact (List.getElem?_eq_some_iff.mp hi).1
  have cne := I.cne
  have tracked : ∀ {a : Addr} {h' : Heap}, (∃ o, s.heap.get? a = some o ∧ H a = none) → Heap.SameBut a s.heap h' → HOk X.prog X.w H h' := fun {a h'} ha hs b ob e => by
    obtain ⟨_, _, hfree⟩ := ha
    refine (I.hok b ob e).stay (fun c w' hc q => (hs.2 c ?_).trans q) (fun _ q => q) fun _ _ q => q
    rintro rfl
    rcases hc with rfl | hc
    · rw [hfree] at e; cases e
    · rw [hfree] at hc; cases hc
  rcases hx with hk | hk
  · refine wpAny_storeName_local hk hn (fun h' hn' hs => ?_) hcls
    obtain ⟨oL, _, _, hoL, _⟩ := id hn
    refine h _ ⟨I.ok, I.os, I.bare, ⟨fun b o e n hb hx => ?_, fun b o e n hb hx => ?_, I.base.free, fun b o e hx => ?_, I.base.tups, I.base.frzs, I.base.tbls⟩, ⟨_, hn', fun j y v' e1 e2 e3 => ?_⟩, fun y c e => ?_, I.free, I.freeC, fun p hp => ?_, tracked ⟨oL, hoL, I.free⟩ hs, by simpa using I.len⟩ ⟨_, hs, .inl rfl⟩
    · exact (hs.2 b (Nat.ne_of_lt (Nat.lt_of_lt_of_le (Heap.lt_size e) I.ok.above))).trans (I.base.keep b o e n hb hx)
    · obtain ⟨sl, e1⟩ := I.base.slot b o e n hb hx
      exact ⟨sl, (hs.2 b (Nat.ne_of_lt (Nat.lt_of_lt_of_le (Heap.lt_size e) I.ok.above))).trans e1⟩
    · obtain ⟨o', e1⟩ := I.base.there b o e hx
      exact ⟨o', (hs.2 b (Nat.ne_of_lt (Nat.lt_of_lt_of_le (Heap.lt_size e) I.ok.above))).trans e1⟩
    · by_cases hj : j = i
      · subst hj
        rw [hi] at e1; cases e1
        rw [List.getElem?_set_self hiσ] at e2
        cases e2
        exact ⟨u, r, .inl ⟨hk, by simp⟩⟩
      · rw [List.getElem?_set_ne (Ne.symm hj)] at e2
        obtain ⟨u', r', q⟩ := hl j y v' e1 e2 e3
        refine ⟨u', r', ?_⟩
        rcases q with ⟨k, e⟩ | ⟨k, c, e, z⟩
        · refine .inl ⟨k, ?_⟩
          have : y ≠ x := fun e => hj (nodup_ix hN e1 (e ▸ hi))
          simp [this, e]
        · exact .inr ⟨k, c, e, z.sameBut hs (cne y c e)⟩
    · obtain ⟨w', z⟩ := I.cell y c e
      exact ⟨w', z.sameBut hs (cne y c e)⟩
    · obtain ⟨e, n, ne, nf, d⟩ := I.pin p hp
      exact ⟨(hs.2 p.1 ne).trans e, n, ne, nf, d⟩
  · have hfn : X.fn x = true := by
      rcases hf with z | z
      · exact z
      · rw [z] at hk; cases hk
    obtain ⟨c, hc⟩ := I.ok.has x (.inl hk)
    obtain ⟨w', z⟩ := I.cell x c hc
    refine wpAny_storeName_cell I.ok.kind hk hc z (fun h' hc' hs => ?_)
    obtain ⟨oc, hoc, hocd⟩ := id z
    refine h { s with heap := h' } ⟨I.ok, I.os, I.bare, ⟨fun b o e n hb hx => ?_, fun b o e n hb hx => ?_, I.base.free, fun b o e hx => ?_, I.base.tups, I.base.frzs, I.base.tbls⟩, ⟨m, hn.sameBut hs (Ne.symm (cne x c hc)), fun j y v' e1 e2 e3 => ?_⟩, fun y c' e => ?_, I.free, I.freeC, fun p hp => ?_, tracked ⟨oc, hoc, I.freeC x c hc⟩ hs, by simpa using I.len⟩ ⟨c, hs, .inr hc⟩
    · exact (hs.2 b (Nat.ne_of_lt (Nat.lt_of_lt_of_le (Heap.lt_size e) (I.ok.cab x c hfn hc)))).trans (I.base.keep b o e n hb hx)
    · obtain ⟨sl, e1⟩ := I.base.slot b o e n hb hx
      exact ⟨sl, (hs.2 b (Nat.ne_of_lt (Nat.lt_of_lt_of_le (Heap.lt_size e) (I.ok.cab x c hfn hc)))).trans e1⟩
    · obtain ⟨o', e1⟩ := I.base.there b o e hx
      exact ⟨o', (hs.2 b (Nat.ne_of_lt (Nat.lt_of_lt_of_le (Heap.lt_size e) (I.ok.cab x c hfn hc)))).trans e1⟩
    · by_cases hj : j = i
      · subst hj
        rw [hi] at e1; cases e1
        rw [List.getElem?_set_self hiσ] at e2
        cases e2
        exact ⟨u, r, .inr ⟨.inl hk, c, hc, hc'⟩⟩
      · rw [List.getElem?_set_ne (Ne.symm hj)] at e2
        obtain ⟨u', r', q⟩ := hl j y v' e1 e2 e3
        refine ⟨u', r', ?_⟩
        rcases q with q | ⟨k, c', e, z'⟩
        · exact .inl q
        · refine .inr ⟨k, c', e, z'.sameBut hs ?_⟩
          rintro rfl
          exact hj (nodup_ix hN e1 (I.ok.inj _ _ _ e hc ▸ hi))
    · by_cases hcc : c' = c
      · subst hcc; exact ⟨_, hc'⟩
      · obtain ⟨w2, z2⟩ := I.cell y c' e
        exact ⟨w2, z2.sameBut hs hcc⟩
    · obtain ⟨e, n, ne, nf, d⟩ := I.pin p hp
      refine ⟨(hs.2 p.1 ?_).trans e, n, ne, nf, d⟩
      intro q
      rw [q, hoc] at e
      have q' : oc = p.2 := Option.some.inj e
      exact d w' (by rw [← q']; exact hocd)
theorem store_ok {M : Model} {A : Around} {E : Value → Shared → Prop} {i : Nat} {x : Str} {v : V} {u : Value} {Q : Unit → Shared → Prop} (I : Inv X pins σ H s) (hN : X.N.Nodup) (hi : X.N[i]? = some x) (hx : Loc X.env.scope x) (r : RelV v u)
    (h : ∀ s', Inv X pins (σ.set i (some v)) H s' → Q () s') (hf : X.fn x = true ∨ X.env.scope.names.lookup x = some .local := by first | exact .inl rfl | exact .inr rfl | assumption) : wpAny M A (storeName X.env x u) Q E s :=
  store_ok2 I hN hi hx r (fun s' I' _ => h s' I') hf
theorem Inv.call' {s' : Shared} {ch : List Addr} (I : Inv X pins σ H s) (ho : s'.os = s.os) (u : Un (frs X.stack) ch H H' s.heap s'.heap) (hok : HOk X.prog X.w H' s'.heap) (hg : AllBare s'.gens)
    (hch : ∀ b ∈ ch, (b ∈ X.ex ∨ X.s₀.heap.objs.size ≤ b) ∧ b ≠ X.env.locals ∧ (∀ x c, X.env.cells.lookup x = some c → c ≠ b) ∧ ∀ p ∈ X.pn ++ pins, p.1 ≠ b) : Inv X pins σ H' s' := by
  obtain ⟨h', g', d', t', o'⟩ := s'
  have e : o' = s.os := ho
  subst e
  exact I.call (g' := g') (t' := t') (d' := d') u hok hg hch
end
noncomputable abbrev XK := Value → Option Addr → Hp → Prop
noncomputable abbrev St := List (Option V)
noncomputable abbrev VK := V → Hp → Prop
noncomputable abbrev TE := St → Hp → VK → Prop
noncomputable abbrev TT := St → Hp → (Bool → Hp → Prop) → Prop
noncomputable abbrev TA := St → Hp → (List V → Hp → Prop) → Prop
structure Ends where
  nx : St → Hp → Prop
  rt : VK
  bk : St → Hp → Prop := fun _ _ => False
  ct : St → Hp → Prop := fun _ _ => False
noncomputable abbrev TS := Ends → St → Hp → Prop
noncomputable def EP (X : Cx) (pins : List (Addr × Obj)) (σ : St) (Q : VK) (u : Value) (s' : Shared) : Prop := ∃ v H', Inv X pins σ H' s' ∧ RelV v u ∧ Q v H'
noncomputable def TP (X : Cx) (pins : List (Addr × Obj)) (σ : St) (Q : Bool → Hp → Prop) (b : Bool) (s' : Shared) : Prop := ∃ H', Inv X pins σ H' s' ∧ Q b H'
noncomputable def AP (X : Cx) (pins : List (Addr × Obj)) (σ : St) (Q : List V → Hp → Prop) (us : List Value) (s' : Shared) : Prop := ∃ vs H', Inv X pins σ H' s' ∧ Vals vs us ∧ Q vs H'
noncomputable def SP (X : Cx) (pins : List (Addr × Obj)) (D : Ends) (f : Flow) (s' : Shared) : Prop :=
  match f with
  | .next => ∃ σ' H', Inv X pins σ' H' s' ∧ D.nx σ' H'
  | .brk => ∃ σ' H', Inv X pins σ' H' s' ∧ D.bk σ' H'
  | .cont => ∃ σ' H', Inv X pins σ' H' s' ∧ D.ct σ' H'
  | .ret u => ∃ v σ' H', Inv X pins σ' H' s' ∧ RelV v u ∧ D.rt v H'
noncomputable def PE (X : Cx) (e : Expr) (t : TE) : Prop :=
  ∀ (pins : List (Addr × Obj)) (s : Shared) (σ : St) (H : Hp) (Q : VK), Inv X pins σ H s → t σ H Q → wpAny (model X.prog X.w) X.A (eval e X.env) (EP X pins σ Q) X.xe s
noncomputable def PT (X : Cx) (e : Expr) (t : TT) : Prop :=
  ∀ (pins : List (Addr × Obj)) (s : Shared) (σ : St) (H : Hp) (Q : Bool → Hp → Prop), Inv X pins σ H s → t σ H Q → wpAny (model X.prog X.w) X.A (isTrue e X.env (eval e X.env)) (TP X pins σ Q) X.xe s
noncomputable def PW (X : Cx) (e : Expr) (t : TT) : Prop :=
  ∀ (whole : Sem Value) (pins : List (Addr × Obj)) (s : Shared) (σ : St) (H : Hp) (Q : Bool → Hp → Prop), Inv X pins σ H s → t σ H Q → wpAny (model X.prog X.w) X.A (isTrue e X.env whole) (TP X pins σ Q) X.xe s
theorem PW.pt {X : Cx} {e : Expr} {t : TT} (h : PW X e t) : PT X e t := h _
noncomputable def PA (X : Cx) (es : List Expr) (t : TA) : Prop :=
  ∀ (pos : Pos) (pins : List (Addr × Obj)) (s : Shared) (σ : St) (H : Hp) (Q : List V → Hp → Prop), Inv X pins σ H s → t σ H Q → wpAny (model X.prog X.w) X.A (spliced (backTo pos (starEach es X.env))) (AP X pins σ Q) X.xe s
noncomputable def PS (X : Cx) (st : Stmt) (t : TS) : Prop :=
  ∀ (pins : List (Addr × Obj)) (s : Shared) (σ : St) (H : Hp) (D : Ends), Inv X pins σ H s → t D σ H → wpAny (model X.prog X.w) X.A (exec st X.env) (SP X pins D) X.xe s
noncomputable def PSs (X : Cx) (st : List Stmt) (t : TS) : Prop :=
  ∀ (pins : List (Addr × Obj)) (s : Shared) (σ : St) (H : Hp) (D : Ends), Inv X pins σ H s → t D σ H → wpAny (model X.prog X.w) X.A (execs st X.env) (SP X pins D) X.xe s
theorem thn {α : Type} {t : Sem α} {Q Q' : α → Shared → Prop} {M : Model} {A : Around} {E : Value → Shared → Prop} {s : Shared} (h : wpAny M A t Q E s) (hQ : ∀ a s, Q a s → Q' a s) : wpAny M A t Q' E s := wpAny_mono h hQ fun _ _ x => x
end L2
namespace L2
open PySem PySem.Spec PyProof.Rows
section
variable {X : Cx}
noncomputable def tVar (i : Nat) : TE := fun σ H Q => ∃ v, σ[i]? = some (some v) ∧ Q v H
noncomputable def tC (v : V) : TE := fun _ H Q => Q v H
theorem pe_var {i : Nat} {x : Str} {pos : Pos} (hN : X.N[i]? = some x) (hv : Vis X.env.scope x) (hd : (x == ("__debug__" : Str)) = false := by decide) (hcd : (x == ("__classdict__" : Str)) = false := by decide) : PE X (.Name x pos) (tVar i) := by
  intro pins s σ H Q I h
  obtain ⟨v, e, h⟩ := h
  obtain ⟨m, hn, hl⟩ := I.loc
  obtain ⟨u, r, l⟩ := hl i x v hN e hv
  have fin : EP X pins σ Q u s := ⟨v, H, I, r, h⟩
  rcases l with ⟨hk, hm⟩ | ⟨hk, c, hc, hcell⟩
  · exact wpAny_Name (wpAny_loadName_local I.ok.kind hk hn hm fin) hd
  · rcases hk with hk | hk
    · exact wpAny_Name (wpAny_loadName_cell I.ok.kind hk hc hcell fin) hd
    · exact wpAny_Name (wpAny_loadName_free I.ok.kind hk hc hcell fin hcd) hd
theorem pe_int {i j pos} : PE X (.Constant (.int i) j pos) (tC (.int i)) := fun _ _ _ H _ I h => wpAny_Constant_int ⟨.int i, H, I.tok _, ⟨_, rfl⟩, h⟩
theorem pe_bl {b j pos} : PE X (.Constant (.bool b) j pos) (tC (.bl b)) := fun _ _ _ H _ I h => Constant_bool ⟨.bl b, H, I, rfl, h⟩
theorem pe_non {j pos} : PE X (.Constant .none j pos) (tC .non) := fun _ _ _ H _ I h => Constant_none ⟨.non, H, I, rfl, h⟩
theorem pe_str {x j pos} : PE X (.Constant (.str x) j pos) (tC (.str x)) := fun _ _ _ H _ I h => Calls.Constant_str ⟨.str x, H, I.tok _, ⟨_, rfl⟩, h⟩
noncomputable def Gl (X : Cx) (x : Str) : Prop := X.env.kindOf x = some .globalImplicit
theorem ld_glob {E : Value → Shared → Prop} {pins : List (Addr × Obj)} {s : Shared} {σ : St} {H : Hp} {x : Str} {u : Value} {pos : Pos} {Q : Value → Shared → Prop} (I : Inv X pins σ H s) (hg : Gl X x) (hm : X.mg x = some u) (h : Q u s)
    (hd : (x == ("__debug__" : Str)) = false := by decide) : wpAny (model X.prog X.w) X.A (eval (.Name x pos) X.env) Q E s :=
  Calls.Name_function_global I.ok.kind hg (Calls.loadGlobal_global (by rw [I.ok.glob]; exact I.mod.glob.keeps I.bk) hm h) hd
theorem ld_blt {E : Value → Shared → Prop} {pins : List (Addr × Obj)} {s : Shared} {σ : St} {H : Hp} {x : Str} {u : Value} {pos : Pos} {Q : Value → Shared → Prop} (I : Inv X pins σ H s) (hg : Gl X x) (hm : X.mg x = none) (hv : bootBuiltins x = some u) (h : Q u s)
    (hn : x ≠ "__name__" := by decide) (hd : (x == ("__debug__" : Str)) = false := by decide) : wpAny (model X.prog X.w) X.A (eval (.Name x pos) X.env) Q E s := by
  obtain ⟨mb, h1, h2⟩ := I.mod.blt
  exact Calls.Name_function_global I.ok.kind hg (Calls.loadGlobal_builtin (by rw [I.ok.glob]; exact I.mod.glob.keeps I.bk) hm (by rw [I.ok.blt]; exact h1.keeps I.bk) ((h2 x hn).trans hv) h) hd
theorem pe_bltn {x : Str} {v : V} {u : Value} {pos : Pos} (hg : Gl X x) (hm : X.mg x = none) (hv : bootBuiltins x = some u) (r : RelV v u) (hn : x ≠ "__name__" := by decide) (hd : (x == ("__debug__" : Str)) = false := by decide) : PE X (.Name x pos) (tC v) :=
  fun _ _ _ H _ I h => ld_blt I hg hm hv ⟨v, H, I, r, h⟩ hn hd
variable {a b : Expr} {ta tb : TE} {pos : Pos}
noncomputable def PC (X : Cx) (op : CmpOp) (a b : Expr) (t : TE) : Prop :=
  ∀ (pins : List (Addr × Obj)) (s : Shared) (σ : St) (H : Hp) (Q : VK), Inv X pins σ H s → t σ H Q →
    wpAny (model X.prog X.w) X.A (eval a X.env) (fun v s₁ => wpAny (model X.prog X.w) X.A (eval b X.env) (fun u s₂ => wpAny (model X.prog X.w) X.A (compareOp op v u) (EP X pins σ Q) X.xe s₂) X.xe s₁) X.xe s
theorem nobehind (b : Expr) {op : CmpOp} (h : op ≠ .In) (h2 : op ≠ .NotIn) : behindInMarks op b = false := by
  have e1 : (op == CmpOp.In) = false := by cases op <;> first | rfl | exact absurd rfl h
  have e2 : (op == CmpOp.NotIn) = false := by cases op <;> first | rfl | exact absurd rfl h2
  cases b <;> simp [behindInMarks, e1, e2]
noncomputable def tB (t : TE) : TT := fun σ H Q => t σ H fun x H1 => ∃ c, x = .bl c ∧ Q c H1
theorem pt_cmp {op : CmpOp} {t : TE} (h : PC X op a b t) (h1 : behindInMarks op b = false := by first | exact nobehind _ (by decide) (by decide) | rfl) : PT X (.Compare a [op] [b] pos) (tB t) := by
  intro pins s σ H Q I hw
  refine wpAny_isTrue_Compare1 (thn (h pins s σ H _ I hw) fun v s1 h1 => thn h1 fun u s2 h2 => thn h2 fun c s3 ⟨x, H1, I1, r1, q1⟩ => ?_) h1
  obtain ⟨d, rfl, q⟩ := q1
  cases r1
  exact wpAny_truthy_bool ⟨H1, I1, q⟩
theorem pt_val {e : Expr} {t : TE} (h : PE X e t) (he : ∀ whole, isTrue e X.env whole = (do let v ← whole; standAt e.pos; holding [v] (truthy v)) := by intro _; rfl) : PT X e (tB t) := by
  intro pins s σ H Q I hw
  refine isTrue_plain (thn (h pins s σ H _ I hw) fun v s1 ⟨x, H1, I1, r1, q1⟩ => ?_) (he _)
  obtain ⟨d, rfl, q⟩ := q1
  cases r1
  exact wpAny_truthy_bool ⟨H1, I1, q⟩
variable {tA tB' : TT} {rest : List Expr}
noncomputable def tAnd (t u : TT) : TT := fun σ H Q => t σ H fun c H1 => if c = true then u σ H1 Q else Q false H1
noncomputable def tOr (t u : TT) : TT := fun σ H Q => t σ H fun c H1 => if c = true then Q true H1 else u σ H1 Q
noncomputable def tNot (t : TT) : TT := fun σ H Q => t σ H fun c H1 => Q (!c) H1
theorem pw_and1 (ha : PT X a tA) : PW X (.BoolOp .And [a] pos) tA := by
  intro wh pins s σ H Q I h
  refine isTrue_and (thn (ha pins s σ H Q I h) fun c s1 e => ?_)
  cases c with
  | true => exact isTrue_and_nil e
  | false => exact e
theorem pw_or1 (ha : PT X a tA) : PW X (.BoolOp .Or [a] pos) tA := by
  intro wh pins s σ H Q I h
  refine isTrue_or (thn (ha pins s σ H Q I h) fun c s1 e => ?_)
  cases c with
  | false => exact isTrue_or_nil e
  | true => exact e
theorem pw_and (ha : PT X a tA) (hb : PW X (.BoolOp .And (b :: rest) pos) tB') : PW X (.BoolOp .And (a :: b :: rest) pos) (tAnd tA tB') := by
  intro wh pins s σ H Q I h
  refine isTrue_and (thn (ha pins s σ H _ I h) fun c s1 ⟨H1, I1, q1⟩ => ?_)
  cases c with
  | true => exact hb wh pins s1 σ H1 Q I1 q1
  | false => exact ⟨H1, I1, q1⟩
theorem pw_or (ha : PT X a tA) (hb : PW X (.BoolOp .Or (b :: rest) pos) tB') : PW X (.BoolOp .Or (a :: b :: rest) pos) (tOr tA tB') := by
  intro wh pins s σ H Q I h
  refine isTrue_or (thn (ha pins s σ H _ I h) fun c s1 ⟨H1, I1, q1⟩ => ?_)
  cases c with
  | true => exact ⟨H1, I1, q1⟩
  | false => exact hb wh pins s1 σ H1 Q I1 q1
theorem pt_not (ha : PT X a tA) : PT X (.UnaryOp .Not a pos) (tNot tA) := by
  intro pins s σ H Q I h
  exact isTrue_not (ha pins s σ H (fun c H1 => Q (!c) H1) I h)
noncomputable def tAndV (ta tb : TE) : TE := fun σ H Q => ta σ H fun x H1 => ∃ c, x = .bl c ∧ if c = true then tb σ H1 Q else Q (.bl false) H1
noncomputable def tOrV (ta tb : TE) : TE := fun σ H Q => ta σ H fun x H1 => ∃ c, x = .bl c ∧ if c = true then Q (.bl true) H1 else tb σ H1 Q
noncomputable def tNotV (ta : TE) : TE := fun σ H Q => ta σ H fun x H1 => ∃ c, x = .bl c ∧ Q (.bl (!c)) H1
theorem pe_one {op} {t : TE} (h : PE X a t) : PE X (.BoolOp op [a] pos) t := fun pins s σ H Q I hw => BoolOp_one (h pins s σ H Q I hw)
theorem pe_and (ha : PE X a ta) (hb : PE X (.BoolOp .And (b :: rest) pos) tb) : PE X (.BoolOp .And (a :: b :: rest) pos) (tAndV ta tb) := by
  intro pins s σ H Q I h
  refine BoolOp_and (thn (ha pins s σ H _ I h) fun v s1 ⟨x, H1, I1, r1, q1⟩ => ?_)
  obtain ⟨c, rfl, q1⟩ := q1
  cases r1
  refine wpAny_truthy_bool ?_
  cases c with
  | true => exact hb pins s1 σ H1 Q I1 q1
  | false => exact ⟨.bl false, H1, I1, rfl, q1⟩
theorem pe_or (ha : PE X a ta) (hb : PE X (.BoolOp .Or (b :: rest) pos) tb) : PE X (.BoolOp .Or (a :: b :: rest) pos) (tOrV ta tb) := by
  intro pins s σ H Q I h
  refine BoolOp_or (thn (ha pins s σ H _ I h) fun v s1 ⟨x, H1, I1, r1, q1⟩ => ?_)
  obtain ⟨c, rfl, q1⟩ := q1
  cases r1
  refine wpAny_truthy_bool ?_
  cases c with
  | false => exact hb pins s1 σ H1 Q I1 q1
  | true => exact ⟨.bl true, H1, I1, rfl, q1⟩
theorem pe_not (ha : PE X a ta) : PE X (.UnaryOp .Not a pos) (tNotV ta) := by
  intro pins s σ H Q I h
  refine UnaryOp_ (thn (ha pins s σ H _ I h) fun v s1 ⟨x, H1, I1, r1, q1⟩ => ?_)
  obtain ⟨c, rfl, q1⟩ := q1
  cases r1
  exact not_of (wpAny_truthy_bool ⟨.bl (!c), H1, I1, rfl, q1⟩)
noncomputable def tIf (t : TT) (ta tb : TE) : TE := fun σ H Q => t σ H fun c H1 => if c = true then ta σ H1 Q else tb σ H1 Q
theorem pe_ifExp {c : Expr} (hc : PT X c tA) (ha : PE X a ta) (hb : PE X b tb) : PE X (.IfExp c a b pos) (tIf tA ta tb) := by
  intro pins s σ H Q I h
  refine wpAny_IfExp (thn (hc pins s σ H _ I h) fun d s1 ⟨H1, I1, q1⟩ => ?_)
  cases d with
  | true => exact ha pins s1 σ H1 Q I1 q1
  | false => exact hb pins s1 σ H1 Q I1 q1
end
end L2
namespace L2
open PySem PySem.Spec PyProof.Rows
noncomputable def SqL (K : PySem.W.Frag) (H : Hp) (a : Addr) (xs : List V) : Prop :=
  Rd H a (.lst xs) ∨
    ∃ (o : Obj) (its : Array Value) (n : Nat), K.lookup a = some o ∧ o.cls = .type "list" ∧ o.dict = none ∧ o.data = .seq its n ∧ its.size ≤ sizeLine ∧ Vals xs its.toList
noncomputable def SqT (K : PySem.W.Frag) (H : Hp) (a : Addr) (xs : List V) : Prop :=
  Rd H a (.tup xs) ∨
    ∃ (o : Obj) (its : Array Value) (n : Nat), K.lookup a = some o ∧ o.cls = .type "tuple" ∧ o.data = .seq its n ∧ its.size ≤ sizeLine ∧ Vals xs its.toList
noncomputable def absV : Value → Option V
  | .none => some .non
  | .bool b => some (.bl b)
  | .int i _ => some (.int i)
  | .str x _ => some (.str x)
  | .bytes b _ => some (.byt b)
  | .float b _ => some (.flt b)
  | .ref a => some (.ref a)
  | .type n => some (.ty n)
  | _ => none
theorem RelV.abs {x : V} {u : Value} (r : RelV x u) : absV u = some x := by
  cases x with
  | non => cases r; rfl
  | bl _ => cases r; rfl
  | int _ => obtain ⟨t, rfl⟩ := r; rfl
  | str _ => obtain ⟨t, rfl⟩ := r; rfl
  | byt _ => obtain ⟨t, rfl⟩ := r; rfl
  | flt _ => obtain ⟨t, rfl⟩ := r; rfl
  | ref _ => cases r; rfl
  | ty _ => cases r; rfl
theorem RelV.inj {x y : V} {u : Value} (r : RelV x u) (q : RelV y u) : x = y := Option.some.inj (r.abs.symm.trans q.abs)
theorem Vals.inj : ∀ {xs ys : List V} {us : List Value}, Vals xs us → Vals ys us → xs = ys
  | _, _, _, .nil, .nil => rfl
  | _, _, _, .cons r t, .cons r' t' => by rw [r.inj r', Vals.inj t t']
section
variable {X : Cx} {pins : List (Addr × Obj)} {σ : St} {H : Hp} {s : Shared} {a : Addr} {xs ys : List V}
theorem SqL.of {K : PySem.W.Frag} (h : H a = some (.lst xs)) : SqL K H a xs := .inl (.inl h)
theorem SqT.of {K : PySem.W.Frag} (h : H a = some (.tup xs)) : SqT K H a xs := .inl (.inl h)
theorem Inv.list (I : Inv X pins σ H s) (h : SqL X.K H a xs) : ∃ its : List Value, Vals xs its ∧ PlainL s.heap a its.toArray ∧ xs.length ≤ sizeLine := by
  rcases h with h | ⟨o, its, n, hk, hc, hd, hs, hz, r⟩
  · obtain ⟨z, its, n, r, e⟩ := h.ok I.hok
    exact ⟨its, r, ⟨_, n, e, rfl, rfl, rfl⟩, z⟩
  · refine ⟨its.toList, r, ⟨o, n, I.kIn a o hk, hc, hd, by simpa using hs⟩, ?_⟩
    have e := r.length
    simp only [Array.length_toList] at e
    omega
theorem Inv.tuple (I : Inv X pins σ H s) (h : SqT X.K H a xs) : ∃ its : List Value, Vals xs its ∧ IsTup s.heap a its.toArray ∧ xs.length ≤ sizeLine := by
  rcases h with h | ⟨o, its, n, hk, hc, hs, hz, r⟩
  · obtain ⟨z, its, r, p⟩ := h.ok I.hok
    exact ⟨its, r, p, z⟩
  · refine ⟨its.toList, r, ⟨o, I.kIn a o hk, hc, n, by simpa using hs⟩, ?_⟩
    have e := r.length
    simp only [Array.length_toList] at e
    omega
theorem Inv.list_inj (I : Inv X pins σ H s) (h : SqL X.K H a xs) (h' : SqL X.K H a ys) : xs = ys := by
  obtain ⟨its, r, ⟨o, n, e, _, _, d⟩, _⟩ := I.list h
  obtain ⟨its', r', ⟨o', n', e', _, _, d'⟩, _⟩ := I.list h'
  rw [e] at e'; cases e'
  rw [d] at d'
  injection d' with d1 _
  have : its = its' := by simpa using congrArg Array.toList d1
  subst this
  exact r.inj r'
theorem Inv.tuple_inj (I : Inv X pins σ H s) (h : SqT X.K H a xs) (h' : SqT X.K H a ys) : xs = ys := by
  obtain ⟨its, r, ⟨o, e, _, n, d⟩, _⟩ := I.tuple h
  obtain ⟨its', r', ⟨o', e', _, n', d'⟩, _⟩ := I.tuple h'
  rw [e] at e'; cases e'
  rw [d] at d'
  injection d' with d1 _
  have : its = its' := by simpa using congrArg Array.toList d1
  subst this
  exact r.inj r'
end
noncomputable abbrev Cx.wish (X : Cx) (E : Value → Shared → Prop) : Cx := { X with xe := E }
noncomputable abbrev Cx.nox (X : Cx) : Cx := X.wish fun _ _ => False
theorem Cx.Ok.wish {X : Cx} (ok : X.Ok) (E : Value → Shared → Prop) : (X.wish E).Ok :=
  ⟨ok.mod, ok.kind, ok.glob, ok.blt, ok.above, ok.inj, ok.has, ok.cab, ok.hd, ok.frames, ok.stk, ok.exf, ok.bs, ok.bsz, ok.noex, ok.exfs, ok.funs, ok.frf⟩
theorem Cx.Ok.unwish {X : Cx} {E : Value → Shared → Prop} (ok : (X.wish E).Ok) : X.Ok :=
  ⟨ok.mod, ok.kind, ok.glob, ok.blt, ok.above, ok.inj, ok.has, ok.cab, ok.hd, ok.frames, ok.stk, ok.exf, ok.bs, ok.bsz, ok.noex, ok.exfs, ok.funs, ok.frf⟩
section
variable {X : Cx} {pins : List (Addr × Obj)} {σ : St} {H : Hp} {s : Shared} {E : Value → Shared → Prop}
theorem Inv.wish (I : Inv X pins σ H s) (E : Value → Shared → Prop) : Inv (X.wish E) pins σ H s := ⟨I.ok.wish E, I.os, I.bare, I.base, I.loc, I.cell, I.free, I.freeC, I.pin, I.hok, I.len⟩
theorem Inv.unwish (I : Inv (X.wish E) pins σ H s) : Inv X pins σ H s := ⟨I.ok.unwish, I.os, I.bare, I.base, I.loc, I.cell, I.free, I.freeC, I.pin, I.hok, I.len⟩
theorem SP.unwish {D : Ends} {f : Flow} {s' : Shared} (h : SP (X.wish E) pins D f s') : SP X pins D f s' := by
  cases f with
  | next => obtain ⟨σ', H', I, q⟩ := h; exact ⟨σ', H', I.unwish, q⟩
  | brk => obtain ⟨σ', H', I, q⟩ := h; exact ⟨σ', H', I.unwish, q⟩
  | cont => obtain ⟨σ', H', I, q⟩ := h; exact ⟨σ', H', I.unwish, q⟩
  | ret u => obtain ⟨v, σ', H', I, r, q⟩ := h; exact ⟨v, σ', H', I.unwish, r, q⟩
theorem PE.nox {e : Expr} {t : TE} (h : PE X.nox e t) : PE X e t := fun pins s σ H Q I hw =>
  wpAny_mono (h pins s σ H Q (I.wish _) hw) (fun _ _ ⟨v, H', I', r, q⟩ => ⟨v, H', I'.unwish, r, q⟩) fun _ _ z => False.elim z
theorem PT.nox {e : Expr} {t : TT} (h : PT X.nox e t) : PT X e t := fun pins s σ H Q I hw =>
  wpAny_mono (h pins s σ H Q (I.wish _) hw) (fun _ _ ⟨H', I', q⟩ => ⟨H', I'.unwish, q⟩) fun _ _ z => False.elim z
theorem PSs.nox {st : List Stmt} {t : TS} (h : PSs X.nox st t) : PSs X st t := fun pins s σ H D I hw =>
  wpAny_mono (h pins s σ H D (I.wish _) hw) (fun _ _ q => q.unwish) fun _ _ z => False.elim z
end
section
variable {X : Cx} {st : Stmt} {rest : List Stmt} {t u : TS} {e : Expr} {te : TE} {pos : Pos}
noncomputable def tNext : TS := fun D σ H => D.nx σ H
noncomputable def tSeq (t u : TS) : TS := fun D σ H => t { D with nx := u D } σ H
theorem pss_nil : PSs X [] tNext := fun _ _ σ H _ I h => wpAny_execs_nil ⟨σ, H, I, h⟩
theorem pss_cons (h1 : PS X st t) (h2 : PSs X rest u) : PSs X (st :: rest) (tSeq t u) := by
  intro pins s σ H D I h
  refine wpAny_execs_cons (thn (h1 pins s σ H { D with nx := u D } I h) fun f s1 q => ?_)
  cases f with
  | next =>
    obtain ⟨σ', H', I', q⟩ := q
    exact h2 pins s1 σ' H' D I' q
  | ret v => exact q
  | brk => exact q
  | cont => exact q
theorem pss_one (h1 : PS X st t) : PSs X [st] t := by
  intro pins s σ H D I h
  refine wpAny_execs_cons (thn (h1 pins s σ H D I h) fun f s1 q => ?_)
  cases f with
  | next => exact wpAny_execs_nil q
  | ret v => exact q
  | brk => exact q
  | cont => exact q
noncomputable def tBreak : TS := fun D σ H => D.bk σ H
noncomputable def tCont : TS := fun D σ H => D.ct σ H
theorem Inv.quiet {pins : List (Addr × Obj)} {σ : St} {H : Hp} {s : Shared} (I : Inv X pins σ H s) : interactive X.env = false := by simp [interactive, I.ok.kind]
noncomputable def tDrop (te : TE) : TS := fun D σ H => te σ H fun _ H1 => D.nx σ H1
theorem ps_expr (he : PE X e te) (hs : swapsWith e none pos.line X.env = pure false := by rfl) : PS X (.Expr e pos) (tDrop te) := by
  intro pins s σ H D I h
  exact wpAny_Expr_any (thn (he pins s σ H _ I h) fun v s1 ⟨x, H1, I1, r1, q1⟩ => ⟨σ, H1, I1, q1⟩) I.quiet hs
noncomputable def tRet (te : TE) : TS := fun D σ H => te σ H D.rt
theorem ps_ret (he : PE X e te) : PS X (.Return (some e) pos) (tRet te) := by
  intro pins s σ H D I h
  exact wpAny_Return_some (thn (he pins s σ H _ I h) fun v s1 ⟨x, H1, I1, r1, q1⟩ => ⟨x, σ, H1, I1, r1, q1⟩)
noncomputable def tRetN : TS := fun D _ H => D.rt .non H
noncomputable def tIfS (c : TT) (t u : TS) : TS := fun D σ H => c σ H fun b H1 => if b = true then t D σ H1 else u D σ H1
theorem ps_if {c : Expr} {a b : List Stmt} {tc : TT} (hc : PT X c tc) (ha : PSs X a t) (hb : PSs X b u) : PS X (.If c a b pos) (tIfS tc t u) := by
  intro pins s σ H D I h
  refine wpAny_If (thn (hc pins s σ H _ I h) fun d s1 ⟨H1, I1, q1⟩ => ?_)
  cases d with
  | true => exact ha pins s1 σ H1 D I1 q1
  | false => exact hb pins s1 σ H1 D I1 q1
noncomputable def tNever : TS := fun _ _ _ => False
end
noncomputable abbrev TG := V → St → Hp → (St → Hp → Prop) → Prop
noncomputable abbrev TGs := List V → St → Hp → (St → Hp → Prop) → Prop
noncomputable def PG (X : Cx) (target : Expr) (t : TG) : Prop :=
  ∀ (pins : List (Addr × Obj)) (s : Shared) (σ : St) (H : Hp) (v : V) (u : Value) (Q : St → Hp → Prop), Inv X pins σ H s → RelV v u → t v σ H Q →
    wpAny (model X.prog X.w) X.A (assign target X.env u) (fun _ s' => ∃ σ' H', Inv X pins σ' H' s' ∧ Q σ' H') X.xe s
noncomputable def PGs (X : Cx) (ts : List Expr) (t : TGs) : Prop :=
  ∀ (pins : List (Addr × Obj)) (s : Shared) (σ : St) (H : Hp) (vs : List V) (us : List Value) (Q : St → Hp → Prop), Inv X pins σ H s → Vals vs us → t vs σ H Q →
    wpAny (model X.prog X.w) X.A (assignInOrder ((assignEach ts X.env).map (·.2)) us) (fun _ s' => ∃ σ' H', Inv X pins σ' H' s' ∧ Q σ' H') X.xe s
section
variable {X : Cx} {pos : Pos}
noncomputable def gName (i : Nat) : TG := fun v σ H Q => Q (σ.set i (some v)) H
theorem pg_name {i : Nat} {x : Str} (hN : X.N.Nodup) (hi : X.N[i]? = some x) (hx : Loc X.env.scope x) (hf : X.fn x = true ∨ X.env.scope.names.lookup x = some .local := by first | exact .inl rfl | exact .inr rfl | assumption) : PG X (.Name x pos) (gName i) := by
  intro pins s σ H v u Q I r h
  exact wpAny_assign_Name (store_ok I hN hi hx r (fun s' I' => ⟨_, H, I', h⟩) hf)
noncomputable def tAsg (te : TE) (g : TG) : TS := fun D σ H => te σ H fun x H1 => g x σ H1 D.nx
theorem ps_set {i : Nat} {x : Str} {e : Expr} {te : TE} {pos' : Pos} (hN : X.N.Nodup) (hi : X.N[i]? = some x) (hx : Loc X.env.scope x) (he : PE X e te) (hs : swapsWith e (some (.Name x pos')) pos.line X.env = pure false := by rfl) (hf : X.fn x = true ∨ X.env.scope.names.lookup x = some .local := by first | exact .inl rfl | exact .inr rfl | assumption) :
    PS X (.Assign [.Name x pos'] e pos) (tAsg te (gName i)) := by
  intro pins s σ H D I h
  refine wpAny_Assign_Name (thn (he pins s σ H _ I h) fun v s1 ⟨y, H1, I1, r1, q1⟩ => ?_) hs
  exact store_ok I1 hN hi hx r1 (fun s2 I2 => ⟨_, H1, I2, q1⟩) hf
end
section
variable {X : Cx} {pos : Pos}
noncomputable def tWhile (c : TT) (tb : TS) : TS := fun D σ H => ∃ W : Nat → St → Hp → Prop, (∃ m, W m σ H) ∧ ∀ m σ H, W m σ H →
  c σ H fun b H1 => if b = true then ∃ N : St → Hp → Prop, (∀ σ' H', N σ' H' → ∃ m', m' < m ∧ W m' σ' H') ∧ tb { D with nx := N, ct := N, bk := D.nx } σ H1 else D.nx σ H1
theorem ps_while {c : Expr} {body : List Stmt} {tc : TT} {tb : TS} (hp : PassesOwn (model X.prog X.w) X.A X.env X.xe) (hc : PT X c tc) (hb : PSs X body tb) : PS X (.While c body [] pos) (tWhile tc tb) := by
  intro pins s σ H D I h
  obtain ⟨W, ⟨m0, w0⟩, turn⟩ := h
  refine wpAny_While (codeAny_whileLoop (fun n s' => ∃ σ' H', Inv X pins σ' H' s' ∧ W n σ' H') ?_ m0 ⟨σ, H, I, w0⟩)
  rintro n s1 ⟨σ1, H1, I1, w1⟩
  refine wpAny_passesOwn hp (thn (hc pins s1 σ1 H1 _ I1 (turn n σ1 H1 w1)) fun b s2 ⟨H2, I2, q2⟩ => ?_)
  cases b with
  | true =>
    obtain ⟨N, hN, q2⟩ := q2
    rw [if_pos rfl]
    refine wpAny_passesOwn hp (thn (hb pins s2 σ1 H2 _ I2 q2) fun f s3 q3 => ?_)
    cases f with
    | next =>
      obtain ⟨σ3, H3, I3, n3⟩ := q3
      obtain ⟨m', hm, w3⟩ := hN σ3 H3 n3
      exact ⟨m', hm, σ3, H3, I3, w3⟩
    | cont =>
      obtain ⟨σ3, H3, I3, n3⟩ := q3
      obtain ⟨m', hm, w3⟩ := hN σ3 H3 n3
      exact ⟨m', hm, σ3, H3, I3, w3⟩
    | brk => exact q3
    | ret v => exact q3
  | false =>
    rw [if_neg Bool.false_ne_true]
    exact wpAny_execs_nil ⟨σ1, H2, I2, q2⟩
end
structure It where
  go : Nat → Hp → Prop
  yld : Nat → Hp → V → Hp → Prop
  stop : Nat → Hp → Prop
noncomputable def FpOk (X : Cx) (pins : List (Addr × Obj)) (H : Hp) (b : Addr) : Prop :=
  H b = none ∧ b ≠ X.env.locals ∧ b ∉ X.fs ∧ (b ∈ X.ex ∨ X.s₀.heap.objs.size ≤ b) ∧ (∀ x c, X.env.cells.lookup x = some c → c ≠ b) ∧ ∀ p ∈ X.pn ++ pins, p.1 ≠ b
theorem Inv.fpOk {X : Cx} {pins : List (Addr × Obj)} {σ : St} {H H' : Hp} {s : Shared} {b : Addr} (I : Inv X pins σ H s) (hb : s.heap.objs.size ≤ b) (hn : H' b = none) : FpOk X pins H' b := by
  refine ⟨hn, Nat.ne_of_gt (Nat.lt_of_lt_of_le I.lt hb), I.nofs hb, .inr (Nat.le_trans I.sz hb), fun x c e z => ?_, fun p hp z => ?_⟩
  · obtain ⟨v, q⟩ := I.cell x c e
    exact absurd (Nat.lt_of_lt_of_le q.lt (by rw [z]; exact hb)) (Nat.lt_irrefl _)
  · exact absurd (Nat.lt_of_lt_of_le (Heap.lt_size (I.pin p hp).1) (by rw [z]; exact hb)) (Nat.lt_irrefl _)
structure Turn (P : Program) (w : World) (K : PySem.W.Frag) (tg : Expr) (J : It) (fp : List Addr) (it : Addr) (tn : Nat → Heap → Prop) : Prop where
  mem : it ∈ fp
  obj : ∀ i h, tn i h → ∀ b ∈ fp, ∃ o, h.get? b = some o ∧ ∀ v, o.data ≠ .cell v
  keep : ∀ i h h', tn i h → (∀ b ∈ fp, ∀ o, h.get? b = some o → h'.get? b = some o) → tn i h'
  item : ∀ (X : Cx), X.prog = P → X.w = w → X.K = K → X.calm = true → ∀ (i : Nat) (pins : List (Addr × Obj)) (s : Shared) (σ : St) (H : Hp) (E : Value → Shared → Prop), Inv X pins σ H s → (∀ b ∈ fp, FpOk X pins H b) → tn i s.heap → J.go i H →
    wpAny (model P w) X.A (pyNext (.ref it)) (fun r s1 => ∃ u, r = some u ∧
      wpAny (model P w) X.A (letOwnedTupleGo tg (.ref it) u) (fun _ s2 => ∃ x H', Inv X pins σ H' s2 ∧ RelV x u ∧ J.yld i H x H' ∧ tn (i + 1) s2.heap ∧ ∀ b ∈ fp, H' b = none) E s1) E s
  done : ∀ (X : Cx), X.prog = P → X.w = w → X.K = K → X.calm = true → ∀ (i : Nat) (pins : List (Addr × Obj)) (s : Shared) (σ : St) (H : Hp) (E : Value → Shared → Prop), Inv X pins σ H s → (∀ b ∈ fp, FpOk X pins H b) → tn i s.heap → J.stop i H →
    wpAny (model P w) X.A (pyNext (.ref it)) (fun r s1 => r = none ∧ Inv X pins σ H s1) E s
  self : ∀ (A : Around) (i : Nat) (s : Shared) (Q : Value → Shared → Prop) (E : Value → Shared → Prop), tn i s.heap → Q (.ref it) s → wpAny (model P w) A (pyIter (.ref it)) Q E s
noncomputable abbrev TI := St → Hp → (It → Hp → Prop) → Prop
noncomputable def PIE (X : Cx) (pins : List (Addr × Obj)) (σ : St) (tg : Expr) (R : It → Hp → Prop) (itv : Value) (s2 : Shared) : Prop :=
  ∃ (it : Addr) (fp : List Addr) (tn : Nat → Heap → Prop) (J : It) (H' : Hp), itv = .ref it ∧ Inv X pins σ H' s2 ∧ Turn X.prog X.w X.K tg J fp it tn ∧ tn 0 s2.heap ∧ (∀ b ∈ fp, FpOk X pins H' b) ∧ R J H'
noncomputable def PI (X : Cx) (tg iter : Expr) (wi : TI) : Prop :=
  ∀ (pins : List (Addr × Obj)) (s : Shared) (σ : St) (H : Hp) (R : It → Hp → Prop), Inv X pins σ H s → wi σ H R →
    wpAny (model X.prog X.w) X.A (eval iter X.env) (fun v s1 => wpAny (model X.prog X.w) X.A (pyIter v) (PIE X pins σ tg R) X.xe s1) X.xe s
theorem go_of {M : Model} {A : Around} {E : Value → Shared → Prop} {s : Shared} {tg : Expr} {it : Addr} {u : Value} {o : Obj} {n : String} {vs : Array Value} {Q : Unit → Shared → Prop} (ho : s.heap.get? it = some o) (hc : o.cls = .type n) (hd : o.data = .fields vs)
    (hn : ["enumerate", "zip", "dict_itemiterator", "dict_reverseitemiterator", "odict_iterator", "itertools.zip_longest", "itertools.pairwise"].contains n = false) (hQ : Q () s) : wpAny M A (letOwnedTupleGo tg (.ref it) u) Q E s := by
  unfold letOwnedTupleGo
  cases tg <;> first
    | exact wpAny_pure hQ
    | (cases u <;> first
        | exact wpAny_pure hQ
        | (refine wpAny_bind (wpAny_load ho ?_)
           rw [hc, hd]
           show wpAny M A (if (["enumerate", "zip", "dict_itemiterator", "dict_reverseitemiterator", "odict_iterator", "itertools.zip_longest", "itertools.pairwise"].contains n && vs[0]? == some (rawInt _)) = true then _ else _) Q E s
           rw [if_neg (by intro h; rw [hn, Bool.false_and] at h; cases h)]
           exact wpAny_pure hQ))
noncomputable def Itl (K : PySem.W.Frag) (a : Addr) : It :=
  ⟨fun i H => ∃ xs x, SqL K H a xs ∧ xs[i]? = some x, fun i H x H' => H' = H ∧ ∀ xs, SqL K H a xs → xs[i]? = some x, fun i H => ∃ xs, SqL K H a xs ∧ xs.length ≤ i⟩
noncomputable def Itt (K : PySem.W.Frag) (a : Addr) : It :=
  ⟨fun i H => ∃ xs x, SqT K H a xs ∧ xs[i]? = some x, fun i H x H' => H' = H ∧ ∀ xs, SqT K H a xs → xs[i]? = some x, fun i H => ∃ xs, SqT K H a xs ∧ xs.length ≤ i⟩
noncomputable def Itr (lo : Int) (n : Nat) : It := ⟨fun i _ => i < n, fun i H x H' => H' = H ∧ x = .int (lo + i), fun i _ => n ≤ i⟩
theorem turn_list {P : Program} {w : World} {K : PySem.W.Frag} {tg : Expr} (a it : Addr) : Turn P w K tg (Itl K a) [it] it (fun i h => h.IsListIter it a i) where
  mem := by simp
  obj := fun i h st b hb => by
    have e : b = it := by simpa using hb
    subst e
    obtain ⟨o, e, c, d⟩ := st
    exact ⟨o, e, fun v z => by rw [d] at z; cases z⟩
  keep := fun i h h' st k => st.at fun o e => k it (by simp) o e
  item := by
    intro X hP hw hK hc i pins s σ H E I hf st hg
    subst hP hw hK
    obtain ⟨xs, x, hq, hx⟩ := hg
    obtain ⟨its, rv, p, hz⟩ := I.list hq
    obtain ⟨u, hu, ru⟩ := rv.get hx
    obtain ⟨f0, f1, f2, f3, f4, f5⟩ := hf it (by simp)
    refine wpAny_pyNext_list_item st p.isList (x := u) (by simpa using hu) fun h' st' sb => ?_
    have I1 : Inv X pins σ H { s with heap := h' } := I.turned (t' := s.toks) (fun b o hb e => (sb.2 b hb).trans e) f0 f1 f3 f4 f5
    obtain ⟨o, e, c, d⟩ := id st'
    exact ⟨u, rfl, go_of (s := { s with heap := h' }) e c d (by decide) ⟨x, H, I1, ru, ⟨rfl, fun ys hy => by rw [I.list_inj hy hq]; exact hx⟩, st', fun b hb => (hf b hb).1⟩⟩
  done := by
    intro X hP hw hK hc i pins s σ H E I hf st hg
    subst hP hw hK
    obtain ⟨xs, hq, hx⟩ := hg
    obtain ⟨its, rv, p, hz⟩ := I.list hq
    obtain ⟨f0, f1, f2, f3, f4, f5⟩ := hf it (by simp)
    have hl := rv.length
    exact wpAny_pyNext_list_end (I.ok.hd hc) st p.isList (by simp; omega) fun h' eb => ⟨rfl, I.turned (t' := s.toks) (fun b o hb e => eb b o hb e) f0 f1 f3 f4 f5⟩
  self := fun _ _ _ _ _ st h => wpAny_pyIter_listiter st h
theorem turn_tuple {P : Program} {w : World} {K : PySem.W.Frag} {tg : Expr} (a it : Addr) : Turn P w K tg (Itt K a) [it] it (fun i h => h.IsTupleIter it a i) where
  mem := by simp
  obj := fun i h st b hb => by
    have e : b = it := by simpa using hb
    subst e
    obtain ⟨o, e, c, d⟩ := st
    exact ⟨o, e, fun v z => by rw [d] at z; cases z⟩
  keep := fun i h h' st k => st.at fun o e => k it (by simp) o e
  item := by
    intro X hP hw hK hc i pins s σ H E I hf st hg
    subst hP hw hK
    obtain ⟨xs, x, hq, hx⟩ := hg
    obtain ⟨its, rv, p, hz⟩ := I.tuple hq
    obtain ⟨u, hu, ru⟩ := rv.get hx
    obtain ⟨f0, f1, f2, f3, f4, f5⟩ := hf it (by simp)
    refine wpAny_pyNext_tuple_item st (show s.heap.IsTuple a its.toArray from p) (x := u) (by simpa using hu) fun h' st' sb => ?_
    have I1 : Inv X pins σ H { s with heap := h' } := I.turned (t' := s.toks) (fun b o hb e => (sb.2 b hb).trans e) f0 f1 f3 f4 f5
    obtain ⟨o, e, c, d⟩ := id st'
    exact ⟨u, rfl, go_of (s := { s with heap := h' }) e c d (by decide) ⟨x, H, I1, ru, ⟨rfl, fun ys hy => by rw [I.tuple_inj hy hq]; exact hx⟩, st', fun b hb => (hf b hb).1⟩⟩
  done := by
    intro X hP hw hK hc i pins s σ H E I hf st hg
    subst hP hw hK
    obtain ⟨xs, hq, hx⟩ := hg
    obtain ⟨its, rv, p, hz⟩ := I.tuple hq
    obtain ⟨f0, f1, f2, f3, f4, f5⟩ := hf it (by simp)
    have hl := rv.length
    exact wpAny_pyNext_tuple_end (I.ok.hd hc) st (show s.heap.IsTuple a its.toArray from p) (by simp; omega) fun h' eb => ⟨rfl, I.turned (t' := s.toks) (fun b o hb e => eb b o hb e) f0 f1 f3 f4 f5⟩
  self := fun _ _ _ _ _ st h => wpAny_pyIter_tupleiter st h
theorem turn_range {P : Program} {w : World} {K : PySem.W.Frag} {tg : Expr} (it : Addr) (lo : Int) (n : Nat) : Turn P w K tg (Itr lo n) [it] it (fun i h => IsRangeIter h it (lo + (i : Nat) * 1) ((n : Int) - (i : Nat)) 1) where
  mem := by simp
  obj := fun i h st b hb => by
    have e : b = it := by simpa using hb
    subst e
    exact ⟨_, st, fun v z => by
      have z' : Data.fields _ = Data.cell v := z
      cases z'⟩
  keep := fun i h h' st k => k it (by simp) _ st
  item := by
    intro X hP hw hK hc i pins s σ H E I hf st hg
    subst hP hw hK
    obtain ⟨f0, f1, f2, f3, f4, f5⟩ := hf it (by simp)
    have W := Walks.range (prog := X.prog) (w := X.w) (I.ok.hd hc) it lo 1 n
    refine W.item i s _ _ hg st fun v h' tk hv st' kk => ?_
    obtain ⟨t, rfl⟩ := hv
    have I1 : Inv X pins σ H { s with heap := h', toks := tk } := I.turned (fun b o hb e => kk b o (by simpa using hb) e) f0 f1 f3 f4 f5
    refine ⟨_, rfl, go_of (s := { s with heap := h', toks := tk }) (n := "range_iterator") st' rfl rfl (by decide) ⟨.int (lo + i), H, I1, ⟨t, ?_⟩, ⟨rfl, rfl⟩, st', fun b hb => (hf b hb).1⟩⟩
    rw [Int.mul_one]
  done := by
    intro X hP hw hK hc i pins s σ H E I hf st hg
    subst hP hw hK
    obtain ⟨f0, f1, f2, f3, f4, f5⟩ := hf it (by simp)
    exact wpAny_pyNext_range_end (I.ok.hd hc) st (by have : n ≤ i := hg; omega) fun h' eb => ⟨rfl, I.turned (t' := s.toks) (fun b o hb e => eb b o hb e) f0 f1 f3 f4 f5⟩
  self := fun _ _ _ _ _ st h => wpAny_pyIter_rangeiter st h
end L2
namespace L2
open PySem PySem.Spec PyProof.Rows
section
variable {X : Cx} {tg : Expr}
noncomputable def iList (K : PySem.W.Frag) (tl : TE) : TI := fun σ H R => tl σ H fun x H1 => ∃ a, x = .ref a ∧ (∃ xs, SqL K H1 a xs) ∧ R (Itl K a) H1
noncomputable def iTup (K : PySem.W.Frag) (tl : TE) : TI := fun σ H R => tl σ H fun x H1 => ∃ a, x = .ref a ∧ (∃ xs, SqT K H1 a xs) ∧ R (Itt K a) H1
theorem pi_list {l : Expr} {tl : TE} (hl : PE X l tl) : PI X tg l (iList X.K tl) := by
  intro pins s σ H R I h
  refine thn (hl pins s σ H _ I h) fun v s1 ⟨x, H1, I1, r1, q1⟩ => ?_
  obtain ⟨a, e, ⟨xs, hq⟩, q⟩ := q1
  subst e
  cases r1
  obtain ⟨its, rv, p, hz⟩ := I1.list hq
  refine wpAny_pyIter_list p.isList ?_
  refine ⟨s1.heap.objs.size, [s1.heap.objs.size], _, _, H1, rfl, I1.kept (t' := s1.toks) fun b o e => Heap.get?_push_of_some _ e, turn_list a _, ⟨_, Heap.get?_push_size _ rfl, rfl, rfl⟩, fun b hb => ?_, q⟩
  have e : b = s1.heap.objs.size := by simpa using hb
  subst e
  exact I1.fpOk (Nat.le_refl _) (I1.hok.fresh (Nat.le_refl _))
theorem pi_tup {l : Expr} {tl : TE} (hl : PE X l tl) : PI X tg l (iTup X.K tl) := by
  intro pins s σ H R I h
  refine thn (hl pins s σ H _ I h) fun v s1 ⟨x, H1, I1, r1, q1⟩ => ?_
  obtain ⟨a, e, ⟨xs, hq⟩, q⟩ := q1
  subst e
  cases r1
  obtain ⟨its, rv, p, hz⟩ := I1.tuple hq
  refine wpAny_pyIter_tuple (show s1.heap.IsTuple a its.toArray from p) ?_
  refine ⟨s1.heap.objs.size, [s1.heap.objs.size], _, _, H1, rfl, I1.kept (t' := s1.toks) fun b o e => Heap.get?_push_of_some _ e, turn_tuple a _, ⟨_, Heap.get?_push_size _ rfl, rfl, rfl⟩, fun b hb => ?_, q⟩
  have e : b = s1.heap.objs.size := by simpa using hb
  subst e
  exact I1.fpOk (Nat.le_refl _) (I1.hok.fresh (Nat.le_refl _))
theorem range_it {pins : List (Addr × Obj)} {σ : St} {H : Hp} {s : Shared} {R : It → Hp → Prop} {E : Value → Shared → Prop} {lo hi : Int} {t u v : Tok} {tk : Nat} (I : Inv X pins σ H s) (h1 : -(2 ^ 62) ≤ lo) (h2 : lo < 2 ^ 62) (h3 : -(2 ^ 62) ≤ hi) (h4 : hi < 2 ^ 62)
    (q : R (Itr lo (hi - lo).toNat) H) : wpAny (model X.prog X.w) X.A (pyIter (.ref s.heap.objs.size)) (PIE X pins σ tg R) E { s with heap := s.heap.push { cls := .type "range", data := .fields #[.int lo t, .int hi u, .int 1 v] }, toks := tk } := by
  refine wpAny_pyIter_range (IsRange.new ..) (small_one h1 h2 h3 h4) ?_
  have I1 : Inv X pins σ H { s with heap := s.heap.push { cls := .type "range", data := .fields #[.int lo t, .int hi u, .int 1 v] }, toks := tk } := I.kept fun b o e => Heap.get?_push_of_some _ e
  refine ⟨(s.heap.push { cls := .type "range", data := .fields #[.int lo t, .int hi u, .int 1 v] }).objs.size, [(s.heap.push { cls := .type "range", data := .fields #[.int lo t, .int hi u, .int 1 v] }).objs.size], _, _, H, rfl,
    I1.kept (t' := tk) fun b o e => Heap.get?_push_of_some _ e, turn_range _ lo (hi - lo).toNat, ?_, fun b hb => ?_, q⟩
  · have e1 : lo + ((0 : Nat) : Int) * 1 = lo := by simp
    have e2 : (((hi - lo).toNat : Nat) : Int) - ((0 : Nat) : Int) = Builtin.Range.rangeSize lo hi 1 := by rw [rangeSize_one]; split <;> omega
    show IsRangeIter _ _ (lo + ((0 : Nat) : Int) * 1) ((((hi - lo).toNat : Nat) : Int) - ((0 : Nat) : Int)) 1
    rw [e1, e2]
    exact Heap.get?_push_size _ rfl
  · have e : b = (s.heap.push { cls := .type "range", data := .fields #[.int lo t, .int hi u, .int 1 v] }).objs.size := by simpa using hb
    subst e
    exact I1.fpOk (Nat.le_refl _) (I1.hok.fresh (Nat.le_refl _))
noncomputable def iRng1 (ta : TA) : TI := fun σ H R => ta σ H fun vs H1 => ∃ j : Int, vs = [.int j] ∧ -(2 ^ 62) ≤ j ∧ j < 2 ^ 62 ∧ R (Itr 0 j.toNat) H1
noncomputable def iRng2 (ta : TA) : TI := fun σ H R => ta σ H fun vs H1 => ∃ i j : Int, vs = [.int i, .int j] ∧ (-(2 ^ 62) ≤ i ∧ i < 2 ^ 62 ∧ -(2 ^ 62) ≤ j ∧ j < 2 ^ 62) ∧ R (Itr i (j - i).toNat) H1
theorem pi_range1 {a : Expr} {ta : TA} {p pos : Pos} (hg : Gl X "range") (hm : X.mg "range" = none) (ha : PA X [a] ta) (hs : starEach [a] X.env = [(false, eval a X.env)] := by rfl) : PI X tg (.Call (.Name "range" p) [a] [] pos) (iRng1 ta) := by
  intro pins s σ H R I h
  refine Call_ (ld_blt I hg hm boot_range (PyProof.Rows.callWith_type1 (thn (ha pos pins s σ H _ I h) fun us s1 ⟨vs, H1, I1, r1, q1⟩ => ?_) hs rfl))
  obtain ⟨j, e, q1, q2, q⟩ := q1
  subst e
  cases r1 with
  | cons r rr =>
    cases rr
    obtain ⟨t, rfl⟩ := r
    exact call_range_1 (range_it I1 (by omega) (by omega) q1 q2 (by simpa using q))
theorem pi_range2 {a b : Expr} {ta : TA} {p pos : Pos} (hg : Gl X "range") (hm : X.mg "range" = none) (ha : PA X [a, b] ta) (hs : starEach [a, b] X.env = [(false, eval a X.env), (false, eval b X.env)] := by rfl) (hs2 : starEach [b] X.env = [(false, eval b X.env)] := by rfl) :
    PI X tg (.Call (.Name "range" p) [a, b] [] pos) (iRng2 ta) := by
  intro pins s σ H R I h
  refine Call_ (ld_blt I hg hm boot_range (PyProof.Rows.callWith_type1 (thn (ha pos pins s σ H _ I h) fun us s1 ⟨vs, H1, I1, r1, q1⟩ => ?_) (by rw [hs, hs2]) (by rw [hs2]; rfl)))
  obtain ⟨i, j, e, ⟨q1, q2, q3, q4⟩, q⟩ := q1
  subst e
  cases r1 with
  | cons r rr =>
    cases rr with
    | cons r' rr =>
      cases rr
      obtain ⟨t, rfl⟩ := r
      obtain ⟨t', rfl⟩ := r'
      exact call_range_2 (range_it I1 q1 q2 q3 q4 q)
noncomputable def tFor (wi : TI) (g : TG) (tb : TS) : TS := fun D σ H => wi σ H fun J H1 => ∃ W : Nat → Nat → St → Hp → Prop, (∃ m, W 0 m σ H1) ∧ ∀ i m σ H, W i m σ H →
  (J.stop i H ∧ D.nx σ H) ∨ (J.go i H ∧ ∃ N : St → Hp → Prop, (∀ σ' H', N σ' H' → ∃ m', m' < m ∧ W (i + 1) m' σ' H') ∧ ∀ x H', J.yld i H x H' → g x σ H' fun σ2 H2 => tb { D with nx := N, ct := N, bk := D.nx } σ2 H2)
noncomputable def pinsAt (fp : List Addr) (h : Heap) : List (Addr × Obj) := fp.filterMap fun b => (h.get? b).map fun o => (b, o)
theorem mem_pinsAt {fp : List Addr} {h : Heap} {b : Addr} {o : Obj} (hb : b ∈ fp) (e : h.get? b = some o) : (b, o) ∈ pinsAt fp h := List.mem_filterMap.mpr ⟨b, hb, by rw [e]; rfl⟩
theorem of_pinsAt {fp : List Addr} {h : Heap} {p : Addr × Obj} (hp : p ∈ pinsAt fp h) : p.1 ∈ fp ∧ h.get? p.1 = some p.2 := by
  obtain ⟨b, hb, e⟩ := List.mem_filterMap.mp hp
  cases q : h.get? b with
  | none => rw [q] at e; cases e
  | some o =>
    rw [q] at e
    have e' : (b, o) = p := Option.some.inj e
    subst e'
    exact ⟨hb, q⟩
theorem Inv.pinned {pins : List (Addr × Obj)} {σ : St} {H : Hp} {s : Shared} {fp : List Addr} (I : Inv X pins σ H s) (hf : ∀ b ∈ fp, FpOk X pins H b) (ho : ∀ b ∈ fp, ∃ o, s.heap.get? b = some o ∧ ∀ v, o.data ≠ .cell v) : Inv X (pins ++ pinsAt fp s.heap) σ H s :=
  I.pins_of fun p hp => (List.mem_append.mp hp).elim (fun z => I.pin p (List.mem_append_right _ z)) fun z => by
    obtain ⟨hb, e⟩ := of_pinsAt z
    obtain ⟨f0, f1, f2, _⟩ := hf p.1 hb
    obtain ⟨o, e', d⟩ := ho p.1 hb
    rw [e] at e'; cases e'
    exact ⟨e, f0, f1, f2, d⟩
theorem Inv.unpinned {pins pl : List (Addr × Obj)} {σ : St} {H : Hp} {s : Shared} (I : Inv X (pins ++ pl) σ H s) : Inv X pins σ H s := I.pins_of fun p hp => I.pin p (List.mem_append_right _ (List.mem_append_left _ hp))
theorem ps_for {iter : Expr} {body : List Stmt} {wi : TI} {g : TG} {tb : TS} {pos : Pos} (hp : PassesOwn (model X.prog X.w) X.A X.env X.xe) (hc : X.calm = true) (hi : PI X tg iter wi) (hg : PG X tg g) (hb : PSs X body tb)
    (hs : ∀ x, foldedSetIterable iter X.env x = pure x := by intro _; rfl) : PS X (.For tg iter body [] pos) (tFor wi g tb) := by
  intro pins s σ H D I h
  refine wpAny_For (thn (hi pins s σ H _ I h) fun v s1 h1 => thn h1 fun itv s2 h2 => ?_) hs
  obtain ⟨it, fp, tn, J, H2, e, I2, T, st2, f2, W, ⟨m0, w0⟩, turn⟩ := h2
  subst e
  have stat : ∀ {H' : Hp}, (∀ b ∈ fp, H' b = none) → ∀ b ∈ fp, FpOk X pins H' b := fun hn b hb => ⟨hn b hb, (f2 b hb).2⟩
  refine codeAny_forLoop_any (fun n s' => ∃ i σ' H', Inv X pins σ' H' s' ∧ tn i s'.heap ∧ (∀ b ∈ fp, H' b = none) ∧ W i n σ' H') ?_ m0 ⟨0, σ, H2, I2, st2, fun b hb => (f2 b hb).1, w0⟩
  rintro n s3 ⟨i, σ3, H3, I3, st3, fr3, w3⟩
  rcases turn i n σ3 H3 w3 with ⟨stop, qn⟩ | ⟨go, N, hN, step⟩
  · refine wpAny_passesOwn hp (thn (T.done X rfl rfl rfl hc i pins s3 σ3 H3 X.xe I3 (stat fr3) st3 stop) fun r s4 ⟨hr, I4⟩ => ?_)
    subst hr
    exact wpAny_execs_nil ⟨σ3, H3, I4, qn⟩
  · refine wpAny_passesOwn hp (thn (T.item X rfl rfl rfl hc i pins s3 σ3 H3 X.xe I3 (stat fr3) st3 go) fun r s4 ⟨u, hr, h4⟩ => ?_)
    subst hr
    refine wpAny_passesOwn hp (thn h4 fun _ s5 ⟨x, H5, I5, r5, y5, st5, fr5⟩ => ?_)
    have I5' := I5.pinned (stat fr5) (T.obj _ _ st5)
    refine wpAny_passesOwn hp (thn (hg _ s5 σ3 H5 x u _ I5' r5 (step x H5 y5)) fun _ s6 ⟨σ6, H6, I6, q6⟩ => ?_)
    refine wpAny_passesOwn hp (thn (hb _ s6 σ6 H6 _ I6 q6) fun f s7 q7 => ?_)
    have again : ∀ {σ7 : St} {H7 : Hp}, Inv X (pins ++ pinsAt fp s5.heap) σ7 H7 s7 → N σ7 H7 → ∃ m, m < n ∧ ∃ i σ' H', Inv X pins σ' H' s7 ∧ tn i s7.heap ∧ (∀ b ∈ fp, H' b = none) ∧ W i m σ' H' := fun {σ7 H7} I7 n7 => by
      obtain ⟨m', hm, w7⟩ := hN σ7 H7 n7
      refine ⟨m', hm, i + 1, σ7, H7, I7.unpinned, T.keep _ _ _ st5 fun b hb o e => (I7.pin (b, o) (List.mem_append_right _ (List.mem_append_right _ (mem_pinsAt hb e)))).1, fun b hb => ?_, w7⟩
      obtain ⟨o, e, d⟩ := T.obj _ _ st5 b hb
      exact (I7.pin (b, o) (List.mem_append_right _ (List.mem_append_right _ (mem_pinsAt hb e)))).2.1
    cases f with
    | next => obtain ⟨σ7, H7, I7, n7⟩ := q7; exact again I7 n7
    | cont => obtain ⟨σ7, H7, I7, n7⟩ := q7; exact again I7 n7
    | brk => obtain ⟨σ7, H7, I7, q7⟩ := q7; exact ⟨σ7, H7, I7.unpinned, q7⟩
    | ret v => obtain ⟨x7, σ7, H7, I7, r7, q7⟩ := q7; exact ⟨x7, σ7, H7, I7.unpinned, r7, q7⟩
end
theorem for_list {K : PySem.W.Frag} {a : Addr} {xs : List V} {g : TG} {tb : TS} {D : Ends} {σ : St} {H : Hp} (Pv : Nat → St → Hp → Prop) (h0 : Pv 0 σ H) (hl : ∀ i σ H, i ≤ xs.length → Pv i σ H → SqL K H a xs)
    (hs : ∀ i x σ H, xs[i]? = some x → Pv i σ H → g x σ H fun σ2 H2 => tb { D with nx := Pv (i + 1), ct := Pv (i + 1), bk := D.nx } σ2 H2) (hd : ∀ σ H, Pv xs.length σ H → D.nx σ H) :
    ∃ W : Nat → Nat → St → Hp → Prop, (∃ m, W 0 m σ H) ∧ ∀ i m σ H, W i m σ H →
      ((Itl K a).stop i H ∧ D.nx σ H) ∨ ((Itl K a).go i H ∧ ∃ N : St → Hp → Prop, (∀ σ' H', N σ' H' → ∃ m', m' < m ∧ W (i + 1) m' σ' H') ∧ ∀ x H', (Itl K a).yld i H x H' → g x σ H' fun σ2 H2 => tb { D with nx := N, ct := N, bk := D.nx } σ2 H2) := by
  refine ⟨fun i m σ H => m = xs.length - i ∧ i ≤ xs.length ∧ Pv i σ H, ⟨xs.length, by simp, Nat.zero_le _, h0⟩, ?_⟩
  rintro i m σ H ⟨rfl, hi, p⟩
  have q := hl i σ H hi p
  by_cases hlt : i < xs.length
  · refine .inr ⟨⟨xs, xs[i], q, by simp [hlt]⟩, Pv (i + 1), fun σ' H' p' => ⟨xs.length - (i + 1), by omega, rfl, hlt, p'⟩, fun x H' y => ?_⟩
    obtain ⟨e, y⟩ := y
    subst e
    exact hs i x σ _ (y xs q) p
  · have e : i = xs.length := by omega
    subst e
    exact .inl ⟨⟨xs, q, Nat.le_refl _⟩, hd σ H p⟩
theorem for_range {lo : Int} {n : Nat} {g : TG} {tb : TS} {D : Ends} {σ : St} {H : Hp} (Pv : Nat → St → Hp → Prop) (h0 : Pv 0 σ H)
    (hs : ∀ i σ H, i < n → Pv i σ H → g (.int (lo + i)) σ H fun σ2 H2 => tb { D with nx := Pv (i + 1), ct := Pv (i + 1), bk := D.nx } σ2 H2) (hd : ∀ σ H, Pv n σ H → D.nx σ H) :
    ∃ W : Nat → Nat → St → Hp → Prop, (∃ m, W 0 m σ H) ∧ ∀ i m σ H, W i m σ H →
      ((Itr lo n).stop i H ∧ D.nx σ H) ∨ ((Itr lo n).go i H ∧ ∃ N : St → Hp → Prop, (∀ σ' H', N σ' H' → ∃ m', m' < m ∧ W (i + 1) m' σ' H') ∧ ∀ x H', (Itr lo n).yld i H x H' → g x σ H' fun σ2 H2 => tb { D with nx := N, ct := N, bk := D.nx } σ2 H2) := by
  refine ⟨fun i m σ H => m = n - i ∧ i ≤ n ∧ Pv i σ H, ⟨n, by simp, Nat.zero_le _, h0⟩, ?_⟩
  rintro i m σ H ⟨rfl, hi, p⟩
  by_cases hlt : i < n
  · refine .inr ⟨hlt, Pv (i + 1), fun σ' H' p' => ⟨n - (i + 1), by omega, rfl, hlt, p'⟩, fun x H' y => ?_⟩
    obtain ⟨e, y⟩ := y
    subst e y
    exact hs i σ _ hlt p
  · have e : i = n := by omega
    subst e
    exact .inl ⟨Nat.le_refl _, hd σ H p⟩
end L2
namespace L2
open PySem PySem.Spec PyProof.Rows
noncomputable abbrev R2 := V → V → Hp → VK → Prop
noncomputable def OpR (X : Cx) (f : Value → Value → Sem Value) (r : R2) : Prop :=
  ∀ (pins : List (Addr × Obj)) (s : Shared) (σ : St) (H : Hp) (x y : V) (v u : Value) (Q : VK), Inv X pins σ H s → RelV x v → RelV y u → r x y H Q →
    wpAny (model X.prog X.w) X.A (f v u) (EP X pins σ Q) X.xe s
noncomputable def CallR (X : Cx) (f : Value) (r : List V → Hp → VK → Prop) : Prop :=
  ∀ (pins : List (Addr × Obj)) (s : Shared) (σ : St) (H : Hp) (xs : List V) (us : List Value) (Q : VK), Inv X pins σ H s → Vals xs us → r xs H Q →
    wpAny (model X.prog X.w) X.A (call f us) (EP X pins σ Q) X.xe s
noncomputable def tOp (r : R2) (ta tb : TE) : TE := fun σ H Q => ta σ H fun x H1 => tb σ H1 fun y H2 => r x y H2 Q
noncomputable def tUn (r : V → Hp → VK → Prop) (ta : TE) : TE := fun σ H Q => ta σ H fun x H1 => r x H1 Q
noncomputable def rI (C : Int → Int → Prop) (g : Int → Int → V) : R2 := fun x y H Q => ∃ i j, x = .int i ∧ y = .int j ∧ C i j ∧ Q (g i j) H
noncomputable def rI0 (g : Int → Int → V) : R2 := fun x y H Q => ∃ i j, x = .int i ∧ y = .int j ∧ Q (g i j) H
noncomputable def rU (g : Int → V) : V → Hp → VK → Prop := fun x H Q => ∃ i, x = .int i ∧ Q (g i) H
section
variable {X : Cx} {a b c : Expr} {ta tb tc : TE} {pos : Pos}
theorem binT (ha : PE X a ta) (hb : PE X b tb) {pins : List (Addr × Obj)} {s : Shared} {σ : St} {H : Hp} {R : V → V → Hp → Prop} (I : Inv X pins σ H s)
    (h : ta σ H fun x H1 => tb σ H1 fun y H2 => R x y H2) {Q : Value → Shared → Prop} {f : Value → Value → Sem Value}
    (hf : ∀ v u s2 x y H2, Inv X pins σ H2 s2 → RelV x v → RelV y u → R x y H2 → wpAny (model X.prog X.w) X.A (f v u) Q X.xe s2) :
    wpAny (model X.prog X.w) X.A (eval a X.env) (fun v s₁ => wpAny (model X.prog X.w) X.A (eval b X.env) (fun u s₂ => wpAny (model X.prog X.w) X.A (f v u) Q X.xe s₂) X.xe s₁) X.xe s := by
  refine thn (ha pins s σ H _ I h) fun v s1 ⟨x, H1, I1, r1, q1⟩ => ?_
  refine thn (hb pins s1 σ H1 _ I1 q1) fun u s2 ⟨y, H2, I2, r2, q2⟩ => ?_
  exact hf v u s2 x y H2 I2 r1 r2 q2
theorem pe_op {op : Operator} {r : R2} (ho : OpR X (binaryOp op) r) (ha : PE X a ta) (hb : PE X b tb) : PE X (.BinOp a op b pos) (tOp r ta tb) := by
  intro pins s σ H Q I h
  exact wpAny_BinOp (binT ha hb I h fun v u s2 x y H2 I2 rx ry q => ho pins s2 σ H2 x y v u Q I2 rx ry q)
theorem opI {f : Value → Value → Sem Value} {C : Int → Int → Prop} {g : Int → Int → Int}
    (rule : ∀ (i j : Int) (t u : Tok) (s : Shared) (Q : Value → Shared → Prop) (E : Value → Shared → Prop), C i j → Q (.int (g i j) s.toks) { s with toks := s.toks + 1 } → wpAny (model X.prog X.w) X.A (f (.int i t) (.int j u)) Q E s) :
    OpR X f (rI C fun i j => .int (g i j)) := by
  intro pins s σ H x y v u Q I rx ry h
  obtain ⟨i, j, rfl, rfl, hc, q⟩ := h
  obtain ⟨t, rfl⟩ := rx
  obtain ⟨t', rfl⟩ := ry
  exact rule i j t t' s _ _ hc ⟨.int (g i j), H, I.tok _, ⟨_, rfl⟩, q⟩
theorem opI0 {f : Value → Value → Sem Value} {g : Int → Int → Int}
    (rule : ∀ (i j : Int) (t u : Tok) (s : Shared) (Q : Value → Shared → Prop) (E : Value → Shared → Prop), Q (.int (g i j) s.toks) { s with toks := s.toks + 1 } → wpAny (model X.prog X.w) X.A (f (.int i t) (.int j u)) Q E s) :
    OpR X f (rI0 fun i j => .int (g i j)) := by
  intro pins s σ H x y v u Q I rx ry h
  obtain ⟨i, j, rfl, rfl, q⟩ := h
  obtain ⟨t, rfl⟩ := rx
  obtain ⟨t', rfl⟩ := ry
  exact rule i j t t' s _ _ ⟨.int (g i j), H, I.tok _, ⟨_, rfl⟩, q⟩
theorem opB0 {f : Value → Value → Sem Value} {g : Int → Int → Bool}
    (rule : ∀ (i j : Int) (t u : Tok) (s : Shared) (Q : Value → Shared → Prop) (E : Value → Shared → Prop), Q (.bool (g i j)) s → wpAny (model X.prog X.w) X.A (f (.int i t) (.int j u)) Q E s) :
    OpR X f (rI0 fun i j => .bl (g i j)) := by
  intro pins s σ H x y v u Q I rx ry h
  obtain ⟨i, j, rfl, rfl, q⟩ := h
  obtain ⟨t, rfl⟩ := rx
  obtain ⟨t', rfl⟩ := ry
  exact rule i j t t' s _ _ ⟨.bl (g i j), H, I, rfl, q⟩
noncomputable def CDiv (i j : Int) : Prop := 0 < j ∧ j < 1073741824
noncomputable def CPow (i j : Int) : Prop := 0 ≤ j ∧ j ≤ 1000000 ∧ i.natAbs < 2 ^ 64
noncomputable def CMul (i j : Int) : Prop := (-(2 ^ 64) < i ∧ i < 2 ^ 64) ∨ (-(2 ^ 64) < j ∧ j < 2 ^ 64)
theorem CMul.ok {i j : Int} (h : CMul i j) : IntMulOk i j := by
  rcases h with ⟨h1, h2⟩ | ⟨h1, h2⟩
  · exact .of_left (intBits_le_64 h1 h2)
  · exact .of_right (intBits_le_64 h1 h2)
theorem op_add : OpR X (binaryOp .Add) (rI0 fun i j => .int (i + j)) := opI0 fun _ _ _ _ _ _ _ q => add_int q
theorem op_sub : OpR X (binaryOp .Sub) (rI0 fun i j => .int (i - j)) := opI0 fun _ _ _ _ _ _ _ q => sub_int q
theorem op_mul : OpR X (binaryOp .Mult) (rI CMul fun i j => .int (i * j)) := opI fun _ _ _ _ _ _ _ hc q => mul_int q hc.ok
theorem op_fdiv : OpR X (binaryOp .FloorDiv) (rI CDiv fun i j => .int (i / j)) := opI fun i j _ _ _ _ _ hc q => by
  have h1 : (0 : Int) < j := hc.1
  have h2 : j < 1073741824 := hc.2
  exact floordiv_int (by omega) (by rw [Int.fdiv_eq_ediv_of_nonneg i (by omega)]; exact q) (.inl (PyProof.noPylong_small (by omega)))
theorem op_mod : OpR X (binaryOp .Mod) (rI (fun _ j => 0 < j) fun i j => .int (i % j)) := opI fun i j _ _ _ _ _ hc q => by
  have h1 : (0 : Int) < j := hc
  exact mod_int' (by omega) (by rw [Int.fmod_eq_emod_of_nonneg i (by omega)]; exact q)
theorem op_pow : OpR X (binaryOp .Pow) (rI CPow fun i j => .int (i ^ j.toNat)) := opI fun _ _ _ _ _ _ _ hc q => pow_int_small hc.1 hc.2.1 hc.2.2 q
end
noncomputable def scal : V → V → Bool
  | .non, .non => true | .non, .int _ => true | .int _, .non => true | .non, .bl _ => true | .bl _, .non => true | .non, .str _ => true | .str _, .non => true
  | .int _, .int _ => true | .bl _, .bl _ => true | .str _, .str _ => true | .byt _, .byt _ => true
  | .int _, .str _ => true | .str _, .int _ => true | .bl _, .str _ => true | .str _, .bl _ => true
  | _, _ => false
noncomputable def rEq : R2 := fun x y H Q => scal x y = true ∧ Q (.bl (decide (x = y))) H
noncomputable def rNe : R2 := fun x y H Q => scal x y = true ∧ Q (.bl (!decide (x = y))) H
theorem dec_int {i j : Int} : decide (V.int i = V.int j) = (i == j) := by
  rw [Bool.eq_iff_iff]
  simp
theorem dec_bl {i j : Bool} : decide (V.bl i = V.bl j) = (i == j) := by
  rw [Bool.eq_iff_iff]
  simp
theorem dec_str {i j : Str} : decide (V.str i = V.str j) = (i == j) := by
  rw [Bool.eq_iff_iff]
  simp
theorem dec_byt {i j : Array UInt8} : decide (V.byt i = V.byt j) = (i.toList == j.toList) := by
  rw [Bool.eq_iff_iff]
  cases i
  cases j
  simp
section
variable {X : Cx} {a b c : Expr} {ta tb tc : TE} {pos : Pos}
theorem fin_bl {pins : List (Addr × Obj)} {σ : St} {H : Hp} {s : Shared} {Q : VK} {k k' : Bool} (I : Inv X pins σ H s) (q : Q (.bl k) H) (e : k = k') : EP X pins σ Q (.bool k') s := by
  subst e
  exact ⟨.bl k, H, I, rfl, q⟩
theorem op_eq : OpR X (compareOp .Eq) rEq := by
  intro pins s σ H x y v u Q I rx ry h
  obtain ⟨hs, q⟩ := h
  cases x with
  | non =>
    cases rx
    cases y with
    | non => cases ry; exact PySem.EqNone.eq_none_none (fin_bl I q (by simp))
    | bl j => cases ry; exact PySem.EqNone.eq_none_bool (fin_bl I q (by simp))
    | int j => obtain ⟨t', rfl⟩ := ry; exact PySem.EqNone.eq_none_int (fin_bl I q (by simp))
    | str j => obtain ⟨t', rfl⟩ := ry; exact PySem.EqNone.eq_none_str (fin_bl I q (by simp))
    | _ => exact absurd (show false = true from hs) Bool.false_ne_true
  | bl i =>
    cases rx
    cases y with
    | non => cases ry; exact PySem.EqNone.eq_bool_none (fin_bl I q (by simp))
    | bl j => cases ry; exact eq_bool (fin_bl I q dec_bl)
    | str j => obtain ⟨t', rfl⟩ := ry; exact PySem.EqMixed.eq_bool_str (fin_bl I q (by simp))
    | _ => exact absurd (show false = true from hs) Bool.false_ne_true
  | int i =>
    obtain ⟨t, rfl⟩ := rx
    cases y with
    | non => cases ry; exact PySem.EqNone.eq_int_none (fin_bl I q (by simp))
    | int j => obtain ⟨t', rfl⟩ := ry; exact eq_int (fin_bl I q dec_int)
    | str j => obtain ⟨t', rfl⟩ := ry; exact PySem.EqMixed.eq_int_str (fin_bl I q (by simp))
    | _ => exact absurd (show false = true from hs) Bool.false_ne_true
  | str i =>
    obtain ⟨t, rfl⟩ := rx
    cases y with
    | non => cases ry; exact PySem.EqNone.eq_str_none (fin_bl I q (by simp))
    | bl j => cases ry; exact PySem.EqMixed.eq_str_bool (fin_bl I q (by simp))
    | int j => obtain ⟨t', rfl⟩ := ry; exact PySem.EqMixed.eq_str_int (fin_bl I q (by simp))
    | str j => obtain ⟨t', rfl⟩ := ry; exact eq_str (fin_bl I q dec_str)
    | _ => exact absurd (show false = true from hs) Bool.false_ne_true
  | byt i =>
    obtain ⟨t, rfl⟩ := rx
    cases y with
    | byt j => obtain ⟨t', rfl⟩ := ry; exact PySem.W.eq_bytes (fin_bl I q dec_byt)
    | _ => exact absurd (show false = true from hs) Bool.false_ne_true
  | _ => cases y <;> exact absurd (show false = true from hs) Bool.false_ne_true
theorem op_ne : OpR X (compareOp .NotEq) rNe := by
  intro pins s σ H x y v u Q I rx ry h
  obtain ⟨hs, q⟩ := h
  cases x with
  | non =>
    cases rx
    cases y with
    | non => cases ry; exact PySem.EqNone.ne_none_none (fin_bl I q (by simp))
    | bl j => cases ry; exact PySem.EqNone.ne_none_bool (fin_bl I q (by simp))
    | int j => obtain ⟨t', rfl⟩ := ry; exact PySem.EqNone.ne_none_int (fin_bl I q (by simp))
    | str j => obtain ⟨t', rfl⟩ := ry; exact PySem.EqNone.ne_none_str (fin_bl I q (by simp))
    | _ => exact absurd (show false = true from hs) Bool.false_ne_true
  | bl i =>
    cases rx
    cases y with
    | non => cases ry; exact PySem.EqNone.ne_bool_none (fin_bl I q (by simp))
    | bl j => cases ry; exact ne_bool (fin_bl I q (congrArg not dec_bl))
    | str j => obtain ⟨t', rfl⟩ := ry; exact PySem.EqMixed.ne_bool_str (fin_bl I q (by simp))
    | _ => exact absurd (show false = true from hs) Bool.false_ne_true
  | int i =>
    obtain ⟨t, rfl⟩ := rx
    cases y with
    | non => cases ry; exact PySem.EqNone.ne_int_none (fin_bl I q (by simp))
    | int j => obtain ⟨t', rfl⟩ := ry; exact ne_int (fin_bl I q (congrArg not dec_int))
    | str j => obtain ⟨t', rfl⟩ := ry; exact PySem.EqMixed.ne_int_str (fin_bl I q (by simp))
    | _ => exact absurd (show false = true from hs) Bool.false_ne_true
  | str i =>
    obtain ⟨t, rfl⟩ := rx
    cases y with
    | non => cases ry; exact PySem.EqNone.ne_str_none (fin_bl I q (by simp))
    | bl j => cases ry; exact PySem.EqMixed.ne_str_bool (fin_bl I q (by simp))
    | int j => obtain ⟨t', rfl⟩ := ry; exact PySem.EqMixed.ne_str_int (fin_bl I q (by simp))
    | str j => obtain ⟨t', rfl⟩ := ry; exact ne_str (fin_bl I q (congrArg not dec_str))
    | _ => exact absurd (show false = true from hs) Bool.false_ne_true
  | byt i =>
    obtain ⟨t, rfl⟩ := rx
    cases y with
    | byt j => obtain ⟨t', rfl⟩ := ry; exact PySem.W.ne_bytes (fin_bl I q (congrArg not dec_byt))
    | _ => exact absurd (show false = true from hs) Bool.false_ne_true
  | _ => cases y <;> exact absurd (show false = true from hs) Bool.false_ne_true
theorem op_lt : OpR X (compareOp .Lt) (rI0 fun i j => .bl (decide (i < j))) := opB0 fun _ _ _ _ _ _ _ q => lt_int q
theorem op_gt : OpR X (compareOp .Gt) (rI0 fun i j => .bl (decide (j < i))) := opB0 fun _ _ _ _ _ _ _ q => gt_int q
theorem op_ge : OpR X (compareOp .GtE) (rI0 fun i j => .bl (decide (j ≤ i))) := opB0 fun _ _ _ _ _ _ _ q => ge_int q
theorem op_isN : OpR X (compareOp .Is) (fun x y H Q => y = .non ∧ Q (.bl (decide (x = .non))) H) := by
  intro pins s σ H x y v u Q I rx ry h
  obtain ⟨rfl, q⟩ := h
  cases ry
  refine is_none_gen (fin_bl I q ?_)
  cases x <;> first
    | (cases rx; rfl)
    | (obtain ⟨t, rfl⟩ := rx; rfl)
theorem nomark (b : Expr) {op : CmpOp} (h : op ≠ .In := by decide) (h2 : op ≠ .NotIn := by decide) : behindInMarks op b = false := by
  have e1 : (op == CmpOp.In) = false := by cases op <;> first | rfl | exact absurd rfl h
  have e2 : (op == CmpOp.NotIn) = false := by cases op <;> first | rfl | exact absurd rfl h2
  cases b <;> simp [behindInMarks, e1, e2]
theorem pe_cmpR {op : CmpOp} {r : R2} (ho : OpR X (compareOp op) r) (ha : PE X a ta) (hb : PE X b tb) (hm : behindInMarks op b = false) : PE X (.Compare a [op] [b] pos) (tOp r ta tb) := by
  intro pins s σ H Q I h
  exact wpAny_Compare1 (binT ha hb I h fun v u s2 x y H2 I2 rx ry q => ho pins s2 σ H2 x y v u Q I2 rx ry q) hm
noncomputable def tTest (t : TE) : TT := fun σ H Q => t σ H fun x H' => ∃ k, x = .bl k ∧ Q k H'
theorem pt_cmpR {op : CmpOp} {r : R2} (ho : OpR X (compareOp op) r) (ha : PE X a ta) (hb : PE X b tb) (hm : behindInMarks op b = false) : PT X (.Compare a [op] [b] pos) (tTest (tOp r ta tb)) := by
  intro pins s σ H Q I h
  refine wpAny_isTrue_Compare1 (thn (ha pins s σ H _ I h) fun v s1 ⟨x, H1, I1, r1, q1⟩ => thn (hb pins s1 σ H1 _ I1 q1) fun u s2 ⟨y, H2, I2, r2, q2⟩ =>
    thn (ho pins s2 σ H2 x y v u _ I2 r1 r2 q2) fun c s3 ⟨z, H3, I3, r3, k, e, q3⟩ => ?_) hm
  subst e
  cases r3
  exact wpAny_truthy_bool ⟨H3, I3, q3⟩
theorem line63 : (sizeLine : Nat) < 2 ^ 63 := by rw [sizeLine_eq]; decide
theorem vals1 {x : V} {us : List Value} (r : Vals [x] us) : ∃ u, us = [u] ∧ RelV x u := by
  cases r with
  | cons r1 r2 => cases r2; exact ⟨_, rfl, r1⟩
theorem vals2 {x y : V} {us : List Value} (r : Vals [x, y] us) : ∃ u w', us = [u, w'] ∧ RelV x u ∧ RelV y w' := by
  cases r with
  | cons r1 r2 =>
    cases r2 with
    | cons r3 r4 => cases r4; exact ⟨_, _, rfl, r1, r3⟩
theorem call_min2 (hc : X.calm = true) : CallR X (.builtin "min") (fun xs H Q => ∃ i j, xs = [.int i, .int j] ∧ Q (.int (if j < i then j else i)) H) := by
  intro pins s σ H xs us Q I r h
  obtain ⟨i, j, rfl, q⟩ := h
  obtain ⟨u, w', rfl, ⟨t, rfl⟩, ⟨t', rfl⟩⟩ := vals2 r
  refine min_two_ints (I.ok.hd hc) fun h' tk k => ⟨_, H, I.kept k, ?_, q⟩
  by_cases hj : j < i
  · rw [if_pos hj, if_pos hj]; exact ⟨_, rfl⟩
  · rw [if_neg hj, if_neg hj]; exact ⟨_, rfl⟩
end
end L2
namespace L2
open PySem PySem.Spec PyProof.Rows
structure ObjM (h : Heap) (x dx C : Addr) (mA : Str → Option Value) : Prop where
  obj : h.get? x = some (PySem.W.instObj C dx)
  ns : h.Ns1 dx mA
  ne : dx ≠ x
theorem lookIn_ns {h : Heap} {dx : Addr} {mA : Str → Option Value} (n : h.Ns1 dx mA) : ∃ od, h.get? dx = some od ∧ ∀ name, PySem.W.lookIn name od = some (mA name) := by
  obtain ⟨o, es, ep, ho, hd, hk, _, hm⟩ := n
  refine ⟨o, ho, fun name => ?_⟩
  have e := hm name
  unfold nsFind findBy at e
  rw [← Array.find?_toList] at e
  unfold PySem.W.lookIn
  rw [hd]
  dsimp only
  split
  · rename_i y q
    rw [q] at e
    exact congrArg some e
  · rename_i q
    rw [q] at e
    have a : es.toList.any (·.refKey) = false := by
      rw [List.any_eq_false]
      intro y hy
      obtain ⟨z, t, hkey⟩ := hk y (Array.mem_toList_iff.mp hy)
      simp [DictEntry.refKey, hkey]
    have a' : ¬ es.toList.any (·.refKey) = true := by rw [a]; exact Bool.false_ne_true
    rw [if_neg a']
    exact congrArg some e
theorem ObjM.look {h : Heap} {x dx C : Addr} {mA : Str → Option Value} (I : ObjM h x dx C mA) : ∃ od, PySem.W.InstAt h x (PySem.W.instObj C dx) C (some od) ∧ ∀ name, PySem.W.lookIn name od = some (mA name) :=
  let ⟨od, ho, hl⟩ := lookIn_ns I.ns
  ⟨od, ⟨I.obj, rfl, rfl, ho⟩, hl⟩
section
variable {prog : Program} {w : World} {A : Around} {E : Value → Shared → Prop} {s : Shared} {K : PySem.W.Frag} {x dx C f : Addr} {mA : Str → Option Value} {name : Str} {v : Value}
theorem get_map {expr : Bool} {Q : Value → Shared → Prop} (X : K.In s.heap) (I : ObjM s.heap x dx C mA) (hg : PySem.W.plainGet K C name = true) (hh : PySem.W.hasDictIn K C = true)
    (ha : PySem.W.findIn K (.ref C) name = some none) (hv : mA name = some v) (hv' : PySem.W.handedIn v = true) (h : Q v { s with toks := s.toks + 1 }) :
    wpAny (model prog w) A (getAttr (.ref x) name expr) Q E s := by
  obtain ⟨od, J, hl⟩ := I.look
  exact PySem.W.get_value X J (PySem.W.plainGet_of hg).1 (PySem.W.findObj_own hh ha rfl (by rw [hl, hv])) hv' h
theorem get_meth {pl : Sem Bool} {Q : Value × List Value → Shared → Prop} (X : K.In s.heap) (I : ObjM s.heap x dx C mA) (hg : PySem.W.plainGet K C name = true)
    (hf : PySem.W.findIn K (.ref C) name = some (some (.ref f))) (ht : PySem.W.isFn K (.ref f) = true) (hv : mA name = none) (h : Q (.ref f, [.ref x]) s) :
    wpAny (model prog w) A (getMethod (.ref x) name pl) Q E s := by
  obtain ⟨od, J, hl⟩ := I.look
  exact PySem.W.method_fn X J (PySem.W.plainGet_of hg).1 (PySem.W.plainGet_of hg).2 hf (beq_iff_eq.mp ht) (by show (PySem.W.lookIn name od).map (·.isSome) = some false; rw [hl, hv]; rfl) h
theorem set_map {ns : List Str} {Q : Unit → Shared → Prop} (X : K.In s.heap) (I : ObjM s.heap x dx C mA)
    (hs : PySem.W.findIn K (.ref C) "__setattr__" = some (some (.builtin "object.__setattr__"))) (hp : PySem.W.plainOver K C = true) (ht : PySem.W.takerIn K C name = some none) (hh : PySem.W.hasDictIn K C = true)
    (hw : PySem.Within mA ns) (hsz : ns.length ≤ sizeLine)
    (h : ∀ h', ObjM h' x dx C (fun y => if y = name then some v else mA y) → Heap.SameBut dx s.heap h' → Q () { s with heap := h', toks := s.toks + 2 }) :
    wpAny (model prog w) A (setAttr (.ref x) name v) Q E s := by
  obtain ⟨od, J, hl⟩ := I.look
  refine PySem.W.set_plain X J hs (PySem.W.osa_open (s := { s with toks := s.toks + 1 }) (r := none) X J hp ht fun b => ?_)
  obtain ⟨cd, hc, hd'⟩ := PySem.W.any_some hh
  have hx : s.heap.get? x = some ⟨.ref C, some dx, .plain, #[]⟩ := I.obj
  refine wpAny_bind (wpAny_pure (wpAny_bind (wpAny_bind (wpAny_loadPart hx (wpAny_bind (PySem.W.Looks.here (s := { s with toks := s.toks + 1 }) (PySem.W.looks_clsIn X hc) ?_))))))
  rw [hd']
  refine wpAny_pure (a := some dx) (wpAny_bind (wpAny_pure (wpAny_bind ?_)))
  refine wpAny_nsSet1 (s := { s with toks := s.toks + 1 }) I.ns fun h' hn2 hs2 => ?_
  obtain ⟨oD, esD, epD, hoD, hdD, hcD⟩ := hn2.count (PySem.Within.cons name v hw)
  refine wpAny_bind (wpAny_lookBehind hoD (by rw [hdD]; exact pastItsLine_dict (Nat.le_trans hcD (by rw [List.length_cons]; omega))) ?_)
  exact wpAny_pure (h _ ⟨(hs2.2 _ (Ne.symm I.ne)).trans I.obj, hn2, I.ne⟩ hs2)
theorem make_map {R : Result → Shared → Prop} {vs : List Value} {kw : List (Str × Value)} (X : K.In s.heap) (hm : PySem.W.makesIn K C = true)
    (hi : PySem.W.findIn K (.ref C) "__init__" = some (some (.ref f))) (hf : PySem.W.typeIn K (.ref f) = some (.type "function"))
    (h : codeAny (model prog w) (A.under (.builtin "type.__call__" ⟨.ref C :: vs, kw⟩)) (.call (.ref f) ⟨.ref (s.heap.objs.size + 1) :: vs, kw⟩) (PySem.W.InitBack (s.heap.objs.size + 1) R)
      { s with heap := (s.heap.push PySem.W.emptyDict).push (PySem.W.instObj C s.heap.objs.size) }) :
    codeAny (model prog w) A (.call (.ref C) ⟨vs, kw⟩) R s := by
  obtain ⟨hh, g, d, t, os⟩ := s
  exact PySem.W.make_core (PySem.W.makes_of X hm) (PySem.W.looks_findIn X hi) (fun self => PySem.W.bind_fn X self hf) (.inl rfl) h
end
noncomputable def putF (f : Str) (v : V) : List (Str × V) → List (Str × V)
  | [] => [(f, v)]
  | (g, x) :: r => if g = f then (g, v) :: r else (g, x) :: putF f v r
theorem lookup_putF (f g : Str) (v : V) : ∀ fs : List (Str × V), (putF f v fs).lookup g = if g = f then some v else fs.lookup g
  | [] => by
    show List.lookup g [(f, v)] = _
    by_cases h : g = f
    · have hb : (g == f) = true := beq_iff_eq.mpr h
      simp only [List.lookup, hb, if_pos h]
    · have hb : (g == f) = false := beq_eq_false_iff_ne.mpr h
      simp only [List.lookup, hb, if_neg h]
  | (k, x) :: r => by
    have ih := lookup_putF f g v r
    rw [show putF f v ((k, x) :: r) = (if k = f then (k, v) :: r else (k, x) :: putF f v r) from rfl]
    by_cases hk : k = f
    · rw [if_pos hk]
      by_cases h : g = k
      · have hb : (g == k) = true := beq_iff_eq.mpr h
        simp only [List.lookup, hb, if_pos (h.trans hk)]
      · have hb : (g == k) = false := beq_eq_false_iff_ne.mpr h
        simp only [List.lookup, hb, if_neg (fun e : g = f => h (e.trans hk.symm))]
    · rw [if_neg hk]
      by_cases h : g = k
      · have hb : (g == k) = true := beq_iff_eq.mpr h
        simp only [List.lookup, hb, if_neg (fun e : g = f => hk (h.symm.trans e))]
      · have hb : (g == k) = false := beq_eq_false_iff_ne.mpr h
        simp only [List.lookup, hb]
        exact ih
theorem keys_putF (f : Str) (v : V) : ∀ fs : List (Str × V), f ∈ (putF f v fs).map (·.1) ∧ ∀ g, g ∈ fs.map (·.1) → g ∈ (putF f v fs).map (·.1)
  | [] => ⟨by simp [putF], fun g h => by simp at h⟩
  | (k, x) :: r => by
    obtain ⟨i1, i2⟩ := keys_putF f v r
    rw [show putF f v ((k, x) :: r) = (if k = f then (k, v) :: r else (k, x) :: putF f v r) from rfl]
    by_cases hk : k = f
    · rw [if_pos hk]
      subst hk
      exact ⟨by simp, fun g h => by simpa using h⟩
    · rw [if_neg hk]
      refine ⟨?_, fun g h => ?_⟩
      · rw [List.map_cons]
        exact List.mem_cons_of_mem _ i1
      · rw [List.map_cons] at h ⊢
        rcases List.mem_cons.mp h with e | e
        · exact List.mem_cons.mpr (.inl e)
        · exact List.mem_cons_of_mem _ (i2 g e)
theorem length_putF (f : Str) (v : V) : ∀ fs : List (Str × V), (putF f v fs).length ≤ fs.length + 1
  | [] => by simp [putF]
  | (k, x) :: r => by
    have ih := length_putF f v r
    rw [show putF f v ((k, x) :: r) = (if k = f then (k, v) :: r else (k, x) :: putF f v r) from rfl]
    by_cases hk : k = f
    · rw [if_pos hk, List.length_cons, List.length_cons]; omega
    · rw [if_neg hk, List.length_cons, List.length_cons]; omega
theorem RelO.some_of {v : V} {o : Option Value} (r : RelO (some v) o) : ∃ u, o = some u ∧ RelV v u := by
  cases o with
  | none => exact (show False from r).elim
  | some u => exact ⟨u, rfl, r⟩
theorem RelO.none_of {o : Option Value} (r : RelO none o) : o = none := by
  cases o with
  | none => rfl
  | some u => exact (show False from r).elim
theorem handed_of {v : V} {u : Value} (r : RelV v u) : PySem.W.handedIn u = true := by
  cases v with
  | non => cases (show u = Value.none from r); rfl
  | bl b => cases (show u = Value.bool b from r); rfl
  | int i => obtain ⟨t, e⟩ := (show ∃ t, u = Value.int i t from r); cases e; rfl
  | str x => obtain ⟨t, e⟩ := (show ∃ t, u = Value.str x t from r); cases e; rfl
  | byt b => obtain ⟨t, e⟩ := (show ∃ t, u = Value.bytes b t from r); cases e; rfl
  | flt b => obtain ⟨t, e⟩ := (show ∃ t, u = Value.float b t from r); cases e; rfl
  | ref a => cases (show u = Value.ref a from r); rfl
  | ty n => cases (show u = Value.type n from r); rfl
section
variable {P : Program} {w : World} {H H' : Hp} {h h' : Heap} {a C dx : Addr} {fs fs' : List (Str × V)}
theorem ins_get (hok : HOk P w H h) (e : H a = some (.ins C dx fs)) : ∃ mA, ObjM h a dx C mA ∧ (∀ f, RelO (fs.lookup f) (mA f)) ∧ PySem.Within mA (fs.map (·.1)) ∧ fs.length ≤ 1000 ∧ H dx = some (.own a) := by
  obtain ⟨d, z, ne, ob, mA, n, r, q⟩ := (show ObjOk P w H h a (.ins C dx fs) from hok a _ e)
  exact ⟨mA, ⟨ob, n, ne⟩, r, q, z, d⟩
end
structure Cls (K : PySem.W.Frag) (C : Addr) : Prop where
  pg : PySem.W.plainGet K C Str.empty = true
  hd : PySem.W.hasDictIn K C = true
  po : PySem.W.plainOver K C = true
  sa : PySem.W.findIn K (.ref C) "__setattr__" = some (some (.builtin "object.__setattr__"))
theorem Cls.get {K : PySem.W.Frag} {C : Addr} (c : Cls K C) (f : Str) : PySem.W.plainGet K C f = true := c.pg
noncomputable def NoAttr (K : PySem.W.Frag) (C : Addr) (f : Str) : Prop := PySem.W.findIn K (.ref C) f = some none
theorem NoAttr.taker {K : PySem.W.Frag} {C : Addr} {f : Str} (n : NoAttr K C f) : PySem.W.takerIn K C f = some none := by
  unfold PySem.W.takerIn
  rw [show PySem.W.findIn K (.ref C) f = some none from n]
  rfl
structure Meth (K : PySem.W.Frag) (C : Addr) (m : Str) (f : Addr) : Prop where
  at_ : PySem.W.findIn K (.ref C) m = some (some (.ref f))
  fn : PySem.W.isFn K (.ref f) = true
  kp : PySem.W.keepIn K (.ref f) = true
section
variable {X : Cx} {pins : List (Addr × Obj)} {σ : St} {H : Hp} {s : Shared} {a C dx : Addr} {fs : List (Str × V)} {f : Str} {v : V} {A : Around} {E : Value → Shared → Prop}
theorem getattr_ok {b : Bool} {Q : Value → Shared → Prop} (I : Inv X pins σ H s) (e : H a = some (.ins C dx fs)) (c : Cls X.K C) (n : NoAttr X.K C f) (l : fs.lookup f = some v)
    (h : ∀ u s', Inv X pins σ H s' → RelV v u → Q u s') : wpAny (model X.prog X.w) A (getAttr (.ref a) f b) Q E s := by
  obtain ⟨mA, O, r, _, _, _⟩ := ins_get I.hok e
  obtain ⟨u, hu, ru⟩ := RelO.some_of (v := v) (o := mA f) (by rw [← l]; exact r f)
  exact get_map I.kIn O (c.get f) c.hd n hu (handed_of ru) (h u _ (I.tok _) ru)
theorem getmeth_ok {m : Str} {g : Addr} {pl : Sem Bool} {Q : Value × List Value → Shared → Prop} (I : Inv X pins σ H s) (e : H a = some (.ins C dx fs)) (c : Cls X.K C) (k : Meth X.K C m g) (l : fs.lookup m = none)
    (h : Q (.ref g, [.ref a]) s) : wpAny (model X.prog X.w) A (getMethod (.ref a) m pl) Q E s := by
  obtain ⟨mA, O, r, _, _, _⟩ := ins_get I.hok e
  have hn : mA m = none := RelO.none_of (by rw [← l]; exact r m)
  exact get_meth I.kIn O (c.get m) k.at_ k.fn hn h
theorem setattr_ok {y : V} {u : Value} {Q : Unit → Shared → Prop} (I : Inv X pins σ H s) (e : H a = some (.ins C dx fs)) (c : Cls X.K C) (n : NoAttr X.K C f) (hl : fs.length < 1000) (ry : RelV y u)
    (h : ∀ s', Inv X pins σ (upd H a (.ins C dx (putF f y fs))) s' → Q () s') : wpAny (model X.prog X.w) A (setAttr (.ref a) f u) Q E s := by
  obtain ⟨mA, O, r, wi, _, ho⟩ := ins_get I.hok e
  have hz : (fs.map (·.1)).length ≤ sizeLine := by rw [List.length_map, sizeLine_eq]; omega
  refine set_map I.kIn O c.sa c.po n.taker c.hd wi hz fun h' O' sb => h _ ?_
  have hd : ∃ o, h'.get? dx = some o := let ⟨o, _, _, e', _⟩ := O'.ns; ⟨o, e'⟩
  refine I.write (x := a) (e := dx) (by rw [e]; exact True.intro) (.inr ho) (fun b q hb z => (sb.2 b hb).trans z) hd ?_
  refine ⟨by rw [upd_ne O.ne]; exact ho, ?_, O.ne, O'.obj, _, O'.ns, fun g => ?_, fun g hg => ?_⟩
  · have := length_putF f y fs; omega
  · show RelO ((putF f y fs).lookup g) (if g = f then some u else mA g)
    rw [lookup_putF]
    by_cases q : g = f
    · rw [if_pos q, if_pos q]; exact ry
    · rw [if_neg q, if_neg q]; exact r g
  · by_cases q : g = f
    · rw [q]; exact (keys_putF f y fs).1
    · refine (keys_putF f y fs).2 g (wi g fun z => hg ?_)
      show (if g = f then some u else mA g) = none
      rw [if_neg q]; exact z
theorem Inv.made (I : Inv X pins σ H s) : Inv X pins σ (upd (upd H s.heap.objs.size (.own (s.heap.objs.size + 1))) (s.heap.objs.size + 1) (.ins C s.heap.objs.size []))
    { s with heap := (s.heap.push PySem.W.emptyDict).push (PySem.W.instObj C s.heap.objs.size) } := by
  have e1 : (s.heap.push PySem.W.emptyDict).get? s.heap.objs.size = some PySem.W.emptyDict := Heap.get?_push_size s.heap rfl
  have e2 : ((s.heap.push PySem.W.emptyDict).push (PySem.W.instObj C s.heap.objs.size)).get? (s.heap.objs.size + 1) = some (PySem.W.instObj C s.heap.objs.size) := by
    have := Heap.get?_push_size (s.heap.push PySem.W.emptyDict) (o := PySem.W.instObj C s.heap.objs.size) rfl
    rwa [Heap.size_push] at this
  have e3 : (s.heap.push PySem.W.emptyDict).Ns s.heap.objs.size (fun _ => none) := ⟨PySem.W.emptyDict, #[], _, e1, rfl, (fun e he => absurd he (by simp)), fun _ => rfl⟩
  have I1 := I.laid (a := s.heap.objs.size) (o := .own (s.heap.objs.size + 1)) (h' := s.heap.push PySem.W.emptyDict) (t' := s.toks) (fun b u q => Heap.get?_push_of_some _ q) (Nat.le_refl _) ⟨_, e1⟩
  refine I1.laid (a := s.heap.objs.size + 1) (o := .ins C s.heap.objs.size []) (t' := s.toks) (fun b u q => Heap.get?_push_of_some _ q) (Nat.le_of_eq (Heap.size_push _ _)) ?_
  have ne : s.heap.objs.size ≠ s.heap.objs.size + 1 := Nat.ne_of_lt (Nat.lt_succ_self _)
  refine ⟨by rw [upd_ne ne, upd_same], Nat.zero_le _, ne, e2, fun _ => none, (Heap.Ns1.of_empty e3).at fun o q => Heap.get?_push_of_some _ q, fun _ => True.intro, fun y hy => absurd rfl hy⟩
theorem attr_of {prog : Program} {w : World} {env : Env} {e : Expr} {f : Str} {pos : Pos} {s : Shared} {Q : Value → Shared → Prop} (hb : attributeBase e f env (eval e env) = eval e env)
    (h : wpAny (model prog w) A (eval e env) (fun o s₁ => wpAny (model prog w) A (getAttr o f true) Q E s₁) E s) : wpAny (model prog w) A (eval (.Attribute e f pos) env) Q E s :=
  Attribute_any_ h (by rw [arm_eval_Attribute, hb])
end
section
variable {X : Cx} {o e value : Expr} {f : Str} {pos pos' tpos : Pos} {ta tv : TE}
end
section
variable {X : Cx} {pins : List (Addr × Obj)} {σ : St} {H : Hp} {s : Shared} {A : Around} {E : Value → Shared → Prop} {Q : Value → Shared → Prop} {c : Value} {b : Bool}
inductive TyOf (K : PySem.W.Frag) (H : Hp) : V → Value → Prop where
  | non : TyOf K H .non (.type "NoneType")
  | bl (x : Bool) : TyOf K H (.bl x) (.type "bool")
  | int (i : Int) : TyOf K H (.int i) (.type "int")
  | str (x : Str) : TyOf K H (.str x) (.type "str")
  | flt (x : UInt64) : TyOf K H (.flt x) (.type "float")
  | lst {a : Addr} {xs : List V} (e : H a = some (.lst xs)) : TyOf K H (.ref a) (.type "list")
  | frz {a : Addr} {o : Obj} {xs : List V} (e : H a = some (.frz o (.lst xs))) : TyOf K H (.ref a) (.type "list")
  | tup {a : Addr} {xs : List V} (e : H a = some (.tup xs)) : TyOf K H (.ref a) (.type "tuple")
  | dK {a : Addr} {kvs : List (Key × V)} (e : H a = some (.dK kvs)) : TyOf K H (.ref a) (.type "dict")
  | dT {a : Addr} {kvs : List (List Key × V)} (e : H a = some (.dT kvs)) : TyOf K H (.ref a) (.type "dict")
  | ins {a C dx : Addr} {fs : List (Str × V)} (e : H a = some (.ins C dx fs)) (cl : Cls K C) (ha : PySem.W.findIn K (.ref C) "__class__" = some (some (.builtin "object.__class__")))
      (hn : PySem.W.specialIn K (.builtin "object.__class__") "__get__" = some (some (.builtin "getset_descriptor.__get__"))) (htk : PySem.W.takesIn K (.builtin "object.__class__") = some true)
      (hm : PySem.W.mroIn K C (.type "object") = some true) : TyOf K H (.ref a) (.ref C)
theorem isinst_ok {x : V} {u t : Value} (I : Inv X pins σ H s) (rx : RelV x u) (ty : TyOf X.K H x t) (e : PySem.W.kitOne X.K t c = some b) (h : ∀ tk, Q (.bool b) { s with toks := tk }) :
    wpAny (model X.prog X.w) A (call (.builtin "isinstance") [u, c]) Q E s := by
  cases ty with
  | non => cases (show u = Value.none from rx); exact PySem.W.kia_one PySem.W.kitx_none I.kIn True.intro e (fun z => nomatch z) h
  | bl y => cases (show u = Value.bool y from rx); exact PySem.W.kia_one PySem.W.kitx_bool I.kIn True.intro e (fun z => nomatch z) h
  | int i => obtain ⟨t, q⟩ := (show ∃ t, u = Value.int i t from rx); cases q; exact PySem.W.kia_one PySem.W.kitx_int I.kIn True.intro e (fun z => nomatch z) h
  | str y => obtain ⟨t, q⟩ := (show ∃ t, u = Value.str y t from rx); cases q; exact PySem.W.kia_one PySem.W.kitx_str I.kIn True.intro e (fun z => nomatch z) h
  | flt y => obtain ⟨t, q⟩ := (show ∃ t, u = Value.float y t from rx); cases q; exact PySem.W.kia_one PySem.W.kitx_float I.kIn True.intro e (fun z => nomatch z) h
  | @lst a xs ea =>
    cases (show u = Value.ref a from rx)
    obtain ⟨_, _, n, _, h1⟩ := (show ObjOk X.prog X.w H s.heap a (.lst xs) from I.hok a _ ea)
    exact PySem.W.kia_one PySem.W.kitx_list I.kIn ⟨_, h1, rfl⟩ e (fun z => nomatch z) h
  | @frz a ob xs ea =>
    cases (show u = Value.ref a from rx)
    obtain ⟨_, _, _, n, _, h1⟩ := (show ObjOk X.prog X.w H s.heap a (.frz ob (.lst xs)) from I.hok a _ ea)
    exact PySem.W.kia_one PySem.W.kitx_list I.kIn ⟨_, h1, rfl⟩ e (fun z => nomatch z) h
  | @tup a xs ea =>
    cases (show u = Value.ref a from rx)
    obtain ⟨_, _, _, p⟩ := (show ObjOk X.prog X.w H s.heap a (.tup xs) from I.hok a _ ea)
    obtain ⟨o, h1, h2, _⟩ := p
    exact PySem.W.kia_one PySem.W.kitx_tuple I.kIn ⟨o, h1, h2⟩ e (fun z => nomatch z) h
  | @dK a kvs ea =>
    cases (show u = Value.ref a from rx)
    obtain ⟨_, _, vs, _, p⟩ := (show ObjOk X.prog X.w H s.heap a (.dK kvs) from I.hok a _ ea)
    obtain ⟨o, es, ep, h1, h2, _⟩ := p
    exact PySem.W.kia_one PySem.W.kitx_dict I.kIn ⟨o, h1, h2.1⟩ e (fun z => nomatch z) h
  | @dT a kvs ea =>
    cases (show u = Value.ref a from rx)
    obtain ⟨_, _, xs, _, o, es, ep, h1, h2, _⟩ := (show ObjOk X.prog X.w H s.heap a (.dT kvs) from I.hok a _ ea)
    exact PySem.W.kia_one PySem.W.kitx_dict I.kIn ⟨o, h1, h2.1⟩ e (fun z => nomatch z) h
  | @ins a C dx fs ea cl ha hn htk hm =>
    cases (show u = Value.ref a from rx)
    obtain ⟨mA, O, _⟩ := ins_get I.hok ea
    obtain ⟨od, J, _⟩ := O.look
    exact PySem.W.kia_one (PySem.W.kitx_own (cl.get _) cl.hd ha hn htk hm) I.kIn J e (fun z => nomatch z) h
end
end L2
namespace L2
open PySem PySem.Spec PyProof.Rows
structure Room (k : Nat) (A : Around) : Prop where
  hd : A.handled = none
  dp : A.depth + 3 * k + 5 < recursionLimit
  un : A.units + 16 * k + 200 < cLine
theorem Room.mono {j k : Nat} {A : Around} (r : Room k A) (h : j ≤ k) : Room j A := ⟨r.hd, by have := r.dp; omega, by have := r.un; omega⟩
theorem Room.deeper {k : Nat} {A : Around} (r : Room (k + 1) A) (env : Env) : Room k (A.deeper env) :=
  ⟨r.hd, by have := r.dp; show A.depth + 1 + 3 * k + 5 < _; omega, by have := r.un; show A.units + 3 + 16 * k + 200 < _; omega⟩
theorem make_depth {A : Around} {C : Addr} {us : List Value} {kw : List (Str × Value)} : (A.under (.builtin "type.__call__" ⟨.ref C :: us, kw⟩)).depth = A.depth + 1 := by
  first | rfl | simp [Around.under, Code.weight, Code.isCreation, Code.isGuard, Code.isCaller, Code.frames, Code.isFrame, guardIds]
theorem make_units {A : Around} {C : Addr} {us : List Value} {kw : List (Str × Value)} : (A.under (.builtin "type.__call__" ⟨.ref C :: us, kw⟩)).units = A.units + 1 := by
  first | rfl | simp [Around.under, Code.cUnits, Code.frames, Code.isFrame]
theorem Room.make {k : Nat} {A : Around} (r : Room (k + 1) A) (C : Addr) (us : List Value) (kw : List (Str × Value)) : Room k (A.under (.builtin "type.__call__" ⟨.ref C :: us, kw⟩)) :=
  ⟨r.hd, by have := r.dp; rw [make_depth]; omega, by have := r.un; rw [make_units]; omega⟩
theorem Room.depth {k : Nat} {A : Around} (r : Room k A) : A.depth < recursionLimit := by have := r.dp; omega
theorem Room.units {k : Nat} {A : Around} (r : Room k A) : A.units + 64 < cLine := by have := r.un; omega
theorem Room.units0 {k : Nat} {A : Around} (r : Room k A) : A.units < cLine := by have := r.un; omega
noncomputable def tNil : TA := fun _ H Q => Q [] H
noncomputable def tCons (ta : TE) (tr : TA) : TA := fun σ H Q => ta σ H fun x H1 => tr σ H1 fun xs H2 => Q (x :: xs) H2
section
variable {X : Cx} {e : Expr} {es : List Expr} {te : TE} {t : TA} {pos : Pos}
theorem pa_nil : PA X [] tNil := fun _ _ _ _ H Q I h => Calls.spliced_nil ⟨[], H, I, .nil, h⟩
theorem pa_cons (ha : PE X e te) (hr : PA X es t) (hs : starEach (e :: es) X.env = (false, eval e X.env) :: starEach es X.env := by rfl) : PA X (e :: es) (tCons te t) := by
  intro pos pins s σ H Q I h
  rw [hs]
  show wpAny _ _ (spliced ((false, eval e X.env) :: backTo pos (starEach es X.env))) _ _ s
  refine Calls.spliced_cons (thn (ha pins s σ H _ I h) fun u s1 ⟨x, H1, I1, r1, q1⟩ => ?_)
  exact thn (hr pos pins s1 σ H1 _ I1 q1) fun us s2 ⟨xs, H2, I2, r2, q2⟩ => ⟨x :: xs, H2, I2, .cons r1 r2, q2⟩
noncomputable def tTup (t : TA) : TE := fun σ H Q => t σ H fun xs H1 => xs.length ≤ sizeLine ∧ ∀ p, H1 p = none → Q (.ref p) (upd H1 p (.tup xs))
noncomputable def tLst (t : TA) : TE := fun σ H Q => t σ H fun xs H1 => xs.length ≤ sizeLine ∧ ∀ p, H1 p = none → Q (.ref p) (upd H1 p (.lst xs))
theorem pe_tup {x1} (h : PA X es t) : PE X (.Tuple es x1 pos) (tTup t) := by
  intro pins s σ H Q I hq
  refine wpAny_Tuple_spliced (thn (h pos pins s σ H _ I hq) fun us s1 ⟨xs, H1, I1, r, z, q⟩ => ⟨by rw [← r.length]; exact z, ?_⟩)
  have hf : H1 s1.heap.objs.size = none := I1.hok.fresh (Nat.le_refl _)
  refine ⟨.ref s1.heap.objs.size, upd H1 s1.heap.objs.size (.tup xs), I1.laid (t' := s1.toks) (fun b u e => Heap.get?_push_of_some _ e) (Nat.le_refl _) ?_, rfl, q _ hf⟩
  exact ⟨z, us, r, ⟨_, Heap.get?_push_size _ rfl, rfl, _, rfl⟩⟩
theorem pe_lst (h : PA X es t) : PE X (.List es pos) (tLst t) := by
  intro pins s σ H Q I hq
  refine wpAny_List_spliced (thn (h pos pins s σ H _ I hq) fun us s1 ⟨xs, H1, I1, r, z, q⟩ => ⟨by rw [← r.length]; exact z, ?_⟩)
  have hf : H1 s1.heap.objs.size = none := I1.hok.fresh (Nat.le_refl _)
  refine ⟨.ref s1.heap.objs.size, upd H1 s1.heap.objs.size (.lst xs), I1.laid (t' := s1.toks) (fun b u e => Heap.get?_push_of_some _ e) (Nat.le_refl _) ?_, rfl, q _ hf⟩
  exact ⟨z, us, 0, r, Heap.get?_push_size _ rfl⟩
end
noncomputable abbrev Sp := List V → Hp → VK → XK → Prop
noncomputable abbrev CXT := List Env → Hp → Shared → XK → Value → Shared → Prop
structure Env0 (P : Program) (w : World) (K : PySem.W.Frag) (mg : Str → Option Value) (base : Heap) (A : Around) (outer : List Env) (s : Shared) (H : Hp) : Prop where
  frames : A.frames = some outer
  mod : Mod K mg base
  bs : ∀ b o, base.get? b = some o → s.heap.get? b = some o ∧ H b = none
  bsz : base.objs.size ≤ s.heap.objs.size
  funs : s.heap.FunFrames base outer
  frf : ∀ b ∈ frs outer, H b = none
  hok : HOk P w H s.heap
  bare : AllBare s.gens
noncomputable def CE (outer : List Env) (P : Program) (w : World) (H : Hp) (s : Shared) (Q : VK) (u : Value) (s' : Shared) : Prop :=
  ∃ v H', s'.os = s.os ∧ AllBare s'.gens ∧ Un (frs outer) [] H H' s.heap s'.heap ∧ HOk P w H' s'.heap ∧ RelV v u ∧ Q v H'
noncomputable def CR (CX : CXT) (outer : List Env) (P : Program) (w : World) (H : Hp) (s : Shared) (Q : VK) (E : XK) (r : Result) (s' : Shared) : Prop :=
  match r with
  | .ok (.ret u) => CE outer P w H s Q u s'
  | .ok _ => False
  | .error e => CX outer H s E e s'
structure FnOk (P : Program) (w : World) (K : PySem.W.Frag) (mg : Str → Option Value) (base : Heap) (CX : CXT) (k : Nat) (f : Addr) (fd : FuncData) (ps : List Str) (sp : Sp) : Prop where
  len : ∀ vs H Q E, sp vs H Q E → vs.length = ps.length
  run : ∀ (A : Around) (outer : List Env) (s : Shared) (H : Hp) (args : Args) (us : List Value) (vs : List V) (Q : VK) (E : XK), Room k A → Env0 P w K mg base A outer s H → BindsTo s fd args (ps.zip us) → Vals vs us → sp vs H Q E →
    codeAny (model P w) A (.call (.ref f) args) (CR CX outer P w H s Q E) s
theorem FnOk.mono {P : Program} {w : World} {K : PySem.W.Frag} {mg : Str → Option Value} {base : Heap} {CX : CXT} {j k : Nat} {f : Addr} {fd : FuncData} {ps : List Str} {sp : Sp} (F : FnOk P w K mg base CX j f fd ps sp) (h : j ≤ k) :
    FnOk P w K mg base CX k f fd ps sp := ⟨F.len, fun A outer s H args us vs Q E hr => F.run A outer s H args us vs Q E (hr.mono h)⟩
theorem Env0.make {P : Program} {w : World} {K : PySem.W.Frag} {mg : Str → Option Value} {base : Heap} {A : Around} {outer : List Env} {s : Shared} {H : Hp} (e : Env0 P w K mg base A outer s H) (C : Addr) (us : List Value) (kw : List (Str × Value)) :
    Env0 P w K mg base (A.under (.builtin "type.__call__" ⟨.ref C :: us, kw⟩)) outer s H := ⟨by first | exact e.frames | (simpa [Around.under, Code.envs, Code.isFrame, pushEnvs] using e.frames), e.mod, e.bs, e.bsz, e.funs, e.frf, e.hok, e.bare⟩
section
variable {X : Cx} {pins : List (Addr × Obj)} {σ : St} {H : Hp} {s s' : Shared}
theorem Inv.env0 (I : Inv X pins σ H s) : Env0 X.prog X.w X.K X.mg X.base X.A X.stack s H :=
  ⟨I.ok.frames, I.ok.mod, I.bs, Nat.le_trans I.ok.bsz I.sz, I.stack, I.stkFree, I.hok, I.bare⟩
theorem Inv.after {Q : VK} {u : Value} (I : Inv X pins σ H s) (h : CE X.stack X.prog X.w H s Q u s') : EP X pins σ Q u s' := by
  obtain ⟨v, H', os, bare, un, hok, r, q⟩ := h
  obtain ⟨hh, g, d, t, os'⟩ := s'
  obtain rfl : os' = s.os := os
  exact ⟨v, H', I.call (h' := hh) (g' := g) (d' := d) (t' := t) (ch := []) un hok bare (fun b z => absurd z (by simp)), r, q⟩
end
noncomputable def tCall (sp : Sp) (dvs : List V) (E : XK) (t : TA) : TE := fun σ H Q => t σ H fun vs H1 => sp (vs ++ dvs) H1 Q E
noncomputable def tMeth (C : Addr) (m : Str) (sp : Sp) (dvs : List V) (E : XK) (ta : TE) (t : TA) : TE := fun σ H Q => ta σ H fun x H1 => ∃ a dx fs, x = .ref a ∧ H1 a = some (.ins C dx fs) ∧ fs.lookup m = none ∧
  t σ H1 fun vs H2 => sp (x :: (vs ++ dvs)) H2 Q E
noncomputable def tMake (C : Addr) (sp : Sp) (dvs : List V) (E : XK) (t : TA) : TE := fun σ H Q => t σ H fun vs H1 => ∀ x dx, H1 x = none → H1 dx = none → dx ≠ x →
  sp (.ref x :: (vs ++ dvs)) (upd (upd H1 dx (.own x)) x (.ins C dx [])) (fun v H2 => v = .non ∧ Q (.ref x) H2) E
noncomputable def Binds (K : PySem.W.Frag) (fd : FuncData) (ps : List Str) (ds : List Value) : Prop :=
  ∀ (s : Shared) (us : List Value), K.In s.heap → (us ++ ds).length = ps.length → BindsTo s fd ⟨us, []⟩ (ps.zip (us ++ ds))
theorem Binds.all {K : PySem.W.Frag} {fd : FuncData} {ps : List Str} (h : ∀ us : List Value, us.length = ps.length → bindArgs fd ⟨us, []⟩ = pure (ps.zip us)) : Binds K fd ps [] := fun s us _ hl => by
  rw [List.append_nil] at hl ⊢
  exact .of_eq (h us hl)
noncomputable def Passes (CX : CXT) (X : Cx) (E : XK) : Prop := ∀ (pins : List (Addr × Obj)) (σ : St) (H : Hp) (s : Shared) (e : Value) (s' : Shared), Inv X pins σ H s → CX X.stack H s E e s' → X.xe e s'
section
variable {X : Cx} {CX : CXT} {k : Nat} {f C : Addr} {fd : FuncData} {ps : List Str} {sp : Sp} {dvs : List V} {ds : List Value} {E : XK} {x m : Str} {p pos apos : Pos} {e o : Expr} {es : List Expr} {ta : TE} {t : TA}
theorem run_fn {pins : List (Addr × Obj)} {σ : St} {H : Hp} {s : Shared} {Q : VK} {us : List Value} {vs : List V} (F : FnOk X.prog X.w X.K X.mg X.base CX k f fd ps sp) (hr : Room k X.A) (hb : Binds X.K fd ps ds) (hd : Vals dvs ds) (hx : Passes CX X E)
    (I : Inv X pins σ H s) (r : Vals vs us) (h : sp (vs ++ dvs) H Q E) : wpAny (model X.prog X.w) X.A (call (.ref f) us) (EP X pins σ Q) X.xe s := by
  have r2 : Vals (vs ++ dvs) (us ++ ds) := r.append hd
  have hl : (us ++ ds).length = ps.length := by rw [← r2.length]; exact F.len _ _ _ _ h
  refine wpAny_call (codeAny_mono (F.run X.A X.stack s H ⟨us, []⟩ (us ++ ds) (vs ++ dvs) Q E hr I.env0 (hb s us I.kIn hl) r2 h) fun r s' hq => ?_)
  cases r with
  | error e => exact hx pins σ H s e s' I hq
  | ok fl =>
    cases fl with
    | ret u => exact I.after hq
    | next => exact False.elim hq
    | brk => exact False.elim hq
    | cont => exact False.elim hq
theorem pe_call (F : FnOk X.prog X.w X.K X.mg X.base CX k f fd ps sp) (hr : Room k X.A) (hg : Gl X x) (hm : X.mg x = some (.ref f)) (hk : PySem.W.keepIn X.K (.ref f) = true) (hb : Binds X.K fd ps ds) (hd : Vals dvs ds) (hx : Passes CX X E)
    (ha : PA X (e :: es) t) (hdb : (x == ("__debug__" : Str)) = false := by decide) (he : starEach (e :: es) X.env = (false, eval e X.env) :: starEach es X.env := by rfl) (hpl : (backTo pos (starEach es X.env)).any (·.1) = false := by rfl) :
    PE X (.Call (.Name x p) (e :: es) [] pos) (tCall sp dvs E t) := by
  intro pins s σ H Q I h
  refine wpAny_Call_Name_kw (ld_glob I hg hm ?_ hdb)
  refine PySem.W.callWith_K (h₀ := X.base) I.ok.mod.kin hk (thn (ha pos pins s σ H _ I h) fun us s1 ⟨vs, H1, I1, r, q⟩ => ⟨I1.kIn, ?_⟩) he hpl
  exact run_fn F hr hb hd hx I1 r q
theorem pe_meth {pl : Sem Bool} (he : PE X o ta) (c : Cls X.K C) (hm : Meth X.K C m f) (F : FnOk X.prog X.w X.K X.mg X.base CX k f fd ps sp) (hr : Room k X.A) (hb : Binds X.K fd ps ds) (hd : Vals dvs ds) (hx : Passes CX X E) (ha : PA X (e :: es) t)
    (hst : starEach (e :: es) X.env = (false, eval e X.env) :: starEach es X.env := by rfl) (hpl : (backTo pos (starEach es X.env)).any (·.1) = false := by rfl)
    (ht : eval (.Call (.Attribute o m apos) (e :: es) [] pos) X.env = (do
      let ov ← eval o X.env
      standAt apos.atName
      let (f, first) ← holding [ov] (getMethod ov m pl)
      callWith pos f first (backTo pos (starEach (e :: es) X.env)) (backToKw pos (keywordEach [] X.env))) := by rfl) :
    PE X (.Call (.Attribute o m apos) (e :: es) [] pos) (tMeth C m sp dvs E ta t) := by
  intro pins s σ H Q I h
  refine PySem.W.methodCall_KW (pl := pl) (thn (he pins s σ H _ I h) fun u s1 ⟨x, H1, I1, rx, a, dx, fs, ex, ea, l, q⟩ => ?_) ht
  subst ex
  obtain rfl : u = Value.ref a := rx
  refine getmeth_ok I1 ea c hm l ?_
  refine PySem.W.callWith_K (first := [.ref a]) (h₀ := X.base) I.ok.mod.kin hm.kp (thn (ha pos pins s1 σ H1 _ I1 q) fun us s2 ⟨vs, H2, I2, r, q2⟩ => ⟨I2.kIn, ?_⟩) hst hpl
  exact run_fn (us := .ref a :: us) (vs := .ref a :: vs) F hr hb hd hx I2 (.cons rfl r) q2
structure Mk (K : PySem.W.Frag) (C f : Addr) : Prop where
  makes : PySem.W.makesIn K C = true
  init : PySem.W.findIn K (.ref C) "__init__" = some (some (.ref f))
  fn : PySem.W.isFn K (.ref f) = true
  kp : PySem.W.keepIn K (.ref C) = true
theorem run_make {pins : List (Addr × Obj)} {σ : St} {H : Hp} {s : Shared} {Q : VK} {us : List Value} {vs : List V} (M : Mk X.K C f) (F : FnOk X.prog X.w X.K X.mg X.base CX k f fd ps sp) (hr : Room (k + 1) X.A) (hb : Binds X.K fd ps ds) (hd : Vals dvs ds)
    (hx : Passes CX X E) (I : Inv X pins σ H s) (r : Vals vs us)
    (h : ∀ x dx, H x = none → H dx = none → dx ≠ x → sp (.ref x :: (vs ++ dvs)) (upd (upd H dx (.own x)) x (.ins C dx [])) (fun v H2 => v = .non ∧ Q (.ref x) H2) E) :
    wpAny (model X.prog X.w) X.A (call (.ref C) us) (EP X pins σ Q) X.xe s := by
  have hq := h (s.heap.objs.size + 1) s.heap.objs.size (I.hok.fresh (Nat.le_succ _)) (I.hok.fresh (Nat.le_refl _)) (Nat.ne_of_lt (Nat.lt_succ_self _))
  have I2 := Inv.made (C := C) I
  have r2 : Vals (V.ref (s.heap.objs.size + 1) :: (vs ++ dvs)) (Value.ref (s.heap.objs.size + 1) :: (us ++ ds)) := .cons rfl (r.append hd)
  have hl : (Value.ref (s.heap.objs.size + 1) :: us ++ ds).length = ps.length := by
    have e := r2.length
    rw [F.len _ _ _ _ hq] at e
    exact e.symm
  refine wpAny_call (make_map (f := f) I.kIn M.makes M.init (beq_iff_eq.mp M.fn) (codeAny_mono (F.run _ X.stack _ _ ⟨Value.ref (s.heap.objs.size + 1) :: us, []⟩ (Value.ref (s.heap.objs.size + 1) :: (us ++ ds)) _ _ E (hr.make C us [])
    (I2.env0.make C us []) (hb _ (Value.ref (s.heap.objs.size + 1) :: us) I2.kIn hl) r2 hq) fun r s' hq' => ?_))
  cases r with
  | error e => exact hx pins σ _ _ e s' I2 hq'
  | ok fl =>
    cases fl with
    | ret u =>
      obtain ⟨v, H', I3, rv, ev, q3⟩ := I2.after hq'
      subst ev
      exact ⟨rv, ⟨V.ref (s.heap.objs.size + 1), H', I3, rfl, q3⟩⟩
    | next => exact False.elim hq'
    | brk => exact False.elim hq'
    | cont => exact False.elim hq'
theorem pe_make0 (M : Mk X.K C f) (F : FnOk X.prog X.w X.K X.mg X.base CX k f fd ps sp) (hr : Room (k + 1) X.A) (hg : Gl X x) (hm : X.mg x = some (.ref C)) (hb : Binds X.K fd ps ds) (hd : Vals dvs ds) (hx : Passes CX X E)
    (hdb : (x == ("__debug__" : Str)) = false := by decide) : PE X (.Call (.Name x p) [] [] pos) (tMake C sp dvs E tNil) := by
  intro pins s σ H Q I h
  refine wpAny_Call_Name_kw (ld_glob I hg hm ?_ hdb)
  exact PySem.W.callWith_K0 I.kIn M.kp (run_make (us := []) M F hr hb hd hx I .nil h)
end
section
variable {X : Cx} {CX : CXT} {k : Nat} {f C : Addr} {fd : FuncData} {ps ks : List Str} {sp : Sp} {E : XK} {x m : Str} {p pos apos kpos : Pos} {e o : Expr} {es : List Expr} {kws : List Keyword} {te ta : TE} {t tk : TA} {nm : Option Str}
variable {g : List Value → List Value → List Value} {gV : List V → List V → List V}
end
structure FnScope (N P : List Str) (sc : Scope) : Prop where
  kind : sc.kind = .function
  co : sc.isCoroutine = false
  gen : sc.isGenerator = false
  nd : N.Nodup
  pre : N.take P.length = P
  par : ∀ x ∈ P, sc.names.lookup x = some .local ∨ sc.names.lookup x = some .cell
  nofree : ∀ y ∈ sc.names, y.2 ≠ .free
theorem bindL_out {kindOf : Str → Option NameKind} {x : Str} : ∀ {binds : List (Str × Value)} {m : Str → Option Value}, (∀ v, (x, v) ∉ binds) → bindL kindOf binds m x = m x
  | [], _, _ => rfl
  | (n, v) :: r, m, h => by
    unfold bindL
    rw [bindL_out fun w hw => h w (List.mem_cons_of_mem _ hw)]
    split
    · have : x ≠ n := by rintro rfl; exact h v List.mem_cons_self
      simp [this]
    · rfl
theorem bindC_out {kindOf : Str → Option NameKind} {x : Str} : ∀ {binds : List (Str × Value)} {m : Str → Option Value}, (∀ v, (x, v) ∉ binds) → bindC kindOf binds m x = m x
  | [], _, _ => rfl
  | (n, v) :: r, m, h => by
    unfold bindC
    rw [bindC_out fun w hw => h w (List.mem_cons_of_mem _ hw)]
    split
    · rfl
    · have : x ≠ n := by rintro rfl; exact h v List.mem_cons_self
      simp [this]
theorem bindL_get {kindOf : Str → Option NameKind} {x : Str} {v : Value} : ∀ {P : List Str} {vs : List Value} {i : Nat} {m : Str → Option Value}, P.Nodup → P[i]? = some x → vs[i]? = some v → kindOf x = some .local →
    bindL kindOf (P.zip vs) m x = some v
  | [], _, _, _, _, h, _, _ => by simp at h
  | _ :: _, [], _, _, _, _, h, _ => by simp at h
  | p :: P, w :: vs, 0, m, nd, h1, h2, hk => by
    simp at h1 h2; subst h1; subst h2
    show bindL kindOf ((p, w) :: P.zip vs) m p = _
    unfold bindL
    rw [bindL_out fun v hv => (List.nodup_cons.mp nd).1 (List.of_mem_zip hv).1, if_pos hk]
    simp
  | p :: P, w :: vs, i + 1, m, nd, h1, h2, hk => by
    show bindL kindOf ((p, w) :: P.zip vs) m x = _
    unfold bindL
    exact bindL_get (i := i) (List.nodup_cons.mp nd).2 (by simpa using h1) (by simpa using h2) hk
theorem bindC_get {kindOf : Str → Option NameKind} {x : Str} {v : Value} : ∀ {P : List Str} {vs : List Value} {i : Nat} {m : Str → Option Value}, P.Nodup → P[i]? = some x → vs[i]? = some v → kindOf x ≠ some .local →
    bindC kindOf (P.zip vs) m x = some v
  | [], _, _, _, _, h, _, _ => by simp at h
  | _ :: _, [], _, _, _, _, h, _ => by simp at h
  | p :: P, w :: vs, 0, m, nd, h1, h2, hk => by
    simp at h1 h2; subst h1; subst h2
    show bindC kindOf ((p, w) :: P.zip vs) m p = _
    unfold bindC
    rw [bindC_out fun v hv => (List.nodup_cons.mp nd).1 (List.of_mem_zip hv).1, if_neg hk]
    simp
  | p :: P, w :: vs, i + 1, m, nd, h1, h2, hk => by
    show bindC kindOf ((p, w) :: P.zip vs) m x = _
    unfold bindC
    exact bindC_get (i := i) (List.nodup_cons.mp nd).2 (by simpa using h1) (by simpa using h2) hk
noncomputable def start (N : List Str) (vs : List V) : St := vs.map some ++ List.replicate (N.length - vs.length) none
noncomputable def cxOf (CX : CXT) (P : Program) (w : World) (K : PySem.W.Frag) (mg : Str → Option Value) (base : Heap) (N : List Str) (qual : Str) (scope : Scope) (f : Addr) (cd : Value) (A : Around) (outer : List Env) (s : Shared) (H : Hp) (E : XK) : Cx where
  prog := P
  w := w
  K := K
  mg := mg
  base := base
  A := A.deeper (envOfC qual scope s.heap.objs.size f cd)
  N := N
  s₀ := s
  H₀ := H
  env := envOfC qual scope s.heap.objs.size f cd
  outer := outer
  stack := envOfC qual scope s.heap.objs.size f cd :: outer
  ex := []
  calm := true
  fn := fun _ => true
  pn := []
  xe := fun e s' => wpAny (model P w) (A.deeper (envOfC qual scope s.heap.objs.size f cd)) (leaving (envOfC qual scope s.heap.objs.size f cd) e) (fun _ s'' => CX outer H s E e s'') (fun e' s'' => CX outer H s E e' s'') s'
theorem cell_has {sc : Scope} {n : Nat} {x : Str} (h : sc.names.lookup x = some .cell) : ∃ c, (cellsFrom n sc.names []).lookup x = some c := by
  have q := PySem.W.cellsFrom_some sc.names n [] (.inl h)
  exact Option.isSome_iff_exists.mp q
theorem inv_start {CX : CXT} {P : Program} {w : World} {K : PySem.W.Frag} {mg : Str → Option Value} {base : Heap} {N ps : List Str} {qual : Str} {scope : Scope} {f : Addr} {cd : Value} {A : Around} {outer : List Env} {s s1 : Shared} {H : Hp} {E : XK} {us : List Value} {vs : List V}
    (S : FnScope N ps scope) (hd : A.handled = none) (e0 : Env0 P w K mg base A outer s H) (hl : vs.length = ps.length) (r : Vals vs us)
    (x : InCallC s s.heap.objs.size (bindL (envOfC qual scope s.heap.objs.size f cd).kindOf (ps.zip us) fun _ => none) (cellsFrom (s.heap.objs.size + 1) scope.names []) (bindC (envOfC qual scope s.heap.objs.size f cd).kindOf (ps.zip us) fun _ => none) s1) :
    Inv (cxOf CX P w K mg base N qual scope f cd A outer s H E) [] (start N vs) H s1 := by
  have hpl : ps.length ≤ N.length := by have := congrArg List.length S.pre; rw [List.length_take] at this; omega
  obtain ⟨h1, tk, rfl, hk⟩ := x.done
  have noA : ∀ b : Addr, b ∉ (cxOf CX P w K mg base N qual scope f cd A outer s H E).ex := fun b z => absurd (show b ∈ ([] : List Addr) from z) (by simp)
  refine ⟨⟨e0.mod, S.kind, rfl, rfl, Nat.le_refl _, fun y z c h1 h2 => ?_, fun y hy => ?_, fun y c _ h => ?_, fun _ => hd, Around.frames_deeper e0.frames, .inr ⟨rfl, rfl⟩, fun b z => absurd z (noA b), e0.bs, e0.bsz, fun b _ _ => noA b, fun b z => absurd z (noA b), e0.funs, e0.frf⟩,
    rfl, e0.bare, Un.kept hk, ⟨_, x.toInCall.ns, fun i y v h1 h2 h3 => ?_⟩, fun y c h => ⟨_, x.cell y c h⟩, e0.hok.fresh (Nat.le_refl _), fun y c h => ?_, fun p hp => absurd (show p ∈ ([] : List (Addr × Obj)) from hp) (by simp), e0.hok.kept hk, ?_⟩
  · exact name_of_addr x.apart (PySem.mem_of_lookup h1) (PySem.mem_of_lookup h2)
  · have hy : scope.names.lookup y = some .cell ∨ scope.names.lookup y = some .free := hy
    rcases hy with hy | hy
    · exact cell_has hy
    · exact absurd rfl (S.nofree _ (PySem.mem_of_lookup hy))
  · exact Nat.le_of_lt (x.above y c (PySem.mem_of_lookup h))
  · have hi : i < vs.length := by
      unfold start at h2
      by_cases hi : i < vs.length
      · exact hi
      · rw [List.getElem?_append_right (by simpa using hi)] at h2
        rw [List.getElem?_replicate] at h2
        split at h2 <;> cases h2
    have ha : vs[i]? = some v := by
      unfold start at h2
      rw [List.getElem?_append_left (by simpa using hi), List.getElem?_map] at h2
      cases e : vs[i]? with
      | none => rw [e] at h2; cases h2
      | some a => rw [e] at h2; cases h2; rfl
    obtain ⟨u, hu, rv⟩ := r.get ha
    have hp : ps[i]? = some y := by
      rw [← S.pre, List.getElem?_take_of_lt (by omega)]; exact h1
    have ndP : ps.Nodup := by rw [← S.pre]; exact S.nd.sublist (List.take_sublist _ _)
    refine ⟨u, rv, ?_⟩
    rcases S.par y (List.mem_of_getElem? hp) with k | k
    · exact .inl ⟨k, bindL_get ndP hp hu k⟩
    · obtain ⟨c, e⟩ := cell_has (n := s.heap.objs.size + 1) k
      refine .inr ⟨.inl k, c, e, ?_⟩
      have q := x.cell y c e
      rw [bindC_get ndP hp hu (by show scope.names.lookup y ≠ _; rw [k]; decide)] at q
      exact q
  · exact e0.hok.fresh (Nat.le_of_lt (x.above y c (PySem.mem_of_lookup h)))
  · unfold start
    show _ = N.length
    rw [List.length_append, List.length_map, List.length_replicate]
    omega
theorem fn_of {CX : CXT} {P : Program} {w : World} {K : PySem.W.Frag} {mg : Str → Option Value} {base : Heap} {k : Nat} {f : Addr} {name qual : Str} {params : Arguments} {body : List Stmt} {scope : Scope} {dV kV doc pm cdv ct oc : Value} {an od : Option Addr}
    {osl : Array (Option Value)} {N ps : List Str} {sp : Sp} (lk : K.lookup f = some ⟨oc, od, .func (PySem.W.fnOf name qual params body scope dV kV doc pm an cdv ct), osl⟩) (hcd : PySem.W.codeIn K cdv qual = true) (S : FnScope N ps scope)
    (len : ∀ vs H Q E, sp vs H Q E → vs.length = ps.length)
    (hbody : ∀ (A : Around) (outer : List Env) (s : Shared) (H : Hp) (vs : List V) (Q : VK) (E : XK), Room k (A.deeper (envOfC qual scope s.heap.objs.size f cdv)) → sp vs H Q E →
      ∃ t, PSs (cxOf CX P w K mg base N qual scope f cdv A outer s H E) body t ∧ t { nx := fun _ H' => Q .non H', rt := Q } (start N vs) H) :
    FnOk P w K mg base CX (k + 1) f (PySem.W.fnOf name qual params body scope dV kV doc pm an cdv ct) ps sp := by
  refine ⟨len, fun A outer s H args us vs Q E hr e0 hb r hsp => ?_⟩
  have hl := len _ _ _ _ hsp
  have KX : K.In s.heap := e0.mod.kin.keeps fun b o e => (e0.bs b o e).1
  have lim : s.heap.NoLimit := e0.mod.nolimit.keeps fun b o e => (e0.bs b o e).1
  have hkind : ∀ y ∈ ps.zip us, scope.names.lookup y.1 = some .local ∨ (scope.names.lookup y.1 = some .cell ∧ ((cellsFrom (s.heap.objs.size + 1) scope.names []).lookup y.1).isSome = true) := fun ⟨n, v⟩ hy => by
    rcases S.par n (List.of_mem_zip hy).1 with q | q
    · exact .inl q
    · exact .inr ⟨q, PySem.W.cellsFrom_some _ _ _ (.inl q)⟩
  refine codeAny_call_function hr.depth (KX _ _ lk) rfl S.co S.gen rfl (PySem.W.codeRec_of KX hcd) (hb _ _ _ _ ?_)
  refine wpAny_newFunctionEnv_cells S.kind hkind fun env he s1 x => ?_
  subst he
  refine ⟨lim.keeps x.toInCall.keep, codeAny_func ?_⟩
  obtain ⟨t, ht, hq⟩ := hbody A outer s H vs Q E (hr.deeper _) hsp
  have I : Inv (cxOf CX P w K mg base N qual scope f cdv A outer s H E) [] (start N vs) H s1 := inv_start S hr.hd e0 hl r x
  refine wpAny_mono (ht [] s1 (start N vs) H _ I hq) (fun fl s' hs => ?_) fun e s' hs => hs
  have fin : ∀ {σ' : St} {H' : Hp} {v : V} {u : Value}, Inv (cxOf CX P w K mg base N qual scope f cdv A outer s H E) [] σ' H' s' → RelV v u → Q v H' → CE outer P w H s Q u s' :=
    fun {σ' H' v u} J rv q => ⟨v, H', J.os, J.bare, J.base, J.hok, rv, q⟩
  cases fl with
  | ret u =>
    obtain ⟨v, σ', H', J, rv, q⟩ := hs
    exact fin J rv q
  | next =>
    obtain ⟨σ', H', J, q⟩ := hs
    exact fin (v := V.non) (u := Value.none) J rfl q
  | brk =>
    obtain ⟨_, _, _, q⟩ := hs
    exact False.elim q
  | cont =>
    obtain ⟨_, _, _, q⟩ := hs
    exact False.elim q
end L2
namespace L2
open PySem PySem.Spec PyProof.Rows
section
variable {X : Cx} {x : Str} {p pos : Pos} {e : Expr} {es : List Expr} {t : TA} {id T : String} {r : List V → Hp → VK → Prop}
noncomputable def tCB (r : List V → Hp → VK → Prop) (t : TA) : TE := fun σ H Q => t σ H fun vs H1 => r vs H1 Q
theorem pe_callB (hc : CallR X (.builtin id) r) (hg : Gl X x) (hm : X.mg x = none) (hv : bootBuiltins x = some (.builtin id)) (ha : PA X (e :: es) t) (hn : x ≠ "__name__" := by decide) (hdb : (x == ("__debug__" : Str)) = false := by decide)
    (he : starEach (e :: es) X.env = (false, eval e X.env) :: starEach es X.env := by rfl) (hpl : (backTo pos (starEach es X.env)).any (·.1) = false := by rfl) : PE X (.Call (.Name x p) (e :: es) [] pos) (tCB r t) := by
  intro pins s σ H Q I h
  refine wpAny_Call_Name_kw (ld_blt I hg hm hv ?_ hn hdb)
  exact PyProof.Rows.callWith_builtin1 (thn (ha pos pins s σ H _ I h) fun us s1 ⟨vs, H1, I1, r1, q1⟩ => hc pins s1 σ H1 vs us Q I1 r1 q1) he hpl
theorem pe_callTy (hc : CallR X (.type T) r) (hg : Gl X x) (hm : X.mg x = none) (hv : bootBuiltins x = some (.type T)) (ha : PA X (e :: es) t) (hn : x ≠ "__name__" := by decide) (hdb : (x == ("__debug__" : Str)) = false := by decide)
    (he : starEach (e :: es) X.env = (false, eval e X.env) :: starEach es X.env := by rfl) (hpl : (backTo pos (starEach es X.env)).any (·.1) = false := by rfl) : PE X (.Call (.Name x p) (e :: es) [] pos) (tCB r t) := by
  intro pins s σ H Q I h
  refine wpAny_Call_Name_kw (ld_blt I hg hm hv ?_ hn hdb)
  exact PyProof.Rows.callWith_type1 (thn (ha pos pins s σ H _ I h) fun us s1 ⟨vs, H1, I1, r1, q1⟩ => hc pins s1 σ H1 vs us Q I1 r1 q1) he hpl
end
end L2
namespace HT
open PySem PyProof.Rows
section
open PySem.SeqAt
open PySem.AutoSeq1 (wpAny_loadPart')
open PySem.MeetsSeq PySem.MeetsSeq2 PySem.MeetsSeq3
end
section
variable {prog : Program} {w : World} {A : Around} {E : Value → Shared → Prop} {s : Shared}
noncomputable def sIx (n d : Nat) : Option Int → Nat
  | none => d
  | some v => if v < 0 then (v + (n : Int)).toNat else min v.toNat n
end
end HT
namespace L2
open PySem PySem.Spec PyProof.Rows
noncomputable abbrev TO := St → Hp → (Option Int → Hp → Prop) → Prop
noncomputable def PO (X : Cx) (e : Option Expr) (t : TO) : Prop :=
  ∀ (pins : List (Addr × Obj)) (s : Shared) (σ : St) (H : Hp) (Q : Option Int → Hp → Prop), Inv X pins σ H s → t σ H Q →
    wpAny (model X.prog X.w) X.A (evalPart e X.env) (fun u s' => ∃ o H', Inv X pins σ H' s' ∧ IsPart u o ∧ Q o H') X.xe s
noncomputable def tNoPart : TO := fun _ H Q => Q none H
noncomputable def tPart (t : TE) : TO := fun σ H Q => t σ H fun x H1 => ∃ i, x = .int i ∧ Q (some i) H1
theorem intsAre_of {ns : List Int} : ∀ {us : List Value}, Vals (ns.map V.int) us → IntsAre us ns := by
  induction ns with
  | nil => intro us r; rw [List.map_nil] at r; cases r; exact .nil
  | cons n ns ih =>
    intro us r
    rw [List.map_cons] at r
    cases r with
    | cons r1 r2 =>
      obtain ⟨t, e⟩ := r1
      subst e
      exact .cons n t (ih r2)
section
variable {X : Cx} {e : Expr} {te : TE} {lo hi : Option Expr} {tl th : TO} {pos p2 : Pos}
theorem po_none : PO X none tNoPart := by
  intro pins s σ H Q I h
  rw [evalPart_none]
  exact wpAny_pure ⟨none, H, I, .none, h⟩
theorem po_some (h : PE X e te) : PO X (some e) (tPart te) := by
  intro pins s σ H Q I hw
  rw [evalPart_some]
  refine thn (h pins s σ H _ I hw) fun u s1 ⟨x, H1, I1, r1, q1⟩ => ?_
  obtain ⟨i, rfl, q⟩ := q1
  obtain ⟨t, rfl⟩ := r1
  exact ⟨some i, H1, I1, .int i t, q⟩
noncomputable def SlR (X : Cx) (r : V → Option Int → Option Int → Hp → VK → Prop) : Prop :=
  ∀ (pins : List (Addr × Obj)) (s : Shared) (σ : St) (H : Hp) (x : V) (v vl vu : Value) (lo hi : Option Int) (sl : Addr) (Q : VK), Inv X pins σ H s → RelV x v → s.heap.IsSliceOf sl vl vu .none → IsPart vl lo → IsPart vu hi → r x lo hi H Q →
    ∃ T id, typeLookup (.type T) "__getitem__" = pure (some (.builtin id)) ∧ s.TypeIs v T ∧ wpAny (model X.prog X.w) X.A (getItem v (.ref sl)) (EP X pins σ Q) X.xe s
noncomputable def tSl (r : V → Option Int → Option Int → Hp → VK → Prop) (te : TE) (tl th : TO) : TE := fun σ H Q => te σ H fun x H1 => tl σ H1 fun l H2 => th σ H2 fun u H3 => r x l u H3 Q
theorem pe_slice {r : V → Option Int → Option Int → Hp → VK → Prop} (hr : SlR X r) (he : PE X e te) (hl : PO X lo tl) (hu : PO X hi th) : PE X (.Subscript e (.Slice lo hi none p2) pos) (tSl r te tl th) := by
  intro pins s σ H Q I h
  refine Subscript_ (thn (he pins s σ H _ I h) fun v s1 ⟨x, H1, I1, r1, q1⟩ => ?_)
  refine wpAny_Slice (thn (hl pins s1 σ H1 _ I1 q1) fun vl s2 ⟨l, H2, I2, pl, q2⟩ => thn (hu pins s2 σ H2 _ I2 q2) fun vu s3 ⟨u, H3, I3, pu, q3⟩ => ?_)
  rw [evalPart_none]
  refine wpAny_pure ?_
  have I4 : Inv X pins σ H3 { s3 with heap := s3.heap.push { cls := .type "slice", data := .fields #[vl, vu, .none] } } := I3.kept (t' := s3.toks) fun b ob q => Heap.get?_push_of_some _ q
  obtain ⟨T, id, hT, ht, hg⟩ := hr pins { s3 with heap := s3.heap.push { cls := .type "slice", data := .fields #[vl, vu, .none] } } σ H3 x v vl vu l u s3.heap.objs.size Q I4 r1 (Heap.IsSliceOf.new ..) pl pu q3
  show wpAny (model X.prog X.w) X.A (subscriptTail e (.Slice lo hi none p2) v (.ref s3.heap.objs.size)) (EP X pins σ Q) X.xe { s3 with heap := s3.heap.push { cls := .type "slice", data := .fields #[vl, vu, .none] } }
  exact tail_any (ops := [.ref s3.heap.objs.size, v]) ht hT hg (by with_unfolding_all rfl)
noncomputable def cutV (xs : List V) (lo hi : Option Int) : List V := (xs.drop (HT.sIx xs.length 0 lo)).take (HT.sIx xs.length xs.length hi - HT.sIx xs.length 0 lo)
theorem cutV_length (xs : List V) (lo hi : Option Int) : (cutV xs lo hi).length ≤ xs.length := by
  unfold cutV
  rw [List.length_take, List.length_drop]
  omega
end
end L2
namespace L2
open PySem PySem.Spec PyProof.Rows
noncomputable def ixN (n : Nat) (i : Int) : Option Nat := if 0 ≤ i then (if i < n then some i.toNat else none) else if -(n : Int) ≤ i then some (i + n).toNat else none
noncomputable def atI {α : Type} (xs : List α) (i : Int) : Option α := (ixN xs.length i).bind fun j => xs[j]?
theorem ixN_seq {n : Nat} {i : Int} {j : Nat} (h : ixN n i = some j) : seqIndex? i n = some j ∧ j < n ∧ -(n : Int) ≤ i ∧ i < n := by
  unfold ixN at h
  by_cases h0 : 0 ≤ i
  · rw [if_pos h0] at h
    by_cases h1 : i < n
    · rw [if_pos h1] at h
      have e : i.toNat = j := Option.some.inj h
      exact ⟨by rw [seqIndex_of h0 h1, e], by omega, by omega, h1⟩
    · rw [if_neg h1] at h; cases h
  · rw [if_neg h0] at h
    by_cases h1 : -(n : Int) ≤ i
    · rw [if_pos h1] at h
      have e : (i + n).toNat = j := Option.some.inj h
      exact ⟨by rw [seqIndex_neg (by omega) h1, e], by omega, h1, by omega⟩
    · rw [if_neg h1] at h; cases h
theorem atI_get {α : Type} {xs : List α} {i : Int} {v : α} (h : atI xs i = some v) : ∃ j, seqIndex? i xs.length = some j ∧ xs[j]? = some v ∧ j < xs.length ∧ -(xs.length : Int) ≤ i ∧ i < xs.length := by
  unfold atI at h
  cases e : ixN xs.length i with
  | none => rw [e] at h; cases h
  | some j =>
    rw [e] at h
    obtain ⟨h1, h2, h3, h4⟩ := ixN_seq e
    exact ⟨j, h1, h, h2, h3, h4⟩
theorem atI_nat {α : Type} {xs : List α} {j : Nat} {v : α} (h : xs[j]? = some v) : atI xs (j : Int) = some v := by
  have hj : j < xs.length := (List.getElem?_eq_some_iff.mp h).1
  have e : ixN xs.length (j : Int) = some j := by
    unfold ixN
    rw [if_pos (by omega), if_pos (by omega)]; simp
  unfold atI; rw [e]; exact h
noncomputable def PlainIx (b : Expr) : Prop := ∀ o i, subscripted b false o i = operate [o, i] (getItem o i)
noncomputable def IxR (X : Cx) (r : R2) : Prop :=
  ∀ (value slice : Expr) (pins : List (Addr × Obj)) (s : Shared) (σ : St) (H : Hp) (x y : V) (v u : Value) (Q : VK), Inv X pins σ H s → RelV x v → RelV y u → r x y H Q →
    subscripted slice false v u = operate [v, u] (getItem v u) → wpAny (model X.prog X.w) X.A (subscriptTail value slice v u) (EP X pins σ Q) X.xe s
noncomputable def MtR (X : Cx) (id : String) (r : V → List V → Hp → VK → Prop) : Prop :=
  ∀ (pins : List (Addr × Obj)) (s : Shared) (σ : St) (H : Hp) (x : V) (xs : List V) (v : Value) (us : List Value) (Q : VK), Inv X pins σ H s → RelV x v → Vals xs us → r x xs H Q →
    wpAny (model X.prog X.w) X.A (call (.builtin id) (v :: us)) (EP X pins σ Q) X.xe s
section
variable {X : Cx} {a b : Expr} {ta tb : TE} {pos : Pos}
theorem pe_ix {r : R2} (hr : IxR X r) (ha : PE X a ta) (hb : PE X b tb) (hs : PlainIx b) : PE X (.Subscript a b pos) (tOp r ta tb) := by
  intro pins s σ H Q I h
  exact Subscript_ (binT ha hb I h fun v u s2 x y H2 I2 rx ry q => hr a b pins s2 σ H2 x y v u Q I2 rx ry q (hs _ _))
noncomputable def rIxL (K : PySem.W.Frag) : R2 := fun x y H Q => ∃ p xs i v, x = .ref p ∧ y = .int i ∧ SqL K H p xs ∧ atI xs i = some v ∧ Q v H
noncomputable def rIxT (K : PySem.W.Frag) : R2 := fun x y H Q => ∃ p xs i v, x = .ref p ∧ y = .int i ∧ SqT K H p xs ∧ atI xs i = some v ∧ Q v H
theorem ix_list : IxR X (rIxL X.K) := by
  intro value slice pins s σ H x y v u Q I rx ry h hs
  obtain ⟨p, xs, i, z, rfl, rfl, hq, he, q⟩ := h
  cases rx
  obtain ⟨t, rfl⟩ := ry
  obtain ⟨its, r, pl, hz⟩ := I.list hq
  obtain ⟨j, h1, h2, h3, h4, h5⟩ := atI_get he
  obtain ⟨w, ew, rw'⟩ := r.get h2
  have hl := r.length
  have hn := line63
  have fin : EP X pins σ Q w s := ⟨z, H, I, rw', q⟩
  by_cases h0 : 0 ≤ i
  · have hj : i.toNat = j := by
      rw [seqIndex_of h0 h5] at h1
      exact Option.some.inj h1
    exact item_listR pl.isList h0 (by omega) (by rw [hj]; simpa using ew) fin hs
  · have hj : (i + (its.toArray.size : Int)).toNat = j := by
      rw [seqIndex_neg (by omega) h4] at h1
      rw [List.size_toArray, ← hl]
      exact Option.some.inj h1
    exact subscriptTail_builtinR (x := w) pl.isList.typeIs slot_list_getitem.lookup
      (wpAny_getItem_list_neg (Q := fun r s' => r = w ∧ EP X pins σ Q r s') pl.isList (by omega) (by rw [List.size_toArray] <;> omega) (by omega) (by rw [hj]; simpa using ew) ⟨rfl, fin⟩) hs
theorem ix_tup : IxR X (rIxT X.K) := by
  intro value slice pins s σ H x y v u Q I rx ry h hs
  obtain ⟨p, xs, i, z, rfl, rfl, hq, he, q⟩ := h
  cases rx
  obtain ⟨t, rfl⟩ := ry
  obtain ⟨its, r, pl, hz⟩ := I.tuple hq
  obtain ⟨j, h1, h2, h3, h4, h5⟩ := atI_get he
  obtain ⟨w, ew, rw'⟩ := r.get h2
  have hl := r.length
  have hn := line63
  have fin : EP X pins σ Q w s := ⟨z, H, I, rw', q⟩
  exact subscriptTail_builtinR (x := w) pl.typeIs slot_tuple_getitem.lookup
    (getItem_tuple (j := j) (Q := fun r s' => r = w ∧ EP X pins σ Q r s') pl (by omega) (by omega) (by rw [List.size_toArray, ← hl]; exact h1) (by simpa using ew) ⟨rfl, fin⟩) hs
theorem Inv.lst {pins : List (Addr × Obj)} {σ : St} {H : Hp} {s : Shared} {p : Addr} {xs : List V} (I : Inv X pins σ H s) (h : H p = some (.lst xs)) :
    ∃ (its : List Value) (n : Nat), Vals xs its ∧ s.heap.get? p = some { cls := .type "list", data := .seq its.toArray n } ∧ xs.length ≤ sizeLine := by
  obtain ⟨z, its, n, r, e⟩ := I.hok p _ h
  exact ⟨its, n, r, e, z⟩
theorem slice_bounds (lo hi : Option Int) (n : Nat) : (sliceBounds lo hi none n).1 = ((HT.sIx n 0 lo : Nat) : Int) ∧ (sliceBounds lo hi none n).2.1 = ((HT.sIx n n hi : Nat) : Int) ∧ (sliceBounds lo hi none n).2.2 = 1 := by
  refine ⟨?_, ?_, rfl⟩
  · cases lo with
    | none => simp [sliceBounds, HT.sIx]
    | some i =>
      simp only [sliceBounds, HT.sIx, Option.getD_none, show (1 : Int) > 0 by decide, if_true]
      by_cases h : i < 0
      · simp only [h, if_true] <;> omega
      · simp only [h, if_false] <;> omega
  · cases hi with
    | none => simp [sliceBounds, HT.sIx]
    | some i =>
      simp only [sliceBounds, HT.sIx, Option.getD_none, show (1 : Int) > 0 by decide, if_true]
      by_cases h : i < 0
      · simp only [h, if_true] <;> omega
      · simp only [h, if_false] <;> omega
theorem slicePick_cut (its : List Value) (lo hi : Option Int) : slicePick its.toArray lo hi none = ((its.drop (HT.sIx its.length 0 lo)).take (HT.sIx its.length its.length hi - HT.sIx its.length 0 lo)).toArray := by
  obtain ⟨h1, h2, h3⟩ := slice_bounds lo hi its.toArray.size
  unfold slicePick
  rw [h1, h2, h3]
  simp only [sliceRange_one, pick_run, List.size_toArray] <;> rfl
noncomputable def rSlL (K : PySem.W.Frag) : V → Option Int → Option Int → Hp → VK → Prop := fun x lo hi H Q => ∃ a xs, x = .ref a ∧ SqL K H a xs ∧ ∀ p, H p = none → Q (.ref p) (upd H p (.lst (cutV xs lo hi)))
theorem sl_list : SlR X (rSlL X.K) := by
  intro pins s σ H x v vl vu lo hi sl Q I rx hs pl pu h
  obtain ⟨a, xs, rfl, hx, q⟩ := h
  cases rx
  obtain ⟨its, r, ht, hz⟩ := I.list hx
  have hlen := r.length
  refine ⟨"list", _, slot_list_getitem.lookup, ht.isList.typeIs, ?_⟩
  refine wpAny_getItem_list_slice ht.isList hs pl pu .none (by simp) ?_ (by rw [List.size_toArray] <;> omega)
  rw [slicePick_cut, ← hlen]
  refine ⟨.ref s.heap.objs.size, _, I.laid (t' := s.toks) (o := .lst (cutV xs lo hi)) (fun b ob q => Heap.get?_push_of_some _ q) (Nat.le_refl _) ?_, rfl, q _ (I.hok.fresh (Nat.le_refl _))⟩
  exact ⟨Nat.le_trans (cutV_length xs lo hi) hz, _, 0, (r.drop (HT.sIx xs.length 0 lo)).take (HT.sIx xs.length xs.length hi - HT.sIx xs.length 0 lo), Heap.get?_push_size _ rfl⟩
noncomputable def flatV : V → Bool
  | .non => true
  | .bl _ => true
  | .int _ => true
  | .str _ => true
  | _ => false
noncomputable def eqV : V → V → Bool
  | .non, .non => true
  | .bl a, .bl b => a == b
  | .bl a, .int b => (if a then 1 else 0) == b
  | .int a, .bl b => a == (if b then 1 else 0)
  | .int a, .int b => a == b
  | .str a, .str b => a == b
  | _, _ => false
theorem eqAt_V {A : Around} {s : Shared} {y x : V} {u v : Value} (ry : RelV y u) (rx : RelV x v) (fy : flatV y = true) (fx : flatV x = true) : SeqAt.EqAt A s u v (eqV y x) := by
  cases y with
  | non =>
    cases ry
    cases x with
    | non => cases rx; exact SeqAt.EqAt.same _
    | bl b => cases rx; exact SeqAt.EqAt.none_bool b
    | int b => obtain ⟨t, rfl⟩ := rx; exact SeqAt.EqAt.none_int b t
    | str b => obtain ⟨t, rfl⟩ := rx; exact SeqAt.EqAt.none_str b t
    | _ => exact absurd (show false = true from fx) Bool.false_ne_true
  | bl a =>
    cases ry
    cases x with
    | non => cases rx; exact SeqAt.EqAt.bool_none a
    | bl b => cases rx; exact SeqAt.EqAt.bool_bool a b
    | int b => obtain ⟨t, rfl⟩ := rx; exact SeqAt.EqAt.bool_int a b t
    | str b => obtain ⟨t, rfl⟩ := rx; exact SeqAt.EqAt.bool_str a b t
    | _ => exact absurd (show false = true from fx) Bool.false_ne_true
  | int a =>
    obtain ⟨t', rfl⟩ := ry
    cases x with
    | non => cases rx; exact SeqAt.EqAt.int_none a t'
    | bl b => cases rx; exact SeqAt.EqAt.int_bool a t' b
    | int b => obtain ⟨t, rfl⟩ := rx; exact SeqAt.EqAt.int_int a t' b t
    | str b => obtain ⟨t, rfl⟩ := rx; exact SeqAt.EqAt.int_str a t' b t
    | _ => exact absurd (show false = true from fx) Bool.false_ne_true
  | str a =>
    obtain ⟨t', rfl⟩ := ry
    cases x with
    | non => cases rx; exact SeqAt.EqAt.str_none a t'
    | bl b => cases rx; exact SeqAt.EqAt.str_bool a t' b
    | int b => obtain ⟨t, rfl⟩ := rx; exact SeqAt.EqAt.str_int a t' b t
    | str b => obtain ⟨t, rfl⟩ := rx; exact SeqAt.EqAt.str_str a t' b t
    | _ => exact absurd (show false = true from fx) Bool.false_ne_true
  | _ => exact absurd (show false = true from fy) Bool.false_ne_true
noncomputable def eqU (x : V) (u : Value) : Bool := match u with
  | .none => eqV .non x
  | .bool b => eqV (.bl b) x
  | .int i _ => eqV (.int i) x
  | .str z _ => eqV (.str z) x
  | _ => false
theorem eqU_of {x y : V} {u : Value} (r : RelV y u) (f : flatV y = true) : eqU x u = eqV y x := by
  cases y with
  | non => cases r; rfl
  | bl b => cases r; rfl
  | int i => obtain ⟨t, rfl⟩ := r; rfl
  | str z => obtain ⟨t, rfl⟩ := r; rfl
  | _ => exact absurd (show false = true from f) Bool.false_ne_true
theorem any_eqU {x : V} : ∀ {xs : List V} {us : List Value}, Vals xs us → xs.all flatV = true → us.any (eqU x) = xs.any fun y => eqV y x
  | _, _, .nil, _ => rfl
  | y :: xs, u :: us, .cons r t, f => by
    rw [List.all_cons, Bool.and_eq_true] at f
    rw [List.any_cons, List.any_cons, eqU_of r f.1, any_eqU t f.2]
theorem mem_eqAt {A : Around} {s : Shared} {x : V} {v : Value} (rx : RelV x v) (fx : flatV x = true) : ∀ {xs : List V} {us : List Value}, Vals xs us → xs.all flatV = true → ∀ u ∈ us, SeqAt.EqAt A s u v (eqU x u)
  | _, _, .nil, _ => fun u hu => by cases hu
  | y :: xs, u :: us, .cons r t, f => fun u' hu => by
    rw [List.all_cons, Bool.and_eq_true] at f
    rcases List.mem_cons.mp hu with rfl | hu
    · rw [eqU_of r f.1]; exact eqAt_V r rx f.1 fx
    · exact mem_eqAt rx fx t f.2 u' hu
noncomputable def inV (x : V) (xs : List V) : Bool := xs.any fun y => eqV y x
noncomputable def rIn (K : PySem.W.Frag) (neg : Bool) : R2 := fun x y H Q => ∃ p xs, y = .ref p ∧ (SqL K H p xs ∨ SqT K H p xs) ∧ flatV x = true ∧ xs.all flatV = true ∧ Q (.bl (if neg then !inV x xs else inV x xs)) H
theorem op_in_seq : OpR X (compareOp .In) (rIn X.K false) := by
  intro pins s σ H x y v u Q I rx ry h
  obtain ⟨p, xs, rfl, hq, fx, fs, q⟩ := h
  cases ry
  rcases hq with hq | hq
  · obtain ⟨its, r, pl, hz⟩ := I.list hq
    refine SeqAt.in_listAt (eqU x) pl.isList (fun w hw => mem_eqAt rx fx r fs w (by simpa using hw)) ⟨.bl _, H, I, rfl, ?_⟩
    rw [show its.toArray.any (eqU x) = its.any (eqU x) by simp, any_eqU r fs]
    exact q
  · obtain ⟨its, r, pl, hz⟩ := I.tuple hq
    refine SeqAt.in_tupleAt (eqU x) pl (fun w hw => mem_eqAt rx fx r fs w (by simpa using hw)) ⟨.bl _, H, I, rfl, ?_⟩
    rw [show its.toArray.any (eqU x) = its.any (eqU x) by simp, any_eqU r fs]
    exact q
theorem op_notIn_seq : OpR X (compareOp .NotIn) (rIn X.K true) := by
  intro pins s σ H x y v u Q I rx ry h
  obtain ⟨p, xs, rfl, hq, fx, fs, q⟩ := h
  cases ry
  rcases hq with hq | hq
  · obtain ⟨its, r, pl, hz⟩ := I.list hq
    refine SeqAt.notIn_listAt (eqU x) pl.isList (fun w hw => mem_eqAt rx fx r fs w (by simpa using hw)) ⟨.bl _, H, I, rfl, ?_⟩
    rw [show its.toArray.any (eqU x) = its.any (eqU x) by simp, any_eqU r fs]
    exact q
  · obtain ⟨its, r, pl, hz⟩ := I.tuple hq
    refine SeqAt.notIn_tupleAt (eqU x) pl (fun w hw => mem_eqAt rx fx r fs w (by simpa using hw)) ⟨.bl _, H, I, rfl, ?_⟩
    rw [show its.toArray.any (eqU x) = its.any (eqU x) by simp, any_eqU r fs]
    exact q
theorem call_len_seq : CallR X (.builtin "len") (fun xs H Q => ∃ p ys, xs = [.ref p] ∧ (SqL X.K H p ys ∨ SqT X.K H p ys) ∧ Q (.int ys.length) H) := by
  intro pins s σ H xs us Q I r h
  obtain ⟨p, ys, rfl, hq, q⟩ := h
  obtain ⟨u, rfl, rx⟩ := vals1 r
  cases rx
  have hn := line63
  rcases hq with hq | hq
  · obtain ⟨its, r', pl, hz⟩ := I.list hq
    have hlen := r'.length
    exact Calls.call_len_list pl.isList (by simp only [List.size_toArray] <;> omega) ⟨.int ys.length, H, I.tok _, ⟨s.toks + 1, by rw [List.size_toArray, hlen]⟩, q⟩
  · obtain ⟨its, r', pl, hz⟩ := I.tuple hq
    have hlen := r'.length
    exact len_tuple pl (by simp only [List.size_toArray] <;> omega) ⟨.int ys.length, H, I.tok _, ⟨s.toks + 1, by rw [List.size_toArray, hlen]⟩, q⟩
noncomputable def tyV (K : PySem.W.Frag) (T : String) (x : V) (H : Hp) : Prop := match x with
  | .str _ => T = "str"
  | .int _ => T = "int"
  | .ref p => (T = "list" ∧ ∃ xs, SqL K H p xs) ∨ (T = "tuple" ∧ ∃ o, K.lookup p = some o ∧ o.cls = .type "tuple" ∧ o.dict = none) ∨
      (T = "dict" ∧ ((∃ kvs, H p = some (.dK kvs)) ∨ ∃ kvs, H p = some (.dT kvs))) ∨ (T = "set" ∧ ∃ S n, H p = some (.set S n))
  | _ => False
theorem tyV_is {pins : List (Addr × Obj)} {σ : St} {H : Hp} {s : Shared} {T : String} {x : V} {v : Value} (I : Inv X pins σ H s) (r : RelV x v) (ty : tyV X.K T x H) :
    s.TypeIs v T ∧ ∀ a, v = .ref a → ∃ ob, s.heap.get? a = some ob ∧ ob.dict = none := by
  cases x with
  | str z =>
    obtain ⟨t, rfl⟩ := r
    cases (show T = "str" from ty)
    exact ⟨typeIs_str s z t, fun _ e => nomatch e⟩
  | int i =>
    obtain ⟨t, rfl⟩ := r
    cases (show T = "int" from ty)
    exact ⟨typeIs_int s i t, fun _ e => nomatch e⟩
  | ref p =>
    cases r
    rcases ty with ⟨rfl, xs, hq⟩ | ⟨rfl, o, hk, hc, hd⟩ | ⟨rfl, hk⟩ | ⟨rfl, S, n, hk⟩
    · obtain ⟨its, _, pl, _⟩ := I.list hq
      refine ⟨pl.isList.typeIs, fun a e => ?_⟩
      cases e
      obtain ⟨o, n, e, c, hd, _⟩ := pl
      exact ⟨o, e, hd⟩
    · refine ⟨⟨o, I.kIn p o hk, hc⟩, fun a e => ?_⟩
      cases e
      exact ⟨o, I.kIn _ o hk, hd⟩
    · have z : ∃ o, s.heap.get? p = some o ∧ o.ExactDict := by
        rcases hk with ⟨kvs, hk⟩ | ⟨kvs, hk⟩
        · obtain ⟨_, _, _, _, o, _, _, e, ex, _⟩ := I.hok p _ hk
          exact ⟨o, e, ex⟩
        · obtain ⟨_, _, _, _, o, _, _, e, ex, _⟩ := I.hok p _ hk
          exact ⟨o, e, ex⟩
      obtain ⟨o, e, ex⟩ := z
      refine ⟨⟨o, e, ex.1⟩, fun a e2 => ?_⟩
      cases e2
      exact ⟨o, e, ex.2.1⟩
    · obtain ⟨o, _, _, _, e, ex, _⟩ := I.hok p _ hk
      refine ⟨⟨o, e, ex.1⟩, fun a e2 => ?_⟩
      cases e2
      exact ⟨o, e, ex.2.1⟩
  | _ => exact False.elim ty
noncomputable def tBM0 (K : PySem.W.Frag) (T : String) (r : V → List V → Hp → VK → Prop) (to : TE) : TE := fun σ H Q => to σ H fun x H1 => tyV K T x H1 ∧ r x [] H1 Q
noncomputable def tBM (K : PySem.W.Frag) (T : String) (r : V → List V → Hp → VK → Prop) (to : TE) (t : TA) : TE := fun σ H Q => to σ H fun x H1 => tyV K T x H1 ∧ t σ H1 fun xs H2 => r x xs H2 Q
variable {o e : Expr} {es : List Expr} {to : TE} {t : TA} {name : Str} {apos cpos : Pos} {T id : String} {r : V → List V → Hp → VK → Prop}
theorem pe_bm0 (pa : PlainAttrs T) (slot : Slot T name id) (hty : typeOf (.builtin id) = pure (.type "method_descriptor")) (hm : MtR X id r) (ho : PE X o to)
    (hbase : attributeBase o name X.env (eval o X.env) = eval o X.env := by rfl) (hline : (apos.endLine == cpos.line) = true := by rfl) : PE X (.Call (.Attribute o name apos) [] [] cpos) (tBM0 X.K T r to) := by
  intro pins s σ H Q I h
  refine wpAny_Call_method0_late hbase hline (thn (ho pins s σ H _ I h) fun v s1 ⟨x, H1, I1, r1, ty, q1⟩ => ?_)
  obtain ⟨h1, h2⟩ := tyV_is I1 r1 ty
  exact ⟨T, id, pa, slot, hty, h1, h2, Calls.callWith_builtin rfl (PySem.evalArgs_none (hm pins s1 σ H1 x [] v [] Q I1 r1 .nil q1))⟩
theorem pe_bm (pa : PlainAttrs T) (slot : Slot T name id) (hty : typeOf (.builtin id) = pure (.type "method_descriptor")) (hm : MtR X id r) (ho : PE X o to) (ha : PA X (e :: es) t)
    (hbase : attributeBase o name X.env (eval o X.env) = eval o X.env := by rfl)
    (hfew : ((backTo cpos (starEach (e :: es) X.env)).all (fun x => !x.1) && (backToKw cpos (keywordEach [] X.env)).all (fun x => x.1.isSome)
      && decide ((e :: es).length + ([] : List Keyword).length + (if ([] : List Keyword).isEmpty then 0 else 1) < 30)) = true := by rfl)
    (hline : (apos.endLine == cpos.line) = true := by rfl) (hs : starEach (e :: es) X.env = (false, eval e X.env) :: starEach es X.env := by rfl) (hplain : (backTo cpos (starEach es X.env)).any (·.1) = false := by rfl) :
    PE X (.Call (.Attribute o name apos) (e :: es) [] cpos) (tBM X.K T r to t) := by
  intro pins s σ H Q I h
  refine wpAny_Call_method_late hbase hfew hline rfl (thn (ho pins s σ H _ I h) fun v s1 ⟨x, H1, I1, r1, ty, q1⟩ => ?_)
  obtain ⟨h1, h2⟩ := tyV_is I1 r1 ty
  refine ⟨T, id, pa, slot, hty, h1, h2, ?_⟩
  have hA := ha cpos pins s1 σ H1 _ I1 q1
  rw [hs] at hA ⊢
  refine Calls.callWith_builtin (by show (false || (backTo cpos (starEach es X.env)).any (·.1)) = false; rw [hplain] <;> rfl) (Calls.evalArgs_plain ?_)
  exact thn hA fun us s2 ⟨vs, H2, I2, r2, q2⟩ => hm pins s2 σ H2 x vs v us Q I2 r1 r2 q2
end
end L2
namespace L2
open PySem PySem.Spec PyProof.Rows
noncomputable def MtM (X : Cx) (id : String) (r : V → List V → Hp → VK → Prop) : Prop :=
  ∀ (pins : List (Addr × Obj)) (s : Shared) (σ : St) (H : Hp) (x : V) (xs : List V) (v : Value) (us : List Value) (Q : VK), Inv X pins σ H s → RelV x v → Vals xs us → r x xs H Q →
    wpAny (model X.prog X.w) X.A (call (.builtin id) (v :: us)) (EP X pins σ Q) X.xe s
theorem Vals.one : ∀ {x : V} {us : List Value}, Vals [x] us → ∃ u, us = [u] ∧ RelV x u
  | _, _, .cons r .nil => ⟨_, rfl, r⟩
theorem Vals.two : ∀ {x y : V} {us : List Value}, Vals [x, y] us → ∃ u v, us = [u, v] ∧ RelV x u ∧ RelV y v
  | _, _, _, .cons r (.cons q .nil) => ⟨_, _, rfl, r, q⟩
theorem Vals.zero : ∀ {us : List Value}, Vals [] us → us = []
  | _, .nil => rfl
theorem Vals.dropLast {xs : List V} {us : List Value} (h : Vals xs us) : Vals xs.dropLast us.dropLast := by
  induction h with
  | nil => exact .nil
  | cons r t ih =>
    cases t with
    | nil => exact .nil
    | cons q t' => exact .cons r ih
theorem Vals.reverse {xs : List V} {us : List Value} (h : Vals xs us) : Vals xs.reverse us.reverse := by
  induction h with
  | nil => exact .nil
  | cons r t ih => rw [List.reverse_cons, List.reverse_cons]; exact Vals.append ih (.cons r .nil)
theorem erase_last {α : Type} (l : List α) : l.eraseIdx (l.length - 1) = l.dropLast := by
  induction l with
  | nil => rfl
  | cons a r ih =>
    cases r with
    | nil => rfl
    | cons b r =>
      have e : (a :: b :: r).length - 1 = ((b :: r).length - 1) + 1 := by
        have h1 : (a :: b :: r).length = r.length + 2 := rfl
        have h2 : (b :: r).length = r.length + 1 := rfl
        omega
      rw [e, List.eraseIdx_cons_succ, ih]
      all_goals rfl
section
variable {X : Cx} {pins : List (Addr × Obj)} {σ : St} {H : Hp} {s : Shared} {l b : Addr} {xs ys zs : List V}
theorem Inv.lset {its its' : List Value} {n : Nat} {f : Array Value → Array Value} {t' : Nat} (I : Inv X pins σ H s) (hH : H l = some (.lst xs))
    (e : s.heap.get? l = some { cls := .type "list", data := .seq its.toArray n }) (hf : f its.toArray = its'.toArray) (hv : Vals ys its') (hz : ys.length ≤ sizeLine) :
    Inv X pins σ (upd H l (.lst ys)) { s with heap := s.heap.update l (Obj.mapSeq f), toks := t' } := by
  have q := PySem.IsL.update e f
  rw [hf] at q
  refine I.write (x := l) (e := l) (by rw [hH]; exact trivial) (.inl rfl) (fun b' u hb hu => (Heap.get?_update_other s.heap (Obj.mapSeq f) (Ne.symm hb)).trans hu) ⟨_, q⟩ ?_
  exact ⟨hz, its', _, hv, q⟩
theorem Inv.lnew {its : List Value} {t' : Nat} (I : Inv X pins σ H s) (hv : Vals ys its) (hz : ys.length ≤ sizeLine) :
    Inv X pins σ (upd H s.heap.objs.size (.lst ys)) { s with heap := s.heap.push { cls := .type "list", data := .seq its.toArray }, toks := t' } :=
  I.laid (fun _ _ q => Heap.get?_push_of_some _ q) (Nat.le_refl _) ⟨hz, its, 0, hv, Heap.get?_push_size _ rfl⟩
theorem Inv.fresh (I : Inv X pins σ H s) : H s.heap.objs.size = none := I.hok.fresh (Nat.le_refl _)
theorem Inv.lstM (I : Inv X pins σ H s) (hH : H l = some (.lst xs)) : xs.length ≤ sizeLine ∧ ∃ (its : List Value) (n : Nat), Vals xs its ∧ xs.length = its.length ∧ s.heap.get? l = some { cls := .type "list", data := .seq its.toArray n } := by
  obtain ⟨z, its, n, r, e⟩ := I.hok l _ hH
  exact ⟨z, its, n, r, r.length, e⟩
theorem notLongL {n : Nat} (h : n ≤ sizeLine) : Builtin.List.listTooLong n = false := by
  unfold Builtin.List.listTooLong
  exact decide_eq_false (by omega)
end
section
variable {X : Cx}
noncomputable def rAppend : V → List V → Hp → VK → Prop := fun x vs H Q => ∃ l xs y, x = .ref l ∧ vs = [y] ∧ H l = some (.lst xs) ∧ xs.length < sizeLine ∧ Q .non (upd H l (.lst (xs ++ [y])))
theorem mt_append : MtM X "list.append" rAppend := by
  intro pins s σ H x vs v us Q I rx rv h
  obtain ⟨l, xs, y, rfl, rfl, hH, hz, q⟩ := h
  cases rx
  obtain ⟨u, rfl, ru⟩ := rv.one
  obtain ⟨z, its, n, r, hl, e⟩ := I.lstM hH
  refine call_meets F.slot_list_append ⟨_, e, rfl⟩ F.entry_list_append (F.args_list_append_2 _ _) (PySem.list_append l its.toArray n u (by rw [List.size_toArray]; omega)) ⟨e, ?_⟩
  refine ⟨.non, _, I.lset (its' := its ++ [u]) hH e (by simp) (r.append (.cons ru .nil)) ?_, rfl, q⟩
  rw [List.length_append, List.length_singleton]
  omega
noncomputable def rExtend : V → List V → Hp → VK → Prop := fun x vs H Q => ∃ l b xs zs, x = .ref l ∧ vs = [.ref b] ∧ H l = some (.lst xs) ∧ H b = some (.lst zs) ∧ xs.length + zs.length ≤ sizeLine ∧ Q .non (upd H l (.lst (xs ++ zs)))
theorem mt_extend : MtM X "list.extend" rExtend := by
  intro pins s σ H x vs v us Q I rx rv h
  obtain ⟨l, b, xs, zs, rfl, rfl, hH, hB, hz, q⟩ := h
  cases rx
  obtain ⟨u, rfl, ru⟩ := rv.one
  cases ru
  obtain ⟨z, its, n, r, hl, e⟩ := I.lstM hH
  obtain ⟨z2, its2, n2, r2, hl2, e2⟩ := I.lstM hB
  have hsz : its.toArray.size + its2.toArray.size ≤ sizeLine := by rw [List.size_toArray, List.size_toArray]; omega
  have hlong : ¬ (!its.toArray.isEmpty && Builtin.List.listTooLong (its.toArray.size + its2.toArray.size)) = true := by
    rw [notLongL hsz, Bool.and_false]
    exact Bool.false_ne_true
  refine call_meets F.slot_list_extend ⟨_, e, rfl⟩ F.entry_list_extend (F.args_list_extend_2 _ _)
    (AutoSeq1.list_extend_list_list_0 l its.toArray n b its2.toArray n2 hlong (by rw [List.size_toArray]; omega) (by omega)) ⟨e, e2, ?_⟩
  refine ⟨.non, _, I.lset (its' := its ++ its2) hH e (by simp) (r.append r2) ?_, rfl, q⟩
  rw [List.length_append]
  omega
noncomputable def rPop : V → List V → Hp → VK → Prop := fun x vs H Q => ∃ l xs y, x = .ref l ∧ vs = [] ∧ H l = some (.lst xs) ∧ xs[xs.length - 1]? = some y ∧ Q y (upd H l (.lst xs.dropLast))
theorem mt_pop : MtM X "list.pop" rPop := by
  intro pins s σ H x vs v us Q I rx rv h
  obtain ⟨l, xs, y, rfl, rfl, hH, hy, q⟩ := h
  cases rx
  have hus := rv.zero
  subst hus
  obtain ⟨z, its, n, r, hl, e⟩ := I.lstM hH
  obtain ⟨u, hu, ru⟩ := r.get hy
  have hy' : its.toArray[its.toArray.size - 1]? = some u := by
    show its.toArray[its.length - 1]? = some u
    rw [← Array.getElem?_toList, ← hl]
    exact hu
  refine call_meets F.slot_list_pop ⟨_, e, rfl⟩ F.entry_list_pop (F.args_list_pop_1 _) (MeetsSeq.list_pop_last l its.toArray n u hy' (by rw [List.size_toArray]; omega)) ⟨e, ?_⟩
  refine ⟨y, _, I.lset (its' := its.dropLast) hH e ?_ r.dropLast ?_, ru, q⟩
  · show its.toArray.eraseIdxIfInBounds (its.toArray.size - 1) = its.dropLast.toArray
    rw [List.size_toArray, List.eraseIdxIfInBounds_toArray, erase_last]
  · rw [List.length_dropLast]
    omega
noncomputable def rReverse : V → List V → Hp → VK → Prop := fun x vs H Q => ∃ l xs, x = .ref l ∧ vs = [] ∧ H l = some (.lst xs) ∧ Q .non (upd H l (.lst xs.reverse))
theorem mt_reverse : MtM X "list.reverse" rReverse := by
  intro pins s σ H x vs v us Q I rx rv h
  obtain ⟨l, xs, rfl, rfl, hH, q⟩ := h
  cases rx
  have hus := rv.zero
  subst hus
  obtain ⟨z, its, n, r, hl, e⟩ := I.lstM hH
  refine call_meets F.slot_list_reverse ⟨_, e, rfl⟩ F.entry_list_reverse (F.args_list_reverse_1 _) (AutoSeq1.list_reverse_list_0 l its.toArray n (by rw [List.size_toArray]; omega)) ⟨e, ?_⟩
  refine ⟨.non, _, I.lset (its' := its.reverse) hH e (by simp) r.reverse ?_, rfl, q⟩
  rw [List.length_reverse]
  omega
noncomputable def rCat : R2 := fun x y H Q => ∃ l b xs zs, x = .ref l ∧ y = .ref b ∧ H l = some (.lst xs) ∧ H b = some (.lst zs) ∧ xs.length + zs.length ≤ sizeLine ∧ ∀ p, H p = none → Q (.ref p) (upd H p (.lst (xs ++ zs)))
theorem op_cat : OpR X (binaryOp .Add) rCat := by
  intro pins s σ H x y v u Q I rx ry h
  obtain ⟨l, b, xs, zs, rfl, rfl, hH, hB, hz, q⟩ := h
  cases rx
  cases ry
  obtain ⟨z, its, n, r, hl, e⟩ := I.lstM hH
  obtain ⟨z2, its2, n2, r2, hl2, e2⟩ := I.lstM hB
  refine PySem.P.add_list e e2 ?_ (by rw [List.size_toArray, List.size_toArray]; omega)
  have ea : its.toArray ++ its2.toArray = (its ++ its2).toArray := by simp
  rw [ea]
  exact ⟨.ref _, _, I.lnew (t' := s.toks) (r.append r2) (by rw [List.length_append]; omega), rfl, q _ I.fresh⟩
end
section
variable {prog : Program} {w : World} {A : Around} {E : Value → Shared → Prop} {s : Shared}
end
section
variable {X : Cx}
end
end L2
namespace L2
open PySem PySem.Spec PyProof.Rows
section
variable {κ : Type} [DecidableEq κ]
noncomputable def valV (kvs : List (κ × V)) (k : κ) : Option V := (kvs.find? fun kv => decide (kv.1 = k)).map (·.2)
noncomputable def putK (kvs : List (κ × V)) (k : κ) (v : V) : List (κ × V) :=
  if (kvs.any fun kv => decide (kv.1 = k)) = true then kvs.map (fun kv => if kv.1 = k then (kv.1, v) else kv) else kvs ++ [(k, v)]
noncomputable def dropK (kvs : List (κ × V)) (k : κ) : List (κ × V) := kvs.filter fun kv => decide (kv.1 ≠ k)
theorem valV_pos {p : κ × V} {r : List (κ × V)} {k : κ} (e : p.1 = k) : valV (p :: r) k = some p.2 := by simp [valV, List.find?_cons, e]
theorem valV_neg {p : κ × V} {r : List (κ × V)} {k : κ} (e : ¬ p.1 = k) : valV (p :: r) k = valV r k := by simp [valV, List.find?_cons, e]
theorem valV_any (k : κ) : ∀ kvs : List (κ × V), (kvs.any fun kv => decide (kv.1 = k)) = (valV kvs k).isSome
  | [] => rfl
  | p :: r => by
    rw [List.any_cons]
    by_cases e : p.1 = k
    · simp only [valV_pos e, decide_eq_true e, Bool.true_or, Option.isSome_some]
    · rw [valV_neg e, decide_eq_false e, Bool.false_or]; exact valV_any k r
theorem valV_map (k j : κ) (y : V) : ∀ kvs : List (κ × V), valV (kvs.map fun kv => if kv.1 = k then (kv.1, y) else kv) j = (valV kvs j).map fun x => if j = k then y else x
  | [] => rfl
  | p :: r => by
    have ih := valV_map k j y r
    rw [List.map_cons]
    by_cases h : p.1 = k
    · rw [if_pos h]
      by_cases e : p.1 = j
      · rw [valV_pos (p := (p.1, y)) e, valV_pos e, Option.map_some, if_pos (e.symm.trans h)]
      · rw [valV_neg (p := (p.1, y)) e, valV_neg e, ih]
    · rw [if_neg h]
      by_cases e : p.1 = j
      · rw [valV_pos (p := p) e, valV_pos e, Option.map_some, if_neg (fun z => h (e.trans z))]
      · rw [valV_neg (p := p) e, valV_neg e, ih]
theorem valV_snoc (k j : κ) (y : V) : ∀ kvs : List (κ × V), valV kvs k = none → valV (kvs ++ [(k, y)]) j = if j = k then some y else valV kvs j
  | [], _ => by
    by_cases e : k = j
    · rw [if_pos e.symm]; exact valV_pos (p := (k, y)) e
    · rw [if_neg (fun z => e z.symm)]; exact valV_neg (p := (k, y)) e
  | p :: r, hn => by
    rw [List.cons_append]
    have hk : ¬ p.1 = k := fun z => by rw [valV_pos z] at hn; cases hn
    rw [valV_neg hk] at hn
    have ih := valV_snoc k j y r hn
    by_cases e : p.1 = j
    · rw [valV_pos e, valV_pos e, if_neg (fun z => hk (e.trans z))]
    · rw [valV_neg e, valV_neg e, ih]
theorem valV_put (kvs : List (κ × V)) (k j : κ) (y : V) : valV (putK kvs k y) j = if j = k then some y else valV kvs j := by
  unfold putK
  by_cases a : (kvs.any fun kv => decide (kv.1 = k)) = true
  · rw [if_pos a, valV_map]
    rw [valV_any] at a
    by_cases e : j = k
    · obtain ⟨x, hx⟩ := Option.isSome_iff_exists.mp a
      rw [if_pos e, e, hx, Option.map_some, if_pos rfl]
    · rw [if_neg e]
      cases valV kvs j with
      | none => rfl
      | some x => rw [Option.map_some, if_neg e]
  · rw [if_neg a]
    refine valV_snoc k j y kvs ?_
    rw [valV_any] at a
    cases q : valV kvs k with
    | none => rfl
    | some x => rw [q] at a; exact (a rfl).elim
theorem length_putK (kvs : List (κ × V)) (k : κ) (v : V) : (putK kvs k v).length ≤ kvs.length + 1 := by
  unfold putK
  split
  · rw [List.length_map]; omega
  · rw [List.length_append, List.length_cons, List.length_nil]; omega
theorem putK_new {kvs : List (κ × V)} {k : κ} (v : V) (h : valV kvs k = none) : putK kvs k v = kvs ++ [(k, v)] := by
  unfold putK
  rw [valV_any, h]
  exact if_neg (by decide)
theorem RelO.isSome_eq {o : Option V} {u : Option Value} (r : RelO o u) : o.isSome = u.isSome := by
  cases o with
  | none => cases u with
    | none => rfl
    | some _ => exact (show False from r).elim
  | some _ => cases u with
    | none => exact (show False from r).elim
    | some _ => rfl
theorem RelO.getD {o : Option V} {u : Option Value} {d : V} {d' : Value} (r : RelO o u) (rd : RelV d d') : RelV (o.getD d) (u.getD d') := by
  cases o with
  | none => cases u with
    | none => exact rd
    | some _ => exact (show False from r).elim
  | some _ => cases u with
    | none => exact (show False from r).elim
    | some _ => exact r
theorem KV.val {kvs : List (κ × V)} {vs : List (κ × Value)} (r : KV kvs vs) (k : κ) : RelO (valV kvs k) (valueAt vs k) := by
  unfold KV at r
  induction r with
  | nil => exact True.intro
  | @cons p q ps qs h t ih =>
    obtain ⟨h1, h2⟩ := h
    by_cases e : p.1 = k
    · have e' : q.1 = k := h1.symm.trans e
      have b : valueAt (q :: qs) k = some q.2 := by simp [valueAt, List.find?_cons, e']
      rw [valV_pos e, b]; exact h2
    · have e' : ¬ q.1 = k := fun z => e (h1.trans z)
      have b : valueAt (q :: qs) k = valueAt qs k := by simp [valueAt, List.find?_cons, e']
      rw [valV_neg e, b]; exact ih
theorem KV.any {kvs : List (κ × V)} {vs : List (κ × Value)} (r : KV kvs vs) (k : κ) : (kvs.any fun kv => decide (kv.1 = k)) = vs.any fun kv => decide (kv.1 = k) := by
  unfold KV at r
  induction r with
  | nil => rfl
  | cons h t ih => rw [List.any_cons, List.any_cons, ih, h.1]
theorem KV.repl {kvs : List (κ × V)} {vs : List (κ × Value)} (r : KV kvs vs) (k : κ) {y : V} {u : Value} (ry : RelV y u) :
    KV (kvs.map fun kv => if kv.1 = k then (kv.1, y) else kv) (vs.map fun kv => if kv.1 = k then (kv.1, u) else kv) := by
  unfold KV at r ⊢
  induction r with
  | nil => exact .nil
  | @cons p q ps qs h t ih =>
    rw [List.map_cons, List.map_cons]
    refine .cons ?_ ih
    obtain ⟨h1, h2⟩ := h
    by_cases e : p.1 = k
    · rw [if_pos e, if_pos (h1.symm.trans e)]; exact ⟨h1, ry⟩
    · rw [if_neg e, if_neg (fun z => e (h1.trans z))]; exact ⟨h1, h2⟩
theorem KV.put {kvs : List (κ × V)} {vs : List (κ × Value)} (r : KV kvs vs) (k : κ) {y : V} {u : Value} (ry : RelV y u) : KV (putK kvs k y) (stored vs k u) := by
  unfold putK stored
  rw [r.any k]
  by_cases e : (vs.any fun kv => decide (kv.1 = k)) = true
  · rw [if_pos e, if_pos e]; exact r.repl k ry
  · rw [if_neg e, if_neg e]; exact Paired.snoc r ⟨rfl, ry⟩
theorem KV.drop {kvs : List (κ × V)} {vs : List (κ × Value)} (r : KV kvs vs) (k : κ) : KV (dropK kvs k) (without vs k) := by
  unfold KV at r ⊢
  unfold dropK without
  induction r with
  | nil => exact .nil
  | @cons p q ps qs h t ih =>
    obtain ⟨h1, h2⟩ := h
    rw [List.filter_cons, List.filter_cons]
    by_cases e : p.1 = k
    · have a : ¬ decide (p.1 ≠ k) = true := by simp [e]
      have b : ¬ decide (q.1 ≠ k) = true := by simp [h1.symm.trans e]
      rw [if_neg a, if_neg b]; exact ih
    · have e' : ¬ q.1 = k := fun z => e (h1.trans z)
      have a : decide (p.1 ≠ k) = true := by simp [e]
      have b : decide (q.1 ≠ k) = true := by simp [e']
      rw [if_pos a, if_pos b]; exact .cons ⟨h1, h2⟩ ih
theorem KV.length {kvs : List (κ × V)} {vs : List (κ × Value)} (r : KV kvs vs) : kvs.length = vs.length := Paired.length r
end
theorem kV_is {P : Program} {w : World} {k : Key} {u : Value} (r : RelV (kV k) u) : (mixKind P w).is k u = true := by
  cases k with
  | inl i => obtain ⟨t, e⟩ := (show ∃ t, u = Value.int i t from r); subst e; exact mixKind_int P w i t
  | inr x => obtain ⟨t, e⟩ := (show ∃ t, u = Value.str x t from r); subst e; exact mixKind_str P w x t
noncomputable def KeyAt (H : Hp) (b : Addr) (ks : List Key) : Prop := ∃ ys, H b = some (.tup ys) ∧ Paired kB ks ys
theorem KeyAt.of {H : Hp} {b : Addr} {ks : List Key} (h : H b = some (.tup (ks.map kV))) : KeyAt H b ks := ⟨_, h, kB_all ks⟩
theorem kB_is {P : Program} {w : World} {k : Key} {v : V} {u : Value} (h : kB k v) (r : RelV v u) : (mixB P w).is k u = true := by
  rcases h with rfl | ⟨b, rfl, rfl⟩
  · cases k with
    | inl i => obtain ⟨t, e⟩ := (show ∃ t, u = Value.int i t from r); subst e; exact keyIs_int i t
    | inr x => obtain ⟨t, e⟩ := (show ∃ t, u = Value.str x t from r); subst e; exact keyIs_str x t
  · have e : u = Value.bool b := r
    subst e
    exact decide_eq_true rfl
theorem itemsB_are {P : Program} {w : World} : ∀ {ks : List Key} {ys : List V} {us : List Value}, Paired kB ks ys → Vals ys us → ItemsAre (mixB P w) ks us
  | [], _, _, p, r => by cases p; cases r; exact .nil
  | k :: ks, _, _, p, r => by
    cases p with
    | cons h t => cases r with
      | cons h2 t2 => exact .cons (kB_is h h2) (itemsB_are t t2)
noncomputable abbrev KT (H : Hp) : List (List Key × V) → List (List Key × Addr × Value) → Prop := Paired fun p q => p.1 = q.1 ∧ KeyAt H q.2.1 p.1 ∧ RelV p.2 q.2.2
theorem KT.val {H : Hp} {kvs : List (List Key × V)} {xs : List (List Key × Addr × Value)} (r : KT H kvs xs) (k : List Key) : RelO (valV kvs k) ((atKey xs k).map (·.2)) := by
  induction r with
  | nil => exact True.intro
  | @cons p q ps qs h t ih =>
    obtain ⟨h1, _, h2⟩ := h
    by_cases e : p.1 = k
    · have e' : q.1 = k := h1.symm.trans e
      have b : atKey (q :: qs) k = some q.2 := by simp [atKey, List.find?_cons, e']
      rw [valV_pos e, b]; exact h2
    · have e' : ¬ q.1 = k := fun z => e (h1.trans z)
      have b : atKey (q :: qs) k = atKey qs k := by simp [atKey, List.find?_cons, e']
      rw [valV_neg e, b]; exact ih
theorem KT.repl {H : Hp} {kvs : List (List Key × V)} {xs : List (List Key × Addr × Value)} (r : KT H kvs xs) (k : List Key) {y : V} {u : Value} (ry : RelV y u) :
    KT H (kvs.map fun kv => if kv.1 = k then (kv.1, y) else kv) (xs.map (putAt k u)) := by
  induction r with
  | nil => exact .nil
  | @cons p q ps qs h t ih =>
    rw [List.map_cons, List.map_cons]
    refine .cons ?_ ih
    obtain ⟨h1, h2, h3⟩ := h
    unfold putAt
    by_cases e : p.1 = k
    · rw [if_pos e, if_pos (h1.symm.trans e)]; exact ⟨h1, h2, ry⟩
    · rw [if_neg e, if_neg (fun z => e (h1.trans z))]; exact ⟨h1, h2, h3⟩
theorem KT.put {H : Hp} {kvs : List (List Key × V)} {xs : List (List Key × Addr × Value)} (r : KT H kvs xs) (k : List Key) {b : Addr} {y : V} {u : Value} (hb : KeyAt H b k) (ry : RelV y u) :
    KT H (putK kvs k y) (storedH xs k b u) := by
  have e : (kvs.any fun kv => decide (kv.1 = k)) = (atKey xs k).isSome := by
    rw [valV_any, (r.val k).isSome_eq, Option.isSome_map]
  unfold putK storedH
  rw [e]
  by_cases q : (atKey xs k).isSome = true
  · rw [if_pos q, if_pos q]; exact r.repl k ry
  · rw [if_neg q, if_neg q]; exact Paired.snoc r ⟨rfl, hb, ry⟩
theorem KT.keeps {H H' : Hp} {kvs : List (List Key × V)} {xs : List (List Key × Addr × Value)} (r : KT H kvs xs) (ht : ∀ b ys, H b = some (.tup ys) → H' b = some (.tup ys)) : KT H' kvs xs :=
  Paired.mapP r fun _ _ z => ⟨z.1, z.2.1.imp fun _ y => ⟨ht _ _ y.1, y.2⟩, z.2.2⟩
section
variable {P : Program} {w : World} {H : Hp} {h : Heap} {a : Addr}
theorem rd_of {u : HO} (ok : HOk P w H h) (e : Rd H a u) : ObjOk P w H h a u := e.ok ok
theorem dk_rd {kvs : List (Key × V)} (ok : HOk P w H h) (e : Rd H a (.dK kvs)) : kvs.length ≤ sizeLine ∧ (a == sysModules) = false ∧ ∃ vs, KV kvs vs ∧ h.DictOf (mixKind P w) a vs :=
  show ObjOk P w H h a (.dK kvs) from rd_of ok e
theorem dk_of {kvs : List (Key × V)} (ok : HOk P w H h) (e : H a = some (.dK kvs)) : kvs.length ≤ sizeLine ∧ (a == sysModules) = false ∧ ∃ vs, KV kvs vs ∧ h.DictOf (mixKind P w) a vs := dk_rd ok (.inl e)
theorem key_of {ks : List Key} (ok : HOk P w H h) (e : KeyAt H a ks) : (tupleKind (mixB P w)).is h ks a := by
  obtain ⟨ys, e, kb⟩ := e
  obtain ⟨_, its, r, o, h1, h2, n, h3⟩ := (show ObjOk P w H h a (.tup ys) from ok a _ e)
  exact ⟨o, its.toArray, n, h1, h2, h3, by simpa using itemsB_are kb r⟩
theorem dt_rd {kvs : List (List Key × V)} (ok : HOk P w H h) (e : Rd H a (.dT kvs)) : kvs.length ≤ sizeLine ∧ (a == sysModules) = false ∧
    ∃ xs, KT H kvs xs ∧ h.DictOfH (tupleKind (mixB P w)) a xs := by
  obtain ⟨z, y, xs, r, o, es, ep, h1, h2, h3, h4, h5⟩ := (show ObjOk P w H h a (.dT kvs) from rd_of ok e)
  refine ⟨z, y, xs, r, o, es, ep, h1, h2, h3, h4, fun x hx => ?_, h5⟩
  have all : ∀ {l : List (List Key × V)} {m : List (List Key × Addr × Value)}, KT H l m → ∀ x ∈ m, (tupleKind (mixB P w)).is h x.1 x.2.1 := by
    intro l m q
    induction q with
    | nil => intro x hx; exact nomatch hx
    | @cons p q ps qs hq t ih =>
      intro x hx
      rcases List.mem_cons.mp hx with e | hx
      · subst e
        exact key_of ok (by rw [← hq.1]; exact hq.2.1)
      · exact ih x hx
  exact all r x hx
theorem dt_of {kvs : List (List Key × V)} (ok : HOk P w H h) (e : H a = some (.dT kvs)) : kvs.length ≤ sizeLine ∧ (a == sysModules) = false ∧
    ∃ xs, KT H kvs xs ∧ h.DictOfH (tupleKind (mixB P w)) a xs := dt_rd ok (.inl e)
end
noncomputable def DGet (H : Hp) (a : Addr) (y : V) (r : Option V) : Prop :=
  (∃ kvs k, Rd H a (.dK kvs) ∧ y = kV k ∧ r = valV kvs k) ∨ ∃ kvs k b, Rd H a (.dT kvs) ∧ y = .ref b ∧ KeyAt H b k ∧ r = valV kvs k
noncomputable def DPut (H : Hp) (a : Addr) (y v : V) (H' : Hp) : Prop :=
  (∃ kvs k, H a = some (.dK kvs) ∧ y = kV k ∧ kvs.length < sizeLine ∧ H' = upd H a (.dK (putK kvs k v))) ∨
  ∃ kvs k b, H a = some (.dT kvs) ∧ y = .ref b ∧ KeyAt H b k ∧ kvs.length < sizeLine ∧ H' = upd H a (.dT (putK kvs k v))
theorem DGet.k {H : Hp} {a : Addr} {kvs : List (Key × V)} {k : Key} (e : H a = some (.dK kvs)) : DGet H a (kV k) (valV kvs k) := .inl ⟨kvs, k, .inl e, rfl, rfl⟩
theorem DGet.t {H : Hp} {a b : Addr} {kvs : List (List Key × V)} {k : List Key} (e : H a = some (.dT kvs)) (eb : H b = some (.tup (k.map kV))) : DGet H a (.ref b) (valV kvs k) := .inr ⟨kvs, k, b, .inl e, rfl, KeyAt.of eb, rfl⟩
theorem DGet.b {H : Hp} {a b : Addr} {kvs : List (List Key × V)} {k : List Key} (e : H a = some (.dT kvs)) (eb : KeyAt H b k) : DGet H a (.ref b) (valV kvs k) := .inr ⟨kvs, k, b, .inl e, rfl, eb, rfl⟩
theorem DPut.k {H : Hp} {a : Addr} {kvs : List (Key × V)} {k : Key} {v : V} (e : H a = some (.dK kvs)) (hl : kvs.length < sizeLine) : DPut H a (kV k) v (upd H a (.dK (putK kvs k v))) := .inl ⟨kvs, k, e, rfl, hl, rfl⟩
theorem DPut.t {H : Hp} {a b : Addr} {kvs : List (List Key × V)} {k : List Key} {v : V} (e : H a = some (.dT kvs)) (eb : H b = some (.tup (k.map kV))) (hl : kvs.length < sizeLine) :
    DPut H a (.ref b) v (upd H a (.dT (putK kvs k v))) := .inr ⟨kvs, k, b, e, rfl, KeyAt.of eb, hl, rfl⟩
theorem DPut.b {H : Hp} {a b : Addr} {kvs : List (List Key × V)} {k : List Key} {v : V} (e : H a = some (.dT kvs)) (eb : KeyAt H b k) (hl : kvs.length < sizeLine) :
    DPut H a (.ref b) v (upd H a (.dT (putK kvs k v))) := .inr ⟨kvs, k, b, e, rfl, eb, hl, rfl⟩
section
variable {X : Cx} {pins : List (Addr × Obj)} {σ : St} {H : Hp} {s : Shared} {a : Addr} {y v : V} {u r : Value} {o : Option V} {A : Around} {E : Value → Shared → Prop}
theorem Inv.big (I : Inv X pins σ H s) : sysModules < s.heap.objs.size := by
  have h : mainGlobals < s.heap.objs.size := (I.mod.glob.keeps I.bk).lt
  exact Nat.lt_trans (by decide) h
theorem d_getItem {Q : Value → Shared → Prop} (hu : A.units + 1 < cLine) (I : Inv X pins σ H s) (g : DGet H a y (some v)) (ry : RelV y u) (h : ∀ w' s', Inv X pins σ H s' → RelV v w' → Q w' s') :
    wpAny (model X.prog X.w) A (getItem (.ref a) u) Q E s := by
  rcases g with ⟨kvs, k, e, ey, l⟩ | ⟨kvs, k, b, e, ey, eb, l⟩
  · subst ey
    obtain ⟨z, hd, vs, rel, dd⟩ := dk_rd I.hok e
    obtain ⟨w', hw, rw'⟩ := RelO.some_of (v := v) (o := valueAt vs k) (by rw [l]; exact rel.val k)
    exact wpAny_getItem_of (kV_is ry) dd.mapOf hw (h w' _ (I.tok _) rw')
  · subst ey
    cases (show u = Value.ref b from ry)
    obtain ⟨z, hd, xs, rel, dd⟩ := dt_rd I.hok e
    obtain ⟨w', hw, rw'⟩ := RelO.some_of (v := v) (o := (atKey xs k).map (·.2)) (by rw [l]; exact rel.val k)
    obtain ⟨p, hp, hp2⟩ := Option.map_eq_some_iff.mp hw
    refine wpAny_getItem_heap (tupleKind_room_in1 hu) (key_of I.hok eb) dd hp ?_
    rw [hp2]
    exact h w' _ (I.tok _) rw'
theorem d_notIn {Q : Value → Shared → Prop} (hu : A.units + 1 < cLine) (I : Inv X pins σ H s) (g : DGet H a y o) (ry : RelV y u) (h : ∀ s', Inv X pins σ H s' → Q (.bool (!o.isSome)) s') :
    wpAny (model X.prog X.w) A (compareOp .NotIn u (.ref a)) Q E s := by
  rcases g with ⟨kvs, k, e, ey, l⟩ | ⟨kvs, k, b, e, ey, eb, l⟩
  · subst ey
    obtain ⟨z, hd, vs, rel, dd⟩ := dk_rd I.hok e
    refine wpAny_notIn_of (kV_is ry) hd dd.mapOf ?_
    rw [← (rel.val k).isSome_eq, ← l]
    exact h _ (I.tok _)
  · subst ey
    cases (show u = Value.ref b from ry)
    obtain ⟨z, hd, xs, rel, dd⟩ := dt_rd I.hok e
    refine wpAny_notIn_heap (tupleKind_room_in1 hu) (key_of I.hok eb) hd dd ?_
    have q := (rel.val k).isSome_eq
    rw [Option.isSome_map] at q
    rw [← q, ← l]
    exact h _ (I.tok _)
theorem d_write {h' : Heap} {t' : Nat} {ob : HO} (I : Inv X pins σ H s) (mu : Mut (H a)) (hs : Heap.SameBut a s.heap h') (he : ∃ q, h'.get? a = some q) (new : ObjOk X.prog X.w (upd H a ob) h' a ob) :
    Inv X pins σ (upd H a ob) { s with heap := h', toks := t' } :=
  I.write (x := a) (e := a) mu (.inl rfl) (fun b q hb z => (hs.2 b hb).trans z) he new
theorem dk_new {P : Program} {w : World} {H' : Hp} {h' : Heap} {kvs : List (Key × V)} {vs : List (Key × Value)} (z : kvs.length ≤ sizeLine) (hd : (a == sysModules) = false) (rel : KV kvs vs) (dd : h'.DictOf (mixKind P w) a vs) :
    ObjOk P w H' h' a (.dK kvs) := ⟨z, hd, vs, rel, dd⟩
theorem d_setItem {H' : Hp} {Q : Unit → Shared → Prop} (hu : A.units + 1 < cLine) (I : Inv X pins σ H s) (g : DPut H a y v H') (ry : RelV y u) (rv : RelV v r) (h : ∀ s', Inv X pins σ H' s' → Q () s') :
    wpAny (model X.prog X.w) A (setItem (.ref a) u r) Q E s := by
  rcases g with ⟨kvs, k, e, ey, l, eH⟩ | ⟨kvs, k, b, e, ey, eb, l, eH⟩
  · subst ey eH
    obtain ⟨z, hd, vs, rel, dd⟩ := dk_of I.hok e
    have hz : vs.length ≤ sizeLine := by rw [← rel.length]; exact z
    have hl : (putK kvs k v).length ≤ sizeLine := by have := length_putK kvs k v; omega
    refine wpAny_setItem_pairs (hsz := hz) (kV_is ry) dd fun h' dd' hs => h _ ?_
    have he : ∃ q, h'.get? a = some q := let ⟨q, _, _, hq, _⟩ := dd'; ⟨q, hq⟩
    exact d_write I (by rw [e]; exact True.intro) hs he (dk_new hl hd (rel.put k rv) dd')
  · subst ey eH
    cases (show u = Value.ref b from ry)
    obtain ⟨z, hd, xs, rel, dd⟩ := dt_of I.hok e
    have hz : xs.length ≤ sizeLine := by rw [← Paired.length rel]; exact z
    have hl : (putK kvs k v).length ≤ sizeLine := by have := length_putK kvs k v; omega
    refine wpAny_setItem_heap (hsz := hz) (tupleKind_room_in1 hu) (key_of I.hok eb) dd fun h' dd' hs => h _ ?_
    obtain ⟨q, es, ep, hq, h2, h3, h4, _, h5⟩ := dd'
    refine d_write I (by rw [e]; exact True.intro) hs ⟨q, hq⟩ ⟨hl, hd, _, (rel.put k eb rv).keeps fun c ys ec => ?_, q, es, ep, hq, h2, h3, h4, h5⟩
    rw [upd_ne (ne_of ec e (fun z => nomatch z))]
    exact ec
end
section
variable {X : Cx} {pins : List (Addr × Obj)} {σ : St} {H : Hp} {s : Shared} {a : Addr} {kvs : List (Key × V)} {k : Key} {u : Value} {A : Around} {E : Value → Shared → Prop}
end
noncomputable def NoSl (i : Expr) : Prop := ∀ ov iv, subscripted i false ov iv = operate [ov, iv] (getItem ov iv)
theorem subD_of {prog : Program} {w : World} {A : Around} {E : Value → Shared → Prop} {s : Shared} {env : Env} {value slice : Expr} {pos : Pos} {T id : String} {Q : Value → Shared → Prop}
    (hl : typeLookup (.type T) "__getitem__" = pure (some (.builtin id))) (hs : NoSl slice)
    (h : wpAny (model prog w) A (eval value env) (fun o s₁ => wpAny (model prog w) A (eval slice env) (fun i s₂ => s₂.TypeIs o T ∧ wpAny (model prog w) A (getItem o i) Q E s₂) E s₁) E s) :
    wpAny (model prog w) A (eval (.Subscript value slice pos) env) Q E s := by
  refine Subscript_ (wpAny_mono h (fun o s₁ h₁ => wpAny_mono h₁ (fun i s₂ h₂ => ?_) fun _ _ x => x) fun _ _ x => x)
  obtain ⟨hT, h₂⟩ := h₂
  unfold subscriptTail
  refine wpAny_bind ?_
  rw [getitemInPython_of_ne hT.not_modules]
  refine wpAny_bind (wpAny_specialOf hT hl ?_)
  have fin : wpAny (model prog w) A (subscripted slice false o i) (fun r s₃ => wpAny (model prog w) A (letTemporaryGo value o r >>= fun _ => pure r) Q E s₃) E s₂ := by
    rw [hs o i]
    exact wpAny_operating (wpAny_mono h₂ (fun r s₃ h₃ => wpAny_bind (wpAny_letTemporaryGo (wpAny_pure h₃))) fun _ _ x => x)
  first
    | exact wpAny_pure (wpAny_bind fin)
    | exact wpAny_bind (wpAny_pure (wpAny_bind fin))
    | exact wpAny_bind fin
theorem dict_typeIs {X : Cx} {pins : List (Addr × Obj)} {σ : St} {H : Hp} {s : Shared} {a : Addr} {y : V} {o : Option V} (I : Inv X pins σ H s) (g : DGet H a y o) : s.TypeIs (.ref a) "dict" := by
  rcases g with ⟨kvs, k, e, _, _⟩ | ⟨kvs, k, b, e, _, _, _⟩
  · obtain ⟨_, _, vs, _, dd⟩ := dk_rd I.hok e
    exact dd.typeIs
  · obtain ⟨_, _, xs, _, dd⟩ := dt_rd I.hok e
    exact dd.typeIs
noncomputable def tDGet (td ty : TE) : TE := fun σ H Q => td σ H fun x H1 => ty σ H1 fun y H2 => ∃ a v, x = .ref a ∧ DGet H2 a y (some v) ∧ Q v H2
noncomputable def tDIn (ty td : TE) : TE := fun σ H Q => ty σ H fun y H1 => td σ H1 fun x H2 => ∃ a o, x = .ref a ∧ DGet H2 a y o ∧ Q (.bl o.isSome) H2
noncomputable def tDNotIn (ty td : TE) : TE := fun σ H Q => ty σ H fun y H1 => td σ H1 fun x H2 => ∃ a o, x = .ref a ∧ DGet H2 a y o ∧ Q (.bl (!o.isSome)) H2
noncomputable def sDPut (td ty tv : TE) : TS := fun D σ H => tv σ H fun v H1 => td σ H1 fun x H2 => ty σ H2 fun y H3 => ∃ a H4, x = .ref a ∧ DPut H3 a y v H4 ∧ D.nx σ H4
section
variable {X : Cx} {o i e value : Expr} {pos pos' tpos : Pos} {td ty tv : TE}
theorem pe_dget (hu : X.A.units + 1 < cLine) (ho : PE X o td) (hi : PE X i ty) (hs : NoSl i) : PE X (.Subscript o i pos) (tDGet td ty) := by
  intro pins s σ H Q I h
  refine subD_of PySem.F.slot_dict_getitem.lookup hs (thn (ho pins s σ H _ I h) fun u s1 ⟨x, H1, I1, rx, q1⟩ => thn (hi pins s1 σ H1 _ I1 q1) fun iv s2 ⟨y, H2, I2, ry, a, v, ex, g, q2⟩ => ?_)
  subst ex
  obtain rfl : u = Value.ref a := rx
  exact ⟨dict_typeIs I2 g, d_getItem hu I2 g ry fun w' s3 I3 rw' => ⟨v, H2, I3, rw', q2⟩⟩
theorem pc_dnotin (hu : X.A.units + 1 < cLine) (hi : PE X i ty) (ho : PE X o td) : PC X .NotIn i o (tDNotIn ty td) := by
  intro pins s σ H Q I h
  refine thn (hi pins s σ H _ I h) fun iv s1 ⟨y, H1, I1, ry, q1⟩ => thn (ho pins s1 σ H1 _ I1 q1) fun u s2 ⟨x, H2, I2, rx, a, ov, ex, g, q2⟩ => ?_
  subst ex
  obtain rfl : u = Value.ref a := rx
  exact d_notIn hu I2 g ry fun s3 I3 => ⟨.bl (!ov.isSome), H2, I3, rfl, q2⟩
theorem ps_dput (hu : X.A.units + 1 < cLine) (ho : PE X o td) (hi : PE X i ty) (hv : PE X value tv) (hs : swapsWith value (some (.Subscript o i pos')) pos.line X.env = pure false) :
    PS X (.Assign [.Subscript o i pos'] value pos) (sDPut td ty tv) := by
  intro pins s σ H D I h
  refine wpAny_Assign_Subscript (thn (hv pins s σ H _ I h) fun r s1 ⟨v, H1, I1, rv, q1⟩ => thn (ho pins s1 σ H1 _ I1 q1) fun u s2 ⟨x, H2, I2, rx, q2⟩ => thn (hi pins s2 σ H2 _ I2 q2) fun iv s3 ⟨y, H3, I3, ry, a, H4, ex, g, q3⟩ => ?_) hs
  subst ex
  obtain rfl : u = Value.ref a := rx
  exact d_setItem hu I3 g ry rv fun s4 I4 => ⟨σ, H4, I4, q3⟩
end
theorem dt_empty {P : Program} {w : World} {H : Hp} (h : Heap) (hb : sysModules < h.objs.size) : ObjOk P w H (h.push { cls := .type "dict", data := .dict #[] }) h.objs.size (.dT []) :=
  ⟨Nat.zero_le _, beq_eq_false_iff_ne.mpr (Ne.symm (Nat.ne_of_lt hb)), [], .nil, _, #[], 0, Heap.get?_push_size _ rfl, ⟨rfl, rfl, rfl⟩, rfl, rfl, List.nodup_nil⟩
noncomputable def tDNewT : TE := fun _ H Q => ∀ p, H p = none → Q (.ref p) (upd H p (.dT []))
section
variable {X : Cx} {pos : Pos}
theorem pe_dnewT : PE X (.Dict [] [] pos) tDNewT := fun pins s σ H Q I h =>
  wpAny_Dict_empty ⟨.ref s.heap.objs.size, _, I.laid (a := s.heap.objs.size) (o := .dT []) (t' := s.toks) (fun _ _ q => Heap.get?_push_of_some _ q) (Nat.le_refl _) (dt_empty s.heap I.big), rfl, h _ (I.hok.fresh (Nat.le_refl _))⟩
end
noncomputable def tPairs : List (TE × TE) → St → Hp → (List (V × V) → Hp → Prop) → Prop
  | [], _, H, Q => Q [] H
  | (tk, tv) :: r, σ, H, Q => tk σ H fun x H1 => tv σ H1 fun y H2 => tPairs r σ H2 fun ps H3 => Q ((x, y) :: ps) H3
noncomputable abbrev VV : List (V × V) → List (Value × Value) → Prop := Paired fun p q => RelV p.1 q.1 ∧ RelV p.2 q.2
noncomputable def PPs (X : Cx) (pos : Pos) (keys : List (Option Expr)) (values : List Expr) (trs : List (TE × TE)) : Prop :=
  ∀ (pins : List (Addr × Obj)) (s : Shared) (σ : St) (H : Hp) (Q : List (V × V) → Hp → Prop), Inv X pins σ H s → tPairs trs σ H Q →
    wpAny (model X.prog X.w) X.A (evalPairs (pairTrees keys values X.env pos)) (fun vs s' => ∃ ps H', Inv X pins σ H' s' ∧ VV ps vs ∧ Q ps H') X.xe s
noncomputable def mergeK (kvs more : List (Key × V)) : List (Key × V) := more.foldl (fun acc kv => putK acc kv.1 kv.2) kvs
structure M1 (X : Cx) (o : Expr) (m : Str) (apos : Pos) (e : Expr) (cpos : Pos) : Prop where
  base : attributeBase o m X.env (eval o X.env) = eval o X.env
  few : ((backTo cpos (starEach [e] X.env)).all (fun x => !x.1) && (backToKw cpos (keywordEach [] X.env)).all (fun x => x.1.isSome)
    && decide (([e] : List Expr).length + ([] : List Keyword).length + (if ([] : List Keyword).isEmpty then 0 else 1) < 30)) = true
  line : (apos.endLine == cpos.line) = true
  trees : backTo cpos (starEach [e] X.env) = [(false, eval e X.env)]
structure M2 (X : Cx) (o : Expr) (m : Str) (apos : Pos) (e f : Expr) (cpos : Pos) : Prop where
  base : attributeBase o m X.env (eval o X.env) = eval o X.env
  few : ((backTo cpos (starEach [e, f] X.env)).all (fun x => !x.1) && (backToKw cpos (keywordEach [] X.env)).all (fun x => x.1.isSome)
    && decide (([e, f] : List Expr).length + ([] : List Keyword).length + (if ([] : List Keyword).isEmpty then 0 else 1) < 30)) = true
  line : (apos.endLine == cpos.line) = true
  trees : backTo cpos (starEach [e, f] X.env) = [(false, eval e X.env), (false, eval f X.env)]
noncomputable def IsD (H : Hp) (a : Addr) : Prop := (∃ kvs, Rd H a (.dK kvs)) ∨ ∃ kvs, Rd H a (.dT kvs)
section
variable {X : Cx} {pins : List (Addr × Obj)} {σ : St} {H : Hp} {s : Shared} {a : Addr} {y d : V} {u r : Value} {o : Option V} {A : Around} {E : Value → Shared → Prop}
end
noncomputable def tDGet2 (td ty tx : TE) : TE := fun σ H Q => td σ H fun x H1 => ∃ a, x = .ref a ∧ IsD H1 a ∧ ty σ H1 fun y H2 => tx σ H2 fun z H3 => ∃ o, DGet H3 a y o ∧ Q (o.getD z) H3
section
variable {X : Cx} {o e f : Expr} {apos cpos : Pos} {td ty tx : TE}
end
section
variable {X : Cx} {pins : List (Addr × Obj)} {σ : St} {H : Hp} {s : Shared} {a : Addr} {kvs : List (Key × V)} {A : Around} {E : Value → Shared → Prop}
end
section
variable {X : Cx} {pins : List (Addr × Obj)} {σ : St} {H : Hp} {s : Shared} {a : Addr} {y : V} {u : Value} {A : Around} {E : Value → Shared → Prop}
end
end L2
namespace Att
open PySem PySem.W PySem.Calls PyProof.Rows
theorem ints_of_wellAll {P : Params} {h : Heap} : ∀ (ns : List Int) (vs : List Value), WellAll P h vs (ns.map WData.int) → IntsAre vs ns := by
  intro ns
  induction ns with
  | nil =>
    intro vs w
    rw [List.map_nil] at w
    cases w
    exact .nil
  | cons n ns ih =>
    intro vs w
    rw [List.map_cons] at w
    cases w with
    | cons a b =>
      cases a
      exact .cons _ _ (ih _ b)
theorem script_of {l : OpenLaw} {n : Nat} (hn : l.most = some n) {P : Params} {h : Heap} {args : List WData} {vals : List Value}
    (hpre : l.row.toRowW.claim.pre args = true) (hwl : WellAll P h vals args) :
    ∃ a vs ns, vals = [Value.ref a] ∧ args = [WData.list (ns.map WData.int)] ∧ h.get? a = some { cls := .type "list", data := .seq vs.toArray } ∧ IntsAre vs ns ∧ ns.length ≤ n := by
  have hsh : WShape.hasAll [] args [.list .int] = true := (pre_splitW hpre).1
  have hc : l.pre.holds [] { args := args } = true := (pre_splitW hpre).2
  obtain ⟨d, r, rfl, h1, h2⟩ := hasAllW_cons hsh
  obtain rfl := hasAllW_nil h2
  obtain ⟨xs, rfl, h3⟩ := hasW_list h1
  obtain ⟨ns, rfl⟩ := items_int h3
  have hlen : ns.length ≤ n := by
    unfold OpenLaw.pre at hc
    have h4 : (WTm.not (.lt (.lit (.int (n : Int))) (.len (.arg 0)))).holds [] { args := [.list (ns.map .int)] } = true := by
      have h4 := (holds_andW hc).1
      rw [hn] at h4
      exact h4
    have h5 := condW_of h4 (w_not (w_lt w_lit (w_len_list (w_arg rfl))))
    rw [List.length_map] at h5
    refine Nat.le_of_not_lt fun q => ?_
    have q' : (n : Int) < ((ns.length : Nat) : Int) := by omega
    first
      | (rw [decide_eq_true q'] at h5; exact absurd h5 (by decide))
      | (simp at h5; omega)
  cases hwl with
  | cons w1 w2 =>
    cases w2
    cases w1 with
    | list ho hall => exact ⟨_, _, ns, rfl, rfl, ho, ints_of_wellAll ns _ hall, hlen⟩
theorem post_true (l : OpenLaw) (args : List WData) : l.row.toRowW.claim.post args (.bool true) args = true :=
  postW_of (r := l.row.toRowW) (X := (true == true))
    (show WShape.has [] (.bool true) .bool = true by first | rfl | decide | simp [WShape.has, WShape.arms, WShape.armsAll])
    (show (WTm.eq .res (.lit (.bool true))).value [] { args := args, res := some (.bool true), after := args } = some (.bool (true == true)) from w_eq_bool (w_res rfl) w_lit) rfl
theorem attach_call {l : OpenLaw} {n : Nat} {q : Program} {loose : List Str} {XP : (Str → Option Value) → Heap → Prop} {YP : World → Heap → Prop} {d : DefRec}
    (hn : l.most = some n) (hdf : d.params.defaults = [])
    (call : ∀ (w : World) (s₀ s₁ : Shared) (mg mb : Str → Option Value) (fa : Addr) (o : Obj) (pm cd doc : Value) (a : Addr) (vs : List Value) (ns : List Int),
      Ground q loose [] XP w s₀ mg mb s₁.heap → YP w s₁.heap →
      s₁.heap.get? fa = some o → o.data = .func (docDef d.name d.params d.body d.scope pm cd doc) → s₁.heap.CodeRec cd d.name → mg d.name = some (.ref fa) →
      s₁.heap.get? a = some { cls := .type "list", data := .seq vs.toArray } → IntsAre vs ns → ns.length ≤ n → s₁.gens = #[] →
      codeAny (model l.prog w) callerA (.call (.ref fa) ⟨[.ref a], []⟩) (fun r s' => r = .ok (.ret (.bool true)) ∧ OldK s₁.heap s'.heap ∧ s'.os = s₁.os ∧ AllBare s'.gens) s₁) :
    WalkO q loose XP YP l.row.toRowW d [] (fun f vs => PySem.call f vs) := by
  intro w s₀ s₁ mg mb G Y fa o pm cd doc dV kV ho hd hcd hD hmg hg args vals as hpre hlay hrd hwl hlo
  obtain rfl : dV = .none := Dflts.none hD hdf
  obtain rfl : kV = .none := Dflts.noKw hD
  obtain ⟨a, vs, ns, rfl, rfl, hobj, hints, hlen⟩ := script_of hn hpre hwl
  refine enter_call (codeAny_mono (call w s₀ s₁ mg mb fa o pm cd doc a vs ns G Y ho (fd_plain hd) hcd hmg hobj hints hlen hg) fun r s' hq => ?_)
  obtain ⟨rfl, h2, h3, h4⟩ := hq
  exact ⟨.inl ⟨.bool true, .bool true, [], rfl, fun _ => rfl, .bool true, post_true l _, fun _ => ⟨List.Pairwise.nil, fun _ hm => (nomatch hm)⟩⟩, h2, h3, h4⟩
section
variable {prog : Program} {w : World} {A : Around} {E : Value → Shared → Prop} {s : Shared} {K : Frag}
end
end Att
namespace L2
open PySem PySem.Spec PyProof.Rows
theorem vals_ints : ∀ {vs : List Value} {ns : List Int}, IntsAre vs ns → Vals (ns.map V.int) vs
  | _, _, .nil => .nil
  | _, _, .cons n t h => .cons ⟨t, rfl⟩ (vals_ints h)
end L2
namespace L2
open PySem PySem.Spec PyProof.Rows
end L2
namespace L2
open PySem PySem.Spec PyProof.Rows
noncomputable def inClass (s : Stmt) (j : Nat) : Stmt := match s with
  | .ClassDef _ _ _ body _ _ _ _ _ _ _ => body.getD j (.Pass ⟨0, 0, 0, 0⟩)
  | _ => .Pass ⟨0, 0, 0, 0⟩
noncomputable def defArgs (s : Stmt) : Arguments := match s with
  | .FunctionDef _ a _ _ _ _ _ _ _ _ => a
  | _ => { posonlyargs := [], args := [], vararg := none, kwonlyargs := [], kw_defaults := [], kwarg := none, defaults := [] }
noncomputable def defBody (s : Stmt) : List Stmt := match s with
  | .FunctionDef _ _ b _ _ _ _ _ _ _ => b
  | _ => []
noncomputable def defScope (s : Stmt) : Scope := match s with
  | .FunctionDef _ _ _ _ _ _ sc _ _ _ => sc
  | _ => { kind := .function, names := [], isGenerator := false, isCoroutine := false }
noncomputable abbrev CX0 : CXT := fun _ _ _ _ _ _ => False
noncomputable abbrev E0 : XK := fun _ _ _ => False
theorem pass0 {X : Cx} : Passes CX0 X E0 := fun _ _ _ _ _ _ _ h => h.elim
structure Fun (K : PySem.W.Frag) (x qual : Str) (st : Stmt) (f : Addr) (fd : FuncData) : Prop where
  ex : ∃ (oc : Value) (od : Option Addr) (kV doc pm : Value) (an : Option Addr) (cdv ct : Value) (osl : Array (Option Value)),
    fd = PySem.W.fnOf x qual (defArgs st) (defBody st) (defScope st) .none kV doc pm an cdv ct ∧ K.lookup f = some ⟨oc, od, .func fd, osl⟩ ∧ PySem.W.codeIn K cdv qual = true
  kp : PySem.W.keepIn K (.ref f) = true
section
variable {P : Program} {w : World} {K : PySem.W.Frag} {mg : Str → Option Value} {base : Heap}
theorem Fun.ok {x qual : Str} {st : Stmt} {f : Addr} {fd : FuncData} {N ps : List Str} {k : Nat} {sp : Sp} (F : Fun K x qual st f fd) (S : FnScope N ps (defScope st)) (len : ∀ vs H Q E, sp vs H Q E → vs.length = ps.length)
    (hbody : ∀ (cdv : Value) (A : Around) (outer : List Env) (s : Shared) (H : Hp) (vs : List V) (Q : VK) (E : XK), Room k (A.deeper (envOfC qual (defScope st) s.heap.objs.size f cdv)) → sp vs H Q E →
      ∃ t, PSs (cxOf CX0 P w K mg base N qual (defScope st) f cdv A outer s H E).nox (defBody st) t ∧ t { nx := fun _ H' => Q .non H', rt := Q } (start N vs) H) : FnOk P w K mg base CX0 (k + 1) f fd ps sp := by
  obtain ⟨oc, od, kV, doc, pm, an, cdv, ct, osl, rfl, lk, hcd⟩ := F.ex
  refine fn_of lk hcd S len fun A outer s H vs Q E hr hsp => ?_
  obtain ⟨t, h, q⟩ := hbody cdv A outer s H vs Q E hr hsp
  exact ⟨t, h.nox, q⟩
theorem Fun.binds {x qual : Str} {st : Stmt} {f : Addr} {fd : FuncData} {ps : List Str} (F : Fun K x qual st f fd)
    (h : ∀ (kV doc pm : Value) (an : Option Addr) (cdv ct : Value) (us : List Value), us.length = ps.length → bindArgs (PySem.W.fnOf x qual (defArgs st) (defBody st) (defScope st) .none kV doc pm an cdv ct) ⟨us, []⟩ = pure (ps.zip us)) : Binds K fd ps [] := by
  obtain ⟨oc, od, kV, doc, pm, an, cdv, ct, osl, rfl, lk, hcd⟩ := F.ex
  exact .all (h kV doc pm an cdv ct)
theorem fun_mk {x qual : Str} {st : Stmt} {f : Addr} {oc : Value} {od an : Option Addr} {osl : Array (Option Value)} {kV doc pm cdv ct : Value} (l : K.lookup f = some ⟨oc, od, .func (PySem.W.fnOf x qual (defArgs st) (defBody st) (defScope st) .none kV doc pm an cdv ct), osl⟩)
    (c : PySem.W.codeIn K cdv qual = true) (k : PySem.W.keepIn K (.ref f) = true) : Fun K x qual st f (PySem.W.fnOf x qual (defArgs st) (defBody st) (defScope st) .none kV doc pm an cdv ct) := ⟨⟨oc, od, kV, doc, pm, an, cdv, ct, osl, rfl, l, c⟩, k⟩
end
theorem hu_of {A : Around} {k : Nat} (hr : Room k A) : A.units + 1 < cLine := Nat.lt_of_le_of_lt (Nat.add_le_add_left (by decide : 1 ≤ 64) _) hr.units
theorem small1000 {n : Nat} (h : n ≤ 1000) : n < sizeLine := Nat.lt_of_le_of_lt h (by decide)
section
variable {X : Cx}
theorem pv (i : Nat) {x : Str} {pos : Pos} (hN : X.N[i]? = some x := by rfl) (hv : Vis X.env.scope x := by first | exact Or.inl rfl | exact Or.inr (Or.inl rfl) | exact Or.inr (Or.inr rfl)) (hd : (x == ("__debug__" : Str)) = false := by decide)
    (hcd : (x == ("__classdict__" : Str)) = false := by decide) : PE X (.Name x pos) (tVar i) := pe_var hN hv hd hcd
end
theorem iteF {A B : Prop} (h : B) : if false = true then A else B := by
  rw [if_neg Bool.false_ne_true]
  exact h
theorem iteT {A B : Prop} (h : A) : if true = true then A else B := by
  rw [if_pos rfl]
  exact h
theorem ite2 {c A B : Prop} [Decidable c] (h1 : c → A) (h2 : ¬ c → B) : if c then A else B := by
  by_cases h : c
  · rw [if_pos h]
    exact h1 h
  · rw [if_neg h]
    exact h2 h
noncomputable def Same (H H' : Hp) : Prop := ∀ b o, H b = some o → H' b = some o
theorem Same.trans {H H1 H2 : Hp} (a : Same H H1) (b : Same H1 H2) : Same H H2 := fun c o h => b c o (a c o h)
theorem Same.free {H H' : Hp} (e : Same H H') {l : Addr} (h : H' l = Option.none) : H l = Option.none := by
  cases q : H l with
  | none => rfl
  | some o =>
    rw [e l o q] at h
    cases h
theorem Same.seq {K : PySem.W.Frag} {H H' : Hp} {a : Addr} {xs : List V} (e : Same H H') (h : SqL K H a xs) : SqL K H' a xs := by
  rcases h with (h | ⟨o, h⟩) | h
  · exact .inl (.inl (e _ _ h))
  · exact .inl (.inr ⟨o, e _ _ h⟩)
  · exact .inr h
section
variable {κ : Type} [DecidableEq κ]
end
end L2
end
section
set_option Elab.async false
set_option linter.all false
namespace CN
open PySem
inductive Stm where
  | yes | no
  | sw (n : Int)
  | nt (a : Stm)
  | an (a b : Stm)
  | og (a b : Stm)
  | al (n : Int) (a : Stm)
  | sm (n : Int) (a : Stm)
  
noncomputable abbrev tS (x : String) : PyData := .str (Str.ofString x)
noncomputable def dat : Stm → PyData
  | .yes => .tuple [tS "yes"]
  | .no => .tuple [tS "no"]
  | .sw n => .tuple [tS "switch", .int n]
  | .nt a => .tuple [tS "not", dat a]
  | .an a b => .tuple [tS "and", dat a, dat b]
  | .og a b => .tuple [tS "or", dat a, dat b]
  | .al n a => .tuple [tS "all", .int n, dat a]
  | .sm n a => .tuple [tS "some", .int n, dat a]
noncomputable def Stm.size : Stm → Nat
  | .yes => 1 | .no => 1 | .sw _ => 1
  | .nt a => a.size + 1
  | .an a b => a.size + b.size + 1
  | .og a b => a.size + b.size + 1
  | .al _ a => a.size + 1
  | .sm _ a => a.size + 1
theorem Stm.size_pos (a : Stm) : 0 < a.size := by cases a <;> simp only [Stm.size] <;> omega
noncomputable def Stm.ok (b : Int) : Stm → Prop
  | .yes => True | .no => True
  | .sw n => 0 ≤ n ∧ n < b
  | .nt a => a.ok b
  | .an x y => x.ok b ∧ y.ok b
  | .og x y => x.ok b ∧ y.ok b
  | .al n a => (0 ≤ n ∧ n < b) ∧ a.ok b
  | .sm n a => (0 ≤ n ∧ n < b) ∧ a.ok b
noncomputable def numS (n : Int) : Str := Str.ofString (toString n)
noncomputable def line : Stm → Str
  | .yes => Str.ofString "Y"
  | .no => Str.ofString "N"
  | .sw n => numS n
  | .nt a => Str.ofString "!" ++ line a
  | .an a b => Str.ofString "(" ++ line a ++ Str.ofString "&" ++ line b ++ Str.ofString ")"
  | .og a b => Str.ofString "(" ++ line a ++ Str.ofString "|" ++ line b ++ Str.ofString ")"
  | .al n a => Str.ofString "A" ++ numS n ++ Str.ofString "." ++ line a
  | .sm n a => Str.ofString "S" ++ numS n ++ Str.ofString "." ++ line a
end CN
end
section
set_option Elab.async false
set_option linter.all false
set_option maxRecDepth 100000
namespace CN
open PySem
noncomputable def tx (x : Str) : List Nat := x.cps.toList
noncomputable def ch (c : Nat) : Str := ⟨#[c]⟩
noncomputable def mkS (l : List Nat) : Str := ⟨l.toArray⟩
inductive Frm where
  | nt
  | op (c : Bool) (b : Stm)
  | sd (c : Bool) (a : Stm)
  | al (n : Int)
  | sm (n : Int)
noncomputable def two (c : Bool) (a b : Stm) : Stm := if c = true then .an a b else .og a b
noncomputable def sg (c : Bool) : Nat := if c = true then 38 else 124
noncomputable def rest : List Frm → List Nat
  | [] => []
  | .nt :: g => rest g
  | .op c b :: g => sg c :: (tx (line b) ++ 41 :: rest g)
  | .sd _ _ :: g => 41 :: rest g
  | .al _ :: g => rest g
  | .sm _ :: g => rest g
end CN
end
section
set_option Elab.async false
set_option linter.all false
set_option maxRecDepth 100000
namespace L2
open PySem PySem.Spec PyProof.Rows
mutual
inductive DT (H : Hp) : V → PyData → Prop
  | non : DT H .non .none
  | bl (b : Bool) : DT H (.bl b) (.bool b)
  | int (i : Int) : DT H (.int i) (.int i)
  | str (x : Str) : DT H (.str x) (.str x)
  | tup {a : Addr} {xs : List V} {ds : List PyData} : H a = some (.tup xs) → DTs H xs ds → DT H (.ref a) (.tuple ds)
inductive DTs (H : Hp) : List V → List PyData → Prop
  | nil : DTs H [] []
  | cons {x : V} {d : PyData} {xs : List V} {ds : List PyData} : DT H x d → DTs H xs ds → DTs H (x :: xs) (d :: ds)
end
noncomputable def Tk (H H' : Hp) : Prop := ∀ b xs, H b = some (.tup xs) → H' b = some (.tup xs)
theorem Tk.trans {H H1 H2 : Hp} (a : Tk H H1) (b : Tk H1 H2) : Tk H H2 := fun c o h => b c o (a c o h)
theorem Same.tk {H H' : Hp} (s : Same H H') : Tk H H' := fun b xs h => s b _ h
theorem Same.new {H : Hp} {p : Addr} {o : HO} (h : H p = none) : Same H (upd H p o) := fun b u e => by
  rw [upd_ne (ne_of_none e h)]; exact e
theorem Same.mut {H H2 : Hp} {p : Addr} {o : HO} (s : Same H H2) (hp : H p = none) : Same H (upd H2 p o) := fun b u e => by
  rw [upd_ne (ne_of_none e hp)]; exact s b u e
theorem Tk.new {H : Hp} {p : Addr} {o : HO} (h : H p = none) : Tk H (upd H p o) := (Same.new h).tk
theorem Tk.lst {H : Hp} {p : Addr} {o : HO} {xs : List V} (h : H p = some (.lst xs)) : Tk H (upd H p o) := fun b u e => by
  rw [upd_ne (ne_of e h (by intro z; cases z))]; exact e
mutual
theorem DT.tk {H H' : Hp} (k : Tk H H') : ∀ (d : PyData) (v : V), DT H v d → DT H' v d
  | .none, v, x => by cases x; exact .non
  | .bool b, v, x => by cases x; exact .bl _
  | .int i, v, x => by cases x; exact .int _
  | .str y, v, x => by cases x; exact .str _
  | .tuple ds, v, x => by
    cases x with
    | tup e xs => exact .tup (k _ _ e) (DTs.tk k ds _ xs)
  | .list _, v, x => nomatch x
  | .dict _, v, x => nomatch x
theorem DTs.tk {H H' : Hp} (k : Tk H H') : ∀ (ds : List PyData) (vs : List V), DTs H vs ds → DTs H' vs ds
  | [], vs, x => by cases x; exact .nil
  | d :: ds, vs, x => by
    cases x with
    | cons a b => exact .cons (DT.tk k d _ a) (DTs.tk k ds _ b)
end
theorem DT.to {H H' : Hp} {d : PyData} {v : V} (x : DT H v d) (k : Tk H H') : DT H' v d := DT.tk k d v x
theorem DTs.to {H H' : Hp} {ds : List PyData} {vs : List V} (x : DTs H vs ds) (k : Tk H H') : DTs H' vs ds := DTs.tk k ds vs x
section
variable {P : Program} {w : World} {H : Hp} {h : Heap}
mutual
theorem dt_reads (ok : HOk P w H h) : ∀ (d : PyData) (v : V) (u : Value), DT H v d → RelV v u → ∃ as, Reads h u d as
  | .none, v, u, x, r => by cases x; cases (show u = Value.none from r); exact ⟨_, .none⟩
  | .bool b, v, u, x, r => by cases x; cases (show u = Value.bool b from r); exact ⟨_, .bool _⟩
  | .int i, v, u, x, r => by cases x; obtain ⟨t, q⟩ := (show ∃ t, u = Value.int i t from r); cases q; exact ⟨_, .int _ _⟩
  | .str y, v, u, x, r => by cases x; obtain ⟨t, q⟩ := (show ∃ t, u = Value.str y t from r); cases q; exact ⟨_, .str _ _⟩
  | .tuple ds, v, u, x, r => by
    cases x with
    | @tup a xs _ e xs' =>
      cases (show u = Value.ref a from r)
      obtain ⟨_, its, rv, o, h1, h2, n, h3⟩ := (show ObjOk P w H h a (.tup xs) from ok a _ e)
      obtain ⟨as, q⟩ := dts_reads ok ds xs its xs' rv
      exact ⟨as, .tuple h1 h2 h3 q⟩
  | .list _, v, _, x, _ => nomatch x
  | .dict _, v, _, x, _ => nomatch x
theorem dts_reads (ok : HOk P w H h) : ∀ (ds : List PyData) (vs : List V) (us : List Value), DTs H vs ds → Vals vs us → ∃ as, ReadsAll h us ds as
  | [], vs, us, x, r => by cases x; cases r; exact ⟨_, .nil⟩
  | d :: ds, vs, us, x, r => by
    cases x with
    | cons a b =>
      cases r with
      | cons r1 r2 =>
        obtain ⟨as, q⟩ := dt_reads ok d _ _ a r1
        obtain ⟨bs, q2⟩ := dts_reads ok ds _ _ b r2
        exact ⟨_, .cons q q2⟩
end
end
section
variable {X : Cx} {k : Nat}
theorem op_eqNil (hr : Room k X.A) : OpR X (compareOp .Eq) (fun x y H Q => ∃ a b xs, x = .ref a ∧ y = .ref b ∧ H a = some (.lst xs) ∧ H b = some (.lst []) ∧ Q (.bl xs.isEmpty) H) := by
  intro pins s σ H x y v u Q I rx ry h
  obtain ⟨a, b, xs, rfl, rfl, ha, hb, q⟩ := h
  cases (show v = Value.ref a from rx)
  cases (show u = Value.ref b from ry)
  obtain ⟨i1, r1, p1, _⟩ := I.list (SqL.of ha)
  obtain ⟨i2, r2, p2, _⟩ := I.list (SqL.of hb)
  have e2 : i2 = [] := r2.zero
  subst e2
  have hu := hr.units0
  cases xs with
  | nil =>
    have e1 : i1 = [] := r1.zero
    subst e1
    exact SeqAt.eq_listAt (e := fun _ => true) p1.isList p2.isList rfl hu (fun j h1 _ => absurd h1 (Nat.not_lt_zero _)) ⟨.bl true, H, I, rfl, q⟩
  | cons z zs =>
    have l1 : i1.length = zs.length + 1 := by rw [← r1.length]; rfl
    exact SeqAt.eq_list_lengthsAt p1.isList p2.isList (by rw [List.size_toArray, List.size_toArray, l1]; rfl) hu ⟨.bl false, H, I, rfl, q⟩
theorem op_neNil (hr : Room k X.A) : OpR X (compareOp .NotEq) (fun x y H Q => ∃ a b xs, x = .ref a ∧ y = .ref b ∧ H a = some (.lst xs) ∧ H b = some (.lst []) ∧ Q (.bl (!xs.isEmpty)) H) := by
  intro pins s σ H x y v u Q I rx ry h
  obtain ⟨a, b, xs, rfl, rfl, ha, hb, q⟩ := h
  cases (show v = Value.ref a from rx)
  cases (show u = Value.ref b from ry)
  obtain ⟨i1, r1, p1, _⟩ := I.list (SqL.of ha)
  obtain ⟨i2, r2, p2, _⟩ := I.list (SqL.of hb)
  have e2 : i2 = [] := r2.zero
  subst e2
  have hu := hr.units0
  cases xs with
  | nil =>
    have e1 : i1 = [] := r1.zero
    subst e1
    exact SeqAt.RcNeAt.lists (e := fun _ => true) p1.isList p2.isList rfl hu (fun j h1 _ => absurd h1 (Nat.not_lt_zero _)) _ _ _ _ ⟨.bl false, H, I, rfl, q⟩
  | cons z zs =>
    have l1 : i1.length = zs.length + 1 := by rw [← r1.length]; rfl
    exact SeqAt.RcNeAt.lists_lengths p1.isList p2.isList (by rw [List.size_toArray, List.size_toArray, l1]; rfl) hu _ _ _ _ ⟨.bl true, H, I, rfl, q⟩
theorem call_isinst : CallR X (.builtin "isinstance") (fun xs H Q => ∃ x T t b, xs = [x, .ty T] ∧ TyOf X.K H x t ∧ PySem.W.kitOne X.K t (.type T) = some b ∧ Q (.bl b) H) := by
  intro pins s σ H xs us Q I r h
  obtain ⟨x, T, t, b, rfl, ty, e, q⟩ := h
  obtain ⟨u, c, rfl, ru, rc⟩ := r.two
  cases (show c = Value.type T from rc)
  exact isinst_ok I ru ty e fun tk => ⟨.bl b, H, I.tok tk, rfl, q⟩
noncomputable def tCallL (i : Nat) (f : Addr) (sp : Sp) (dvs : List V) (E : XK) (t : TA) : TE := fun σ H Q => σ[i]? = some (some (.ref f)) ∧ t σ H fun vs H1 => sp (vs ++ dvs) H1 Q E
noncomputable def rInsert0 : V → List V → Hp → VK → Prop := fun x vs H Q => ∃ l xs y, x = .ref l ∧ vs = [.int 0, y] ∧ H l = some (.lst xs) ∧ xs.length < sizeLine ∧ Q .non (upd H l (.lst (y :: xs)))
theorem mt_insert0 : MtM X "list.insert" rInsert0 := by
  intro pins s σ H x vs v us Q I rx rv h
  obtain ⟨l, xs, y, rfl, rfl, hH, hz, q⟩ := h
  cases rx
  obtain ⟨z, u, rfl, rz, ru⟩ := rv.two
  obtain ⟨t, ez⟩ := (show ∃ t, z = Value.int 0 t from rz)
  subst ez
  obtain ⟨hz2, its, n, r, hl, e⟩ := I.lstM hH
  refine call_meets F.slot_list_insert ⟨_, e, rfl⟩ F.entry_list_insert (F.args_list_insert_3 _ _ _) (AutoSeq1.list_insert_list_int_val_1 l its.toArray n 0 t u (by decide) (by rw [List.size_toArray]; omega)) ⟨e, ?_⟩
  refine ⟨.non, _, I.lset (its' := u :: its) hH e ?_ (.cons ru r) ?_, rfl, q⟩
  · show (its.toArray.extract 0 (min (0 : Int).toNat its.toArray.size)).push u ++ its.toArray.extract (min (0 : Int).toNat its.toArray.size) its.toArray.size = (u :: its).toArray
    simp
  · rw [List.length_cons]; omega
end
noncomputable abbrev CR4 := Str × Int × Pos × Pos
noncomputable def kvC (l : List CR4) : List (Key × V) := l.map fun x => (Sum.inr x.1, .int x.2.1)
noncomputable def tDispC (l : List CR4) : TE := fun _ H Q => ∀ p, H p = none → Q (.ref p) (upd H p (.dK (mergeK [] (kvC l))))
noncomputable def tFldC (C : Addr) (ta : TE) (f : Str) : TE := fun σ H Q => ta σ H fun x H1 => ∃ a dx fs v, x = .ref a ∧ H1 a = some (.ins C dx fs) ∧ fs.lookup f = some v ∧ Q v H1
theorem pe_fldC {X : Cx} {e : Expr} {f : Str} {pos : Pos} {ta : TE} {C : Addr} (c : Cls X.K C) (n : NoAttr X.K C f) (he : PE X e ta) (hb : attributeBase e f X.env (eval e X.env) = eval e X.env) : PE X (.Attribute e f pos) (tFldC C ta f) := by
  intro pins s σ H Q I h
  refine attr_of hb (thn (he pins s σ H _ I h) fun u s1 ⟨x, H1, I1, r1, q1⟩ => ?_)
  obtain ⟨a, dx, fs, v, rfl, ha, l, q⟩ := q1
  cases (show u = Value.ref a from r1)
  exact getattr_ok I1 ha c n l fun u' s2 I2 r2 => ⟨v, H1, I2, r2, q⟩
section
variable {D : Ends} {σ : St} {H : Hp} {Q : VK} {R : Bool → Hp → Prop} {A : List V → Hp → Prop} {t u : TS} {c d : TT} {ta tb tc : TE} {tr : TA}
theorem rd_seq : tSeq t u D σ H = t { D with nx := u D } σ H := rfl
theorem rd_if : tIfS c t u D σ H = c σ H fun b H1 => if b = true then t D σ H1 else u D σ H1 := rfl
theorem rd_ret : tRet ta D σ H = ta σ H D.rt := rfl
theorem rd_retN : tRetN D σ H = D.rt .non H := rfl
theorem rd_drop : tDrop ta D σ H = ta σ H fun _ H1 => D.nx σ H1 := rfl
theorem rd_asg {g : TG} : tAsg ta g D σ H = ta σ H fun x H1 => g x σ H1 D.nx := rfl
theorem rd_name {i : Nat} {v : V} {N : St → Hp → Prop} : gName i v σ H N = N (σ.set i (some v)) H := rfl
theorem rd_next : tNext D σ H = D.nx σ H := rfl
theorem rd_cont : tCont D σ H = D.ct σ H := rfl
theorem rd_break : tBreak D σ H = D.bk σ H := rfl
theorem rd_never : tNever D σ H = False := rfl
theorem rd_var {i : Nat} : tVar i σ H Q = ∃ v, σ[i]? = some (some v) ∧ Q v H := rfl
theorem rd_c {v : V} : tC v σ H Q = Q v H := rfl
theorem rd_op {r : R2} : tOp r ta tb σ H Q = ta σ H fun x H1 => tb σ H1 fun y H2 => r x y H2 Q := rfl
theorem rd_un {r : V → Hp → VK → Prop} : tUn r ta σ H Q = ta σ H fun x H1 => r x H1 Q := rfl
theorem rd_rI0 {g : Int → Int → V} {i j : Int} : rI0 g (.int i) (.int j) H Q = Q (g i j) H := by
  apply propext; constructor
  · rintro ⟨_, _, e, f, q⟩; cases e; cases f; exact q
  · intro q; exact ⟨_, _, rfl, rfl, q⟩
theorem rd_rI {C : Int → Int → Prop} {g : Int → Int → V} {i j : Int} : rI C g (.int i) (.int j) H Q = (C i j ∧ Q (g i j) H) := by
  apply propext; constructor
  · rintro ⟨_, _, e, f, q⟩; cases e; cases f; exact q
  · intro q; exact ⟨_, _, rfl, rfl, q⟩
theorem rd_rU {g : Int → V} {i : Int} : rU g (.int i) H Q = Q (g i) H := by
  apply propext; constructor
  · rintro ⟨_, e, q⟩; cases e; exact q
  · intro q; exact ⟨_, rfl, q⟩
theorem rd_eqI {i j : Int} : rEq (.int i) (.int j) H Q = Q (.bl (decide (i = j))) H := by
  have e : decide (V.int i = V.int j) = decide (i = j) := by simp
  unfold rEq; rw [e]; simp [scal]
theorem rd_eqS {x y : Str} : rEq (.str x) (.str y) H Q = Q (.bl (decide (x = y))) H := by
  have e : decide (V.str x = V.str y) = decide (x = y) := by simp
  unfold rEq; rw [e]; simp [scal]
theorem rd_neI {i j : Int} : rNe (.int i) (.int j) H Q = Q (.bl (!decide (i = j))) H := by
  have e : decide (V.int i = V.int j) = decide (i = j) := by simp
  unfold rNe; rw [e]; simp [scal]
theorem rd_neS {x y : Str} : rNe (.str x) (.str y) H Q = Q (.bl (!decide (x = y))) H := by
  have e : decide (V.str x = V.str y) = decide (x = y) := by simp
  unfold rNe; rw [e]; simp [scal]
theorem rd_test : tTest ta σ H R = ta σ H fun x H' => ∃ k, x = .bl k ∧ R k H' := rfl
theorem rd_tB : tB ta σ H R = ta σ H fun x H' => ∃ k, x = .bl k ∧ R k H' := rfl
theorem rd_and : tAnd c d σ H R = c σ H fun b H1 => if b = true then d σ H1 R else R false H1 := rfl
theorem rd_or : tOr c d σ H R = c σ H fun b H1 => if b = true then R true H1 else d σ H1 R := rfl
theorem rd_not : tNot c σ H R = c σ H fun b H1 => R (!b) H1 := rfl
theorem rd_andV : tAndV ta tb σ H Q = ta σ H fun x H1 => ∃ b, x = .bl b ∧ if b = true then tb σ H1 Q else Q (.bl false) H1 := rfl
theorem rd_orV : tOrV ta tb σ H Q = ta σ H fun x H1 => ∃ b, x = .bl b ∧ if b = true then Q (.bl true) H1 else tb σ H1 Q := rfl
theorem rd_notV : tNotV ta σ H Q = ta σ H fun x H1 => ∃ b, x = .bl b ∧ Q (.bl (!b)) H1 := rfl
theorem rd_ife : tIf c ta tb σ H Q = c σ H fun b H1 => if b = true then ta σ H1 Q else tb σ H1 Q := rfl
theorem rd_nil : tNil σ H A = A [] H := rfl
theorem rd_cons : tCons ta tr σ H A = ta σ H fun x H1 => tr σ H1 fun xs H2 => A (x :: xs) H2 := rfl
theorem rd_tup : tTup tr σ H Q = tr σ H fun xs H1 => xs.length ≤ sizeLine ∧ ∀ p, H1 p = none → Q (.ref p) (upd H1 p (.tup xs)) := rfl
theorem rd_lst : tLst tr σ H Q = tr σ H fun xs H1 => xs.length ≤ sizeLine ∧ ∀ p, H1 p = none → Q (.ref p) (upd H1 p (.lst xs)) := rfl
theorem rd_call {sp : Sp} {dvs : List V} {E : XK} : tCall sp dvs E tr σ H Q = tr σ H fun vs H1 => sp (vs ++ dvs) H1 Q E := rfl
theorem rd_callL {i : Nat} {f : Addr} {sp : Sp} {dvs : List V} {E : XK} : tCallL i f sp dvs E tr σ H Q = (σ[i]? = some (some (.ref f)) ∧ tr σ H fun vs H1 => sp (vs ++ dvs) H1 Q E) := rfl
theorem rd_cb {r : List V → Hp → VK → Prop} : tCB r tr σ H Q = tr σ H fun vs H1 => r vs H1 Q := rfl
theorem rd_bm {K : PySem.W.Frag} {T : String} {r : V → List V → Hp → VK → Prop} : tBM K T r ta tr σ H Q = ta σ H fun x H1 => tyV K T x H1 ∧ tr σ H1 fun xs H2 => r x xs H2 Q := rfl
theorem rd_bm0 {K : PySem.W.Frag} {T : String} {r : V → List V → Hp → VK → Prop} : tBM0 K T r ta σ H Q = ta σ H fun x H1 => tyV K T x H1 ∧ r x [] H1 Q := rfl
theorem rd_sl {r : V → Option Int → Option Int → Hp → VK → Prop} {tl th : TO} : tSl r ta tl th σ H Q = ta σ H fun x H1 => tl σ H1 fun l H2 => th σ H2 fun u H3 => r x l u H3 Q := rfl
theorem rd_nopart {O : Option Int → Hp → Prop} : tNoPart σ H O = O none H := rfl
theorem rd_part {O : Option Int → Hp → Prop} : tPart ta σ H O = ta σ H fun x H1 => ∃ i, x = .int i ∧ O (some i) H1 := rfl
theorem rd_exbl {b : Bool} {P : Bool → Prop} : (∃ k, V.bl b = V.bl k ∧ P k) = P b := by
  apply propext; constructor
  · rintro ⟨_, e, q⟩; cases e; exact q
  · intro q; exact ⟨_, rfl, q⟩
theorem rd_exint {b : Int} {P : Int → Prop} : (∃ k, V.int b = V.int k ∧ P k) = P b := by
  apply propext; constructor
  · rintro ⟨_, e, q⟩; cases e; exact q
  · intro q; exact ⟨_, rfl, q⟩
theorem rd_exsome {α : Type} {v : α} {P : α → Prop} : (∃ k, (some (some v) : Option (Option α)) = some (some k) ∧ P k) = P v := by
  apply propext; constructor
  · rintro ⟨_, e, q⟩; cases e; exact q
  · intro q; exact ⟨_, rfl, q⟩
theorem rd_tyL {K : PySem.W.Frag} {p : Addr} : tyV K "list" (.ref p) H = ∃ xs, SqL K H p xs := by
  apply propext; constructor
  · rintro (⟨_, x⟩ | ⟨e, _⟩ | ⟨e, _⟩ | ⟨e, _⟩)
    · exact x
    · exact absurd e (by decide)
    · exact absurd e (by decide)
    · exact absurd e (by decide)
  · intro x; exact .inl ⟨rfl, x⟩
theorem rd_app {p : Addr} {y : V} : rAppend (.ref p) [y] H Q = ∃ xs, H p = some (.lst xs) ∧ xs.length < sizeLine ∧ Q .non (upd H p (.lst (xs ++ [y]))) := by
  apply propext; constructor
  · rintro ⟨l, xs, z, e, f, q⟩; cases e; cases f; exact ⟨xs, q⟩
  · rintro ⟨xs, q⟩; exact ⟨p, xs, y, rfl, rfl, q⟩
theorem rd_pop {p : Addr} : rPop (.ref p) [] H Q = ∃ xs y, H p = some (.lst xs) ∧ xs[xs.length - 1]? = some y ∧ Q y (upd H p (.lst xs.dropLast)) := by
  apply propext; constructor
  · rintro ⟨l, xs, z, e, f, q⟩; cases e; exact ⟨xs, z, q⟩
  · rintro ⟨xs, y, q⟩; exact ⟨p, xs, y, rfl, rfl, q⟩
theorem rd_ins0 {p : Addr} {y : V} : rInsert0 (.ref p) [.int 0, y] H Q = ∃ xs, H p = some (.lst xs) ∧ xs.length < sizeLine ∧ Q .non (upd H p (.lst (y :: xs))) := by
  apply propext; constructor
  · rintro ⟨l, xs, z, e, f, q⟩; cases e; cases f; exact ⟨xs, q⟩
  · rintro ⟨xs, q⟩; exact ⟨p, xs, y, rfl, rfl, q⟩
theorem rd_ext {p b : Addr} : rExtend (.ref p) [.ref b] H Q = ∃ xs zs, H p = some (.lst xs) ∧ H b = some (.lst zs) ∧ xs.length + zs.length ≤ sizeLine ∧ Q .non (upd H p (.lst (xs ++ zs))) := by
  apply propext; constructor
  · rintro ⟨l, b, xs, z, e, f, q⟩; cases e; cases f; exact ⟨xs, z, q⟩
  · rintro ⟨xs, zs, q⟩; exact ⟨p, b, xs, zs, rfl, rfl, q⟩
theorem rd_rev {p : Addr} : rReverse (.ref p) [] H Q = ∃ xs, H p = some (.lst xs) ∧ Q .non (upd H p (.lst xs.reverse)) := by
  apply propext; constructor
  · rintro ⟨l, xs, e, f, q⟩; cases e; exact ⟨xs, q⟩
  · rintro ⟨xs, q⟩; exact ⟨p, xs, rfl, rfl, q⟩
theorem rd_cat {p b : Addr} : rCat (.ref p) (.ref b) H Q = ∃ xs zs, H p = some (.lst xs) ∧ H b = some (.lst zs) ∧ xs.length + zs.length ≤ sizeLine ∧ ∀ q, H q = none → Q (.ref q) (upd H q (.lst (xs ++ zs))) := by
  apply propext; constructor
  · rintro ⟨l, b, xs, z, e, f, q⟩; cases e; cases f; exact ⟨xs, z, q⟩
  · rintro ⟨xs, zs, q⟩; exact ⟨p, b, xs, zs, rfl, rfl, q⟩
theorem rd_ixT {K : PySem.W.Frag} {p : Addr} {i : Int} : rIxT K (.ref p) (.int i) H Q = ∃ xs v, SqT K H p xs ∧ atI xs i = some v ∧ Q v H := by
  apply propext; constructor
  · rintro ⟨l, xs, z, v, e, f, q⟩; cases e; cases f; exact ⟨xs, v, q⟩
  · rintro ⟨xs, v, q⟩; exact ⟨p, xs, i, v, rfl, rfl, q⟩
theorem rd_ixL {K : PySem.W.Frag} {p : Addr} {i : Int} : rIxL K (.ref p) (.int i) H Q = ∃ xs v, SqL K H p xs ∧ atI xs i = some v ∧ Q v H := by
  apply propext; constructor
  · rintro ⟨l, xs, z, v, e, f, q⟩; cases e; cases f; exact ⟨xs, v, q⟩
  · rintro ⟨xs, v, q⟩; exact ⟨p, xs, i, v, rfl, rfl, q⟩
theorem rd_slL {K : PySem.W.Frag} {p : Addr} {lo hi : Option Int} : rSlL K (.ref p) lo hi H Q = ∃ xs, SqL K H p xs ∧ ∀ q, H q = none → Q (.ref q) (upd H q (.lst (cutV xs lo hi))) := by
  apply propext; constructor
  · rintro ⟨l, xs, e, q⟩; cases e; exact ⟨xs, q⟩
  · rintro ⟨xs, q⟩; exact ⟨p, xs, rfl, q⟩
theorem rd_inS {K : PySem.W.Frag} {neg : Bool} {x : V} {p : Addr} : rIn K neg x (.ref p) H Q = ∃ xs, (SqL K H p xs ∨ SqT K H p xs) ∧ flatV x = true ∧ xs.all flatV = true ∧ Q (.bl (if neg then !inV x xs else inV x xs)) H := by
  apply propext; constructor
  · rintro ⟨l, xs, e, q⟩; cases e; exact ⟨xs, q⟩
  · rintro ⟨xs, q⟩; exact ⟨p, xs, rfl, q⟩
theorem rd_dispC {l : List CR4} : tDispC l σ H Q = ∀ p, H p = none → Q (.ref p) (upd H p (.dK (mergeK [] (kvC l)))) := rfl
theorem rd_dget2 : tDGet2 ta tb tc σ H Q = ta σ H fun x H1 => ∃ a, x = .ref a ∧ IsD H1 a ∧ tb σ H1 fun y H2 => tc σ H2 fun z H3 => ∃ o, DGet H3 a y o ∧ Q (o.getD z) H3 := rfl
noncomputable def tForIn (J : It) (g : TG) (tb : TS) : TS := fun D σ H1 => ∃ W : Nat → Nat → St → Hp → Prop, (∃ m, W 0 m σ H1) ∧ ∀ i m σ H, W i m σ H →
  (J.stop i H ∧ D.nx σ H) ∨ (J.go i H ∧ ∃ N : St → Hp → Prop, (∀ σ' H', N σ' H' → ∃ m', m' < m ∧ W (i + 1) m' σ' H') ∧ ∀ x H', J.yld i H x H' → g x σ H' fun σ2 H2 => tb { D with nx := N, ct := N, bk := D.nx } σ2 H2)
theorem rd_forL {K : PySem.W.Frag} {g : TG} {tb : TS} : tFor (iList K ta) g tb D σ H = ta σ H fun x H1 => ∃ a, x = .ref a ∧ (∃ xs, SqL K H1 a xs) ∧ tForIn (Itl K a) g tb D σ H1 := rfl
theorem rd_forR {g : TG} {tb : TS} : tFor (iRng1 tr) g tb D σ H = tr σ H fun vs H1 => ∃ j : Int, vs = [.int j] ∧ -(2 ^ 62) ≤ j ∧ j < 2 ^ 62 ∧ tForIn (Itr 0 j.toNat) g tb D σ H1 := rfl
theorem rd_fldC {C : Addr} {f : Str} : tFldC C ta f σ H Q = ta σ H fun x H1 => ∃ a dx fs v, x = .ref a ∧ H1 a = some (.ins C dx fs) ∧ fs.lookup f = some v ∧ Q v H1 := rfl
theorem rd_dget : tDGet ta tb σ H Q = ta σ H fun x H1 => tb σ H1 fun y H2 => ∃ a v, x = .ref a ∧ DGet H2 a y (some v) ∧ Q v H2 := rfl
theorem rd_din : tDIn ta tb σ H Q = ta σ H fun y H1 => tb σ H1 fun x H2 => ∃ a o, x = .ref a ∧ DGet H2 a y o ∧ Q (.bl o.isSome) H2 := rfl
theorem rd_dnotin : tDNotIn ta tb σ H Q = ta σ H fun y H1 => tb σ H1 fun x H2 => ∃ a o, x = .ref a ∧ DGet H2 a y o ∧ Q (.bl (!o.isSome)) H2 := rfl
theorem rd_dput : sDPut ta tb tc D σ H = tc σ H fun v H1 => ta σ H1 fun x H2 => tb σ H2 fun y H3 => ∃ a H4, x = .ref a ∧ DPut H3 a y v H4 ∧ D.nx σ H4 := rfl
theorem rd_meth {C : Addr} {m : Str} {sp : Sp} {dvs : List V} {E : XK} : tMeth C m sp dvs E ta tr σ H Q = ta σ H fun x H1 => ∃ a dx fs, x = .ref a ∧ H1 a = some (.ins C dx fs) ∧ fs.lookup m = none ∧ tr σ H1 fun vs H2 => sp (x :: (vs ++ dvs)) H2 Q E := rfl
end
theorem rd_s0 : (0 ≤ sizeLine) = True := eq_true (by decide)
theorem rd_s1 : (1 ≤ sizeLine) = True := eq_true (by decide)
theorem rd_s2 : (2 ≤ sizeLine) = True := eq_true (by decide)
theorem rd_s3 : (3 ≤ sizeLine) = True := eq_true (by decide)
theorem rd_s4 : (4 ≤ sizeLine) = True := eq_true (by decide)
theorem rd_s5 : (5 ≤ sizeLine) = True := eq_true (by decide)
theorem rd_s6 : (6 ≤ sizeLine) = True := eq_true (by decide)
theorem rd_s7 : (7 ≤ sizeLine) = True := eq_true (by decide)
theorem rd_s8 : (8 ≤ sizeLine) = True := eq_true (by decide)
theorem rd_s9 : (9 ≤ sizeLine) = True := eq_true (by decide)
theorem atI0 {α : Type} (a : α) (xs : List α) : atI (a :: xs) 0 = some a := by simp [atI, ixN]
theorem atI1 {α : Type} (a b : α) (xs : List α) : atI (a :: b :: xs) 1 = some b := atI_nat (j := 1) rfl
theorem atI2 {α : Type} (a b c : α) (xs : List α) : atI (a :: b :: c :: xs) 2 = some c := atI_nat (j := 2) rfl
section
variable {P : Program} {w : World} {K : PySem.W.Frag} {mg : Str → Option Value} {base : Heap} {N : List Str} {qual : Str} {scope : Scope} {f : Addr} {cd : Value} {A : Around} {outer : List Env} {s : Shared} {H : Hp} {E : XK} {CX : CXT}
theorem cx_K2 : (cxOf CX P w K mg base N qual scope f cd A outer s H E).K = K := rfl
theorem cx_K : (cxOf CX P w K mg base N qual scope f cd A outer s H E).nox.K = K := rfl
end
theorem bo_len : bootBuiltins "len" = some (.builtin "len") := by decide +kernel
theorem bo_isinstance : bootBuiltins "isinstance" = some (.builtin "isinstance") := by decide +kernel
theorem bo_int : bootBuiltins "int" = some (.type "int") := by decide +kernel
theorem bo_bool : bootBuiltins "bool" = some (.type "bool") := by decide +kernel
theorem bo_list : bootBuiltins "list" = some (.type "list") := by decide +kernel
theorem bo_min : bootBuiltins "min" = some (.builtin "min") := by decide +kernel
theorem kit_same (K : PySem.W.Frag) (T : String) : PySem.W.kitOne K (.type T) (.type T) = some true := by
  unfold PySem.W.kitOne
  rw [if_pos (beq_self_eq_true _)]
theorem kit_ib (K : PySem.W.Frag) : PySem.W.kitOne K (.type "int") (.type "bool") = some false := by rfl
structure Df (K : PySem.W.Frag) (mg : Str → Option Value) (x : Str) (st : Stmt) (ps : List Str) (f : Addr) (fd : FuncData) : Prop where
  F : Fun K x x st f fd
  b : Binds K fd ps []
  m : mg x = some (.ref f)
end L2
end
section
set_option Elab.async false
set_option linter.all false
set_option maxRecDepth 100000
namespace CN
open PySem L2
noncomputable abbrev sv (x : String) : V := .str (Str.ofString x)
noncomputable abbrev IsSt (H : Hp) (v : V) (a : Stm) : Prop := DT H v (dat a)
noncomputable def Sh (H : Hp) : Stm → List V → Prop
  | .yes, xs => xs = [sv "yes"]
  | .no, xs => xs = [sv "no"]
  | .sw n, xs => xs = [sv "switch", .int n]
  | .nt a, xs => ∃ v, xs = [sv "not", v] ∧ IsSt H v a
  | .an a b, xs => ∃ v u, xs = [sv "and", v, u] ∧ IsSt H v a ∧ IsSt H u b
  | .og a b, xs => ∃ v u, xs = [sv "or", v, u] ∧ IsSt H v a ∧ IsSt H u b
  | .al n a, xs => ∃ v, xs = [sv "all", .int n, v] ∧ IsSt H v a
  | .sm n a, xs => ∃ v, xs = [sv "some", .int n, v] ∧ IsSt H v a
theorem dt_str {H : Hp} {v : V} {x : Str} (h : DT H v (.str x)) : v = .str x := by cases h; rfl
theorem dt_int {H : Hp} {v : V} {i : Int} (h : DT H v (.int i)) : v = .int i := by cases h; rfl
theorem dts1 {H : Hp} {xs : List V} {d : PyData} (h : DTs H xs [d]) : ∃ x, xs = [x] ∧ DT H x d := by
  cases h with
  | cons a b => cases b; exact ⟨_, rfl, a⟩
theorem dts2 {H : Hp} {xs : List V} {d e : PyData} (h : DTs H xs [d, e]) : ∃ x y, xs = [x, y] ∧ DT H x d ∧ DT H y e := by
  cases h with
  | cons a b => obtain ⟨y, rfl, k⟩ := dts1 b; exact ⟨_, _, rfl, a, k⟩
theorem dts3 {H : Hp} {xs : List V} {d e f : PyData} (h : DTs H xs [d, e, f]) : ∃ x y z, xs = [x, y, z] ∧ DT H x d ∧ DT H y e ∧ DT H z f := by
  cases h with
  | cons a b => obtain ⟨y, z, rfl, k, l⟩ := dts2 b; exact ⟨_, _, _, rfl, a, k, l⟩
theorem st_get {H : Hp} {v : V} {a : Stm} (h : IsSt H v a) : ∃ p xs, v = .ref p ∧ H p = some (.tup xs) ∧ Sh H a xs := by
  cases a with
  | yes =>
    cases h with
    | tup e k => obtain ⟨x, rfl, k1⟩ := dts1 k; cases dt_str k1; exact ⟨_, _, rfl, e, rfl⟩
  | no =>
    cases h with
    | tup e k => obtain ⟨x, rfl, k1⟩ := dts1 k; cases dt_str k1; exact ⟨_, _, rfl, e, rfl⟩
  | sw n =>
    cases h with
    | tup e k => obtain ⟨x, y, rfl, k1, k2⟩ := dts2 k; cases dt_str k1; cases dt_int k2; exact ⟨_, _, rfl, e, rfl⟩
  | nt a =>
    cases h with
    | tup e k => obtain ⟨x, y, rfl, k1, k2⟩ := dts2 k; cases dt_str k1; exact ⟨_, _, rfl, e, _, rfl, k2⟩
  | an a b =>
    cases h with
    | tup e k => obtain ⟨x, y, z, rfl, k1, k2, k3⟩ := dts3 k; cases dt_str k1; exact ⟨_, _, rfl, e, _, _, rfl, k2, k3⟩
  | og a b =>
    cases h with
    | tup e k => obtain ⟨x, y, z, rfl, k1, k2, k3⟩ := dts3 k; cases dt_str k1; exact ⟨_, _, rfl, e, _, _, rfl, k2, k3⟩
  | al n a =>
    cases h with
    | tup e k => obtain ⟨x, y, z, rfl, k1, k2, k3⟩ := dts3 k; cases dt_str k1; cases dt_int k2; exact ⟨_, _, rfl, e, _, rfl, k3⟩
  | sm n a =>
    cases h with
    | tup e k => obtain ⟨x, y, z, rfl, k1, k2, k3⟩ := dts3 k; cases dt_str k1; cases dt_int k2; exact ⟨_, _, rfl, e, _, rfl, k3⟩
theorem st_mk {H : Hp} {p : Addr} {xs : List V} {a : Stm} (h : H p = some (.tup xs)) (s : Sh H a xs) : IsSt H (.ref p) a := by
  cases a with
  | yes => cases s; exact .tup h (.cons (.str _) .nil)
  | no => cases s; exact .tup h (.cons (.str _) .nil)
  | sw n => cases s; exact .tup h (.cons (.str _) (.cons (.int _) .nil))
  | nt a => obtain ⟨v, rfl, k⟩ := s; exact .tup h (.cons (.str _) (.cons k .nil))
  | an a b => obtain ⟨v, u, rfl, k, l⟩ := s; exact .tup h (.cons (.str _) (.cons k (.cons l .nil)))
  | og a b => obtain ⟨v, u, rfl, k, l⟩ := s; exact .tup h (.cons (.str _) (.cons k (.cons l .nil)))
  | al n a => obtain ⟨v, rfl, k⟩ := s; exact .tup h (.cons (.str _) (.cons (.int _) (.cons k .nil)))
  | sm n a => obtain ⟨v, rfl, k⟩ := s; exact .tup h (.cons (.str _) (.cons (.int _) (.cons k .nil)))
structure Bt (mg : Str → Option Value) : Prop where
  n_len : mg "len" = none
  n_range : mg "range" = none
  n_isinstance : mg "isinstance" = none
  n_int : mg "int" = none
  n_str : mg "str" = none
  n_bool : mg "bool" = none
  n_list : mg "list" = none
  n_tuple : mg "tuple" = none
  n_abs : mg "abs" = none
noncomputable def word : Stm → Str
  | .yes => Str.ofString "yes" | .no => Str.ofString "no" | .sw _ => Str.ofString "switch" | .nt _ => Str.ofString "not" | .an _ _ => Str.ofString "and" | .og _ _ => Str.ofString "or" | .al _ _ => Str.ofString "all" | .sm _ _ => Str.ofString "some"
noncomputable def arity : Stm → Nat
  | .yes => 1 | .no => 1 | .sw _ => 2 | .nt _ => 2 | .an _ _ => 3 | .og _ _ => 3 | .al _ _ => 3 | .sm _ _ => 3
theorem sh_head {H : Hp} {a : Stm} {cs : List V} (s : Sh H a cs) : ∃ rest, cs = .str (word a) :: rest ∧ rest.length + 1 = arity a := by
  cases a with
  | yes => cases s; exact ⟨_, rfl, rfl⟩
  | no => cases s; exact ⟨_, rfl, rfl⟩
  | sw n => cases s; exact ⟨_, rfl, rfl⟩
  | nt a => obtain ⟨v, rfl, _⟩ := s; exact ⟨_, rfl, rfl⟩
  | an a b => obtain ⟨v, u, rfl, _⟩ := s; exact ⟨_, rfl, rfl⟩
  | og a b => obtain ⟨v, u, rfl, _⟩ := s; exact ⟨_, rfl, rfl⟩
  | al n a => obtain ⟨v, rfl, _⟩ := s; exact ⟨_, rfl, rfl⟩
  | sm n a => obtain ⟨v, rfl, _⟩ := s; exact ⟨_, rfl, rfl⟩
noncomputable abbrev Sts (H : Hp) : List V → List Stm → Prop := Paired (IsSt H)
theorem Sts.to {H H' : Hp} (k : Tk H H') : ∀ {xs : List V} {as : List Stm}, Sts H xs as → Sts H' xs as
  | _, _, .nil => .nil
  | _, _, .cons a b => .cons (DT.to a k) (Sts.to k b)
theorem Sts.app {H : Hp} : ∀ {xs ys : List V} {as bs : List Stm}, Sts H xs as → Sts H ys bs → Sts H (xs ++ ys) (as ++ bs)
  | _, _, _, _, .nil, s => s
  | _, _, _, _, .cons r t, s => .cons r (Sts.app t s)
theorem Sts.one {H : Hp} {v : V} {a : Stm} (h : IsSt H v a) : Sts H [v] [a] := .cons h .nil
theorem Sts.snoc {H : Hp} : ∀ {xs : List V} {x : V} {as : List Stm}, Sts H (xs ++ [x]) as → ∃ bs b, as = bs ++ [b] ∧ Sts H xs bs ∧ IsSt H x b
  | [], x, _, .cons a .nil => ⟨[], _, rfl, .nil, a⟩
  | y :: xs, x, _, .cons a r => by
    obtain ⟨bs, b, rfl, h1, h2⟩ := Sts.snoc (xs := xs) r
    exact ⟨_ :: bs, b, rfl, .cons a h1, h2⟩
theorem Sts.get {H : Hp} : ∀ {xs : List V} {as : List Stm} {i : Nat} {x : V}, Sts H xs as → xs[i]? = some x → ∃ a, as[i]? = some a ∧ IsSt H x a
  | _, _, _, _, .nil, e => by simp at e
  | _, _, 0, _, .cons r _, e => by simp at e; subst e; exact ⟨_, rfl, r⟩
  | _, _, i + 1, x, .cons _ t, e => by
    obtain ⟨u, h1, h2⟩ := Sts.get (i := i) (x := x) t (by simpa using e)
    exact ⟨u, by simpa using h1, h2⟩
noncomputable def sizes (as : List Stm) : Nat := (as.map Stm.size).sum
theorem sizes_app (as bs : List Stm) : sizes (as ++ bs) = sizes as + sizes bs := by simp [sizes]
theorem sizes_one (a : Stm) : sizes [a] = a.size := by simp [sizes]
theorem sizes_len (as : List Stm) : as.length ≤ sizes as := by
  induction as with
  | nil => simp [sizes]
  | cons a as ih =>
    have := a.size_pos
    simp only [sizes, List.map_cons, List.sum_cons, List.length_cons] at *
    omega
theorem snoc_of {α : Type} : ∀ {xs : List α}, xs ≠ [] → ∃ ys y, xs = ys ++ [y]
  | [], h => absurd rfl h
  | [x], _ => ⟨[], x, rfl⟩
  | x :: y :: r, _ => by
    obtain ⟨ys, z, e⟩ := snoc_of (xs := y :: r) (by simp)
    exact ⟨x :: ys, z, by rw [e]; rfl⟩
theorem last_of {α : Type} (xs : List α) (x : α) : (xs ++ [x])[(xs ++ [x]).length - 1]? = some x := by simp
theorem drop_of {α : Type} (xs : List α) (x : α) : (xs ++ [x]).dropLast = xs := List.dropLast_concat
end CN
end
section
set_option Elab.async false
set_option linter.all false
set_option maxRecDepth 100000
namespace L2
open PySem PySem.Spec PyProof.Rows
noncomputable def Tq (K : PySem.W.Frag) (H : Hp) (a : Addr) (xs : List V) : Prop :=
  H a = some (.tup xs) ∨ ∃ (o : Obj) (its : Array Value) (n : Nat), K.lookup a = some o ∧ o.cls = .type "tuple" ∧ o.data = .seq its n ∧ its.size ≤ sizeLine ∧ Vals xs its.toList
section
variable {K : PySem.W.Frag} {H H' : Hp} {a : Addr} {xs : List V}
theorem Tq.to (h : Tq K H a xs) (k : Tk H H') : Tq K H' a xs := by
  rcases h with h | h
  · exact .inl (k _ _ h)
  · exact .inr h
end
mutual
inductive DK (K : PySem.W.Frag) (H : Hp) : V → PyData → Prop
  | non : DK K H .non .none
  | bl (b : Bool) : DK K H (.bl b) (.bool b)
  | int (i : Int) : DK K H (.int i) (.int i)
  | str (x : Str) : DK K H (.str x) (.str x)
  | tup {a : Addr} {xs : List V} {ds : List PyData} : Tq K H a xs → DKs K H xs ds → DK K H (.ref a) (.tuple ds)
inductive DKs (K : PySem.W.Frag) (H : Hp) : List V → List PyData → Prop
  | nil : DKs K H [] []
  | cons {x : V} {d : PyData} {xs : List V} {ds : List PyData} : DK K H x d → DKs K H xs ds → DKs K H (x :: xs) (d :: ds)
end
mutual
theorem DK.tk {K : PySem.W.Frag} {H H' : Hp} (k : Tk H H') : ∀ (d : PyData) (v : V), DK K H v d → DK K H' v d
  | .none, v, x => by cases x; exact .non
  | .bool b, v, x => by cases x; exact .bl _
  | .int i, v, x => by cases x; exact .int _
  | .str y, v, x => by cases x; exact .str _
  | .tuple ds, v, x => by
    cases x with
    | tup e xs => exact .tup (e.to k) (DKs.tk k ds _ xs)
  | .list _, v, x => nomatch x
  | .dict _, v, x => nomatch x
theorem DKs.tk {K : PySem.W.Frag} {H H' : Hp} (k : Tk H H') : ∀ (ds : List PyData) (vs : List V), DKs K H vs ds → DKs K H' vs ds
  | [], vs, x => by cases x; exact .nil
  | d :: ds, vs, x => by
    cases x with
    | cons a b => exact .cons (DK.tk k d _ a) (DKs.tk k ds _ b)
end
theorem DK.to {K : PySem.W.Frag} {H H' : Hp} {d : PyData} {v : V} (x : DK K H v d) (k : Tk H H') : DK K H' v d := DK.tk k d v x
mutual
theorem DK.ofT {K : PySem.W.Frag} {H : Hp} : ∀ (d : PyData) (v : V), DT H v d → DK K H v d
  | .none, v, x => by cases x; exact .non
  | .bool b, v, x => by cases x; exact .bl _
  | .int i, v, x => by cases x; exact .int _
  | .str y, v, x => by cases x; exact .str _
  | .tuple ds, v, x => by
    cases x with
    | tup e xs => exact .tup (.inl e) (DKs.ofT ds _ xs)
  | .list _, v, x => nomatch x
  | .dict _, v, x => nomatch x
theorem DKs.ofT {K : PySem.W.Frag} {H : Hp} : ∀ (ds : List PyData) (vs : List V), DTs H vs ds → DKs K H vs ds
  | [], vs, x => by cases x; exact .nil
  | d :: ds, vs, x => by
    cases x with
    | cons a b => exact .cons (DK.ofT d _ a) (DKs.ofT ds _ b)
end
section
variable {P : Program} {w : World} {K : PySem.W.Frag} {H : Hp} {h : Heap}
end
section
variable {X : Cx} {k : Nat}
end
noncomputable def KD (K : PySem.W.Frag) (P : Params) (a : Addr) (g : Str → Option V) : Prop :=
  (a == sysModules) = false ∧ ∃ (es : Array DictEntry) (n : Nat), K.lookup a = some ⟨.type "dict", none, .dict es n, #[]⟩ ∧ PySem.W.KeysLit P es.toList ∧ ∀ x, RelO (g x) (findBy Value.isStrOf es x)
noncomputable def tKGet (K : PySem.W.Frag) (P : Params) (td ty : TE) : TE := fun σ H Q => td σ H fun x H1 => ty σ H1 fun y H2 => ∃ a g k v, x = .ref a ∧ y = .str k ∧ KD K P a g ∧ g k = some v ∧ Q v H2
noncomputable def tKIn (K : PySem.W.Frag) (P : Params) (ty td : TE) : TE := fun σ H Q => ty σ H fun y H1 => td σ H1 fun x H2 => ∃ a g k, x = .ref a ∧ y = .str k ∧ KD K P a g ∧ Q (.bl (g k).isSome) H2
section
variable {X : Cx} {o i : Expr} {pos : Pos} {td ty : TE}
end
noncomputable def gOf (l : List (Str × V)) (x : Str) : Option V := (l.find? fun e => decide (e.1 = x)).map (·.2)
noncomputable def rSlS : V → Option Int → Option Int → Hp → VK → Prop := fun x lo hi H Q => ∃ (z : Str) (i j : Nat), x = .str z ∧ lo = some (i : Int) ∧ hi = some (j : Int) ∧ z.length ≤ sizeLine ∧ Q (.str (CN.mkS (((CN.tx z).drop i).take (j - i)))) H
noncomputable def sFldC (C : Addr) (ta tv : TE) (f : Str) : TS := fun D σ H => tv σ H fun y H1 => ta σ H1 fun x H2 => ∃ a dx fs, x = .ref a ∧ H2 a = some (.ins C dx fs) ∧ fs.length < 1000 ∧ D.nx σ (upd H2 a (.ins C dx (putF f y fs)))
theorem ps_fldC {X : Cx} {o value : Expr} {f : Str} {pos pos' : Pos} {ta tv : TE} {C : Addr} (c : Cls X.K C) (n : NoAttr X.K C f) (ha : PE X o ta) (hv : PE X value tv) (hs : swapsWith value (some (.Attribute o f pos')) pos.line X.env = pure false) : PS X (.Assign [.Attribute o f pos'] value pos) (sFldC C ta tv f) := by
  intro pins s σ H D I h
  refine plainObj_wpAny_Assign_Attribute (thn (hv pins s σ H _ I h) fun u s1 ⟨y, H1, I1, ry, q⟩ => thn (ha pins s1 σ H1 _ I1 q) fun ov s2 ⟨x, H2, I2, rx, a, dx, fs, ex, ea, l, q2⟩ => ?_) hs
  subst ex
  obtain rfl : ov = Value.ref a := rx
  exact setattr_ok I2 ea c n l ry fun s3 I3 => ⟨σ, _, I3, q2⟩
section
variable {D : Ends} {σ : St} {H : Hp} {Q : VK} {ta tb tc : TE} {tr : TA}
theorem rd_kget {K : PySem.W.Frag} {P : Params} : tKGet K P ta tb σ H Q = ta σ H fun x H1 => tb σ H1 fun y H2 => ∃ a g k v, x = .ref a ∧ y = .str k ∧ KD K P a g ∧ g k = some v ∧ Q v H2 := rfl
theorem rd_kin {K : PySem.W.Frag} {P : Params} : tKIn K P ta tb σ H Q = ta σ H fun y H1 => tb σ H1 fun x H2 => ∃ a g k, x = .ref a ∧ y = .str k ∧ KD K P a g ∧ Q (.bl (g k).isSome) H2 := rfl
theorem rd_fldP {C : Addr} {f : Str} : sFldC C ta tc f D σ H = tc σ H fun y H1 => ta σ H1 fun x H2 => ∃ a dx fs, x = .ref a ∧ H2 a = some (.ins C dx fs) ∧ fs.length < 1000 ∧ D.nx σ (upd H2 a (.ins C dx (putF f y fs))) := rfl
theorem rd_make {C : Addr} {sp : Sp} {dvs : List V} {E : XK} : tMake C sp dvs E tr σ H Q = tr σ H fun vs H1 => ∀ x dx, H1 x = none → H1 dx = none → dx ≠ x → sp (.ref x :: (vs ++ dvs)) (upd (upd H1 dx (.own x)) x (.ins C dx [])) (fun v H2 => v = .non ∧ Q (.ref x) H2) E := rfl
theorem rd_slS {z : Str} {lo hi : Option Int} : rSlS (.str z) lo hi H Q = ∃ (i j : Nat), lo = some (i : Int) ∧ hi = some (j : Int) ∧ z.length ≤ sizeLine ∧ Q (.str (CN.mkS (((CN.tx z).drop i).take (j - i)))) H := by
  apply propext; constructor
  · rintro ⟨z', i, j, e, q⟩; cases e; exact ⟨i, j, q⟩
  · rintro ⟨i, j, q⟩; exact ⟨z, i, j, rfl, q⟩
end
section
variable {P : Program} {w : World} {K : PySem.W.Frag} {mg : Str → Option Value} {base : Heap} {N : List Str} {qual : Str} {scope : Scope} {f : Addr} {cd : Value} {A : Around} {outer : List Env} {s : Shared} {H : Hp} {E : XK} {CX : CXT}
theorem cx_w2 : (cxOf CX P w K mg base N qual scope f cd A outer s H E).w = w := rfl
theorem cx_w : (cxOf CX P w K mg base N qual scope f cd A outer s H E).nox.w = w := rfl
end
end L2
namespace CN
open PySem L2
noncomputable abbrev IsSk (K : PySem.W.Frag) (H : Hp) (v : V) (a : Stm) : Prop := DK K H v (dat a)
theorem IsSt.k {K : PySem.W.Frag} {H : Hp} {v : V} {a : Stm} (h : IsSt H v a) : IsSk K H v a := DK.ofT _ _ h
noncomputable def Shk (K : PySem.W.Frag) (H : Hp) : Stm → List V → Prop
  | .yes, xs => xs = [sv "yes"]
  | .no, xs => xs = [sv "no"]
  | .sw n, xs => xs = [sv "switch", .int n]
  | .nt a, xs => ∃ v, xs = [sv "not", v] ∧ IsSk K H v a
  | .an a b, xs => ∃ v u, xs = [sv "and", v, u] ∧ IsSk K H v a ∧ IsSk K H u b
  | .og a b, xs => ∃ v u, xs = [sv "or", v, u] ∧ IsSk K H v a ∧ IsSk K H u b
  | .al n a, xs => ∃ v, xs = [sv "all", .int n, v] ∧ IsSk K H v a
  | .sm n a, xs => ∃ v, xs = [sv "some", .int n, v] ∧ IsSk K H v a
section
variable {K : PySem.W.Frag} {H H' : Hp}
theorem Shk.to {a : Stm} {xs : List V} (s : Shk K H a xs) (k : Tk H H') : Shk K H' a xs := by
  cases a with
  | yes => exact s
  | no => exact s
  | sw n => exact s
  | nt a => obtain ⟨v, e, h⟩ := s; exact ⟨v, e, DK.to h k⟩
  | an a b => obtain ⟨v, u, e, h, l⟩ := s; exact ⟨v, u, e, DK.to h k, DK.to l k⟩
  | og a b => obtain ⟨v, u, e, h, l⟩ := s; exact ⟨v, u, e, DK.to h k, DK.to l k⟩
  | al n a => obtain ⟨v, e, h⟩ := s; exact ⟨v, e, DK.to h k⟩
  | sm n a => obtain ⟨v, e, h⟩ := s; exact ⟨v, e, DK.to h k⟩
noncomputable abbrev Stk (K : PySem.W.Frag) (H : Hp) : List V → List Stm → Prop := Paired (IsSk K H)
theorem Stk.to (k : Tk H H') : ∀ {xs : List V} {as : List Stm}, Stk K H xs as → Stk K H' xs as
  | _, _, .nil => .nil
  | _, _, .cons a b => .cons (DK.to a k) (Stk.to k b)
end
end CN
end
section
set_option Elab.async false
set_option linter.all false
set_option maxRecDepth 100000
set_option maxHeartbeats 1000000
namespace L2
open PySem PySem.Spec PyProof.Rows
section
variable {prog : Program} {w : World} {A : Around} {E : Value → Shared → Prop} {R : Result → Shared → Prop} {s : Shared}
theorem comp_loop {elt target iter : Expr} {ifs : List Expr} {scope : Scope} {pos : Pos} {it acc : Value} {env : Env} (I : Nat → Shared → Prop)
    (turn : ∀ n s, I n s → wpAny (model prog w) A (pyNext it) (fun r s₁ => match r with
      | none => R (.ok .next) s₁
      | some v => wpAny (model prog w) A (letOwnedTupleGo target it v) (fun _ s₀ => wpAny (model prog w) A (assign target env v) (fun _ s₂ =>
          wpAny (model prog w) A (forIn ifs true fun c r => if r = true then do let ok ← isTrue c env (eval c env); pure (ForInStep.yield ok) else pure (ForInStep.yield r)) (fun ok s₃ =>
            if ok = true then wpAny (model prog w) A (eval elt env) (fun x s₄ =>
              wpAny (model prog w) A (call (.builtin "list.append") [acc, x]) (fun _ s₅ => ∃ m, m < n ∧ I m s₅) (fun _ _ => False) s₄) (fun _ _ => False) s₃
            else ∃ m, m < n ∧ I m s₃) (fun _ _ => False) s₂) (fun _ _ => False) s₀) (fun _ _ => False) s₁) (fun _ _ => False) s)
    (n : Nat) (h : I n s) :
    codeAny (model prog w) A (.compLoop (.ListComp elt [⟨target, iter, ifs, 0⟩] scope pos) 0 it acc env) R s := by
  refine codeAny_loop rfl I (fun n s hI => ?_) n h
  show wpAny _ A ((compTurn (.ListComp elt [⟨target, iter, ifs, 0⟩] scope pos) 0 it acc env).onRaise (fun x => do noteFrame x env; theTreesLotGoes x)) _ _ s
  refine wpAny_noted ?_
  rw [compTurn_list]
  refine wpAny_bind (wpAny_standAt (wpAny_bind (wpAny_mono (turn n s hI) (fun r s₁ h₁ => ?_) fun _ _ h' => h'.elim)))
  cases r with
  | none => exact wpAny_pure h₁
  | some v =>
    refine wpAny_bind (wpAny_mono h₁ (fun _ s₀ h₀ => ?_) fun _ _ h' => h'.elim)
    refine wpAny_bind (wpAny_mono h₀ (fun _ s₂ h₂ => wpAny_bind (wpAny_mono h₂ (fun ok s₃ h₃ => ?_) fun _ _ h' => h'.elim)) fun _ _ h' => h'.elim)
    cases ok with
    | false => exact wpAny_pure ⟨rfl, h₃⟩
    | true =>
      exact wpAny_bind (wpAny_bind (wpAny_mono h₃ (fun x s₄ h₄ => wpAny_bind (wpAny_mono h₄ (fun _ s₅ h₅ => wpAny_pure (wpAny_pure ⟨rfl, h₅⟩)) fun _ _ h' => h'.elim)) fun _ _ h' => h'.elim))
end
theorem lookup_relabel_free {env : Env} : ∀ {names : List (Str × NameKind)} {x : Str}, names.lookup x = some .free →
    (names.map fun (n, k) => if (k == NameKind.free && env.scope.kind == .function && env.kindOf n == some .cell) then (n, NameKind.cell) else (n, k)).lookup x = some .cell ∨
    (names.map fun (n, k) => if (k == NameKind.free && env.scope.kind == .function && env.kindOf n == some .cell) then (n, NameKind.cell) else (n, k)).lookup x = some .free
  | [], _, h => by simp at h
  | (n, k) :: r, x, h => by
    have ih := @lookup_relabel_free env r x
    cases hx : x == n with
    | true =>
      simp only [List.lookup_cons, hx] at h
      cases h
      rw [List.map_cons]
      dsimp only
      by_cases hc : (NameKind.free == NameKind.free && env.scope.kind == .function && env.kindOf n == some .cell) = true
      · left; rw [if_pos hc, List.lookup_cons, hx]
      · right; rw [if_neg hc, List.lookup_cons, hx]
    | false =>
      simp only [List.lookup_cons, hx] at h
      rw [List.map_cons]
      dsimp only
      by_cases hc : (k == NameKind.free && env.scope.kind == .function && env.kindOf n == some .cell) = true
      · rw [if_pos hc, List.lookup_cons, hx]; exact ih h
      · rw [if_neg hc, List.lookup_cons, hx]; exact ih h
theorem lookup_relabel_vis {env : Env} : ∀ {names : List (Str × NameKind)} {x : Str} {k : NameKind},
    (names.map fun (n, k) => if (k == NameKind.free && env.scope.kind == .function && env.kindOf n == some .cell) then (n, NameKind.cell) else (n, k)).lookup x = some k → names.lookup x = some k ∨ (k = .cell ∧ names.lookup x = some .free)
  | [], _, _, h => by simp at h
  | (n, j) :: r, x, k, h => by
    have ih := @lookup_relabel_vis env r x k
    rw [List.map_cons] at h
    dsimp only at h
    cases hx : x == n with
    | true =>
      by_cases hc : (j == NameKind.free && env.scope.kind == .function && env.kindOf n == some .cell) = true
      · rw [if_pos hc, List.lookup_cons, hx] at h
        cases h
        right
        refine ⟨rfl, ?_⟩
        rw [List.lookup_cons, hx]
        have : j = .free := by
          have := (Bool.and_eq_true _ _).mp ((Bool.and_eq_true _ _).mp hc).1
          simpa using this.1
        rw [this]
      · rw [if_neg hc, List.lookup_cons, hx] at h
        left; rw [List.lookup_cons, hx]; exact h
    | false =>
      have h' : (r.map fun (n, k) => if (k == NameKind.free && env.scope.kind == .function && env.kindOf n == some .cell) then (n, NameKind.cell) else (n, k)).lookup x = some k := by
        by_cases hc : (j == NameKind.free && env.scope.kind == .function && env.kindOf n == some .cell) = true
        · rw [if_pos hc, List.lookup_cons, hx] at h; exact h
        · rw [if_neg hc, List.lookup_cons, hx] at h; exact h
      rw [List.lookup_cons, hx]
      exact ih h'
structure CSc (X : Cx) (scope : Scope) (cl : List (Str × Addr)) (x : Str) (M : List Str) : Prop where
  kind : scope.kind = .function
  nocell : ∀ y ∈ scope.names, y.2 ≠ .cell
  names : ∀ y ∈ scope.names, y.2 = .local → scope.names.lookup y.1 = some .local
  hx : scope.names.lookup x = some .local
  clos : closureFor scope X.env = pure cl
  sub : ∀ y c, cl.lookup y = some c → X.env.cells.lookup y = some c
  has : ∀ y, scope.names.lookup y = some .free → ∃ c, cl.lookup y = some c
  up : ∀ y, scope.names.lookup y = some .free → X.env.kindOf y = some .cell ∨ X.env.kindOf y = some .free
  len : M.length = X.N.length
  nd : (x :: M).Nodup
  slot : ∀ (i : Nat) (y : Str), M[i]? = some y → scope.names.lookup y = none ∨ scope.names.lookup y = some .globalImplicit ∨ (scope.names.lookup y = some .free ∧ X.N[i]? = some y)
noncomputable def compCx (X : Cx) (scope : Scope) (cl : List (Str × Addr)) (x : Str) (M : List Str) (fp : List Addr) (pins : List (Addr × Obj)) (s : Shared) (H : Hp) : Cx :=
  { X with N := x :: M, s₀ := s, H₀ := H, env := compEnvC scope cl s.heap.objs.size X.env, outer := X.stack, stack := X.stack, ex := fp, fn := fun _ => false, pn := X.pn ++ pins, xe := fun _ _ => False }
section
variable {X : Cx} {pins : List (Addr × Obj)} {σ : St} {H : Hp} {s : Shared} {scope : Scope} {cl : List (Str × Addr)} {x : Str} {M : List Str} {fp : List Addr}
theorem comp_ok (I : Inv X pins σ H s) (S : CSc X scope cl x M) (hf : ∀ b ∈ fp, FpOk X pins H b ∧ b < s.heap.objs.size) : (compCx X scope cl x M fp pins s H).Ok where
  mod := I.ok.mod
  kind := S.kind
  glob := I.ok.glob
  blt := I.ok.blt
  above := Nat.le_refl _
  inj := fun y z c h1 h2 => I.ok.inj y z c (S.sub y c h1) (S.sub z c h2)
  has := fun y h => by
    have : scope.names.lookup y = some .free := by
      rcases h with h | h
      · rcases lookup_relabel_vis h with e | ⟨_, e⟩
        · obtain ⟨k, hk⟩ : ∃ p, p ∈ scope.names ∧ p.2 = .cell := by
            exact absurd e (fun e => by
              have := List.lookup_eq_some_iff.mp e
              obtain ⟨l1, l2, e2, _⟩ := this
              exact S.nocell (y, .cell) (by rw [e2]; simp) rfl)
          exact absurd hk.2 (S.nocell _ hk.1)
        · exact e
      · rcases lookup_relabel_vis h with e | ⟨e, _⟩
        · exact e
        · cases e
    exact S.has y this
  cab := fun y c h _ => by cases h
  hd := I.ok.hd
  frames := I.ok.frames
  stk := .inl rfl
  exf := fun b hb => ⟨Nat.ne_of_lt (hf b hb).2, fun y c h => (hf b hb).1.2.2.2.2.1 y c (S.sub y c h)⟩
  bs := I.bs
  bsz := Nat.le_trans I.ok.bsz I.sz
  noex := fun b o e hb => by
    rcases (hf b hb).1.2.2.2.1 with h | h
    · exact I.ok.noex b o e h
    · exact absurd (Nat.lt_of_lt_of_le (Heap.lt_size e) I.ok.bsz) (Nat.not_lt.mpr h)
  exfs := fun b hb hm => by
    have h := I.stkSub b hm
    rcases List.mem_cons.mp h with h | h
    · exact (hf b hb).1.2.1 h
    · exact (hf b hb).1.2.2.1 h
  funs := I.stack
  frf := fun b hb => I.stkFree b hb
theorem comp_inv {h' : Heap} {t' : Nat} {m0 : Str → Option Value} {o : Option V} (ho : o = none) (I : Inv X pins σ H s) (S : CSc X scope cl x M) (hf : ∀ b ∈ fp, FpOk X pins H b ∧ b < s.heap.objs.size) (hns : h'.Ns s.heap.objs.size m0)
    (hk : ∀ b u, s.heap.get? b = some u → h'.get? b = some u) : Inv (compCx X scope cl x M fp pins s H) [] (o :: σ) H { s with heap := h', toks := t' } where
  ok := comp_ok I S hf
  os := rfl
  bare := I.bare
  base := Un.kept hk
  loc := by
    refine ⟨m0, hns, fun i y v e1 e2 e3 => ?_⟩
    cases i with
    | zero => subst ho; simp at e2
    | succ i =>
      have e1' : M[i]? = some y := e1
      have e2' : σ[i]? = some (some v) := e2
      have vis : scope.names.lookup y = some .free ∧ X.N[i]? = some y := by
        rcases S.slot i y e1' with h | h | h
        · exfalso
          rcases e3 with q | q | q <;> rcases lookup_relabel_vis q with e | ⟨_, e⟩ <;> rw [h] at e <;> cases e
        · exfalso
          rcases e3 with q | q | q <;> rcases lookup_relabel_vis q with e | ⟨_, e⟩ <;> rw [h] at e <;> cases e
        · exact h
      obtain ⟨m, hn, hl⟩ := I.loc
      have up := S.up y vis.1
      have vx : Vis X.env.scope y := by
        rcases up with q | q
        · exact .inr (.inl q)
        · exact .inr (.inr q)
      obtain ⟨u, r, lk⟩ := hl i y v vis.2 e2' vx
      refine ⟨u, r, .inr ⟨?_, ?_⟩⟩
      · exact lookup_relabel_free vis.1
      · obtain ⟨c, hc⟩ := S.has y vis.1
        rcases lk with ⟨q, _⟩ | ⟨_, c', hc', ic⟩
        · exfalso
          rcases up with z | z <;> rw [z] at q <;> cases q
        · rw [S.sub y c hc] at hc'
          cases hc'
          exact ⟨c, hc, ic.keeps hk⟩
  cell := fun y c h => by
    obtain ⟨v, hv⟩ := I.cell y c (S.sub y c h)
    exact ⟨v, hv.keeps hk⟩
  free := I.hok.fresh (Nat.le_refl _)
  freeC := fun y c h => I.freeC y c (S.sub y c h)
  pin := fun p hp => by
    have hp' : p ∈ X.pn ++ pins := by
      have z : p ∈ (X.pn ++ pins) ++ [] := hp
      rwa [List.append_nil] at z
    obtain ⟨h1, h2, h3, h4, h5⟩ := I.pin p hp'
    refine ⟨hk _ _ h1, h2, Nat.ne_of_lt (Heap.lt_size h1), fun hm => ?_, h5⟩
    rcases List.mem_cons.mp (I.stkSub _ hm) with q | q
    · exact h3 q
    · exact h4 q
  hok := I.hok.kept hk
  len := by
    show σ.length + 1 = M.length + 1
    rw [I.len, S.len]
end
noncomputable def PTs (X : Cx) (ifs : List Expr) (t : TT) : Prop :=
  ∀ (pins : List (Addr × Obj)) (s : Shared) (σ : St) (H : Hp) (Q : Bool → Hp → Prop), Inv X pins σ H s → t σ H Q →
    wpAny (model X.prog X.w) X.A (forIn ifs true fun c r => if r = true then do let ok ← isTrue c X.env (eval c X.env); pure (ForInStep.yield ok) else pure (ForInStep.yield r)) (TP X pins σ Q) X.xe s
noncomputable def tYes : TT := fun _ H Q => Q true H
theorem pts_nil {X : Cx} : PTs X [] tYes := fun pins s σ H Q I h => wpAny_tests_nil ⟨H, I, h⟩
theorem pts_one {X : Cx} {c : Expr} {t : TT} (h : PT X c t) : PTs X [c] t := fun pins s σ H Q I q => wpAny_tests_one (h pins s σ H Q I q)
noncomputable def tComp (wi : TI) (ti : TT) (te : TE) : TE := fun σ H Q => wi σ H fun J H1 => ∀ D, H1 D = none → ∃ W : Nat → Nat → List V → Hp → Prop, (∃ m, W 0 m [] (upd H1 D (.lst []))) ∧ ∀ i m ys H2, W i m ys H2 →
  (J.stop i H2 ∧ Q (.ref D) H2) ∨ (J.go i H2 ∧ ∀ x H3, J.yld i H2 x H3 → ti (some x :: σ) H3 fun b H4 =>
    if b = true then te (some x :: σ) H4 fun y H5 => H5 D = some (.lst ys) ∧ ys.length < sizeLine ∧ ∃ m', m' < m ∧ W (i + 1) m' (ys ++ [y]) (upd H5 D (.lst (ys ++ [y]))) else ∃ m', m' < m ∧ W (i + 1) m' ys H4)
noncomputable def CQ (X : Cx) (pins : List (Addr × Obj)) (σ : St) (Q : VK) (acc : Value) (C : Addr) (r : Result) (s' : Shared) : Prop := match r with
  | .ok _ => ∃ D H', acc = .ref D ∧ Inv X pins σ H' s' ∧ Q (.ref D) H' ∧ (∃ m, s'.heap.Ns C m) ∧ FpOk X pins H' C
  | .error _ => False
section
variable {X : Cx} {elt iter : Expr} {ifs : List Expr} {scope : Scope} {cl : List (Str × Addr)} {x : Str} {px pos : Pos} {M : List Str} {wi : TI} {ti : TT} {te : TE}
theorem comp_core (hc : X.calm = true) (hi : PI X (.Name x px) iter wi) (S : CSc X scope cl x M)
    (ht : ∀ fp pins s H, PTs (compCx X scope cl x M fp pins s H) ifs ti) (he : ∀ fp pins s H, PE (compCx X scope cl x M fp pins s H) elt te)
    {pins : List (Addr × Obj)} {σ : St} {H : Hp} {s : Shared} {Q : VK} (I : Inv X pins σ H s) (h : tComp wi ti te σ H Q) :
    wpAny (model X.prog X.w) X.A (eval iter X.env) (fun xv s₁ => wpAny (model X.prog X.w) X.A (pyIter xv) (fun itv s₂ => wpAny (model X.prog X.w) X.A (newList []) (fun acc s₃ =>
      wpAny (model X.prog X.w) X.A (newFunctionEnv scope X.env.globals cl [] X.env.qual none .none (some X.env)) (fun cenv s₄ =>
        codeAny (model X.prog X.w) X.A (.compStart (.ListComp elt [⟨.Name x px, iter, ifs, 0⟩] scope pos) 0 itv acc { cenv with scope := relabel scope X.env }) (CQ X pins σ Q acc cenv.locals) s₄) X.xe s₃) X.xe s₂) X.xe s₁) X.xe s := by
  refine thn (hi pins s σ H _ I h) fun v s1 h1 => thn h1 fun itv s2 h2 => ?_
  obtain ⟨it, fp, tn, J, H2, e, I2, T, st2, f2, q2⟩ := h2
  subst e
  obtain ⟨W, ⟨m0, w0⟩, turn⟩ := q2 s2.heap.objs.size (I2.hok.fresh (Nat.le_refl _))
  refine wpAny_newObj_type ?_
  have I3 : Inv X pins σ (upd H2 s2.heap.objs.size (.lst [])) { s2 with heap := s2.heap.push { cls := .type "list", dict := none, data := .seq ([] : List Value).toArray } } := I2.lnew (its := []) (ys := []) .nil (Nat.zero_le _)
  have hlt2 : ∀ b ∈ fp, b < s2.heap.objs.size := fun b hb => by
    obtain ⟨o, eo, _⟩ := T.obj _ _ st2 b hb
    exact Heap.lt_size eo
  have hfp3 : ∀ b ∈ fp, FpOk X pins (upd H2 s2.heap.objs.size (.lst [])) b ∧ b < (s2.heap.push { cls := .type "list", dict := none, data := .seq ([] : List Value).toArray }).objs.size := fun b hb =>
    ⟨⟨by rw [upd_ne (Nat.ne_of_lt (hlt2 b hb))]; exact (f2 b hb).1, (f2 b hb).2⟩, by rw [Heap.size_push]; exact Nat.lt_succ_of_lt (hlt2 b hb)⟩
  have st3 : tn 0 (s2.heap.push { cls := .type "list", dict := none, data := .seq ([] : List Value).toArray }) := T.keep _ _ _ st2 fun b _ o eo => Heap.get?_push_of_some _ eo
  generalize hD : s2.heap.objs.size = D at *
  generalize hs3 : ({ s2 with heap := s2.heap.push { cls := .type "list", dict := none, data := .seq ([] : List Value).toArray } } : Shared) = s3 at *
  have eh : s2.heap.push { cls := .type "list", dict := none, data := .seq ([] : List Value).toArray } = s3.heap := by rw [← hs3]
  rw [eh] at hfp3 st3
  generalize upd H2 D (.lst []) = H3 at *
  refine wpAny_newFunctionEnv S.nocell (by intro y hy; simp at hy) (fun h4 hns4 hsb4 => ?_) S.kind
  have hk4 : ∀ b u, s3.heap.get? b = some u → h4.get? b = some u := fun b u eb => hsb4.extBut b u (Nat.ne_of_lt (Heap.lt_size eb)) (Heap.get?_push_of_some _ eb)
  have I4 := comp_inv (x := x) (M := M) (cl := cl) (scope := scope) (fp := fp) (t' := s3.toks + ([] : List (Str × Value)).length) (o := none) rfl I3 S hfp3 hns4 hk4
  have st4 : tn 0 h4 := T.keep _ _ _ st3 fun b _ o eo => hk4 b o eo
  have hcc : (compCx X scope cl x M fp pins s3 H3).calm = true := hc
  have stat : ∀ {H' : Hp}, (∀ b ∈ fp, H' b = none) → ∀ b ∈ fp, FpOk (compCx X scope cl x M fp pins s3 H3) [] H' b := fun {H'} hn b hb => by
    have f := (hfp3 b hb).1
    refine ⟨hn b hb, Nat.ne_of_lt (hfp3 b hb).2, fun hm => ?_, .inl hb, fun y c hy => f.2.2.2.2.1 y c (S.sub y c hy), fun p hp => ?_⟩
    · rcases List.mem_cons.mp (I3.stkSub b hm) with q | q
      · exact f.2.1 q
      · exact f.2.2.1 q
    · refine f.2.2.2.2.2 p ?_
      have z : p ∈ (X.pn ++ pins) ++ [] := hp
      rwa [List.append_nil] at z
  have back : ∀ {o : Option V} {H' : Hp} {s' : Shared}, Inv (compCx X scope cl x M fp pins s3 H3) [] (o :: σ) H' s' → Inv X pins σ H' s' ∧ (∃ m, s'.heap.Ns s3.heap.objs.size m) ∧ FpOk X pins H' s3.heap.objs.size := fun {o H' s'} I' => by
    refine ⟨I3.call' (ch := fp) I'.os I'.base I'.hok I'.bare fun b hb => ?_, ?_, I3.fpOk (Nat.le_refl _) I'.free⟩
    · have f := (hfp3 b hb).1
      exact ⟨f.2.2.2.1, f.2.1, f.2.2.2.2.1, f.2.2.2.2.2⟩
    · obtain ⟨m, hn, _⟩ := I'.loc
      exact ⟨m, hn⟩
  have loop : codeAny (model X.prog X.w) X.A (.compLoop (.ListComp elt [⟨.Name x px, iter, ifs, 0⟩] scope pos) 0 (.ref it) (.ref D) (compEnvC scope cl s3.heap.objs.size X.env)) (CQ X pins σ Q (.ref D) s3.heap.objs.size)
      { s3 with heap := h4, toks := s3.toks + ([] : List (Str × Value)).length } := by
    refine comp_loop (fun n s' => ∃ i o ys H', Inv (compCx X scope cl x M fp pins s3 H3) [] (o :: σ) H' s' ∧ tn i s'.heap ∧ (∀ b ∈ fp, H' b = none) ∧ W i n ys H') ?_ m0 ⟨0, none, [], H3, I4, st4, fun b hb => (hfp3 b hb).1.1, w0⟩
    rintro n s5 ⟨i, o, ys, H5, I5, st5, fr5, w5⟩
    rcases turn i n ys H5 w5 with ⟨stop, qn⟩ | ⟨go, step⟩
    · refine thn (T.done (compCx X scope cl x M fp pins s3 H3) rfl rfl rfl hcc i [] s5 (o :: σ) H5 _ I5 (stat fr5) st5 stop) fun r s6 ⟨hr, I6⟩ => ?_
      subst hr
      obtain ⟨b1, b2, b3⟩ := back I6
      exact ⟨D, H5, rfl, b1, qn, b2, b3⟩
    · refine thn (T.item (compCx X scope cl x M fp pins s3 H3) rfl rfl rfl hcc i [] s5 (o :: σ) H5 _ I5 (stat fr5) st5 go) fun r s6 ⟨u, hr, h6⟩ => ?_
      subst hr
      refine thn h6 fun _ s7 ⟨y, H7, I7, r7, y7, st7, fr7⟩ => ?_
      have I7' := I7.pinned (stat fr7) (T.obj _ _ st7)
      have hN0 : (compCx X scope cl x M fp pins s3 H3).N[0]? = some x := rfl
      have hloc : Loc (compCx X scope cl x M fp pins s3 H3).env.scope x := .inl (lookup_relabel_local S.hx)
      refine wpAny_assign_Name (store_ok I7' S.nd hN0 hloc r7 (fun s8 I8 => ?_) (.inr (lookup_relabel_local S.hx)))
      have I8' : Inv (compCx X scope cl x M fp pins s3 H3) ([] ++ pinsAt fp s7.heap) (some y :: σ) H7 s8 := I8
      have again : ∀ {H9 : Hp} {s9 : Shared} {ys' : List V} {m' : Nat}, m' < n → Inv (compCx X scope cl x M fp pins s3 H3) ([] ++ pinsAt fp s7.heap) (some y :: σ) H9 s9 → W (i + 1) m' ys' H9 →
          ∃ m, m < n ∧ ∃ i o ys H', Inv (compCx X scope cl x M fp pins s3 H3) [] (o :: σ) H' s9 ∧ tn i s9.heap ∧ (∀ b ∈ fp, H' b = none) ∧ W i m ys H' := fun {H9 s9 ys' m'} hm I9 w9 => by
        refine ⟨m', hm, i + 1, some y, ys', H9, I9.unpinned, T.keep _ _ _ st7 fun b hb oo eo => (I9.pin (b, oo) (List.mem_append_right _ (List.mem_append_right _ (mem_pinsAt hb eo)))).1, fun b hb => ?_, w9⟩
        obtain ⟨oo, eo, _⟩ := T.obj _ _ st7 b hb
        exact (I9.pin (b, oo) (List.mem_append_right _ (List.mem_append_right _ (mem_pinsAt hb eo)))).2.1
      refine thn (ht fp pins s3 H3 _ s8 (some y :: σ) H7 _ I8' (step y H7 y7)) fun ok s9 ⟨H9, I9, q9⟩ => ?_
      cases ok with
      | false =>
        rw [if_neg (by simp)] at q9 ⊢
        obtain ⟨m', hm, w9⟩ := q9
        exact again hm I9 w9
      | true =>
        rw [if_pos rfl] at q9 ⊢
        refine thn (he fp pins s3 H3 _ s9 (some y :: σ) H9 _ I9 q9) fun z s10 ⟨zv, H10, I10, r10, hd10, hz10, m', hm, w10⟩ => ?_
        refine thn (mt_append _ s10 (some y :: σ) H10 (.ref D) [zv] (.ref D) [z] (fun _ H' => ∃ m', m' < n ∧ W (i + 1) m' (ys ++ [zv]) H') I10 rfl (.cons r10 .nil) ⟨D, ys, zv, rfl, rfl, hd10, hz10, m', hm, w10⟩) fun _ s11 ⟨_, H11, I11, _, m2, hm2, w11⟩ => ?_
        exact again hm2 I11 w11
  exact codeAny_compStart_list loop (T.self _ 0 _ _ _ st4 loop)
theorem pe_comp (hc : X.calm = true) (hi : PI X (.Name x px) iter wi) (S : CSc X scope cl x M)
    (ht : ∀ fp pins s H, PTs (compCx X scope cl x M fp pins s H) ifs ti) (he : ∀ fp pins s H, PE (compCx X scope cl x M fp pins s H) elt te)
    (hs : ∀ x, foldedSetIterable iter X.env x = pure x := by intro _; rfl) : PE X (.ListComp elt [⟨.Name x px, iter, ifs, 0⟩] scope pos) (tComp wi ti te) := by
  intro pins s σ H Q I h
  rw [eval_ListComp]
  refine wpAny_comprehension_free (use := none) rfl hs S.clos S.kind S.names (wpAny_mono (comp_core (pos := pos) hc hi S ht he I h) (fun xv s1 h1 => wpAny_mono h1 (fun itv s2 h2 => wpAny_mono h2 (fun acc s3 h3 => wpAny_mono h3 (fun cenv s4 h4 => codeAny_mono h4 fun r s5 h5 => ?_) fun _ _ e => e) fun _ _ e => e) fun _ _ e => e) fun _ _ e => e)
  cases r with
  | error e => exact h5.elim
  | ok f =>
    obtain ⟨D, H', rfl, I5, q5, ⟨m, hn⟩, f5⟩ := h5
    refine ⟨m, hn, fun h' hsb => ⟨.ref D, H', ?_, rfl, q5⟩⟩
    exact I5.turned (t' := s5.toks) (fun b o hb eb => hsb.extBut b o hb eb) f5.1 f5.2.1 f5.2.2.2.1 f5.2.2.2.2.1 f5.2.2.2.2.2
theorem ps_setC {i : Nat} {y : Str} {py spos : Pos} (hN : X.N.Nodup) (hiy : X.N[i]? = some y) (hy : Loc X.env.scope y) (hc : X.calm = true) (hi : PI X (.Name x px) iter wi) (S : CSc X scope cl x M)
    (ht : ∀ fp pins s H, PTs (compCx X scope cl x M fp pins s H) ifs ti) (he : ∀ fp pins s H, PE (compCx X scope cl x M fp pins s H) elt te)
    (hsw : swapsWith (.ListComp elt [⟨.Name x px, iter, ifs, 0⟩] scope pos) (some (.Name y py)) spos.line X.env = pure true) (hs : ∀ x, foldedSetIterable iter X.env x = pure x := by intro _; rfl)
    (hf : X.fn y = true ∨ X.env.scope.names.lookup y = some .local := by first | exact .inl rfl | exact .inr rfl | assumption) :
    PS X (.Assign [.Name y py] (.ListComp elt [⟨.Name x px, iter, ifs, 0⟩] scope pos) spos) (tAsg (tComp wi ti te) (gName i)) := by
  intro pins s σ H D I h
  rw [exec_Assign_Name_used _ _ _ _ hsw]
  refine wpAny_bind (wpAny_standAt (wpAny_bind ?_))
  show wpAny _ X.A (do let _ ← comprehension (.ListComp elt [⟨.Name x px, iter, ifs, 0⟩] scope pos) scope X.env _ (newList []) false (eval iter X.env) (some (assign (.Name y py) X.env))) _ _ s
  refine wpAny_bind (wpAny_mono (wpAny_comprehension_free (use := some (assign (.Name y py) X.env)) (Q := fun _ s' => SP X pins D .next s') rfl hs S.clos S.kind S.names
    (wpAny_mono (comp_core (pos := pos) hc hi S ht he I h) (fun xv s1 h1 => wpAny_mono h1 (fun itv s2 h2 => wpAny_mono h2 (fun acc s3 h3 => wpAny_mono h3 (fun cenv s4 h4 => codeAny_mono h4 fun r s5 h5 => ?_) fun _ _ e => e) fun _ _ e => e) fun _ _ e => e) fun _ _ e => e)) (fun _ s' hq => wpAny_pure (wpAny_pure hq)) fun _ _ e => e)
  cases r with
  | error e => exact h5.elim
  | ok f =>
    obtain ⟨E, H', rfl, I5, q5, ⟨m, hn⟩, f5⟩ := h5
    refine wpAny_assign_Name (store_ok2 I5 hN hiy hy (v := .ref E) rfl (fun s6 I6 hsb => ?_) hf)
    obtain ⟨a, hsb, ha⟩ := hsb
    have hca : cenv.locals ≠ a := by
      rcases ha with ha | ha
      · rw [ha]; exact f5.2.1
      · exact fun z => f5.2.2.2.2.1 y a ha z.symm
    refine ⟨m, hn.sameBut hsb hca, fun h' hsb' => ⟨_, H', ?_, q5⟩⟩
    exact I6.turned (t' := s6.toks) (fun b o hb eb => hsb'.extBut b o hb eb) f5.1 f5.2.1 f5.2.2.2.1 f5.2.2.2.2.1 f5.2.2.2.2.2
end
noncomputable def clOf (env : Env) : List (Str × NameKind) → List (Str × Addr) → List (Str × Addr)
  | [], cs => cs
  | (n, k) :: r, cs => clOf env r (if k == .free then (n, (env.cells.lookup n).getD 0) :: cs else cs)
theorem closure_of {scope : Scope} {env : Env} (h : ∀ p ∈ scope.names, p.2 = .free → ∃ c, env.cells.lookup p.1 = some c) : closureFor scope env = pure (clOf env scope.names []) := by
  simp only [closureFor]
  suffices ∀ (l : List (Str × NameKind)) (cs : List (Str × Addr)), (∀ p ∈ l, p.2 = .free → ∃ c, env.cells.lookup p.1 = some c) →
      (forIn l cs fun x r => match x with
        | (name, kind) => if (kind == NameKind.free) = true then do let a ← cellOf env name; pure (ForInStep.yield ((name, a) :: r)) else pure (ForInStep.yield r)) = (pure (clOf env l cs) : Sem (List (Str × Addr))) by
    rw [this _ _ h]; rfl
  intro l
  induction l with
  | nil => intro cs _; rfl
  | cons p r ih =>
    obtain ⟨n, k⟩ := p
    intro cs hp
    rw [List.forIn_cons]
    by_cases hk : (k == NameKind.free) = true
    · have hk' : k = .free := by simpa using hk
      obtain ⟨c, hc⟩ := hp (n, k) (List.mem_cons_self ..) hk'
      simp only [hk, if_true, cellOf, hc]
      rw [clOf, if_pos hk, hc]
      exact ih _ fun q hq => hp q (List.mem_cons_of_mem _ hq)
    · simp only [hk, if_false]
      rw [clOf, if_neg hk]
      exact ih _ fun q hq => hp q (List.mem_cons_of_mem _ hq)
theorem clOf_sub {env : Env} : ∀ (l : List (Str × NameKind)) (cs : List (Str × Addr)), (∀ p ∈ l, p.2 = .free → ∃ c, env.cells.lookup p.1 = some c) → (∀ y c, cs.lookup y = some c → env.cells.lookup y = some c) →
    ∀ y c, (clOf env l cs).lookup y = some c → env.cells.lookup y = some c
  | [], cs, _, h, y, c, e => h y c e
  | (n, k) :: r, cs, hp, h, y, c, e => by
    rw [clOf] at e
    refine clOf_sub r _ (fun q hq => hp q (List.mem_cons_of_mem _ hq)) ?_ y c e
    intro z d hz
    by_cases hk : (k == NameKind.free) = true
    · rw [if_pos hk, List.lookup_cons] at hz
      have hk' : k = .free := by simpa using hk
      obtain ⟨c', hc'⟩ := hp (n, k) (List.mem_cons_self ..) hk'
      cases hzn : z == n with
      | true =>
        rw [hzn] at hz
        have : z = n := by simpa using hzn
        rw [this]
        simp only [hc', Option.getD_some, Option.some.injEq] at hz
        rw [hc', hz]
      | false => rw [hzn] at hz; exact h z d hz
    · rw [if_neg hk] at hz; exact h z d hz
theorem clOf_has {env : Env} {y : Str} : ∀ (l : List (Str × NameKind)) (cs : List (Str × Addr)), ((∃ c, cs.lookup y = some c) ∨ (y, NameKind.free) ∈ l) → ∃ c, (clOf env l cs).lookup y = some c
  | [], cs, h => by
    rcases h with h | h
    · exact h
    · simp at h
  | (n, k) :: r, cs, h => by
    rw [clOf]
    refine clOf_has r _ ?_
    rcases h with ⟨c, hc⟩ | h
    · left
      by_cases hk : (k == NameKind.free) = true
      · rw [if_pos hk, List.lookup_cons]
        cases y == n with
        | true => exact ⟨_, rfl⟩
        | false => exact ⟨c, hc⟩
      · rw [if_neg hk]; exact ⟨c, hc⟩
    · rcases List.mem_cons.mp h with e | e
      · cases e
        left
        rw [if_pos (beq_self_eq_true _), List.lookup_cons, beq_self_eq_true]
        exact ⟨_, rfl⟩
      · exact .inr e
theorem mem_of_lookup {l : List (Str × NameKind)} {y : Str} {k : NameKind} (h : l.lookup y = some k) : (y, k) ∈ l := by
  obtain ⟨l1, l2, e, _⟩ := List.lookup_eq_some_iff.mp h
  rw [e]; simp
noncomputable def cscB (scF scope : Scope) (x : Str) (N M : List Str) : Bool :=
  scope.names.all (fun p => p.2 != .cell) && scope.names.all (fun p => p.2 != .local || scope.names.lookup p.1 == some .local) && scope.names.lookup x == some .local &&
  scope.names.all (fun p => p.2 != .free || scF.names.lookup p.1 == some .cell) && M.length == N.length &&
  (N.zip M).all (fun p => match scope.names.lookup p.2 with | none => true | some .globalImplicit => true | some .free => p.1 == p.2 | _ => false)
theorem csc_of {CX : CXT} {P : Program} {w : World} {K : PySem.W.Frag} {mg : Str → Option Value} {base : Heap} {N : List Str} {qual : Str} {scF scope : Scope} {f : Addr} {cd : Value} {A : Around} {outer : List Env} {s : Shared} {H : Hp} {E : XK} {x : Str} {M : List Str}
    (hk : scope.kind = .function) (hb : cscB scF scope x N M = true) (hnd : (x :: M).Nodup) :
    CSc (cxOf CX P w K mg base N qual scF f cd A outer s H E).nox scope (clOf (envOfC qual scF s.heap.objs.size f cd) scope.names []) x M := by
  simp only [cscB, Bool.and_eq_true, List.all_eq_true, beq_iff_eq] at hb
  obtain ⟨⟨⟨⟨⟨h1, h2⟩, h3⟩, h4⟩, h5⟩, h6⟩ := hb
  have hcell : ∀ p ∈ scope.names, p.2 = .free → scF.names.lookup p.1 = some .cell := fun p hp hf => by
    have := h4 p hp
    rw [hf] at this
    simpa using this
  have hfc : ∀ p ∈ scope.names, p.2 = .free → ∃ c, (envOfC qual scF s.heap.objs.size f cd).cells.lookup p.1 = some c := fun p hp hf => cell_has (hcell p hp hf)
  refine ⟨hk, fun p hp => by simpa using h1 p hp, fun p hp hl => ?_, h3, closure_of hfc, clOf_sub _ _ hfc (fun _ _ e => by simp at e), fun y hy => clOf_has _ _ (.inr (mem_of_lookup hy)), fun y hy => .inl (hcell (y, .free) (mem_of_lookup hy) rfl), h5, hnd, fun i y hy => ?_⟩
  · have := h2 p hp
    rw [hl] at this
    simpa using this
  · obtain ⟨hi, hg⟩ := List.getElem?_eq_some_iff.mp hy
    have hiN : i < N.length := by omega
    have hz : (N[i], y) ∈ N.zip M := by
      have : (N.zip M)[i]? = some (N[i], y) := by
        rw [List.getElem?_zip_eq_some]
        exact ⟨List.getElem?_eq_getElem hiN, hy⟩
      exact List.mem_of_getElem? this
    have h := h6 _ hz
    simp only at h
    cases hq : scope.names.lookup y with
    | none => exact .inl rfl
    | some k =>
      rw [hq] at h
      cases k with
      | globalImplicit => exact .inr (.inl rfl)
      | free =>
        have e : N[i] = y := by simpa using h
        exact .inr (.inr ⟨rfl, by show N[i]? = some y; rw [List.getElem?_eq_getElem hiN, e]⟩)
      | _ => simp at h
theorem ix_listK {X : Cx} {K : PySem.W.Frag} (h : X.K = K) : IxR X (rIxL K) := by subst h; exact ix_list
theorem ix_tupK {X : Cx} {K : PySem.W.Frag} (h : X.K = K) : IxR X (rIxT K) := by subst h; exact ix_tup
theorem op_in_seqK {X : Cx} {K : PySem.W.Frag} (h : X.K = K) : OpR X (compareOp .In) (rIn K false) := by subst h; exact op_in_seq
theorem call_minL {X : Cx} (hc : X.calm = true) : CallR X (.builtin "min") (fun xs H Q => ∃ (l : Addr) (ns : List Int), xs = [.ref l] ∧ H l = some (.lst (ns.map V.int)) ∧ 0 < ns.length ∧ ∀ M, M ∈ ns → (∀ a ∈ ns, M ≤ a) → Q (.int M) H) := by
  intro pins s σ H xs us Q I r h
  obtain ⟨l, ns, rfl, hl, hne, q⟩ := h
  obtain ⟨u, rfl, ru⟩ := r.one
  cases (show u = Value.ref l from ru)
  obtain ⟨its, rv, p, _⟩ := I.list (SqL.of hl)
  have hi : IntsAre its ns := intsAre_of rv
  have hL := p.isList
  obtain ⟨zs, e⟩ := hi.allInts.items
  have hns : ns = zs.toList.map (·.1) := by
    rw [← hi.numsOf, ← nums_intItems, ← e]
  have hsz : 0 < zs.size := by
    have h3 := hne; rw [hns, List.length_map, Array.length_toList] at h3; exact h3
  rw [e] at hL
  refine min_intList (I.ok.hd hc) hL hsz fun v h' tk hv hk => ?_
  obtain ⟨t, rfl⟩ := intItems_at hv
  obtain ⟨h1, h2⟩ := argBest_lt (numAt zs) (zs.size - 1)
  refine ⟨.int _, H, I.kept hk, ⟨t, rfl⟩, q _ ?_ fun a ha => ?_⟩
  · rw [hns, numAt_eq]; exact getD_mem (by rw [List.length_map, Array.length_toList]; omega)
  · rw [hns] at ha
    obtain ⟨j, hj, rfl⟩ := mem_getD ha
    rw [List.length_map, Array.length_toList] at hj
    rw [← numAt_eq]; exact h2 j (by omega)
noncomputable def tCompIn (J : It) (D : Addr) (ti : TT) (te : TE) (σ : St) (Q : VK) (H1 : Hp) : Prop := ∃ W : Nat → Nat → List V → Hp → Prop, (∃ m, W 0 m [] (upd H1 D (.lst []))) ∧ ∀ i m ys H2, W i m ys H2 →
  (J.stop i H2 ∧ Q (.ref D) H2) ∨ (J.go i H2 ∧ ∀ x H3, J.yld i H2 x H3 → ti (some x :: σ) H3 fun b H4 =>
    if b = true then te (some x :: σ) H4 fun y H5 => H5 D = some (.lst ys) ∧ ys.length < sizeLine ∧ ∃ m', m' < m ∧ W (i + 1) m' (ys ++ [y]) (upd H5 D (.lst (ys ++ [y]))) else ∃ m', m' < m ∧ W (i + 1) m' ys H4)
section
variable {σ : St} {H : Hp} {Q : VK} {ti : TT} {te ta : TE} {tr : TA} {K : PySem.W.Frag}
theorem rd_compT : tComp (iTup K ta) ti te σ H Q = ta σ H fun x H1 => ∃ a, x = .ref a ∧ (∃ xs, SqT K H1 a xs) ∧ ∀ D, H1 D = none → tCompIn (Itt K a) D ti te σ Q H1 := rfl
theorem rd_compL : tComp (iList K ta) ti te σ H Q = ta σ H fun x H1 => ∃ a, x = .ref a ∧ (∃ xs, SqL K H1 a xs) ∧ ∀ D, H1 D = none → tCompIn (Itl K a) D ti te σ Q H1 := rfl
theorem rd_compR : tComp (iRng1 tr) ti te σ H Q = tr σ H fun vs H1 => ∃ j : Int, vs = [.int j] ∧ -(2 ^ 62) ≤ j ∧ j < 2 ^ 62 ∧ ∀ D, H1 D = none → tCompIn (Itr 0 j.toNat) D ti te σ Q H1 := rfl
theorem rd_tyes {R : Bool → Hp → Prop} : tYes σ H R = R true H := rfl
end
theorem comp_tup {K : PySem.W.Frag} {a D : Addr} {xs : List V} {ti : TT} {te : TE} {σ : St} {H1 : Hp} {Q : VK} (Pv : Nat → List V → Hp → Prop) (h0 : Pv 0 [] (upd H1 D (.lst []))) (hl : ∀ i ys H, i ≤ xs.length → Pv i ys H → SqT K H a xs)
    (hs : ∀ i x ys H, xs[i]? = some x → Pv i ys H → ti (some x :: σ) H fun b H4 => if b = true then te (some x :: σ) H4 fun y H5 => H5 D = some (.lst ys) ∧ ys.length < sizeLine ∧ ∃ m', m' < xs.length - i ∧ (m' = xs.length - (i + 1) ∧ i + 1 ≤ xs.length ∧ Pv (i + 1) (ys ++ [y]) (upd H5 D (.lst (ys ++ [y])))) else ∃ m', m' < xs.length - i ∧ (m' = xs.length - (i + 1) ∧ i + 1 ≤ xs.length ∧ Pv (i + 1) ys H4))
    (hd : ∀ ys H, Pv xs.length ys H → Q (.ref D) H) : tCompIn (Itt K a) D ti te σ Q H1 := by
  refine ⟨fun i m ys H => m = xs.length - i ∧ i ≤ xs.length ∧ Pv i ys H, ⟨xs.length, by simp, Nat.zero_le _, h0⟩, ?_⟩
  rintro i m ys H ⟨rfl, hi, p⟩
  have q := hl i ys H hi p
  by_cases hlt : i < xs.length
  · refine .inr ⟨⟨xs, xs[i], q, by simp [hlt]⟩, fun x H' y => ?_⟩
    obtain ⟨e, y⟩ := y
    subst e
    exact hs i x ys _ (y xs q) p
  · have e : i = xs.length := by omega
    subst e
    exact .inl ⟨⟨xs, q, Nat.le_refl _⟩, hd ys H p⟩
theorem comp_list {K : PySem.W.Frag} {a D : Addr} {xs : List V} {ti : TT} {te : TE} {σ : St} {H1 : Hp} {Q : VK} (Pv : Nat → List V → Hp → Prop) (h0 : Pv 0 [] (upd H1 D (.lst []))) (hl : ∀ i ys H, i ≤ xs.length → Pv i ys H → SqL K H a xs)
    (hs : ∀ i x ys H, xs[i]? = some x → Pv i ys H → ti (some x :: σ) H fun b H4 => if b = true then te (some x :: σ) H4 fun y H5 => H5 D = some (.lst ys) ∧ ys.length < sizeLine ∧ ∃ m', m' < xs.length - i ∧ (m' = xs.length - (i + 1) ∧ i + 1 ≤ xs.length ∧ Pv (i + 1) (ys ++ [y]) (upd H5 D (.lst (ys ++ [y])))) else ∃ m', m' < xs.length - i ∧ (m' = xs.length - (i + 1) ∧ i + 1 ≤ xs.length ∧ Pv (i + 1) ys H4))
    (hd : ∀ ys H, Pv xs.length ys H → Q (.ref D) H) : tCompIn (Itl K a) D ti te σ Q H1 := by
  refine ⟨fun i m ys H => m = xs.length - i ∧ i ≤ xs.length ∧ Pv i ys H, ⟨xs.length, by simp, Nat.zero_le _, h0⟩, ?_⟩
  rintro i m ys H ⟨rfl, hi, p⟩
  have q := hl i ys H hi p
  by_cases hlt : i < xs.length
  · refine .inr ⟨⟨xs, xs[i], q, by simp [hlt]⟩, fun x H' y => ?_⟩
    obtain ⟨e, y⟩ := y
    subst e
    exact hs i x ys _ (y xs q) p
  · have e : i = xs.length := by omega
    subst e
    exact .inl ⟨⟨xs, q, Nat.le_refl _⟩, hd ys H p⟩
theorem comp_range {n : Nat} {D : Addr} {ti : TT} {te : TE} {σ : St} {H1 : Hp} {Q : VK} (Pv : Nat → List V → Hp → Prop) (h0 : Pv 0 [] (upd H1 D (.lst [])))
    (hs : ∀ i ys H, i < n → Pv i ys H → ti (some (.int (0 + (i : Nat))) :: σ) H fun b H4 => if b = true then te (some (.int (0 + (i : Nat))) :: σ) H4 fun y H5 => H5 D = some (.lst ys) ∧ ys.length < sizeLine ∧ ∃ m', m' < n - i ∧ (m' = n - (i + 1) ∧ i + 1 ≤ n ∧ Pv (i + 1) (ys ++ [y]) (upd H5 D (.lst (ys ++ [y])))) else ∃ m', m' < n - i ∧ (m' = n - (i + 1) ∧ i + 1 ≤ n ∧ Pv (i + 1) ys H4))
    (hd : ∀ ys H, Pv n ys H → Q (.ref D) H) : tCompIn (Itr 0 n) D ti te σ Q H1 := by
  refine ⟨fun i m ys H => m = n - i ∧ i ≤ n ∧ Pv i ys H, ⟨n, by simp, Nat.zero_le _, h0⟩, ?_⟩
  rintro i m ys H ⟨rfl, hi, p⟩
  by_cases hlt : i < n
  · refine .inr ⟨hlt, fun x H' y => ?_⟩
    obtain ⟨e, rfl⟩ := y
    subst e
    exact hs i ys _ hlt p
  · have e : i = n := by omega
    subst e
    exact .inl ⟨Nat.le_refl _, hd ys H p⟩
end L2
end
section
set_option Elab.async false
set_option linter.all false
set_option maxRecDepth 100000
set_option maxHeartbeats 4000000
namespace L2
open PySem PySem.Spec PyProof.Rows
noncomputable def CodeO (c : Addr) (q : Str) : HO := .ext fun h => h.CodeRec (.ref c) q
theorem codeO_ok {P : Program} {w : World} {H : Hp} {h : Heap} {c : Addr} {q : Str} (r : h.CodeRec (.ref c) q) : ObjOk P w H h c (CodeO c q) := by
  refine ⟨r, ?_, ?_⟩
  · obtain ⟨c', o, vs, t, e, g, _⟩ := r; cases e; exact ⟨o, g⟩
  · rintro h1 h2 ⟨c', o, vs, t, e, g, d⟩ k
    cases e
    exact ⟨_, o, vs, t, rfl, k _ g, d⟩
theorem codeO_rec {P : Program} {w : World} {H : Hp} {h : Heap} {c : Addr} {q : Str} (ok : HOk P w H h) (e : H c = some (CodeO c q)) : h.CodeRec (.ref c) q := (ok c _ e).1
noncomputable def TabAt (H : Hp) (P : Addr) (pos : Pos) (q : Str) : Prop :=
  ∃ ps : Array Value, H P = some (.tbl ps) ∧ TriplesOk ps.toList ∧ (codeAmong pos ps.toList = none ∨ ∃ c, codeAmong pos ps.toList = some (.ref c) ∧ H c = some (CodeO c q))
theorem TabAt.same {H H' : Hp} {P : Addr} {pos : Pos} {q : Str} (t : TabAt H P pos q) (s : Same H H') : TabAt H' P pos q := by
  obtain ⟨ps, h1, h2, h3⟩ := t
  refine ⟨ps, s _ _ h1, h2, ?_⟩
  rcases h3 with h | ⟨c, e, h⟩
  · exact .inl h
  · exact .inr ⟨c, e, s _ _ h⟩
noncomputable def Bm (mg : Str → Option Value) (base : Heap) : Prop := ∃ bm ob, mg "__builtins__" = some (.ref bm) ∧ bm ≠ builtinsNs ∧ base.get? bm = some ob ∧ ob.cls = .type "module" ∧ ob.dict = some builtinsNs ∧ ob.data = .plain
section
variable {X : Cx} {pins : List (Addr × Obj)} {σ : St} {H : Hp} {s : Shared} {A : Around} {E : Value → Shared → Prop}
theorem clo_made {name qual : Str} {params : Arguments} {body : List Stmt} {scope : Scope} {clos : List (Str × Addr)} {c P : Addr} {pos : Pos} {fl : Nat} {Q : Value → Shared → Prop}
    (I : Inv X pins σ H s) (T : TabAt H P pos qual) (hcd : X.env.code = .ref c) (C : PySem.W.CodeHd X.base c P) (B : Bm X.mg X.base) (hcl : closureFor scope X.env = pure clos)
    (h : ∀ f c' doc ctv H' s', Inv X ((f, PySem.W.fnMade name qual params body scope clos doc ((X.mg "__name__").getD .none) c' ctv) :: pins) σ H' s' → H f = none → H' c' = some (CodeO c' qual) → TabAt H' P pos qual → (∀ b o, H b = some o → b ≠ P → H' b = some o) → Q (.ref f) s') :
    wpAny (model X.prog X.w) A (makeFunction name qual params (.stmts body) scope X.env [] [] [] pos fl) Q E s := by
  obtain ⟨ps, hP, ht, hc⟩ := T
  have hPo : s.heap.get? P = some (PySem.W.tabObj ps) := I.hok P _ hP
  have hPn : ∀ b o, X.base.get? b = some o → b ≠ P := fun b o e z => by
    have := (I.bs b o e).2
    rw [z, hP] at this; cases this
  have hg := I.mod.glob.keeps I.bk
  have hgP : mainGlobals ≠ P := by
    obtain ⟨o, es, ep, e, _⟩ := I.mod.glob
    exact hPn _ _ e
  obtain ⟨bm, ob, b1, b2, b3, b4, b5, b6⟩ := B
  have hbG : bm ≠ mainGlobals := fun q => by
    obtain ⟨o, es, ep, e, hd, _⟩ := I.mod.glob
    rw [q, e] at b3; cases b3; rw [hd] at b6; cases b6
  have hb : s.heap.BuiltinsAt X.mg P := ⟨bm, ob, b1, b2, hbG, hPn _ _ b3, I.bk _ _ b3, b4, b5, b6⟩
  have hPlt : P < s.heap.objs.size := Heap.lt_size hPo
  have fin : ∀ {f : Addr} {fo : Obj} {h2 : Heap} {H' : Hp} {tk : Nat}, Inv X pins σ H' { s with heap := h2, toks := tk } → h2.get? f = some fo → (∀ v, fo.data ≠ .cell v) → s.heap.objs.size ≤ f → H' f = none → Inv X ((f, fo) :: pins) σ H' { s with heap := h2, toks := tk } := by
    intro f fo h2 H' tk J hf hdd hge hn
    refine J.pins_of fun p hp => ?_
    rcases List.mem_cons.mp hp with e | hp
    · subst e
      exact ⟨hf, hn, Nat.ne_of_gt (Nat.lt_of_lt_of_le I.lt hge), I.nofs hge, hdd⟩
    · exact J.pin p (List.mem_append_right _ hp)
  rcases hc with hc | ⟨c', hc, hcO⟩
  · refine PySem.W.makeFunction_K (mg := X.mg) hcl I.ok.glob hg hcd (C.keeps I.bk) hPo ht hc hgP hb fun c' ctv doc h' tk hx hge hlt hrec htb => ?_
    have hcP : c' ≠ P := fun z => by rw [z] at hge; exact absurd (Nat.lt_of_lt_of_le hPlt hge) (Nat.lt_irrefl _)
    have hHc : H c' = none := I.hok.fresh hge
    have hsz : s.heap.objs.size ≤ h'.objs.size := Nat.le_trans hge (Nat.le_of_lt hlt)
    have hHf : H h'.objs.size = none := I.hok.fresh hsz
    have kp : ∀ b o, b ≠ P → s.heap.get? b = some o → (h'.push (PySem.W.fnMade name qual params body scope clos doc ((X.mg "__name__").getD .none) c' ctv)).get? b = some o := fun b o hb e => Heap.get?_push_of_some _ (hx b o hb e)
    have hne : ∀ b o, s.heap.get? b = some o → b ≠ c' := fun b o e z => by
      have := Heap.lt_size e
      rw [z] at this; exact absurd (Nat.lt_of_lt_of_le this hge) (Nat.lt_irrefl _)
    have hun : ∀ b, H b = none → b ≠ P := fun b e z => by rw [z, hP] at e; cases e
    have hkH : ∀ b o, H b = some o → b ≠ P → upd (upd H P (.tbl (ps ++ #[rawInt pos.line, rawInt pos.col, .ref c']))) c' (CodeO c' qual) b = some o := fun b o e hb => by
      rw [upd_ne (ne_of_none e hHc), upd_ne hb]; exact e
    have htb2 : (h'.push (PySem.W.fnMade name qual params body scope clos doc ((X.mg "__name__").getD .none) c' ctv)).get? P = some (PySem.W.tabObj (ps ++ #[rawInt pos.line, rawInt pos.col, .ref c'])) := Heap.get?_push_of_some _ htb
    have J : Inv X pins σ (upd (upd H P (.tbl (ps ++ #[rawInt pos.line, rawInt pos.col, .ref c']))) c' (CodeO c' qual)) { s with heap := h'.push (PySem.W.fnMade name qual params body scope clos doc ((X.mg "__name__").getD .none) c' ctv), toks := tk } := by
      refine I.step (ch := []) (g' := s.gens) (d' := s.drawn) (fun _ z => nomatch z) (fun b o _ _ _ e n => kp b o (hun b n) e) (fun b o _ _ _ e n => ⟨o.slots, kp b o (hun b n) e⟩)
        (fun b o _ e n => by rw [upd_ne (hne b o e), upd_ne (hun b n)]; exact n) (fun b o _ e => ?_) (fun b xs e => hkH b _ e (fun z => by rw [z, hP] at e; cases e)) (fun b o u e => hkH b _ e (fun z => by rw [z, hP] at e; cases e)) (fun b qs e => ?_) (fun m hn => ?_) (fun b u e => ?_) I.bare
      · by_cases hb : b = P
        · exact ⟨_, by rw [hb]; exact htb2⟩
        · exact ⟨o, kp b o hb e⟩
      · by_cases hb : b = P
        · subst hb
          rw [hP] at e; cases e
          exact ⟨#[rawInt pos.line, rawInt pos.col, .ref c'], by rw [upd_ne (Ne.symm hcP), upd_same]⟩
        · exact ⟨#[], by rw [hkH b _ e hb]; simp⟩
      · obtain ⟨o, es, ep, e, r⟩ := hn
        exact ⟨o, es, ep, kp _ o (hun _ I.free) e, r⟩
      · by_cases hbc : b = c'
        · subst hbc
          rw [upd_same] at e; cases e
          exact codeO_ok (hrec.push _)
        · rw [upd_ne hbc] at e
          by_cases hb : b = P
          · subst hb
            rw [upd_same] at e; cases e
            exact htb2
          · rw [upd_ne hb] at e
            refine (I.hok b u e).stay (fun b2 u2 hb2 q => kp b2 u2 ?_ q) (fun b2 q => hkH b2 _ q (fun z => by rw [z, hP] at q; cases q)) fun b2 xs q => hkH b2 _ q (fun z => by rw [z, hP] at q; cases q)
            rcases hb2 with z | z
            · rw [z]; exact hb
            · intro z2; rw [z2, hP] at z; cases z
    have hfP : h'.objs.size ≠ P := fun z => absurd (Nat.lt_of_lt_of_le hPlt hsz) (by rw [z]; exact Nat.lt_irrefl _)
    have hfc : h'.objs.size ≠ c' := Nat.ne_of_gt hlt
    refine h h'.objs.size c' doc ctv _ _ (fin J (Heap.get?_push_size _ rfl) (fun v e => by cases e) hsz (by rw [upd_ne hfc, upd_ne hfP]; exact hHf)) hHf upd_same ⟨_, (upd_ne (Ne.symm hcP)).trans upd_same, ?_, .inr ⟨c', ?_, upd_same⟩⟩ hkH
    · rw [Array.toList_append]; exact TriplesOk_snoc _ _ _ _ ht
    · rw [Array.toList_append]; exact codeAmong_snoc _ ht hc
  · refine PySem.W.makeFunction_hit (mg := X.mg) hcl I.ok.glob hg hcd (C.keeps I.bk) hPo ht hc hb fun ctv doc h' tk hk hsz => ?_
    have hHf : H h'.objs.size = none := I.hok.fresh hsz
    have J : Inv X pins σ H { s with heap := h'.push (PySem.W.fnMade name qual params body scope clos doc ((X.mg "__name__").getD .none) c' ctv), toks := tk } := I.kept (t' := tk) fun b o q => Heap.get?_push_of_some _ (hk b o q)
    exact h h'.objs.size c' doc ctv H _ (fin J (Heap.get?_push_size _ rfl) (fun v e => by cases e) hsz hHf) hHf hcO ⟨ps, hP, ht, .inr ⟨c', hc, hcO⟩⟩ fun b o e _ => e
theorem funFrames_to {h b1 b2 : Heap} : ∀ {l : List Env}, h.FunFrames b1 l → (∀ L ∈ frs l, b2.get? L = none) → h.FunFrames b2 l
  | [], _, _ => trivial
  | env :: r, ⟨k, ⟨L, o, e1, _, e3⟩, rest⟩, hb => ⟨k, ⟨L, o, e1, hb L (by unfold frs; rw [List.filterMap_cons, e1]; exact List.mem_cons_self ..), e3⟩, funFrames_to rest fun L hL => hb L (by
      unfold frs at hL ⊢
      rw [List.filterMap_cons, e1]; exact List.mem_cons_of_mem _ hL)⟩
theorem Inv.base1 (I : Inv X pins σ H s) (ex : List Addr) (hex : ∀ b ∈ ex, H b = none ∧ b ≠ X.env.locals ∧ b ∉ X.fs) :
    ∃ base' : Heap, (∀ b o, X.base.get? b = some o → base'.get? b = some o) ∧ (∀ b ∈ ex, ∀ o, s.heap.get? b = some o → base'.get? b = some o) ∧ Env0 X.prog X.w X.K X.mg base' X.A X.stack s H := by
  let l := (List.range s.heap.objs.size).filter fun b => (X.base.get? b).isNone && !(ex.contains b)
  have g1 : ∀ b o, s.heap.get? b = some o → (X.base.get? b ≠ none ∨ b ∈ ex) → (PySem.W.hideAll s.heap l).get? b = some o := fun b o e hb => PySem.W.hideAll_get l e fun hm => by
    have q := (List.mem_filter.mp hm).2
    rw [Bool.and_eq_true] at q
    rcases hb with hb | hb
    · cases z : X.base.get? b with
      | none => exact hb z
      | some o => rw [z] at q; exact absurd q.1 (by simp)
    · have := q.2
      rw [show ex.contains b = true from List.contains_iff_mem.mpr hb] at this
      cases this
  have g2 : ∀ b o, (PySem.W.hideAll s.heap l).get? b = some o → s.heap.get? b = some o ∧ (X.base.get? b ≠ none ∨ b ∈ ex) := fun b o e => by
    have e1 := PySem.W.of_hideAll l e
    refine ⟨e1, ?_⟩
    by_cases hb : b ∈ l
    · rw [PySem.W.hideAll_none l hb] at e; cases e
    · by_cases hx : b ∈ ex
      · exact .inr hx
      · refine .inl fun z => hb (List.mem_filter.mpr ⟨List.mem_range.mpr (Heap.lt_size e1), ?_⟩)
        rw [z, show ex.contains b = false from by rw [← Bool.not_eq_true]; intro c; exact hx (List.contains_iff_mem.mp c)]; rfl
  have up : ∀ b o, X.base.get? b = some o → (PySem.W.hideAll s.heap l).get? b = some o := fun b o e => g1 b o (I.bk b o e) (.inl (by rw [e]; simp))
  have M := I.ok.mod
  refine ⟨PySem.W.hideAll s.heap l, up, fun b hb o e => g1 b o e (.inr hb), ⟨I.ok.frames, ⟨M.kin.keeps up, M.glob.keeps up, let ⟨mb, h1, h2⟩ := M.blt; ⟨mb, h1.keeps up, h2⟩, M.nolimit.keeps up⟩, fun b o e => ?_, Nat.le_of_eq (PySem.W.hideAll_size _ _), ?_, I.stkFree, I.hok, I.bare⟩⟩
  · obtain ⟨e1, hb⟩ := g2 b o e
    refine ⟨e1, ?_⟩
    rcases hb with hb | hb
    · cases z : X.base.get? b with
      | none => exact absurd z hb
      | some o2 => exact (I.bs b o2 z).2
    · exact (hex b hb).1
  · refine funFrames_to I.stack fun L hL => ?_
    cases z : (PySem.W.hideAll s.heap l).get? L with
    | none => rfl
    | some o =>
      obtain ⟨e1, hb⟩ := g2 L o z
      rcases hb with hb | hb
      · exact absurd (I.stack.mem hL).1 hb
      · have q := hex L hb
        rcases List.mem_cons.mp (I.stkSub L hL) with e | e
        · exact absurd e q.2.1
        · exact absurd e q.2.2
end
end L2
end
section
set_option Elab.async false
set_option linter.all false
set_option maxRecDepth 100000
set_option maxHeartbeats 4000000
namespace L2
open PySem PySem.Spec PyProof.Rows
noncomputable def CapsAt (base : Heap) (clos : List (Str × Addr)) (vals : List (Str × V)) : Prop := ∀ x c, clos.lookup x = some c → ∃ u v, vals.lookup x = some v ∧ RelV v u ∧ base.IsCell c (some u)
noncomputable def cxClo (P : Program) (w : World) (K : PySem.W.Frag) (mg : Str → Option Value) (base : Heap) (N : List Str) (qual : Str) (scope : Scope) (f : Addr) (cd : Value) (clos : List (Str × Addr)) (A : Around) (outer : List Env) (s : Shared) (H : Hp) (E : XK) : Cx where
  prog := P
  w := w
  K := K
  mg := mg
  base := base
  A := A.deeper (PySem.W.envX qual scope s.heap.objs.size f cd clos)
  N := N
  s₀ := s
  H₀ := H
  env := PySem.W.envX qual scope s.heap.objs.size f cd clos
  outer := outer
  stack := PySem.W.envX qual scope s.heap.objs.size f cd clos :: outer
  ex := []
  calm := true
  fn := fun _ => false
  pn := []
  xe := fun e s' => wpAny (model P w) (A.deeper (PySem.W.envX qual scope s.heap.objs.size f cd clos)) (leaving (PySem.W.envX qual scope s.heap.objs.size f cd clos) e) (fun _ s'' => CX0 outer H s E e s'') (fun e' s'' => CX0 outer H s E e' s'') s'
structure CloScope (ps : List Str) (vals : List (Str × V)) (clos : List (Str × Addr)) (sc : Scope) : Prop where
  kind : sc.kind = .function
  co : sc.isCoroutine = false
  gen : sc.isGenerator = false
  nd : (ps ++ vals.map (·.1)).Nodup
  par : ∀ x ∈ ps, sc.names.lookup x = some .local
  nocell : ∀ y ∈ sc.names, y.2 ≠ .cell
  fr : ∀ x, sc.names.lookup x = some .free → ∃ c, clos.lookup x = some c
  inj : ∀ x y c, clos.lookup x = some c → clos.lookup y = some c → x = y
  vf : ∀ x v, (x, v) ∈ vals → sc.names.lookup x = some .free
theorem lookup_mem_nodup {α : Type} : ∀ {l : List (Str × α)} {x : Str} {v w : α}, (l.map (·.1)).Nodup → (x, v) ∈ l → l.lookup x = some w → v = w
  | (y, u) :: r, x, v, w, nd, hm, hl => by
    rw [List.map_cons, List.nodup_cons] at nd
    rw [List.lookup_cons] at hl
    rcases List.mem_cons.mp hm with e | hm2
    · cases e
      rw [beq_self_eq_true] at hl
      exact Option.some.inj hl
    · by_cases hx : x = y
      · subst hx
        exact absurd (List.mem_map_of_mem (f := (·.1)) hm2) nd.1
      · rw [beq_eq_false_iff_ne.mpr hx] at hl
        exact lookup_mem_nodup nd.2 hm2 hl
theorem zip_sub : ∀ (ps : List Str) (us : List Value), ((ps.zip us).map (·.1)).Sublist ps
  | [], _ => by simp
  | p :: ps, [] => by simp
  | p :: ps, u :: us => by
    rw [List.zip_cons_cons, List.map_cons]
    exact (zip_sub ps us).cons₂ p
theorem zip_lookup : ∀ {ps : List Str} {us : List Value} {i : Nat} {x : Str} {u : Value}, ps.Nodup → ps[i]? = some x → us[i]? = some u → (ps.zip us).reverse.lookup x = some u := by
  intro ps us i x u nd h1 h2
  have hm : (x, u) ∈ (ps.zip us).reverse := by
    rw [List.mem_reverse]
    exact List.mem_of_getElem? (i := i) (by rw [List.getElem?_zip_eq_some]; exact ⟨h1, h2⟩)
  have ndz : ((ps.zip us).reverse.map (·.1)).Nodup := by
    rw [List.map_reverse]
    refine ((List.reverse_perm _).nodup_iff).mpr ?_
    exact nd.sublist (zip_sub ps us)
  cases q : (ps.zip us).reverse.lookup x with
  | none =>
    exfalso
    have := List.lookup_eq_none_iff.mp q (x, u) hm
    simp at this
  | some w => rw [lookup_mem_nodup ndz hm q]
section
variable {P : Program} {w : World} {K : PySem.W.Frag} {mg : Str → Option Value} {base : Heap}
theorem fn_clo {k : Nat} {f c' : Addr} {name qual : Str} {params : Arguments} {body : List Stmt} {scope : Scope} {clos : List (Str × Addr)} {vals : List (Str × V)} {doc pm ctv : Value} {ps : List Str} {sp : Sp}
    (lk : base.get? f = some (PySem.W.fnMade name qual params body scope clos doc pm c' ctv)) (S : CloScope ps vals clos scope) (caps : CapsAt base clos vals) (hcap : ∀ x, (∃ c, clos.lookup x = some c) → scope.names.lookup x = some .free)
    (len : ∀ vs H Q E, sp vs H Q E → vs.length = ps.length) (hco : ∀ vs H Q E, sp vs H Q E → H c' = some (CodeO c' qual))
    (hbody : ∀ (A : Around) (outer : List Env) (s : Shared) (H : Hp) (vs : List V) (Q : VK) (E : XK), Room k (A.deeper (PySem.W.envX qual scope s.heap.objs.size f (.ref c') clos)) → sp vs H Q E →
      ∃ t, PSs (cxClo P w K mg base (ps ++ vals.map (·.1)) qual scope f (.ref c') clos A outer s H E).nox body t ∧ t { nx := fun _ H' => Q .non H', rt := Q } (vs.map some ++ vals.map fun p => some p.2) H) :
    FnOk P w K mg base CX0 (k + 1) f (PySem.W.fnX name qual params body scope clos .none .none doc pm none (.ref c') ctv) ps sp := by
  refine ⟨len, fun A outer s H args us vs Q E hr e0 hb r hsp => ?_⟩
  have hl := len _ _ _ _ hsp
  have lim : s.heap.NoLimit := e0.mod.nolimit.keeps fun b o e => (e0.bs b o e).1
  have hlu : us.length = ps.length := by rw [← r.length]; exact hl
  refine codeAny_call_function hr.depth (e0.bs _ _ lk).1 rfl S.co S.gen rfl (codeO_rec e0.hok (hco _ _ _ _ hsp)) (hb _ _ _ _ ?_)
  refine wpAny_newFunctionEnv S.nocell (fun y hy => S.par y.1 (List.of_mem_zip hy).1) (fun h' hns hsb => ?_) S.kind
  have hk : ∀ b o, s.heap.get? b = some o → h'.get? b = some o := fun b o e => hsb.extBut b o (Nat.ne_of_lt (Heap.lt_size e)) (Heap.get?_push_of_some _ e)
  refine ⟨lim.keeps hk, codeAny_func ?_⟩
  obtain ⟨t, ht, hq⟩ := hbody A outer s H vs Q E (hr.deeper _) hsp
  have ndP : ps.Nodup := S.nd.sublist (List.sublist_append_left _ _)
  have hcell : ∀ x c, clos.lookup x = some c → ∃ u v, vals.lookup x = some v ∧ RelV v u ∧ h'.IsCell c (some u) ∧ H c = none ∧ c < s.heap.objs.size := fun x c e => by
    obtain ⟨u, v, h1, h2, o, h3, h4⟩ := caps x c e
    exact ⟨u, v, h1, h2, ⟨o, hk _ _ (e0.bs _ _ h3).1, h4⟩, (e0.bs _ _ h3).2, Heap.lt_size (e0.bs _ _ h3).1⟩
  have I : Inv (cxClo P w K mg base (ps ++ vals.map (·.1)) qual scope f (.ref c') clos A outer s H E) [] (vs.map some ++ vals.map fun p => some p.2) H { s with heap := h', toks := s.toks + (ps.zip us).length } := by
    have noA : ∀ b : Addr, b ∉ (cxClo P w K mg base (ps ++ vals.map (·.1)) qual scope f (.ref c') clos A outer s H E).ex := fun b z => absurd (show b ∈ ([] : List Addr) from z) (by simp)
    refine ⟨⟨e0.mod, S.kind, rfl, rfl, Nat.le_refl _, S.inj, fun y hy => ?_, fun y c z _ => absurd (show false = true from z) (by simp), fun _ => hr.hd, Around.frames_deeper e0.frames, .inr ⟨rfl, rfl⟩, fun b z => absurd z (noA b), e0.bs, e0.bsz, fun b _ _ => noA b, fun b z => absurd z (noA b), e0.funs, e0.frf⟩,
      rfl, e0.bare, Un.kept hk, ⟨_, hns, fun i y v h1 h2 h3 => ?_⟩, fun y c h => ?_, e0.hok.fresh (Nat.le_refl _), fun y c h => ?_, fun p hp => absurd (show p ∈ ([] : List (Addr × Obj)) from hp) (by simp), e0.hok.kept hk, ?_⟩
    · have hy : scope.names.lookup y = some .cell ∨ scope.names.lookup y = some .free := hy
      rcases hy with hy | hy
      · exact absurd rfl (S.nocell _ (PySem.mem_of_lookup hy))
      · exact S.fr y hy
    · have h1 : (ps ++ vals.map (·.1))[i]? = some y := h1
      by_cases hi : i < ps.length
      · rw [List.getElem?_append_left hi] at h1
        rw [List.getElem?_append_left (by rw [List.length_map]; omega), List.getElem?_map] at h2
        cases e : vs[i]? with
        | none => rw [e] at h2; cases h2
        | some a =>
          rw [e] at h2
          cases h2
          obtain ⟨u, hu, rv⟩ := r.get e
          exact ⟨u, rv, .inl ⟨S.par y (List.mem_of_getElem? h1), zip_lookup ndP h1 hu⟩⟩
      · rw [List.getElem?_append_right (by omega), List.getElem?_map] at h1
        rw [List.getElem?_append_right (by rw [List.length_map]; omega), List.getElem?_map, List.length_map, hl] at h2
        cases e : vals[i - ps.length]? with
        | none => rw [e] at h1; cases h1
        | some q =>
          rw [e] at h1 h2
          cases h1; cases h2
          have hm := List.mem_of_getElem? e
          have hf := S.vf q.1 q.2 hm
          obtain ⟨c, hc⟩ := S.fr q.1 hf
          obtain ⟨u, v, g1, g2, g3, _⟩ := hcell q.1 c hc
          have ev := lookup_mem_nodup (l := vals) (S.nd.sublist (List.sublist_append_right _ _)) hm g1
          rw [← ev] at g2
          exact ⟨u, g2, .inr ⟨.inr hf, c, hc, g3⟩⟩
    · obtain ⟨u, v, _, _, g3, _⟩ := hcell y c h
      exact ⟨_, g3⟩
    · obtain ⟨u, v, _, _, _, g4, _⟩ := hcell y c h
      exact g4
    · show (vs.map some ++ vals.map fun p => some p.2).length = (ps ++ vals.map (·.1)).length
      rw [List.length_append, List.length_append, List.length_map, List.length_map, List.length_map, hl]
  refine wpAny_mono (ht.nox [] _ (vs.map some ++ vals.map fun p => some p.2) H _ I hq) (fun fl s' hs => ?_) fun e s' hs => hs
  have fin : ∀ {σ' : St} {H' : Hp} {v : V} {u : Value}, Inv (cxClo P w K mg base (ps ++ vals.map (·.1)) qual scope f (.ref c') clos A outer s H E) [] σ' H' s' → RelV v u → Q v H' → CE outer P w H s Q u s' :=
    fun {σ' H' v u} J rv q => ⟨v, H', J.os, J.bare, J.base, J.hok, rv, q⟩
  cases fl with
  | ret u =>
    obtain ⟨v, σ', H', J, rv, q⟩ := hs
    exact fin J rv q
  | next =>
    obtain ⟨σ', H', J, q⟩ := hs
    exact fin (v := V.non) (u := Value.none) J rfl q
  | brk =>
    obtain ⟨_, _, _, q⟩ := hs
    exact False.elim q
  | cont =>
    obtain ⟨_, _, _, q⟩ := hs
    exact False.elim q
end
theorem pe_callClo {X : Cx} {k : Nat} {f c' : Addr} {name qual : Str} {params : Arguments} {body : List Stmt} {scope : Scope} {clos : List (Str × Addr)} {doc pm ctv : Value} {ps : List Str} {sp : Sp} {x : Str} {p pos : Pos} {e : Expr} {es : List Expr} {t : TA} {i : Nat}
    (lk : X.base.get? f = some (PySem.W.fnMade name qual params body scope clos doc pm c' ctv)) (F : FnOk X.prog X.w X.K X.mg X.base CX0 k f (PySem.W.fnX name qual params body scope clos .none .none doc pm none (.ref c') ctv) ps sp) (hr : Room k X.A) (hn : PE X (.Name x p) (tVar i))
    (hb : Binds X.K (PySem.W.fnX name qual params body scope clos .none .none doc pm none (.ref c') ctv) ps []) (ha : PA X (e :: es) t)
    (he : starEach (e :: es) X.env = (false, eval e X.env) :: starEach es X.env := by rfl) (hpl : (backTo pos (starEach es X.env)).any (·.1) = false := by rfl) :
    PE X (.Call (.Name x p) (e :: es) [] pos) (tCallL i f sp [] E0 t) := by
  intro pins s σ H Q I h
  refine wpAny_Call_Name_kw (thn (hn pins s σ H (fun v H1 => v = .ref f ∧ t σ H1 fun vs H2 => sp (vs ++ []) H2 Q E0) I ⟨_, h.1, rfl, h.2⟩) fun u s0 ⟨v, H0, I0, r0, e0, h0⟩ => ?_)
  subst e0
  cases (show u = Value.ref f from r0)
  have fa : ∀ {s' : Shared} {H' : Hp}, Inv X pins σ H' s' → PySem.W.FnAt f s'.heap := fun J => ⟨_, _, _, _, J.bk _ _ lk⟩
  refine PySem.W.callWith_F (fa I0) (thn (ha pos pins s0 σ H0 _ I0 h0) fun us s1 ⟨vs, H1, I1, r, q⟩ => ⟨fa I1, ?_⟩) he hpl
  exact run_fn F hr hb .nil pass0 I1 r q
noncomputable def tCloF (X : Cx) (P : Addr) (pos : Pos) (name qual : Str) (params : Arguments) (body : List Stmt) (scope : Scope) (clos : List (Str × Addr)) (ia : Nat) (k : Nat) (fF : Addr) : TS := fun D σ H =>
  TabAt H P pos qual ∧ ∃ (v : V) (vals : List (Str × V)), σ[ia]? = some (some v) ∧ (∀ x c, clos.lookup x = some c → ∃ (i : Nat) (u : V), vals.lookup x = some u ∧ X.N[i]? = some x ∧ σ[i]? = some (some u)) ∧
    ∀ f c' doc ctv H1 base', (∀ b o, H b = some o → b ≠ P → H1 b = some o) → TabAt H1 P pos qual → H f = none → H1 c' = some (CodeO c' qual) → (∀ b o, X.base.get? b = some o → base'.get? b = some o) →
      base'.get? f = some (PySem.W.fnMade name qual params body scope clos doc ((X.mg "__name__").getD .none) c' ctv) → CapsAt base' clos vals →
      ∃ fdF psF sp, FnOk X.prog X.w X.K X.mg base' CX0 k fF fdF psF sp ∧ Binds X.K fdF psF [] ∧ sp [v, .ref f] H1 D.rt E0
theorem pss_clo {X : Cx} {k i ia : Nat} {fF c P : Addr} {name qual xF xa : Str} {params : Arguments} {body : List Stmt} {scope : Scope} {clos : List (Str × Addr)} {pos pF pa pn pc pr : Pos}
    (hx : ∀ e s', False → X.xe e s') (hN : X.N.Nodup) (hcd : X.env.code = .ref c) (C : PySem.W.CodeHd X.base c P) (B : Bm X.mg X.base) (hcl : closureFor scope X.env = pure clos) (hq : qualnameIn X.env name name = qual)
    (hd0 : params.defaults = []) (hk0 : params.kw_defaults = []) (han : annTrees params none X.env = []) (hi : X.N[i]? = some name) (hloc : X.env.scope.names.lookup name = some .local)
    (hfn : ∀ x, X.fn x = true) (hcells : ∀ x c, clos.lookup x = some c → X.env.cells.lookup x = some c ∧ Vis X.env.scope x ∧ X.env.scope.names.lookup x = some .cell) (hni : ∀ x c, clos.lookup x = some c → x ≠ name) (hia : ia ≠ i)
    (hr : Room k X.A) (hg : Gl X xF) (hm : X.mg xF = some (.ref fF)) (hkp : PySem.W.keepIn X.K (.ref fF) = true) (pna : PE X (.Name xa pa) (tVar ia)) (pni : PE X (.Name name pn) (tVar i))
    (hdb : (xF == ("__debug__" : Str)) = false := by decide) (he : starEach [.Name xa pa, .Name name pn] X.env = (false, eval (.Name xa pa) X.env) :: starEach [.Name name pn] X.env := by rfl) (hpl : (backTo pc (starEach [.Name name pn] X.env)).any (·.1) = false := by rfl)
    (he2 : starEach [.Name name pn] X.env = (false, eval (.Name name pn) X.env) :: starEach [] X.env := by rfl) :
    PSs X [.FunctionDef name params body [] none [] scope none name pos, .Return (some (.Call (.Name xF pF) [.Name xa pa, .Name name pn] [] pc)) pr] (tCloF X P pos name qual params body scope clos ia k fF) := by
  intro pins s σ H D I h
  obtain ⟨T, v, vals, hv, hvals, hgo⟩ := h
  refine wpAny_execs_cons ?_
  refine PySem.W.nestDef_K hd0 hk0 han ?_
  rw [hq]
  refine clo_made I T hcd C B hcl fun f c' doc ctv H1 s1 I1 hf hc' T1 hup => ?_
  refine store_ok (v := .ref f) I1 hN hi (.inl hloc) rfl (fun s2 I2 => ?_) (.inr hloc)
  refine wpAny_execs_cons ?_
  refine thn (Q := fun fl s' => SP X pins D fl s' ∧ ∃ u, fl = .ret u) ?_ fun fl s' q => ?_
  · refine wpAny_Return_some ?_
    refine wpAny_Call_Name_kw (ld_glob I2 hg hm ?_ hdb)
    have hv2 : (σ.set i (some (.ref f)))[ia]? = some (some v) := by rw [List.getElem?_set_ne (Ne.symm hia)]; exact hv
    have hilt : i < σ.length := by rw [I.len]; exact (List.getElem?_eq_some_iff.mp hi).1
    have hf2 : (σ.set i (some (.ref f)))[i]? = some (some (.ref f)) := List.getElem?_set_self hilt
    have PAx : PA X [.Name xa pa, .Name name pn] (tCons (tVar ia) (tCons (tVar i) tNil)) := pa_cons pna (pa_cons pni pa_nil he2) he
    refine PySem.W.callWith_K (h₀ := X.base) I2.ok.mod.kin hkp (thn (PAx pc _ s2 (σ.set i (some (.ref f))) H1 (fun us H2 => us = [v, .ref f] ∧ H2 = H1) I2 ⟨_, hv2, _, hf2, rfl, rfl⟩) fun us s3 ⟨vs, H2, I3, r, q⟩ => ⟨I3.kIn, ?_⟩) he hpl
    obtain ⟨rfl, rfl⟩ := q
    have pf := I3.pin (f, PySem.W.fnMade name qual params body scope clos doc ((X.mg "__name__").getD .none) c' ctv) (List.mem_append_right _ (List.mem_cons_self ..))
    have hcl2 : ∀ x c, clos.lookup x = some c → H2 c = none ∧ c ≠ X.env.locals ∧ c ∉ X.fs := fun x c e => by
      obtain ⟨e1, _⟩ := hcells x c e
      refine ⟨I3.freeC x c e1, I3.cne x c e1, fun hb => ?_⟩
      obtain ⟨_, o, ho, _⟩ := I3.ok.funs.mem hb
      exact absurd (Nat.lt_of_lt_of_le (Heap.lt_size ho) (I3.ok.cab x c (hfn x) e1)) (Nat.lt_irrefl _)
    obtain ⟨base', up, inn, env⟩ := I3.base1 (f :: (clos.filter fun p => decide (clos.lookup p.1 = some p.2)).map (·.2)) fun b hb => by
      rcases List.mem_cons.mp hb with e | hb
      · rw [e]; exact ⟨pf.2.1, pf.2.2.1, pf.2.2.2.1⟩
      · obtain ⟨p, hp, rfl⟩ := List.mem_map.mp hb
        exact hcl2 p.1 p.2 (of_decide_eq_true (List.mem_filter.mp hp).2)
    have hcaps : CapsAt base' clos vals := fun x c e => by
      obtain ⟨e1, hvis, hkind⟩ := hcells x c e
      obtain ⟨j, u, g1, g2, g3⟩ := hvals x c e
      have hji : j ≠ i := fun z => by
        rw [z, hi] at g2
        exact hni x c e (Option.some.inj g2).symm
      obtain ⟨m, _, hl⟩ := I3.loc
      obtain ⟨w', rw', lk⟩ := hl j x u g2 (by rw [List.getElem?_set_ne (Ne.symm hji)]; exact g3) hvis
      rcases lk with ⟨z, _⟩ | ⟨_, c2, e2, o, ho, hd⟩
      · have z2 : X.env.scope.names.lookup x = some .local := z
        rw [hkind] at z2; cases z2
      · rw [e1] at e2
        cases e2
        have hmem : c ∈ (clos.filter fun p => decide (clos.lookup p.1 = some p.2)).map (·.2) := List.mem_map.mpr ⟨(x, c), List.mem_filter.mpr ⟨PySem.mem_of_lookup e, decide_eq_true e⟩, rfl⟩
        exact ⟨w', u, g1, rw', o, inn c (List.mem_cons_of_mem _ hmem) o ho, hd⟩
    obtain ⟨fdF, psF, sp, F, hb, hsp⟩ := hgo f c' doc ctv H2 base' hup T1 hf hc' up (inn f (List.mem_cons_self ..) _ pf.1) hcaps
    have hlen : us.length = psF.length := by rw [← r.length]; exact F.len _ _ _ _ hsp
    have hb2 := hb s3 us I3.kIn (by rw [List.append_nil]; exact hlen)
    rw [List.append_nil] at hb2
    refine wpAny_call (codeAny_mono (F.run X.A X.stack s3 H2 ⟨us, []⟩ us [v, .ref f] D.rt E0 hr env hb2 r hsp) fun r' s' hq' => ?_)
    cases r' with
    | error e => exact hx e s' hq'
    | ok fl =>
      cases fl with
      | ret u =>
        obtain ⟨v', H', J, rv, q⟩ := I3.after hq'
        exact ⟨⟨v', _, H', J.pins_of fun p hp => J.pin p (List.mem_append_right _ (List.mem_cons_of_mem _ hp)), rv, q⟩, u, rfl⟩
      | next => exact False.elim hq'
      | brk => exact False.elim hq'
      | cont => exact False.elim hq'
  · obtain ⟨q, u, rfl⟩ := q
    exact q
end L2
end
section
set_option Elab.async false
set_option linter.all false
set_option maxRecDepth 100000
set_option maxHeartbeats 4000000
namespace L2
open PySem PySem.Spec PyProof.Rows
theorem law_callT {P : Program} {w : World} {K : PySem.W.Frag} {mg mb : Str → Option Value} {CX : CXT} {k : Nat} {fa a : Addr} {fd : FuncData} {x : Str} {sp : Sp} {s₁ : Shared} {vs : List Value} {ns : List Int} {tabs : List (Addr × Addr)}
    (KX : K.In s₁.heap) (hns : s₁.heap.Ns mainGlobals mg) (hb : s₁.heap.Ns builtinsNs mb) (hbb : ∀ x : Str, x ≠ "__name__" → mb x = bootBuiltins x) (hlim : s₁.heap.NoLimit) (hg : s₁.gens = #[])
    (hbm : Bm mg s₁.heap) (hT : PySem.W.TabsAt tabs s₁.heap) (hK : PySem.W.noTabs K = true)
    (ha : s₁.heap.get? a = some { cls := .type "list", data := .seq vs.toArray }) (hi : IntsAre vs ns) (hl : ns.length ≤ sizeLine) (hr : Room k callerA)
    (F : ∀ base : Heap, K.In base → base.Ns mainGlobals mg → Bm mg base → FnOk P w K mg base CX k fa fd [x] sp) (hbind : ∀ (s : Shared) (u : Value), BindsTo s fd ⟨[u], []⟩ [(x, u)])
    (hsp : ∀ H : Hp, (∀ q ∈ tabs, H q.2 = some (.tbl #[])) → SqL K H a (ns.map V.int) → sp [.ref a] H (fun v _ => v = .bl true) fun _ _ _ => False)
    (hCX : ∀ H e s', CX [] H s₁ (fun _ _ _ => False) e s' → False) :
    codeAny (model P w) callerA (.call (.ref fa) ⟨[.ref a], []⟩) (fun r s' => r = .ok (.ret (.bool true)) ∧ OldK s₁.heap s'.heap ∧ s'.os = s₁.os ∧ AllBare s'.gens) s₁ := by
  have rv := vals_ints hi
  have lenV := hi.length
  have hTa : ∀ q ∈ tabs, q.2 ≠ a := fun q hq z => by
    have := (hT q hq).2
    rw [z, ha] at this; cases this
  have hTK : ∀ q ∈ tabs, K.lookup q.2 = none := fun q hq => by
    cases e : K.lookup q.2 with
    | none => rfl
    | some o =>
      have h2 := KX _ _ e
      rw [(hT q hq).2] at h2
      cases h2
      have h3 := List.all_eq_true.mp hK (q.2, _) (PySem.W.mem_of_lookupK e)
      exact absurd (show false = true from h3) Bool.false_ne_true
  have core : ∀ H : Hp, (∀ q ∈ tabs, H q.2 = some (.tbl #[])) → SqL K H a (ns.map V.int) → HOk P w H s₁.heap → (∀ b u, H b = some u → (b = a ∧ ∃ ob xs, u = .frz ob (.lst xs)) ∨ ((∃ q ∈ tabs, q.2 = b) ∧ u = .tbl #[])) → (H a ≠ none → K.lookup a = none) →
      codeAny (model P w) callerA (.call (.ref fa) ⟨[.ref a], []⟩) (fun r s' => r = .ok (.ret (.bool true)) ∧ OldK s₁.heap s'.heap ∧ s'.os = s₁.os ∧ AllBare s'.gens) s₁ := by
    intro H hO hS hok hA hKa
    have base_of : ∀ {b : Addr} {o : Obj}, s₁.heap.get? b = some o → H b = none → (hidT s₁.heap H).get? b = some o := fun e n => hidT_get e n
    have nul : ∀ {b : Addr} {o : Obj}, s₁.heap.get? b = some o → (∀ its n, o.data ≠ .seq its n) → (∀ vs, o.data ≠ .fields vs) → H b = none := fun {b o} e d1 d2 => by
      cases q : H b with
      | none => rfl
      | some u =>
        rcases hA b u q with ⟨e', _⟩ | ⟨⟨p, hp, e'⟩, _⟩
        · subst e'
          rw [ha] at e; cases e
          exact absurd rfl (d1 _ _)
        · subst e'
          rw [(hT p hp).2] at e; cases e
          exact absurd rfl (d2 _)
    have nsK : ∀ {b : Addr} {m : Str → Option Value}, s₁.heap.Ns b m → (hidT s₁.heap H).Ns b m := fun {b m} ⟨o, es, ep, e, d, r⟩ => ⟨o, es, ep, base_of e (nul e (fun _ _ z => by rw [d] at z; cases z) (fun _ z => by rw [d] at z; cases z)), d, r⟩
    have hKb : K.In (hidT s₁.heap H) := fun b o e => base_of (KX b o e) (by
      cases q : H b with
      | none => rfl
      | some u =>
        rcases hA b u q with ⟨e', _⟩ | ⟨⟨p, hp, e'⟩, _⟩
        · subst e'
          rw [hKa (by rw [q]; simp)] at e; cases e
        · subst e'
          rw [hTK p hp] at e; cases e)
    have hBm : Bm mg (hidT s₁.heap H) := by
      obtain ⟨bm, ob, b1, b2, b3, b4, b5, b6⟩ := hbm
      exact ⟨bm, ob, b1, b2, base_of b3 (nul b3 (fun _ _ z => by rw [b6] at z; cases z) (fun _ z => by rw [b6] at z; cases z)), b4, b5, b6⟩
    have hM : Mod K mg (hidT s₁.heap H) := ⟨hKb, nsK hns, ⟨mb, nsK hb, hbb⟩, let ⟨mc, h1, h2⟩ := hlim; ⟨mc, nsK h1, h2⟩⟩
    have e0 : Env0 P w K mg (hidT s₁.heap H) callerA [] s₁ H := ⟨rfl, hM, fun b o e => of_hidT e, Nat.le_of_eq (hidT_size _ _), trivial, fun b hb => absurd (show b ∈ ([] : List Addr) from hb) (by simp), hok, .of_eq hg⟩
    refine codeAny_mono ((F _ hKb (nsK hns) hBm).run callerA [] s₁ H ⟨[.ref a], []⟩ [.ref a] [.ref a] _ _ hr e0 (hbind s₁ (.ref a)) (.cons rfl .nil) (hsp H hO hS)) fun r s' h => ?_
    cases r with
    | error e => exact (hCX H e s' h).elim
    | ok fl =>
      cases fl with
      | next => exact False.elim h
      | brk => exact False.elim h
      | cont => exact False.elim h
      | ret u =>
        obtain ⟨v, H', os, bare, un, hok', r', q⟩ := h
        have q' : v = .bl true := q
        subst q'
        obtain rfl : u = Value.bool true := r'
        refine ⟨rfl, ⟨fun b o e => ?_, fun b o e => un.there b o e (by simp)⟩, os, bare⟩
        cases q : H b with
        | none => exact .inl (un.keep b o e q (by intro z; exact absurd (show b ∈ ([] : List Addr) from z) (by simp)) (by simp))
        | some u =>
          rcases hA b u q with ⟨_, ob, xs, rfl⟩ | ⟨⟨p, hp, rfl⟩, rfl⟩
          · have z2 := un.frzs b ob _ q
            obtain ⟨e1, _⟩ := hok b _ q
            obtain ⟨e2, _⟩ := hok' b _ z2
            rw [e] at e1; cases e1
            exact .inl e2
          · obtain ⟨more, z2⟩ := un.tbls _ _ q
            have e2 : s'.heap.get? p.2 = some { cls := .none, data := .fields (#[] ++ more) } := hok' _ _ z2
            rw [(hT p hp).2] at e; cases e
            exact .inr (.inl ⟨((hT p hp).1.tab (hT p hp).2).isCodeTable, rfl, #[], more, rfl, e2⟩)
  cases hk : K.lookup a with
  | some o =>
    have e := KX a o hk
    rw [ha] at e
    cases e
    refine core (fun b => if b ∈ tabs.map (·.2) then some (.tbl #[]) else none) (fun q hq => if_pos (List.mem_map_of_mem (f := (·.2)) hq)) (.inr ⟨_, vs.toArray, _, hk, rfl, rfl, rfl, by rw [List.size_toArray, lenV]; exact hl, by simpa using rv⟩) (fun b u z => ?_) (fun b u z => ?_) fun z => ?_
    · by_cases hb : b ∈ tabs.map (·.2)
      · have z' := (if_pos hb).symm.trans z
        cases z'
        obtain ⟨q, hq, rfl⟩ := List.mem_map.mp hb
        exact (hT q hq).2
      · have z' := (if_neg hb).symm.trans z
        cases z'
    · by_cases hb : b ∈ tabs.map (·.2)
      · have z' := (if_pos hb).symm.trans z
        cases z'
        obtain ⟨q, hq, rfl⟩ := List.mem_map.mp hb
        exact .inr ⟨⟨q, hq, rfl⟩, rfl⟩
      · have z' := (if_neg hb).symm.trans z
        cases z'
    · by_cases hb : a ∈ tabs.map (·.2)
      · obtain ⟨q, hq, e⟩ := List.mem_map.mp hb
        exact absurd e (hTa q hq)
      · exact absurd (if_neg hb) z
  | none =>
    refine core (fun b => if b = a then some (.frz { cls := .type "list", data := .seq vs.toArray } (.lst (ns.map V.int))) else if b ∈ tabs.map (·.2) then some (.tbl #[]) else none) (fun q hq => by rw [if_neg (hTa q hq)]; exact if_pos (List.mem_map_of_mem (f := (·.2)) hq)) (.inl (.inr ⟨{ cls := .type "list", data := .seq vs.toArray }, if_pos rfl⟩)) (fun b u z => ?_) (fun b u z => ?_) fun _ => hk
    · by_cases hb : b = a
      · have z' := (if_pos hb).symm.trans z
        cases z'
        subst hb
        exact ⟨ha, by rw [List.length_map]; exact hl, vs, _, rv, ha⟩
      · have z := (if_neg hb).symm.trans z
        by_cases hb2 : b ∈ tabs.map (·.2)
        · have z' := (if_pos hb2).symm.trans z
          cases z'
          obtain ⟨q, hq, rfl⟩ := List.mem_map.mp hb2
          exact (hT q hq).2
        · have z' := (if_neg hb2).symm.trans z
          cases z'
    · by_cases hb : b = a
      · have z' := (if_pos hb).symm.trans z
        cases z'
        exact .inl ⟨hb, _, _, rfl⟩
      · have z := (if_neg hb).symm.trans z
        by_cases hb2 : b ∈ tabs.map (·.2)
        · have z' := (if_pos hb2).symm.trans z
          cases z'
          obtain ⟨q, hq, rfl⟩ := List.mem_map.mp hb2
          exact .inr ⟨⟨q, hq, rfl⟩, rfl⟩
        · have z' := (if_neg hb2).symm.trans z
          cases z'
theorem walk_ofT {l : PySem.W.OpenLaw} {n k : Nat} {q : Program} {loose : List Str} {XP : (Str → Option Value) → Heap → Prop} {YP : World → Heap → Prop} {d : DefRec} {K : Params → PySem.W.Frag} {CX : World → CXT} {sp : World → Sp} {x : Str} {tabs : List (Addr × Addr)}
    (hn : l.most = some n) (hn2 : n ≤ sizeLine) (hdf : d.params.defaults = []) (hr : Room k callerA)
    (hY : ∀ (w : World) (h : Heap), YP w h → (K w.params).In h ∧ PySem.W.TabsAt tabs h) (hK : ∀ w : World, PySem.W.noTabs (K w.params) = true)
    (F : ∀ (w : World) (mg : Str → Option Value) (fa : Addr) (h : Heap), (K w.params).In h → h.Ns mainGlobals mg → mg d.name = some (.ref fa) →
      ∃ fd : FuncData, (∀ (s : Shared) (u : Value), BindsTo s fd ⟨[u], []⟩ [(x, u)]) ∧
        ∀ base : Heap, (K w.params).In base → base.Ns mainGlobals mg → Bm mg base → FnOk l.prog w (K w.params) mg base (CX w) k fa fd [x] (sp w))
    (hsp : ∀ (w : World) (H : Hp) (a : Addr) (ns : List Int), ns.length ≤ n → (∀ q ∈ tabs, H q.2 = some (.tbl #[])) → SqL (K w.params) H a (ns.map V.int) → sp w [.ref a] H (fun v _ => v = .bl true) fun _ _ _ => False)
    (hCX : ∀ (w : World) (H : Hp) (s : Shared) (e : Value) (s' : Shared), CX w [] H s (fun _ _ _ => False) e s' → False) :
    PySem.W.WalkO q loose XP YP l.row.toRowW d [] (fun f vs => PySem.call f vs) := by
  refine Att.attach_call hn hdf fun w s₀ s₁ mg mb fa o pm cd doc a vs ns G Y ho hd hcd hmg hobj hints hlen hg => ?_
  obtain ⟨KX, hT⟩ := hY w _ Y
  obtain ⟨fd, hb, hF⟩ := F w mg fa _ KX G.T.g hmg
  exact law_callT KX G.T.g G.T.b G.T.builtins G.T.nolimit hg G.T.bmain hT (hK w) hobj hints (Nat.le_trans hlen hn2) hr hF hb (fun H hO hS => hsp w H a ns hlen hO hS) fun H e s' => hCX w H s₁ e s'
end L2
end
section
set_option Elab.async false
set_option linter.all false
set_option maxRecDepth 100000
namespace L2
open PySem PySem.Spec PyProof.Rows
end L2
end
section
set_option Elab.async false
set_option linter.all false
namespace CN
structure Nd where
  sw : Int
  off : Nat
  on : Nat
  deriving DecidableEq
noncomputable abbrev Set1 := Int → Bool
noncomputable def put (ρ : Set1) (s : Int) (b : Bool) : Set1 := fun t => if t = s then b else ρ t
noncomputable def stepV (ρ : Set1) (vs : List Bool) (nd : Nd) : List Bool := vs ++ [vs.getD (if ρ nd.sw then nd.on else nd.off) false]
noncomputable def vals (ρ : Set1) (ns : List Nd) : List Bool := ns.foldl (stepV ρ) [false, true]
noncomputable def val (ns : List Nd) (p : Nat) (ρ : Set1) : Bool := (vals ρ ns).getD p false
theorem foldV (ρ : Set1) : ∀ (ms : List Nd) (vs : List Bool), ∃ t, ms.foldl (stepV ρ) vs = vs ++ t ∧ t.length = ms.length
  | [], vs => ⟨[], by simp⟩
  | nd :: ms, vs => by
    obtain ⟨t, h1, h2⟩ := foldV ρ ms (stepV ρ vs nd)
    refine ⟨vs.getD (if ρ nd.sw then nd.on else nd.off) false :: t, ?_, by simp [h2]⟩
    rw [List.foldl_cons, h1, stepV, List.append_assoc]
    rfl
theorem vals_len (ρ : Set1) (ns : List Nd) : (vals ρ ns).length = ns.length + 2 := by
  obtain ⟨t, h1, h2⟩ := foldV ρ ns [false, true]
  unfold vals
  rw [h1, List.length_append, h2]
  simp only [List.length_cons, List.length_nil]
  omega
theorem vals_app (ρ : Set1) (ns ms : List Nd) : ∃ t, vals ρ (ns ++ ms) = vals ρ ns ++ t ∧ t.length = ms.length := by
  obtain ⟨t, h1, h2⟩ := foldV ρ ms (vals ρ ns)
  exact ⟨t, by unfold vals at *; rw [List.foldl_append]; exact h1, h2⟩
theorem val_app (ρ : Set1) (ns ms : List Nd) {p : Nat} (h : p < ns.length + 2) : val (ns ++ ms) p ρ = val ns p ρ := by
  obtain ⟨t, h1, _⟩ := vals_app ρ ns ms
  unfold val
  rw [h1, List.getD_eq_getElem?_getD, List.getElem?_append_left (by rw [vals_len]; exact h), ← List.getD_eq_getElem?_getD]
theorem val_no (ns : List Nd) (ρ : Set1) : val ns 0 ρ = false := by
  have h := val_app ρ [] ns (p := 0) (by simp)
  rw [List.nil_append] at h
  rw [h]; rfl
theorem val_yes (ns : List Nd) (ρ : Set1) : val ns 1 ρ = true := by
  have h := val_app ρ [] ns (p := 1) (by simp)
  rw [List.nil_append] at h
  rw [h]; rfl
theorem val_last (ns : List Nd) (nd : Nd) (ρ : Set1) (h1 : nd.off < ns.length + 2) (h2 : nd.on < ns.length + 2) :
    val (ns ++ [nd]) (ns.length + 2) ρ = val (ns ++ [nd]) (if ρ nd.sw then nd.on else nd.off) ρ := by
  have e : vals ρ (ns ++ [nd]) = vals ρ ns ++ [(vals ρ ns).getD (if ρ nd.sw then nd.on else nd.off) false] := by
    unfold vals; rw [List.foldl_append]; rfl
  have hc : (if ρ nd.sw then nd.on else nd.off) < ns.length + 2 := by split <;> assumption
  rw [val_app ρ ns [nd] hc]
  unfold val
  rw [e, List.getD_eq_getElem?_getD, List.getElem?_append_right (by rw [vals_len]; exact Nat.le_refl _), vals_len, Nat.sub_self]
  rfl
theorem val_node {ns : List Nd} {i : Nat} {nd : Nd} (e : ns[i]? = some nd) (h1 : nd.off < i + 2) (h2 : nd.on < i + 2) (ρ : Set1) :
    val ns (i + 2) ρ = val ns (if ρ nd.sw then nd.on else nd.off) ρ := by
  obtain ⟨hi, hg⟩ := List.getElem?_eq_some_iff.mp e
  have hs : ns = (ns.take i ++ [nd]) ++ ns.drop (i + 1) := by
    rw [← hg, List.take_append_getElem hi, List.take_append_drop]
  have hl : (ns.take i).length = i := by rw [List.length_take]; omega
  have k := val_last (ns.take i) nd ρ (by rw [hl]; exact h1) (by rw [hl]; exact h2)
  rw [hl] at k
  have hl2 : (ns.take i ++ [nd]).length = i + 1 := by rw [List.length_append, hl]; rfl
  have hc : (if ρ nd.sw then nd.on else nd.off) < i + 2 := by split <;> assumption
  have k1 := val_app ρ (ns.take i ++ [nd]) (ns.drop (i + 1)) (p := i + 2) (by rw [hl2]; omega)
  have k2 := val_app ρ (ns.take i ++ [nd]) (ns.drop (i + 1)) (p := if ρ nd.sw then nd.on else nd.off) (by rw [hl2]; omega)
  rw [← hs] at k1 k2
  rw [k1, k2]
  exact k
noncomputable def Above (ns : List Nd) (b : Int) (p : Nat) : Prop := p < 2 ∨ ∃ nd, ns[p - 2]? = some nd ∧ b < nd.sw
structure Net (ns : List Nd) : Prop where
  ord : ∀ (i : Nat) (nd : Nd), ns[i]? = some nd → nd.off < i + 2 ∧ nd.on < i + 2 ∧ nd.off ≠ nd.on ∧ Above ns nd.sw nd.off ∧ Above ns nd.sw nd.on
  one : ∀ (i j : Nat) (nd : Nd), ns[i]? = some nd → ns[j]? = some nd → i = j
theorem Above.mono {ns : List Nd} {b c : Int} {p : Nat} (h : Above ns b p) (k : c ≤ b) : Above ns c p := by
  rcases h with h | ⟨nd, e, h⟩
  · exact .inl h
  · exact .inr ⟨nd, e, by omega⟩
theorem Above.app {ns : List Nd} {b : Int} {p : Nat} (h : Above ns b p) (ms : List Nd) : Above (ns ++ ms) b p := by
  rcases h with h | ⟨nd, e, h⟩
  · exact .inl h
  · exact .inr ⟨nd, by rw [List.getElem?_append_left (List.getElem?_eq_some_iff.mp e).1]; exact e, h⟩
theorem node_of {ns : List Nd} {p : Nat} (h : p < ns.length + 2) (h2 : ¬ p < 2) : ∃ nd, ns[p - 2]? = some nd ∧ p - 2 + 2 = p := by
  have hl : p - 2 < ns.length := by omega
  exact ⟨ns[p - 2], List.getElem?_eq_getElem hl, by omega⟩
theorem Net.at {ns : List Nd} (N : Net ns) {p : Nat} {nd : Nd} (e : ns[p - 2]? = some nd) (h2 : ¬ p < 2) (ρ : Set1) :
    val ns p ρ = val ns (if ρ nd.sw then nd.on else nd.off) ρ := by
  obtain ⟨a, b, _⟩ := N.ord _ _ e
  have h := val_node e a b ρ
  have e2 : p - 2 + 2 = p := by omega
  rw [e2] at h
  exact h
theorem Net.indep {ns : List Nd} (N : Net ns) {ρ ρ' : Set1} {b : Int} (hs : ∀ t, b < t → ρ t = ρ' t) : ∀ (n p : Nat), p < n → p < ns.length + 2 → Above ns b p → val ns p ρ = val ns p ρ'
  | 0, _, h, _, _ => absurd h (Nat.not_lt_zero _)
  | n + 1, p, h, hp, ha => by
    by_cases h2 : p < 2
    · have : p = 0 ∨ p = 1 := by omega
      rcases this with rfl | rfl
      · rw [val_no, val_no]
      · rw [val_yes, val_yes]
    · rcases ha with ha | ⟨nd, e, hb⟩
      · exact absurd ha h2
      · obtain ⟨o1, o2, _, a1, a2⟩ := N.ord _ _ e
        rw [N.at e h2 ρ, N.at e h2 ρ', hs nd.sw hb]
        cases ρ' nd.sw with
        | true => exact N.indep hs n _ (by simp only [if_true]; omega) (by simp only [if_true]; omega) (a2.mono (by omega))
        | false => exact N.indep hs n _ (by simp only [Bool.false_eq_true, if_false]; omega) (by simp only [Bool.false_eq_true, if_false]; omega) (a1.mono (by omega))
theorem put_self (ρ : Set1) (s : Int) (b : Bool) : put ρ s b s = b := by unfold put; rw [if_pos rfl]
theorem put_gt (ρ : Set1) (s : Int) (b : Bool) : ∀ t, s < t → put ρ s b t = ρ t := fun t h => by unfold put; rw [if_neg (by omega)]
theorem Net.offOn {ns : List Nd} (N : Net ns) {p : Nat} {nd : Nd} (e : ns[p - 2]? = some nd) (h2 : ¬ p < 2) (ρ : Set1) :
    val ns nd.off ρ = val ns p (put ρ nd.sw false) ∧ val ns nd.on ρ = val ns p (put ρ nd.sw true) := by
  obtain ⟨o1, o2, _, a1, a2⟩ := N.ord _ _ e
  have hl : p - 2 < ns.length := (List.getElem?_eq_some_iff.mp e).1
  refine ⟨?_, ?_⟩
  · rw [N.at e h2, put_self, if_neg (by simp)]
    exact (N.indep (put_gt ρ nd.sw false) _ nd.off (Nat.lt_succ_self _) (by omega) a1).symm
  · rw [N.at e h2, put_self, if_pos rfl]
    exact (N.indep (put_gt ρ nd.sw true) _ nd.on (Nat.lt_succ_self _) (by omega) a2).symm
theorem Net.canon {ns : List Nd} (N : Net ns) : ∀ (n p q : Nat), p < n → q < n → p < ns.length + 2 → q < ns.length + 2 → (∀ ρ, val ns p ρ = val ns q ρ) → p = q
  | 0, _, _, h, _, _, _, _ => absurd h (Nat.not_lt_zero _)
  | n + 1, p, q, hp, hq, lp, lq, e => by
    have key : ∀ x y : Nat, x < n + 1 → y < n + 1 → x < ns.length + 2 → y < ns.length + 2 → (∀ ρ, val ns x ρ = val ns y ρ) → ∀ nd, ns[x - 2]? = some nd → ¬ x < 2 → Above ns nd.sw y → False := by
      intro x y hx hy lx ly exy nd en h2 ha
      obtain ⟨o1, o2, ne, a1, a2⟩ := N.ord _ _ en
      refine ne (N.canon n nd.off nd.on (by omega) (by omega) (by omega) (by omega) fun ρ => ?_)
      obtain ⟨f1, f2⟩ := N.offOn en h2 ρ
      rw [f1, f2, exy, exy]
      rw [N.indep (put_gt ρ nd.sw false) _ y (Nat.lt_succ_self _) ly ha, N.indep (put_gt ρ nd.sw true) _ y (Nat.lt_succ_self _) ly ha]
    by_cases p2 : p < 2
    · by_cases q2 : q < 2
      · have h := e (fun _ => false)
        have h1 : p = 0 ∨ p = 1 := by omega
        have h3 : q = 0 ∨ q = 1 := by omega
        rcases h1 with rfl | rfl <;> rcases h3 with rfl | rfl
        · rfl
        · rw [val_no, val_yes] at h; exact absurd h (by decide)
        · rw [val_no, val_yes] at h; exact absurd h (by decide)
        · rfl
      · obtain ⟨nd, en, _⟩ := node_of lq q2
        exact (key q p hq hp lq lp (fun ρ => (e ρ).symm) nd en q2 (.inl p2)).elim
    · obtain ⟨nd, en, _⟩ := node_of lp p2
      by_cases q2 : q < 2
      · exact (key p q hp hq lp lq e nd en p2 (.inl q2)).elim
      · obtain ⟨md, em, _⟩ := node_of lq q2
        rcases Int.lt_trichotomy nd.sw md.sw with h | h | h
        · exact (key p q hp hq lp lq e nd en p2 (.inr ⟨md, em, h⟩)).elim
        · obtain ⟨o1, o2, ne, a1, a2⟩ := N.ord _ _ en
          obtain ⟨u1, u2, ne', b1, b2⟩ := N.ord _ _ em
          have g1 : nd.off = md.off := N.canon n _ _ (by omega) (by omega) (by omega) (by omega) fun ρ => by
            rw [(N.offOn en p2 ρ).1, (N.offOn em q2 ρ).1, e, h]
          have g2 : nd.on = md.on := N.canon n _ _ (by omega) (by omega) (by omega) (by omega) fun ρ => by
            rw [(N.offOn en p2 ρ).2, (N.offOn em q2 ρ).2, e, h]
          have g3 : nd = md := by cases nd; cases md; simp only at h g1 g2; subst h g1 g2; rfl
          rw [g3] at en
          have := N.one _ _ _ en em
          omega
        · exact (key q p hq hp lq lp (fun ρ => (e ρ).symm) md em q2 (.inr ⟨nd, en, h⟩)).elim
end CN
end
section
set_option Elab.async false
set_option linter.all false
namespace CN
open PySem
noncomputable def tr : Stm → Set1 → Bool
  | .yes, _ => true
  | .no, _ => false
  | .sw n, ρ => ρ n
  | .nt a, ρ => !tr a ρ
  | .an a b, ρ => tr a ρ && tr b ρ
  | .og a b, ρ => tr a ρ || tr b ρ
  | .al n a, ρ => tr a (put ρ n false) && tr a (put ρ n true)
  | .sm n a, ρ => tr a (put ρ n false) || tr a (put ρ n true)
noncomputable abbrev Pl (ns : List Nd) (p : Nat) : Prop := p < ns.length + 2
noncomputable def Ext (ns ns' : List Nd) : Prop := ∃ ms, ns' = ns ++ ms
theorem Ext.refl (ns : List Nd) : Ext ns ns := ⟨[], by simp⟩
theorem Ext.trans {a b c : List Nd} (h : Ext a b) (k : Ext b c) : Ext a c := by
  obtain ⟨x, rfl⟩ := h; obtain ⟨y, rfl⟩ := k
  exact ⟨x ++ y, by rw [List.append_assoc]⟩
theorem Ext.pl {a b : List Nd} (h : Ext a b) {p : Nat} (k : Pl a p) : Pl b p := by
  obtain ⟨x, rfl⟩ := h
  unfold Pl at *
  rw [List.length_append]; omega
theorem Ext.val {a b : List Nd} (h : Ext a b) {p : Nat} (k : Pl a p) (ρ : Set1) : val b p ρ = val a p ρ := by
  obtain ⟨x, rfl⟩ := h
  exact val_app ρ a x k
theorem Ext.above {a b : List Nd} (h : Ext a b) {p : Nat} {s : Int} (k : Above a s p) : Above b s p := by
  obtain ⟨x, rfl⟩ := h
  exact k.app x
theorem Net.aboveOf {ns : List Nd} (N : Net ns) {p : Nat} {b : Int} (hp : Pl ns p) (h : ∀ ρ ρ' : Set1, (∀ t, b < t → ρ t = ρ' t) → val ns p ρ = val ns p ρ') : Above ns b p := by
  by_cases p2 : p < 2
  · exact .inl p2
  · obtain ⟨nd, en, _⟩ := node_of hp p2
    by_cases hb : b < nd.sw
    · exact .inr ⟨nd, en, hb⟩
    · exfalso
      obtain ⟨o1, o2, ne, a1, a2⟩ := N.ord _ _ en
      have hl : p - 2 < ns.length := (List.getElem?_eq_some_iff.mp en).1
      refine ne (N.canon (p + 1) nd.off nd.on (by omega) (by omega) (by omega) (by omega) fun ρ => ?_)
      obtain ⟨f1, f2⟩ := N.offOn en p2 ρ
      rw [f1, f2]
      refine h _ _ fun t ht => ?_
      rw [put_gt ρ _ _ t (by omega), put_gt ρ _ _ t (by omega)]
theorem Net.snoc {ns : List Nd} (N : Net ns) {nd : Nd} (h1 : Pl ns nd.off) (h2 : Pl ns nd.on) (ne : nd.off ≠ nd.on) (a1 : Above ns nd.sw nd.off) (a2 : Above ns nd.sw nd.on) (hn : ∀ i : Nat, ns[i]? ≠ some nd) : Net (ns ++ [nd]) where
  ord := fun i m e => by
    by_cases hi : i < ns.length
    · rw [List.getElem?_append_left hi] at e
      obtain ⟨x1, x2, x3, x4, x5⟩ := N.ord i m e
      exact ⟨x1, x2, x3, x4.app _, x5.app _⟩
    · rw [List.getElem?_append_right (by omega)] at e
      have : i - ns.length = 0 := by
        cases q : i - ns.length with
        | zero => rfl
        | succ k => rw [q] at e; simp at e
      rw [this] at e
      simp only [List.getElem?_cons_zero, Option.some.injEq] at e
      subst e
      have : i = ns.length := by omega
      subst this
      exact ⟨h1, h2, ne, a1.app _, a2.app _⟩
  one := fun i j m e f => by
    have key : ∀ k : Nat, (ns ++ [nd])[k]? = some m → (k < ns.length ∧ ns[k]? = some m) ∨ (k = ns.length ∧ m = nd) := fun k g => by
      by_cases hk : k < ns.length
      · rw [List.getElem?_append_left hk] at g; exact .inl ⟨hk, g⟩
      · rw [List.getElem?_append_right (by omega)] at g
        cases q : k - ns.length with
        | zero =>
          rw [q] at g
          simp only [List.getElem?_cons_zero, Option.some.injEq] at g
          exact .inr ⟨by omega, g.symm⟩
        | succ z => rw [q] at g; simp at g
    rcases key i e with ⟨a, b⟩ | ⟨a, b⟩ <;> rcases key j f with ⟨c, d⟩ | ⟨c, d⟩
    · exact N.one i j m b d
    · subst d; exact absurd b (hn i)
    · subst b; exact absurd d (hn j)
    · omega
structure Made (ns : List Nd) (s : Int) (off on : Nat) (ns' : List Nd) (r : Nat) : Prop where
  net : Net ns'
  ext : Ext ns ns'
  pl : Pl ns' r
  say : ∀ ρ, val ns' r ρ = val ns (if ρ s then on else off) ρ
  len : ns'.length ≤ ns.length + 1
  sws : ∀ nd ∈ ns', nd ∈ ns ∨ nd.sw = s
theorem made_same {ns : List Nd} (N : Net ns) {s : Int} {p : Nat} (h : Pl ns p) : Made ns s p p ns p :=
  ⟨N, .refl _, h, fun ρ => by rw [ite_self], Nat.le_succ _, fun nd h => .inl h⟩
theorem made_old {ns : List Nd} (N : Net ns) {nd : Nd} {i : Nat} (e : ns[i]? = some nd) : Made ns nd.sw nd.off nd.on ns (i + 2) :=
  ⟨N, .refl _, by have := (List.getElem?_eq_some_iff.mp e).1; unfold Pl; omega, fun ρ => val_node e (N.ord i nd e).1 (N.ord i nd e).2.1 ρ, Nat.le_succ _, fun nd h => .inl h⟩
theorem made_new {ns : List Nd} (N : Net ns) {nd : Nd} (h1 : Pl ns nd.off) (h2 : Pl ns nd.on) (ne : nd.off ≠ nd.on) (a1 : Above ns nd.sw nd.off) (a2 : Above ns nd.sw nd.on) (hn : ∀ i : Nat, ns[i]? ≠ some nd) :
    Made ns nd.sw nd.off nd.on (ns ++ [nd]) (ns.length + 2) :=
  ⟨N.snoc h1 h2 ne a1 a2 hn, ⟨[nd], rfl⟩, by unfold Pl; rw [List.length_append]; simp only [List.length_cons, List.length_nil]; omega,
    fun ρ => by rw [val_last ns nd ρ h1 h2]; exact val_app ρ ns [nd] (by split <;> assumption), by rw [List.length_append]; exact Nat.le_refl _, fun m h => by
      rcases List.mem_append.mp h with h | h
      · exact .inl h
      · rw [List.mem_singleton] at h; rw [h]; exact .inr rfl⟩
noncomputable def stepP (ns : List Nd) (p : Nat) (s : Int) (b : Bool) : Nat :=
  if p < 2 then p else match ns[p - 2]? with
    | some nd => if nd.sw = s then (if b then nd.on else nd.off) else p
    | none => p
theorem step_pl {ns : List Nd} (N : Net ns) {p : Nat} {s : Int} {b : Bool} (h : Pl ns p) : Pl ns (stepP ns p s b) := by
  unfold stepP
  split
  · exact h
  · split
    · rename_i nd e
      obtain ⟨o1, o2, _⟩ := N.ord _ _ e
      unfold Pl at *
      split
      · split <;> omega
      · exact h
    · exact h
theorem step_say {ns : List Nd} (N : Net ns) {p : Nat} {s : Int} {b : Bool} (h : Pl ns p) (ha : Above ns (s - 1) p) (ρ : Set1) : val ns (stepP ns p s b) ρ = val ns p (put ρ s b) := by
  unfold stepP
  split
  · rename_i p2
    have : p = 0 ∨ p = 1 := by omega
    rcases this with rfl | rfl
    · rw [val_no, val_no]
    · rw [val_yes, val_yes]
  · rename_i p2
    obtain ⟨nd, e, _⟩ := node_of h p2
    rw [e]
    simp only
    split
    · rename_i hs
      obtain ⟨f1, f2⟩ := N.offOn e p2 ρ
      rw [hs] at f1 f2
      cases b
      · simpa using f1
      · simpa using f2
    · rename_i hs
      have hb : Above ns s p := by
        rcases ha with q | ⟨md, em, hm⟩
        · exact .inl q
        · rw [e] at em; cases em
          exact .inr ⟨nd, e, by omega⟩
      exact (N.indep (put_gt ρ s b) _ p (Nat.lt_succ_self _) h hb).symm
theorem step_above {ns : List Nd} (N : Net ns) {p : Nat} {s : Int} {b : Bool} (h : Pl ns p) (ha : Above ns (s - 1) p) : Above ns s (stepP ns p s b) := by
  unfold stepP
  split
  · rename_i p2; exact .inl p2
  · rename_i p2
    obtain ⟨nd, e, _⟩ := node_of h p2
    rw [e]
    simp only
    obtain ⟨_, _, _, a1, a2⟩ := N.ord _ _ e
    split
    · rename_i hs
      subst hs
      cases b
      · simpa using a1
      · simpa using a2
    · rename_i hs
      rcases ha with q | ⟨md, em, hm⟩
      · exact .inl q
      · rw [e] at em; cases em
        exact .inr ⟨nd, e, by omega⟩
theorem put_id (ρ : Set1) (s : Int) : put ρ s (ρ s) = ρ := by
  funext t; unfold put; split
  · rename_i h; rw [h]
  · rfl
structure Ite (ns : List Nd) (t y n r : Nat) : Prop where
  pl : Pl ns r
  say : ∀ ρ, val ns r ρ = if val ns t ρ then val ns y ρ else val ns n ρ
theorem Ite.ext {ns ns' : List Nd} {t y n r : Nat} (h : Ite ns t y n r) (e : Ext ns ns') (ht : Pl ns t) (hy : Pl ns y) (hn : Pl ns n) : Ite ns' t y n r :=
  ⟨e.pl h.pl, fun ρ => by rw [e.val h.pl, e.val ht, e.val hy, e.val hn]; exact h.say ρ⟩
theorem Ite.above {ns : List Nd} (N : Net ns) {t y n r : Nat} (h : Ite ns t y n r) {b : Int} (ht : Pl ns t) (hy : Pl ns y) (hn : Pl ns n) (at_ : Above ns b t) (ay : Above ns b y) (an : Above ns b n) : Above ns b r :=
  N.aboveOf h.pl fun ρ ρ' e => by
    rw [h.say, h.say, N.indep e _ t (Nat.lt_succ_self _) ht at_, N.indep e _ y (Nat.lt_succ_self _) hy ay, N.indep e _ n (Nat.lt_succ_self _) hn an]
theorem ite_turn {ns n1 n2 n3 : List Nd} (N : Net ns) (N1 : Net n1) (N2 : Net n2) {t y n ro rn r : Nat} {s : Int} (ht : Pl ns t) (hy : Pl ns y) (hn : Pl ns n)
    (at_ : Above ns (s - 1) t) (ay : Above ns (s - 1) y) (an : Above ns (s - 1) n) (e1 : Ext ns n1) (e2 : Ext n1 n2)
    (io : Ite n1 (stepP ns t s false) (stepP ns y s false) (stepP ns n s false) ro) (iN : Ite n2 (stepP ns t s true) (stepP ns y s true) (stepP ns n s true) rn)
    (m : Made n2 s ro rn n3 r) : Ite n3 t y n r := by
  have e3 := m.ext
  have e12 := e1.trans e2
  have e13 := e12.trans e3
  refine ⟨m.pl, fun ρ => ?_⟩
  rw [m.say, e13.val ht, e13.val hy, e13.val hn]
  have so : val n2 ro ρ = if val ns t (put ρ s false) then val ns y (put ρ s false) else val ns n (put ρ s false) := by
    rw [e2.val io.pl, io.say, e1.val (step_pl N ht), e1.val (step_pl N hy), e1.val (step_pl N hn), step_say N ht at_, step_say N hy ay, step_say N hn an]
  have sn : val n2 rn ρ = if val ns t (put ρ s true) then val ns y (put ρ s true) else val ns n (put ρ s true) := by
    rw [iN.say, e12.val (step_pl N ht), e12.val (step_pl N hy), e12.val (step_pl N hn), step_say N ht at_, step_say N hy ay, step_say N hn an]
  cases hs : ρ s with
  | true =>
    rw [if_pos rfl, sn]
    have : put ρ s true = ρ := by rw [← hs]; exact put_id ρ s
    rw [this]
  | false =>
    rw [if_neg (by simp), so]
    have : put ρ s false = ρ := by rw [← hs]; exact put_id ρ s
    rw [this]
structure Stl (ns : List Nd) (p : Nat) (s : Int) (b : Bool) (r : Nat) : Prop where
  pl : Pl ns r
  say : ∀ ρ, val ns r ρ = val ns p (put ρ s b)
theorem Stl.ext {ns ns' : List Nd} {p r : Nat} {s : Int} {b : Bool} (h : Stl ns p s b r) (e : Ext ns ns') (hp : Pl ns p) : Stl ns' p s b r :=
  ⟨e.pl h.pl, fun ρ => by rw [e.val h.pl, e.val hp]; exact h.say ρ⟩
theorem stl_above {ns : List Nd} (N : Net ns) {p : Nat} {s : Int} {b : Bool} (hp : Pl ns p) (ha : Above ns s p) : Stl ns p s b p :=
  ⟨hp, fun ρ => (N.indep (put_gt ρ s b) _ p (Nat.lt_succ_self _) hp ha).symm⟩
theorem stl_here {ns : List Nd} (N : Net ns) {p : Nat} {s : Int} {b : Bool} (hp : Pl ns p) (ha : Above ns (s - 1) p) : Stl ns p s b (stepP ns p s b) :=
  ⟨step_pl N hp, fun ρ => step_say N hp ha ρ⟩
theorem stl_turn {ns n1 n2 n3 : List Nd} (N : Net ns) {p ro rn r : Nat} {nd : Nd} {s : Int} {b : Bool} (e : ns[p - 2]? = some nd) (p2 : ¬ p < 2) (hlt : nd.sw < s) (e1 : Ext ns n1) (e2 : Ext n1 n2)
    (io : Stl n1 nd.off s b ro) (iN : Stl n2 nd.on s b rn) (m : Made n2 nd.sw ro rn n3 r) : Stl n3 p s b r := by
  have e3 := m.ext
  have e12 := e1.trans e2
  have hl : p - 2 < ns.length := (List.getElem?_eq_some_iff.mp e).1
  have hp : Pl ns p := by unfold Pl; omega
  obtain ⟨o1, o2, _, a1, a2⟩ := N.ord _ _ e
  have h1 : Pl ns nd.off := by unfold Pl; omega
  have h2 : Pl ns nd.on := by unfold Pl; omega
  refine ⟨m.pl, fun ρ => ?_⟩
  rw [m.say, (e12.trans e3).val hp, N.at e p2]
  have hx : put ρ s b nd.sw = ρ nd.sw := by unfold put; rw [if_neg (by omega)]
  rw [hx]
  cases ρ nd.sw with
  | true => rw [if_pos rfl, if_pos rfl, iN.say, e12.val h2]
  | false => rw [if_neg (by simp), if_neg (by simp), e2.val io.pl, io.say, e1.val h1]
theorem Stl.above {ns : List Nd} (N : Net ns) {p r : Nat} {s b : Int} {c : Bool} (h : Stl ns p s c r) (hp : Pl ns p) (ha : Above ns b p) : Above ns b r :=
  N.aboveOf h.pl fun ρ ρ' e => by
    rw [h.say, h.say]
    refine N.indep (fun t ht => ?_) _ p (Nat.lt_succ_self _) hp ha
    unfold put; split
    · rfl
    · exact e t ht
structure Means (ns : List Nd) (r : Nat) (a : Stm) : Prop where
  pl : Pl ns r
  say : ∀ ρ, val ns r ρ = tr a ρ
theorem Means.ext {ns ns' : List Nd} {r : Nat} {a : Stm} (h : Means ns r a) (e : Ext ns ns') : Means ns' r a := ⟨e.pl h.pl, fun ρ => by rw [e.val h.pl]; exact h.say ρ⟩
theorem means_yes (ns : List Nd) : Means ns 1 .yes := ⟨by unfold Pl; omega, fun ρ => val_yes ns ρ⟩
theorem means_no (ns : List Nd) : Means ns 0 .no := ⟨by unfold Pl; omega, fun ρ => val_no ns ρ⟩
theorem means_sw {ns ns' : List Nd} {n : Int} {r : Nat} (m : Made ns n 0 1 ns' r) : Means ns' r (.sw n) := ⟨m.pl, fun ρ => by
  rw [m.say]
  show _ = ρ n
  cases ρ n with
  | true => rw [if_pos rfl, val_yes]
  | false => rw [if_neg (by simp), val_no]⟩
theorem means_nt {ns : List Nd} {p r : Nat} {a : Stm} (h : Means ns p a) (i : Ite ns p 0 1 r) : Means ns r (.nt a) := ⟨i.pl, fun ρ => by
  rw [i.say, h.say, val_no, val_yes]; show _ = !tr a ρ; cases tr a ρ <;> rfl⟩
theorem means_an {ns : List Nd} {p q r : Nat} {a b : Stm} (h : Means ns p a) (k : Means ns q b) (i : Ite ns p q 0 r) : Means ns r (.an a b) := ⟨i.pl, fun ρ => by
  rw [i.say, h.say, k.say, val_no]; show _ = (tr a ρ && tr b ρ); cases tr a ρ <;> rfl⟩
theorem means_og {ns : List Nd} {p q r : Nat} {a b : Stm} (h : Means ns p a) (k : Means ns q b) (i : Ite ns p 1 q r) : Means ns r (.og a b) := ⟨i.pl, fun ρ => by
  rw [i.say, h.say, k.say, val_yes]; show _ = (tr a ρ || tr b ρ); cases tr a ρ <;> rfl⟩
theorem means_al {ns : List Nd} {p po pn r : Nat} {n : Int} {a : Stm} (h : Means ns p a) (ho : Stl ns p n false po) (hn : Stl ns p n true pn) (i : Ite ns po pn 0 r) : Means ns r (.al n a) := ⟨i.pl, fun ρ => by
  rw [i.say, ho.say, hn.say, h.say, h.say, val_no]; show _ = (tr a (put ρ n false) && tr a (put ρ n true)); cases tr a (put ρ n false) <;> rfl⟩
theorem means_sm {ns : List Nd} {p po pn r : Nat} {n : Int} {a : Stm} (h : Means ns p a) (ho : Stl ns p n false po) (hn : Stl ns p n true pn) (i : Ite ns po 1 pn r) : Means ns r (.sm n a) := ⟨i.pl, fun ρ => by
  rw [i.say, ho.say, hn.say, h.say, h.say, val_yes]; show _ = (tr a (put ρ n false) || tr a (put ρ n true)); cases tr a (put ρ n false) <;> rfl⟩
end CN
end
section
set_option Elab.async false
set_option linter.all false
namespace CN
open PySem
structure Ws where
  num : Nat → Option Nat
  out : List Nd
noncomputable def w0 : Ws := ⟨fun p => if p = 0 then some 0 else if p = 1 then some 1 else none, []⟩
noncomputable def Ws.add (w : Ws) (p : Nat) (nd : Nd) : Ws :=
  ⟨fun q => if q = p then some (w.out.length + 2) else w.num q, w.out ++ [⟨nd.sw, (w.num nd.off).getD 0, (w.num nd.on).getD 0⟩]⟩
noncomputable def visit (ns : List Nd) : Nat → Nat → Ws → Ws
  | 0, _, w => w
  | k + 1, p, w => if (w.num p).isSome then w else match ns[p - 2]? with
    | none => w
    | some nd => (visit ns k nd.on (visit ns k nd.off w)).add p nd
structure Good (ns : List Nd) (w : Ws) : Prop where
  n0 : w.num 0 = some 0
  n1 : w.num 1 = some 1
  net : Net w.out
  say : ∀ (p x : Nat), w.num p = some x → Pl ns p ∧ Pl w.out x ∧ ∀ ρ, val w.out x ρ = val ns p ρ
  sur : ∀ x : Nat, x < w.out.length + 2 → ∃ p : Nat, w.num p = some x
theorem Net.below {ns : List Nd} (N : Net ns) {p : Nat} {nd : Nd} (hp : Pl ns p) (e : ns[p - 2]? = some nd) (p2 : ¬ p < 2) : nd.off < p ∧ nd.on < p ∧ Pl ns nd.off ∧ Pl ns nd.on := by
  obtain ⟨o1, o2, _⟩ := N.ord _ _ e
  have e2 : p - 2 + 2 = p := by omega
  rw [e2] at o1 o2
  exact ⟨o1, o2, Nat.lt_trans o1 hp, Nat.lt_trans o2 hp⟩
theorem net_nil : Net [] := ⟨fun i nd e => by simp at e, fun i j nd e => by simp at e⟩
structure Alike (ns ms : List Nd) (p q : Nat) : Prop where
  l : Pl ns p
  r : Pl ms q
  say : ∀ ρ, val ns p ρ = val ms q ρ
structure InStep (ns ms : List Nd) (w v : Ws) : Prop where
  out : w.out = v.out
  num : ∀ p q : Nat, Alike ns ms p q → w.num p = v.num q
noncomputable def graphOf (ns : List Nd) (p : Nat) : List Nd × Nat := ((visit ns (p + 1) p w0).out, ((visit ns (p + 1) p w0).num p).getD 0)
end CN
end
section
set_option Elab.async false
set_option linter.all false
namespace CN
open PySem
section
variable {ns : List Nd} {w : Ws} {p : Nat} {r : List Nat} {nd : Nd}
end
end CN
end
section
set_option Elab.async false
set_option linter.all false
set_option maxRecDepth 100000
set_option maxHeartbeats 1000000
namespace L2
open PySem PySem.Spec PyProof.Rows
structure Fl (P : Program) (w : World) (outer : List Env) (H H' : Hp) (h B h' : Heap) : Prop where
  keep : ∀ b o, h.get? b = some o → H b = none → b ∉ frs outer → B.get? b = some o
  slot : ∀ b o, h.get? b = some o → H b = none → b ∈ frs outer → ∃ sl, h'.get? b = some { o with slots := sl }
  free : ∀ b o, h.get? b = some o → H b = none → H' b = none
  there : ∀ b o, h.get? b = some o → b ∉ frs outer → ∃ o', B.get? b = some o'
  tups : ∀ b xs, H b = some (.tup xs) → H' b = some (.tup xs)
  frzs : ∀ b o u, H b = some (.frz o u) → H' b = some (.frz o u)
  tbls : ∀ b ps, H b = some (.tbl ps) → ∃ more, H' b = some (.tbl (ps ++ more))
  hok : HOk P w H' B
section
variable {P : Program} {w : World} {outer : List Env} {H H' : Hp} {h B B' h1 h2 : Heap}
end
noncomputable def CXe (P : Program) (w : World) : CXT := fun outer H s E e s' =>
  ∃ (x t : Addr) (cls : Value) (H' : Hp) (B : Heap), e = .ref x ∧ s'.os = s.os ∧ AllBare s'.gens ∧ Fl P w outer H H' s.heap B s'.heap ∧ Heap.FlyingW B outer x cls (.ref t) s'.heap ∧ E cls none H'
theorem frs_cons {env : Env} {outer : List Env} {L b : Addr} (hf : env.frame = some L) : b ∈ frs (env :: outer) ↔ b = L ∨ b ∈ frs outer := by
  unfold frs; rw [List.filterMap_cons, hf]; exact List.mem_cons
section
variable {CX : CXT} {P : Program} {w : World} {K : PySem.W.Frag} {mg : Str → Option Value} {base : Heap} {N : List Str} {qual : Str} {scope : Scope} {f : Addr} {cd : Value} {A : Around} {outer : List Env} {s : Shared} {H : Hp} {E : XK}
theorem leave_made {pins : List (Addr × Obj)} {σ : St} {H1 : Hp} {s1 : Shared} {h' : Heap} {e : Addr} {cls : Value} {vs : List Value}
    (I : Inv (cxOf (CXe P w) P w K mg base N qual scope f cd A outer s H E) pins σ H1 s1) (m : Heap.MadeExcOf s1.heap h' e cls vs) (hE : E cls none H1) :
    (cxOf (CXe P w) P w K mg base N qual scope f cd A outer s H E).xe (.ref e) { s1 with heap := h' } := by
  show wpAny _ _ (leaving _ _) _ _ _
  have st := I.stack
  have hin : ∀ env ∈ (envOfC qual scope s.heap.objs.size f cd :: outer), ∀ b, env.frame = some b → b ∈ frs (envOfC qual scope s.heap.objs.size f cd :: outer) := fun env he b hb => List.mem_filterMap.mpr ⟨env, he, hb⟩
  refine wpAny_leaves_madeW (base := PySem.W.hideAll s1.heap (frs (envOfC qual scope s.heap.objs.size f cd :: outer))) I.ok.frames rfl (fun b o q => PySem.W.of_hideAll _ q) (PySem.W.funFrames_hide st hin) m fun h2 t x1 x2 x3 x4 => ?_
  have lt : ∀ b o, s.heap.get? b = some o → b ≠ s.heap.objs.size := fun b o q => Nat.ne_of_lt (Heap.lt_size q)
  have nin : ∀ b o, s.heap.get? b = some o → b ∉ frs outer → b ∉ frs (envOfC qual scope s.heap.objs.size f cd :: outer) := fun b o q n hb => by
    rcases (frs_cons (L := s.heap.objs.size) rfl).mp hb with z | z
    · exact lt b o q z
    · exact n z
  refine ⟨e, t, cls, H1, _, rfl, I.os, I.bare, ⟨fun b o q n hb => ?_, fun b o q n hb => ?_, fun b o q n => I.base.free b o q n (by simp [cxOf]), fun b o q hb => ?_, I.base.tups, I.base.frzs, I.base.tbls, ?_⟩, x1, hE⟩
  · exact PySem.W.hideAll_get _ (I.base.keep b o q n hb (by simp [cxOf])) (nin b o q hb)
  · obtain ⟨sl, e1⟩ := I.base.slot b o q n hb (by simp [cxOf])
    obtain ⟨_, o', ho', hd⟩ := st.mem ((frs_cons (L := s.heap.objs.size) rfl).mpr (.inr hb))
    have hd' : ∀ vs, ({ o with slots := sl } : Obj).data ≠ .fields vs := by rw [e1] at ho'; cases ho'; exact hd
    obtain ⟨sl', e2⟩ := x4 b _ (m.keeps b _ e1) hd'
    exact ⟨sl', e2⟩
  · obtain ⟨o', e1⟩ := I.base.there b o q (by simp [cxOf])
    exact ⟨o', PySem.W.hideAll_get _ e1 (nin b o q hb)⟩
  · exact fun a o e1 => (I.hok a o e1).stay (fun b u hb q => PySem.W.hideAll_get _ q fun z => by
      have hn := I.stkFree b z
      rcases hb with rfl | hb
      · rw [hn] at e1; cases e1
      · rw [hn] at hb; cases hb) (fun _ q => q) (fun _ _ q => q)
end
end L2
end
section
set_option Elab.async false
set_option linter.all false
set_option maxRecDepth 100000
set_option maxHeartbeats 1000000
namespace L2
open PySem PySem.Spec PyProof.Rows
theorem own_in {K : PySem.W.Frag} {h : Heap} {mg : Str → Option Value} {x : Str} {C : Addr} {bmB : List Value} {newId : String} (X : K.In h) (hm : mg x = some (.ref C)) (q : PySem.W.excIn K C bmB newId = true) : OwnCls x C bmB newId mg h := by
  refine ⟨hm, ?_⟩
  unfold PySem.W.excIn at q
  split at q
  · rename_i dd cd sl ho
    split at q
    · rename_i hm' hs
      simp only [Bool.and_eq_true, beq_iff_eq, Bool.not_eq_true'] at q
      obtain ⟨⟨⟨⟨⟨rfl, rfl⟩, hdel⟩, ht⟩, hok⟩, hni⟩ := q
      obtain ⟨nm, bs, mro, ns, qn, hd, sn, sub, ab, col, del⟩ := cd
      obtain ⟨l⟩ := sl
      dsimp only at hm' hdel hok hni hs
      subst hm' hdel hs
      exact ⟨_, ns, nm, qn, bs, hd, sn, sub, ab, col, dd, _, _, _, _, _, _, X _ _ ho, .of_isNs (PySem.W.isNs_of_in X hok), PySem.W.nsMap_none_of_in X hok hni, PySem.W.tail_of_in X ht⟩
    · cases q
  · cases q
noncomputable def tRaise (C : Addr) (E : XK) (t : TA) : TS := fun _ σ H => t σ H fun vs H1 => vs.length ≤ sizeLine ∧ E (.ref C) none H1
section
variable {P : Program} {w : World} {K : PySem.W.Frag} {mg : Str → Option Value} {base : Heap} {N : List Str} {qual : Str} {scope : Scope} {f : Addr} {cd : Value} {A : Around} {outer : List Env} {s : Shared} {H : Hp} {E : XK}
  {x : Str} {C : Addr} {bmB : List Value} {B newId initId : String} {e : Expr} {es : List Expr} {t : TA} {np cpos pos : Pos}
theorem ps_raise (hg : Gl (cxOf (CXe P w) P w K mg base N qual scope f cd A outer s H E) x) (hm : mg x = some (.ref C)) (q : PySem.W.excIn K C bmB newId = true) (FB : ExcBaseFacts B newId initId bmB)
    (ha : PA (cxOf (CXe P w) P w K mg base N qual scope f cd A outer s H E) (e :: es) t) (hdb : (x == ("__debug__" : Str)) = false := by decide)
    (he : starEach (e :: es) (cxOf (CXe P w) P w K mg base N qual scope f cd A outer s H E).env = (false, eval e (cxOf (CXe P w) P w K mg base N qual scope f cd A outer s H E).env) :: starEach es (cxOf (CXe P w) P w K mg base N qual scope f cd A outer s H E).env := by rfl)
    (hpl : (backTo cpos (starEach es (cxOf (CXe P w) P w K mg base N qual scope f cd A outer s H E).env)).any (·.1) = false := by rfl) :
    PS (cxOf (CXe P w) P w K mg base N qual scope f cd A outer s H E) (.Raise (some (.Call (.Name x np) (e :: es) [] cpos)) none pos) (tRaise C E t) := by
  intro pins s1 σ H1 D I h
  obtain ⟨tl, Nn, nm, qn, bs, hdct, sn, sub, ab, col, dd, k0, k1, k2, k3, k5, mN, hC, hN, hni, T⟩ := (own_in I.ok.mod.kin hm q).obj
  refine wpAny_Raise_call_subT (C := C) (nm := nm) (q := qn) (N := Nn) (bs := bs) (bm := tl) (hdct := hdct) (sn := sn) (sub := sub) (ab := ab) (col := col) (dd := dd) (k0 := k0) (k1 := k1) (k2 := k2) (k3 := k3) (k5 := k5)
    FB (mN := mN) (T.hasType FB.hasBase) (I.ok.hd rfl) (by rw [he]; show (false || (backTo cpos (starEach es _)).any (·.1)) = false; rw [hpl]; rfl) hni (ld_glob I hg hm ⟨rfl, ?_⟩ hdb)
  have hA := ha cpos pins s1 σ H1 _ I h
  rw [he] at hA ⊢
  refine Calls.evalArgs_plain (thn hA fun us s2 ⟨vs, H2, I2, r, hl, hE⟩ => ⟨rfl, by rw [← r.length]; exact hl, I2.bk _ _ hC, hN.keeps I2.bk, T.keeps I2.bk, fun h' ex m => leave_made I2 m hE⟩)
end
noncomputable def XP (X : Cx) (pins : List (Addr × Obj)) (σ : St) (E : XK) (e : Value) (s' : Shared) : Prop := ∃ H1 s1, Inv X pins σ H1 s1 ∧ CXe X.prog X.w X.stack H1 s1 E e s'
section
variable {X : Cx} {k : Nat} {f : Addr} {fd : FuncData} {ps : List Str} {sp : Sp} {dvs : List V} {ds : List Value} {E : XK} {x : Str} {p pos : Pos} {e : Expr} {es : List Expr} {t : TA} {te : TE}
end
noncomputable abbrev Cx.hdl (X : Cx) (e : Value) : Cx := { X with A := X.A.mark (some e), calm := false }
section
variable {X : Cx} {pins : List (Addr × Obj)} {σ : St} {H H' : Hp} {s s' : Shared} {e : Value}
end
section
variable {X : Cx} {body suite : List Stmt} {b₀ : Stmt} {x : Str} {C Cc : Addr} {tb : XK → TS} {th : TS} {np hpos pos : Pos}
end
end L2
end
section
set_option Elab.async false
set_option linter.all false
set_option maxRecDepth 100000
set_option maxHeartbeats 1000000
namespace L2
open PySem PySem.Spec PySem.Calls PyProof.Rows PySem.W PySem.Builtin PySem.Builtin.ObjectAttr PySem.Builtin.Getset_descriptor
structure Xc (K : PySem.W.Frag) (D : Addr) : Prop where
  ga : PySem.W.findIn K (.ref D) "__getattribute__" = some (some (.builtin "BaseException.__getattribute__"))
  gt : PySem.W.findIn K (.ref D) "__getattr__" = some none
  ca : PySem.W.findIn K (.ref D) "__class__" = some (some (.builtin "object.__class__"))
  hn : PySem.W.specialIn K (.builtin "object.__class__") "__get__" = some (some (.builtin "getset_descriptor.__get__"))
  tk : PySem.W.takesIn K (.builtin "object.__class__") = some true
  ob : PySem.W.mroIn K D (.type "object") = some true
  be : PySem.W.mroIn K D (.type "BaseException") = some true
  tp : PySem.W.hasDictIn K D = true
section
variable {prog : Program} {w : World} {A : Around} {E : Value → Shared → Prop} {R : Result → Shared → Prop} {s : Shared} {K : PySem.W.Frag} {x D : Addr} {ox : Obj} {B : String} {bmB : List Value}
noncomputable def XcAt (D x : Addr) (h : Heap) : Prop := ∃ o, h.get? x = some o ∧ o.cls = .ref D
theorem XcAt.type {M : Model} {h : Heap} (I : XcAt D x h) : Looks M h (typeOf (.ref x)) (.ref D) := by
  obtain ⟨o, e, c⟩ := I
  exact c ▸ (Looks.ld e).andThen .now
end
noncomputable abbrev xo (D x : Addr) : HO := .ext (XcAt D x)
section
variable {X : Cx} {B : String} {bmB : List Value}
end
end L2
end
section
set_option Elab.async false
set_option linter.all false
set_option maxRecDepth 100000
set_option maxHeartbeats 1000000
namespace L2
open PySem PySem.Spec PySem.Calls PyProof.Rows
section
variable {X : Cx} {pins : List (Addr × Obj)} {σ σ' : St} {H H1 : Hp} {s s0 : Shared}
end
section
variable {X : Cx} {body suite : List Stmt} {b₀ : Stmt} {x n : Str} {C Cc : Addr} {i : Nat} {tb : XK → TS} {th : TS} {np hpos pos : Pos}
end
end L2
end
section
set_option Elab.async false
set_option linter.all false
set_option maxRecDepth 100000
set_option maxHeartbeats 1000000
namespace L2
open PySem PySem.Spec PySem.Calls PyProof.Rows
section
variable {X : Cx}
end
end L2
end
section
set_option Elab.async false
set_option linter.all false
set_option maxRecDepth 100000
namespace SS
open PySem
structure Tidy (t : SetTable) : Prop where
  rise : t.place.toList.Pairwise (· < ·)
  gaps : t.dummies = #[]
section
variable {xs : Array Nat} {j : Nat}
theorem getD_lt {i : Nat} (h : i < xs.size) (d : Nat) : xs.getD i d = xs[i] := by simp [Array.getD, h]
theorem at_mono (R : xs.toList.Pairwise (· < ·)) {a b : Nat} (h : a < b) (hb : b < xs.size) : xs[a]'(by omega) < xs[b] := by
  have := List.pairwise_iff_getElem.mp R a b (by simp; omega) (by simpa using hb) h
  simpa using this
theorem go_ok (R : xs.toList.Pairwise (· < ·)) : ∀ (f lo hi : Nat), hi - lo ≤ f → lo ≤ hi → hi ≤ xs.size → (∀ i (h : i < xs.size), i < lo → xs[i] < j) → (∀ i (h : i < xs.size), hi ≤ i → j ≤ xs[i]) →
    SetTable.below.go xs j f lo hi ≤ xs.size ∧ (∀ i (h : i < xs.size), i < SetTable.below.go xs j f lo hi → xs[i] < j) ∧ (∀ i (h : i < xs.size), SetTable.below.go xs j f lo hi ≤ i → j ≤ xs[i])
  | 0, lo, hi, h0, h1, h2, ha, hb => by
    have e : lo = hi := by omega
    subst e
    exact ⟨h2, ha, hb⟩
  | f + 1, lo, hi, h0, h1, h2, ha, hb => by
    unfold SetTable.below.go
    by_cases hl : lo < hi
    · rw [if_pos hl]
      have hm : (lo + hi) / 2 < xs.size := by omega
      dsimp only
      rw [getD_lt hm]
      by_cases hx : xs[(lo + hi) / 2] < j
      · rw [if_pos hx]
        refine go_ok R f _ _ (by omega) (by omega) h2 (fun i h hi' => ?_) hb
        rcases Nat.lt_or_eq_of_le (Nat.le_of_lt_succ hi') with g | g
        · exact Nat.lt_trans (at_mono R g hm) hx
        · subst g; exact hx
      · rw [if_neg hx]
        refine go_ok R f _ _ (by omega) (by omega) (by omega) ha (fun i h hi' => ?_)
        rcases Nat.lt_or_eq_of_le hi' with g | g
        · exact Nat.le_of_lt (Nat.lt_of_le_of_lt (Nat.le_of_not_lt hx) (at_mono R g h))
        · subst g; exact Nat.le_of_not_lt hx
    · rw [if_neg hl]
      have e : lo = hi := by omega
      subst e
      exact ⟨h2, ha, hb⟩
theorem below_ok (R : xs.toList.Pairwise (· < ·)) : SetTable.below xs j ≤ xs.size ∧ (∀ i (h : i < xs.size), i < SetTable.below xs j → xs[i] < j) ∧ (∀ i (h : i < xs.size), SetTable.below xs j ≤ i → j ≤ xs[i]) :=
  go_ok R _ 0 _ (by omega) (Nat.zero_le _) (Nat.le_refl _) (fun i h z => absurd z (Nat.not_lt_zero _)) fun i h z => absurd h (Nat.not_lt.mpr z)
theorem insert_rise (R : xs.toList.Pairwise (· < ·)) (hn : xs[SetTable.below xs j]? ≠ some j) : (SetTable.insertAt xs (SetTable.below xs j) j).toList.Pairwise (· < ·) := by
  obtain ⟨h1, h2, h3⟩ := below_ok (j := j) R
  rw [SetTable.toList_insertAt]
  have up : ∀ i (h : i < xs.size), SetTable.below xs j ≤ i → j < xs[i] := fun i h hi => by
    have hb : SetTable.below xs j < xs.size := Nat.lt_of_le_of_lt hi h
    have h4 : j < xs[SetTable.below xs j] := by
      rcases Nat.lt_or_eq_of_le (h3 _ hb (Nat.le_refl _)) with g | g
      · exact g
      · exact absurd (by rw [Array.getElem?_eq_getElem hb, ← g]) hn
    rcases Nat.lt_or_eq_of_le hi with g | g
    · exact Nat.lt_trans h4 (at_mono R g h)
    · subst g; exact h4
  have e : xs.toList = xs.toList.take (SetTable.below xs j) ++ xs.toList.drop (SetTable.below xs j) := (List.take_append_drop _ _).symm
  have R' := R
  rw [e, List.pairwise_append] at R'
  rw [List.pairwise_append, List.pairwise_cons]
  have dn : ∀ a ∈ xs.toList.take (SetTable.below xs j), a < j := fun a ha => by
    obtain ⟨i, hi, rfl⟩ := List.getElem_of_mem ha
    simp only [List.length_take, Array.length_toList] at hi
    rw [List.getElem_take]
    exact h2 i (by omega) (by omega)
  have ab : ∀ a ∈ xs.toList.drop (SetTable.below xs j), j < a := fun a ha => by
    obtain ⟨i, hi, rfl⟩ := List.getElem_of_mem ha
    simp only [List.length_drop, Array.length_toList] at hi
    rw [List.getElem_drop]
    exact up _ (by omega) (by omega)
  refine ⟨R'.1, ⟨ab, R'.2.1⟩, fun a ha b hb => ?_⟩
  rcases List.mem_cons.mp hb with rfl | hb
  · exact dn a ha
  · exact R'.2.2 a ha b hb
theorem below_next (R : xs.toList.Pairwise (· < ·)) {i : Nat} (hi : i < xs.size) : SetTable.below xs (xs[i] + 1) = i + 1 := by
  obtain ⟨h1, h2, h3⟩ := below_ok (j := xs[i] + 1) R
  rcases Nat.lt_trichotomy (SetTable.below xs (xs[i] + 1)) (i + 1) with g | g | g
  · have := h3 i hi (by omega); omega
  · exact g
  · have h5 : i + 1 < xs.size := by omega
    have := h2 (i + 1) h5 g
    have h6 : xs[i] < xs[i + 1] := at_mono R (Nat.lt_succ_self i) h5
    omega
theorem below_zero (R : xs.toList.Pairwise (· < ·)) : SetTable.below xs 0 = 0 := by
  obtain ⟨h1, h2, h3⟩ := below_ok (j := 0) R
  rcases Nat.eq_zero_or_pos (SetTable.below xs 0) with g | g
  · exact g
  · exact absurd (h2 0 (by omega) g) (Nat.not_lt_zero _)
end
theorem no_gap {t : SetTable} (T : Tidy t) (j : Nat) : SetTable.has t.dummies j = false := by rw [T.gaps]; rfl
theorem slot_empty {t : SetTable} (T : Tidy t) {j : Nat} (h : t.slot j = .empty) : t.place[SetTable.below t.place j]? ≠ some j := fun z => by
  unfold SetTable.slot at h
  dsimp only at h
  rw [z] at h
  simp at h
theorem probe_empty {t : SetTable} (T : Tidy t) {g : Nat → Int} {h : Int} : ∀ (f : Nat) (p : SetTable.Probe) {j : Nat} {d : Option Nat}, p.dummy = none → SetTable.probe.go t g h f p = some (.empty j d) → t.slot j = .empty ∧ d = none
  | 0, p, j, d, _, e => by simp [SetTable.probe.go] at e
  | f + 1, p, j, d, hp, e => by
    unfold SetTable.probe.go at e
    have adv : (t.advance p).dummy = none := by
      unfold SetTable.advance
      split
      · exact hp
      · exact hp
    cases hs : t.slot p.j with
    | empty =>
      rw [hs] at e
      simp only [Option.some.injEq, SetTable.Met.empty.injEq] at e
      rw [← e.1, ← e.2]
      exact ⟨hs, hp⟩
    | dummy =>
      exfalso
      unfold SetTable.slot at hs
      dsimp only at hs
      rw [no_gap T] at hs
      split at hs <;> simp at hs
    | live i =>
      rw [hs] at e
      dsimp only at e
      split at e
      · simp at e
      · exact probe_empty T f _ adv e
theorem free_ok {t : SetTable} (T : Tidy t) {h : Int} {j : Nat} {b : Bool} (e : t.freeSlot h = some (j, b)) : t.place[SetTable.below t.place j]? ≠ some j ∧ b = false := by
  unfold SetTable.freeSlot SetTable.probe at e
  split at e
  · rename_i j' d he
    obtain ⟨h1, rfl⟩ := probe_empty T _ _ rfl he
    simp only [Option.getD_none, Option.isSome_none, Option.some.injEq, Prod.mk.injEq] at e
    obtain ⟨rfl, rfl⟩ := e
    exact ⟨slot_empty T h1, rfl⟩
  · cases e
theorem stand_tidy (t : SetTable) (n : Nat) : Tidy (t.standIn n) ∧ (t.standIn n).led = t.led := by
  refine ⟨⟨?_, rfl⟩, rfl⟩
  show (Array.range n).toList.Pairwise (· < ·)
  rw [Array.toList_range]
  exact List.pairwise_lt_range
theorem or_tidy {t : SetTable} (T : Tidy t) (n : Nat) : Tidy (t.orStandIn n) ∧ (t.orStandIn n).led = t.led := by
  unfold SetTable.orStandIn
  split
  · exact ⟨T, rfl⟩
  · exact stand_tidy t n
theorem lay_tidy {t : SetTable} (T : Tidy t) (es : Array (Int × Value)) (h : Int) (x : Value) : Tidy (layNew t es h x).2.1 ∧ (layNew t es h x).2.1.led = t.led := by
  unfold layNew
  split
  · rename_i j b e
    obtain ⟨hn, rfl⟩ := free_ok T e
    have T' : Tidy (t.put j).1 := by
      unfold SetTable.put
      refine ⟨insert_rise T.rise hn, ?_⟩
      dsimp only
      rw [no_gap T]
      exact T.gaps
    have := or_tidy T' (SetTable.insertAt es (t.put j).2 (h, x)).size
    exact ⟨this.1, this.2.trans rfl⟩
  · exact stand_tidy t _
theorem laid_tidy {mask finger moves : Nat} {led plain : Bool} {hs : Array Int} {t' : SetTable} {o : Array Nat} (e : SetTable.laid mask finger moves led plain hs = some (t', o)) : Tidy t' ∧ t'.led = led := by
  unfold SetTable.laid at e
  cases hl : SetTable.layClean mask hs with
  | none => rw [hl] at e; cases e
  | some ow =>
    rw [hl] at e
    simp only [Option.pure_def, Option.bind_eq_bind, Option.bind_some, Option.some.injEq, Prod.mk.injEq] at e
    obtain ⟨e1, _⟩ := e
    subst e1
    refine ⟨⟨?_, rfl⟩, rfl⟩
    dsimp only
    have : ∀ (l : List Nat), l.Pairwise (· < ·) → ((l.filterMap fun j => (ow.getD j none).map (j, ·)).map (·.1)).Pairwise (· < ·) := fun l => by
      induction l with
      | nil => intro _; exact .nil
      | cons a l ih =>
        intro R
        rw [List.pairwise_cons] at R
        rw [List.filterMap_cons]
        cases ow.getD a none with
        | none => exact ih R.2
        | some k =>
          rw [Option.map_some]
          dsimp only
          rw [List.map_cons, List.pairwise_cons]
          refine ⟨fun b hb => ?_, ih R.2⟩
          obtain ⟨⟨c, k'⟩, hc, rfl⟩ := List.mem_map.mp hb
          obtain ⟨a', ha', e'⟩ := List.mem_filterMap.mp hc
          cases hq : ow.getD a' none with
          | none => rw [hq] at e'; cases e'
          | some q =>
            rw [hq, Option.map_some] at e'
            cases e'
            exact R.1 _ ha'
    exact this _ List.pairwise_lt_range
theorem relay_tidy (t : SetTable) (es : Array (Int × Value)) (n : Nat) : Tidy (relayAll t es n).2.1 ∧ (relayAll t es n).2.1.led = t.led := by
  unfold relayAll
  split
  · rename_i t' o e
    dsimp only
    split
    · exact laid_tidy e
    · exact stand_tidy t _
  · exact stand_tidy t _
theorem erase_perm {α : Type} : ∀ (l : List α) {i : Nat} (h : i < l.length), ([l[i]] ++ l.eraseIdx i).Perm l
  | a :: l, 0, _ => by simp
  | a :: l, i + 1, h => by
    have := erase_perm l (i := i) (by simpa using h)
    simp only [List.getElem_cons_succ, List.eraseIdx_cons_succ, List.cons_append, List.nil_append] at this ⊢
    exact (List.Perm.swap a _ _).trans (this.cons a)
theorem pick_perm {α : Type} (next : Nat → Nat) : ∀ (f k : Nat) (l : List α) (out : Array α), l.length = f → ((pickOrder.go next f k l out).toList).Perm (out.toList ++ l)
  | 0, k, l, out, h => by
    have : l = [] := List.length_eq_zero_iff.mp h
    subst this
    simp [pickOrder.go]
  | f + 1, k, l, out, h => by
    unfold pickOrder.go
    have hlt : next k % l.length < l.length := Nat.mod_lt _ (by omega)
    rw [List.getElem?_eq_getElem hlt]
    dsimp only
    refine (pick_perm next f (k + 1) _ _ (by rw [List.length_eraseIdx_of_lt hlt]; omega)).trans ?_
    rw [Array.toList_push, List.append_assoc]
    refine List.Perm.append_left _ ?_
    exact erase_perm l hlt
theorem pick_all {α : Type} (next : Nat → Nat) (xs : Array α) : (pickOrder next xs).toList.Perm xs.toList := by
  have := pick_perm next xs.size 0 xs.toList #[] (by simp)
  simpa [pickOrder] using this
end SS
end
section
set_option Elab.async false
set_option linter.all false
set_option maxRecDepth 100000
namespace SS
open PySem PyProof.Rows
noncomputable def vI : Value → Int
  | .int i _ => i
  | _ => 0
noncomputable def IsS (prog : Program) (w : World) (h : Heap) (a : Addr) (ns : List Int) : Prop :=
  ∃ o es ep t, h.get? a = some o ∧ o.ExactSet ∧ o.data = .set es ep t ∧ ElemsOf (intKind prog w) es.toList ∧ (es.toList.map fun e => vI e.2).Perm ns ∧ es.size < scanBound ∧ t.fits es.size = true ∧ Tidy t ∧ t.led = !(w.params.followText "set-order")
section
variable {prog : Program} {w : World} {A : Around} {E : Value → Shared → Prop} {s : Shared}
theorem IsS.at {h h' : Heap} {a : Addr} {ns : List Int} (x : IsS prog w h a ns) (k : ∀ o, h.get? a = some o → h'.get? a = some o) : IsS prog w h' a ns := by
  obtain ⟨o, es, ep, t, e, r⟩ := x
  exact ⟨o, es, ep, t, k o e, r⟩
theorem el_int {e : Int × Value} (h : ∃ k, (intKind prog w).is k e.2 = true ∧ e.1 = (intKind prog w).hash k) : ∃ t, e.2 = .int (vI e.2) t := by
  obtain ⟨k, hk, _⟩ := h
  obtain ⟨t, z⟩ := Value.isInt_shape hk
  rw [z]
  exact ⟨t, rfl⟩
theorem is_iff {e : Int × Value} (h : ∃ k, (intKind prog w).is k e.2 = true ∧ e.1 = (intKind prog w).hash k) (k : Int) : (intKind prog w).is k e.2 = true ↔ vI e.2 = k := by
  obtain ⟨t, z⟩ := el_int h
  obtain ⟨x, y⟩ := e
  dsimp only at z ⊢
  generalize vI y = i at z
  subst z
  constructor
  · intro q
    obtain ⟨t', z'⟩ := Value.isInt_shape (k := k) (v := .int i t) q
    cases z'
    rfl
  · rintro rfl
    exact intKind_is _ _ _ _
theorem put_is {a : Addr} {o : Obj} {es es' : Array (Int × Value)} {ep : Nat} {t t' : SetTable} (ho : s.heap.get? a = some o) (hd : o.data = .set es ep t) :
    (s.heap.update a (Obj.putSet es' t')).get? a = some { o with data := .set es' (ep + 1) t' } := by
  have z := Heap.get?_update_self (Obj.putSet es' t') ho (by rw [putSet_of es' t' hd]; rfl)
  rw [putSet_of es' t' hd] at z
  exact z
theorem add_end {a : Addr} {o : Obj} {es es1 : Array (Int × Value)} {ep : Nat} {t t1 : SetTable} {ns : List Int} {R : Option Bool → Shared → Prop} {dm : Bool} (g : Bool → Sem Unit)
    (hg : ∀ (b : Bool) (s₁ : Shared) (Q' : Unit → Shared → Prop), Q' () s₁ → wpAny (model prog w) A (g b) Q' E s₁) (ho : s.heap.get? a = some o) (hx : o.ExactSet) (hd : o.data = .set es ep t)
    (h1 : ElemsOf (intKind prog w) es1.toList) (h2 : (es1.toList.map fun e => vI e.2).Perm ns) (h3 : es1.size < scanBound) (h4 : t1.fits es1.size = true) (h5 : Tidy t1) (h6 : t1.led = !(w.params.followText "set-order"))
    (h : ∀ h', Heap.SameBut a s.heap h' → IsS prog w h' a ns → R (some true) { s with heap := h' }) :
    wpAny (model prog w) A (do
      storeSet a es1 t1
      if (!dm && t1.tooFull) = true then do
        g (relayAll t1 es1 (SetTable.grown es1.size)).2.2
        storeSet a (relayAll t1 es1 (SetTable.grown es1.size)).1 (relayAll t1 es1 (SetTable.grown es1.size)).2.1
        pure (some true)
      else pure (some true)) R E s := by
  refine wpAny_bind (wpAny_storeSet_of ho hd ?_ (fits_of_scanBound h3))
  have g1 := put_is (es' := es1) (t' := t1) ho hd
  have sb := Heap.SameBut.update s.heap a (Obj.putSet es1 t1)
  split
  · have p1 := relayAll_perm t1 es1 (SetTable.grown es1.size)
    have p2 := relayAll_fits t1 es1 (SetTable.grown es1.size)
    have p3 := relay_tidy t1 es1 (SetTable.grown es1.size)
    generalize relayAll t1 es1 (SetTable.grown es1.size) = L at p1 p2 p3 ⊢
    obtain ⟨es2, t2, gv⟩ := L
    dsimp only at p1 p2 p3 ⊢
    have sz : es2.size = es1.size := by rw [← Array.length_toList, p1.length_eq, Array.length_toList]
    refine wpAny_bind (hg _ _ _ ?_)
    refine wpAny_bind (wpAny_storeSet_of g1 rfl ?_ (fits_of_scanBound (by rw [sz]; exact h3)))
    refine wpAny_pure (h _ (sb.trans (Heap.SameBut.update ..)) ⟨_, es2, ep + 1 + 1, t2, put_is (s := { s with heap := s.heap.update a (Obj.putSet es1 t1) }) g1 rfl, hx, rfl, h1.perm p1, (p1.map _).trans h2, by rw [sz]; exact h3, p2, p3.1, p3.2.trans h6⟩)
  · exact wpAny_pure (h _ sb ⟨_, es1, ep + 1, t1, g1, hx, rfl, h1, h2, h3, h4, h5, h6⟩)
theorem add_is {a : Addr} {k : Int} {u : Tok} {ns : List Int} {Q : Bool → Shared → Prop} (hS : IsS prog w s.heap a ns) (hn : ns.length + 1 < scanBound)
    (h : ∀ b h', Heap.SameBut a s.heap h' → IsS prog w h' a (step_dedup ns k) → Q b { s with heap := h' }) : wpAny (model prog w) A (setAddHashed a (.int k u) ((intKind prog w).hash k)) Q E s := by
  obtain ⟨o, es, ep, t, ho, hx, hd, hel, hp, hb, hf, T, hl⟩ := id hS
  have hkey : (intKind prog w).is k (.int k u) = true := intKind_is _ _ _ _
  have hsz : es.size = ns.length := by rw [← hp.length_eq, List.length_map, Array.length_toList]
  unfold setAddHashed setAddHashedIn
  refine wpAny_holding (wpAny_bind (wpAny_setState_of ho hd hf ?_))
  dsimp only
  rw [byScan_of (x := .int k u) rfl hb hel]
  simp only [↓reduceIte]
  unfold setAddByScan
  refine wpAny_bind (wpAny_bind (wpAny_rule (wpAny_bind (wpAny_setScan_of hkey ho hd hf hel ?_))))
  cases hr : List.findIdx? (fun e => (intKind prog w).is k e.2) es.toList with
  | some j =>
    dsimp only
    obtain ⟨hj, hq, _⟩ := List.findIdx?_eq_some_iff_getElem.mp hr
    have hin : k ∈ ns := hp.mem_iff.mp (List.mem_map.mpr ⟨es.toList[j], List.getElem_mem hj, (is_iff (hel _ (List.getElem_mem hj)).1 k).mp hq⟩)
    have e1 : step_dedup ns k = ns := by
      unfold step_dedup
      rw [if_pos (List.any_eq_true.mpr ⟨k, hin, by simp⟩)]
    refine wpAny_pure (wpAny_pure ?_)
    have z := h false s.heap (Heap.SameBut.refl a s.heap) (by rw [e1]; exact hS)
    exact z
  | none =>
    dsimp only
    have hno : ¬ k ∈ ns := fun z => by
      obtain ⟨e, he, q⟩ := List.mem_map.mp (hp.mem_iff.mpr z)
      have := List.findIdx?_eq_none_iff.mp hr e he
      rw [(is_iff (hel e he).1 k).mpr q] at this
      cases this
    have e1 : step_dedup ns k = ns ++ [k] := by
      unfold step_dedup
      rw [if_neg fun z => ?_]
      obtain ⟨y, hy, q⟩ := List.any_eq_true.mp z
      exact hno (by rw [← eq_of_beq q]; exact hy)
    have gv : ∀ (b : Bool) {s₁ : Shared} {Q' : Unit → Shared → Prop}, Q' () s₁ → wpAny (model prog w) A (match b with | true => rule "set.scan.the-table-gave-way" | false => pure ()) Q' E s₁ :=
      fun b _ _ q => by cases b <;> first | exact wpAny_pure q | exact wpAny_rule q
    have p1 := layNew_perm t es ((intKind prog w).hash k) (.int k u)
    have p2 := layNew_fits t es ((intKind prog w).hash k) (.int k u)
    have p3 := lay_tidy T es ((intKind prog w).hash k) (.int k u)
    generalize layNew t es ((intKind prog w).hash k) (.int k u) = L at p1 p2 p3 ⊢
    obtain ⟨es1, t1, dm, gave⟩ := L
    dsimp only at p1 p2 p3 ⊢
    rw [Array.toList_push] at p1
    have q1 : ElemsOf (intKind prog w) es1.toList := (hel.push hkey rfl).perm p1
    have q2 : (es1.toList.map fun e => vI e.2).Perm (step_dedup ns k) := by
      rw [e1]
      refine (p1.map _).trans ?_
      rw [List.map_append]
      exact hp.append_right _
    have q3 : es1.size < scanBound := by
      rw [← Array.length_toList, p1.length_eq, List.length_append, Array.length_toList, hsz]
      exact hn
    refine wpAny_bind (gv _ ?_)
    split
    · refine wpAny_bind ?_
      rw [hashByValue_scannable 8 (x := .int k u) rfl]
      refine wpAny_pure ?_
      show wpAny _ _ _ _ _ _
      refine add_end _ ?_ ho hx hd q1 q2 q3 p2 p3.1 (p3.2.trans hl) ?_
      · intro b s₁ Q' q; cases b <;> first | exact wpAny_pure q | exact wpAny_rule q
      · intro h' sb hS'; dsimp only; exact wpAny_pure (h true h' sb hS')
    · refine wpAny_bind (wpAny_pure ?_)
      simp only [↓reduceIte]
      refine add_end _ ?_ ho hx hd q1 q2 q3 p2 p3.1 (p3.2.trans hl) ?_
      · intro b s₁ Q' q; cases b <;> first | exact wpAny_pure q | exact wpAny_rule q
      · intro h' sb hS'; dsimp only; exact wpAny_pure (h true h' sb hS')
end
end SS
end
section
set_option Elab.async false
set_option linter.all false
set_option maxRecDepth 100000
namespace SS
open PySem PyProof.Rows
section
variable {prog : Program} {w : World} {A : Around} {E : Value → Shared → Prop} {s : Shared}
theorem fill_loop {R : Result → Shared → Prop} {I S : Addr} {fp wr : List Addr} {n : Nat} {P : Nat → Value → Prop} {St : Nat → Heap → Prop} (W : Walks prog w A.in1 I fp wr n P St) (hS : S ∉ fp)
    (val : Nat → Int) (hv : ∀ i v, P i v → ∃ t, v = .int (val i) t) (hb : n + 1 < scanBound) : ∀ (k i : Nat) (s : Shared), n - i = k → i ≤ n → St i s.heap → IsS prog w s.heap S (firstMet val i) →
      (∀ h' tk, (∀ b o, b ∉ S :: wr → s.heap.get? b = some o → h'.get? b = some o) → IsS prog w h' S (firstMet val n) → R (.ok (.ret .none)) { s with heap := h', toks := tk }) →
      codeAny (model prog w) A (.builtin "set.update.loop" ⟨[.ref S, .ref I], []⟩) R s := by
  have hw : S ∉ wr := fun z => hS (W.sub _ z)
  intro k
  induction k with
  | zero =>
    intro i s hk hi st x hR
    obtain rfl : i = n := by omega
    refine codeAny_builtin F.entry_set_update_loop ?_
    rw [Around.under_plainId F.plain_set_update_loop _]
    show wpAny _ A.in1 (pyNext (.ref I) >>= _) _ _ s
    refine wpAny_bind (W.done s _ _ st fun h' tk kp => ?_)
    show wpAny _ A.in1 (ret Value.none) _ _ _
    exact wpAny_pure (hR h' tk (fun b o nb e => kp b o (fun z => nb (List.mem_cons_of_mem _ z)) e) (x.at fun o e => kp S o hw e))
  | succ k ih =>
    intro i s hk hi st x hR
    have lt : i < n := by omega
    refine codeAny_builtin F.entry_set_update_loop ?_
    rw [Around.under_plainId F.plain_set_update_loop _]
    show wpAny _ A.in1 (pyNext (.ref I) >>= _) _ _ s
    refine wpAny_bind (W.item i s _ _ lt st fun v h1 t1 hP st1 kp => ?_)
    obtain ⟨t, rfl⟩ := hv i v hP
    have x1 : IsS prog w h1 S (firstMet val i) := x.at fun o e => kp S o hw e
    show wpAny _ A.in1 (holding [Value.int (val i) t] (setAdd S (.int (val i) t)) >>= _) _ _ _
    refine wpAny_bind (wpAny_holding ?_)
    unfold setAdd
    refine wpAny_holding (wpAny_bind ((intKind prog w).pyHash (k := val i) (intKind_is _ _ _ _) ?_))
    refine add_is (s := { { s with heap := h1, toks := t1 } with toks := t1 + 1 }) x1 (by have := firstMet_length_le val i; omega) fun b h2 sb x2 => ?_
    rw [← firstMet_succ] at x2
    refine wpAny_pure ⟨plainId_quiet F.plain_set_update_loop _, ih (i + 1) _ (by omega) lt (W.frame _ _ _ st1 fun c hc o e => ?_) x2 fun h3 t3 kp3 x3 => ?_⟩
    · rw [sb.2 c fun z => hS (by rw [← z]; exact hc)]; exact e
    · refine hR h3 t3 (fun c o nc e => kp3 c o nc ?_) x3
      rw [sb.2 c fun z => nc (by rw [z]; exact List.mem_cons_self)]
      exact kp c o (fun z => nc (List.mem_cons_of_mem _ z)) e
noncomputable def fresh (w : World) : Obj := { cls := .type "set", dict := none, data := .set #[] 0 (.fresh 0 0 !(w.params.followText "set-order")) }
theorem fresh_is {h : Heap} {a : Addr} (e : h.get? a = some (fresh w)) : IsS prog w h a [] :=
  ⟨_, #[], 0, _, e, ⟨rfl, rfl, rfl⟩, rfl, fun _ z => by simp at z, by simp, by decide, by rfl, ⟨by simp [SetTable.fresh], rfl⟩, rfl⟩
theorem new_led (a : Value) {Q₁ : Value → Shared → Prop} (h : Q₁ (.ref s.heap.objs.size) { s with heap := s.heap.push (fresh w) }) :
    codeAny (model prog w) A (.call (.builtin "set.__new__") ⟨[.type "set", a], []⟩) (wants Q₁ E) s := by
  refine codeAny_of_tree ?_
  show wpAny _ A.in1 (do checkBuiltinCall "set.__new__" ⟨[.type "set", a], []⟩; again (.builtin "set.__new__" ⟨[.type "set", a], []⟩)) _ _ s
  refine wpAny_bind (wpAny_of_eq (F.newCall_set_1 a) (wpAny_pure ⟨plainId_quiet F.plain_set_new _, codeAny_builtin F.entry_set_new ?_⟩))
  rw [Around.under_plainId F.plain_set_new _]
  unfold Builtin.«set.__new__» Builtin.Frozenset.newClass
  have sub := sub_set_self
  obtain ⟨hp, g, d, tk, os⟩ := s
  dsimp only
  wp_walk
  refine wpAny_askSetting (wpAny_pure ?_)
  dsimp only
  simp only [newObj]
  exact wpAny_bind (wpAny_alloc (wpAny_pure (wpAny_pure h)))
end
end SS
end
section
set_option Elab.async false
set_option linter.all false
set_option maxRecDepth 100000
namespace SS
open PySem PyProof.Rows
section
variable {prog : Program} {w : World} {A : Around} {E : Value → Shared → Prop} {s : Shared}
set_option maxHeartbeats 3200000 in
theorem sset_list {l : Addr} {its : Array Value} {ns : List Int} {Q : Value → Shared → Prop} (hh : A.handled = none) (hl : s.heap.IsList l its) (hi : IntsAre its.toList ns) (hb : its.size + 1 < scanBound)
    (h : ∀ (h' : Heap) (tk : Nat), IsS prog w h' s.heap.objs.size (firstMet (fun i => ns.getD i 0) its.size) → (∀ b o, s.heap.get? b = some o → h'.get? b = some o) → Q (.ref s.heap.objs.size) { s with heap := h', toks := tk }) :
    wpAny (model prog w) A (call (.type "set") [.ref l]) Q E s := by
  obtain ⟨c, tl, hmro⟩ := F.called_set.mro
  have hmade := F.called_set.made
  have hsub := F.called_set.sub
  refine wpAny_call (codeAny_of_tree ?_)
  show wpAny _ _ (callAny (.type "set") _) _ _ _
  refine wpAny_pure ⟨Code.quiet_builtin _ (by decide +kernel), codeAny_builtin F.entry_type_call ?_⟩
  rw [Around.under_plain (weight_type_call_type "set" [.ref l] []) rfl]
  have h1 := F.called_set.notType
  have h2 := F.called_set.canCreate
  have hct := F.typeCall_set_1 (.ref l)
  repeat (any_goals (first | assumption | wp_step))
  refine codeAny_mono (new_led (.ref l) (E := E) (Q₁ := fun v s₁ => v = .ref s.heap.objs.size ∧ s₁ = { s with heap := s.heap.push (fresh w) }) ⟨rfl, rfl⟩) fun r s₁ hr => ?_
  cases r with
  | error e => exact hr
  | ok fl =>
    cases fl with
    | ret obj =>
      obtain ⟨rfl, rfl⟩ := hr
      have hS : (s.heap.push (fresh w)).get? s.heap.objs.size = some (fresh w) := Heap.get?_push_size _ rfl
      have hT : Shared.TypeIs { s with heap := s.heap.push (fresh w) } (.ref s.heap.objs.size) "set" := ⟨_, hS, rfl⟩
      have hli := F.called_set.init.lookup
      have hbi := F.called_set.init.bind (.ref s.heap.objs.size)
      repeat (any_goals (first | assumption | wp_step))
      refine codeAny_mono (codeAny_call_builtin (R := wants (fun r s₂ => r = .none ∧ ∃ h' tk, s₂ = { s with heap := h', toks := tk } ∧ IsS prog w h' s.heap.objs.size (firstMet (fun i => ns.getD i 0) its.size) ∧
          (∀ b o, s.heap.get? b = some o → h'.get? b = some o)) E) F.called_set.init.plain F.entry_set_init (check_set_init_1 hT ?_)) fun r₂ s₂ hr₂ => ?_
      · obtain ⟨ol, hol, hcl, nl, hdl⟩ := hl
        obtain ⟨ocls, odict, odata, oslots⟩ := ol
        simp only at hcl hdl
        subst hcl; subst hdl
        have hol' : (s.heap.push (fresh w)).get? l = some { cls := .type "list", dict := odict, data := .seq its nl, slots := oslots } := Heap.get?_push_of_some _ hol
        have hsls := F.sub_list_set
        have hslf := F.sub_list_frozenset
        have hne : (Value.type "list" == Value.type "dict") = false := by decide
        have hl1 : (s.heap.push (fresh w)).IsList l its := ⟨_, hol', rfl, nl, rfl⟩
        unfold Builtin.«set.__init__» noKeywords Builtin.Frozenset.updateFrom
        generalize hPI : pyIter = PI
        wp_walk
        subst hPI
        refine wpAny_pyIter_list hl1 ?_
        refine wpAny_bind (wpAny_runValue ?_)
        have lt : l < s.heap.objs.size := Heap.lt_size hol
        have nI : l ≠ (s.heap.push (fresh w)).objs.size := by rw [Heap.size_push]; exact Nat.ne_of_lt (Nat.lt_succ_of_lt lt)
        have nf : s.heap.objs.size ∉ [(s.heap.push (fresh w)).objs.size, l] := by
          rw [Heap.size_push]
          intro z
          rcases List.mem_cons.mp z with z | z
          · exact absurd z (Nat.ne_of_lt (Nat.lt_succ_self _))
          · exact absurd (List.mem_singleton.mp z) (Nat.ne_of_gt lt)
        refine fill_loop (Walks.list (by simp [hh]) _ l nI its) nf (fun i => ns.getD i 0) (fun i v hv => IntsAre.int_at hi i v (by rw [Array.getElem?_toList]; exact hv)) hb (its.size - 0) 0 _ (by omega) (Nat.zero_le _)
          ⟨⟨_, Heap.get?_push_size _ rfl, rfl, rfl⟩, hl1.push _⟩ (by rw [firstMet_zero]; exact fresh_is (Heap.get?_push_of_some _ hS)) fun h' tk kp x => ?_
        show wpAny _ _ _ _ _ _
        refine wpAny_pure ?_
        show wpAny _ _ (ret Value.none) _ _ _
        refine wpAny_pure ⟨rfl, h', tk, rfl, x, fun b o e => kp b o (fun z => ?_) (Heap.get?_push_of_some _ (Heap.get?_push_of_some _ e))⟩
        have hbz := Heap.lt_size e
        rcases List.mem_cons.mp z with z | z
        · exact absurd z (Nat.ne_of_lt hbz)
        · have z := List.mem_singleton.mp z
          rw [Heap.size_push] at z
          exact absurd z (Nat.ne_of_lt (Nat.lt_succ_of_lt hbz))
      · cases r₂ with
        | error e => exact hr₂
        | ok fl₂ =>
          cases fl₂ with
          | ret r =>
            obtain ⟨rfl, h', tk, rfl, x, kp⟩ := hr₂
            repeat (any_goals (first | assumption | wp_step))
            exact h _ _ x kp
          | _ => exact hr₂.elim
    | _ => exact hr.elim
end
end SS
end
section
set_option Elab.async false
set_option linter.all false
set_option maxRecDepth 100000
namespace SS
open PySem PyProof.Rows
theorem e_iter : entryFor table "set.__iter__" = some Builtin.«frozenset.__iter__» := entryFor_alias (id' := "frozenset.__iter__") (by kernel_rfl) rfl (by decide +kernel) (by kernel_rfl)
theorem sl_next : Slot "set_iterator" "__next__" "set_iterator.__next__" :=
  .of (owner := "set_iterator") (n := "__next__") (by rw [typeLookup_type, builtinLookup_eq_fast]; kernel_rfl) (by decide +kernel) (by decide +kernel) (by decide +kernel) (by first | exact .inl (by decide +kernel) | exact .inr (by decide +kernel)) (by rw [isSubtype_type]; kernel_rfl)
theorem sl_self : Slot "set_iterator" "__iter__" "set_iterator.__iter__" :=
  .of (owner := "set_iterator") (n := "__iter__") (by rw [typeLookup_type, builtinLookup_eq_fast]; kernel_rfl) (by decide +kernel) (by decide +kernel) (by decide +kernel) (by first | exact .inl (by decide +kernel) | exact .inr (by decide +kernel)) (by rw [isSubtype_type]; kernel_rfl)
theorem e_next : entryFor table "set_iterator.__next__" = some Builtin.«set_iterator.__next__» := entryFor_of_fast (by kernel_rfl)
theorem e_self : entryFor table "set_iterator.__iter__" = some Builtin.«dict_keyiterator.__iter__» := entryFor_alias (id' := "dict_keyiterator.__iter__") (by kernel_rfl) rfl (by decide +kernel) (by kernel_rfl)
theorem a_next (a : Value) : argsOk "set_iterator.__next__" ⟨[a], []⟩ := by unfold argsOk; kernel_rfl
theorem a_self (a : Value) : argsOk "set_iterator.__iter__" ⟨[a], []⟩ := by unfold argsOk; kernel_rfl
noncomputable def ItAt (h : Heap) (I a : Addr) (first : Value) (i n ep : Nat) : Prop := ∃ o, h.get? I = some o ∧ o.cls = .type "set_iterator" ∧ o.data = .fields #[first, .int i 0, .ref a, .int n 0, .int ep 0]
noncomputable def SAt (h : Heap) (a : Addr) (es : Array (Int × Value)) (ep : Nat) (t : SetTable) : Prop := ∃ o, h.get? a = some o ∧ o.ExactSet ∧ o.data = .set es ep t
theorem ItAt.ty {s : Shared} {I a : Addr} {f : Value} {i n ep : Nat} (x : ItAt s.heap I a f i n ep) : s.TypeIs (.ref I) "set_iterator" := let ⟨o, h, c, _⟩ := x; ⟨o, h, c⟩
theorem SAt.ty {s : Shared} {a : Addr} {es : Array (Int × Value)} {ep : Nat} {t : SetTable} (x : SAt s.heap a es ep t) : s.TypeIs (.ref a) "set" := let ⟨o, h, c, _⟩ := x; ⟨o, h, c.1⟩
theorem ItAt.at {h h' : Heap} {I a : Addr} {f : Value} {i n ep : Nat} (x : ItAt h I a f i n ep) (k : ∀ o, h.get? I = some o → h'.get? I = some o) : ItAt h' I a f i n ep := let ⟨o, e, r⟩ := x; ⟨o, k o e, r⟩
theorem SAt.at {h h' : Heap} {a : Addr} {es : Array (Int × Value)} {ep : Nat} {t : SetTable} (x : SAt h a es ep t) (k : ∀ o, h.get? a = some o → h'.get? a = some o) : SAt h' a es ep t := let ⟨o, e, r⟩ := x; ⟨o, k o e, r⟩
inductive Fst (w : World) (a : Addr) (es : Array (Int × Value)) (ep : Nat) (t : SetTable) (ord : List Value) (p : Addr) (h : Heap) (i : Nat) : Value → Prop
  | text (sl : Nat) (b : w.params.followText "set-order" = true) (e : ord = (pickOrder (w.params.setOrder a ep) es).toList.map (·.2)) : Fst w a es ep t ord p h i (.int sl 0)
  | led (sl : Nat) (b : w.params.followText "set-order" = false) (d : (!t.plain && decide (es.size > 1)) = false) (e : ord = es.toList.map (·.2)) (z : SetTable.below t.place sl = i) : Fst w a es ep t ord p h i (.int sl 0)
  | draw (ps : List Nat) (b : w.params.followText "set-order" = false) (tp : h.IsTuple p (ps.map fun (j : Nat) => rawInt j).toArray) (pm : ps.Perm (List.range es.size)) (e : ord = ps.map fun j => ((es[j]?).map (·.2)).getD .none) : Fst w a es ep t ord p h i (.ref p)
theorem Fst.at {w : World} {a : Addr} {es : Array (Int × Value)} {ep : Nat} {t : SetTable} {ord : List Value} {p : Addr} {h h' : Heap} {i : Nat} {v : Value} (x : Fst w a es ep t ord p h i v) (k : ∀ o, h.get? p = some o → h'.get? p = some o) : Fst w a es ep t ord p h' i v := by
  cases x with
  | text sl b e => exact .text sl b e
  | led sl b d e z => exact .led sl b d e z
  | draw ps b tp pm e => exact .draw ps b (by obtain ⟨o, q, r⟩ := tp; exact ⟨o, k o q, r⟩) pm e
section
variable {prog : Program} {w : World} {A : Around} {E : Value → Shared → Prop} {s : Shared}
theorem choose_any {M : Model} {src : Source} {n : Nat} {Q : Nat → Shared → Prop} (hn : n ≠ 0) (h : ∀ i d, i < n → Q i { s with drawn := d }) : wpAny M A (choose src n) Q E s :=
  fun _ _ _ => ⟨hn, h _ _ (Nat.mod_lt _ (Nat.pos_of_ne_zero hn))⟩
theorem draw_any {M : Model} {α : Type} : ∀ (n : Nat) (xs : List α) (s : Shared) (Q : List α → Shared → Prop), xs.length = n → (∀ l d, l.Perm xs → Q l { s with drawn := d }) → wpAny M A (drawOrder n xs) Q E s
  | 0, xs, s, Q, hn, h => by
    have : xs = [] := List.length_eq_zero_iff.mp hn
    subst this
    exact wpAny_pure (h [] s.drawn .nil)
  | n + 1, [], s, Q, hn, h => by cases hn
  | n + 1, x :: xs, s, Q, hn, h => by
    unfold drawOrder
    refine wpAny_bind (choose_any (by simp) fun i d hi => ?_)
    rw [List.getElem?_eq_getElem hi]
    dsimp only
    refine wpAny_bind (draw_any n _ _ _ (by rw [List.length_eraseIdx_of_lt hi]; simpa using hn) fun l d' pm => ?_)
    exact wpAny_pure (h _ d' ((pm.cons _).trans (erase_perm _ hi)))
theorem iter_self {I a : Addr} {f : Value} {i n ep : Nat} {Q : Value → Shared → Prop} (x : ItAt s.heap I a f i n ep) (h : Q (.ref I) s) : wpAny (model prog w) A (pyIter (.ref I)) Q E s := by
  refine wpAny_pyIter_slot x.ty sl_self (wpAny_call_entry sl_self x.ty e_self ?_ (a_self _))
  show wpAny _ _ (ret (.ref I)) _ _ s
  exact wpAny_pure ⟨_, rfl, "set_iterator", _, x.ty, sl_next.lookup, h⟩
theorem iter_set {a : Addr} {es : Array (Int × Value)} {ep : Nat} {t : SetTable} {Q : Value → Shared → Prop} (x : SAt s.heap a es ep t) (hf : t.fits es.size = true) (T : Tidy t) (hsz : es.size ≤ sizeLine)
    (h : ∀ I p ord first h' d, (p = a ∨ s.heap.objs.size ≤ p) → s.heap.objs.size ≤ I → I ≠ p → a ≠ I → (∀ b o, s.heap.get? b = some o → h'.get? b = some o) → ItAt h' I a first 0 es.size ep → Fst w a es ep t ord p h' 0 first → ord.Perm (es.toList.map (·.2)) → Q (.ref I) { s with heap := h', drawn := d }) :
    wpAny (model prog w) A (pyIter (.ref a)) Q E s := by
  obtain ⟨o, ho, hx, hd⟩ := id x
  have la : a < s.heap.objs.size := Heap.lt_size ho
  refine wpAny_pyIter_slot x.ty F.slot_set_iter (wpAny_call_entry F.slot_set_iter x.ty e_iter ?_ (F.args_set_iter_1 _))
  unfold Builtin.«frozenset.__iter__»
  refine wpAny_bind (wpAny_bind (wpAny_pure (wpAny_pure ?_)))
  dsimp only
  refine wpAny_bind ?_
  unfold Builtin.Frozenset.sizeOf
  refine wpAny_bind (wpAny_setEntries_of ho hd hf (wpAny_pure ?_))
  refine wpAny_bind ?_
  unfold setDrawn
  refine wpAny_bind (wpAny_setState_of ho hd hf ?_)
  dsimp only
  unfold setsByText
  refine wpAny_bind (wpAny_bind (wpAny_askSetting (wpAny_pure (wpAny_pure ?_))))
  split
  · rename_i hc
    have hc : (!(w.params.followText "set-order") && (!t.plain && decide (es.size > 1))) = true := hc
    rw [Bool.and_eq_true] at hc
    have hb : w.params.followText "set-order" = false := by simpa using hc.1
    refine wpAny_bind (draw_any _ _ _ _ (by simp) fun ps d pm => ?_)
    refine wpAny_bind (wpAny_newTuple ?_ (by rw [List.length_map, pm.length_eq, List.length_range]; exact hsz))
    have q1 := Heap.get?_push_of_some { cls := .type "tuple", data := .seq (List.map (fun (i : Nat) => rawInt i) ps).toArray } ho
    refine wpAny_bind (wpAny_setEpoch_of q1 hd hf ?_)
    refine wpAny_bind (wpAny_newObj_type (wpAny_pure ⟨_, rfl, "set_iterator", _, ⟨_, Heap.get?_push_size _ rfl, rfl⟩, sl_next.lookup, ?_⟩))
    refine h _ s.heap.objs.size _ _ _ d ?_ ?_ ?_ ?_ (fun b o e => Heap.get?_push_of_some _ (Heap.get?_push_of_some _ e)) ⟨_, Heap.get?_push_size _ rfl, rfl, rfl⟩ (.draw ps hb ⟨_, Heap.get?_push_of_some _ (Heap.get?_push_size _ rfl), rfl, 0, rfl⟩ pm rfl) ?_
    · exact .inr (Nat.le_refl _)
    · rw [Heap.size_push]; exact Nat.le_succ _
    · rw [Heap.size_push]; exact Nat.succ_ne_self _
    · rw [Heap.size_push]; exact Nat.ne_of_lt (Nat.lt_succ_of_lt la)
    · refine (pm.map _).trans ?_
      have e : (List.range es.size).map (fun j => ((es[j]?).map (·.2)).getD Value.none) = es.toList.map (·.2) := by
        apply List.ext_getElem
        · simp
        · intro i h1 h2
          have : i < es.size := by simpa using h1
          simp [this]
      rw [e]
  · rename_i hc
    have hc : ¬ (!(w.params.followText "set-order") && (!t.plain && decide (es.size > 1))) = true := hc
    refine wpAny_bind (wpAny_pure ?_)
    refine wpAny_bind (wpAny_setEpoch_of ho hd hf ?_)
    refine wpAny_bind (wpAny_newObj_type (wpAny_pure ⟨_, rfl, "set_iterator", _, ⟨_, Heap.get?_push_size _ rfl, rfl⟩, sl_next.lookup, ?_⟩))
    cases hb : w.params.followText "set-order" with
    | true =>
      exact h _ a _ _ _ s.drawn (.inl rfl) (Nat.le_refl _) (Nat.ne_of_gt la) (Nat.ne_of_lt la) (fun b o e => Heap.get?_push_of_some _ e) ⟨_, Heap.get?_push_size _ rfl, rfl, rfl⟩ (.text 0 hb rfl) ((pick_all _ es).map _)
    | false =>
      refine h _ a _ _ _ s.drawn (.inl rfl) (Nat.le_refl _) (Nat.ne_of_gt la) (Nat.ne_of_lt la) (fun b o e => Heap.get?_push_of_some _ e) ⟨_, Heap.get?_push_size _ rfl, rfl, rfl⟩ (.led 0 hb ?_ rfl (below_zero T.rise)) (.refl _)
      rw [hb] at hc
      simpa using hc
theorem nx_text {a : Addr} {es : Array (Int × Value)} {sl i ep : Nat} {t : SetTable} {Q : Option (Value × Nat) → Shared → Prop} (x : SAt s.heap a es ep t) (hf : t.fits es.size = true) (b : w.params.followText "set-order" = true)
    (h : Q ((((pickOrder (w.params.setOrder a ep) es).toList.map (·.2))[i]?).map fun v => (v, sl)) s) : wpAny (model prog w) A (setNext a sl i ep) Q E s := by
  obtain ⟨oa, hoa, hxa, hda⟩ := id x
  unfold setNext
  refine wpAny_bind (wpAny_setState_of hoa hda hf ?_)
  dsimp only
  unfold setsByText
  refine wpAny_bind (wpAny_bind (wpAny_askSetting (wpAny_pure ?_)))
  rw [show (⟨(model prog w).prog, (model prog w).w.params⟩ : Setting).params.followText "set-order" = true from b, if_pos rfl, if_neg (by simp)]
  refine wpAny_bind ?_
  unfold setWalk setsByText
  refine wpAny_bind (wpAny_setState_of hoa hda hf ?_)
  dsimp only
  refine wpAny_bind (wpAny_bind (wpAny_askSetting (wpAny_pure ?_)))
  rw [show (⟨(model prog w).prog, (model prog w).w.params⟩ : Setting).params.followText "set-order" = true from b, if_pos rfl]
  refine wpAny_bind (wpAny_askSetting (wpAny_pure (wpAny_pure ?_)))
  have e : (((pickOrder (w.params.setOrder a ep) es).toList.map (·.2))[i]?).map (fun v => (v, sl)) = ((pickOrder (w.params.setOrder a ep) es)[i]?).map fun e => (e.2, sl) := by
    rw [List.getElem?_map, Option.map_map, Array.getElem?_toList]; rfl
  rw [e] at h
  exact h
theorem nx_led {a : Addr} {es : Array (Int × Value)} {sl i ep : Nat} {t : SetTable} {Q : Option (Value × Nat) → Shared → Prop} (x : SAt s.heap a es ep t) (hf : t.fits es.size = true) (b : w.params.followText "set-order" = false) (hl : t.led = !(w.params.followText "set-order"))
    (d : (!t.plain && decide (es.size > 1)) = false) (z : SetTable.below t.place sl = i) (g : Nat)
    (h : Q (match es[i]?, t.place[i]? with | some (_, x), some j => some (x, j + 1) | _, _ => none) s) : wpAny (model prog w) A (setNext a sl g ep) Q E s := by
  obtain ⟨oa, hoa, hxa, hda⟩ := id x
  unfold setNext
  refine wpAny_bind (wpAny_setState_of hoa hda hf ?_)
  dsimp only
  unfold setsByText
  refine wpAny_bind (wpAny_bind (wpAny_askSetting (wpAny_pure ?_)))
  rw [if_neg (by rw [show (model prog w).w.params = w.params from rfl, b]; exact Bool.false_ne_true)]
  rw [if_neg (fun q => by have q : (!t.plain && decide (es.size > 1)) = true := q; rw [d] at q; cases q)]
  subst z
  refine wpAny_bind (m := if (!t.led && !es.isEmpty) = true then unsupported "set:maker-not-led" else pure ()) ?_
  rw [if_neg (by rw [hl, b]; simp)]
  exact wpAny_pure (wpAny_pure h)
theorem next_item {I a p : Addr} {f : Value} {es : Array (Int × Value)} {i ep : Nat} {t : SetTable} {ord : List Value} {v : Value} {Q : Option Value → Shared → Prop} (it : ItAt s.heap I a f i es.size ep) (x : SAt s.heap a es ep t) (F1 : Fst w a es ep t ord p s.heap i f)
    (hf : t.fits es.size = true) (T : Tidy t) (hl : t.led = !(w.params.followText "set-order")) (hne : p ≠ I) (hv : ord[i]? = some v) (hQ : ∀ h' f', ItAt h' I a f' (i + 1) es.size ep → Fst w a es ep t ord p h' (i + 1) f' → Heap.SameBut I s.heap h' → Q (some v) { s with heap := h' }) :
    wpAny (model prog w) A (pyNext (.ref I)) Q E s := by
  obtain ⟨o, ho, hc, hd⟩ := id it
  obtain ⟨oa, hoa, hxa, hda⟩ := id x
  unfold pyNext
  refine wpAny_bind (wpAny_attempt (wpAny_callSpecial?_slot (name := Str.ofString "__next__") it.ty sl_next (wpAny_call_entry sl_next it.ty e_next ?_ (a_next _))))
  unfold Builtin.«set_iterator.__next__»
  refine wpAny_bind (wpAny_pure ?_)
  refine wpAny_bind (wpAny_fieldsOf ho hd ?_)
  dsimp only
  refine wpAny_bind (wpAny_setEntries_of hoa hda hf ?_)
  rw [if_neg (by simp)]
  cases F1 with
  | text sl b e =>
    dsimp only
    simp only [Int.toNat_natCast]
    refine wpAny_bind (nx_text x hf b ?_)
    rw [← e, hv, Option.map_some]
    dsimp only
    refine wpAny_bind (wpAny_setField ho hd (by simp) ?_)
    have g1 := Heap.get?_update_self (Obj.mapFields (·.setIfInBounds 0 (rawInt (sl : Nat)))) ho (Obj.isFreed_of_fields (Obj.data_mapFields hd _))
    refine wpAny_bind (wpAny_setField g1 (Obj.data_mapFields hd _) (by simp) ?_)
    refine wpAny_pure ⟨_, rfl, wpAny_pure (hQ _ (.int sl 0) ⟨_, Heap.get?_update_self _ g1 (Obj.isFreed_of_fields (Obj.data_mapFields (Obj.data_mapFields hd _) _)), (Obj.cls_mapFields ..).trans ((Obj.cls_mapFields ..).trans hc), by rw [Obj.data_mapFields (Obj.data_mapFields hd _)]; simp [rawInt]⟩ (.text sl b e) ((Heap.SameBut.update ..).trans (Heap.SameBut.update ..)))⟩
  | led sl b d e z =>
    dsimp only
    simp only [Int.toNat_natCast]
    have hi : i < es.size := by
      have := (List.getElem?_eq_some_iff.mp hv).1
      rw [e] at this
      simpa using this
    have hp : i < t.place.size := by
      have : (t.place.size == es.size && decide (t.fill ≤ t.mask)) = true := hf
      rw [Bool.and_eq_true, beq_iff_eq] at this
      rw [this.1]; exact hi
    have ev : v = es[i].2 := by
      rw [e, List.getElem?_map, Array.getElem?_toList, Array.getElem?_eq_getElem hi] at hv
      exact (Option.some.inj hv).symm
    refine wpAny_bind (nx_led x hf b hl d z _ ?_)
    rw [Array.getElem?_eq_getElem hi, Array.getElem?_eq_getElem hp]
    dsimp only
    refine wpAny_bind (wpAny_setField ho hd (by simp) ?_)
    have g1 := Heap.get?_update_self (Obj.mapFields (·.setIfInBounds 0 (rawInt ((t.place[i] + 1 : Nat) : Int)))) ho (Obj.isFreed_of_fields (Obj.data_mapFields hd _))
    refine wpAny_bind (wpAny_setField g1 (Obj.data_mapFields hd _) (by simp) ?_)
    rw [← ev]
    refine wpAny_pure ⟨_, rfl, wpAny_pure (hQ _ (.int ((t.place[i] + 1 : Nat) : Int) 0) ⟨_, Heap.get?_update_self _ g1 (Obj.isFreed_of_fields (Obj.data_mapFields (Obj.data_mapFields hd _) _)), (Obj.cls_mapFields ..).trans ((Obj.cls_mapFields ..).trans hc), by rw [Obj.data_mapFields (Obj.data_mapFields hd _)]; simp [rawInt]⟩ (.led _ b d e (below_next T.rise hp)) ((Heap.SameBut.update ..).trans (Heap.SameBut.update ..)))⟩
  | draw ps b tp pm e =>
    dsimp only
    simp only [Int.toNat_natCast]
    obtain ⟨op, hop, hcp, np, hdp⟩ := id tp
    have hi : i < ps.length := by
      have := (List.getElem?_eq_some_iff.mp hv).1
      rw [e] at this
      simpa using this
    have hj : ps[i] < es.size := List.mem_range.mp (pm.mem_iff.mp (List.getElem_mem hi))
    have ev : v = es[ps[i]].2 := by
      rw [e, List.getElem?_map, List.getElem?_eq_getElem hi, Option.map_some, Array.getElem?_eq_getElem hj] at hv
      exact (Option.some.inj hv).symm
    refine wpAny_bind (wpAny_seqItems hop hdp ?_)
    dsimp only
    have ei : (List.map (fun (j : Nat) => rawInt j) ps).toArray[i]? = some (.int (ps[i] : Nat) 0) := by simp [hi, rawInt]
    rw [ei]
    dsimp only
    refine wpAny_bind ?_
    unfold setNextDrawn
    refine wpAny_bind (wpAny_setState_of hoa hda hf ?_)
    dsimp only
    rw [if_neg (by simp), Int.toNat_natCast, Array.getElem?_eq_getElem hj]
    dsimp only
    refine wpAny_pure ?_
    refine wpAny_bind (wpAny_setField ho hd (by simp) ?_)
    rw [← ev]
    refine wpAny_pure ⟨_, rfl, wpAny_pure (hQ _ (.ref p) ⟨_, Heap.get?_update_self _ ho (Obj.isFreed_of_fields (Obj.data_mapFields hd _)), (Obj.cls_mapFields ..).trans hc, by rw [Obj.data_mapFields hd]; simp [rawInt]⟩ (.draw ps b ?_ pm e) (Heap.SameBut.update ..))⟩
    obtain ⟨q1, q2, q3⟩ := tp
    exact ⟨q1, by rw [(Heap.SameBut.update s.heap I _).2 p hne]; exact q2, q3⟩
theorem next_end {I a p : Addr} {f : Value} {es : Array (Int × Value)} {i ep : Nat} {t : SetTable} {ord : List Value} {Q : Option Value → Shared → Prop} (hh : A.handled = none) (it : ItAt s.heap I a f i es.size ep) (x : SAt s.heap a es ep t) (F1 : Fst w a es ep t ord p s.heap i f)
    (hf : t.fits es.size = true) (hl : t.led = !(w.params.followText "set-order")) (hv : ord[i]? = none) (hQ : ∀ h', Heap.ExtBut I s.heap h' → Q none { s with heap := h' }) :
    wpAny (model prog w) A (pyNext (.ref I)) Q E s := by
  obtain ⟨o, ho, hc, hd⟩ := id it
  obtain ⟨oa, hoa, hxa, hda⟩ := id x
  have stop : ∀ (h1 : Heap), Heap.ExtBut I s.heap h1 → wpAny (model prog w) A.in1 (do raiseNew (← newExc (.type "StopIteration") []) : Sem Fin) (fun fin s' => ∃ v, fin = Fin.done (Flow.ret v) ∧ wpAny (model prog w) A (pure (some v)) Q E s')
      (fun e s' => wpAny (model prog w) A (do if ← isInstance e (.type "StopIteration") then pure none else throw e) Q E s') { s with heap := h1 } := fun h1 sb => by
    refine wpAny_bind ?_
    simp only [newExc, newTuple]
    refine wpAny_bind (wpAny_newObj_type ?_ (by size_fits))
    refine wpAny_bind (m := firstArgMember _ _) (wpAny_of_eq (a := Value.none) (by first | rfl | (simp only [firstArgMember]; rfl)) ?_)
    refine wpAny_newObj_type ?_ (by size_fits)
    simp only [raiseNew]
    refine wpAny_bind (wpAny_handled ?_)
    rw [show A.in1.handled = none from hh]
    refine wpAny_bind (wpAny_pure (wpAny_throw ?_))
    refine wpAny_bind (wpAny_isInstance (T := "StopIteration") (b := true) ⟨_, Heap.get?_push_size _ rfl, rfl⟩ isSubtype_stop ?_)
    exact wpAny_pure (hQ _ ((sb.push _).push _))
  unfold pyNext
  refine wpAny_bind (wpAny_attempt (wpAny_callSpecial?_slot (name := Str.ofString "__next__") it.ty sl_next (wpAny_call_entry sl_next it.ty e_next ?_ (a_next _))))
  unfold Builtin.«set_iterator.__next__»
  refine wpAny_bind (wpAny_pure ?_)
  refine wpAny_bind (wpAny_fieldsOf ho hd ?_)
  dsimp only
  refine wpAny_bind (wpAny_setEntries_of hoa hda hf ?_)
  rw [if_neg (by simp)]
  cases F1 with
  | text sl b e =>
    dsimp only
    simp only [Int.toNat_natCast]
    refine wpAny_bind (nx_text x hf b ?_)
    rw [← e, hv, Option.map_none]
    dsimp only
    refine wpAny_bind (wpAny_setField ho hd (by simp) ?_)
    exact stop _ (Heap.SameBut.update ..).extBut
  | led sl b d e z =>
    dsimp only
    simp only [Int.toNat_natCast]
    have hi : es[i]? = none := by
      rw [e, List.getElem?_map, Array.getElem?_toList] at hv
      simpa using hv
    refine wpAny_bind (nx_led x hf b hl d z _ ?_)
    rw [hi]
    dsimp only
    refine wpAny_bind (wpAny_setField ho hd (by simp) ?_)
    exact stop _ (Heap.SameBut.update ..).extBut
  | draw ps b tp pm e =>
    dsimp only
    simp only [Int.toNat_natCast]
    obtain ⟨op, hop, hcp, np, hdp⟩ := id tp
    refine wpAny_bind (wpAny_seqItems hop hdp ?_)
    dsimp only
    have ei : (List.map (fun (j : Nat) => rawInt j) ps).toArray[i]? = none := by
      rw [e] at hv
      simpa using hv
    rw [ei]
    dsimp only
    refine wpAny_bind (wpAny_setField ho hd (by simp) ?_)
    have g1 := Heap.get?_update_self (Obj.mapFields (·.setIfInBounds 0 (rawInt 0))) ho (Obj.isFreed_of_fields (Obj.data_mapFields hd _))
    refine wpAny_bind (wpAny_setField g1 (Obj.data_mapFields hd _) (by simp) ?_)
    exact stop _ ((Heap.SameBut.update ..).trans (Heap.SameBut.update ..)).extBut
theorem walks (hh : A.handled = none) {I a p : Addr} (es : Array (Int × Value)) (ep : Nat) (t : SetTable) (ord : List Value) (hf : t.fits es.size = true) (T : Tidy t) (hl : t.led = !(w.params.followText "set-order")) (h1 : p ≠ I) (h2 : a ≠ I) :
    Walks prog w A I [I, a, p] [I] ord.length (fun i v => ord[i]? = some v) (fun i h => ∃ f, ItAt h I a f i es.size ep ∧ SAt h a es ep t ∧ Fst w a es ep t ord p h i f) where
  sub := fun b hb => by simp at hb; simp [hb]
  frame := fun _ _ _ ⟨f, x, y, z⟩ k => ⟨f, x.at fun o e => k I (by simp) o e, y.at fun o e => k a (by simp) o e, z.at fun o e => k p (by simp) o e⟩
  item := fun i s Q E hi ⟨f, x, y, z⟩ hQ => by
    refine next_item x y z hf T hl h1 (List.getElem?_eq_getElem hi) fun h' f' x' z' sb => ?_
    exact hQ _ h' s.toks (List.getElem?_eq_getElem hi) ⟨f', x', y.at fun o e => by rw [sb.2 a h2]; exact e, z'⟩ fun b o hb e => by rw [sb.2 b fun q => hb (by simp [q])]; exact e
  done := fun s Q E ⟨f, x, y, z⟩ hQ => next_end hh x y z hf hl (by simp) fun h' eb => hQ h' s.toks fun b o hb e => eb b o (fun q => hb (by simp [q])) e
  self := fun i s Q E ⟨f, x, _, _⟩ hQ => iter_self x hQ
end
end SS
end
section
set_option Elab.async false
set_option linter.all false
set_option maxRecDepth 100000
namespace SS
open PySem PyProof.Rows PySem.Calls
theorem ints_map : ∀ {l : List Value}, (∀ v ∈ l, ∃ t, v = .int (vI v) t) → IntsAre l (l.map vI)
  | [], _ => .nil
  | v :: l, h => by
    obtain ⟨t, e⟩ := h v List.mem_cons_self
    have i := ints_map (l := l) fun u hu => h u (List.mem_cons_of_mem _ hu)
    rw [List.map_cons]
    generalize vI v = k at e
    subst e
    exact .cons k t i
section
variable {prog : Program} {w : World} {A : Around} {E : Value → Shared → Prop} {s : Shared}
theorem hint_set {r : Addr} {Q : Bool → Shared → Prop} (hT : s.TypeIs (.ref r) "set") (h : Q false s) : wpAny (model prog w) A (Builtin.List.listLengthHint (.ref r)) Q E s := by
  unfold Builtin.List.listLengthHint
  refine wpAny_bind (wpAny_specialOf hT PySem.F.slot_set_len.lookup ?_)
  generalize hid : ("set.__len__" : String) = id0
  wp_delta
  rw [show splitId id0 = some ("set", "__len__") from by subst hid; decide +kernel]
  subst hid
  refine wpAny_bind (wpAny_isInstance (T := "set") (b := true) hT (by rw [isSubtype_type]; kernel_rfl) ?_)
  refine wpAny_ite_split (fun z => absurd z (by decide)) (fun _ => ?_)
  refine wpAny_ite_split (fun _ => ?_) (fun z => absurd (by decide +kernel) z)
  exact wpAny_bind (wpAny_typeOf hT (wpAny_pure h))
theorem collect_set {a : Addr} {ns : List Int} {R : List Value → Shared → Prop} (hh : A.handled = none) (x : IsS prog w s.heap a ns)
    (h : ∀ h' tk d vs ms, s.heap.objs.size ≤ h'.objs.size → (∀ b o, s.heap.get? b = some o → h'.get? b = some o) → IntsAre vs ms → ms.Perm ns → R vs { s with heap := h', toks := tk, drawn := d }) : wpAny (model prog w) A (collect (.ref a)) R E s := by
  obtain ⟨o, es, ep, t, ho, hx, hd, hel, hp, hb, hf, T, hl⟩ := id x
  have hsz : es.size ≤ sizeLine := fits_of_scanBound hb
  have la : a < s.heap.objs.size := Heap.lt_size ho
  unfold collect
  refine wpAny_bind (wpAny_runValue (codeAny_builtin entry_proto_collect' ?_))
  rw [Around.under_plainId PySem.F.plain_proto_collect _]
  show wpAny _ A.in1 (newList [] >>= fun l => again (.builtin "list.__iadd__" ⟨[l, .ref a], []⟩)) _ _ s
  refine wpAny_bind (wpAny_newObj_type ?_)
  refine wpAny_pure ⟨plainId_quiet PySem.F.plain_list_iadd _, codeAny_builtin entry_list_iadd' ?_⟩
  rw [Around.under_plainId PySem.F.plain_list_iadd _]
  have hS : (s.heap.push { cls := .type "list", data := .seq ([] : List Value).toArray }).get? s.heap.objs.size = some { cls := .type "list", data := .seq #[] } := Heap.get?_push_size _ rfl
  have ho1 := Heap.get?_push_of_some { cls := .type "list", data := .seq ([] : List Value).toArray } ho
  have y : SAt (s.heap.push { cls := .type "list", data := .seq ([] : List Value).toArray }) a es ep t := ⟨o, ho1, hx, hd⟩
  show wpAny _ A.in1 (Builtin.List.listExtendWith (.ref s.heap.objs.size) (.ref a) (.ref s.heap.objs.size)) _ _ _
  unfold Builtin.List.listExtendWith
  refine wpAny_bind (wpAny_typeOf (T := "set") ⟨o, ho1, hx.1⟩ ?_)
  rw [if_neg (by
    have : Builtin.List.listSameRef (.ref s.heap.objs.size) (.ref a) = false := by simp [Builtin.List.listSameRef, Nat.ne_of_gt la]
    rw [this]; decide)]
  refine wpAny_bind (iter_set y hf T hsz fun I p ord first h1 d hp1 hI hIp haI kp it F1 pm => ?_)
  have y1 : SAt h1 a es ep t := y.at fun o e => kp a o e
  refine wpAny_bind (wpAny_holding (hint_set y1.ty ?_))
  rw [if_pos (by decide)]
  rw [Heap.size_push] at hI hp1
  have lI : s.heap.objs.size ≠ I := fun z => absurd (z ▸ hI) (Nat.not_succ_le_self _)
  have lp : s.heap.objs.size ≠ p := fun z => by
    rcases hp1 with e | e
    · rw [← z] at e; exact absurd e (Nat.ne_of_gt la)
    · exact absurd (z ▸ e) (Nat.not_succ_le_self _)
  have la' : s.heap.objs.size ≠ a := Nat.ne_of_gt la
  refine wpAny_bind (wpAny_rule ?_)
  refine wpAny_bind ?_
  show wpAny _ _ (updateSeq s.heap.objs.size (·.push .none) >>= fun _ => updateSeq s.heap.objs.size (·.pop)) _ _ _
  have g1 := kp _ _ hS
  refine wpAny_bind (wpAny_updateSeq g1 rfl ?_)
  have g2 := Heap.get?_update_self (Obj.mapSeq (·.push Value.none)) g1 rfl
  refine wpAny_updateSeq (hz := by seq_fits) g2 rfl ?_
  have g3 := Heap.get?_update_self (Obj.mapSeq (·.pop)) g2 rfl
  have kp2 : ∀ b o, s.heap.objs.size ≠ b → h1.get? b = some o → ((h1.update s.heap.objs.size (Obj.mapSeq (·.push Value.none))).update s.heap.objs.size (Obj.mapSeq (·.pop))).get? b = some o := fun b o nb e =>
    (Heap.get?_update_other _ _ nb).trans ((Heap.get?_update_other _ _ nb).trans e)
  have W := walks (prog := prog) (w := w) (A := A.in1) hh (I := I) (a := a) (p := p) es ep t ord hf T hl (Ne.symm hIp) haI
  have nf : s.heap.objs.size ∉ [I, a, p] := by
    intro z
    simp only [List.mem_cons, List.not_mem_nil, or_false] at z
    rcases z with z | z | z
    · exact lI z
    · exact la' z
    · exact lp z
  refine wpAny_pure ⟨plainId_quiet PySem.F.plain_extend_loop _, codeAny_extend_loopS W.toS (by rw [pm.length_eq, List.length_map, Array.length_toList]; exact hsz) s.heap.objs.size nf (.ref s.heap.objs.size) ord.length 0 _ #[] _ rfl (Nat.zero_le _)
    ⟨first, it.at fun o e => kp2 I o lI e, y1.at fun o e => kp2 a o la' e, F1.at fun o e => kp2 p o lp e⟩ g3 (ItemsOf.nil _) fun s' acc' c' hm hS' hacc => ?_⟩
  show wpAny _ A (load s.heap.objs.size >>= _) _ _ s'
  refine wpAny_bind (wpAny_load hS' (wpAny_pure ?_))
  have ea : acc'.toList = ord := by
    apply List.ext_getElem?
    intro j
    rw [Array.getElem?_toList]
    rcases Nat.lt_or_ge j acc'.size with hj | hj
    · rw [hacc.2 j _ (Array.getElem?_eq_getElem hj)]; exact Array.getElem?_eq_getElem hj
    · rw [Array.getElem?_eq_none hj, List.getElem?_eq_none (by rw [← hacc.1]; exact hj)]
  rw [ea, Moved.eq_with hm]
  refine h s'.heap s'.toks d ord (ord.map vI) (Nat.le_of_lt (Heap.lt_size hS')) (fun b o e => ?_) (ints_map fun v hv => ?_) ((pm.map vI).trans (by rw [List.map_map]; exact hp))
  · have nb : s.heap.objs.size ≠ b := Nat.ne_of_gt (Heap.lt_size e)
    refine hm.heap b o (fun z => ?_) (kp2 b o nb (kp b o (Heap.get?_push_of_some _ e)))
    rcases List.mem_cons.mp z with z | z
    · exact nb z.symm
    · rw [List.mem_singleton.mp z] at e
      exact absurd (Nat.lt_of_lt_of_le (Nat.lt_succ_of_lt (Heap.lt_size e)) hI) (Nat.lt_irrefl _)
  · obtain ⟨e, he, rfl⟩ := List.mem_map.mp (pm.mem_iff.mp hv)
    exact el_int (hel e he).1
theorem sorted_set {a : Addr} {ns : List Int} {Q : Value → Shared → Prop} (hh : A.handled = none) (x : IsS prog w s.heap a ns) (h64 : ns.length < 64)
    (h : ∀ D h' tk d vs ms k, (∀ b o, s.heap.get? b = some o → h'.get? b = some o) → s.heap.objs.size ≤ D → h'.get? D = some (seqObj "list" vs k) → IntsAre vs.toList ms → ms.Perm ns → ms.Pairwise (· ≤ ·) → Q (.ref D) { s with heap := h', toks := tk, drawn := d }) :
    wpAny (model prog w) A (call (.builtin "sorted") [.ref a]) Q E s := by
  refine call_function_entry kind_sorted plain_sorted entry_sorted (args_sorted1 _) ?_
  unfold Builtin.«sorted»
  refine wpAny_bind (m := checkCount "sorted" 1 1 _) (wpAny_pure ?_)
  refine wpAny_bind (collect_set (A := A.in1) hh x fun h1 tk d vs ms lh kp hi pm => ?_)
  have hl : vs.length = ns.length := by rw [hi.length, pm.length_eq]
  refine wpAny_bind (wpAny_newList ?_ (by rw [hl, sizeLine_eq]; omega))
  have g1 : (h1.push (seqObj "list" vs.toArray 0)).get? h1.objs.size = some (seqObj "list" vs.toArray 0) := Heap.get?_push_size _ rfl
  refine wpAny_bind (wpAny_holding (wpAny_call_entry slot_list_sort ⟨_, g1, rfl⟩ entry_list_sort (list_sort_tree g1 hi (by rw [hl]; exact h64) fun out ms' a1 a2 a3 => ⟨_, rfl, ?_⟩) (args_list_sort _)))
  refine wpAny_pure ⟨_, rfl, ?_⟩
  dsimp only
  have g2 := get?_update_seq g1 (fun _ => #[])
  have g3 : ((((h1.push (seqObj "list" vs.toArray 0)).update h1.objs.size (Obj.mapSeq fun _ => #[])).push (seqObj "tuple" vs.toArray 0)).push (seqObj "list" #[] 0)).get? h1.objs.size = some _ := Heap.get?_push_of_some _ (Heap.get?_push_of_some _ g2)
  refine h h1.objs.size _ tk d out ms' _ (fun b o e => ?_) lh (get?_update_seq g3 fun _ => out) a1 (a2.trans pm) a3
  have nb : h1.objs.size ≠ b := fun z => absurd (Heap.lt_size (kp b o e)) (by rw [z]; exact Nat.lt_irrefl _)
  exact (Heap.get?_update_other _ _ nb).trans (Heap.get?_push_of_some _ (Heap.get?_push_of_some _ ((Heap.get?_update_other _ _ nb).trans (Heap.get?_push_of_some _ (kp b o e)))))
end
end SS
end
section
set_option Elab.async false
set_option linter.all false
set_option maxRecDepth 100000
set_option maxHeartbeats 1000000
namespace L2
open PySem PySem.Spec PySem.Calls PyProof.Rows
noncomputable def dd (ns : List Int) : List Int := ns.foldl step_dedup []
theorem step_in {l : List Int} {a k : Int} : k ∈ step_dedup l a ↔ k ∈ l ∨ k = a := by
  unfold step_dedup
  split
  · rename_i h
    obtain ⟨y, hy, q⟩ := List.any_eq_true.mp h
    have : a ∈ l := by rw [← eq_of_beq q]; exact hy
    constructor
    · exact .inl
    · rintro (z | rfl)
      · exact z
      · exact this
  · rw [List.mem_append, List.mem_singleton]
theorem step_nd {l : List Int} {a : Int} (h : l.Nodup) : (step_dedup l a).Nodup := by
  unfold step_dedup
  split
  · exact h
  · rename_i hn
    refine List.nodup_append.mpr ⟨h, by simp, fun x hx y hy z => ?_⟩
    rw [List.mem_singleton] at hy
    subst hy; subst z
    exact hn (List.any_eq_true.mpr ⟨x, hx, by simp⟩)
theorem fold_in : ∀ (ns l : List Int) (k : Int), k ∈ ns.foldl step_dedup l ↔ k ∈ l ∨ k ∈ ns
  | [], l, k => by simp
  | a :: ns, l, k => by
    rw [List.foldl_cons, fold_in ns, step_in, List.mem_cons]
    constructor
    · rintro ((h | h) | h)
      · exact .inl h
      · exact .inr (.inl h)
      · exact .inr (.inr h)
    · rintro (h | h | h)
      · exact .inl (.inl h)
      · exact .inl (.inr h)
      · exact .inr h
theorem fold_nd : ∀ (ns l : List Int), l.Nodup → (ns.foldl step_dedup l).Nodup
  | [], _, h => h
  | a :: ns, l, h => fold_nd ns _ (step_nd h)
theorem dd_in {ns : List Int} {k : Int} : k ∈ dd ns ↔ k ∈ ns := by unfold dd; rw [fold_in]; simp
theorem dd_nd (ns : List Int) : (dd ns).Nodup := fold_nd ns [] .nil
theorem dd_le (ns : List Int) : (dd ns).length ≤ ns.length := foldl_step_dedup_nil_length_le ns
theorem dd_met (ns : List Int) : firstMet (fun i => ns.getD i 0) ns.length = dd ns := by
  unfold firstMet dd
  congr 1
  apply List.ext_getElem
  · simp
  · intro i h1 h2
    simp [h2]
theorem rise_one : ∀ {l m : List Int}, l.Pairwise (· < ·) → m.Pairwise (· < ·) → (∀ k, k ∈ l ↔ k ∈ m) → l = m
  | [], [], _, _, _ => rfl
  | [], b :: m, _, _, h => by have := (h b).mpr List.mem_cons_self; cases this
  | a :: l, [], _, _, h => by have := (h a).mp List.mem_cons_self; cases this
  | a :: l, b :: m, hl, hm, h => by
    rw [List.pairwise_cons] at hl hm
    have e : a = b := by
      have h1 := (h a).mp List.mem_cons_self
      have h2 := (h b).mpr List.mem_cons_self
      rcases List.mem_cons.mp h1 with z | z
      · exact z
      · rcases List.mem_cons.mp h2 with y | y
        · exact y.symm
        · have := hl.1 b y; have := hm.1 a z; omega
    subst e
    rw [rise_one hl.2 hm.2 fun k => ?_]
    have := h k
    simp only [List.mem_cons] at this
    constructor
    · intro q
      rcases this.mp (.inr q) with z | z
      · have := hl.1 k q; omega
      · exact z
    · intro q
      rcases this.mpr (.inr q) with z | z
      · have := hm.1 k q; omega
      · exact z
noncomputable def SetO (P : Program) (w : World) (a : Addr) (ns : List Int) : HO := .ext fun h => SS.IsS P w h a ns
section
variable {X : Cx}
theorem call_setI (hc : X.calm = true) : CallR X (.type "set") (fun xs H Q => ∃ (p : Addr) (ns : List Int), xs = [.ref p] ∧ SqL X.K H p (ns.map V.int) ∧ ns.length < 64 ∧ ∀ a, H a = none → Q (.ref a) (upd H a (SetO X.prog X.w a (dd ns)))) := by
  intro pins s σ H xs us Q I r h
  obtain ⟨p, ns, rfl, hs, hn, q⟩ := h
  obtain ⟨u, rfl, ru⟩ : ∃ u, us = [u] ∧ RelV (.ref p) u := by
    cases r with
    | cons r t => cases t; exact ⟨_, rfl, r⟩
  cases (show u = Value.ref p from ru)
  obtain ⟨its, rv, pl, _⟩ := I.list hs
  have hi := intsAre_of rv
  have hlen : its.length = ns.length := hi.length
  refine SS.sset_list (I.ok.hd hc) pl.isList (by simpa using hi) (by rw [List.size_toArray, hlen]; unfold scanBound; omega) fun h' tk x kp => ?_
  rw [show its.toArray.size = ns.length by rw [List.size_toArray, hlen], dd_met] at x
  refine ⟨.ref s.heap.objs.size, _, I.laid (t' := tk) (o := SetO X.prog X.w s.heap.objs.size (dd ns)) kp (Nat.le_refl _) ⟨x, ?_, fun h1 h2 y k => y.at k⟩, rfl, q _ (I.hok.fresh (Nat.le_refl _))⟩
  obtain ⟨o, _, _, _, e, _⟩ := x
  exact ⟨o, e⟩
theorem call_sortedS (hc : X.calm = true) : CallR X (.builtin "sorted") (fun xs H Q => ∃ (p : Addr) (ns : List Int), xs = [.ref p] ∧ H p = some (SetO X.prog X.w p ns) ∧ ns.length < 64 ∧ ns.Nodup ∧
    ∀ (a : Addr) (ms : List Int), H a = none → ms.Pairwise (· < ·) → (∀ k, k ∈ ms ↔ k ∈ ns) → ms.length = ns.length → Q (.ref a) (upd H a (.lst (ms.map V.int)))) := by
  intro pins s σ H xs us Q I r h
  obtain ⟨p, ns, rfl, hs, hn, hd, q⟩ := h
  obtain ⟨u, rfl, ru⟩ : ∃ u, us = [u] ∧ RelV (.ref p) u := by
    cases r with
    | cons r t => cases t; exact ⟨_, rfl, r⟩
  cases (show u = Value.ref p from ru)
  have x : SS.IsS X.prog X.w s.heap p ns := (I.hok p _ hs).1
  refine SS.sorted_set (I.ok.hd hc) x hn fun D h' tk d vs ms k kp lD g1 hi pm pw => ?_
  have rv : Vals (ms.map V.int) vs.toList := by
    clear pm pw g1
    generalize vs.toList = l at hi
    induction hi with
    | nil => exact .nil
    | cons n t _ ih => exact .cons ⟨t, rfl⟩ ih
  have hnd : ms.Nodup := (pm.nodup_iff).mpr hd
  have st : ms.Pairwise (· < ·) := by
    have := List.Pairwise.and pw hnd
    exact this.imp fun {a b} ⟨h1, h2⟩ => by omega
  have new : ObjOk X.prog X.w (upd H D (.lst (ms.map V.int))) h' D (.lst (ms.map V.int)) := ⟨by rw [List.length_map, pm.length_eq, sizeLine_eq]; omega, vs.toList, k, rv, by simpa using g1⟩
  refine ⟨.ref D, _, I.call (g' := s.gens) (t' := tk) (d' := d) (ch := []) (Un.laid kp lD (I.hok.fresh lD)) (I.hok.laid kp lD new) I.bare (fun _ z => nomatch z), rfl, q D ms (I.hok.fresh lD) st (fun k => pm.mem_iff) pm.length_eq⟩
end
end L2
end
section
set_option Elab.async false
set_option linter.all false
set_option maxRecDepth 100000
set_option maxHeartbeats 4000000
namespace CN
open PySem L2
seal L2.PE L2.PT L2.PS L2.PSs L2.PA L2.PPs L2.PW L2.PC L2.PG L2.PGs L2.PI L2.PO L2.PTs
namespace Nt
noncomputable def top (i : Nat) : Stmt := PySem.Challenge.pw_choicenet_k08_whole_known_numbers.main.body.getD i (.Pass ⟨0, 0, 0, 0⟩)
noncomputable abbrev s_Net_node_place : Stmt := inClass (top 10) 1
noncomputable abbrev p_Net_node_place : List Str := ["self", "switch", "off", "on"]
theorem sc_Net_node_place : FnScope ["self", "switch", "off", "on", "node"] ["self", "switch", "off", "on"] (defScope s_Net_node_place) := ⟨rfl, rfl, rfl, by decide +kernel, rfl, by decide +kernel, by decide +kernel⟩
noncomputable abbrev s_Net_step : Stmt := inClass (top 10) 3
noncomputable abbrev p_Net_step : List Str := ["self", "place", "switch", "on"]
theorem sc_Net_step : FnScope ["self", "place", "switch", "on", "node"] ["self", "place", "switch", "on"] (defScope s_Net_step) := ⟨rfl, rfl, rfl, by decide +kernel, rfl, by decide +kernel, by decide +kernel⟩
noncomputable abbrev s_Net_first_switch : Stmt := inClass (top 10) 2
noncomputable abbrev p_Net_first_switch : List Str := ["self", "places"]
theorem sc_Net_first_switch : FnScope ["self", "places"] ["self", "places"] (defScope s_Net_first_switch) := ⟨rfl, rfl, rfl, by decide +kernel, rfl, by decide +kernel, by decide +kernel⟩
theorem seq_as {a b : TS} {D : Ends} {σ : St} {H : Hp} (h : ∀ R, R = (fun σ H => b D σ H) → a { D with nx := R } σ H) : tSeq a b D σ H := h _ rfl
theorem if_as {c : TT} {t u : TS} {D : Ends} {σ : St} {H : Hp} (h : ∀ A B, A = (fun σ H => t D σ H) → B = (fun σ H => u D σ H) → c σ H fun b H1 => if b = true then A σ H1 else B σ H1) : tIfS c t u D σ H := h _ _ rfl rfl
noncomputable def nflds (ln lp lc ls : Addr) : List (Str × V) := [("nodes", .ref ln), ("places", .ref lp), ("choices", .ref lc), ("settled", .ref ls)]
theorem fl_nodes (ln lp lc ls : Addr) : (nflds ln lp lc ls).lookup ("nodes" : Str) = some (.ref ln) := by unfold nflds; rw [List.lookup_cons, beq_self_eq_true]
theorem fl_places (ln lp lc ls : Addr) : (nflds ln lp lc ls).lookup ("places" : Str) = some (.ref lp) := by
  unfold nflds
  rw [List.lookup_cons, show (("places" : Str) == "nodes") = false from by decide +kernel, List.lookup_cons, beq_self_eq_true]
theorem fl_choices (ln lp lc ls : Addr) : (nflds ln lp lc ls).lookup ("choices" : Str) = some (.ref lc) := by
  unfold nflds
  rw [List.lookup_cons, show (("choices" : Str) == "nodes") = false from by decide +kernel, List.lookup_cons, show (("choices" : Str) == "places") = false from by decide +kernel, List.lookup_cons, beq_self_eq_true]
theorem fl_settled (ln lp lc ls : Addr) : (nflds ln lp lc ls).lookup ("settled" : Str) = some (.ref ls) := by
  unfold nflds
  rw [List.lookup_cons, show (("settled" : Str) == "nodes") = false from by decide +kernel, List.lookup_cons, show (("settled" : Str) == "places") = false from by decide +kernel, List.lookup_cons, show (("settled" : Str) == "choices") = false from by decide +kernel, List.lookup_cons, beq_self_eq_true]
noncomputable def ndV (nd : Nd) : List V := [.int nd.sw, .int (nd.off : Nat), .int (nd.on : Nat)]
noncomputable def ndK (nd : Nd) : List Key := [Sum.inl nd.sw, Sum.inl ((nd.off : Nat) : Int), Sum.inl ((nd.on : Nat) : Int)]
theorem ndK_inj {a b : Nd} (h : ndK a = ndK b) : a = b := by
  cases a; cases b
  simp only [ndK, List.cons.injEq, Sum.inl.injEq, and_true] at h
  obtain ⟨h1, h2, h3⟩ := h
  have : ∀ {x y : Nat}, (x : Int) = y → x = y := fun h => by omega
  rw [h1, this h2, this h3]
noncomputable def NdAt (H : Hp) (v : V) (nd : Nd) : Prop := ∃ a, v = .ref a ∧ H a = some (.tup (ndV nd))
structure Adr where
  p : Addr
  dx : Addr
  ln : Addr
  lp : Addr
  lc : Addr
  ls : Addr
structure NetAt (C : Addr) (H : Hp) (a : Adr) (ns : List Nd) (kp : List (List Key × V)) : Prop where
  ob : H a.p = some (.ins C a.dx (nflds a.ln a.lp a.lc a.ls))
  nodes : ∃ xs, H a.ln = some (.lst xs) ∧ Paired (NdAt H) xs ns
  places : H a.lp = some (.dT kp)
  pls : kp.length ≤ ns.length
  into : ∀ k v, valV kp k = some v → ∃ (i : Nat) (nd : Nd), ns[i]? = some nd ∧ k = ndK nd ∧ v = .int ((i + 2 : Nat) : Int)
  out : ∀ (i : Nat) (nd : Nd), ns[i]? = some nd → valV kp (ndK nd) = some (.int ((i + 2 : Nat) : Int))
theorem NdAt.to {H H' : Hp} (k : Tk H H') {v : V} {nd : Nd} (h : NdAt H v nd) : NdAt H' v nd := by
  obtain ⟨a, e, h⟩ := h
  exact ⟨a, e, k _ _ h⟩
theorem nds_to {H H' : Hp} (k : Tk H H') : ∀ {xs : List V} {ns : List Nd}, Paired (NdAt H) xs ns → Paired (NdAt H') xs ns
  | _, _, .nil => .nil
  | _, _, .cons a b => .cons (a.to k) (nds_to k b)
theorem nds_app {H : Hp} : ∀ {xs ys : List V} {ns ms : List Nd}, Paired (NdAt H) xs ns → Paired (NdAt H) ys ms → Paired (NdAt H) (xs ++ ys) (ns ++ ms)
  | _, _, _, _, .nil, s => s
  | _, _, _, _, .cons r t, s => .cons r (nds_app t s)
theorem nds_get {H : Hp} : ∀ {xs : List V} {ns : List Nd} {i : Nat} {nd : Nd}, Paired (NdAt H) xs ns → ns[i]? = some nd → ∃ v, xs[i]? = some v ∧ NdAt H v nd
  | _, _, _, _, .nil, e => by simp at e
  | _, _, 0, _, .cons r _, e => by simp at e; subst e; exact ⟨_, rfl, r⟩
  | _, _, i + 1, nd, .cons _ t, e => by
    obtain ⟨u, h1, h2⟩ := nds_get (i := i) (nd := nd) t (by simpa using e)
    exact ⟨u, by simpa using h1, h2⟩
theorem NetAt.same {C : Addr} {H H' : Hp} {a : Adr} {ns : List Nd} {kp : List (List Key × V)} (h : NetAt C H a ns kp) (s : Same H H') : NetAt C H' a ns kp := by
  obtain ⟨xs, h1, h2⟩ := h.nodes
  exact ⟨s _ _ h.ob, ⟨xs, s _ _ h1, nds_to s.tk h2⟩, s _ _ h.places, h.pls, h.into, h.out⟩
theorem NetAt.ne {C : Addr} {H : Hp} {a : Adr} {ns : List Nd} {kp : List (List Key × V)} (h : NetAt C H a ns kp) : a.p ≠ a.ln ∧ a.p ≠ a.lp ∧ a.ln ≠ a.lp := by
  obtain ⟨xs, h1, h2⟩ := h.nodes
  exact ⟨ne_of h.ob h1 (by intro z; cases z), ne_of h.ob h.places (by intro z; cases z), ne_of h1 h.places (by intro z; cases z)⟩
theorem NetAt.more {C : Addr} {H : Hp} {a : Adr} {ns : List Nd} {kp : List (List Key × V)} {xs : List V} {v : V} {nd : Nd} (h : NetAt C H a ns kp) (hx : H a.ln = some (.lst xs)) (hxs : Paired (NdAt H) xs ns) (hv : NdAt H v nd) (hn : valV kp (ndK nd) = none) :
    NetAt C (upd (upd H a.ln (.lst (xs ++ [v]))) a.lp (.dT (putK kp (ndK nd) (.int ((ns.length + 2 : Nat) : Int))))) a (ns ++ [nd]) (putK kp (ndK nd) (.int ((ns.length + 2 : Nat) : Int))) := by
  obtain ⟨n1, n2, n3⟩ := h.ne
  have k1 : Tk H (upd H a.ln (.lst (xs ++ [v]))) := Tk.lst hx
  have k2 : Tk (upd H a.ln (.lst (xs ++ [v]))) (upd (upd H a.ln (.lst (xs ++ [v]))) a.lp (.dT (putK kp (ndK nd) (.int ((ns.length + 2 : Nat) : Int))))) := fun b ys e => by
    have hl : upd H a.ln (.lst (xs ++ [v])) a.lp = some (.dT kp) := by rw [upd_ne n3.symm]; exact h.places
    rw [upd_ne (ne_of e hl (by intro z; cases z))]; exact e
  have kA := k1.trans k2
  refine ⟨by rw [upd_ne n2, upd_ne n1]; exact h.ob, ⟨xs ++ [v], by rw [upd_ne n3, upd_same], nds_app (nds_to kA hxs) (.cons (hv.to kA) .nil)⟩, upd_same, ?_, fun k u hk => ?_, fun i m hm => ?_⟩
  · rw [putK_new _ hn, List.length_append, List.length_append]
    have := h.pls
    simp only [List.length_cons, List.length_nil]; omega
  · rw [valV_put] at hk
    by_cases e : k = ndK nd
    · rw [if_pos e] at hk
      cases hk
      refine ⟨ns.length, nd, ?_, e, rfl⟩
      rw [List.getElem?_append_right (Nat.le_refl _), Nat.sub_self]; rfl
    · rw [if_neg e] at hk
      obtain ⟨i, m, h1, h2, h3⟩ := h.into k u hk
      refine ⟨i, m, ?_, h2, h3⟩
      rw [List.getElem?_append_left (List.getElem?_eq_some_iff.mp h1).1]; exact h1
  · rw [valV_put]
    by_cases hi : i < ns.length
    · rw [List.getElem?_append_left hi] at hm
      have := h.out i m hm
      rw [if_neg (by rintro e; rw [← e, this] at hn; cases hn)]
      exact this
    · rw [List.getElem?_append_right (by omega)] at hm
      cases q : i - ns.length with
      | zero =>
        rw [q] at hm
        simp only [List.getElem?_cons_zero, Option.some.injEq] at hm
        subst hm
        have : i = ns.length := by omega
        rw [this, if_pos rfl]
      | succ z => rw [q] at hm; simp at hm
structure NTx (K : PySem.W.Frag) (C : Addr) : Prop where
  cl : Cls K C
  n_nodes : NoAttr K C "nodes"
  n_places : NoAttr K C "places"
  n_choices : NoAttr K C "choices"
  n_settled : NoAttr K C "settled"
noncomputable def But (L : List Addr) (H H' : Hp) : Prop := ∀ b o, H b = some o → b ∉ L → H' b = some o
section
variable {P : Program} {w : World} {K : PySem.W.Frag} {mg : Str → Option Value} {base : Heap}
noncomputable def spNode (C : Addr) : Sp := fun vs H Q _ => ∃ (a : Adr) (ns : List Nd) (kp : List (List Key × V)) (s : Int) (off on : Nat), vs = [.ref a.p, .int s, .int off, .int on] ∧ NetAt C H a ns kp ∧ Net ns ∧ Pl ns off ∧ Pl ns on ∧ Above ns s off ∧ Above ns s on ∧ ns.length ≤ 10000000 ∧
  ∀ (r : Nat) (ns' : List Nd) (kp' : List (List Key × V)) H', Made ns s off on ns' r → NetAt C H' a ns' kp' → But [a.ln, a.lp] H H' → Q (.int r) H'
theorem ok_node {f C : Addr} {fd : FuncData} (BT : Bt mg) (F : Fun K "node_place" "Net.node_place" s_Net_node_place f fd) (NT : NTx K C) : FnOk P w K mg base CX0 1 f fd p_Net_node_place (spNode C) := by
  refine F.ok sc_Net_node_place (fun vs H Q E h => ?_) (fun cdv A outer s H vs Q E hr h => ?_)
  · obtain ⟨a, ns, kp, s, off, on, rfl, _⟩ := h
    rfl
  · obtain ⟨a, ns, kp, s, off, on, rfl, hA, hN, lo, ln, ao, an, hsz, q⟩ := h
    have hu := hu_of hr
    refine ⟨_, (pss_cons (ps_if (pt_cmpR op_eq (pv 2) (pv 3) (nomark _))
      (pss_one (ps_ret (pv 2)))
      pss_nil)
    (pss_cons (ps_set (i := 4) sc_Net_node_place.nd rfl (by first | exact Or.inl rfl | exact Or.inr rfl) (pe_tup (pa_cons (pv 1) (pa_cons (pv 2) (pa_cons (pv 3) pa_nil)))))
    (pss_cons (ps_if (pt_cmp (pc_dnotin hu (pv 4) (pe_fldC NT.cl NT.n_places (pv 0) (by rfl))))
      (pss_cons (ps_expr (pe_bm PySem.F.plainAttrs_list PySem.F.slot_list_append PySem.F.type_list_append mt_append (pe_fldC NT.cl NT.n_nodes (pv 0) (by rfl)) (pa_cons (pv 4) pa_nil)))
      (pss_one (ps_dput hu (pe_fldC NT.cl NT.n_places (pv 0) (by rfl)) (pv 4) (pe_op op_add (pe_callB call_len_seq (by rfl) BT.n_len bo_len (pa_cons (pe_fldC NT.cl NT.n_nodes (pv 0) (by rfl)) pa_nil)) pe_int) rfl)))
      pss_nil)
    (pss_one (ps_ret (pe_dget hu (pe_fldC NT.cl NT.n_places (pv 0) (by rfl)) (pv 4) (fun _ _ => rfl))))))), ?_⟩
    simp only [rdA, rd_forL, rd_forR, rd_compT, rd_compL, rd_compR, rd_tyes, rd_seq, rd_if]
    refine ite2 (fun h => ?_) (fun h => ?_)
    · have e : off = on := by
        have : ((off : Nat) : Int) = on := by simpa using h
        omega
      subst e
      exact q off ns kp H (made_same hN lo) hA fun b o e _ => e
    · have hne : off ≠ on := by
        rintro rfl; simp at h
      intro p hp
      have s1 := Same.new (o := HO.tup (ndV ⟨s, off, on⟩)) hp
      have hA1 := hA.same s1
      have hp1 : upd H p (HO.tup (ndV ⟨s, off, on⟩)) p = some (.tup ((ndK ⟨s, off, on⟩).map kV)) := upd_same
      have bt1 : But [a.ln, a.lp] H (upd H p (HO.tup (ndV ⟨s, off, on⟩))) := fun b o e _ => s1 _ _ e
      rw [show [V.int s, V.int (off : Nat), V.int (on : Nat)] = ndV ⟨s, off, on⟩ from rfl]
      generalize upd H p (HO.tup (ndV ⟨s, off, on⟩)) = H1 at *
      refine ⟨_, _, hA1.ob, _, fl_places _ _ _ _, _, rfl, _, DGet.t (k := ndK ⟨s, off, on⟩) hA1.places hp1, ?_⟩
      cases hv : valV kp (ndK ⟨s, off, on⟩) with
      | some v =>
        obtain ⟨i, nd', hi, ek, rfl⟩ := hA1.into _ _ hv
        have := ndK_inj ek
        subst this
        refine iteF ⟨_, _, hA1.ob, _, fl_places _ _ _ _, _, rfl, _, by rw [← hv]; exact DGet.t (k := ndK ⟨s, off, on⟩) hA1.places hp1, q (i + 2) ns kp H1 (made_old (nd := ⟨s, off, on⟩) hN hi) hA1 bt1⟩
      | none =>
        obtain ⟨xs, hx, hxs⟩ := hA1.nodes
        have hxl : xs.length = ns.length := Paired.length hxs
        obtain ⟨n1, n2, n3⟩ := hA1.ne
        refine iteT ⟨_, _, hA1.ob, _, fl_nodes _ _ _ _, ?_⟩
        simp only [rdA, rd_forL, rd_forR, rd_compT, rd_compL, rd_compR, rd_tyes, rd_seq, rd_if]
        refine ⟨⟨_, SqL.of hx⟩, _, hx, Nat.lt_of_le_of_lt (by omega : xs.length ≤ 10000000) (by decide), ?_⟩
        have ob2 : upd H1 a.ln (HO.lst (xs ++ [V.ref p])) a.p = some (.ins C a.dx (nflds a.ln a.lp a.lc a.ls)) := by rw [upd_ne n1]; exact hA1.ob
        have pl2 : upd H1 a.ln (HO.lst (xs ++ [V.ref p])) a.lp = some (.dT kp) := by rw [upd_ne n3.symm]; exact hA1.places
        have tp2 : upd H1 a.ln (HO.lst (xs ++ [V.ref p])) p = some (.tup ((ndK ⟨s, off, on⟩).map kV)) := Tk.lst hx _ _ hp1
        have hpl := hA1.pls
        refine ⟨_, _, ob2, _, fl_nodes _ _ _ _, _, rfl, _, .inl (SqL.of upd_same), _, _, ob2, _, fl_places _ _ _ _, _, rfl, _, DPut.t (k := ndK ⟨s, off, on⟩) pl2 tp2 (Nat.lt_of_le_of_lt (by omega : kp.length ≤ 10000000) (by decide)), ?_⟩
        have eL : (((xs ++ [V.ref p]).length : Nat) : Int) + 1 = ((ns.length + 2 : Nat) : Int) := by
          rw [List.length_append, List.length_singleton]; omega
        rw [eL]
        have hA3 := hA1.more hx hxs ⟨p, rfl, hp1⟩ hv
        have tp3 : upd (upd H1 a.ln (HO.lst (xs ++ [V.ref p]))) a.lp (.dT (putK kp (ndK ⟨s, off, on⟩) (.int ((ns.length + 2 : Nat) : Int)))) p = some (.tup ((ndK ⟨s, off, on⟩).map kV)) := by
          rw [upd_ne (ne_of tp2 pl2 (by intro z; cases z))]; exact tp2
        have hv3 : valV (putK kp (ndK ⟨s, off, on⟩) (V.int ((ns.length + 2 : Nat) : Int))) (ndK ⟨s, off, on⟩) = some (.int ((ns.length + 2 : Nat) : Int)) := by rw [valV_put, if_pos rfl]
        refine ⟨_, _, hA3.ob, _, fl_places _ _ _ _, _, rfl, _, by rw [← hv3]; exact DGet.t (k := ndK ⟨s, off, on⟩) hA3.places tp3, q (ns.length + 2) _ _ _ (made_new (nd := ⟨s, off, on⟩) hN lo ln hne ao an fun i e => ?_) hA3 fun b o e hb => ?_⟩
        · have := hA1.out i _ e
          rw [hv] at this; cases this
        · have hb1 : b ≠ a.ln := fun z => hb (by simp [z])
          have hb2 : b ≠ a.lp := fun z => hb (by simp [z])
          rw [upd_ne hb2, upd_ne hb1]
          exact bt1 b o e hb
noncomputable def spStep (C : Addr) : Sp := fun vs H Q _ => ∃ (a : Adr) (ns : List Nd) (kp : List (List Key × V)) (pl : Nat) (s : Int) (b : Bool), vs = [.ref a.p, .int pl, .int s, .bl b] ∧ NetAt C H a ns kp ∧ Pl ns pl ∧ Q (.int (stepP ns pl s b : Nat)) H
theorem ok_step {f C : Addr} {fd : FuncData} (F : Fun K "step" "Net.step" s_Net_step f fd) (NT : NTx K C) : FnOk P w K mg base CX0 1 f fd p_Net_step (spStep C) := by
  refine F.ok sc_Net_step (fun vs H Q E h => ?_) (fun cdv A outer s H vs Q E hr h => ?_)
  · obtain ⟨a, ns, kp, pl, s, b, rfl, _⟩ := h
    rfl
  · obtain ⟨a, ns, kp, pl, s, b, rfl, hA, lp, q⟩ := h
    refine ⟨_, (pss_cons (ps_if (PW.pt (pw_or (pt_cmpR op_lt (pv 1) pe_int (nomark _)) (pw_or1 (pt_cmpR op_ne (pe_ix ix_tup (pe_ix ix_list (pe_fldC NT.cl NT.n_nodes (pv 0) (by rfl)) (pe_op op_sub (pv 1) pe_int) (fun _ _ => rfl)) pe_int (fun _ _ => rfl)) (pv 2) (nomark _)))))
      (pss_one (ps_ret (pv 1)))
      pss_nil)
    (pss_cons (ps_set (i := 4) sc_Net_step.nd rfl (by first | exact Or.inl rfl | exact Or.inr rfl) (pe_ix ix_list (pe_fldC NT.cl NT.n_nodes (pv 0) (by rfl)) (pe_op op_sub (pv 1) pe_int) (fun _ _ => rfl)))
    (pss_one (ps_ret (pe_ifExp (pt_val (pv 3)) (pe_ix ix_tup (pv 4) pe_int (fun _ _ => rfl)) (pe_ix ix_tup (pv 4) pe_int (fun _ _ => rfl))))))), ?_⟩
    simp only [rdA, rd_forL, rd_forR, rd_compT, rd_compL, rd_compR, rd_tyes, rd_seq, rd_if]
    by_cases p2 : pl < 2
    · rw [decide_eq_true (by omega : ((pl : Nat) : Int) < 2)]
      refine iteT ?_
      unfold stepP at q
      rw [if_pos p2] at q
      exact q
    · rw [decide_eq_false (by omega : ¬ ((pl : Nat) : Int) < 2)]
      obtain ⟨nd, e, _⟩ := node_of lp p2
      obtain ⟨xs, hx, hxs⟩ := hA.nodes
      obtain ⟨v, hv, t, rfl, ht⟩ := nds_get hxs e
      have hat : atI xs ((pl : Nat) - 2 : Int) = some (.ref t) := by
        have : ((pl : Nat) : Int) - 2 = ((pl - 2 : Nat) : Int) := by omega
        rw [this]; exact atI_nat hv
      refine iteF ⟨_, _, hA.ob, _, fl_nodes _ _ _ _, ?_⟩
      simp only [rdA, rd_forL, rd_forR, rd_compT, rd_compL, rd_compR, rd_tyes, rd_seq, rd_if]
      refine ⟨_, SqL.of hx, _, hat, ?_⟩
      simp only [rdA, rd_forL, rd_forR, rd_compT, rd_compL, rd_compR, rd_tyes, rd_seq, rd_if]
      refine ⟨_, SqT.of ht, _, atI0 _ _, ?_⟩
      simp only [rdA, rd_forL, rd_forR, rd_compT, rd_compL, rd_compR, rd_tyes, rd_seq, rd_if]
      unfold stepP at q
      rw [if_neg p2, e] at q
      simp only at q
      by_cases hs : nd.sw = s
      · rw [if_pos hs] at q
        rw [decide_eq_true hs]
        refine iteF ⟨_, _, hA.ob, _, fl_nodes _ _ _ _, ?_⟩
        simp only [rdA, rd_forL, rd_forR, rd_compT, rd_compL, rd_compR, rd_tyes, rd_seq, rd_if]
        refine ⟨_, SqL.of hx, _, hat, ?_⟩
        simp only [rdA, rd_forL, rd_forR, rd_compT, rd_compL, rd_compR, rd_tyes, rd_seq, rd_if]
        cases b with
        | true =>
          refine iteT ⟨_, SqT.of ht, _, atI2 _ _ _ _, q⟩
        | false =>
          refine iteF ⟨_, SqT.of ht, _, atI1 _ _ _, q⟩
      · rw [if_neg hs] at q
        rw [decide_eq_false hs]
        exact iteT q
noncomputable def spFirst (C : Addr) : Sp := fun vs H Q _ => ∃ (a : Adr) (ns : List Nd) (kp : List (List Key × V)) (t : Addr) (ps : List Nat), vs = [.ref a.p, .ref t] ∧ NetAt C H a ns kp ∧ H t = some (.tup (ps.map fun p => V.int (p : Nat))) ∧ (∀ p ∈ ps, Pl ns p) ∧ ps.length ≤ 10 ∧ (∃ p ∈ ps, ¬ p < 2) ∧
  ∀ (s : Int) H', Same H H' → (∀ p ∈ ps, Above ns (s - 1) p) → (∃ p ∈ ps, ¬ p < 2 ∧ ∃ nd, ns[p - 2]? = some nd ∧ nd.sw = s) → Q (.int s) H'
noncomputable def tops (ns : List Nd) (ps : List Nat) : List Int := ps.filterMap fun p => if p < 2 then none else (ns[p - 2]?).map (·.sw)
theorem tops_mem {ns : List Nd} {ps : List Nat} {s : Int} : s ∈ tops ns ps ↔ ∃ p ∈ ps, ¬ p < 2 ∧ ∃ nd, ns[p - 2]? = some nd ∧ nd.sw = s := by
  unfold tops
  rw [List.mem_filterMap]
  constructor
  · rintro ⟨p, hp, e⟩
    by_cases h : p < 2
    · rw [if_pos h] at e; cases e
    · rw [if_neg h] at e
      cases q : ns[p - 2]? with
      | none => rw [q] at e; cases e
      | some nd => rw [q] at e; exact ⟨p, hp, h, nd, q, Option.some.inj e⟩
  · rintro ⟨p, hp, h, nd, e, rfl⟩
    exact ⟨p, hp, by rw [if_neg h, e]; rfl⟩
theorem tops_len (ns : List Nd) (ps : List Nat) : (tops ns ps).length ≤ ps.length := List.length_filterMap_le _ _
structure FsInv (H : Hp) (D : Addr) (ns : List Nd) (ps : List Nat) (i : Nat) (ys : List V) (H2 : Hp) : Prop where
  sm : Same H H2
  at_ : H2 D = some (.lst ys)
  is : ys = (tops ns (ps.take i)).map V.int
theorem ok_first {f C : Addr} {fd : FuncData} (n_min : mg "min" = none) (F : Fun K "first_switch" "Net.first_switch" s_Net_first_switch f fd) (NT : NTx K C) : FnOk P w K mg base CX0 1 f fd p_Net_first_switch (spFirst C) := by
  refine F.ok sc_Net_first_switch (fun vs H Q E h => ?_) (fun cdv A outer s H vs Q E hr h => ?_)
  · obtain ⟨a, ns, kp, t, ps, rfl, _⟩ := h
    rfl
  · obtain ⟨a, ns, kp, t, ps, rfl, hA, ht, hps, hpl, hbig, q⟩ := h
    refine ⟨_, (pss_one (ps_ret (pe_callB (call_minL rfl) (by rfl) n_min bo_min (pa_cons (pe_comp rfl (pi_tup (pv 1)) (csc_of (M := ["self", "places"]) rfl (by decide +kernel) (by decide +kernel)) (fun _ _ _ _ => (pts_one (pt_cmpR op_gt (pv 0) pe_int (nomark _)))) (fun _ _ _ _ => (pe_ix (ix_tupK (K := K) rfl) (pe_ix (ix_listK (K := K) rfl) (pe_fldC NT.cl NT.n_nodes (pv 1) (by rfl)) (pe_op op_sub (pv 0) pe_int) (fun _ _ => rfl)) pe_int (fun _ _ => rfl)))) pa_nil)))), ?_⟩
    simp only [rdA, rd_forL, rd_forR, rd_compT, rd_compL, rd_compR, rd_tyes, rd_seq, rd_if]
    refine ⟨⟨_, SqT.of ht⟩, fun D hD => ?_⟩
    have s1 := Same.new (o := HO.lst []) hD
    refine comp_tup (K := K) (a := t) (xs := ps.map fun p => V.int (p : Nat)) (FsInv H D ns ps) ⟨s1, upd_same, rfl⟩ (fun i ys H2 _ h => SqT.of (h.sm _ _ ht)) ?_ ?_
    · rintro i x ys H2 hi ⟨sm, hd, rfl⟩
      rw [List.getElem?_map] at hi
      cases hp : ps[i]? with
      | none => rw [hp] at hi; cases hi
      | some p =>
        rw [hp] at hi
        cases hi
        have hil : i < ps.length := (List.getElem?_eq_some_iff.mp hp).1
        have hpm : p ∈ ps := List.mem_of_getElem? hp
        have htk : ps.take (i + 1) = ps.take i ++ [p] := by rw [List.take_add_one, hp]; rfl
        have hA2 := hA.same sm
        simp only [rdA, rd_forL, rd_forR, rd_compT, rd_compL, rd_compR, rd_tyes, rd_seq, rd_if]
        by_cases p2 : p < 2
        · rw [decide_eq_false (by omega : ¬ (1 : Int) < (p : Nat))]
          refine iteF ⟨_, ?_, rfl, ?_, sm, hd, ?_⟩
          · rw [List.length_map]; omega
          · rw [List.length_map]; omega
          · rw [htk]
            simp [tops, p2]
        · rw [decide_eq_true (by omega : (1 : Int) < (p : Nat))]
          obtain ⟨nd, e, _⟩ := node_of (hps p hpm) p2
          obtain ⟨xs, hx, hxs⟩ := hA2.nodes
          obtain ⟨v, hv, u, rfl, hu⟩ := nds_get hxs e
          have hat : atI xs ((p : Nat) - 2 : Int) = some (.ref u) := by
            have : ((p : Nat) : Int) - 2 = ((p - 2 : Nat) : Int) := by omega
            rw [this]; exact atI_nat hv
          refine iteT ⟨_, _, hA2.ob, _, fl_nodes _ _ _ _, ?_⟩
          simp only [rdA, rd_forL, rd_forR, rd_compT, rd_compL, rd_compR, rd_tyes, rd_seq, rd_if]
          refine ⟨_, SqL.of hx, _, hat, ?_⟩
          simp only [rdA, rd_forL, rd_forR, rd_compT, rd_compL, rd_compR, rd_tyes, rd_seq, rd_if]
          have hlt := tops_len ns (ps.take i)
          rw [List.length_take] at hlt
          refine ⟨_, SqT.of hu, _, atI0 _ _, hd, small1000 (by rw [List.length_map]; omega), _, ?_, rfl, ?_, sm.mut hD, upd_same, ?_⟩
          · rw [List.length_map]; omega
          · rw [List.length_map]; omega
          · rw [htk]
            simp [tops, p2, e]
    · rintro ys H2 ⟨sm, hd, rfl⟩
      rw [List.length_map, List.take_length] at hd
      obtain ⟨p, hp, p2⟩ := hbig
      obtain ⟨nd, e, _⟩ := node_of (hps p hp) p2
      have hm : nd.sw ∈ tops ns ps := tops_mem.mpr ⟨p, hp, p2, nd, e, rfl⟩
      refine ⟨D, rfl, _, hd, List.length_pos_of_mem hm, fun M hM hmin => q M H2 sm (fun p' hp' => ?_) (tops_mem.mp hM)⟩
      by_cases h2 : p' < 2
      · exact .inl h2
      · obtain ⟨nd', e', _⟩ := node_of (hps p' hp') h2
        have := hmin nd'.sw (tops_mem.mpr ⟨p', hp', h2, nd', e', rfl⟩)
        exact .inr ⟨nd', e', by omega⟩
end
end Nt
end CN
end
section
set_option Elab.async false
set_option linter.all false
set_option maxRecDepth 100000
set_option maxHeartbeats 4000000
namespace CN
open PySem L2
seal L2.PE L2.PT L2.PS L2.PSs L2.PA L2.PPs L2.PW L2.PC L2.PG L2.PGs L2.PI L2.PO L2.PTs
namespace Nt
noncomputable abbrev s_Net_choice : Stmt := inClass (top 10) 4
noncomputable abbrev p_Net_choice : List Str := ["self", "test", "yes", "no"]
theorem sc_Net_choice : FnScope ["self", "test", "yes", "no", "key", "switch", "off_way", "on_way", "off", "on"] ["self", "test", "yes", "no"] (defScope s_Net_choice) := ⟨rfl, rfl, rfl, by decide +kernel, rfl, by decide +kernel, by decide +kernel⟩
noncomputable def chK (t y n : Nat) : List Key := [Sum.inl ((t : Nat) : Int), Sum.inl ((y : Nat) : Int), Sum.inl ((n : Nat) : Int)]
structure NetC (C : Addr) (H : Hp) (a : Adr) (ns : List Nd) (kp kc : List (List Key × V)) : Prop where
  at_ : NetAt C H a ns kp
  ch : H a.lc = some (.dT kc)
  ne : a.lc ≠ a.lp
  is : ∀ k v, valV kc k = some v → ∃ t y n r : Nat, k = chK t y n ∧ v = .int (r : Nat) ∧ Pl ns t ∧ Pl ns y ∧ Pl ns n ∧ Ite ns t y n r
theorem chK_inj {t y n t' y' n' : Nat} (h : chK t y n = chK t' y' n') : t = t' ∧ y = y' ∧ n = n' := by
  simp only [chK, List.cons.injEq, Sum.inl.injEq, and_true] at h
  omega
theorem But.refl (L : List Addr) (H : Hp) : But L H H := fun _ _ e _ => e
theorem But.trans {L : List Addr} {H H1 H2 : Hp} (h : But L H H1) (k : But L H1 H2) : But L H H2 := fun b o e hb => k b o (h b o e hb) hb
theorem But.of {L : List Addr} {H H1 : Hp} (h : Same H H1) : But L H H1 := fun b o e _ => h b o e
theorem But.mono {L L' : List Addr} {H H1 : Hp} (h : But L H H1) (hs : ∀ b ∈ L, b ∈ L') : But L' H H1 := fun b o e hb => h b o e fun z => hb (hs b z)
theorem But.mut {L : List Addr} {H H1 : Hp} {p : Addr} {o : HO} (h : But L H H1) (hp : p ∈ L) : But L H (upd H1 p o) := fun b u e hb => by
  rw [upd_ne (fun z => hb (by rw [z]; exact hp))]; exact h b u e hb
theorem NetC.tk {C : Addr} {H H' : Hp} {a : Adr} {ns : List Nd} {kp kc : List (List Key × V)} (h : NetC C H a ns kp kc) (k : But [a.ln, a.lp, a.lc] H H') : Tk H H' := fun b xs e => by
  obtain ⟨ys, h1, _⟩ := h.at_.nodes
  refine k b _ e fun hm => ?_
  simp only [List.mem_cons, List.not_mem_nil, or_false] at hm
  rcases hm with rfl | rfl | rfl
  · rw [h1] at e; cases e
  · rw [h.at_.places] at e; cases e
  · rw [h.ch] at e; cases e
theorem NetC.same {C : Addr} {H H' : Hp} {a : Adr} {ns : List Nd} {kp kc : List (List Key × V)} (h : NetC C H a ns kp kc) (s : Same H H') : NetC C H' a ns kp kc := ⟨h.at_.same s, s _ _ h.ch, h.ne, h.is⟩
theorem NetC.off {C b : Addr} {H : Hp} {a : Adr} {ns : List Nd} {kp kc : List (List Key × V)} (h : NetC C H a ns kp kc) (e : H b = none) : b ∉ [a.ln, a.lp, a.lc] := fun hm => by
  obtain ⟨ys, h1, _⟩ := h.at_.nodes
  simp only [List.mem_cons, List.not_mem_nil, or_false] at hm
  rcases hm with rfl | rfl | rfl
  · rw [h1] at e; cases e
  · rw [h.at_.places] at e; cases e
  · rw [h.ch] at e; cases e
theorem NetAt.put {C : Addr} {H : Hp} {a : Adr} {ns : List Nd} {kp kc kc' : List (List Key × V)} (h : NetAt C H a ns kp) (hc : H a.lc = some (.dT kc)) (ne : a.lc ≠ a.lp) : NetAt C (upd H a.lc (.dT kc')) a ns kp := by
  obtain ⟨xs, h1, h2⟩ := h.nodes
  have k : Tk H (upd H a.lc (.dT kc')) := fun b ys e => by rw [upd_ne (ne_of e hc (by intro z; cases z))]; exact e
  refine ⟨by rw [upd_ne (ne_of h.ob hc (by intro z; cases z))]; exact h.ob, ⟨xs, by rw [upd_ne (ne_of h1 hc (by intro z; cases z))]; exact h1, nds_to k h2⟩, by rw [upd_ne ne.symm]; exact h.places, h.pls, h.into, h.out⟩
theorem fl_first (ln lp lc ls : Addr) : (nflds ln lp lc ls).lookup ("first_switch" : Str) = none := by
  unfold nflds
  rw [List.lookup_cons, show (("first_switch" : Str) == "nodes") = false from by decide +kernel, List.lookup_cons, show (("first_switch" : Str) == "places") = false from by decide +kernel, List.lookup_cons, show (("first_switch" : Str) == "choices") = false from by decide +kernel, List.lookup_cons, show (("first_switch" : Str) == "settled") = false from by decide +kernel]; rfl
theorem fl_step (ln lp lc ls : Addr) : (nflds ln lp lc ls).lookup ("step" : Str) = none := by
  unfold nflds
  rw [List.lookup_cons, show (("step" : Str) == "nodes") = false from by decide +kernel, List.lookup_cons, show (("step" : Str) == "places") = false from by decide +kernel, List.lookup_cons, show (("step" : Str) == "choices") = false from by decide +kernel, List.lookup_cons, show (("step" : Str) == "settled") = false from by decide +kernel]; rfl
theorem fl_choice (ln lp lc ls : Addr) : (nflds ln lp lc ls).lookup ("choice" : Str) = none := by
  unfold nflds
  rw [List.lookup_cons, show (("choice" : Str) == "nodes") = false from by decide +kernel, List.lookup_cons, show (("choice" : Str) == "places") = false from by decide +kernel, List.lookup_cons, show (("choice" : Str) == "choices") = false from by decide +kernel, List.lookup_cons, show (("choice" : Str) == "settled") = false from by decide +kernel]; rfl
theorem fl_node (ln lp lc ls : Addr) : (nflds ln lp lc ls).lookup ("node_place" : Str) = none := by
  unfold nflds
  rw [List.lookup_cons, show (("node_place" : Str) == "nodes") = false from by decide +kernel, List.lookup_cons, show (("node_place" : Str) == "places") = false from by decide +kernel, List.lookup_cons, show (("node_place" : Str) == "choices") = false from by decide +kernel, List.lookup_cons, show (("node_place" : Str) == "settled") = false from by decide +kernel]; rfl
noncomputable def cnt (L : List Int) (b : Int) : Nat := (L.filter fun t => decide (b < t)).length
theorem cnt_lt {L : List Int} {b s : Int} (hs : s ∈ L) (h : b < s) : cnt L s < cnt L b := by
  unfold cnt
  induction L with
  | nil => cases hs
  | cons t L ih =>
    have mono : ∀ L : List Int, (L.filter fun t => decide (s < t)).length ≤ (L.filter fun t => decide (b < t)).length := by
      intro L
      induction L with
      | nil => exact Nat.le_refl _
      | cons u L ih2 =>
        by_cases h1 : s < u
        · have h2 : b < u := by omega
          simp only [List.filter_cons, h1, h2, decide_true, if_true, List.length_cons]; omega
        · by_cases h2 : b < u
          · simp only [List.filter_cons, h1, h2, decide_true, decide_false, if_true, Bool.false_eq_true, if_false, List.length_cons]; omega
          · simp only [List.filter_cons, h1, h2, decide_false, Bool.false_eq_true, if_false]; exact ih2
    rcases List.mem_cons.mp hs with e | e
    · subst e
      have := mono L
      have h1 : ¬ s < s := by omega
      simp only [List.filter_cons, h1, h, decide_true, decide_false, if_true, Bool.false_eq_true, if_false, List.length_cons]; omega
    · have := ih e
      by_cases h1 : s < t
      · have h2 : b < t := by omega
        simp only [List.filter_cons, h1, h2, decide_true, if_true, List.length_cons]; omega
      · by_cases h2 : b < t
        · simp only [List.filter_cons, h1, h2, decide_true, decide_false, if_true, Bool.false_eq_true, if_false, List.length_cons]; omega
        · simp only [List.filter_cons, h1, h2, decide_false, Bool.false_eq_true, if_false]; exact this
section
variable {P : Program} {w : World} {K : PySem.W.Frag} {mg : Str → Option Value} {base : Heap}
noncomputable def spChoice (C : Addr) (R : Nat) : Sp := fun vs H Q _ => ∃ (a : Adr) (ns : List Nd) (kp kc : List (List Key × V)) (L : List Int) (t y n : Nat) (b : Int), vs = [.ref a.p, .int (t : Nat), .int (y : Nat), .int (n : Nat)] ∧ NetC C H a ns kp kc ∧ Net ns ∧ Pl ns t ∧ Pl ns y ∧ Pl ns n ∧
  (∀ nd ∈ ns, nd.sw ∈ L) ∧ Above ns b t ∧ Above ns b y ∧ Above ns b n ∧ cnt L b ≤ R ∧ ns.length + 2 ^ R ≤ 10000000 ∧ kc.length + 2 ^ R ≤ 10000000 ∧
  ∀ (r : Nat) (ns' : List Nd) (kp' kc' : List (List Key × V)) H', Net ns' → Ext ns ns' → NetC C H' a ns' kp' kc' → Ite ns' t y n r → (∀ nd ∈ ns', nd.sw ∈ L) → ns'.length + 1 ≤ ns.length + 2 ^ R → kc'.length + 1 ≤ kc.length + 2 ^ R → But [a.ln, a.lp, a.lc] H H' → Q (.int (r : Nat)) H'
structure StInv (H : Hp) (D : Addr) (ns : List Nd) (s : Int) (b : Bool) (ps : List Nat) (i : Nat) (ys : List V) (H2 : Hp) : Prop where
  sm : Same H H2
  at_ : H2 D = some (.lst ys)
  is : ys = (ps.take i).map fun p => V.int (stepP ns p s b : Nat)
theorem comp_steps {C p D : Addr} {a : Adr} {ns : List Nd} {kp : List (List Key × V)} {ps : List Nat} {s : Int} {b : Bool} {H : Hp} {σ : St} {Q : VK} (hA : NetAt C H a ns kp) (hD : H D = none) (ht : H p = some (.tup (ps.map fun p => V.int (p : Nat)))) (hps : ∀ p ∈ ps, Pl ns p) (hl : ps.length ≤ 10)
    (h0 : σ[0]? = some (some (.ref a.p))) (h5 : σ[5]? = some (some (.int s))) (q : ∀ H', Same H H' → H' D = some (.lst (ps.map fun p => V.int (stepP ns p s b : Nat))) → Q (.ref D) H') :
    tCompIn (Itt K p) D tYes (tMeth C (Str.ofString "step") (spStep C) [] E0 (tVar 1) (tCons (tVar 0) (tCons (tVar 6) (tCons (tC (V.bl b)) tNil)))) σ Q H := by
  refine comp_tup (K := K) (a := p) (xs := ps.map fun p => V.int (p : Nat)) (StInv H D ns s b ps) ⟨Same.new hD, upd_same, rfl⟩ (fun i ys H2 _ h => SqT.of (h.sm _ _ ht)) ?_ ?_
  · rintro i x ys H2 hi ⟨sm, hd, rfl⟩
    rw [List.getElem?_map] at hi
    cases hp : ps[i]? with
    | none => rw [hp] at hi; cases hi
    | some z =>
      rw [hp] at hi
      cases hi
      have hil : i < ps.length := (List.getElem?_eq_some_iff.mp hp).1
      have htk : ps.take (i + 1) = ps.take i ++ [z] := by rw [List.take_add_one, hp]; rfl
      have hA2 := hA.same sm
      simp only [rdA, rd_forL, rd_forR, rd_compT, rd_compL, rd_compR, rd_tyes, rd_seq, rd_if]
      refine ⟨_, h0, _, rfl, _, _, hA2.ob, fl_step _ _ _ _, _, h5, a, ns, kp, z, s, b, rfl, hA2, hps z (List.mem_of_getElem? hp), hd, small1000 (by rw [List.length_map, List.length_take]; omega), _, ?_, rfl, ?_, sm.mut hD, upd_same, ?_⟩
      · rw [List.length_map]; omega
      · rw [List.length_map]; omega
      · rw [htk, List.map_append]; rfl
  · rintro ys H2 ⟨sm, hd, rfl⟩
    rw [List.length_map, List.take_length] at hd
    exact q H2 sm hd
noncomputable def spC (C : Addr) : Nat → Sp
  | 0 => fun _ _ _ _ => False
  | R + 1 => spChoice C R
theorem ok_choice_step {f f1 f2 f3 C : Addr} {fd fd1 fd2 fd3 : FuncData} {R k : Nat} (hk : 1 ≤ k) (F : Fun K "choice" "Net.choice" s_Net_choice f fd) (NT : NTx K C) (m_choice : Meth K C "choice" f) (b_choice : Binds K fd p_Net_choice [])
    (m_first_switch : Meth K C "first_switch" f1) (b_first_switch : Binds K fd1 p_Net_first_switch []) (G1 : FnOk P w K mg base CX0 1 f1 fd1 p_Net_first_switch (spFirst C))
    (m_step : Meth K C "step" f2) (b_step : Binds K fd2 p_Net_step []) (G2 : FnOk P w K mg base CX0 1 f2 fd2 p_Net_step (spStep C))
    (m_node_place : Meth K C "node_place" f3) (b_node_place : Binds K fd3 p_Net_node_place []) (G3 : FnOk P w K mg base CX0 1 f3 fd3 p_Net_node_place (spNode C))
    (G_choice : FnOk P w K mg base CX0 k f fd p_Net_choice (spC C R)) : FnOk P w K mg base CX0 (k + 1) f fd p_Net_choice (spC C (R + 1)) := by
  have G_first_switch := G1.mono hk
  have G_step := G2.mono hk
  have G_node_place := G3.mono hk
  refine F.ok sc_Net_choice (fun vs H Q E h => ?_) (fun cdv A outer s H vs Q E hr h => ?_)
  · obtain ⟨a, ns, kp, kc, L, t, y, n, b, rfl, _⟩ := h
    rfl
  · obtain ⟨a, ns, kp, kc, L, t, y, n, b, rfl, hC, hN, lt, ly, ln, hL, at_, ay, an, hcn, hz1, hz2, q⟩ := h
    have hu := hu_of hr
    refine ⟨_, (pss_cons (ps_if (pt_cmpR op_lt (pv 1) pe_int (nomark _))
      (pss_one (ps_ret (pe_ifExp (pt_cmpR op_eq (pv 1) pe_int (nomark _)) (pv 2) (pv 3))))
      pss_nil)
    (pss_cons (ps_if (pt_cmpR op_eq (pv 2) (pv 3) (nomark _))
      (pss_one (ps_ret (pv 2)))
      pss_nil)
    (pss_cons (ps_set (i := 4) sc_Net_choice.nd rfl (by first | exact Or.inl rfl | exact Or.inr rfl) (pe_tup (pa_cons (pv 1) (pa_cons (pv 2) (pa_cons (pv 3) pa_nil)))))
    (pss_cons (ps_if (pt_cmp (pc_dnotin hu (pv 4) (pe_fldC NT.cl NT.n_choices (pv 0) (by rfl))))
      (pss_cons (ps_set (i := 5) sc_Net_choice.nd rfl (by first | exact Or.inl rfl | exact Or.inr rfl) (pe_meth (pv 0) NT.cl m_first_switch G_first_switch (hr) b_first_switch .nil pass0 (pa_cons (pv 4) pa_nil)))
      (pss_cons (ps_setC (i := 6) sc_Net_choice.nd rfl (by first | exact Or.inl rfl | exact Or.inr rfl) rfl (pi_tup (pv 4)) (csc_of (M := ["self", "test", "yes", "no", "key", "switch", "off_way", "on_way", "off", "on"]) rfl (by decide +kernel) (by decide +kernel)) (fun _ _ _ _ => pts_nil) (fun _ _ _ _ => (pe_meth (pv 1) NT.cl m_step G_step (hr) b_step .nil pass0 (pa_cons (pv 0) (pa_cons (pv 6) (pa_cons pe_bl pa_nil))))) (by rfl))
      (pss_cons (ps_setC (i := 7) sc_Net_choice.nd rfl (by first | exact Or.inl rfl | exact Or.inr rfl) rfl (pi_tup (pv 4)) (csc_of (M := ["self", "test", "yes", "no", "key", "switch", "off_way", "on_way", "off", "on"]) rfl (by decide +kernel) (by decide +kernel)) (fun _ _ _ _ => pts_nil) (fun _ _ _ _ => (pe_meth (pv 1) NT.cl m_step G_step (hr) b_step .nil pass0 (pa_cons (pv 0) (pa_cons (pv 6) (pa_cons pe_bl pa_nil))))) (by rfl))
      (pss_cons (ps_set (i := 8) sc_Net_choice.nd rfl (by first | exact Or.inl rfl | exact Or.inr rfl) (pe_meth (pv 0) NT.cl m_choice G_choice (hr) b_choice .nil pass0 (pa_cons (pe_ix ix_list (pv 6) pe_int (fun _ _ => rfl)) (pa_cons (pe_ix ix_list (pv 6) pe_int (fun _ _ => rfl)) (pa_cons (pe_ix ix_list (pv 6) pe_int (fun _ _ => rfl)) pa_nil)))))
      (pss_cons (ps_set (i := 9) sc_Net_choice.nd rfl (by first | exact Or.inl rfl | exact Or.inr rfl) (pe_meth (pv 0) NT.cl m_choice G_choice (hr) b_choice .nil pass0 (pa_cons (pe_ix ix_list (pv 7) pe_int (fun _ _ => rfl)) (pa_cons (pe_ix ix_list (pv 7) pe_int (fun _ _ => rfl)) (pa_cons (pe_ix ix_list (pv 7) pe_int (fun _ _ => rfl)) pa_nil)))))
      (pss_one (ps_dput hu (pe_fldC NT.cl NT.n_choices (pv 0) (by rfl)) (pv 4) (pe_meth (pv 0) NT.cl m_node_place G_node_place (hr) b_node_place .nil pass0 (pa_cons (pv 5) (pa_cons (pv 8) (pa_cons (pv 9) pa_nil)))) rfl)))))))
      pss_nil)
    (pss_one (ps_ret (pe_dget hu (pe_fldC NT.cl NT.n_choices (pv 0) (by rfl)) (pv 4) (fun _ _ => rfl)))))))), ?_⟩
    refine seq_as fun R1 hR1 => ?_
    refine if_as fun A B hA hB => ?_
    simp only [rdA, rd_forL, rd_forR, rd_compT, rd_compL, rd_compR, rd_tyes]
    have hp2 : 1 ≤ 2 ^ R := Nat.one_le_two_pow
    refine ite2 (fun h => ?_) (fun h => ?_)
    · subst hA
      clear hB hR1
      simp only [rdA, rd_forL, rd_forR, rd_compT, rd_compL, rd_compR, rd_tyes]
      have ht2 : ((t : Nat) : Int) < 2 := by simpa using h
      refine ite2 (fun h1 => ?_) (fun h1 => ?_)
      · have e : ((t : Nat) : Int) = 1 := by simpa using h1
        have e : t = 1 := by omega
        subst e
        exact q y ns kp kc H hN (Ext.refl _) hC ⟨ly, fun ρ => by rw [val_yes]; rfl⟩ hL (by omega) (by omega) (But.refl _ _)
      · have e : ¬ ((t : Nat) : Int) = 1 := by simpa using h1
        have e : t = 0 := by omega
        subst e
        exact q n ns kp kc H hN (Ext.refl _) hC ⟨ln, fun ρ => by rw [val_no]; rfl⟩ hL (by omega) (by omega) (But.refl _ _)
    · subst hB
      clear hA
      simp only [rdA, rd_forL, rd_forR, rd_compT, rd_compL, rd_compR, rd_tyes]
      subst hR1
      refine seq_as fun R1 hR1 => ?_
      refine if_as fun A B hA hB => ?_
      simp only [rdA, rd_forL, rd_forR, rd_compT, rd_compL, rd_compR, rd_tyes]
      have ht2 : ¬ ((t : Nat) : Int) < 2 := by simpa using h
      refine ite2 (fun h1 => ?_) (fun h1 => ?_)
      · subst hA
        clear hB hR1
        simp only [rdA, rd_forL, rd_forR, rd_compT, rd_compL, rd_compR, rd_tyes]
        have e : ((y : Nat) : Int) = n := by simpa using h1
        have e : y = n := by omega
        subst e
        exact q y ns kp kc H hN (Ext.refl _) hC ⟨ly, fun ρ => by cases val ns t ρ <;> rfl⟩ hL (by omega) (by omega) (But.refl _ _)
      · subst hB
        clear hA
        simp only [rdA, rd_forL, rd_forR, rd_compT, rd_compL, rd_compR, rd_tyes]
        subst hR1
        refine seq_as fun R1 hR1 => ?_
        simp only [rdA, rd_forL, rd_forR, rd_compT, rd_compL, rd_compR, rd_tyes]
        intro p hp
        have s1 := Same.new (o := HO.tup [V.int (t : Nat), V.int (y : Nat), V.int (n : Nat)]) hp
        have hC1 := hC.same s1
        have hp1 : upd H p (HO.tup [V.int (t : Nat), V.int (y : Nat), V.int (n : Nat)]) p = some (.tup ((chK t y n).map kV)) := upd_same
        have bt1 : But [a.ln, a.lp, a.lc] H (upd H p (HO.tup [V.int (t : Nat), V.int (y : Nat), V.int (n : Nat)])) := But.of s1
        generalize upd H p (HO.tup [V.int (t : Nat), V.int (y : Nat), V.int (n : Nat)]) = H1 at hC1 hp1 bt1 ⊢
        clear s1 hp
        subst hR1
        refine seq_as fun R1 hR1 => ?_
        refine if_as fun A B hA hB => ?_
        simp only [rdA, rd_forL, rd_forR, rd_compT, rd_compL, rd_compR, rd_tyes]
        refine ⟨_, _, hC1.at_.ob, _, fl_choices _ _ _ _, _, rfl, _, DGet.t (k := chK t y n) hC1.ch hp1, ?_⟩
        cases hv : valV kc (chK t y n) with
        | some v =>
          obtain ⟨t', y', n', r, ek, rfl, _, _, _, hi⟩ := hC1.is _ _ hv
          obtain ⟨rfl, rfl, rfl⟩ := chK_inj ek
          refine iteF ?_
          subst hB
          clear hA
          simp only [rdA, rd_forL, rd_forR, rd_compT, rd_compL, rd_compR, rd_tyes]
          subst hR1
          simp only [rdA, rd_forL, rd_forR, rd_compT, rd_compL, rd_compR, rd_tyes]
          exact ⟨_, _, hC1.at_.ob, _, fl_choices _ _ _ _, _, rfl, _, by rw [← hv]; exact DGet.t (k := chK t y n) hC1.ch hp1, q r ns kp kc H1 hN (Ext.refl _) hC1 hi hL (by omega) (by omega) bt1⟩
        | none =>
          have hps : ∀ x ∈ [t, y, n], Pl ns x := by
            intro x hx
            simp only [List.mem_cons, List.not_mem_nil, or_false] at hx
            rcases hx with rfl | rfl | rfl <;> assumption
          have hpb : ∀ x ∈ [t, y, n], Above ns b x := by
            intro x hx
            simp only [List.mem_cons, List.not_mem_nil, or_false] at hx
            rcases hx with rfl | rfl | rfl <;> assumption
          refine iteT ?_
          subst hA
          clear hB
          refine seq_as fun R2 hR2 => ?_
          simp only [rdA, rd_forL, rd_forR, rd_compT, rd_compL, rd_compR, rd_tyes]
          refine ⟨_, _, hC1.at_.ob, fl_first _ _ _ _, a, ns, kp, p, [t, y, n], rfl, hC1.at_, hp1, hps, (by simp only [List.length_cons, List.length_nil]; omega), ⟨t, by simp, by omega⟩, ?_⟩
          intro s2 H2 sm2 hab hex
          obtain ⟨z, hz, hz2, nd, hnd, hs⟩ := hex
          have hbs : b < s2 := by
            rcases hpb z hz with h | ⟨nd', h1, h2⟩
            · exact absurd h hz2
            · rw [hnd] at h1; cases h1; rw [← hs]; exact h2
          have hsL : s2 ∈ L := by rw [← hs]; exact hL nd (List.mem_of_getElem? hnd)
          have hct := cnt_lt hsL hbs
          obtain ⟨R', rfl⟩ : ∃ R', R = R' + 1 := ⟨R - 1, by omega⟩
          have hpw : 2 ^ (R' + 1) = 2 ^ R' + 2 ^ R' := by rw [Nat.pow_succ]; omega
          have hp3 : 1 ≤ 2 ^ R' := Nat.one_le_two_pow
          have hC2 := hC1.same sm2
          have hk2 : H2 p = some (.tup ([t, y, n].map fun p => V.int (p : Nat))) := sm2 _ _ hp1
          subst hR2
          refine seq_as fun R2 hR2 => ?_
          simp only [rdA, rd_forL, rd_forR, rd_compT, rd_compL, rd_compR, rd_tyes]
          refine ⟨⟨_, SqT.of hk2⟩, fun D1 hD1 => ?_⟩
          refine comp_steps hC2.at_ hD1 hk2 hps (by simp only [List.length_cons, List.length_nil]; omega) rfl rfl fun H3 sm3 hL3 => ?_
          have hC3 := hC2.same sm3
          have hk3 : H3 p = some (.tup ([t, y, n].map fun p => V.int (p : Nat))) := sm3 _ _ hk2
          subst hR2
          refine seq_as fun R2 hR2 => ?_
          simp only [rdA, rd_forL, rd_forR, rd_compT, rd_compL, rd_compR, rd_tyes]
          refine ⟨⟨_, SqT.of hk3⟩, fun D2 hD2 => ?_⟩
          refine comp_steps hC3.at_ hD2 hk3 hps (by simp only [List.length_cons, List.length_nil]; omega) rfl rfl fun H4 sm4 hL4 => ?_
          have hC4 := hC3.same sm4
          have hk4 : H4 p = some (.tup ([t, y, n].map fun p => V.int (p : Nat))) := sm4 _ _ hk3
          have hL3' := sm4 _ _ hL3
          have bt4 : But [a.ln, a.lp, a.lc] H H4 := bt1.trans ((But.of sm2).trans ((But.of sm3).trans (But.of sm4)))
          have abt := hab t (by simp)
          have aby := hab y (by simp)
          have abn := hab n (by simp)
          have pt := hps t (by simp)
          have py := hps y (by simp)
          have pn := hps n (by simp)
          subst hR2
          refine seq_as fun R2 hR2 => ?_
          simp only [rdA, rd_forL, rd_forR, rd_compT, rd_compL, rd_compR, rd_tyes]
          refine ⟨_, _, hC4.at_.ob, fl_choice _ _ _ _, _, SqL.of hL3', _, rfl, _, SqL.of hL3', _, rfl, _, SqL.of hL3', _, rfl, ?_⟩
          refine ⟨a, ns, kp, kc, L, _, _, _, s2, rfl, hC4, hN, step_pl hN pt, step_pl hN py, step_pl hN pn, hL, step_above hN pt abt, step_above hN py aby, step_above hN pn abn, by omega, by omega, by omega, ?_⟩
          intro ro n1 kp1 kc1 H5 N1 e1 hC5 io hL1 l1 k1 bt5
          have hL5 := bt5 _ _ hL4 (hC3.off hD2)
          have tk5 := hC4.tk bt5
          have hk5 := tk5 _ _ hk4
          subst hR2
          refine seq_as fun R2 hR2 => ?_
          simp only [rdA, rd_forL, rd_forR, rd_compT, rd_compL, rd_compR, rd_tyes]
          refine ⟨_, _, hC5.at_.ob, fl_choice _ _ _ _, _, SqL.of hL5, _, rfl, _, SqL.of hL5, _, rfl, _, SqL.of hL5, _, rfl, ?_⟩
          refine ⟨a, n1, kp1, kc1, L, _, _, _, s2, rfl, hC5, N1, e1.pl (step_pl hN pt), e1.pl (step_pl hN py), e1.pl (step_pl hN pn), hL1, e1.above (step_above hN pt abt), e1.above (step_above hN py aby), e1.above (step_above hN pn abn), by omega, by omega, by omega, ?_⟩
          intro rn n2 kp2 kc2 H6 N2 e2 hC6 iN hL2 l2 k2 bt6
          have tk6 := hC5.tk bt6
          have hk6 := tk6 _ _ hk5
          have aro : Above n2 s2 ro := e2.above (io.above N1 (e1.pl (step_pl hN pt)) (e1.pl (step_pl hN py)) (e1.pl (step_pl hN pn)) (e1.above (step_above hN pt abt)) (e1.above (step_above hN py aby)) (e1.above (step_above hN pn abn)))
          have e12 := e1.trans e2
          have arn : Above n2 s2 rn := iN.above N2 (e12.pl (step_pl hN pt)) (e12.pl (step_pl hN py)) (e12.pl (step_pl hN pn)) (e12.above (step_above hN pt abt)) (e12.above (step_above hN py aby)) (e12.above (step_above hN pn abn))
          subst hR2
          simp only [rdA, rd_forL, rd_forR, rd_compT, rd_compL, rd_compR, rd_tyes]
          refine ⟨_, _, hC6.at_.ob, fl_node _ _ _ _, a, n2, kp2, s2, ro, rn, rfl, hC6.at_, N2, e2.pl io.pl, iN.pl, aro, arn, by omega, ?_⟩
          intro r n3 kp3 H7 md hA7 bt7
          have hc7 : H7 a.lc = some (.dT kc2) := bt7 _ _ hC6.ch fun hm => by
            obtain ⟨ys, h1, _⟩ := hC6.at_.nodes
            simp only [List.mem_cons, List.not_mem_nil, or_false] at hm
            rcases hm with e | e
            · rw [← e, hC6.ch] at h1; cases h1
            · exact hC6.ne e
          have hk7 : H7 p = some (.tup ((chK t y n).map kV)) := hC6.tk (bt7.mono fun b hb => by simp only [List.mem_cons, List.not_mem_nil, or_false] at hb ⊢; rcases hb with e | e <;> simp [e]) _ _ hk6
          have hi := ite_turn hN N1 N2 pt py pn abt aby abn e1 e2 io iN md
          have e3 := e12.trans md.ext
          have hA8 : NetAt C (upd H7 a.lc (.dT (putK kc2 (chK t y n) (V.int (r : Nat))))) a n3 kp3 := hA7.put hc7 hC6.ne
          have hk8 : upd H7 a.lc (.dT (putK kc2 (chK t y n) (V.int (r : Nat)))) p = some (.tup ((chK t y n).map kV)) := by
            rw [upd_ne (ne_of hk7 hc7 (by intro z; cases z))]; exact hk7
          have hv8 : valV (putK kc2 (chK t y n) (V.int (r : Nat))) (chK t y n) = some (V.int (r : Nat)) := by rw [valV_put, if_pos rfl]
          refine ⟨_, _, hA7.ob, _, fl_choices _ _ _ _, _, rfl, _, DPut.t (k := chK t y n) hc7 hk7 (Nat.lt_of_le_of_lt (by omega : kc2.length ≤ 10000000) (by decide)), ?_⟩
          subst hR1
          simp only [rdA, rd_forL, rd_forR, rd_compT, rd_compL, rd_compR, rd_tyes]
          refine ⟨_, _, hA8.ob, _, fl_choices _ _ _ _, _, rfl, _, by rw [← hv8]; exact DGet.t (k := chK t y n) upd_same hk8, ?_⟩
          have hlp := length_putK kc2 (chK t y n) (V.int (r : Nat))
          have hml := md.len
          refine q r n3 kp3 _ _ md.net e3 ⟨hA8, upd_same, hC6.ne, fun k v hk => ?_⟩ hi (fun nd hnd => ?_) (by omega) (by omega) ?_
          · rw [valV_put] at hk
            by_cases e : k = chK t y n
            · rw [if_pos e] at hk
              cases hk
              exact ⟨t, y, n, r, e, rfl, e3.pl pt, e3.pl py, e3.pl pn, hi⟩
            · rw [if_neg e] at hk
              obtain ⟨t', y', n', r', e', rfl, p1, p2, p3, i'⟩ := hC6.is k v hk
              exact ⟨t', y', n', r', e', rfl, md.ext.pl p1, md.ext.pl p2, md.ext.pl p3, i'.ext md.ext p1 p2 p3⟩
          · rcases md.sws nd hnd with h | h
            · exact hL2 nd h
            · rw [h]; exact hsL
          · refine But.mut ?_ (by simp)
            exact bt4.trans (bt5.trans (bt6.trans (bt7.mono fun b hb => by simp only [List.mem_cons, List.not_mem_nil, or_false] at hb ⊢; rcases hb with e | e <;> simp [e])))
theorem ok_choice {f f1 f2 f3 C : Addr} {fd fd1 fd2 fd3 : FuncData} (F : Fun K "choice" "Net.choice" s_Net_choice f fd) (NT : NTx K C) (m_choice : Meth K C "choice" f) (b_choice : Binds K fd p_Net_choice [])
    (m_first_switch : Meth K C "first_switch" f1) (b_first_switch : Binds K fd1 p_Net_first_switch []) (G1 : FnOk P w K mg base CX0 1 f1 fd1 p_Net_first_switch (spFirst C))
    (m_step : Meth K C "step" f2) (b_step : Binds K fd2 p_Net_step []) (G2 : FnOk P w K mg base CX0 1 f2 fd2 p_Net_step (spStep C))
    (m_node_place : Meth K C "node_place" f3) (b_node_place : Binds K fd3 p_Net_node_place []) (G3 : FnOk P w K mg base CX0 1 f3 fd3 p_Net_node_place (spNode C)) :
    ∀ R, FnOk P w K mg base CX0 (R + 2) f fd p_Net_choice (spC C (R + 1))
  | 0 => ok_choice_step (k := 1) (Nat.le_refl _) F NT m_choice b_choice m_first_switch b_first_switch G1 m_step b_step G2 m_node_place b_node_place G3 ⟨fun _ _ _ _ h => False.elim h, fun _ _ _ _ _ _ _ _ _ _ _ _ _ h => False.elim h⟩
  | R + 1 => ok_choice_step (k := R + 2) (by omega) F NT m_choice b_choice m_first_switch b_first_switch G1 m_step b_step G2 m_node_place b_node_place G3 (ok_choice F NT m_choice b_choice m_first_switch b_first_switch G1 m_step b_step G2 m_node_place b_node_place G3 R)
end
end Nt
end CN
end
section
set_option Elab.async false
set_option linter.all false
set_option maxRecDepth 100000
set_option maxHeartbeats 4000000
namespace CN
open PySem L2
seal L2.PE L2.PT L2.PS L2.PSs L2.PA L2.PPs L2.PW L2.PC L2.PG L2.PGs L2.PI L2.PO L2.PTs
namespace Nt
noncomputable abbrev s_Net_settled_place : Stmt := inClass (top 10) 5
noncomputable abbrev p_Net_settled_place : List Str := ["self", "place", "switch", "on"]
theorem sc_Net_settled_place : FnScope ["self", "place", "switch", "on", "key", "node", "way_off", "way_on"] ["self", "place", "switch", "on"] (defScope s_Net_settled_place) := ⟨rfl, rfl, rfl, by decide +kernel, rfl, by decide +kernel, by decide +kernel⟩
noncomputable def stK (p : Nat) (s : Int) (b : Bool) : List Key := [Sum.inl ((p : Nat) : Int), Sum.inl s, Sum.inl (bInt b)]
theorem stK_inj {p p' : Nat} {s s' : Int} {b b' : Bool} (h : stK p s b = stK p' s' b') : p = p' ∧ s = s' ∧ b = b' := by
  simp only [stK, List.cons.injEq, Sum.inl.injEq, and_true] at h
  obtain ⟨h1, h2, h3⟩ := h
  refine ⟨by omega, h2, ?_⟩
  cases b <;> cases b' <;> first | rfl | (exact absurd h3 (by decide))
theorem stK_at {H : Hp} {t : Addr} {p : Nat} {s : Int} {b : Bool} (h : H t = some (.tup [.int (p : Nat), .int s, .bl b])) : KeyAt H t (stK p s b) :=
  ⟨_, h, .cons (.inl rfl) (.cons (.inl rfl) (.cons (.inr ⟨b, rfl, rfl⟩) .nil))⟩
structure NetS (C : Addr) (H : Hp) (a : Adr) (ns : List Nd) (kp ks : List (List Key × V)) : Prop where
  at_ : NetAt C H a ns kp
  st : H a.ls = some (.dT ks)
  ne : a.ls ≠ a.lp
  is : ∀ k v, valV ks k = some v → ∃ (p : Nat) (s : Int) (b : Bool) (r : Nat), k = stK p s b ∧ v = .int (r : Nat) ∧ Pl ns p ∧ Stl ns p s b r
theorem NetS.tk {C : Addr} {H H' : Hp} {a : Adr} {ns : List Nd} {kp ks : List (List Key × V)} (h : NetS C H a ns kp ks) (k : But [a.ln, a.lp, a.ls] H H') : Tk H H' := fun b xs e => by
  obtain ⟨ys, h1, _⟩ := h.at_.nodes
  refine k b _ e fun hm => ?_
  simp only [List.mem_cons, List.not_mem_nil, or_false] at hm
  rcases hm with rfl | rfl | rfl
  · rw [h1] at e; cases e
  · rw [h.at_.places] at e; cases e
  · rw [h.st] at e; cases e
theorem NetS.same {C : Addr} {H H' : Hp} {a : Adr} {ns : List Nd} {kp ks : List (List Key × V)} (h : NetS C H a ns kp ks) (s : Same H H') : NetS C H' a ns kp ks := ⟨h.at_.same s, s _ _ h.st, h.ne, h.is⟩
theorem NetAt.putS {C : Addr} {H : Hp} {a : Adr} {ns : List Nd} {kp ks ks' : List (List Key × V)} (h : NetAt C H a ns kp) (hc : H a.ls = some (.dT ks)) (ne : a.ls ≠ a.lp) : NetAt C (upd H a.ls (.dT ks')) a ns kp := by
  obtain ⟨xs, h1, h2⟩ := h.nodes
  have k : Tk H (upd H a.ls (.dT ks')) := fun b ys e => by rw [upd_ne (ne_of e hc (by intro z; cases z))]; exact e
  refine ⟨by rw [upd_ne (ne_of h.ob hc (by intro z; cases z))]; exact h.ob, ⟨xs, by rw [upd_ne (ne_of h1 hc (by intro z; cases z))]; exact h1, nds_to k h2⟩, by rw [upd_ne ne.symm]; exact h.places, h.pls, h.into, h.out⟩
theorem fl_setp (ln lp lc ls : Addr) : (nflds ln lp lc ls).lookup ("settled_place" : Str) = none := by
  unfold nflds
  rw [List.lookup_cons, show (("settled_place" : Str) == "nodes") = false from by decide +kernel, List.lookup_cons, show (("settled_place" : Str) == "places") = false from by decide +kernel, List.lookup_cons, show (("settled_place" : Str) == "choices") = false from by decide +kernel, List.lookup_cons, show (("settled_place" : Str) == "settled") = false from by decide +kernel]; rfl
section
variable {P : Program} {w : World} {K : PySem.W.Frag} {mg : Str → Option Value} {base : Heap}
noncomputable def spSettled (C : Addr) (R : Nat) : Sp := fun vs H Q _ => ∃ (a : Adr) (ns : List Nd) (kp ks : List (List Key × V)) (L : List Int) (p : Nat) (s : Int) (c : Bool) (b : Int), vs = [.ref a.p, .int (p : Nat), .int s, .bl c] ∧ NetS C H a ns kp ks ∧ Net ns ∧ Pl ns p ∧
  (∀ nd ∈ ns, nd.sw ∈ L) ∧ Above ns b p ∧ cnt L b ≤ R ∧ ns.length + 2 ^ R ≤ 10000000 ∧ ks.length + 2 ^ R ≤ 10000000 ∧
  ∀ (r : Nat) (ns' : List Nd) (kp' ks' : List (List Key × V)) H', Net ns' → Ext ns ns' → NetS C H' a ns' kp' ks' → Stl ns' p s c r → (∀ nd ∈ ns', nd.sw ∈ L) → ns'.length + 1 ≤ ns.length + 2 ^ R → ks'.length + 1 ≤ ks.length + 2 ^ R → But [a.ln, a.lp, a.ls] H H' → Q (.int (r : Nat)) H'
noncomputable def spS (C : Addr) : Nat → Sp
  | 0 => fun _ _ _ _ => False
  | R + 1 => spSettled C R
theorem ok_settled_step {f f2 f3 C : Addr} {fd fd2 fd3 : FuncData} {R k : Nat} (hk : 1 ≤ k) (F : Fun K "settled_place" "Net.settled_place" s_Net_settled_place f fd) (NT : NTx K C) (m_settled_place : Meth K C "settled_place" f) (b_settled_place : Binds K fd p_Net_settled_place [])
    (m_step : Meth K C "step" f2) (b_step : Binds K fd2 p_Net_step []) (G2 : FnOk P w K mg base CX0 1 f2 fd2 p_Net_step (spStep C))
    (m_node_place : Meth K C "node_place" f3) (b_node_place : Binds K fd3 p_Net_node_place []) (G3 : FnOk P w K mg base CX0 1 f3 fd3 p_Net_node_place (spNode C))
    (G_settled_place : FnOk P w K mg base CX0 k f fd p_Net_settled_place (spS C R)) : FnOk P w K mg base CX0 (k + 1) f fd p_Net_settled_place (spS C (R + 1)) := by
  have G_step := G2.mono hk
  have G_node_place := G3.mono hk
  refine F.ok sc_Net_settled_place (fun vs H Q E h => ?_) (fun cdv A outer s H vs Q E hr h => ?_)
  · obtain ⟨a, ns, kp, ks, L, pl, s, c, b, rfl, _⟩ := h
    rfl
  · obtain ⟨a, ns, kp, ks, L, pl, s, c, b, rfl, hC, hN, lp, hL, ap, hcn, hz1, hz2, q⟩ := h
    have hu := hu_of hr
    refine ⟨_, (pss_cons (ps_if (PW.pt (pw_or (pt_cmpR op_lt (pv 1) pe_int (nomark _)) (pw_or1 (pt_cmpR op_gt (pe_ix ix_tup (pe_ix ix_list (pe_fldC NT.cl NT.n_nodes (pv 0) (by rfl)) (pe_op op_sub (pv 1) pe_int) (fun _ _ => rfl)) pe_int (fun _ _ => rfl)) (pv 2) (nomark _)))))
      (pss_one (ps_ret (pv 1)))
      pss_nil)
    (pss_cons (ps_if (pt_cmpR op_eq (pe_ix ix_tup (pe_ix ix_list (pe_fldC NT.cl NT.n_nodes (pv 0) (by rfl)) (pe_op op_sub (pv 1) pe_int) (fun _ _ => rfl)) pe_int (fun _ _ => rfl)) (pv 2) (nomark _))
      (pss_one (ps_ret (pe_meth (pv 0) NT.cl m_step G_step (hr) b_step .nil pass0 (pa_cons (pv 1) (pa_cons (pv 2) (pa_cons (pv 3) pa_nil))))))
      pss_nil)
    (pss_cons (ps_set (i := 4) sc_Net_settled_place.nd rfl (by first | exact Or.inl rfl | exact Or.inr rfl) (pe_tup (pa_cons (pv 1) (pa_cons (pv 2) (pa_cons (pv 3) pa_nil)))))
    (pss_cons (ps_if (pt_cmp (pc_dnotin hu (pv 4) (pe_fldC NT.cl NT.n_settled (pv 0) (by rfl))))
      (pss_cons (ps_set (i := 5) sc_Net_settled_place.nd rfl (by first | exact Or.inl rfl | exact Or.inr rfl) (pe_ix ix_list (pe_fldC NT.cl NT.n_nodes (pv 0) (by rfl)) (pe_op op_sub (pv 1) pe_int) (fun _ _ => rfl)))
      (pss_cons (ps_set (i := 6) sc_Net_settled_place.nd rfl (by first | exact Or.inl rfl | exact Or.inr rfl) (pe_meth (pv 0) NT.cl m_settled_place G_settled_place (hr) b_settled_place .nil pass0 (pa_cons (pe_ix ix_tup (pv 5) pe_int (fun _ _ => rfl)) (pa_cons (pv 2) (pa_cons (pv 3) pa_nil)))))
      (pss_cons (ps_set (i := 7) sc_Net_settled_place.nd rfl (by first | exact Or.inl rfl | exact Or.inr rfl) (pe_meth (pv 0) NT.cl m_settled_place G_settled_place (hr) b_settled_place .nil pass0 (pa_cons (pe_ix ix_tup (pv 5) pe_int (fun _ _ => rfl)) (pa_cons (pv 2) (pa_cons (pv 3) pa_nil)))))
      (pss_one (ps_dput hu (pe_fldC NT.cl NT.n_settled (pv 0) (by rfl)) (pv 4) (pe_meth (pv 0) NT.cl m_node_place G_node_place (hr) b_node_place .nil pass0 (pa_cons (pe_ix ix_tup (pv 5) pe_int (fun _ _ => rfl)) (pa_cons (pv 6) (pa_cons (pv 7) pa_nil)))) rfl)))))
      pss_nil)
    (pss_one (ps_ret (pe_dget hu (pe_fldC NT.cl NT.n_settled (pv 0) (by rfl)) (pv 4) (fun _ _ => rfl)))))))), ?_⟩
    refine seq_as fun R1 hR1 => ?_
    refine if_as fun A B hA hB => ?_
    simp only [rdA, rd_forL, rd_forR, rd_compT, rd_compL, rd_compR, rd_tyes]
    have hp2 : 1 ≤ 2 ^ R := Nat.one_le_two_pow
    by_cases p2 : pl < 2
    · rw [decide_eq_true (by omega : ((pl : Nat) : Int) < 2)]
      subst hA
      clear hB hR1
      simp only [rdA, rd_forL, rd_forR, rd_compT, rd_compL, rd_compR, rd_tyes]
      have z := q pl ns kp ks H hN (Ext.refl _) hC (stl_above hN lp (.inl p2)) hL (by omega) (by omega) (But.refl _ _)
      first | exact z | exact iteT z
    · rw [decide_eq_false (by omega : ¬ ((pl : Nat) : Int) < 2)]
      obtain ⟨nd, e, _⟩ := node_of lp p2
      obtain ⟨xs, hx, hxs⟩ := hC.at_.nodes
      obtain ⟨v, hv, t, rfl, ht⟩ := nds_get hxs e
      have hat : atI xs ((pl : Nat) - 2 : Int) = some (.ref t) := by
        have : ((pl : Nat) : Int) - 2 = ((pl - 2 : Nat) : Int) := by omega
        rw [this]; exact atI_nat hv
      obtain ⟨o1, o2, one, a1, a2⟩ := hN.ord _ _ e
      have hbs : b < nd.sw := by
        rcases ap with h | ⟨nd', h1, h2⟩
        · exact absurd h p2
        · rw [e] at h1; cases h1; exact h2
      have hsL : nd.sw ∈ L := hL nd (List.mem_of_getElem? e)
      refine iteF ⟨_, _, hC.at_.ob, _, fl_nodes _ _ _ _, ?_⟩
      simp only [rdA, rd_forL, rd_forR, rd_compT, rd_compL, rd_compR, rd_tyes]
      refine ⟨_, SqL.of hx, _, hat, ?_⟩
      simp only [rdA, rd_forL, rd_forR, rd_compT, rd_compL, rd_compR, rd_tyes]
      refine ⟨_, SqT.of ht, _, atI0 _ _, ?_⟩
      simp only [rdA, rd_forL, rd_forR, rd_compT, rd_compL, rd_compR, rd_tyes]
      by_cases hgt : s < nd.sw
      · rw [decide_eq_true hgt]
        subst hA
        clear hB hR1
        simp only [rdA, rd_forL, rd_forR, rd_compT, rd_compL, rd_compR, rd_tyes]
        have z := q pl ns kp ks H hN (Ext.refl _) hC (stl_above hN lp (.inr ⟨nd, e, hgt⟩)) hL (by omega) (by omega) (But.refl _ _)
        first | exact z | exact iteT z
      · rw [decide_eq_false hgt]
        refine iteF ?_
        subst hB
        clear hA
        simp only [rdA, rd_forL, rd_forR, rd_compT, rd_compL, rd_compR, rd_tyes]
        subst hR1
        refine seq_as fun R1 hR1 => ?_
        refine if_as fun A B hA hB => ?_
        simp only [rdA, rd_forL, rd_forR, rd_compT, rd_compL, rd_compR, rd_tyes]
        refine ⟨_, _, hC.at_.ob, _, fl_nodes _ _ _ _, ?_⟩
        simp only [rdA, rd_forL, rd_forR, rd_compT, rd_compL, rd_compR, rd_tyes]
        refine ⟨_, SqL.of hx, _, hat, ?_⟩
        simp only [rdA, rd_forL, rd_forR, rd_compT, rd_compL, rd_compR, rd_tyes]
        refine ⟨_, SqT.of ht, _, atI0 _ _, ?_⟩
        simp only [rdA, rd_forL, rd_forR, rd_compT, rd_compL, rd_compR, rd_tyes]
        by_cases heq : nd.sw = s
        · rw [decide_eq_true heq]
          refine iteT ?_
          subst hA
          clear hB hR1
          simp only [rdA, rd_forL, rd_forR, rd_compT, rd_compL, rd_compR, rd_tyes]
          refine ⟨_, _, hC.at_.ob, fl_step _ _ _ _, a, ns, kp, pl, s, c, rfl, hC.at_, lp, ?_⟩
          exact q _ ns kp ks H hN (Ext.refl _) hC (stl_here hN lp (.inr ⟨nd, e, by omega⟩)) hL (by omega) (by omega) (But.refl _ _)
        · rw [decide_eq_false heq]
          refine iteF ?_
          subst hB
          clear hA
          simp only [rdA, rd_forL, rd_forR, rd_compT, rd_compL, rd_compR, rd_tyes]
          subst hR1
          refine seq_as fun R1 hR1 => ?_
          simp only [rdA, rd_forL, rd_forR, rd_compT, rd_compL, rd_compR, rd_tyes]
          intro p hp
          have s1 := Same.new (o := HO.tup [V.int (pl : Nat), V.int s, V.bl c]) hp
          have hC1 := hC.same s1
          have hp1 : upd H p (HO.tup [V.int (pl : Nat), V.int s, V.bl c]) p = some (.tup [V.int (pl : Nat), V.int s, V.bl c]) := upd_same
          have bt1 : But [a.ln, a.lp, a.ls] H (upd H p (HO.tup [V.int (pl : Nat), V.int s, V.bl c])) := But.of s1
          have hx1 := s1 _ _ hx
          have ht1 := s1 _ _ ht
          generalize upd H p (HO.tup [V.int (pl : Nat), V.int s, V.bl c]) = H1 at hC1 hp1 bt1 hx1 ht1 ⊢
          clear s1 hp
          subst hR1
          refine seq_as fun R1 hR1 => ?_
          refine if_as fun A B hA hB => ?_
          simp only [rdA, rd_forL, rd_forR, rd_compT, rd_compL, rd_compR, rd_tyes]
          refine ⟨_, _, hC1.at_.ob, _, fl_settled _ _ _ _, _, rfl, _, DGet.b (k := stK pl s c) hC1.st (stK_at hp1), ?_⟩
          cases hv : valV ks (stK pl s c) with
          | some v =>
            obtain ⟨p', s', c', r, ek, rfl, _, hi⟩ := hC1.is _ _ hv
            obtain ⟨rfl, rfl, rfl⟩ := stK_inj ek
            refine iteF ?_
            subst hB
            clear hA
            simp only [rdA, rd_forL, rd_forR, rd_compT, rd_compL, rd_compR, rd_tyes]
            subst hR1
            simp only [rdA, rd_forL, rd_forR, rd_compT, rd_compL, rd_compR, rd_tyes]
            exact ⟨_, _, hC1.at_.ob, _, fl_settled _ _ _ _, _, rfl, _, by rw [← hv]; exact DGet.b (k := stK pl s c) hC1.st (stK_at hp1), q r ns kp ks H1 hN (Ext.refl _) hC1 hi hL (by omega) (by omega) bt1⟩
          | none =>
            have hct := cnt_lt hsL hbs
            obtain ⟨R', rfl⟩ : ∃ R', R = R' + 1 := ⟨R - 1, by omega⟩
            have hpw : 2 ^ (R' + 1) = 2 ^ R' + 2 ^ R' := by rw [Nat.pow_succ]; omega
            have hp3 : 1 ≤ 2 ^ R' := Nat.one_le_two_pow
            have hl : pl - 2 < ns.length := (List.getElem?_eq_some_iff.mp e).1
            have po : Pl ns nd.off := by unfold Pl; omega
            have pn : Pl ns nd.on := by unfold Pl; omega
            refine iteT ?_
            subst hA
            clear hB
            refine seq_as fun R2 hR2 => ?_
            simp only [rdA, rd_forL, rd_forR, rd_compT, rd_compL, rd_compR, rd_tyes]
            refine ⟨_, _, hC1.at_.ob, _, fl_nodes _ _ _ _, ?_⟩
            simp only [rdA, rd_forL, rd_forR, rd_compT, rd_compL, rd_compR, rd_tyes]
            refine ⟨_, SqL.of hx1, _, hat, ?_⟩
            subst hR2
            refine seq_as fun R2 hR2 => ?_
            simp only [rdA, rd_forL, rd_forR, rd_compT, rd_compL, rd_compR, rd_tyes]
            refine ⟨_, _, hC1.at_.ob, fl_setp _ _ _ _, ?_⟩
            try simp only [rdA, rd_forL, rd_forR, rd_compT, rd_compL, rd_compR, rd_tyes]
            refine ⟨_, SqT.of ht1, _, atI1 _ _ _, ?_⟩
            refine ⟨a, ns, kp, ks, L, _, _, _, nd.sw, rfl, hC1, hN, po, hL, a1, by omega, by omega, by omega, ?_⟩
            intro ro n1 kp1 ks1 H5 N1 e1 hC5 io hL1 l1 k1 bt5
            have tk5 := hC1.tk bt5
            have ht5 := tk5 _ _ ht1
            subst hR2
            refine seq_as fun R2 hR2 => ?_
            simp only [rdA, rd_forL, rd_forR, rd_compT, rd_compL, rd_compR, rd_tyes]
            refine ⟨_, _, hC5.at_.ob, fl_setp _ _ _ _, ?_⟩
            try simp only [rdA, rd_forL, rd_forR, rd_compT, rd_compL, rd_compR, rd_tyes]
            refine ⟨_, SqT.of ht5, _, atI2 _ _ _ _, ?_⟩
            refine ⟨a, n1, kp1, ks1, L, _, _, _, nd.sw, rfl, hC5, N1, e1.pl pn, hL1, e1.above a2, by omega, by omega, by omega, ?_⟩
            intro rn n2 kp2 ks2 H6 N2 e2 hC6 iN hL2 l2 k2 bt6
            have tk6 := hC5.tk bt6
            have ht6 := tk6 _ _ ht5
            have hp6 := tk6 _ _ (tk5 _ _ hp1)
            have e12 := e1.trans e2
            have aro : Above n2 nd.sw ro := e2.above (io.above N1 (e1.pl po) (e1.above a1))
            have arn : Above n2 nd.sw rn := iN.above N2 (e12.pl pn) (e12.above a2)
            subst hR2
            simp only [rdA, rd_forL, rd_forR, rd_compT, rd_compL, rd_compR, rd_tyes]
            refine ⟨_, _, hC6.at_.ob, fl_node _ _ _ _, ?_⟩
            try simp only [rdA, rd_forL, rd_forR, rd_compT, rd_compL, rd_compR, rd_tyes]
            refine ⟨_, SqT.of ht6, _, atI0 _ _, ?_⟩
            refine ⟨a, n2, kp2, nd.sw, ro, rn, rfl, hC6.at_, N2, e2.pl io.pl, iN.pl, aro, arn, by omega, ?_⟩
            intro r n3 kp3 H7 md hA7 bt7
            have hc7 : H7 a.ls = some (.dT ks2) := bt7 _ _ hC6.st fun hm => by
              obtain ⟨ys, h1, _⟩ := hC6.at_.nodes
              simp only [List.mem_cons, List.not_mem_nil, or_false] at hm
              rcases hm with e | e
              · rw [← e, hC6.st] at h1; cases h1
              · exact hC6.ne e
            have hk7 : H7 p = some (.tup [V.int (pl : Nat), V.int s, V.bl c]) := hC6.tk (bt7.mono fun b hb => by simp only [List.mem_cons, List.not_mem_nil, or_false] at hb ⊢; rcases hb with e | e <;> simp [e]) _ _ hp6
            have hi := stl_turn hN e p2 (by omega) e1 e2 io iN md
            have e3 := e12.trans md.ext
            have hA8 : NetAt C (upd H7 a.ls (.dT (putK ks2 (stK pl s c) (V.int (r : Nat))))) a n3 kp3 := hA7.putS hc7 hC6.ne
            have hk8 : upd H7 a.ls (.dT (putK ks2 (stK pl s c) (V.int (r : Nat)))) p = some (.tup [V.int (pl : Nat), V.int s, V.bl c]) := by
              rw [upd_ne (ne_of hk7 hc7 (by intro z; cases z))]; exact hk7
            have hv8 : valV (putK ks2 (stK pl s c) (V.int (r : Nat))) (stK pl s c) = some (V.int (r : Nat)) := by rw [valV_put, if_pos rfl]
            refine ⟨_, _, hA7.ob, _, fl_settled _ _ _ _, _, rfl, _, DPut.b (k := stK pl s c) hc7 (stK_at hk7) (Nat.lt_of_le_of_lt (by omega : ks2.length ≤ 10000000) (by decide)), ?_⟩
            subst hR1
            simp only [rdA, rd_forL, rd_forR, rd_compT, rd_compL, rd_compR, rd_tyes]
            refine ⟨_, _, hA8.ob, _, fl_settled _ _ _ _, _, rfl, _, by rw [← hv8]; exact DGet.b (k := stK pl s c) upd_same (stK_at hk8), ?_⟩
            have hlp := length_putK ks2 (stK pl s c) (V.int (r : Nat))
            have hml := md.len
            refine q r n3 kp3 _ _ md.net e3 ⟨hA8, upd_same, hC6.ne, fun k v hk => ?_⟩ hi (fun nd' hnd => ?_) (by omega) (by omega) ?_
            · rw [valV_put] at hk
              by_cases e' : k = stK pl s c
              · rw [if_pos e'] at hk
                cases hk
                exact ⟨pl, s, c, r, e', rfl, e3.pl lp, hi⟩
              · rw [if_neg e'] at hk
                obtain ⟨p', s', c', r', e', rfl, p1, i'⟩ := hC6.is k v hk
                exact ⟨p', s', c', r', e', rfl, md.ext.pl p1, i'.ext md.ext p1⟩
            · rcases md.sws nd' hnd with h | h
              · exact hL2 nd' h
              · rw [h]; exact hsL
            · refine But.mut ?_ (by simp)
              exact bt1.trans (bt5.trans (bt6.trans (bt7.mono fun b hb => by simp only [List.mem_cons, List.not_mem_nil, or_false] at hb ⊢; rcases hb with e | e <;> simp [e])))
theorem ok_settled {f f2 f3 C : Addr} {fd fd2 fd3 : FuncData} (F : Fun K "settled_place" "Net.settled_place" s_Net_settled_place f fd) (NT : NTx K C) (m_settled_place : Meth K C "settled_place" f) (b_settled_place : Binds K fd p_Net_settled_place [])
    (m_step : Meth K C "step" f2) (b_step : Binds K fd2 p_Net_step []) (G2 : FnOk P w K mg base CX0 1 f2 fd2 p_Net_step (spStep C))
    (m_node_place : Meth K C "node_place" f3) (b_node_place : Binds K fd3 p_Net_node_place []) (G3 : FnOk P w K mg base CX0 1 f3 fd3 p_Net_node_place (spNode C)) :
    ∀ R, FnOk P w K mg base CX0 (R + 2) f fd p_Net_settled_place (spS C (R + 1))
  | 0 => ok_settled_step (k := 1) (Nat.le_refl _) F NT m_settled_place b_settled_place m_step b_step G2 m_node_place b_node_place G3 ⟨fun _ _ _ _ h => False.elim h, fun _ _ _ _ _ _ _ _ _ _ _ _ _ h => False.elim h⟩
  | R + 1 => ok_settled_step (k := R + 2) (by omega) F NT m_settled_place b_settled_place m_step b_step G2 m_node_place b_node_place G3 (ok_settled F NT m_settled_place b_settled_place m_step b_step G2 m_node_place b_node_place G3 R)
end
end Nt
end CN
end
section
set_option Elab.async false
set_option linter.all false
set_option maxRecDepth 100000
set_option maxHeartbeats 4000000
namespace CN
open PySem L2
seal L2.PE L2.PT L2.PS L2.PSs L2.PA L2.PPs L2.PW L2.PC L2.PG L2.PGs L2.PI L2.PO L2.PTs
namespace Nt
noncomputable abbrev s_Net_part_place : Stmt := inClass (top 10) 6
noncomputable abbrev p_Net_part_place : List Str := ["self", "part", "inner"]
theorem sc_Net_part_place : FnScope ["self", "part", "inner", "word", "with_off", "with_on"] ["self", "part", "inner"] (defScope s_Net_part_place) := ⟨rfl, rfl, rfl, by decide +kernel, rfl, by decide +kernel, by decide +kernel⟩
structure NetF (C : Addr) (H : Hp) (a : Adr) (ns : List Nd) (kp kc ks : List (List Key × V)) : Prop where
  c : NetC C H a ns kp kc
  s : NetS C H a ns kp ks
  ne : a.lc ≠ a.ls
  net : Net ns
noncomputable def own (a : Adr) : List Addr := [a.ln, a.lp, a.lc, a.ls]
theorem NetF.tk {C : Addr} {H H' : Hp} {a : Adr} {ns : List Nd} {kp kc ks : List (List Key × V)} (h : NetF C H a ns kp kc ks) (k : But (own a) H H') : Tk H H' := fun b xs e => by
  obtain ⟨ys, h1, _⟩ := h.c.at_.nodes
  refine k b _ e fun hm => ?_
  simp only [own, List.mem_cons, List.not_mem_nil, or_false] at hm
  rcases hm with rfl | rfl | rfl | rfl
  · rw [h1] at e; cases e
  · rw [h.c.at_.places] at e; cases e
  · rw [h.c.ch] at e; cases e
  · rw [h.s.st] at e; cases e
theorem NetF.onC {C : Addr} {H H' : Hp} {a : Adr} {ns ns' : List Nd} {kp kc ks kp' kc' : List (List Key × V)} (h : NetF C H a ns kp kc ks) (k : But [a.ln, a.lp, a.lc] H H') (c : NetC C H' a ns' kp' kc') (e : Ext ns ns') (n : Net ns') : NetF C H' a ns' kp' kc' ks := by
  have hs : H' a.ls = some (.dT ks) := k _ _ h.s.st fun hm => by
    obtain ⟨ys, h1, _⟩ := h.c.at_.nodes
    simp only [List.mem_cons, List.not_mem_nil, or_false] at hm
    rcases hm with e | e | e
    · rw [← e, h.s.st] at h1; cases h1
    · exact h.s.ne e
    · exact h.ne e.symm
  exact ⟨c, ⟨c.at_, hs, h.s.ne, fun k v hk => by
    obtain ⟨p, s, b, r, e1, e2, p1, i⟩ := h.s.is k v hk
    exact ⟨p, s, b, r, e1, e2, e.pl p1, i.ext e p1⟩⟩, h.ne, n⟩
theorem NetF.onS {C : Addr} {H H' : Hp} {a : Adr} {ns ns' : List Nd} {kp kc ks kp' ks' : List (List Key × V)} (h : NetF C H a ns kp kc ks) (k : But [a.ln, a.lp, a.ls] H H') (c : NetS C H' a ns' kp' ks') (e : Ext ns ns') (n : Net ns') : NetF C H' a ns' kp' kc ks' := by
  have hs : H' a.lc = some (.dT kc) := k _ _ h.c.ch fun hm => by
    obtain ⟨ys, h1, _⟩ := h.c.at_.nodes
    simp only [List.mem_cons, List.not_mem_nil, or_false] at hm
    rcases hm with e | e | e
    · rw [← e, h.c.ch] at h1; cases h1
    · exact h.c.ne e
    · exact h.ne e
  exact ⟨⟨c.at_, hs, h.c.ne, fun k v hk => by
    obtain ⟨t, y, n, r, e1, e2, p1, p2, p3, i⟩ := h.c.is k v hk
    exact ⟨t, y, n, r, e1, e2, e.pl p1, e.pl p2, e.pl p3, i.ext e p1 p2 p3⟩⟩, c, h.ne, n⟩
theorem NetF.onN {C : Addr} {H H' : Hp} {a : Adr} {ns ns' : List Nd} {kp kc ks kp' : List (List Key × V)} (h : NetF C H a ns kp kc ks) (k : But [a.ln, a.lp] H H') (c : NetAt C H' a ns' kp') (e : Ext ns ns') (n : Net ns') : NetF C H' a ns' kp' kc ks := by
  have k1 : But [a.ln, a.lp, a.ls] H H' := k.mono fun b hb => by simp only [List.mem_cons, List.not_mem_nil, or_false] at hb ⊢; rcases hb with e | e <;> simp [e]
  refine h.onS k1 ⟨c, k _ _ h.s.st fun hm => ?_, h.s.ne, fun k v hk => ?_⟩ e n
  · obtain ⟨ys, h1, _⟩ := h.c.at_.nodes
    simp only [List.mem_cons, List.not_mem_nil, or_false] at hm
    rcases hm with e | e
    · rw [← e, h.s.st] at h1; cases h1
    · exact h.s.ne e
  · obtain ⟨p, s, b, r, e1, e2, p1, i⟩ := h.s.is k v hk
    exact ⟨p, s, b, r, e1, e2, e.pl p1, i.ext e p1⟩
theorem But.all3c {a : Adr} {H H' : Hp} (h : But [a.ln, a.lp, a.lc] H H') : But (own a) H H' := h.mono fun b hb => by simp only [own, List.mem_cons, List.not_mem_nil, or_false] at hb ⊢; rcases hb with e | e | e <;> simp [e]
theorem But.all3s {a : Adr} {H H' : Hp} (h : But [a.ln, a.lp, a.ls] H H') : But (own a) H H' := h.mono fun b hb => by simp only [own, List.mem_cons, List.not_mem_nil, or_false] at hb ⊢; rcases hb with e | e | e <;> simp [e]
theorem But.all2 {a : Adr} {H H' : Hp} (h : But [a.ln, a.lp] H H') : But (own a) H H' := h.mono fun b hb => by simp only [own, List.mem_cons, List.not_mem_nil, or_false] at hb ⊢; rcases hb with e | e <;> simp [e]
noncomputable def swL : Stm → List Int
  | .sw n => [n] | .nt a => swL a | .an a b => swL a ++ swL b | .og a b => swL a ++ swL b | .al _ a => swL a | .sm _ a => swL a | _ => []
noncomputable def kidz : Stm → List Stm
  | .nt a => [a] | .an a b => [a, b] | .og a b => [a, b] | .al _ a => [a] | .sm _ a => [a] | _ => []
structure Sz (ns : List Nd) (kc ks : List (List Key × V)) (z : Nat) : Prop where
  n : ns.length ≤ z
  c : kc.length ≤ z
  s : ks.length ≤ z
section
variable {P : Program} {w : World} {K : PySem.W.Frag} {mg : Str → Option Value} {base : Heap}
noncomputable def spPart (C : Addr) (R : Nat) : Sp := fun vs H Q _ => ∃ (a : Adr) (ns : List Nd) (kp kc ks : List (List Key × V)) (L : List Int) (v : V) (st : Stm) (li : Addr) (is : List Nat) (z : Nat), vs = [.ref a.p, v, .ref li] ∧ NetF C H a ns kp kc ks ∧ IsSt H v st ∧
  H li = some (.lst (is.map fun p => V.int (p : Nat))) ∧ li ≠ a.ln ∧ Paired (Means ns) is (kidz st) ∧ (∀ nd ∈ ns, nd.sw ∈ L) ∧ (∀ n ∈ swL st, n ∈ L) ∧ L.length ≤ R ∧ Sz ns kc ks z ∧ z + 3 * 2 ^ R ≤ 10000000 ∧
  ∀ (r : Nat) (ns' : List Nd) (kp' kc' ks' : List (List Key × V)) H', Ext ns ns' → NetF C H' a ns' kp' kc' ks' → Means ns' r st → (∀ nd ∈ ns', nd.sw ∈ L) → Sz ns' kc' ks' (z + 3 * 2 ^ R) → But (own a) H H' → Q (.int (r : Nat)) H'
theorem low (L : List Int) : ∃ b : Int, ∀ t ∈ L, b < t := by
  induction L with
  | nil => exact ⟨0, fun t h => by cases h⟩
  | cons s L ih =>
    obtain ⟨b, h⟩ := ih
    refine ⟨min b (s - 1), fun t ht => ?_⟩
    rcases List.mem_cons.mp ht with rfl | ht
    · omega
    · have := h t ht; omega
theorem cnt_le (L : List Int) (b : Int) : cnt L b ≤ L.length := List.length_filter_le _ _
theorem above_low {ns : List Nd} {L : List Int} {b : Int} {p : Nat} (hL : ∀ nd ∈ ns, nd.sw ∈ L) (h : ∀ t ∈ L, b < t) (hp : Pl ns p) : Above ns b p := by
  by_cases p2 : p < 2
  · exact .inl p2
  · obtain ⟨nd, e, _⟩ := node_of hp p2
    exact .inr ⟨nd, e, h _ (hL nd (List.mem_of_getElem? e))⟩
theorem useC {C : Addr} {R z : Nat} {a : Adr} {ns : List Nd} {kp kc ks : List (List Key × V)} {L : List Int} {H : Hp} {Q : VK} {E : XK} {t y n : Nat} (hF : NetF C H a ns kp kc ks) (hL : ∀ nd ∈ ns, nd.sw ∈ L) (hLR : L.length ≤ R) (hz : Sz ns kc ks z) (hzz : z + 2 ^ R ≤ 10000000)
    (pt : Pl ns t) (py : Pl ns y) (pn : Pl ns n)
    (q : ∀ (r : Nat) (ns' : List Nd) (kp' kc' : List (List Key × V)) H', Ext ns ns' → NetF C H' a ns' kp' kc' ks → Ite ns' t y n r → (∀ nd ∈ ns', nd.sw ∈ L) → Sz ns' kc' ks (z + 2 ^ R) → But (own a) H H' → Q (.int (r : Nat)) H') :
    spC C (R + 1) [.ref a.p, .int (t : Nat), .int (y : Nat), .int (n : Nat)] H Q E := by
  obtain ⟨b, hb⟩ := low L
  have hc := cnt_le L b
  have hp2 : 1 ≤ 2 ^ R := Nat.one_le_two_pow
  have h1 := hz.n
  have h2 := hz.c
  have h3 := hz.s
  exact ⟨a, ns, kp, kc, L, t, y, n, b, rfl, hF.c, hF.net, pt, py, pn, hL, above_low hL hb pt, above_low hL hb py, above_low hL hb pn, by omega, by omega, by omega,
    fun r ns' kp' kc' H' N' e' c' i' l' s1 s2 bt => q r ns' kp' kc' H' e' (hF.onC bt c' e' N') i' l' ⟨by omega, by omega, by omega⟩ bt.all3c⟩
theorem useS {C : Addr} {R z : Nat} {a : Adr} {ns : List Nd} {kp kc ks : List (List Key × V)} {L : List Int} {H : Hp} {Q : VK} {E : XK} {p : Nat} {s : Int} {c : Bool} (hF : NetF C H a ns kp kc ks) (hL : ∀ nd ∈ ns, nd.sw ∈ L) (hLR : L.length ≤ R) (hz : Sz ns kc ks z) (hzz : z + 2 ^ R ≤ 10000000)
    (pt : Pl ns p)
    (q : ∀ (r : Nat) (ns' : List Nd) (kp' ks' : List (List Key × V)) H', Ext ns ns' → NetF C H' a ns' kp' kc ks' → Stl ns' p s c r → (∀ nd ∈ ns', nd.sw ∈ L) → Sz ns' kc ks' (z + 2 ^ R) → But (own a) H H' → Q (.int (r : Nat)) H') :
    spS C (R + 1) [.ref a.p, .int (p : Nat), .int s, .bl c] H Q E := by
  obtain ⟨b, hb⟩ := low L
  have hc := cnt_le L b
  have hp2 : 1 ≤ 2 ^ R := Nat.one_le_two_pow
  have h1 := hz.n
  have h2 := hz.c
  have h3 := hz.s
  exact ⟨a, ns, kp, ks, L, p, s, c, b, rfl, hF.s, hF.net, pt, hL, above_low hL hb pt, by omega, by omega, by omega,
    fun r ns' kp' ks' H' N' e' c' i' l' s1 s2 bt => q r ns' kp' ks' H' e' (hF.onS bt c' e' N') i' l' ⟨by omega, by omega, by omega⟩ bt.all3s⟩
theorem Sz.mono {ns : List Nd} {kc ks : List (List Key × V)} {z z' : Nat} (h : Sz ns kc ks z) (k : z ≤ z') : Sz ns kc ks z' := ⟨Nat.le_trans h.n k, Nat.le_trans h.c k, Nat.le_trans h.s k⟩
theorem pl0 (ns : List Nd) : Pl ns 0 := by unfold Pl; omega
theorem pl1 (ns : List Nd) : Pl ns 1 := by unfold Pl; omega
noncomputable def kd : Stm → Nat
  | .yes => 0 | .no => 1 | .sw _ => 2 | .nt _ => 3 | .an _ _ => 4 | .og _ _ => 5 | .al _ _ => 6 | .sm _ _ => 7
noncomputable def wn : Nat → Str
  | 0 => Str.ofString "yes" | 1 => Str.ofString "no" | 2 => Str.ofString "switch" | 3 => Str.ofString "not" | 4 => Str.ofString "and" | 5 => Str.ofString "or" | 6 => Str.ofString "all" | _ => Str.ofString "some"
theorem word_wn (a : Stm) : word a = wn (kd a) := by cases a <;> rfl
theorem kd_lt (a : Stm) : kd a < 8 := by cases a <;> simp only [kd] <;> omega
theorem wk0 (a : Stm) : decide (word a = Str.ofString "yes") = decide (kd a = 0) := by
  have h : ∀ k, k < 8 → decide (wn k = Str.ofString "yes") = decide (k = 0) := by decide +kernel
  rw [word_wn]; exact h _ (kd_lt a)
theorem wk1 (a : Stm) : decide (word a = Str.ofString "no") = decide (kd a = 1) := by
  have h : ∀ k, k < 8 → decide (wn k = Str.ofString "no") = decide (k = 1) := by decide +kernel
  rw [word_wn]; exact h _ (kd_lt a)
theorem wk2 (a : Stm) : decide (word a = Str.ofString "switch") = decide (kd a = 2) := by
  have h : ∀ k, k < 8 → decide (wn k = Str.ofString "switch") = decide (k = 2) := by decide +kernel
  rw [word_wn]; exact h _ (kd_lt a)
theorem wk3 (a : Stm) : decide (word a = Str.ofString "not") = decide (kd a = 3) := by
  have h : ∀ k, k < 8 → decide (wn k = Str.ofString "not") = decide (k = 3) := by decide +kernel
  rw [word_wn]; exact h _ (kd_lt a)
theorem wk4 (a : Stm) : decide (word a = Str.ofString "and") = decide (kd a = 4) := by
  have h : ∀ k, k < 8 → decide (wn k = Str.ofString "and") = decide (k = 4) := by decide +kernel
  rw [word_wn]; exact h _ (kd_lt a)
theorem wk5 (a : Stm) : decide (word a = Str.ofString "or") = decide (kd a = 5) := by
  have h : ∀ k, k < 8 → decide (wn k = Str.ofString "or") = decide (k = 5) := by decide +kernel
  rw [word_wn]; exact h _ (kd_lt a)
theorem wk6 (a : Stm) : decide (word a = Str.ofString "all") = decide (kd a = 6) := by
  have h : ∀ k, k < 8 → decide (wn k = Str.ofString "all") = decide (k = 6) := by decide +kernel
  rw [word_wn]; exact h _ (kd_lt a)
theorem kd0 {a : Stm} (h : decide (kd a = 0) = true) : a = .yes := by cases a <;> first | rfl | cases h
theorem kd1 {a : Stm} (h : decide (kd a = 1) = true) : a = .no := by cases a <;> first | rfl | cases h
theorem kd2 {a : Stm} (h : decide (kd a = 2) = true) : ∃ n, a = .sw n := by cases a <;> first | exact ⟨_, rfl⟩ | cases h
theorem kd3 {a : Stm} (h : decide (kd a = 3) = true) : ∃ b, a = .nt b := by cases a <;> first | exact ⟨_, rfl⟩ | cases h
theorem kd4 {a : Stm} (h : decide (kd a = 4) = true) : ∃ b c, a = .an b c := by cases a <;> first | exact ⟨_, _, rfl⟩ | cases h
theorem kd5 {a : Stm} (h : decide (kd a = 5) = true) : ∃ b c, a = .og b c := by cases a <;> first | exact ⟨_, _, rfl⟩ | cases h
theorem kd67 {a : Stm} (h0 : ¬ decide (kd a = 0) = true) (h1 : ¬ decide (kd a = 1) = true) (h2 : ¬ decide (kd a = 2) = true) (h3 : ¬ decide (kd a = 3) = true) (h4 : ¬ decide (kd a = 4) = true) (h5 : ¬ decide (kd a = 5) = true) : ∃ n b, (a = .al n b ∨ a = .sm n b) := by
  cases a with
  | al n b => exact ⟨n, b, .inl rfl⟩
  | sm n b => exact ⟨n, b, .inr rfl⟩
  | yes => exact absurd rfl h0
  | no => exact absurd rfl h1
  | sw n => exact absurd rfl h2
  | nt b => exact absurd rfl h3
  | an b c => exact absurd rfl h4
  | og b c => exact absurd rfl h5
theorem sh67 {H : Hp} {a b : Stm} {n : Int} {rest : List V} (h : a = .al n b ∨ a = .sm n b) (sh : Sh H a (.str (word a) :: rest)) : ∃ u, rest = [.int n, u] := by
  rcases h with rfl | rfl
  · obtain ⟨v, e, _⟩ := sh; cases e; exact ⟨_, rfl⟩
  · obtain ⟨v, e, _⟩ := sh; cases e; exact ⟨_, rfl⟩
theorem kz67 {a b : Stm} {n : Int} (h : a = .al n b ∨ a = .sm n b) : kidz a = [b] := by rcases h with rfl | rfl <;> rfl
theorem ok_part {f f1 f2 f3 C : Addr} {fd fd1 fd2 fd3 : FuncData} {R : Nat} (F : Fun K "part_place" "Net.part_place" s_Net_part_place f fd) (NT : NTx K C)
    (m_choice : Meth K C "choice" f1) (b_choice : Binds K fd1 p_Net_choice []) (G_choice : FnOk P w K mg base CX0 (R + 2) f1 fd1 p_Net_choice (spC C (R + 1)))
    (m_settled_place : Meth K C "settled_place" f2) (b_settled_place : Binds K fd2 p_Net_settled_place []) (G_settled_place : FnOk P w K mg base CX0 (R + 2) f2 fd2 p_Net_settled_place (spS C (R + 1)))
    (m_node_place : Meth K C "node_place" f3) (b_node_place : Binds K fd3 p_Net_node_place []) (G3 : FnOk P w K mg base CX0 1 f3 fd3 p_Net_node_place (spNode C)) :
    FnOk P w K mg base CX0 (R + 3) f fd p_Net_part_place (spPart C R) := by
  have G_node_place := G3.mono (show 1 ≤ R + 2 by omega)
  refine F.ok sc_Net_part_place (fun vs H Q E h => ?_) (fun cdv A outer s H vs Q E hr h => ?_)
  · obtain ⟨a, ns, kp, kc, ks, L, v, st, li, is, z, rfl, _⟩ := h
    rfl
  · obtain ⟨a, ns, kp, kc, ks, L, v, st, li, is, z, rfl, hF, hv, hli, hne, hm, hL, hsw, hLR, hz, hzz, q⟩ := h
    have hu := hu_of hr
    refine ⟨_, (pss_cons (ps_set (i := 3) sc_Net_part_place.nd rfl (by first | exact Or.inl rfl | exact Or.inr rfl) (pe_ix ix_tup (pv 1) pe_int (fun _ _ => rfl)))
    (pss_cons (ps_if (PW.pt (pw_or (pt_cmpR op_eq (pv 3) pe_str (nomark _)) (pw_or1 (pt_cmpR op_eq (pv 3) pe_str (nomark _)))))
      (pss_one (ps_ret (pe_ifExp (pt_cmpR op_eq (pv 3) pe_str (nomark _)) pe_int pe_int)))
      pss_nil)
    (pss_cons (ps_if (pt_cmpR op_eq (pv 3) pe_str (nomark _))
      (pss_one (ps_ret (pe_meth (pv 0) NT.cl m_node_place G_node_place (hr) b_node_place .nil pass0 (pa_cons (pe_ix ix_tup (pv 1) pe_int (fun _ _ => rfl)) (pa_cons pe_int (pa_cons pe_int pa_nil))))))
      pss_nil)
    (pss_cons (ps_if (pt_cmpR op_eq (pv 3) pe_str (nomark _))
      (pss_one (ps_ret (pe_meth (pv 0) NT.cl m_choice G_choice (hr) b_choice .nil pass0 (pa_cons (pe_ix ix_list (pv 2) pe_int (fun _ _ => rfl)) (pa_cons pe_int (pa_cons pe_int pa_nil))))))
      pss_nil)
    (pss_cons (ps_if (pt_cmpR op_eq (pv 3) pe_str (nomark _))
      (pss_one (ps_ret (pe_meth (pv 0) NT.cl m_choice G_choice (hr) b_choice .nil pass0 (pa_cons (pe_ix ix_list (pv 2) pe_int (fun _ _ => rfl)) (pa_cons (pe_ix ix_list (pv 2) pe_int (fun _ _ => rfl)) (pa_cons pe_int pa_nil))))))
      pss_nil)
    (pss_cons (ps_if (pt_cmpR op_eq (pv 3) pe_str (nomark _))
      (pss_one (ps_ret (pe_meth (pv 0) NT.cl m_choice G_choice (hr) b_choice .nil pass0 (pa_cons (pe_ix ix_list (pv 2) pe_int (fun _ _ => rfl)) (pa_cons pe_int (pa_cons (pe_ix ix_list (pv 2) pe_int (fun _ _ => rfl)) pa_nil))))))
      pss_nil)
    (pss_cons (ps_set (i := 4) sc_Net_part_place.nd rfl (by first | exact Or.inl rfl | exact Or.inr rfl) (pe_meth (pv 0) NT.cl m_settled_place G_settled_place (hr) b_settled_place .nil pass0 (pa_cons (pe_ix ix_list (pv 2) pe_int (fun _ _ => rfl)) (pa_cons (pe_ix ix_tup (pv 1) pe_int (fun _ _ => rfl)) (pa_cons pe_bl pa_nil)))))
    (pss_cons (ps_set (i := 5) sc_Net_part_place.nd rfl (by first | exact Or.inl rfl | exact Or.inr rfl) (pe_meth (pv 0) NT.cl m_settled_place G_settled_place (hr) b_settled_place .nil pass0 (pa_cons (pe_ix ix_list (pv 2) pe_int (fun _ _ => rfl)) (pa_cons (pe_ix ix_tup (pv 1) pe_int (fun _ _ => rfl)) (pa_cons pe_bl pa_nil)))))
    (pss_cons (ps_if (pt_cmpR op_eq (pv 3) pe_str (nomark _))
      (pss_one (ps_ret (pe_meth (pv 0) NT.cl m_choice G_choice (hr) b_choice .nil pass0 (pa_cons (pv 4) (pa_cons (pv 5) (pa_cons pe_int pa_nil))))))
      pss_nil)
    (pss_one (ps_ret (pe_meth (pv 0) NT.cl m_choice G_choice (hr) b_choice .nil pass0 (pa_cons (pv 4) (pa_cons pe_int (pa_cons (pv 5) pa_nil))))))))))))))), ?_⟩
    obtain ⟨p1, cs, rfl, hp1, sh⟩ := st_get hv
    obtain ⟨rest, rfl, har⟩ := sh_head sh
    refine seq_as fun R1 hR1 => ?_
    simp only [rdA, rd_forL, rd_forR, rd_compT, rd_compL, rd_compR, rd_tyes]
    refine ⟨_, SqT.of hp1, _, atI0 _ _, ?_⟩
    have hlo : li ∉ own a := fun hm => by
      simp only [own, List.mem_cons, List.not_mem_nil, or_false] at hm
      rcases hm with e | e | e | e
      · exact hne e
      · rw [e, hF.c.at_.places] at hli; cases hli
      · rw [e, hF.c.ch] at hli; cases hli
      · rw [e, hF.s.st] at hli; cases hli
    have hp2 : 1 ≤ 2 ^ R := Nat.one_le_two_pow
    subst hR1
    refine seq_as fun R1 hR1 => ?_
    have n1 : ¬ decide (kd st = 0) = true → ¬ decide (kd st = 1) = true → R1 [some (.ref a.p), some (.ref p1), some (.ref li), some (.str (word st)), none, none] H := by
      intro k0 k1
      subst hR1
      refine seq_as fun R1 hR1 => ?_
      have n2 : ¬ decide (kd st = 2) = true → R1 [some (.ref a.p), some (.ref p1), some (.ref li), some (.str (word st)), none, none] H := by
        intro k2
        subst hR1
        refine seq_as fun R1 hR1 => ?_
        have n3 : ¬ decide (kd st = 3) = true → R1 [some (.ref a.p), some (.ref p1), some (.ref li), some (.str (word st)), none, none] H := by
          intro k3
          subst hR1
          refine seq_as fun R1 hR1 => ?_
          have n4 : ¬ decide (kd st = 4) = true → R1 [some (.ref a.p), some (.ref p1), some (.ref li), some (.str (word st)), none, none] H := by
            intro k4
            subst hR1
            refine seq_as fun R1 hR1 => ?_
            have n5 : ¬ decide (kd st = 5) = true → R1 [some (.ref a.p), some (.ref p1), some (.ref li), some (.str (word st)), none, none] H := by
              intro k5
              obtain ⟨n, b, hab⟩ := kd67 k0 k1 k2 k3 k4 k5
              clear k0 k1 k2 k3 k4 k5
              obtain ⟨u, rfl⟩ := sh67 hab sh
              rw [kz67 hab] at hm
              cases hm with
              | @cons i _ is _ m0 mr =>
              cases mr
              subst hR1
              refine seq_as fun R1 hR1 => ?_
              simp only [rdA, rd_forL, rd_forR, rd_compT, rd_compL, rd_compR, rd_tyes]
              refine ⟨_, _, hF.c.at_.ob, fl_setp _ _ _ _, _, SqL.of hli, _, atI0 _ _, _, SqT.of hp1, _, atI1 _ _ _, ?_⟩
              have hz2 : 1 ≤ st.size := st.size_pos
              have hzM : 3 * 2 ^ R * 1 ≤ 3 * 2 ^ R := by omega
              refine useS hF hL hLR hz (by omega) m0.pl ?_
              intro r1 ns1 kp1 ks1 H1 e1 hF1 i1 hL1 z1 bt1
              have hli1 := bt1 _ _ hli hlo
              have hp11 := hF.tk bt1 _ _ hp1
              subst hR1
              refine seq_as fun R1 hR1 => ?_
              simp only [rdA, rd_forL, rd_forR, rd_compT, rd_compL, rd_compR, rd_tyes]
              refine ⟨_, _, hF1.c.at_.ob, fl_setp _ _ _ _, _, SqL.of hli1, _, atI0 _ _, _, SqT.of hp11, _, atI1 _ _ _, ?_⟩
              refine useS hF1 hL1 hLR z1 (by omega) (e1.pl m0.pl) ?_
              intro r2 ns2 kp2 ks2 H2 e2 hF2 i2 hL2 z2 bt2
              subst hR1
              refine seq_as fun R1 hR1 => ?_
              refine if_as fun A B hA hB => ?_
              simp only [rdA, rd_forL, rd_forR, rd_compT, rd_compL, rd_compR, rd_tyes]
              rw [wk6]
              rcases hab with rfl | rfl
              · refine iteT ?_
                subst hA
                simp only [rdA, rd_forL, rd_forR, rd_compT, rd_compL, rd_compR, rd_tyes]
                refine ⟨_, _, hF2.c.at_.ob, fl_choice _ _ _ _, ?_⟩
                refine useC (n := 0) hF2 hL2 hLR z2 (by omega) (e2.pl i1.pl) i2.pl (pl0 ns2) ?_
                intro r ns' kp' kc' H' e' hF' i' hL' z' bt
                have e3 := (e1.trans e2).trans e'
                refine q r ns' kp' kc' ks2 H' e3 hF' (means_al (m0.ext e3) (i1.ext (e2.trans e') (e1.pl m0.pl)) (i2.ext e' ((e1.trans e2).pl m0.pl)) i') hL' (z'.mono (by omega)) (bt1.trans (bt2.trans bt))
              · refine iteF ?_
                subst hB
                simp only [rdA, rd_forL, rd_forR, rd_compT, rd_compL, rd_compR, rd_tyes]
                subst hR1
                simp only [rdA, rd_forL, rd_forR, rd_compT, rd_compL, rd_compR, rd_tyes]
                refine ⟨_, _, hF2.c.at_.ob, fl_choice _ _ _ _, ?_⟩
                refine useC (y := 1) hF2 hL2 hLR z2 (by omega) (e2.pl i1.pl) (pl1 ns2) i2.pl ?_
                intro r ns' kp' kc' H' e' hF' i' hL' z' bt
                have e3 := (e1.trans e2).trans e'
                refine q r ns' kp' kc' ks2 H' e3 hF' (means_sm (m0.ext e3) (i1.ext (e2.trans e') (e1.pl m0.pl)) (i2.ext e' ((e1.trans e2).pl m0.pl)) i') hL' (z'.mono (by omega)) (bt1.trans (bt2.trans bt))
            refine if_as fun A B hA hB => ?_
            simp only [rdA, rd_forL, rd_forR, rd_compT, rd_compL, rd_compR, rd_tyes]
            rw [wk5]
            refine ite2 (fun h => ?_) (fun h => by subst hB; simp only [rdA, rd_forL, rd_forR, rd_compT, rd_compL, rd_compR, rd_tyes]; exact n5 h)
            clear n5 hR1 hB k0 k1 k2 k3 k4
            obtain ⟨b, c, rfl⟩ := kd5 h
            cases hm with
            | @cons i _ is _ m0 mr =>
            cases mr with
            | @cons j _ is _ m1 mr =>
            cases mr
            subst hA
            simp only [rdA, rd_forL, rd_forR, rd_compT, rd_compL, rd_compR, rd_tyes]
            refine ⟨_, _, hF.c.at_.ob, fl_choice _ _ _ _, _, SqL.of hli, _, atI0 _ _, _, SqL.of hli, _, atI1 _ _ _, ?_⟩
            refine useC (y := 1) hF hL hLR hz (by omega) m0.pl (pl1 ns) m1.pl ?_
            intro r ns' kp' kc' H' e' hF' i' hL' z' bt
            exact q r ns' kp' kc' ks H' e' hF' (means_og (m0.ext e') (m1.ext e') i') hL' (z'.mono (by omega)) bt
          refine if_as fun A B hA hB => ?_
          simp only [rdA, rd_forL, rd_forR, rd_compT, rd_compL, rd_compR, rd_tyes]
          rw [wk4]
          refine ite2 (fun h => ?_) (fun h => by subst hB; simp only [rdA, rd_forL, rd_forR, rd_compT, rd_compL, rd_compR, rd_tyes]; exact n4 h)
          clear n4 hR1 hB k0 k1 k2 k3
          obtain ⟨b, c, rfl⟩ := kd4 h
          cases hm with
          | @cons i _ is _ m0 mr =>
          cases mr with
          | @cons j _ is _ m1 mr =>
          cases mr
          subst hA
          simp only [rdA, rd_forL, rd_forR, rd_compT, rd_compL, rd_compR, rd_tyes]
          refine ⟨_, _, hF.c.at_.ob, fl_choice _ _ _ _, _, SqL.of hli, _, atI0 _ _, _, SqL.of hli, _, atI1 _ _ _, ?_⟩
          refine useC (n := 0) hF hL hLR hz (by omega) m0.pl m1.pl (pl0 ns) ?_
          intro r ns' kp' kc' H' e' hF' i' hL' z' bt
          exact q r ns' kp' kc' ks H' e' hF' (means_an (m0.ext e') (m1.ext e') i') hL' (z'.mono (by omega)) bt
        refine if_as fun A B hA hB => ?_
        simp only [rdA, rd_forL, rd_forR, rd_compT, rd_compL, rd_compR, rd_tyes]
        rw [wk3]
        refine ite2 (fun h => ?_) (fun h => by subst hB; simp only [rdA, rd_forL, rd_forR, rd_compT, rd_compL, rd_compR, rd_tyes]; exact n3 h)
        clear n3 hR1 hB k0 k1 k2
        obtain ⟨b, rfl⟩ := kd3 h
        cases hm with
        | @cons i _ is _ m0 mr =>
        cases mr
        subst hA
        simp only [rdA, rd_forL, rd_forR, rd_compT, rd_compL, rd_compR, rd_tyes]
        refine ⟨_, _, hF.c.at_.ob, fl_choice _ _ _ _, _, SqL.of hli, _, atI0 _ _, ?_⟩
        refine useC (y := 0) (n := 1) hF hL hLR hz (by omega) m0.pl (pl0 ns) (pl1 ns) ?_
        intro r ns' kp' kc' H' e' hF' i' hL' z' bt
        exact q r ns' kp' kc' ks H' e' hF' (means_nt (m0.ext e') i') hL' (z'.mono (by omega)) bt
      refine if_as fun A B hA hB => ?_
      simp only [rdA, rd_forL, rd_forR, rd_compT, rd_compL, rd_compR, rd_tyes]
      rw [wk2]
      refine ite2 (fun h => ?_) (fun h => by subst hB; simp only [rdA, rd_forL, rd_forR, rd_compT, rd_compL, rd_compR, rd_tyes]; exact n2 h)
      clear n2 hR1 hB k0 k1
      obtain ⟨n, rfl⟩ := kd2 h
      cases sh
      subst hA
      simp only [rdA, rd_forL, rd_forR, rd_compT, rd_compL, rd_compR, rd_tyes]
      have h1 := hz.n
      refine ⟨_, _, hF.c.at_.ob, fl_node _ _ _ _, _, SqT.of hp1, _, atI1 _ _ _, a, ns, kp, n, 0, 1, rfl, hF.c.at_, hF.net, pl0 ns, pl1 ns, .inl (by omega), .inl (by omega), by omega, ?_⟩
      intro r ns' kp' H' md hA bt
      have hl := md.len
      refine q r ns' kp' kc ks H' md.ext (hF.onN bt hA md.ext md.net) (means_sw md) (fun nd hnd => ?_) ⟨by omega, Nat.le_trans hz.c (by omega), Nat.le_trans hz.s (by omega)⟩ bt.all2
      rcases md.sws nd hnd with h | h
      · exact hL nd h
      · rw [h]; exact hsw n (by simp [swL])
    refine if_as fun A B hA hB => ?_
    simp only [rdA, rd_forL, rd_forR, rd_compT, rd_compL, rd_compR, rd_tyes]
    rw [wk0, wk1]
    refine ite2 (fun h => ?_) (fun h => ite2 (fun h1 => ?_) (fun h1 => by subst hB; simp only [rdA, rd_forL, rd_forR, rd_compT, rd_compL, rd_compR, rd_tyes]; exact n1 h h1))
    · cases kd0 h
      subst hA
      simp only [rdA, wk0, rd_forL, rd_forR, rd_compT, rd_compL, rd_compR, rd_tyes]
      exact iteT (q 1 ns kp kc ks H (Ext.refl _) hF (means_yes ns) hL (hz.mono (by omega)) (But.refl _ _))
    · cases kd1 h1
      subst hA
      simp only [rdA, wk0, rd_forL, rd_forR, rd_compT, rd_compL, rd_compR, rd_tyes]
      exact iteF (q 0 ns kp kc ks H (Ext.refl _) hF (means_no ns) hL (hz.mono (by omega)) (But.refl _ _))
end
end Nt
end CN
end
section
set_option Elab.async false
set_option linter.all false
set_option maxRecDepth 100000
set_option maxHeartbeats 4000000
namespace CN
open PySem L2
seal L2.PE L2.PT L2.PS L2.PSs L2.PA L2.PPs L2.PW L2.PC L2.PG L2.PGs L2.PI L2.PO L2.PTs
namespace Nt
noncomputable abbrev CI4 := Int × Int × Pos × Pos
noncomputable def vI (l : List CI4) : List Expr := l.map fun x => .Constant (.int x.2.1) 0 x.2.2.2
section
variable {P : Program} {w : World} {K : PySem.W.Frag} {mg : Str → Option Value} {base : Heap}
end
end Nt
end CN
end
section
set_option Elab.async false
set_option linter.all false
set_option maxRecDepth 100000
set_option maxHeartbeats 4000000
namespace CN
open PySem L2
seal L2.PE L2.PT L2.PS L2.PSs L2.PA L2.PPs L2.PW L2.PC L2.PG L2.PGs L2.PI L2.PO L2.PTs
namespace Nt
theorem w_nt (a : Stm) : decide (word a = Str.ofString "not") = match a with | .nt _ => true | _ => false := by
  cases a with
  | yes => exact decide_eq_false (by decide +kernel : ¬ Str.ofString "yes" = Str.ofString "not")
  | no => exact decide_eq_false (by decide +kernel : ¬ Str.ofString "no" = Str.ofString "not")
  | sw n => exact decide_eq_false (by decide +kernel : ¬ Str.ofString "switch" = Str.ofString "not")
  | nt a => exact decide_eq_true rfl
  | an a b => exact decide_eq_false (by decide +kernel : ¬ Str.ofString "and" = Str.ofString "not")
  | og a b => exact decide_eq_false (by decide +kernel : ¬ Str.ofString "or" = Str.ofString "not")
  | al n a => exact decide_eq_false (by decide +kernel : ¬ Str.ofString "all" = Str.ofString "not")
  | sm n a => exact decide_eq_false (by decide +kernel : ¬ Str.ofString "some" = Str.ofString "not")
theorem w_all (a : Stm) : decide (word a = Str.ofString "all") = match a with | .al _ _ => true | _ => false := by
  cases a with
  | yes => exact decide_eq_false (by decide +kernel : ¬ Str.ofString "yes" = Str.ofString "all")
  | no => exact decide_eq_false (by decide +kernel : ¬ Str.ofString "no" = Str.ofString "all")
  | sw n => exact decide_eq_false (by decide +kernel : ¬ Str.ofString "switch" = Str.ofString "all")
  | nt a => exact decide_eq_false (by decide +kernel : ¬ Str.ofString "not" = Str.ofString "all")
  | an a b => exact decide_eq_false (by decide +kernel : ¬ Str.ofString "and" = Str.ofString "all")
  | og a b => exact decide_eq_false (by decide +kernel : ¬ Str.ofString "or" = Str.ofString "all")
  | al n a => exact decide_eq_true rfl
  | sm n a => exact decide_eq_false (by decide +kernel : ¬ Str.ofString "some" = Str.ofString "all")
theorem w_and (a : Stm) : decide (word a = Str.ofString "and") = match a with | .an _ _ => true | _ => false := by
  cases a with
  | yes => exact decide_eq_false (by decide +kernel : ¬ Str.ofString "yes" = Str.ofString "and")
  | no => exact decide_eq_false (by decide +kernel : ¬ Str.ofString "no" = Str.ofString "and")
  | sw n => exact decide_eq_false (by decide +kernel : ¬ Str.ofString "switch" = Str.ofString "and")
  | nt a => exact decide_eq_false (by decide +kernel : ¬ Str.ofString "not" = Str.ofString "and")
  | an a b => exact decide_eq_true rfl
  | og a b => exact decide_eq_false (by decide +kernel : ¬ Str.ofString "or" = Str.ofString "and")
  | al n a => exact decide_eq_false (by decide +kernel : ¬ Str.ofString "all" = Str.ofString "and")
  | sm n a => exact decide_eq_false (by decide +kernel : ¬ Str.ofString "some" = Str.ofString "and")
noncomputable def kids : Stm → List Stm
  | .nt a => [a] | .an a b => [a, b] | .og a b => [a, b] | .al _ a => [a] | .sm _ a => [a] | _ => []
noncomputable def post : Stm → List Stm
  | .yes => [.yes] | .no => [.no] | .sw n => [.sw n]
  | .nt a => post a ++ [.nt a]
  | .an a b => post a ++ post b ++ [.an a b]
  | .og a b => post a ++ post b ++ [.og a b]
  | .al n a => post a ++ [.al n a]
  | .sm n a => post a ++ [.sm n a]
noncomputable def posts (as : List Stm) : List Stm := as.flatMap post
theorem post_eq (a : Stm) : post a = posts (kids a) ++ [a] := by
  cases a <;> simp [post, posts, kids]
theorem posts_app (as bs : List Stm) : posts (as ++ bs) = posts as ++ posts bs := by simp [posts]
theorem posts_one (a : Stm) : posts [a] = post a := by simp [posts]
theorem sizes_kids (a : Stm) : sizes (kids a) + 1 = a.size := by
  cases a <;> simp [kids, sizes, Stm.size]
theorem post_len (a : Stm) : (post a).length = a.size := by
  induction a <;> simp [post, Stm.size] <;> omega
noncomputable def isPair : Stm → Bool
  | .an _ _ => true | .og _ _ => true | _ => false
noncomputable def isLook : Stm → Bool
  | .al _ _ => true | .sm _ _ => true | _ => false
theorem w_or (a : Stm) : decide (word a = Str.ofString "or") = match a with | .og _ _ => true | _ => false := by
  cases a with
  | og a b => exact decide_eq_true rfl
  | yes => exact decide_eq_false (by decide +kernel : ¬ Str.ofString "yes" = Str.ofString "or")
  | no => exact decide_eq_false (by decide +kernel : ¬ Str.ofString "no" = Str.ofString "or")
  | sw n => exact decide_eq_false (by decide +kernel : ¬ Str.ofString "switch" = Str.ofString "or")
  | nt a => exact decide_eq_false (by decide +kernel : ¬ Str.ofString "not" = Str.ofString "or")
  | an a b => exact decide_eq_false (by decide +kernel : ¬ Str.ofString "and" = Str.ofString "or")
  | al n a => exact decide_eq_false (by decide +kernel : ¬ Str.ofString "all" = Str.ofString "or")
  | sm n a => exact decide_eq_false (by decide +kernel : ¬ Str.ofString "some" = Str.ofString "or")
theorem w_some (a : Stm) : decide (word a = Str.ofString "some") = match a with | .sm _ _ => true | _ => false := by
  cases a with
  | sm n a => exact decide_eq_true rfl
  | yes => exact decide_eq_false (by decide +kernel : ¬ Str.ofString "yes" = Str.ofString "some")
  | no => exact decide_eq_false (by decide +kernel : ¬ Str.ofString "no" = Str.ofString "some")
  | sw n => exact decide_eq_false (by decide +kernel : ¬ Str.ofString "switch" = Str.ofString "some")
  | nt a => exact decide_eq_false (by decide +kernel : ¬ Str.ofString "not" = Str.ofString "some")
  | an a b => exact decide_eq_false (by decide +kernel : ¬ Str.ofString "and" = Str.ofString "some")
  | og a b => exact decide_eq_false (by decide +kernel : ¬ Str.ofString "or" = Str.ofString "some")
  | al n a => exact decide_eq_false (by decide +kernel : ¬ Str.ofString "all" = Str.ofString "some")
noncomputable abbrev s_is_look : Stmt := top 4
noncomputable abbrev p_is_look : List Str := ["statement"]
theorem sc_is_look : FnScope ["statement"] ["statement"] (defScope s_is_look) := ⟨rfl, rfl, rfl, by decide +kernel, rfl, by decide +kernel, by decide +kernel⟩
noncomputable abbrev s_is_pair : Stmt := top 5
noncomputable abbrev p_is_pair : List Str := ["statement"]
theorem sc_is_pair : FnScope ["statement"] ["statement"] (defScope s_is_pair) := ⟨rfl, rfl, rfl, by decide +kernel, rfl, by decide +kernel, by decide +kernel⟩
noncomputable abbrev s_within : Stmt := top 6
noncomputable abbrev p_within : List Str := ["statement"]
theorem sc_within : FnScope ["statement"] ["statement"] (defScope s_within) := ⟨rfl, rfl, rfl, by decide +kernel, rfl, by decide +kernel, by decide +kernel⟩
noncomputable abbrev s_parts_of : Stmt := top 7
noncomputable abbrev p_parts_of : List Str := ["statement"]
theorem sc_parts_of : FnScope ["statement", "waiting", "parts", "part"] ["statement"] (defScope s_parts_of) := ⟨rfl, rfl, rfl, by decide +kernel, rfl, by decide +kernel, by decide +kernel⟩
noncomputable abbrev s_folded : Stmt := top 8
noncomputable abbrev p_folded : List Str := ["statement", "tell"]
theorem sc_folded : FnScope ["statement", "tell", "values", "part", "inner", "taken"] ["statement", "tell"] (defScope s_folded) := ⟨rfl, rfl, rfl, by decide +kernel, rfl, by decide +kernel, by decide +kernel⟩
section
variable {P : Program} {w : World} {K : PySem.W.Frag} {mg : Str → Option Value} {base : Heap}
noncomputable def spIsPair : Sp := fun vs H Q _ => ∃ (v : V) (a : Stm), vs = [v] ∧ IsSt H v a ∧ Q (.bl (isPair a)) H
noncomputable def spIsLook : Sp := fun vs H Q _ => ∃ (v : V) (a : Stm), vs = [v] ∧ IsSt H v a ∧ Q (.bl (isLook a)) H
theorem ok_isPair {f : Addr} {fd : FuncData} (D : Df K mg "is_pair" s_is_pair p_is_pair f fd) : FnOk P w K mg base CX0 1 f fd p_is_pair spIsPair := by
  refine D.F.ok sc_is_pair (fun vs H Q E h => ?_) (fun cdv A outer s H vs Q E hr h => ?_)
  · obtain ⟨v, a, rfl, _⟩ := h
    rfl
  · obtain ⟨v, a, rfl, ha, q⟩ := h
    refine ⟨_, (pss_one (ps_ret (pe_or (pe_cmpR op_eq (pe_ix ix_tup (pv 0) pe_int (fun _ _ => rfl)) pe_str (nomark _)) (pe_one (pe_cmpR op_eq (pe_ix ix_tup (pv 0) pe_int (fun _ _ => rfl)) pe_str (nomark _)))))), ?_⟩
    obtain ⟨p1, cs, rfl, hp1, sh⟩ := st_get ha
    obtain ⟨rest, rfl, har⟩ := sh_head sh
    simp only [rdA, rd_forL, rd_forR, rd_compT, rd_compL, rd_compR, rd_tyes, rd_seq, rd_if]
    refine ⟨_, SqT.of hp1, _, atI0 _ _, ?_⟩
    simp only [rdA, rd_forL, rd_forR, rd_compT, rd_compL, rd_compR, rd_tyes, rd_seq, rd_if]
    rw [w_and]
    cases a <;> simp only [Bool.false_eq_true, if_false, if_true, isPair] at q ⊢ <;> first | exact q | (refine ⟨_, SqT.of hp1, _, atI0 _ _, ?_⟩; rw [rd_eqS, w_or]; exact q)
theorem ok_isLook {f : Addr} {fd : FuncData} (D : Df K mg "is_look" s_is_look p_is_look f fd) : FnOk P w K mg base CX0 1 f fd p_is_look spIsLook := by
  refine D.F.ok sc_is_look (fun vs H Q E h => ?_) (fun cdv A outer s H vs Q E hr h => ?_)
  · obtain ⟨v, a, rfl, _⟩ := h
    rfl
  · obtain ⟨v, a, rfl, ha, q⟩ := h
    refine ⟨_, (pss_one (ps_ret (pe_or (pe_cmpR op_eq (pe_ix ix_tup (pv 0) pe_int (fun _ _ => rfl)) pe_str (nomark _)) (pe_one (pe_cmpR op_eq (pe_ix ix_tup (pv 0) pe_int (fun _ _ => rfl)) pe_str (nomark _)))))), ?_⟩
    obtain ⟨p1, cs, rfl, hp1, sh⟩ := st_get ha
    obtain ⟨rest, rfl, har⟩ := sh_head sh
    simp only [rdA, rd_forL, rd_forR, rd_compT, rd_compL, rd_compR, rd_tyes, rd_seq, rd_if]
    refine ⟨_, SqT.of hp1, _, atI0 _ _, ?_⟩
    simp only [rdA, rd_forL, rd_forR, rd_compT, rd_compL, rd_compR, rd_tyes, rd_seq, rd_if]
    rw [w_all]
    cases a <;> simp only [Bool.false_eq_true, if_false, if_true, isLook] at q ⊢ <;> first | exact q | (refine ⟨_, SqT.of hp1, _, atI0 _ _, ?_⟩; rw [rd_eqS, w_some]; exact q)
noncomputable def spWithin : Sp := fun vs H Q _ => ∃ (v : V) (a : Stm), vs = [v] ∧ IsSt H v a ∧ ∀ l xs H', H l = none → Same H H' → H' l = some (.lst xs) → Sts H' xs (kids a) → Q (.ref l) H'
theorem ok_within {f f1 f2 : Addr} {fd fd1 fd2 : FuncData} (D_is_pair : Df K mg "is_pair" s_is_pair p_is_pair f1 fd1) (D_is_look : Df K mg "is_look" s_is_look p_is_look f2 fd2) (D : Df K mg "within" s_within p_within f fd) : FnOk P w K mg base CX0 2 f fd p_within spWithin := by
  have G_is_pair : FnOk P w K mg base CX0 1 f1 fd1 p_is_pair spIsPair := ok_isPair D_is_pair
  have G_is_look : FnOk P w K mg base CX0 1 f2 fd2 p_is_look spIsLook := ok_isLook D_is_look
  refine D.F.ok sc_within (fun vs H Q E h => ?_) (fun cdv A outer s H vs Q E hr h => ?_)
  · obtain ⟨v, a, rfl, _⟩ := h
    rfl
  · obtain ⟨v, a, rfl, ha, q⟩ := h
    refine ⟨_, (pss_cons (ps_if (pt_val (pe_call G_is_pair (hr) (by rfl) D_is_pair.m D_is_pair.F.kp D_is_pair.b .nil pass0 (pa_cons (pv 0) pa_nil)))
      (pss_one (ps_ret (pe_lst (pa_cons (pe_ix ix_tup (pv 0) pe_int (fun _ _ => rfl)) (pa_cons (pe_ix ix_tup (pv 0) pe_int (fun _ _ => rfl)) pa_nil)))))
      pss_nil)
    (pss_cons (ps_if (pt_val (pe_call G_is_look (hr) (by rfl) D_is_look.m D_is_look.F.kp D_is_look.b .nil pass0 (pa_cons (pv 0) pa_nil)))
      (pss_one (ps_ret (pe_lst (pa_cons (pe_ix ix_tup (pv 0) pe_int (fun _ _ => rfl)) pa_nil))))
      pss_nil)
    (pss_cons (ps_if (pt_cmpR op_eq (pe_ix ix_tup (pv 0) pe_int (fun _ _ => rfl)) pe_str (nomark _))
      (pss_one (ps_ret (pe_lst (pa_cons (pe_ix ix_tup (pv 0) pe_int (fun _ _ => rfl)) pa_nil))))
      pss_nil)
    (pss_one (ps_ret (pe_lst pa_nil)))))), ?_⟩
    obtain ⟨p1, cs, rfl, hp1, sh⟩ := st_get ha
    simp only [rdA, rd_forL, rd_forR, rd_compT, rd_compL, rd_compR, rd_tyes, rd_seq, rd_if]
    refine ⟨_, a, rfl, ha, ⟨_, rfl, ?_⟩⟩
    have fin : ∀ (xs : List V), Sts H xs (kids a) → ∀ p, H p = none → Q (V.ref p) (upd H p (HO.lst xs)) := fun xs hx p hp => q p xs _ hp (Same.new hp) upd_same (hx.to (Tk.new hp))
    cases a with
    | an a b =>
      obtain ⟨v, u, rfl, k, l⟩ := sh
      exact iteT ⟨_, SqT.of hp1, _, atI1 _ _ _, _, SqT.of hp1, _, atI2 _ _ _ _, fin _ (.cons k (.cons l .nil))⟩
    | og a b =>
      obtain ⟨v, u, rfl, k, l⟩ := sh
      exact iteT ⟨_, SqT.of hp1, _, atI1 _ _ _, _, SqT.of hp1, _, atI2 _ _ _ _, fin _ (.cons k (.cons l .nil))⟩
    | al n a =>
      obtain ⟨v, rfl, k⟩ := sh
      exact iteF ⟨_, _, rfl, ha, _, rfl, iteT ⟨_, SqT.of hp1, _, atI2 _ _ _ _, fin _ (.cons k .nil)⟩⟩
    | sm n a =>
      obtain ⟨v, rfl, k⟩ := sh
      exact iteF ⟨_, _, rfl, ha, _, rfl, iteT ⟨_, SqT.of hp1, _, atI2 _ _ _ _, fin _ (.cons k .nil)⟩⟩
    | nt a =>
      obtain ⟨v, rfl, k⟩ := sh
      refine iteF ⟨_, _, rfl, ha, _, rfl, iteF ⟨_, SqT.of hp1, _, atI0 _ _, ?_⟩⟩
      rw [rd_eqS]
      refine ⟨_, rfl, ?_⟩
      rw [decide_eq_true rfl]
      exact iteT ⟨_, SqT.of hp1, _, atI1 _ _ _, fin _ (.cons k .nil)⟩
    | yes =>
      cases sh
      refine iteF ⟨_, _, rfl, ha, _, rfl, iteF ⟨_, SqT.of hp1, _, atI0 _ _, ?_⟩⟩
      rw [rd_eqS]
      refine ⟨_, rfl, ?_⟩
      rw [show decide (Str.ofString "yes" = Str.ofString "not") = false from w_nt .yes]
      exact iteF (fin _ .nil)
    | no =>
      cases sh
      refine iteF ⟨_, _, rfl, ha, _, rfl, iteF ⟨_, SqT.of hp1, _, atI0 _ _, ?_⟩⟩
      rw [rd_eqS]
      refine ⟨_, rfl, ?_⟩
      rw [show decide (Str.ofString "no" = Str.ofString "not") = false from w_nt .no]
      exact iteF (fin _ .nil)
    | sw n =>
      cases sh
      refine iteF ⟨_, _, rfl, ha, _, rfl, iteF ⟨_, SqT.of hp1, _, atI0 _ _, ?_⟩⟩
      rw [rd_eqS]
      refine ⟨_, rfl, ?_⟩
      rw [show decide (Str.ofString "switch" = Str.ofString "not") = false from w_nt (.sw n)]
      exact iteF (fin _ .nil)
inductive PtInv (H : Hp) (v : V) (lw lp : Addr) (a : Stm) (m : Nat) (σ : St) (H2 : Hp) : Prop
  | mk (xs ys : List V) (ws ps : List Stm) (o3 : Option V) (h0 : σ = [some v, some (.ref lw), some (.ref lp), o3]) (h1 : Same H H2) (h2 : H2 lw = some (.lst xs)) (h3 : H2 lp = some (.lst ys)) (h4 : Sts H2 xs ws) (h5 : Sts H2 ys ps) (h6 : posts ws ++ ps.reverse = post a) (h7 : sizes ws = m) (h8 : m ≤ 1000) (h9 : ys.length + m ≤ 1000) : PtInv H v lw lp a m σ H2
noncomputable def spParts : Sp := fun vs H Q _ => ∃ (v : V) (a : Stm), vs = [v] ∧ IsSt H v a ∧ a.size ≤ 1000 ∧ ∀ l xs H', H l = none → Same H H' → H' l = some (.lst xs) → Sts H' xs (post a) → Q (.ref l) H'
theorem ok_parts {f f1 : Addr} {fd fd1 : FuncData} (BT : Bt mg) (D_within : Df K mg "within" s_within p_within f1 fd1) (G_within : FnOk P w K mg base CX0 2 f1 fd1 p_within spWithin) (D : Df K mg "parts_of" s_parts_of p_parts_of f fd) : FnOk P w K mg base CX0 3 f fd p_parts_of spParts := by
  refine D.F.ok sc_parts_of (fun vs H Q E h => ?_) (fun cdv A outer s H vs Q E hr h => ?_)
  · obtain ⟨v, a, rfl, _⟩ := h
    rfl
  · obtain ⟨v, a, rfl, ha, hsz, q⟩ := h
    refine ⟨_, (pss_cons (ps_set (i := 1) sc_parts_of.nd rfl (by first | exact Or.inl rfl | exact Or.inr rfl) (pe_lst (pa_cons (pv 0) pa_nil)))
    (pss_cons (ps_set (i := 2) sc_parts_of.nd rfl (by first | exact Or.inl rfl | exact Or.inr rfl) (pe_lst pa_nil))
    (pss_cons (ps_while PassesOwn.never (pt_cmpR op_gt (pe_callB call_len_seq (by rfl) BT.n_len bo_len (pa_cons (pv 1) pa_nil)) pe_int (nomark _))
      (pss_cons (ps_set (i := 3) sc_parts_of.nd rfl (by first | exact Or.inl rfl | exact Or.inr rfl) (pe_bm0 PySem.F.plainAttrs_list PySem.F.slot_list_pop PySem.F.type_list_pop mt_pop (pv 1)))
      (pss_cons (ps_expr (pe_bm PySem.F.plainAttrs_list PySem.F.slot_list_append PySem.F.type_list_append mt_append (pv 2) (pa_cons (pv 3) pa_nil)))
      (pss_one (ps_expr (pe_bm PySem.F.plainAttrs_list PySem.F.slot_list_extend PySem.F.type_list_extend mt_extend (pv 1) (pa_cons (pe_call G_within (hr) (by rfl) D_within.m D_within.F.kp D_within.b .nil pass0 (pa_cons (pv 3) pa_nil)) pa_nil)))))))
    (pss_cons (ps_expr (pe_bm0 PySem.F.plainAttrs_list PySem.F.slot_list_reverse PySem.F.type_list_reverse mt_reverse (pv 2)))
    (pss_one (ps_ret (pv 2))))))), ?_⟩
    simp only [rdA, rd_forL, rd_forR, rd_compT, rd_compL, rd_compR, rd_tyes, rd_seq, rd_if]
    intro lw hlw lp hlp
    have s1 := Same.new (o := HO.lst [v]) hlw
    have s2 := Same.new (o := HO.lst []) hlp
    have hlp0 : H lp = none := s1.free hlp
    have hne : lw ≠ lp := ne_of_none upd_same hlp
    refine ⟨PtInv H v lw lp a, ⟨_, [v], [], [a], [], none, rfl, s1.trans s2, s2 _ _ upd_same, upd_same, Sts.one (ha.to (s1.trans s2).tk), .nil, by rw [posts_one]; simp, sizes_one a, hsz, by simpa using hsz⟩, ?_⟩
    rintro m σ H2 ⟨xs, ys, ws, ps, o3, rfl, sm, hx, hy, hs, ht, hout, hm, hm2, hm3⟩
    simp only [rdA, rd_forL, rd_forR, rd_compT, rd_compL, rd_compR, rd_tyes, rd_seq, rd_if]
    refine ⟨_, .inl (SqL.of hx), ite2 (fun he => ?_) (fun he => ?_)⟩
    · refine ⟨fun σ' H' => ∃ m', m' < m ∧ PtInv H v lw lp a m' σ' H', fun _ _ h => h, ?_⟩
      obtain ⟨zs, z, rfl⟩ := snoc_of (xs := xs) (by rintro rfl; simp at he)
      obtain ⟨bs, b, rfl, hs1, hs2⟩ := Sts.snoc hs
      refine ⟨⟨_, SqL.of hx⟩, _, hx, _, last_of zs z, ?_⟩
      rw [drop_of]
      have k0 : Tk H2 _ := Tk.lst (o := .lst zs) hx
      have hx2 : upd H2 lw (HO.lst zs) lw = some (.lst zs) := upd_same
      have hy2 : upd H2 lw (HO.lst zs) lp = some (.lst ys) := by rw [upd_ne hne.symm]; exact hy
      replace hs1 := hs1.to k0
      replace hs2 := hs2.to k0
      replace ht := ht.to k0
      replace sm : Same H (upd H2 lw (HO.lst zs)) := sm.mut hlw
      generalize upd H2 lw (HO.lst zs) = H3 at *
      rw [sizes_app, sizes_one] at hm
      have hbp := b.size_pos
      refine ⟨⟨_, SqL.of hy2⟩, _, hy2, small1000 (by omega), ?_⟩
      have k1 : Tk H3 _ := Tk.lst (o := .lst (ys ++ [z])) hy2
      have hx4 : upd H3 lp (HO.lst (ys ++ [z])) lw = some (.lst zs) := by rw [upd_ne hne]; exact hx2
      have hy4 : upd H3 lp (HO.lst (ys ++ [z])) lp = some (.lst (ys ++ [z])) := upd_same
      replace hs1 := hs1.to k1
      replace hs2 := hs2.to k1
      replace ht := ht.to k1
      replace sm : Same H (upd H3 lp (HO.lst (ys ++ [z]))) := sm.mut hlp0
      generalize upd H3 lp (HO.lst (ys ++ [z])) = H4 at *
      refine ⟨⟨_, SqL.of hx4⟩, z, b, rfl, hs2, fun l cs H5 hl sm5 hc hcs => ?_⟩
      have hzl : zs.length = bs.length := Paired.length hs1
      have hb1 := sizes_len bs
      have hcl : cs.length = (kids b).length := Paired.length hcs
      have hk1 := sizes_len (kids b)
      have hk2 := sizes_kids b
      have hlne : lw ≠ l := ne_of_none hx4 hl
      simp only [rdA, rd_forL, rd_forR, rd_compT, rd_compL, rd_compR, rd_tyes, rd_seq, rd_if]
      refine ⟨_, sm5 _ _ hx4, _, hc, Nat.le_of_lt (small1000 (by omega)), ?_⟩
      have hx5 := sm5 _ _ hx4
      have k2 : Tk H5 _ := Tk.lst (o := .lst (zs ++ cs)) hx5
      have hyne : lp ≠ lw := hne.symm
      refine ⟨sizes bs + sizes (kids b), by omega, zs ++ cs, ys ++ [z], bs ++ kids b, ps ++ [b], _, rfl, (sm.trans sm5).mut hlw, upd_same, ?_, (hs1.to (sm5.tk.trans k2)).app (hcs.to k2), (ht.to (sm5.tk.trans k2)).app (Sts.one (hs2.to (sm5.tk.trans k2))), ?_, sizes_app _ _, by omega, ?_⟩
      · rw [upd_ne hyne]; exact sm5 _ _ hy4
      · rw [posts_app, List.reverse_append, List.reverse_cons, List.reverse_nil, List.nil_append, List.cons_append, List.nil_append, ← hout, posts_app, posts_one, post_eq b]
        simp only [List.append_assoc, List.cons_append, List.nil_append]
      · rw [List.length_append, List.length_singleton]; omega
    · have hxs : xs = [] := by
        cases xs with
        | nil => rfl
        | cons x r => exfalso; apply he; simp
      subst hxs
      have hws : ws = [] := List.eq_nil_of_length_eq_zero (Paired.length hs).symm
      subst hws
      refine ⟨⟨_, SqL.of hy⟩, _, hy, ?_⟩
      have k : Tk H2 _ := Tk.lst (o := .lst ys.reverse) hy
      have hr2 : ps.reverse = post a := hout
      have rev : ∀ {zs : List V} {as : List Stm}, Sts (upd H2 lp (.lst ys.reverse)) zs as → Sts (upd H2 lp (.lst ys.reverse)) zs.reverse as.reverse := by
        intro zs as h
        induction h with
        | nil => exact .nil
        | cons r t ih => rw [List.reverse_cons, List.reverse_cons]; exact ih.app (Sts.one r)
      exact q lp ys.reverse _ hlp0 (sm.mut hlp0) upd_same (by rw [← hr2]; exact rev (ht.to k))
inductive Walked : List Stm → List Stm → Prop
  | nil : Walked [] []
  | snoc {ps ds : List Stm} {a : Stm} : Walked ps (ds ++ kids a) → Walked (ps ++ [a]) (ds ++ [a])
theorem walked_post (a : Stm) : ∀ ps ds, Walked ps ds → Walked (ps ++ post a) (ds ++ [a]) := by
  induction a with
  | yes => intro ps ds h; exact .snoc (a := .yes) (by simpa [kids] using h)
  | no => intro ps ds h; exact .snoc (a := .no) (by simpa [kids] using h)
  | sw n => intro ps ds h; exact .snoc (a := .sw n) (by simpa [kids] using h)
  | nt a ih => intro ps ds h; rw [post, ← List.append_assoc]; exact .snoc (a := .nt a) (ih ps ds h)
  | al n a ih => intro ps ds h; rw [post, ← List.append_assoc]; exact .snoc (a := .al n a) (ih ps ds h)
  | sm n a ih => intro ps ds h; rw [post, ← List.append_assoc]; exact .snoc (a := .sm n a) (ih ps ds h)
  | an a b i j =>
    intro ps ds h
    rw [post, ← List.append_assoc, ← List.append_assoc]
    refine .snoc (a := .an a b) ?_
    have := j _ _ (i ps ds h)
    simpa [kids, List.append_assoc] using this
  | og a b i j =>
    intro ps ds h
    rw [post, ← List.append_assoc, ← List.append_assoc]
    refine .snoc (a := .og a b) ?_
    have := j _ _ (i ps ds h)
    simpa [kids, List.append_assoc] using this
theorem walked_at {qs ds : List Stm} (h : Walked qs ds) : ∀ {i : Nat} {b : Stm}, qs[i]? = some b → ∃ es, Walked (qs.take i) (es ++ kids b) ∧ Walked (qs.take (i + 1)) (es ++ [b]) := by
  induction h with
  | nil => intro i b e; simp at e
  | @snoc ps ds a h ih =>
    intro i b e
    by_cases hi : i < ps.length
    · rw [List.getElem?_append_left hi] at e
      obtain ⟨es, h1, h2⟩ := ih e
      refine ⟨es, ?_, ?_⟩
      · rw [List.take_append_of_le_length (by omega)]; exact h1
      · rw [List.take_append_of_le_length (by omega)]; exact h2
    · rw [List.getElem?_append_right (by omega)] at e
      cases q : i - ps.length with
      | zero =>
        rw [q] at e
        simp only [List.getElem?_cons_zero, Option.some.injEq] at e
        subst e
        have : i = ps.length := by omega
        subst this
        refine ⟨ds, ?_, ?_⟩
        · rw [List.take_append_of_le_length (Nat.le_refl _), List.take_length]; exact h
        · rw [List.take_of_length_le (by simp)]; exact .snoc h
      | succ z => rw [q] at e; simp at e
theorem walked_inv {qs ds : List Stm} (h : Walked qs ds) : (qs = [] ∧ ds = []) ∨ ∃ ps a es, qs = ps ++ [a] ∧ ds = es ++ [a] ∧ Walked ps (es ++ kids a) := by
  cases h with
  | nil => exact .inl ⟨rfl, rfl⟩
  | snoc h => exact .inr ⟨_, _, _, rfl, rfl, h⟩
theorem walked_one {qs ds : List Stm} (h : Walked qs ds) : ∀ {es : List Stm}, Walked qs es → ds = es := by
  induction h with
  | nil =>
    intro es k
    rcases walked_inv k with ⟨_, e⟩ | ⟨ps, a, es', e, _⟩
    · exact e.symm
    · exact absurd (congrArg List.length e) (by simp)
  | @snoc ps ds a h ih =>
    intro es k
    rcases walked_inv k with ⟨e, _⟩ | ⟨ps', a', es', e, rfl, h'⟩
    · exact absurd (congrArg List.length e) (by simp)
    · have e1 := List.append_inj_left' e rfl
      have e2 := List.append_inj_right' e rfl
      cases e2
      subst e1
      rw [List.append_inj_left' (ih h') rfl]
theorem turn_of {α : Type} (ks : List α) {j : Nat} (h : j < ks.length) : ∃ k, ks.take (ks.length - j) = ks.take (ks.length - (j + 1)) ++ [k] ∧ ks.drop (ks.length - (j + 1)) = k :: ks.drop (ks.length - j) := by
  have hi : ks.length - (j + 1) < ks.length := by omega
  have e : ks.length - j = ks.length - (j + 1) + 1 := by omega
  refine ⟨ks[ks.length - (j + 1)], ?_, ?_⟩
  · rw [e, List.take_append_getElem hi]
  · rw [e, List.drop_eq_getElem_cons hi]
theorem kids_len (b : Stm) : (kids b).length ≤ 2 := by cases b <;> simp [kids]
theorem walked_len {qs ds : List Stm} (h : Walked qs ds) : ds.length ≤ qs.length := by
  induction h with
  | nil => exact Nat.le_refl _
  | @snoc ps ds a h ih => simp only [List.length_append, List.length_singleton] at *; omega
theorem prd_snocR {α β : Type} {F : α → β → Prop} : ∀ {as : List β} {a : β} {xs : List α}, Paired F xs (as ++ [a]) → ∃ ys y, xs = ys ++ [y] ∧ Paired F ys as ∧ F y a
  | [], a, _, .cons h .nil => ⟨[], _, rfl, .nil, h⟩
  | b :: as, a, _, .cons h r => by
    obtain ⟨ys, y, rfl, h1, h2⟩ := prd_snocR (as := as) r
    exact ⟨_ :: ys, y, rfl, .cons h h1, h2⟩
theorem prd_app {α β : Type} {F : α → β → Prop} : ∀ {xs ys : List α} {as bs : List β}, Paired F xs as → Paired F ys bs → Paired F (xs ++ ys) (as ++ bs)
  | _, _, _, _, .nil, s => s
  | _, _, _, _, .cons r t, s => .cons r (prd_app t s)
section
variable {S : Type}
noncomputable def spTellG (own : List Addr) (I : Nat → S → Hp → Prop) (R : S → Hp → V → Stm → Prop) (Ge : S → S → Prop) (okp : Stm → Prop) (M : Nat) : Sp := fun vs H Q _ => ∃ (v : V) (l : Addr) (b : Stm) (ys : List V) (k : Nat) (s : S), vs = [v, .ref l] ∧ IsSt H v b ∧ H l = some (.lst ys) ∧ l ∉ own ∧ Paired (R s H) ys (kids b) ∧ okp b ∧ k < M ∧ I k s H ∧
  ∀ u s' H', Ge s s' → But own H H' → R s' H' u b → I (k + 1) s' H' → Q u H'
structure FoldR (own dom : List Addr) (I : Nat → S → Hp → Prop) (R : S → Hp → V → Stm → Prop) (Ge : S → S → Prop) : Prop where
  sub : ∀ c ∈ own, c ∈ dom
  refl : ∀ s, Ge s s
  trans : ∀ {s s1 s2}, Ge s s1 → Ge s1 s2 → Ge s s2
  rm : ∀ {s s' H H' u b}, Ge s s' → Tk H H' → R s H u b → R s' H' u b
  im : ∀ {k s H H'}, I k s H → (∀ b o, H b = some o → b ∈ dom ∨ (∃ xs, o = .tup xs) → H' b = some o) → I k s H'
  tk : ∀ {k s H H'}, I k s H → But own H H' → Tk H H'
  at_ : ∀ {k s H}, I k s H → ∀ c ∈ dom, ∃ o, H c = some o
noncomputable def spFoldG (ft : Addr) (own dom : List Addr) (I : Nat → S → Hp → Prop) (R : S → Hp → V → Stm → Prop) (Ge : S → S → Prop) (okp : Stm → Prop) (M : Nat) : Sp := fun vs H Q _ => ∃ (v : V) (a : Stm) (k : Nat) (s : S), vs = [v, .ref ft] ∧ IsSt H v a ∧ a.size ≤ 1000 ∧ (∀ b ∈ post a, okp b) ∧ k + a.size ≤ M ∧ I k s H ∧ (∀ c ∈ dom, H c ≠ none) ∧
  ∀ u s' H', Ge s s' → But own H H' → R s' H' u a → I (k + a.size) s' H' → Q u H'
inductive FgInv (own : List Addr) (I : Nat → S → Hp → Prop) (R : S → Hp → V → Stm → Prop) (Ge : S → S → Prop) (H : Hp) (v : V) (ft lv lp : Addr) (xs : List V) (a : Stm) (k : Nat) (s : S) (i : Nat) (σ : St) (H2 : Hp) : Prop
  | mk (ds : List Stm) (ys : List V) (s' : S) (o3 o4 o5 : Option V) (h0 : σ = [some v, some (.ref ft), some (.ref lv), o3, o4, o5]) (h1 : But own H H2) (h2 : H2 lp = some (.lst xs)) (h3 : Sts H2 xs (post a)) (h4 : H2 lv = some (.lst ys)) (h5 : Paired (R s' H2) ys ds) (h6 : Walked ((post a).take i) ds) (h7 : I (k + i) s' H2) (h8 : Ge s s') : FgInv own I R Ge H v ft lv lp xs a k s i σ H2
inductive IgInv (own : List Addr) (I : Nat → S → Hp → Prop) (R : S → Hp → V → Stm → Prop) (Ge : S → S → Prop) (H : Hp) (v u : V) (ft lv lp li lk : Addr) (xs cs : List V) (a b : Stm) (es : List Stm) (k : Nat) (s' : S) (j : Nat) (σ : St) (H4 : Hp) : Prop
  | mk (ys zs : List V) (o5 : Option V) (h0 : σ = [some v, some (.ref ft), some (.ref lv), some u, some (.ref li), o5]) (h1 : But own H H4) (h2 : H4 lp = some (.lst xs)) (h3 : Sts H4 xs (post a)) (h4 : H4 lk = some (.lst cs)) (h5 : IsSt H4 u b) (h6 : I k s' H4) (h7 : H4 lv = some (.lst ys)) (h8 : Paired (R s' H4) ys (es ++ (kids b).take ((kids b).length - j))) (h9 : H4 li = some (.lst zs)) (h10 : Paired (R s' H4) zs ((kids b).drop ((kids b).length - j))) : IgInv own I R Ge H v u ft lv lp li lk xs cs a b es k s' j σ H4
theorem prd_to {own dom : List Addr} {I : Nat → S → Hp → Prop} {R : S → Hp → V → Stm → Prop} {Ge : S → S → Prop} (FR : FoldR own dom I R Ge) {s s' : S} {H H' : Hp} (g : Ge s s') (t : Tk H H') : ∀ {ys : List V} {ds : List Stm}, Paired (R s H) ys ds → Paired (R s' H') ys ds
  | _, _, .nil => .nil
  | _, _, .cons a b => .cons (FR.rm g t a) (prd_to FR g t b)
end
theorem ok_foldedG {S : Type} {own dom : List Addr} {I : Nat → S → Hp → Prop} {R : S → Hp → V → Stm → Prop} {Ge : S → S → Prop} {okp : Stm → Prop} {M : Nat} (FR : FoldR own dom I R Ge) {kt : Nat} {f f1 f2 ft : Addr} {fd fd1 fd2 : FuncData} (hkt : 3 ≤ kt) (BT : Bt mg) (D_within : Df K mg "within" s_within p_within f1 fd1) (G1 : FnOk P w K mg base CX0 2 f1 fd1 p_within spWithin) (D_parts_of : Df K mg "parts_of" s_parts_of p_parts_of f2 fd2) (G2 : FnOk P w K mg base CX0 3 f2 fd2 p_parts_of spParts)
    (T : ∀ X : Cx, X.prog = P → X.w = w → X.K = K → X.mg = mg → X.base = base → Room kt X.A → ∀ (p pos : Pos) (e1 e2 : Expr) (t : TA), starEach [e1, e2] X.env = (false, eval e1 X.env) :: starEach [e2] X.env → (backTo pos (starEach [e2] X.env)).any (·.1) = false → PE X (.Name "tell" p) (tVar 1) → PA X [e1, e2] t → PE X (.Call (.Name "tell" p) [e1, e2] [] pos) (tCallL 1 ft (spTellG own I R Ge okp M) [] E0 t))
    (D : Df K mg "folded" s_folded p_folded f fd) : FnOk P w K mg base CX0 (kt + 1) f fd p_folded (spFoldG ft own dom I R Ge okp M) := by
  have G_within := G1.mono (show 2 ≤ kt by omega)
  have G_parts_of := G2.mono hkt
  refine D.F.ok sc_folded (fun vs H Q E h => ?_) (fun cdv A outer s H vs Q E hr h => ?_)
  · obtain ⟨v, a, k, s, rfl, _⟩ := h
    rfl
  · obtain ⟨v, a, k, s, rfl, ha, hsz, hokp, hM, hI, hdom, q⟩ := h
    have hu := hu_of hr
    refine ⟨_, (pss_cons (ps_set (i := 2) sc_folded.nd rfl (by first | exact Or.inl rfl | exact Or.inr rfl) (pe_lst pa_nil))
    (pss_cons (ps_for PassesOwn.never rfl (pi_list (pe_call G_parts_of (hr) (by rfl) D_parts_of.m D_parts_of.F.kp D_parts_of.b .nil pass0 (pa_cons (pv 0) pa_nil))) (pg_name (i := 3) sc_folded.nd rfl (by first | exact Or.inl rfl | exact Or.inr rfl))
      (pss_cons (ps_set (i := 4) sc_folded.nd rfl (by first | exact Or.inl rfl | exact Or.inr rfl) (pe_lst pa_nil))
      (pss_cons (ps_for PassesOwn.never rfl (pi_list (pe_call G_within (hr) (by rfl) D_within.m D_within.F.kp D_within.b .nil pass0 (pa_cons (pv 3) pa_nil))) (pg_name (i := 5) sc_folded.nd rfl (by first | exact Or.inl rfl | exact Or.inr rfl))
        (pss_one (ps_expr (pe_bm PySem.F.plainAttrs_list PySem.F.slot_list_insert PySem.F.type_list_insert mt_insert0 (pv 4) (pa_cons pe_int (pa_cons (pe_bm0 PySem.F.plainAttrs_list PySem.F.slot_list_pop PySem.F.type_list_pop mt_pop (pv 2)) pa_nil))))))
      (pss_one (ps_expr (pe_bm PySem.F.plainAttrs_list PySem.F.slot_list_append PySem.F.type_list_append mt_append (pv 2) (pa_cons (T _ rfl rfl rfl rfl rfl hr _ _ _ _ _ rfl rfl (pv 1) (pa_cons (pv 3) (pa_cons (pv 4) pa_nil))) pa_nil)))))))
    (pss_one (ps_ret (pe_ix ix_list (pv 2) pe_int (fun _ _ => rfl)))))), ?_⟩
    simp only [rdA, rd_forL, rd_forR, rd_compT, rd_compL, rd_compR, rd_tyes, rd_seq, rd_if]
    intro lv hlv
    have s1 := Same.new (o := HO.lst []) hlv
    refine ⟨v, a, rfl, ha.to s1.tk, hsz, fun lp xs H1 hlp sm1 hxs hsts => ⟨lp, rfl, ⟨_, SqL.of hxs⟩, ?_⟩⟩
    have npv : lv ≠ lp := ne_of_none upd_same hlp
    have hxl : xs.length = (post a).length := Paired.length hsts
    have hpl := post_len a
    have sA := s1.trans sm1
    have hlp0 : H lp = none := s1.free hlp
    have nd : ∀ {c : Addr}, H c = none → c ∉ dom := fun h z => hdom _ z h
    have no : ∀ {c : Addr}, H c = none → c ∉ own := fun h z => nd h (FR.sub _ z)
    have im2 : ∀ {k s H2 p o xs}, I k s H2 → H p = none → H2 p = some (.lst xs) → I k s (upd H2 p o) := fun hI hp hl => FR.im hI fun b o e hd => by
      rw [upd_ne ?_]; exact e
      rintro rfl
      rcases hd with z | ⟨ys, z⟩
      · exact nd hp z
      · rw [hl] at e; cases e; cases z
    have bm : ∀ {H2 : Hp} {p : Addr} {o : HO}, But own H H2 → H p = none → But own H (upd H2 p o) := fun b hp c u e hc => by
      rw [upd_ne (ne_of_none e hp)]; exact b c u e hc
    have hW : Walked (post a) [a] := by simpa using walked_post a [] [] .nil
    refine for_list (K := K) (a := lp) (xs := xs) (FgInv own I R Ge H v ft lv lp xs a k s) ⟨[], [], s, none, none, none, rfl, But.of sA, hxs, hsts, sm1 _ _ upd_same, .nil, .nil, FR.im hI (fun b o e _ => sA b o e), FR.refl s⟩ (fun i σ H2 _ h => by obtain ⟨_, _, _, _, _, _, _, _, h, _⟩ := h; exact SqL.of h) ?_ ?_
    · rintro i u σ H2 hi ⟨ds, ys, s', o3, o4, o5, rfl, bt, hp, hst, hv, hrr, hw, hI2, hge⟩
      obtain ⟨b, hb, hub⟩ := hst.get hi
      obtain ⟨es, w1, w2⟩ := walked_at hW hb
      cases walked_one hw w1
      have hokb : okp b := hokp b (List.mem_of_getElem? hb)
      have hil : i < a.size := by rw [← hpl]; exact (List.getElem?_eq_some_iff.mp hb).1
      have hwl := walked_len w1
      rw [List.length_append, List.length_take] at hwl
      simp only [rdA, rd_forL, rd_forR, rd_compT, rd_compL, rd_compR, rd_tyes, rd_seq, rd_if]
      intro li hli
      have s2 := Same.new (o := HO.lst []) hli
      have nvi : lv ≠ li := ne_of_none hv hli
      have npi : lp ≠ li := ne_of_none hp hli
      have hlf : ∀ {c : Addr}, H2 c = none → H c = none := fun {c} h => by
        cases e : H c with
        | none => rfl
        | some o =>
          by_cases hc : c ∈ own
          · exfalso
            obtain ⟨o', e'⟩ := FR.at_ hI2 c (FR.sub c hc)
            rw [h] at e'; cases e'
          · have := bt c o e hc
            rw [h] at this; cases this
      have hli0 : H li = none := hlf hli
      refine ⟨u, b, rfl, hub.to s2.tk, fun lk cs H3 hlk sm3 hcs hks => ?_⟩
      simp only [rdA, rd_forL, rd_forR, rd_compT, rd_compL, rd_compR, rd_tyes, rd_seq, rd_if]
      have nvk : lv ≠ lk := ne_of_none (s2 _ _ hv) hlk
      have nik : li ≠ lk := ne_of_none upd_same hlk
      have hcl : cs.length = (kids b).length := Paired.length hks
      have hk2 := kids_len b
      refine ⟨⟨_, SqL.of hcs⟩, ?_⟩
      have sB := s2.trans sm3
      refine for_list (K := K) (a := lk) (xs := cs) (IgInv own I R Ge H v u ft lv lp li lk xs cs a b es (k + i) s') ⟨ys, [], o5, rfl, bt.trans (But.of sB), sB _ _ hp, hst.to sB.tk, hcs, hub.to sB.tk, FR.im hI2 (fun b o e _ => sB b o e), sB _ _ hv, ?_, sm3 _ _ upd_same, ?_⟩ (fun j σ H4 _ h => by obtain ⟨_, _, _, _, _, _, _, h, _⟩ := h; exact SqL.of h) ?_ ?_
      · rw [Nat.sub_zero, List.take_length]; exact prd_to FR (FR.refl _) sB.tk hrr
      · rw [Nat.sub_zero, List.drop_length]; exact .nil
      · rintro j y σ H4 hj ⟨ys, zs, o5, rfl, bt4, hp4, hst4, hk4, hu4, hI4, hv4, hr4, hi4, hz4⟩
        have hjl : j < (kids b).length := by rw [← hcl]; exact (List.getElem?_eq_some_iff.mp hj).1
        obtain ⟨kk, t1, t2⟩ := turn_of (kids b) hjl
        rw [t1, ← List.append_assoc] at hr4
        obtain ⟨ws, y2, rfl, hr5, hy2⟩ := prd_snocR hr4
        have hzl : zs.length = ((kids b).drop ((kids b).length - j)).length := Paired.length hz4
        rw [List.length_drop] at hzl
        simp only [rdA, rd_forL, rd_forR, rd_compT, rd_compL, rd_compR, rd_tyes, rd_seq, rd_if]
        refine ⟨⟨_, SqL.of hi4⟩, ⟨_, SqL.of hv4⟩, _, hv4, _, last_of _ _, ?_⟩
        rw [drop_of]
        have hi5 : upd H4 lv (HO.lst ws) li = some (.lst zs) := by rw [upd_ne nvi.symm]; exact hi4
        refine ⟨_, hi5, small1000 (by omega), ?_⟩
        have k1 : Tk H4 _ := (Tk.lst (o := .lst ws) hv4).trans (Tk.lst (o := .lst (y2 :: zs)) hi5)
        refine ⟨ws, y2 :: zs, _, rfl, bm (bm bt4 hlv) hli0, ?_, hst4.to k1, ?_, hu4.to k1, im2 (im2 hI4 hlv hv4) hli0 hi5, ?_, prd_to FR (FR.refl _) k1 hr5, upd_same, ?_⟩
        · rw [upd_ne npi, upd_ne npv.symm]; exact hp4
        · rw [upd_ne nik.symm, upd_ne nvk.symm]; exact hk4
        · rw [upd_ne nvi, upd_same]
        · rw [t2]; exact .cons (FR.rm (FR.refl _) k1 hy2) (prd_to FR (FR.refl _) k1 hz4)
      · rintro σ H4 ⟨ys, zs, o5, rfl, bt4, hp4, hst4, hk4, hu4, hI4, hv4, hr4, hi4, hz4⟩
        rw [hcl, Nat.sub_self, List.take_zero, List.append_nil] at hr4
        rw [hcl, Nat.sub_self, List.drop_zero] at hz4
        have hyl : ys.length = es.length := Paired.length hr4
        simp only [rdA, rd_forL, rd_forR, rd_compT, rd_compL, rd_compR, rd_tyes, rd_seq, rd_if]
        refine ⟨⟨_, SqL.of hv4⟩, u, li, b, zs, k + i, s', rfl, hu4, hi4, no hli0, hz4, hokb, by omega, hI4, fun u2 s3 H5 hge2 bt5 hR5 hI5 => ?_⟩
        have k5 := FR.tk hI4 bt5
        have hv5 := bt5 _ _ hv4 (no hlv)
        have k6 : Tk H5 _ := Tk.lst (o := .lst (ys ++ [u2])) hv5
        refine ⟨_, hv5, small1000 (by omega), es ++ [b], ys ++ [u2], s3, _, _, _, rfl, bm (bt4.trans bt5) hlv, ?_, hst4.to (k5.trans k6), upd_same, prd_app (prd_to FR hge2 (k5.trans k6) hr4) (.cons (FR.rm (FR.refl _) k6 hR5) .nil), w2, im2 hI5 hlv hv5, FR.trans hge hge2⟩
        rw [upd_ne npv.symm]; exact bt5 _ _ hp4 (no hlp0)
    · rintro σ H2 ⟨ds, ys, s', o3, o4, o5, rfl, bt, hp, hst, hv, hrr, hw, hI2, hge⟩
      rw [hxl, List.take_length] at hw
      cases walked_one hw hW
      rw [hxl, hpl] at hI2
      cases hrr with
      | cons hR hn =>
        cases hn
        simp only [rdA, rd_forL, rd_forR, rd_compT, rd_compL, rd_compR, rd_tyes, rd_seq, rd_if]
        exact ⟨_, SqL.of hv, _, atI0 _ _, q _ s' H2 hge bt hR hI2⟩
end
end Nt
end CN
end
section
set_option Elab.async false
set_option linter.all false
set_option maxRecDepth 100000
set_option maxHeartbeats 4000000
namespace CN
open PySem L2
seal L2.PE L2.PT L2.PS L2.PSs L2.PA L2.PPs L2.PW L2.PC L2.PG L2.PGs L2.PI L2.PO L2.PTs
namespace Nt
noncomputable abbrev s_Net___init__ : Stmt := inClass (top 10) 0
noncomputable abbrev p_Net___init__ : List Str := ["self"]
theorem sc_Net___init__ : FnScope ["self"] ["self"] (defScope s_Net___init__) := ⟨rfl, rfl, rfl, by decide +kernel, rfl, by decide +kernel, by decide +kernel⟩
noncomputable abbrev s_Net_statement_place : Stmt := inClass (top 10) 7
noncomputable abbrev p_Net_statement_place : List Str := ["self", "statement"]
theorem sc_Net_statement_place : FnScope ["self", "statement", "tell"] ["self", "statement"] (defScope s_Net_statement_place) := ⟨rfl, rfl, rfl, by decide +kernel, rfl, by decide +kernel, by decide +kernel⟩
theorem rd_dnewT {σ : St} {H : Hp} {Q : VK} : tDNewT σ H Q = ∀ p, H p = none → Q (.ref p) (upd H p (.dT [])) := rfl
theorem ne12 : ¬ (("nodes" : Str) = "places") := by decide +kernel
theorem ne13 : ¬ (("nodes" : Str) = "choices") := by decide +kernel
theorem ne14 : ¬ (("nodes" : Str) = "settled") := by decide +kernel
theorem ne23 : ¬ (("places" : Str) = "choices") := by decide +kernel
theorem ne24 : ¬ (("places" : Str) = "settled") := by decide +kernel
theorem ne34 : ¬ (("choices" : Str) = "settled") := by decide +kernel
theorem npt1 (a : V) : putF "nodes" a [] = [(("nodes" : Str), a)] := rfl
theorem npt2 (a b : V) : putF "places" b (putF "nodes" a []) = [(("nodes" : Str), a), ("places", b)] := by rw [npt1, putF, if_neg ne12]; rfl
theorem npt3 (a b c : V) : putF "choices" c (putF "places" b (putF "nodes" a [])) = [(("nodes" : Str), a), ("places", b), ("choices", c)] := by rw [npt2, putF, if_neg ne13, putF, if_neg ne23]; rfl
theorem npt4 (a b c d : Addr) : putF "settled" (.ref d) (putF "choices" (.ref c) (putF "places" (.ref b) (putF "nodes" (.ref a) []))) = nflds a b c d := by rw [npt3, putF, if_neg ne14, putF, if_neg ne24, putF, if_neg ne34]; rfl
theorem netF_new {C p dx ln lp lc ls : Addr} {H : Hp} (ob : H p = some (.ins C dx (nflds ln lp lc ls))) (h1 : H ln = some (.lst [])) (h2 : H lp = some (.dT [])) (h3 : H lc = some (.dT [])) (h4 : H ls = some (.dT [])) (e1 : lc ≠ lp) (e2 : ls ≠ lp) (e3 : lc ≠ ls) :
    NetF C H ⟨p, dx, ln, lp, lc, ls⟩ [] [] [] [] :=
  have at_ : NetAt C H ⟨p, dx, ln, lp, lc, ls⟩ [] [] := ⟨ob, ⟨[], h1, .nil⟩, h2, Nat.le_refl _, fun k v e => (by cases e), fun i nd e => (by simp at e)⟩
  ⟨⟨at_, h3, e1, fun k v e => (by cases e)⟩, ⟨at_, h4, e2, fun k v e => (by cases e)⟩, e3, net_nil⟩
theorem NetF.keep {C : Addr} {H H' : Hp} {a : Adr} {ns : List Nd} {kp kc ks : List (List Key × V)} (h : NetF C H a ns kp kc ks) (k : ∀ b o, H b = some o → b ∈ a.p :: own a ∨ (∃ xs, o = .tup xs) → H' b = some o) : NetF C H' a ns kp kc ks := by
  obtain ⟨xs, h1, h2⟩ := h.c.at_.nodes
  have t : Tk H H' := fun b ys e => k b _ e (.inr ⟨ys, rfl⟩)
  have at_ : NetAt C H' a ns kp := ⟨k _ _ h.c.at_.ob (.inl (by simp [own])), ⟨xs, k _ _ h1 (.inl (by simp [own])), nds_to t h2⟩, k _ _ h.c.at_.places (.inl (by simp [own])), h.c.at_.pls, h.c.at_.into, h.c.at_.out⟩
  exact ⟨⟨at_, k _ _ h.c.ch (.inl (by simp [own])), h.c.ne, h.c.is⟩, ⟨at_, k _ _ h.s.st (.inl (by simp [own])), h.s.ne, h.s.is⟩, h.ne, h.net⟩
theorem NetF.nt {C b : Addr} {H : Hp} {a : Adr} {ns : List Nd} {kp kc ks : List (List Key × V)} {qs : Array Value} (h : NetF C H a ns kp kc ks) (e : H b = some (.tbl qs)) : b ∉ a.p :: own a := fun hm => by
  obtain ⟨ys, h1, _⟩ := h.c.at_.nodes
  simp only [own, List.mem_cons, List.not_mem_nil, or_false] at hm
  rcases hm with rfl | rfl | rfl | rfl | rfl
  · rw [h.c.at_.ob] at e; cases e
  · rw [h1] at e; cases e
  · rw [h.c.at_.places] at e; cases e
  · rw [h.c.ch] at e; cases e
  · rw [h.s.st] at e; cases e
theorem NetF.dom {C : Addr} {H : Hp} {a : Adr} {ns : List Nd} {kp kc ks : List (List Key × V)} (h : NetF C H a ns kp kc ks) : ∀ c ∈ a.p :: own a, ∃ o, H c = some o := fun c hm => by
  obtain ⟨ys, h1, _⟩ := h.c.at_.nodes
  simp only [own, List.mem_cons, List.not_mem_nil, or_false] at hm
  rcases hm with rfl | rfl | rfl | rfl | rfl
  · exact ⟨_, h.c.at_.ob⟩
  · exact ⟨_, h1⟩
  · exact ⟨_, h.c.at_.places⟩
  · exact ⟨_, h.c.ch⟩
  · exact ⟨_, h.s.st⟩
section
variable {P : Program} {w : World} {K : PySem.W.Frag} {mg : Str → Option Value} {base : Heap}
noncomputable def spNInit (C : Addr) : Sp := fun vs H Q _ => ∃ (p dx : Addr), vs = [.ref p] ∧ H p = some (.ins C dx []) ∧ ∀ a H', a.p = p → a.dx = dx → NetF C H' a [] [] [] [] → (∀ b o, H b = some o → b ≠ p → H' b = some o) → (∀ c ∈ own a, H c = none) → Q .non H'
theorem ok_ninit {f C : Addr} {fd : FuncData} (F : Fun K "__init__" "Net.__init__" s_Net___init__ f fd) (NT : NTx K C) : FnOk P w K mg base CX0 1 f fd p_Net___init__ (spNInit C) := by
  refine F.ok sc_Net___init__ (fun vs H Q E h => ?_) (fun cdv A outer s H vs Q E hr h => ?_)
  · obtain ⟨p, dx, rfl, _⟩ := h
    rfl
  · obtain ⟨p, dx, rfl, h0, q⟩ := h
    refine ⟨_, (pss_cons (ps_fldC NT.cl NT.n_nodes (pv 0) (pe_lst pa_nil) rfl)
    (pss_cons (ps_fldC NT.cl NT.n_places (pv 0) pe_dnewT rfl)
    (pss_cons (ps_fldC NT.cl NT.n_choices (pv 0) pe_dnewT rfl)
    (pss_one (ps_fldC NT.cl NT.n_settled (pv 0) pe_dnewT rfl))))), ?_⟩
    simp only [rdA, rd_dnewT, rd_forL, rd_forR, rd_seq, rd_if, rd_kget, rd_kin, rd_fldP, rd_make, rd_slS, cx_w, cx_w2]
    intro ln hln
    have n1 : ln ≠ p := (ne_of_none h0 hln).symm
    refine ⟨_, _, (upd_ne n1.symm).trans h0, by show 0 < 1000; decide, fun lp hlp => ?_⟩
    have n2 : lp ≠ p := (ne_of_none upd_same hlp).symm
    have n3 : lp ≠ ln := (ne_of_none ((upd_ne n1).trans upd_same) hlp).symm
    rw [upd_ne n2, upd_ne n3] at hlp
    refine ⟨_, _, (upd_ne n2.symm).trans upd_same, by rw [npt1]; show 1 < 1000; decide, fun lc hlc => ?_⟩
    have n4 : lc ≠ p := (ne_of_none upd_same hlc).symm
    have n5 : lc ≠ lp := (ne_of_none ((upd_ne n2).trans upd_same) hlc).symm
    have n6 : lc ≠ ln := (ne_of_none ((upd_ne n1).trans ((upd_ne n3.symm).trans ((upd_ne n1).trans upd_same))) hlc).symm
    rw [upd_ne n4, upd_ne n5, upd_ne n4, upd_ne n6] at hlc
    refine ⟨_, _, (upd_ne n4.symm).trans upd_same, by rw [npt2]; show 2 < 1000; decide, fun ls hls => ?_⟩
    have n7 : ls ≠ p := (ne_of_none upd_same hls).symm
    have n8 : ls ≠ lc := (ne_of_none ((upd_ne n4).trans upd_same) hls).symm
    have n9 : ls ≠ lp := (ne_of_none ((upd_ne n2).trans ((upd_ne n5.symm).trans ((upd_ne n2).trans upd_same))) hls).symm
    have n10 : ls ≠ ln := (ne_of_none ((upd_ne n1).trans ((upd_ne n6.symm).trans ((upd_ne n1).trans ((upd_ne n3.symm).trans ((upd_ne n1).trans upd_same))))) hls).symm
    rw [upd_ne n7, upd_ne n8, upd_ne n7, upd_ne n9, upd_ne n7, upd_ne n10] at hls
    refine ⟨_, _, (upd_ne n7.symm).trans upd_same, by rw [npt3]; show 3 < 1000; decide, ?_⟩
    rw [npt4]
    refine q ⟨p, dx, ln, lp, lc, ls⟩ _ rfl rfl (netF_new upd_same ?_ ?_ ?_ ?_ n5 n9 n8.symm) (fun b o e hb => ?_) fun c hc => ?_
    · rw [upd_ne n1, upd_ne n10.symm, upd_ne n1, upd_ne n6.symm, upd_ne n1, upd_ne n3.symm, upd_ne n1]; exact upd_same
    · rw [upd_ne n2, upd_ne n9.symm, upd_ne n2, upd_ne n5.symm, upd_ne n2]; exact upd_same
    · rw [upd_ne n4, upd_ne n8.symm, upd_ne n4]; exact upd_same
    · rw [upd_ne n7]; exact upd_same
    · rw [upd_ne hb, upd_ne (ne_of_none e hls), upd_ne hb, upd_ne (ne_of_none e hlc), upd_ne hb, upd_ne (ne_of_none e hlp), upd_ne hb, upd_ne (ne_of_none e hln)]; exact e
    · simp only [own, List.mem_cons, List.not_mem_nil, or_false] at hc
      rcases hc with rfl | rfl | rfl | rfl
      · exact hln
      · exact hlp
      · exact hlc
      · exact hls
noncomputable def tellS : Stmt := (defBody s_Net_statement_place).getD 0 (.Pass ⟨0, 0, 0, 0⟩)
noncomputable def posOf : Stmt → Pos
  | .FunctionDef _ _ _ _ _ _ _ _ _ p => p
  | _ => ⟨0, 0, 0, 0⟩
noncomputable def qTell : Str := qualnameIn (PyProof.Rows.envOfC "Net.statement_place" (defScope s_Net_statement_place) 0 0 .none) "tell" "tell"
noncomputable abbrev NSt : Type := List Nd × List (List Key × V) × List (List Key × V) × List (List Key × V)
structure NI (C : Addr) (a : Adr) (L : List Int) (R z : Nat) (c' : Addr) (k : Nat) (s : NSt) (H : Hp) : Prop where
  net : NetF C H a s.1 s.2.1 s.2.2.1 s.2.2.2
  inL : ∀ nd ∈ s.1, nd.sw ∈ L
  sz : Sz s.1 s.2.2.1 s.2.2.2 (z + 3 * 2 ^ R * k)
  co : H c' = some (CodeO c' qTell)
noncomputable def NR (s : NSt) (_ : Hp) (u : V) (b : Stm) : Prop := ∃ r : Nat, u = .int (r : Nat) ∧ Means s.1 r b
noncomputable def NG (s s' : NSt) : Prop := Ext s.1 s'.1
theorem foldR_net {C c' : Addr} {a : Adr} {L : List Int} {R z : Nat} : FoldR (own a) (c' :: a.p :: own a) (NI C a L R z c') NR NG where
  sub := fun c hc => List.mem_cons_of_mem _ (List.mem_cons_of_mem _ hc)
  refl := fun s => Ext.refl _
  trans := fun g g' => Ext.trans g g'
  rm := fun g _ h => by
    obtain ⟨r, e, m⟩ := h
    exact ⟨r, e, m.ext g⟩
  im := fun h k => ⟨h.net.keep fun b o e hb => k b o e (hb.imp (List.mem_cons_of_mem _) id), h.inL, h.sz, k _ _ h.co (.inl (List.mem_cons_self ..))⟩
  tk := fun h b => h.net.tk b
  at_ := fun h c hc => by
    rcases List.mem_cons.mp hc with e | hc
    · rw [e]; exact ⟨_, h.co⟩
    · exact h.net.dom c hc
noncomputable def spPlace (C Pt : Addr) (R : Nat) : Sp := fun vs H Q _ => ∃ (a : Adr) (ns : List Nd) (kp kc ks : List (List Key × V)) (L : List Int) (v : V) (st : Stm) (z : Nat), vs = [.ref a.p, v] ∧ NetF C H a ns kp kc ks ∧ IsSt H v st ∧ st.size ≤ 1000 ∧
  (∀ nd ∈ ns, nd.sw ∈ L) ∧ (∀ n ∈ swL st, n ∈ L) ∧ L.length ≤ R ∧ Sz ns kc ks z ∧ z + 3 * 2 ^ R * st.size ≤ 10000000 ∧ TabAt H Pt (posOf tellS) qTell ∧
  ∀ (r : Nat) (ns' : List Nd) (kp' kc' ks' : List (List Key × V)) H', Ext ns ns' → NetF C H' a ns' kp' kc' ks' → Means ns' r st → (∀ nd ∈ ns', nd.sw ∈ L) → Sz ns' kc' ks' (z + 3 * 2 ^ R * st.size) → (∀ b o, H b = some o → b ∉ own a → b ≠ Pt → H' b = some o) → TabAt H' Pt (posOf tellS) qTell → Q (.int (r : Nat)) H'
theorem swL_post : ∀ (a b : Stm), b ∈ post a → ∀ n ∈ swL b, n ∈ swL a := by
  intro a
  induction a with
  | yes => intro b hb; simp only [post, List.mem_singleton] at hb; rw [hb]; exact fun n h => h
  | no => intro b hb; simp only [post, List.mem_singleton] at hb; rw [hb]; exact fun n h => h
  | sw n => intro b hb; simp only [post, List.mem_singleton] at hb; rw [hb]; exact fun n h => h
  | nt a ih => intro b hb; simp only [post, List.mem_append, List.mem_singleton] at hb; rcases hb with hb | hb
               · exact ih b hb
               · rw [hb]; exact fun n h => h
  | al n a ih => intro b hb; simp only [post, List.mem_append, List.mem_singleton] at hb; rcases hb with hb | hb
                 · exact ih b hb
                 · rw [hb]; exact fun n h => h
  | sm n a ih => intro b hb; simp only [post, List.mem_append, List.mem_singleton] at hb; rcases hb with hb | hb
                 · exact ih b hb
                 · rw [hb]; exact fun n h => h
  | an x y i j => intro b hb; simp only [post, List.mem_append, List.mem_singleton] at hb; rcases hb with (hb | hb) | hb
                  · exact fun n h => List.mem_append.mpr (.inl (i b hb n h))
                  · exact fun n h => List.mem_append.mpr (.inr (j b hb n h))
                  · rw [hb]; exact fun n h => h
  | og x y i j => intro b hb; simp only [post, List.mem_append, List.mem_singleton] at hb; rcases hb with (hb | hb) | hb
                  · exact fun n h => List.mem_append.mpr (.inl (i b hb n h))
                  · exact fun n h => List.mem_append.mpr (.inr (j b hb n h))
                  · rw [hb]; exact fun n h => h
theorem kids_kidz (b : Stm) : kids b = kidz b := by cases b <;> rfl
theorem nr_list {s : NSt} {H : Hp} : ∀ {ys : List V} {bs : List Stm}, Paired (NR s H) ys bs → ∃ is : List Nat, ys = is.map (fun p => V.int (p : Nat)) ∧ Paired (Means s.1) is bs
  | _, _, .nil => ⟨[], rfl, .nil⟩
  | _, _, .cons h r => by
    obtain ⟨i, rfl, m⟩ := h
    obtain ⟨is, rfl, p⟩ := nr_list r
    exact ⟨i :: is, rfl, .cons m p⟩
theorem look1 {α : Type} {k x : Str} {c d : α} (h : [(k, c)].lookup x = some d) : x = k ∧ d = c := by
  rw [List.lookup_cons] at h
  by_cases e : x = k
  · rw [beq_iff_eq.mpr e] at h; cases h; exact ⟨e, rfl⟩
  · rw [beq_eq_false_iff_ne.mpr e] at h; cases h
theorem fl_pp (ln lp lc ls : Addr) : (nflds ln lp lc ls).lookup ("part_place" : Str) = none := by
  unfold nflds
  rw [List.lookup_cons, show (("part_place" : Str) == "nodes") = false from by decide +kernel, List.lookup_cons, show (("part_place" : Str) == "places") = false from by decide +kernel, List.lookup_cons, show (("part_place" : Str) == "choices") = false from by decide +kernel, List.lookup_cons, show (("part_place" : Str) == "settled") = false from by decide +kernel]; rfl
theorem fl_sp (ln lp lc ls : Addr) : (nflds ln lp lc ls).lookup ("statement_place" : Str) = none := by
  unfold nflds
  rw [List.lookup_cons, show (("statement_place" : Str) == "nodes") = false from by decide +kernel, List.lookup_cons, show (("statement_place" : Str) == "places") = false from by decide +kernel, List.lookup_cons, show (("statement_place" : Str) == "choices") = false from by decide +kernel, List.lookup_cons, show (("statement_place" : Str) == "settled") = false from by decide +kernel]; rfl
theorem NetF.nx {C b : Addr} {q : Str} {H : Hp} {a : Adr} {ns : List Nd} {kp kc ks : List (List Key × V)} (h : NetF C H a ns kp kc ks) (e : H b = some (CodeO b q)) : b ∉ a.p :: own a := fun hm => by
  obtain ⟨ys, h1, _⟩ := h.c.at_.nodes
  unfold CodeO at e
  simp only [own, List.mem_cons, List.not_mem_nil, or_false] at hm
  rcases hm with rfl | rfl | rfl | rfl | rfl
  · rw [h.c.at_.ob] at e; cases e
  · rw [h1] at e; cases e
  · rw [h.c.at_.places] at e; cases e
  · rw [h.c.ch] at e; cases e
  · rw [h.s.st] at e; cases e
theorem ok_tell {base' : Heap} {k R z : Nat} {f c' cs C f1 : Addr} {fd1 : FuncData} {a : Adr} {L : List Int} {doc pm ctv : Value} {M : Nat} (NT : NTx K C) (m_part_place : Meth K C "part_place" f1) (b_part_place : Binds K fd1 p_Net_part_place []) (G_part_place : FnOk P w K mg base' CX0 k f1 fd1 p_Net_part_place (spPart C R))
    (hLR : L.length ≤ R) (hM : z + 3 * 2 ^ R * M ≤ 10000000)
    (lk : base'.get? f = some (PySem.W.fnMade "tell" qTell (defArgs tellS) (defBody tellS) (defScope tellS) [("self", cs)] doc pm c' ctv)) (caps : CapsAt base' [("self", cs)] [("self", .ref a.p)]) :
    FnOk P w K mg base' CX0 (k + 1) f (PySem.W.fnX "tell" qTell (defArgs tellS) (defBody tellS) (defScope tellS) [("self", cs)] .none .none doc pm none (.ref c') ctv) ["part", "inner"] (spTellG (own a) (NI C a L R z c') NR NG (fun b => ∀ n ∈ swL b, n ∈ L) M) := by
  refine fn_clo (vals := [("self", .ref a.p)]) lk ⟨rfl, rfl, rfl, by show ([("part" : Str), "inner", "self"]).Nodup; decide +kernel, ?_, by decide +kernel, ?_, ?_, ?_⟩ caps ?_ (fun vs H Q E h => ?_) (fun vs H Q E h => ?_) (fun A outer s H vs Q E hr h => ?_)
  · intro x hx
    simp only [List.mem_cons, List.not_mem_nil, or_false] at hx
    rcases hx with rfl | rfl <;> rfl
  · intro x hx
    have h1 := PySem.mem_of_lookup hx
    have h2 : ∀ y ∈ (defScope tellS).names, y.2 = .free → y.1 = "self" := by decide +kernel
    have h3 : x = "self" := h2 _ h1 rfl
    rw [h3]
    exact ⟨cs, rfl⟩
  · intro x y c h1 h2
    rw [(look1 h1).1, (look1 h2).1]
  · intro x v hm
    rw [List.mem_singleton] at hm
    cases hm
    rfl
  · rintro x ⟨c, hc⟩
    rw [(look1 hc).1]
    rfl
  · obtain ⟨v, l, b, ys, k, s, rfl, _⟩ := h; rfl
  · obtain ⟨v, l, b, ys, k, s, rfl, _, _, _, _, _, _, hI, _⟩ := h; exact hI.co
  · obtain ⟨v, l, b, ys, j, s, rfl, hv, hl, hlo, hys, hok, hj, hI, q⟩ := h
    refine ⟨_, pss_one (ps_ret (pe_meth (pv 2) NT.cl m_part_place G_part_place hr b_part_place .nil pass0 (pa_cons (pv 0) (pa_cons (pv 1) pa_nil)))), ?_⟩
    simp only [rdA, rd_forL, rd_forR, rd_seq, rd_if, rd_kget, rd_kin, rd_fldP, rd_make, rd_slS, cx_w, cx_w2]
    obtain ⟨is, rfl, hm⟩ := nr_list hys
    rw [kids_kidz] at hm
    have hle : 3 * 2 ^ R * (j + 1) ≤ 3 * 2 ^ R * M := Nat.mul_le_mul_left _ hj
    rw [Nat.mul_succ] at hle
    refine ⟨_, _, hI.net.c.at_.ob, fl_pp _ _ _ _, a, s.1, s.2.1, s.2.2.1, s.2.2.2, L, v, b, l, is, z + 3 * 2 ^ R * j, rfl, hI.net, hv, hl, fun e => hlo (by rw [e]; simp [own]), hm, hI.inL, hok, hLR, hI.sz, by omega, fun r ns' kp' kc' ks' H' e F' m inL' sz' bt => ?_⟩
    refine q (.int r) (ns', kp', kc', ks') H' e bt ⟨r, rfl, m⟩ ⟨F', inL', ?_, bt _ _ hI.co fun z => hI.net.nx hI.co (List.mem_cons_of_mem _ z)⟩
    rw [Nat.mul_succ, ← Nat.add_assoc]; exact sz'
theorem ok_place {kt R : Nat} {f c C Pt f1 f2 f3 f4 : Addr} {fd1 fd2 fd3 fd4 : FuncData} {oc : Value} {od an : Option Addr} {osl : Array (Option Value)} {kV doc pm ct : Value} (hkt : R + 4 ≤ kt) (hkt3 : 3 ≤ kt) (BT : Bt mg) (KB : K.In base) (B : Bm mg base) (NT : NTx K C)
    (lk : K.lookup f = some ⟨oc, od, .func (PySem.W.fnOf "statement_place" "Net.statement_place" (defArgs s_Net_statement_place) (defBody s_Net_statement_place) (defScope s_Net_statement_place) .none kV doc pm an (.ref c) ct), osl⟩) (hcd : PySem.W.codeIn K (.ref c) "Net.statement_place" = true) (hch : PySem.W.codeHdIn K c Pt = true)
    (m_part_place : Meth K C "part_place" f1) (b_part_place : Binds K fd1 p_Net_part_place []) (G_part : ∀ b, FnOk P w K mg b CX0 (R + 3) f1 fd1 p_Net_part_place (spPart C R))
    (D_within : Df K mg "within" s_within p_within f2 fd2) (G_within : ∀ b, FnOk P w K mg b CX0 2 f2 fd2 p_within spWithin) (D_parts_of : Df K mg "parts_of" s_parts_of p_parts_of f3 fd3) (G_parts : ∀ b, FnOk P w K mg b CX0 3 f3 fd3 p_parts_of spParts) (D_folded : Df K mg "folded" s_folded p_folded f4 fd4) :
    FnOk P w K mg base CX0 (kt + 2) f (PySem.W.fnOf "statement_place" "Net.statement_place" (defArgs s_Net_statement_place) (defBody s_Net_statement_place) (defScope s_Net_statement_place) .none kV doc pm an (.ref c) ct) p_Net_statement_place (spPlace C Pt R) := by
  refine fn_of lk hcd sc_Net_statement_place (fun vs H Q E h => ?_) fun A outer s H vs Q E hr h => ?_
  · obtain ⟨a, ns, kp, kc, ks, L, v, st, z, rfl, _⟩ := h
    rfl
  · obtain ⟨a, ns, kp, kc, ks, L, v, st, z, rfl, hF, hv, hsz, hL, hsw, hLR, hz, hzz, hT, q⟩ := h
    refine ⟨_, PSs.nox (pss_clo (k := kt + 1) (c := c) (P := Pt) (fF := f4) (i := 2) (ia := 1) (qual := qTell) (clos := [("self", s.heap.objs.size + 1)]) (fun _ _ h => h.elim) sc_Net_statement_place.nd rfl (PySem.W.codeHd_of_K KB hch) B rfl rfl rfl rfl rfl rfl rfl (fun _ => rfl) ?_ ?_ (by decide) hr (by rfl) D_folded.m D_folded.F.kp (pv 1) (pv 2)), ?_⟩
    · intro x c e
      obtain ⟨rfl, rfl⟩ := look1 e
      exact ⟨rfl, .inr (.inl rfl), rfl⟩
    · intro x c e
      obtain ⟨rfl, rfl⟩ := look1 e
      decide +kernel
    · have hTb : ∃ qs, H Pt = some (.tbl qs) := ⟨_, hT.choose_spec.1⟩
      obtain ⟨qs, hTb⟩ := hTb
      refine ⟨hT, v, [("self", .ref a.p)], rfl, fun x c e => ?_, fun f' c' doc ctv H1 base' hup T1 hf hc' up lk' caps => ?_⟩
      · obtain ⟨rfl, rfl⟩ := look1 e
        exact ⟨0, .ref a.p, rfl, rfl, rfl⟩
      · have GT := ok_tell (P := P) (w := w) (mg := mg) (k := R + 3) (R := R) (z := z) (L := L) (M := st.size) NT m_part_place b_part_place (G_part base') hLR hzz lk' caps
        have FD := ok_foldedG (P := P) (w := w) (mg := mg) (base := base') (foldR_net (C := C) (c' := c') (a := a) (L := L) (R := R) (z := z)) (okp := fun b => ∀ n ∈ swL b, n ∈ L) (M := st.size) (ft := f') (kt := kt) hkt3 BT D_within (G_within base') D_parts_of (G_parts base') (fun X e1 e2 e3 e4 e5 hr p pos x1 x2 t he hpl hn ha => by
          subst e1 e2 e3 e4 e5
          exact pe_callClo lk' (GT.mono hkt) hr hn (Binds.all (fun us hl => match us, hl with | [_, _], _ => rfl)) ha he hpl) D_folded
        have tk1 : Tk H H1 := fun b xs e => hup b _ e fun z => by rw [z, hTb] at e; cases e
        have F1 : NetF C H1 a ns kp kc ks := hF.keep fun b o e hb => hup b o e fun z => by
          rcases hb with hb | ⟨xs, hb⟩
          · exact hF.nt hTb (by rw [← z]; exact hb)
          · rw [z, hTb] at e; cases e; cases hb
        refine ⟨fd4, p_folded, _, FD, D_folded.b, v, st, 0, (ns, kp, kc, ks), rfl, hv.to tk1, hsz, fun b hb n hn => hsw n (swL_post st b hb n hn), by omega, ⟨F1, hL, by simpa using hz, hc'⟩, fun c hc => ?_, fun u s' H' g bt hR hI => ?_⟩
        · rcases List.mem_cons.mp hc with e | hc
          · rw [e, hc']; simp
          · obtain ⟨o, e⟩ := F1.dom c hc
            rw [e]; simp
        · obtain ⟨r, rfl, m⟩ := hR
          have hsz' := hI.sz
          rw [Nat.zero_add] at hsz'
          refine q r s'.1 s'.2.1 s'.2.2.1 s'.2.2.2 H' g hI.net m hI.inL hsz' (fun b o e h1 h2 => bt b o (hup b o e h2) h1) ?_
          obtain ⟨ps, g1, g2, g3⟩ := T1
          refine ⟨ps, bt _ _ g1 fun z => F1.nt g1 (List.mem_cons_of_mem _ z), g2, ?_⟩
          rcases g3 with g3 | ⟨c2, g3, g4⟩
          · exact .inl g3
          · exact .inr ⟨c2, g3, bt _ _ g4 fun z => F1.nx g4 (List.mem_cons_of_mem _ z)⟩
noncomputable def IsG (g : List Nd × Nat) (st : Stm) (L : List Int) : Prop := g.1.length ≤ 4000000 ∧ ∃ ns r, Net ns ∧ Means ns r st ∧ g = graphOf ns r ∧ ∀ nd ∈ ns, nd.sw ∈ L
structure GrAt (H : Hp) (v : V) (g : List Nd × Nat) : Prop where
  ex : ∃ (t lo : Addr) (os : List V), v = .ref t ∧ H t = some (.tup [.ref lo, .int (g.2 : Nat)]) ∧ H lo = some (.lst os) ∧ Paired (NdAt H) os g.1
end
end Nt
end CN
end
section
set_option Elab.async false
set_option linter.all false
set_option maxRecDepth 100000
set_option maxHeartbeats 4000000
namespace CN
open PySem L2
seal L2.PE L2.PT L2.PS L2.PSs L2.PA L2.PPs L2.PW L2.PC L2.PG L2.PGs L2.PI L2.PO L2.PTs
namespace Nt
noncomputable abbrev s_L_at : Stmt := top 20
noncomputable abbrev p_L_at : List Str := ["_law_script", "_law_k"]
theorem sc_L_at : FnScope ["_law_script", "_law_k"] ["_law_script", "_law_k"] (defScope s_L_at) := ⟨rfl, rfl, rfl, by decide +kernel, rfl, by decide +kernel, by decide +kernel⟩
noncomputable abbrev s_L_whole : Stmt := top 19
noncomputable abbrev p_L_whole : List Str := ["_law_found"]
theorem sc_L_whole : FnScope ["_law_found"] ["_law_found"] (defScope s_L_whole) := ⟨rfl, rfl, rfl, by decide +kernel, rfl, by decide +kernel, by decide +kernel⟩
section
variable {P : Program} {w : World} {K : PySem.W.Frag} {mg : Str → Option Value} {base : Heap}
noncomputable def spAt (K : PySem.W.Frag) : Sp := fun vs H Q _ => ∃ (l : Addr) (ns : List Int) (k : Nat), vs = [.ref l, .int k] ∧ SqL K H l (ns.map V.int) ∧ ∀ i : Int, Q (.int i) H
theorem ok_at {f : Addr} {fd : FuncData} (BT : Bt mg) (D : Df K mg "_law_at" s_L_at p_L_at f fd) : FnOk P w K mg base CX0 1 f fd p_L_at (spAt K) := by
  refine D.F.ok sc_L_at (fun vs H Q E h => ?_) (fun cdv A outer s H vs Q E hr h => ?_)
  · obtain ⟨l, ns, k, rfl, _⟩ := h
    rfl
  · obtain ⟨l, ns, k, rfl, hl, q⟩ := h
    refine ⟨_, (pss_cons (ps_if (pt_cmpR op_lt (pv 1) (pe_callB call_len_seq (by rfl) BT.n_len bo_len (pa_cons (pv 0) pa_nil)) (nomark _))
      (pss_one (ps_ret (pe_ix ix_list (pv 0) (pv 1) (fun _ _ => rfl))))
      pss_nil)
    (pss_one (ps_ret pe_int))), ?_⟩
    simp only [rdA, rd_seq, rd_if]
    refine ⟨_, .inl hl, ite2 (fun hk => ?_) fun _ => q 0⟩
    have hk' : k < (ns.map V.int).length := by simpa using hk
    have hk2 : k < ns.length := by simpa using hk'
    refine ⟨_, hl, .int ns[k], atI_nat ?_, q _⟩
    rw [List.getElem?_map, List.getElem?_eq_getElem hk2]
    rfl
noncomputable def spWhole : Sp := fun vs H Q _ => ∃ i : Int, vs = [.int i] ∧ Q (.bl true) H
theorem ok_whole {f : Addr} {fd : FuncData} (BT : Bt mg) (D : Df K mg "_law_whole" s_L_whole p_L_whole f fd) : FnOk P w K mg base CX0 1 f fd p_L_whole spWhole := by
  refine D.F.ok sc_L_whole (fun vs H Q E h => ?_) (fun cdv A outer s H vs Q E hr h => ?_)
  · obtain ⟨c, rfl, _⟩ := h
    rfl
  · obtain ⟨c, rfl, q⟩ := h
    refine ⟨_, (pss_one (ps_ret (pe_and (pe_callB (call_isinst) (by rfl) BT.n_isinstance bo_isinstance (pa_cons (pv 0) (pa_cons (pe_bltn (v := .ty "int") (by rfl) BT.n_int bo_int rfl) pa_nil))) (pe_one (pe_not (pe_callB (call_isinst) (by rfl) BT.n_isinstance bo_isinstance (pa_cons (pv 0) (pa_cons (pe_bltn (v := .ty "bool") (by rfl) BT.n_bool bo_bool rfl) pa_nil)))))))), ?_⟩
    simp only [rdA, rd_seq, rd_if]
    refine ⟨_, .int c, _, kit_same K "int", iteT ⟨_, .int c, _, kit_ib K, q⟩⟩
end
end Nt
end CN
end
section
set_option Elab.async false
set_option linter.all false
set_option maxRecDepth 100000
set_option maxHeartbeats 4000000
namespace L2
open PySem PySem.Spec PyProof.Rows
end L2
namespace CN
open PySem L2
seal L2.PE L2.PT L2.PS L2.PSs L2.PA L2.PPs L2.PW L2.PC L2.PG L2.PGs L2.PI L2.PO L2.PTs
namespace Nt
section
variable {P : Program} {w : World} {K : PySem.W.Frag} {mg : Str → Option Value} {base : Heap}
end
end Nt
end CN
end
section
set_option Elab.async false
set_option linter.all false
set_option maxRecDepth 100000
set_option maxHeartbeats 4000000
namespace CN
open PySem L2
seal L2.PE L2.PT L2.PS L2.PSs L2.PA L2.PPs L2.PW L2.PC L2.PG L2.PGs L2.PI L2.PO L2.PTs
namespace Nt
noncomputable def pre : Stm → List Stm
  | .yes => [.yes] | .no => [.no] | .sw n => [.sw n]
  | .nt a => .nt a :: pre a
  | .an a b => .an a b :: (pre a ++ pre b)
  | .og a b => .og a b :: (pre a ++ pre b)
  | .al n a => .al n a :: pre a
  | .sm n a => .sm n a :: pre a
section
variable {P : Program} {w : World} {K : PySem.W.Frag} {mg : Str → Option Value} {base : Heap}
end
end Nt
end CN
end
section
set_option Elab.async false
set_option linter.all false
set_option maxRecDepth 100000
set_option maxHeartbeats 4000000
namespace L2
open PySem PySem.Spec PyProof.Rows
end L2
namespace CN
open PySem L2
seal L2.PE L2.PT L2.PS L2.PSs L2.PA L2.PPs L2.PW L2.PC L2.PG L2.PGs L2.PI L2.PO L2.PTs
namespace Nt
inductive Back : List Stm → List Stm → Prop
  | nil : Back [] []
  | snoc {ps ds : List Stm} {a : Stm} : Back ps (ds ++ (kids a).reverse) → Back (ps ++ [a]) (ds ++ [a])
noncomputable def stp (m n : Nat) : Nat := 2 ^ m / 2 ^ (n + 1)
noncomputable def rowS (m k : Nat) : Set1 := fun t => if 0 ≤ t ∧ t < (m : Nat) then k / stp m t.toNat % 2 == 1 else false
noncomputable def tab (m : Nat) (a : Stm) : List Bool := (List.range (2 ^ m)).map fun k => tr a (rowS m k)
noncomputable def RowAt (H : Hp) (v : V) (m : Nat) (a : Stm) : Prop := ∃ p, v = .ref p ∧ H p = some (.lst ((tab m a).map V.bl))
theorem mapP_mem {α β : Type} {F G : α → β → Prop} {xs : List α} {as : List β} (h : Paired F xs as) (k : ∀ x a, x ∈ xs → F x a → G x a) : Paired G xs as := by
  induction h with
  | nil => exact .nil
  | cons r t ih => exact .cons (k _ _ (List.mem_cons_self ..) r) (ih fun x a hx => k x a (List.mem_cons_of_mem _ hx))
noncomputable def kSw : Stm → Bool | .sw _ => true | _ => false
noncomputable def kNt : Stm → Bool | .nt _ => true | _ => false
noncomputable def kQu : Stm → Bool | .al _ _ => true | .sm _ _ => true | _ => false
noncomputable def kTw : Stm → Bool | .an _ _ => true | .og _ _ => true | _ => false
section
variable {P : Program} {w : World} {K : PySem.W.Frag} {mg : Str → Option Value} {base : Heap}
structure Tb (m : Nat) (H : Hp) (lp lq : Addr) (xs : List V) (a : Stm) (ys : List V) (ds : List Stm) (H2 : Hp) : Prop where
  sm : Same H H2
  lpn : H lp = none
  hp : H2 lp = some (.lst ys)
  hq : H2 lq = some (.lst xs)
  ne : lq ≠ lp
  hst : Sts H2 xs (pre a)
  hr : Paired (fun u d => RowAt H2 u m d ∧ ∀ p, u = .ref p → H p = none ∧ p ≠ lp) ys ds
section
variable {m : Nat} {H H2 H3 : Hp} {lp lq p1 q : Addr} {xs ys zs cs : List V} {a b d : Stm} {ds es : List Stm} {dn e : Bool}
theorem Tb.set {zs' : List V} (t : Tb m H lp lq xs a ys ds H2) (hq : H2 q = some (.lst zs)) (h1 : H q = none) (h2 : q ≠ lp) (h3 : q ≠ lq) (h4 : ∀ u ∈ ys, u ≠ .ref q) : Tb m H lp lq xs a ys ds (upd H2 q (.lst zs')) := by
  have k : Tk H2 _ := Tk.lst (o := .lst zs') hq
  refine ⟨t.sm.mut h1, t.lpn, ?_, ?_, t.ne, t.hst.to k, ?_⟩
  · rw [upd_ne h2.symm]; exact t.hp
  · rw [upd_ne h3.symm]; exact t.hq
  · exact mapP_mem t.hr fun u d hu ⟨⟨p, e, f⟩, g⟩ => ⟨⟨p, e, by rw [upd_ne (fun z => h4 u hu (by rw [e, z]))]; exact f⟩, g⟩
structure Own (H : Hp) (lp lq q : Addr) (ys : List V) : Prop where
  q1 : H q = none
  q2 : q ≠ lp
  q3 : q ≠ lq
  q4 : ∀ u ∈ ys, u ≠ .ref q
structure Tq (m : Nat) (H : Hp) (lp lq : Addr) (xs : List V) (a : Stm) (p1 : Addr) (cs : List V) (b : Stm) (es : List Stm) (dn : Bool) (q : Addr) (zs : List V) (H2 : Hp) : Prop where
  ob : Tb m H lp lq xs a zs (es ++ if dn = true then [] else (kids b).reverse) H2
  hp1 : H2 p1 = some (.tup cs)
  row : H2 q = some (.lst (if dn = true then (tab m b).map V.bl else List.replicate (2 ^ m) (.bl (decide (word b = Str.ofString "yes")))))
  own : Own H lp lq q zs
theorem Tq.no (t : Tq m H lp lq xs a p1 cs b es dn q zs H2) (h : ¬ e = true) : Tq m H lp lq xs a p1 cs b es (dn || e) q zs H2 := by
  rw [show e = false by simpa using h, Bool.or_false]; exact t
theorem Tq.op (t : Tq m H lp lq xs a p1 cs b es dn q zs H2) (h : dn = false) : Tb m H lp lq xs a zs (es ++ (kids b).reverse) H2 ∧ H2 q = some (.lst (List.replicate (2 ^ m) (.bl (decide (word b = Str.ofString "yes"))))) := by
  obtain ⟨a, _, c, _⟩ := t
  rw [h] at a c
  exact ⟨a, c⟩
end
inductive TrInv (m : Nat) (H : Hp) (v : V) (lp lq : Addr) (xs : List V) (a : Stm) (i : Nat) (σ : St) (H2 : Hp) : Prop
  | mk (ys : List V) (ds : List Stm) (o4 o5 o6 o7 o8 o9 o10 : Option V) (h0 : σ = [some v, some (.int (m : Nat)), some (.int ((2 ^ m : Nat) : Int)), some (.ref lp), o4, o5, o6, o7, o8, o9, o10]) (h1 : Tb m H lp lq xs a ys ds H2) (h2 : Back ((pre a).reverse.take i) ds) : TrInv m H v lp lq xs a i σ H2
end
theorem rd_forR2 {g : TG} {tb : TS} {ta : TA} {D : Ends} {σ : St} {H : Hp} : tFor (iRng2 ta) g tb D σ H = ta σ H fun vs H1 => ∃ i j : Int, vs = [.int i, .int j] ∧ (-(2 ^ 62) ≤ i ∧ i < 2 ^ 62 ∧ -(2 ^ 62) ≤ j ∧ j < 2 ^ 62) ∧ tForIn (Itr i (j - i).toNat) g tb D σ H1 := rfl
end Nt
end CN
end
section
set_option Elab.async false
set_option linter.all false
set_option maxRecDepth 100000
set_option maxHeartbeats 4000000
namespace CN
open PySem L2
namespace Nt
structure Og (F : Stm → Stm) (H : Hp) (lp lq : Addr) (xs : List V) (a : Stm) (ys : List V) (ds : List Stm) (H2 : Hp) : Prop where
  sm : Same H H2
  lpn : H lp = none
  hp : H2 lp = some (.lst ys)
  hq : H2 lq = some (.lst xs)
  ne : lq ≠ lp
  hst : Sts H2 xs (pre a)
  hr : Sts H2 ys (ds.map F)
section
variable {F : Stm → Stm} {H H2 H3 : Hp} {lp lq p1 : Addr} {xs ys zs cs : List V} {a b d : Stm} {ds es : List Stm} {m : V} {dn e : Bool}
structure Sq (F : Stm → Stm) (H : Hp) (lp lq : Addr) (xs : List V) (a : Stm) (p1 : Addr) (cs : List V) (b : Stm) (es : List Stm) (dn : Bool) (m : V) (zs : List V) (H2 : Hp) : Prop where
  ob : Og F H lp lq xs a zs (es ++ if dn = true then [] else (kids b).reverse) H2
  hp1 : H2 p1 = some (.tup cs)
  hb : IsSt H2 (.ref p1) b
  md : dn = true → IsSt H2 m (F b)
  id : dn = false → m = .ref p1
theorem Sq.no (t : Sq F H lp lq xs a p1 cs b es dn m zs H2) (h : ¬ e = true) : Sq F H lp lq xs a p1 cs b es (dn || e) m zs H2 := by
  rw [show e = false by simpa using h, Bool.or_false]; exact t
theorem Sq.op (t : Sq F H lp lq xs a p1 cs b es dn m zs H2) (h : dn = false) : Og F H lp lq xs a zs (es ++ (kids b).reverse) H2 := by
  have := t.ob
  rw [h] at this
  exact this
end
end Nt
end CN
end
section
set_option Elab.async false
set_option linter.all false
set_option maxRecDepth 100000
set_option maxHeartbeats 4000000
namespace L2
open PySem PySem.Spec PyProof.Rows
mutual
inductive DL (H : Hp) : V → PyData → Prop
  | of {v : V} {d : PyData} : DT H v d → DL H v d
  | lst {a : Addr} {xs : List V} {ds : List PyData} : H a = some (.lst xs) → DLs H xs ds → DL H (.ref a) (.list ds)
  | tup {a : Addr} {xs : List V} {ds : List PyData} : H a = some (.tup xs) → DLs H xs ds → DL H (.ref a) (.tuple ds)
inductive DLs (H : Hp) : List V → List PyData → Prop
  | nil : DLs H [] []
  | cons {x : V} {d : PyData} {xs : List V} {ds : List PyData} : DL H x d → DLs H xs ds → DLs H (x :: xs) (d :: ds)
end
section
variable {P : Program} {w : World} {H : Hp} {h : Heap}
mutual
theorem dl_reads (ok : HOk P w H h) : ∀ (d : PyData) (v : V) (u : Value), DL H v d → RelV v u → ∃ as, Reads h u d as
  | .none, v, u, x, r => by cases x with | of t => exact dt_reads ok _ v u t r
  | .bool b, v, u, x, r => by cases x with | of t => exact dt_reads ok _ v u t r
  | .int i, v, u, x, r => by cases x with | of t => exact dt_reads ok _ v u t r
  | .str y, v, u, x, r => by cases x with | of t => exact dt_reads ok _ v u t r
  | .tuple ds, v, u, x, r => by
    cases x with
    | of t => exact dt_reads ok _ v u t r
    | @tup a xs _ e xs' =>
      cases (show u = Value.ref a from r)
      obtain ⟨_, its, rv, o, h1, h2, n, h3⟩ := (show ObjOk P w H h a (.tup xs) from ok a _ e)
      obtain ⟨as, q⟩ := dls_reads ok ds xs its xs' rv
      exact ⟨as, .tuple h1 h2 h3 q⟩
  | .list ds, v, u, x, r => by
    cases x with
    | of t => exact dt_reads ok _ v u t r
    | @lst a xs _ e xs' =>
      cases (show u = Value.ref a from r)
      obtain ⟨_, its, n, rv, h1⟩ := (show ObjOk P w H h a (.lst xs) from ok a _ e)
      obtain ⟨as, q⟩ := dls_reads ok ds xs its xs' rv
      exact ⟨_, .list h1 rfl rfl q⟩
  | .dict _, v, u, x, r => by cases x with | of t => exact dt_reads ok _ v u t r
theorem dls_reads (ok : HOk P w H h) : ∀ (ds : List PyData) (vs : List V) (us : List Value), DLs H vs ds → Vals vs us → ∃ as, ReadsAll h us ds as
  | [], vs, us, x, r => by cases x; cases r; exact ⟨_, .nil⟩
  | d :: ds, vs, us, x, r => by
    cases x with
    | cons a b =>
      cases r with
      | cons r1 r2 =>
        obtain ⟨as, q⟩ := dl_reads ok d _ _ a r1
        obtain ⟨bs, q2⟩ := dls_reads ok ds _ _ b r2
        exact ⟨_, .cons q q2⟩
end
end
section
variable {X : Cx} {k : Nat}
end
end L2
namespace CN
open PySem L2
seal L2.PE L2.PT L2.PS L2.PSs L2.PA L2.PPs L2.PW L2.PC L2.PG L2.PGs L2.PI L2.PO L2.PTs
namespace Nt
noncomputable def S1 (P : Addr) (H H' : Hp) : Prop := ∀ b o, H b = some o → b ≠ P → H' b = some o
noncomputable abbrev T1 (P : Addr) (H : Hp) : Prop := TabAt H P (posOf tellS) qTell
section
variable {P1 : Addr} {H H1 H2 : Hp}
theorem S1.trans (a : S1 P1 H H1) (b : S1 P1 H1 H2) : S1 P1 H H2 := fun c o e h1 => b c o (a c o e h1) h1
theorem S1.of (s : Same H H1) : S1 P1 H H1 := fun b o e _ => s b o e
theorem S1.at (a : S1 P1 H H1) (t : T1 P1 H) {b : Addr} {o : HO} (e : H b = some o) (h : ∀ qs, o ≠ .tbl qs) : H1 b = some o := by
  obtain ⟨ps, h1, _⟩ := t
  exact a b _ e (fun z => by rw [z, h1] at e; cases e; exact h _ rfl)
theorem S1.tk (a : S1 P1 H H1) (t : T1 P1 H) : Tk H H1 := fun b xs e => a.at t e fun _ z => by cases z
theorem S1.seq {K : PySem.W.Frag} {a : Addr} {xs : List V} (e : S1 P1 H H1) (t : T1 P1 H) (h : SqL K H a xs) : SqL K H1 a xs := by
  rcases h with (h | ⟨o, h⟩) | h
  · exact .inl (.inl (e.at t h fun _ z => by cases z))
  · exact .inl (.inr ⟨o, e.at t h fun _ z => by cases z⟩)
  · exact .inr h
end
section
variable {P : Program} {w : World} {K : PySem.W.Frag} {mg : Str → Option Value} {base : Heap}
end
end Nt
end CN
end
section
set_option Elab.async false
set_option linter.all false
namespace CN
namespace Nt
noncomputable def ren (f : Int → Int) : Stm → Stm
  | .yes => .yes | .no => .no | .sw n => .sw (f n)
  | .nt a => .nt (ren f a)
  | .an a b => .an (ren f a) (ren f b)
  | .og a b => .og (ren f a) (ren f b)
  | .al n a => .al (f n) (ren f a)
  | .sm n a => .sm (f n) (ren f a)
noncomputable def Rise (ns : List Int) : Prop := ns.Pairwise (· < ·) ∧ ∀ n ∈ ns, 0 ≤ n
noncomputable def nth (ns : List Int) (t : Int) : Int := ns.getD t.toNat 0
theorem nth_get {ns : List Int} {t : Int} (h1 : 0 ≤ t) (h2 : t < (ns.length : Nat)) : ns[t.toNat]? = some (nth ns t) := by
  have : t.toNat < ns.length := by omega
  rw [nth, List.getD_eq_getElem?_getD, List.getElem?_eq_getElem this]; rfl
noncomputable def onR (m k : Nat) : List Int := ((List.range m).filter fun j => rowS m k ((j : Nat) : Int)).map fun j => ((j : Nat) : Int)
end Nt
end CN
end
section
set_option Elab.async false
set_option linter.all false
namespace CN
namespace Nt
noncomputable def onL (l : List Int) : Set1 := fun t => decide (t ∈ l)
noncomputable def sets : Nat → Int → List (List Int)
  | 0, _ => [[]]
  | n + 1, s => sets n (s + 1) ++ (sets n (s + 1)).map (s :: ·)
theorem sets_in : ∀ (n : Nat) (s : Int) (l : List Int), l ∈ sets n s → ∀ t ∈ l, s ≤ t ∧ t < s + (n : Nat)
  | 0, s, l, h, t, ht => by
    rw [sets, List.mem_singleton] at h
    subst h; cases ht
  | n + 1, s, l, h, t, ht => by
    rcases List.mem_append.mp h with h | h
    · have := sets_in n (s + 1) l h t ht; omega
    · obtain ⟨l', h', rfl⟩ := List.mem_map.mp h
      rcases List.mem_cons.mp ht with rfl | ht
      · omega
      · have := sets_in n (s + 1) l' h' t ht; omega
noncomputable def hits (n : Nat) (s : Int) (φ : Set1 → Bool) : List (List Int) := (sets n s).filter fun l => φ (onL l)
noncomputable def wct (n : Nat) (s : Int) (φ : Set1 → Bool) : Nat := (hits n s φ).length
theorem onL_off {l : List Int} {s : Int} (h : ∀ t ∈ l, s < t) : onL l = put (onL l) s false := by
  funext t
  unfold put
  by_cases e : t = s
  · rw [if_pos e]; unfold onL; rw [decide_eq_false_iff_not]; intro m; have := h t m; omega
  · rw [if_neg e]
theorem onL_on {l : List Int} {s : Int} : onL (s :: l) = put (onL l) s true := by
  funext t
  unfold put onL
  by_cases e : t = s
  · rw [if_pos e]; simp [e]
  · rw [if_neg e]; simp [e]
theorem hits_succ (n : Nat) (s : Int) (φ : Set1 → Bool) : hits (n + 1) s φ = hits n (s + 1) (fun ρ => φ (put ρ s false)) ++ (hits n (s + 1) (fun ρ => φ (put ρ s true))).map (s :: ·) := by
  unfold hits
  rw [sets, List.filter_append, List.filter_map]
  congr 1
  · refine List.filter_congr fun l hl => ?_
    show φ (onL l) = φ (put (onL l) s false)
    rw [← onL_off fun t ht => by have := sets_in n (s + 1) l hl t ht; omega]
  · congr 1
    refine List.filter_congr fun l hl => ?_
    show φ (onL (s :: l)) = φ (put (onL l) s true)
    rw [onL_on]
theorem wct_succ (n : Nat) (s : Int) (φ : Set1 → Bool) : wct (n + 1) s φ = wct n (s + 1) (fun ρ => φ (put ρ s false)) + wct n (s + 1) (fun ρ => φ (put ρ s true)) := by
  unfold wct; rw [hits_succ, List.length_append, List.length_map]
theorem wct_congr {n : Nat} {s : Int} {φ ψ : Set1 → Bool} (h : ∀ ρ, φ ρ = ψ ρ) : wct n s φ = wct n s ψ := by
  rw [show φ = ψ from funext h]
theorem wct_skip (n : Nat) (φ : Set1 → Bool) : ∀ (j : Nat) (s : Int), (∀ t, s ≤ t → t < s + (j : Nat) → ∀ ρ b, φ (put ρ t b) = φ ρ) → wct (n + j) s φ = wct n (s + (j : Nat)) φ * 2 ^ j
  | 0, s, _ => by rw [Nat.pow_zero, Nat.mul_one, Nat.add_zero, show s + ((0 : Nat) : Int) = s by omega]
  | j + 1, s, h => by
    have i := wct_skip n φ j (s + 1) fun t h1 h2 => h t (by omega) (by omega)
    rw [← Nat.add_assoc, wct_succ, wct_congr (fun ρ => h s (by omega) (by omega) ρ false), wct_congr (fun ρ => h s (by omega) (by omega) ρ true), i, show s + 1 + ((j : Nat) : Int) = s + ((j + 1 : Nat) : Int) by omega, Nat.pow_succ, ← Nat.mul_assoc, Nat.mul_two]
noncomputable def lev (ns : List Nd) (c : Nat) (p : Nat) : Int := if p < 2 then c else match ns[p - 2]? with
  | none => c
  | some nd => if nd.sw < c then nd.sw else c
theorem lev_le (ns : List Nd) (c p : Nat) : lev ns c p ≤ c := by
  unfold lev; split
  · omega
  · split
    · omega
    · split <;> omega
theorem lev_above {ns : List Nd} {c p : Nat} (h : Pl ns p) : Above ns (lev ns c p - 1) p := by
  by_cases p2 : p < 2
  · exact .inl p2
  · obtain ⟨nd, e, _⟩ := node_of h p2
    refine .inr ⟨nd, e, ?_⟩
    unfold lev; rw [if_neg p2, e]; simp only; split <;> omega
theorem above_lev {ns : List Nd} {c p : Nat} {s : Int} (h : Above ns (s - 1) p) (hs : s ≤ c) : s ≤ lev ns c p := by
  unfold lev
  rcases h with h | ⟨nd, e, h⟩
  · rw [if_pos h]; exact hs
  · split
    · exact hs
    · rw [e]; simp only; split <;> omega
theorem val_put {ns : List Nd} (N : Net ns) {p : Nat} {s : Int} (hp : Pl ns p) (h : Above ns s p) {t : Int} (ht : t ≤ s) (ρ : Set1) (b : Bool) : val ns p (put ρ t b) = val ns p ρ :=
  N.indep (fun u hu => by unfold put; rw [if_neg (by omega)]) _ p (Nat.lt_succ_self _) hp h
noncomputable def wys (ns : List Nd) (c p : Nat) : Nat := wct ((c : Int) - lev ns c p).toNat (lev ns c p) (val ns p)
theorem wys_from {ns : List Nd} (N : Net ns) {c p : Nat} (hp : Pl ns p) {s : Int} (ha : Above ns (s - 1) p) (hs : s ≤ c) : wys ns c p * 2 ^ (lev ns c p - s).toNat = wct ((c : Int) - s).toNat s (val ns p) := by
  have h1 := above_lev ha hs
  have h2 := lev_le ns c p
  have k := wct_skip ((c : Int) - lev ns c p).toNat (val ns p) (lev ns c p - s).toNat s fun t t1 t2 ρ b => val_put N hp (lev_above (c := c) hp) (by omega) ρ b
  rw [show ((c : Int) - lev ns c p).toNat + (lev ns c p - s).toNat = ((c : Int) - s).toNat by omega, show s + (((lev ns c p - s).toNat : Nat) : Int) = lev ns c p by omega] at k
  exact k.symm
theorem wys_no (ns : List Nd) (c : Nat) : wys ns c 0 = 0 := by
  have e : lev ns c 0 = c := by unfold lev; rw [if_pos (by decide)]
  unfold wys
  rw [e, Int.sub_self]
  show ((sets 0 _).filter _).length = 0
  simp [sets, val_no]
theorem wys_yes (ns : List Nd) (c : Nat) : wys ns c 1 = 1 := by
  have e : lev ns c 1 = c := by unfold lev; rw [if_pos (by decide)]
  unfold wys
  rw [e, Int.sub_self]
  show ((sets 0 _).filter _).length = 1
  simp [sets, val_yes]
theorem wys_node {ns : List Nd} (N : Net ns) {c p : Nat} {nd : Nd} (e : ns[p - 2]? = some nd) (p2 : ¬ p < 2) (hp : Pl ns p) (h0 : 0 ≤ nd.sw) :
    wys ns c p = if nd.sw < c then wys ns c nd.off * 2 ^ (lev ns c nd.off - (nd.sw + 1)).toNat + wys ns c nd.on * 2 ^ (lev ns c nd.on - (nd.sw + 1)).toNat else wys ns c nd.off := by
  obtain ⟨o1, o2, l1, l2⟩ := N.below hp e p2
  obtain ⟨_, _, _, a1, a2⟩ := N.ord _ _ e
  have el : lev ns c p = if nd.sw < c then nd.sw else c := by unfold lev; rw [if_neg p2, e]
  by_cases h : nd.sw < c
  · rw [if_pos h] at el ⊢
    rw [wys_from N l1 (s := nd.sw + 1) (by rw [Int.add_sub_cancel]; exact a1) (by omega), wys_from N l2 (s := nd.sw + 1) (by rw [Int.add_sub_cancel]; exact a2) (by omega)]
    unfold wys
    rw [el, show ((c : Int) - nd.sw).toNat = ((c : Int) - (nd.sw + 1)).toNat + 1 by omega, wct_succ]
    rw [wct_congr fun ρ => (N.offOn e p2 ρ).1.symm, wct_congr fun ρ => (N.offOn e p2 ρ).2.symm]
  · rw [if_neg h] at el ⊢
    have eo : lev ns c nd.off = c := by
      have := above_lev (c := c) (s := c) (a1.mono (by omega : (c : Int) - 1 ≤ nd.sw)) (Int.le_refl _)
      have := lev_le ns c nd.off
      omega
    unfold wys
    rw [el, eo, Int.sub_self]
    show ((sets 0 _).filter _).length = ((sets 0 _).filter _).length
    have : val ns p (onL []) = val ns nd.off (onL []) := by
      rw [N.at e p2, if_neg (by unfold onL; simp)]
    simp only [sets, List.filter_cons, List.filter_nil, this]
theorem hits_off {ns : List Nd} (N : Net ns) {p : Nat} (hp : Pl ns p) {n : Nat} {s : Int} (ha : Above ns (s - 1) p) {k : Nat} :
    (k < wct n (s + 1) (val ns (stepP ns p s false)) → (hits (n + 1) s (val ns p))[k]? = (hits n (s + 1) (val ns (stepP ns p s false)))[k]?) ∧
    (¬ k < wct n (s + 1) (val ns (stepP ns p s false)) → (hits (n + 1) s (val ns p))[k]? = ((hits n (s + 1) (val ns (stepP ns p s true)))[k - wct n (s + 1) (val ns (stepP ns p s false))]?).map (s :: ·)) := by
  have e1 : (fun ρ => val ns p (put ρ s false)) = val ns (stepP ns p s false) := funext fun ρ => (step_say N hp ha ρ).symm
  have e2 : (fun ρ => val ns p (put ρ s true)) = val ns (stepP ns p s true) := funext fun ρ => (step_say N hp ha ρ).symm
  rw [hits_succ, e1, e2]
  exact ⟨fun h => List.getElem?_append_left h, fun h => by rw [List.getElem?_append_right (by unfold wct at h; omega), List.getElem?_map]; rfl⟩
theorem wct_step {ns : List Nd} (N : Net ns) {p : Nat} (hp : Pl ns p) {n : Nat} {s : Int} (ha : Above ns (s - 1) p) : wct (n + 1) s (val ns p) = wct n (s + 1) (val ns (stepP ns p s false)) + wct n (s + 1) (val ns (stepP ns p s true)) := by
  rw [wct_succ]
  rw [wct_congr fun ρ => (step_say N hp ha ρ).symm, wct_congr fun ρ => (step_say N hp ha ρ).symm]
end Nt
end CN
end
section
set_option Elab.async false
set_option linter.all false
namespace CN
namespace Nt
end Nt
end CN
end
section
set_option Elab.async false
set_option linter.all false
set_option maxRecDepth 100000
set_option maxHeartbeats 4000000
namespace CN
open PySem L2
seal L2.PE L2.PT L2.PS L2.PSs L2.PA L2.PPs L2.PW L2.PC L2.PG L2.PGs L2.PI L2.PO L2.PTs
namespace Nt
noncomputable abbrev s_level : Stmt := top 12
noncomputable abbrev p_level : List Str := ["net", "place", "count"]
theorem sc_level : FnScope ["net", "place", "count"] ["net", "place", "count"] (defScope s_level) := ⟨rfl, rfl, rfl, by decide +kernel, rfl, by decide +kernel, by decide +kernel⟩
noncomputable abbrev s_ways_from : Stmt := top 13
noncomputable abbrev p_ways_from : List Str := ["net", "place", "switch", "count", "ways"]
theorem sc_ways_from : FnScope ["net", "place", "switch", "count", "ways", "number", "passed"] ["net", "place", "switch", "count", "ways"] (defScope s_ways_from) := ⟨rfl, rfl, rfl, by decide +kernel, rfl, by decide +kernel, by decide +kernel⟩
noncomputable abbrev s_all_ways : Stmt := top 14
noncomputable abbrev p_all_ways : List Str := ["net", "count"]
theorem sc_all_ways : FnScope ["net", "count", "ways", "node", "number"] ["net", "count"] (defScope s_all_ways) := ⟨rfl, rfl, rfl, by decide +kernel, rfl, by decide +kernel, by decide +kernel⟩
noncomputable abbrev s_found_way : Stmt := top 15
noncomputable abbrev p_found_way : List Str := ["net", "place", "count", "number"]
theorem sc_found_way : FnScope ["net", "place", "count", "number", "ways", "setting", "switch", "with_off", "off_ways"] ["net", "place", "count", "number"] (defScope s_found_way) := ⟨rfl, rfl, rfl, by decide +kernel, rfl, by decide +kernel, by decide +kernel⟩
theorem lev_nn {ns : List Nd} (h : ∀ nd ∈ ns, 0 ≤ nd.sw) (c p : Nat) : 0 ≤ lev ns c p := by
  unfold lev
  split
  · omega
  · split
    · omega
    · rename_i nd e
      have := h nd (List.mem_of_getElem? e)
      split <;> omega
noncomputable def vNs (l : List Nat) : List V := l.map fun q => V.int (q : Nat)
section
variable {P : Program} {w : World} {K : PySem.W.Frag} {mg : Str → Option Value} {base : Heap}
noncomputable def spLevel (C : Addr) : Sp := fun vs H Q _ => ∃ (a : Adr) (ns : List Nd) (kp : List (List Key × V)) (p c : Nat), vs = [.ref a.p, .int (p : Nat), .int (c : Nat)] ∧ NetAt C H a ns kp ∧ Pl ns p ∧ Q (.int (lev ns c p)) H
theorem ok_level {f C : Addr} {fd : FuncData} (n_min : mg "min" = none) (NT : NTx K C) (D : Df K mg "level" s_level p_level f fd) : FnOk P w K mg base CX0 1 f fd p_level (spLevel C) := by
  refine D.F.ok sc_level (fun vs H Q E h => ?_) (fun cdv A outer s H vs Q E hr h => ?_)
  · obtain ⟨a, ns, kp, p, c, rfl, _⟩ := h
    rfl
  · obtain ⟨a, ns, kp, p, c, rfl, hA, hp, q⟩ := h
    refine ⟨_, (pss_cons (ps_if (pt_cmpR op_lt (pv 1) pe_int (nomark _))
      (pss_one (ps_ret (pv 2)))
      pss_nil)
    (pss_one (ps_ret (pe_callB (call_min2 rfl) (by rfl) n_min bo_min (pa_cons (pe_ix ix_tup (pe_ix ix_list (pe_fldC NT.cl NT.n_nodes (pv 0) (by rfl)) (pe_op op_sub (pv 1) pe_int) (fun _ _ => rfl)) pe_int (fun _ _ => rfl)) (pa_cons (pv 2) pa_nil)))))), ?_⟩
    simp only [rdA, rd_forL, rd_forR, rd_compT, rd_compL, rd_compR, rd_tyes, rd_seq, rd_if, rd_kget, rd_kin, rd_fldP, rd_make, rd_slS, cx_w, cx_w2]
    unfold lev at q
    refine ite2 (fun h => ?_) (fun h => ?_)
    · have h' : ((p : Nat) : Int) < 2 := of_decide_eq_true h
      rw [if_pos (by omega)] at q
      exact q
    · have h' : ¬ ((p : Nat) : Int) < 2 := by simpa using h
      have p2 : ¬ p < 2 := by omega
      obtain ⟨nd, e, _⟩ := node_of hp p2
      rw [if_neg p2, e] at q
      obtain ⟨xs, hx, hxs⟩ := hA.nodes
      obtain ⟨v, hv, t, rfl, ht⟩ := nds_get hxs e
      have hat : atI xs ((p : Nat) - 2 : Int) = some (.ref t) := by
        rw [show ((p : Nat) : Int) - 2 = ((p - 2 : Nat) : Int) by omega]; exact atI_nat hv
      refine ⟨_, _, hA.ob, _, fl_nodes _ _ _ _, ?_⟩
      simp only [rdA, rd_forL, rd_forR, rd_compT, rd_compL, rd_compR, rd_tyes, rd_seq, rd_if, rd_kget, rd_kin, rd_fldP, rd_make, rd_slS, cx_w, cx_w2]
      refine ⟨_, SqL.of hx, _, hat, ?_⟩
      simp only [rdA, rd_forL, rd_forR, rd_compT, rd_compL, rd_compR, rd_tyes, rd_seq, rd_if, rd_kget, rd_kin, rd_fldP, rd_make, rd_slS, cx_w, cx_w2]
      refine ⟨_, SqT.of ht, _, atI0 _ _, ?_⟩
      simp only at q
      refine ⟨_, rfl, ?_⟩
      rw [show (if ((c : Nat) : Int) < nd.sw then ((c : Nat) : Int) else nd.sw) = if nd.sw < (c : Nat) then nd.sw else (c : Nat) by split <;> split <;> omega]
      exact q
noncomputable def spFrom (C : Addr) : Sp := fun vs H Q _ => ∃ (a : Adr) (ns : List Nd) (kp : List (List Key × V)) (p c : Nat) (s : Int) (lw : Addr) (ws : List Nat) (n : Nat), vs = [.ref a.p, .int (p : Nat), .int s, .int (c : Nat), .ref lw] ∧ NetAt C H a ns kp ∧ Pl ns p ∧ H lw = some (.lst (vNs ws)) ∧ ws[p]? = some n ∧ 0 ≤ s ∧ s ≤ 1000000 ∧ c ≤ 1000 ∧ (∀ nd ∈ ns, 0 ≤ nd.sw) ∧
  Q (.int ((n * 2 ^ (lev ns c p - s).toNat : Nat) : Int)) H
inductive FrInv (H : Hp) (pre : St) (n : Nat) (i : Nat) (σ : St) (H2 : Hp) : Prop
  | mk (o6 : Option V) (h0 : σ = pre ++ [some (.int ((n * 2 ^ i : Nat) : Int)), o6]) (h1 : H2 = H) : FrInv H pre n i σ H2
theorem ok_from {f f1 C : Addr} {fd fd1 : FuncData} (BT : Bt mg) (n_min : mg "min" = none) (NT : NTx K C) (D_level : Df K mg "level" s_level p_level f1 fd1) (D : Df K mg "ways_from" s_ways_from p_ways_from f fd) : FnOk P w K mg base CX0 2 f fd p_ways_from (spFrom C) := by
  have G_level : FnOk P w K mg base CX0 1 f1 fd1 p_level (spLevel C) := ok_level n_min NT D_level
  refine D.F.ok sc_ways_from (fun vs H Q E h => ?_) (fun cdv A outer s H vs Q E hr h => ?_)
  · obtain ⟨a, ns, kp, p, c, s, lw, ws, n, rfl, _⟩ := h
    rfl
  · obtain ⟨a, ns, kp, p, c, s, lw, ws, n, rfl, hA, hp, hw, hn, h0, h1, hc, hsw, q⟩ := h
    refine ⟨_, (pss_cons (ps_set (i := 5) sc_ways_from.nd rfl (by first | exact Or.inl rfl | exact Or.inr rfl) (pe_ix ix_list (pv 4) (pv 1) (fun _ _ => rfl)))
    (pss_cons (ps_for PassesOwn.never rfl (pi_range2 (by rfl) BT.n_range (pa_cons (pv 2) (pa_cons (pe_call G_level (hr) (by rfl) D_level.m D_level.F.kp D_level.b .nil pass0 (pa_cons (pv 0) (pa_cons (pv 1) (pa_cons (pv 3) pa_nil)))) pa_nil))) (pg_name (i := 6) sc_ways_from.nd rfl (by first | exact Or.inl rfl | exact Or.inr rfl))
      (pss_one (ps_set (i := 5) sc_ways_from.nd rfl (by first | exact Or.inl rfl | exact Or.inr rfl) (pe_op op_mul (pv 5) pe_int))))
    (pss_one (ps_ret (pv 5))))), ?_⟩
    simp only [rdA, rd_forR2, rd_forL, rd_forR, rd_compT, rd_compL, rd_compR, rd_tyes, rd_seq, rd_if, rd_kget, rd_kin, rd_fldP, rd_make, rd_slS, cx_w, cx_w2]
    refine ⟨_, SqL.of hw, .int (n : Nat), ?_, ?_⟩
    · refine atI_nat ?_
      rw [vNs, List.getElem?_map, hn]; rfl
    refine ⟨a, ns, kp, p, c, rfl, hA, hp, ?_⟩
    have l1 := lev_le ns c p
    have l0 := lev_nn hsw c p
    refine ⟨_, rfl, by omega, by omega, by omega, by omega, ?_⟩
    refine for_range (FrInv H [some (.ref a.p), some (.int (p : Nat)), some (.int s), some (.int (c : Nat)), some (.ref lw)] n) ⟨_, by rw [Nat.pow_zero, Nat.mul_one]; rfl, rfl⟩ ?_ ?_
    · rintro i σ H2 hi ⟨o6, rfl, rfl⟩
      simp only [rdA, rd_forL, rd_forR, rd_compT, rd_compL, rd_compR, rd_tyes, rd_seq, rd_if, rd_kget, rd_kin, rd_fldP, rd_make, rd_slS, cx_w, cx_w2]
      refine ⟨.inr ⟨by decide, by decide⟩, some (.int (s + (i : Nat))), ?_, rfl⟩
      rw [Nat.pow_succ, ← Nat.mul_assoc, Int.natCast_mul (n * 2 ^ i) 2]
      rfl
    · rintro σ H2 ⟨o6, rfl, rfl⟩
      simp only [rdA, rd_forL, rd_forR, rd_compT, rd_compL, rd_compR, rd_tyes, rd_seq, rd_if, rd_kget, rd_kin, rd_fldP, rd_make, rd_slS, cx_w, cx_w2]
      exact q
inductive AwInv (H : Hp) (a : Adr) (c : Nat) (ns : List Nd) (lw : Addr) (i : Nat) (σ : St) (H2 : Hp) : Prop
  | mk (o3 o4 : Option V) (h0 : σ = [some (.ref a.p), some (.int (c : Nat)), some (.ref lw), o3, o4]) (h1 : Same H H2) (h2 : H2 lw = some (.lst (vNs ((List.range (i + 2)).map (wys ns c))))) : AwInv H a c ns lw i σ H2
noncomputable def spAll (C : Addr) : Sp := fun vs H Q _ => ∃ (a : Adr) (ns : List Nd) (kp : List (List Key × V)) (c : Nat), vs = [.ref a.p, .int (c : Nat)] ∧ NetAt C H a ns kp ∧ Net ns ∧ (∀ nd ∈ ns, 0 ≤ nd.sw ∧ nd.sw < 1000000) ∧ c ≤ 1000 ∧ ns.length ≤ 10000000 ∧
  ∀ l H', H l = none → Same H H' → H' l = some (.lst (vNs ((List.range (ns.length + 2)).map (wys ns c)))) → Q (.ref l) H'
theorem ws_at {f : Nat → Nat} {n p : Nat} (h : p < n) : ((List.range n).map f)[p]? = some (f p) := by
  rw [List.getElem?_map, List.getElem?_range h]; rfl
theorem ok_all {f f1 f2 C : Addr} {fd fd1 fd2 : FuncData} (BT : Bt mg) (n_min : mg "min" = none) (NT : NTx K C) (D_level : Df K mg "level" s_level p_level f1 fd1) (D_ways_from : Df K mg "ways_from" s_ways_from p_ways_from f2 fd2) (D : Df K mg "all_ways" s_all_ways p_all_ways f fd) : FnOk P w K mg base CX0 3 f fd p_all_ways (spAll C) := by
  have G_ways_from : FnOk P w K mg base CX0 2 f2 fd2 p_ways_from (spFrom C) := ok_from BT n_min NT D_level D_ways_from
  refine D.F.ok sc_all_ways (fun vs H Q E h => ?_) (fun cdv A outer s H vs Q E hr h => ?_)
  · obtain ⟨a, ns, kp, c, rfl, _⟩ := h
    rfl
  · obtain ⟨a, ns, kp, c, rfl, hA, hN, hsw, hc, hz, q⟩ := h
    refine ⟨_, (pss_cons (ps_set (i := 2) sc_all_ways.nd rfl (by first | exact Or.inl rfl | exact Or.inr rfl) (pe_lst (pa_cons pe_int (pa_cons pe_int pa_nil))))
    (pss_cons (ps_for PassesOwn.never rfl (pi_list (pe_fldC NT.cl NT.n_nodes (pv 0) (by rfl))) (pg_name (i := 3) sc_all_ways.nd rfl (by first | exact Or.inl rfl | exact Or.inr rfl))
      (pss_cons (ps_set (i := 4) sc_all_ways.nd rfl (by first | exact Or.inl rfl | exact Or.inr rfl) (pe_call G_ways_from (hr) (by rfl) D_ways_from.m D_ways_from.F.kp D_ways_from.b .nil pass0 (pa_cons (pv 0) (pa_cons (pe_ix ix_tup (pv 3) pe_int (fun _ _ => rfl)) (pa_cons (pe_op op_add (pe_ix ix_tup (pv 3) pe_int (fun _ _ => rfl)) pe_int) (pa_cons (pv 1) (pa_cons (pv 2) pa_nil)))))))
      (pss_cons (ps_if (pt_cmpR op_lt (pe_ix ix_tup (pv 3) pe_int (fun _ _ => rfl)) (pv 1) (nomark _))
        (pss_one (ps_set (i := 4) sc_all_ways.nd rfl (by first | exact Or.inl rfl | exact Or.inr rfl) (pe_op op_add (pv 4) (pe_call G_ways_from (hr) (by rfl) D_ways_from.m D_ways_from.F.kp D_ways_from.b .nil pass0 (pa_cons (pv 0) (pa_cons (pe_ix ix_tup (pv 3) pe_int (fun _ _ => rfl)) (pa_cons (pe_op op_add (pe_ix ix_tup (pv 3) pe_int (fun _ _ => rfl)) pe_int) (pa_cons (pv 1) (pa_cons (pv 2) pa_nil)))))))))
        pss_nil)
      (pss_one (ps_expr (pe_bm PySem.F.plainAttrs_list PySem.F.slot_list_append PySem.F.type_list_append mt_append (pv 2) (pa_cons (pv 4) pa_nil)))))))
    (pss_one (ps_ret (pv 2))))), ?_⟩
    refine seq_as fun R1 hR1 => ?_
    simp only [rdA, rd_forL, rd_forR, rd_compT, rd_compL, rd_compR, rd_tyes, rd_seq, rd_if, rd_kget, rd_kin, rd_fldP, rd_make, rd_slS, cx_w, cx_w2]
    intro lw hlw
    have s1 := Same.new (o := HO.lst [V.int 0, V.int 1]) hlw
    have hA1 := hA.same s1
    obtain ⟨xs, hx, hxs⟩ := hA.nodes
    have hxl : xs.length = ns.length := Paired.length hxs
    have hw0 := @upd_same H lw (HO.lst [V.int 0, V.int 1])
    rw [show [V.int 0, V.int 1] = vNs ((List.range (0 + 2)).map (wys ns c)) by
      rw [show List.range (0 + 2) = [0, 1] from rfl, List.map_cons, List.map_cons, List.map_nil, wys_no, wys_yes]; rfl] at *
    generalize upd H lw (HO.lst (vNs ((List.range (0 + 2)).map (wys ns c)))) = H1 at *
    subst hR1
    refine seq_as fun R1 hR1 => ?_
    simp only [rdA, rd_forL, rd_forR, rd_compT, rd_compL, rd_compR, rd_tyes, rd_seq, rd_if, rd_kget, rd_kin, rd_fldP, rd_make, rd_slS, cx_w, cx_w2]
    refine ⟨_, _, hA1.ob, _, fl_nodes _ _ _ _, _, rfl, ⟨_, SqL.of (s1 _ _ hx)⟩, ?_⟩
    refine for_list (K := K) (a := a.ln) (xs := xs) (AwInv H a c ns lw) ⟨none, none, rfl, s1, hw0⟩ (fun i σ H2 _ h => by obtain ⟨_, _, _, h, _⟩ := h; exact SqL.of (h _ _ hx)) ?_ ?_
    · rintro i y σ H2 hi ⟨o3, o4, rfl, sm, hw⟩
      have hil : i < ns.length := by have := (List.getElem?_eq_some_iff.mp hi).1; omega
      have hge : ns[i]? = some ns[i] := List.getElem?_eq_getElem hil
      obtain ⟨v', hv, t, rfl, ht⟩ := nds_get hxs hge
      rw [hi] at hv
      cases hv
      generalize ns[i] = nd at hge ht
      obtain ⟨o1, o2, _⟩ := hN.ord _ _ hge
      obtain ⟨w0, w1⟩ := hsw nd (List.mem_of_getElem? hge)
      have ht2 := sm _ _ ht
      have hA2 := hA.same sm
      have hnn : ∀ nd ∈ ns, 0 ≤ nd.sw := fun nd h => (hsw nd h).1
      have hwn := wys_node (p := i + 2) (c := c) hN (by rw [Nat.add_sub_cancel]; exact hge) (by omega) (by unfold Pl; omega) w0
      simp only [rd_name, List.set_cons_succ, List.set_cons_zero]
      clear hR1 hw0 hA1 s1
      refine seq_as fun R2 hR2 => ?_
      simp only [rdA, rd_forL, rd_forR, rd_compT, rd_compL, rd_compR, rd_tyes, rd_seq, rd_if, rd_kget, rd_kin, rd_fldP, rd_make, rd_slS, cx_w, cx_w2]
      refine ⟨_, SqT.of ht2, _, atI1 _ _ _, _, SqT.of ht2, _, atI0 _ _, ?_⟩
      simp only [rdA, rd_forL, rd_forR, rd_compT, rd_compL, rd_compR, rd_tyes, rd_seq, rd_if, rd_kget, rd_kin, rd_fldP, rd_make, rd_slS, cx_w, cx_w2]
      refine ⟨a, ns, kp, nd.off, c, nd.sw + 1, lw, _, wys ns c nd.off, rfl, hA2, by unfold Pl; omega, hw, ws_at o1, by omega, by omega, hc, hnn, ?_⟩
      subst hR2
      refine seq_as fun R2 hR2 => ?_
      have g1 : ∀ n : Nat, n = wys ns c (i + 2) → R2 [some (.ref a.p), some (.int (c : Nat)), some (.ref lw), some (.ref t), some (.int (n : Nat))] H2 := by
        intro n hn
        subst hR2
        simp only [rdA, rd_forL, rd_forR, rd_compT, rd_compL, rd_compR, rd_tyes, rd_seq, rd_if, rd_kget, rd_kin, rd_fldP, rd_make, rd_slS, cx_w, cx_w2]
        refine ⟨⟨_, SqL.of hw⟩, _, hw, Nat.lt_of_le_of_lt (by unfold vNs; rw [List.length_map, List.length_map, List.length_range]; omega : _ ≤ 10000002) (by decide), _, _, rfl, sm.mut hlw, ?_⟩
        rw [upd_same, hn]
        congr 2
        rw [show i + 1 + 2 = (i + 2) + 1 by omega, List.range_succ (n := i + 2)]
        unfold vNs
        rw [List.map_append, List.map_append]
        rfl
      simp only [rdA, rd_forL, rd_forR, rd_compT, rd_compL, rd_compR, rd_tyes, rd_seq, rd_if, rd_kget, rd_kin, rd_fldP, rd_make, rd_slS, cx_w, cx_w2]
      refine ⟨_, SqT.of ht2, _, atI0 _ _, ?_⟩
      simp only [rdA, rd_forL, rd_forR, rd_compT, rd_compL, rd_compR, rd_tyes, rd_seq, rd_if, rd_kget, rd_kin, rd_fldP, rd_make, rd_slS, cx_w, cx_w2]
      refine ite2 (fun h => ?_) (fun h => ?_)
      · have h' : nd.sw < (c : Nat) := of_decide_eq_true h
        refine ⟨_, SqT.of ht2, _, atI2 _ _ _ _, _, SqT.of ht2, _, atI0 _ _, ?_⟩
        simp only [rdA, rd_forL, rd_forR, rd_compT, rd_compL, rd_compR, rd_tyes, rd_seq, rd_if, rd_kget, rd_kin, rd_fldP, rd_make, rd_slS, cx_w, cx_w2]
        refine ⟨a, ns, kp, nd.on, c, nd.sw + 1, lw, _, wys ns c nd.on, rfl, hA2, by unfold Pl; omega, hw, ws_at o2, by omega, by omega, hc, hnn, ?_⟩
        simp only [rdA, rd_forL, rd_forR, rd_compT, rd_compL, rd_compR, rd_tyes, rd_seq, rd_if, rd_kget, rd_kin, rd_fldP, rd_make, rd_slS, cx_w, cx_w2]
        rw [if_pos h'] at hwn
        rw [← Int.natCast_add]
        exact g1 _ hwn.symm
      · have h' : ¬ nd.sw < (c : Nat) := by simpa using h
        rw [if_neg h'] at hwn
        have hl := lev_le ns c nd.off
        refine g1 _ ?_
        rw [hwn, show (lev ns c nd.off - (nd.sw + 1)).toNat = 0 by omega, Nat.pow_zero, Nat.mul_one]
    · rintro σ H2 ⟨o3, o4, rfl, sm, hw⟩
      rw [hxl] at hw
      subst hR1
      simp only [rdA, rd_forL, rd_forR, rd_compT, rd_compL, rd_compR, rd_tyes, rd_seq, rd_if, rd_kget, rd_kin, rd_fldP, rd_make, rd_slS, cx_w, cx_w2]
      exact q lw H2 hlw sm hw
noncomputable def spFound (C : Addr) : Sp := fun vs H Q _ => ∃ (a : Adr) (ns : List Nd) (kp : List (List Key × V)) (p c : Nat) (k : Int), vs = [.ref a.p, .int (p : Nat), .int (c : Nat), .int k] ∧ NetAt C H a ns kp ∧ Net ns ∧ Pl ns p ∧ (∀ nd ∈ ns, 0 ≤ nd.sw ∧ nd.sw < 1000000) ∧ c ≤ 1000 ∧ ns.length ≤ 10000000 ∧
  (∀ H', Same H H' → ¬ (0 ≤ k ∧ k < (wct c 0 (val ns p) : Nat)) → Q .non H') ∧
  ∀ l (is : List Int) H', H l = none → Same H H' → 0 ≤ k → (hits c 0 (val ns p))[k.toNat]? = some is → H' l = some (.lst (is.map V.int)) → Q (.ref l) H'
inductive FwInv (H : Hp) (pre : Option V) (ns : List Nd) (p0 c k0 : Nat) (lw ls : Addr) (i : Nat) (σ : St) (H2 : Hp) : Prop
  | mk (p k : Nat) (is : List Int) (o6 o7 o8 : Option V) (h0 : σ = [pre, some (.int (p : Nat)), some (.int (c : Nat)), some (.int (k : Nat)), some (.ref lw), some (.ref ls), o6, o7, o8]) (h1 : Same H H2) (h2 : H2 ls = some (.lst (is.map V.int))) (h3 : H2 lw = some (.lst (vNs ((List.range (ns.length + 2)).map (wys ns c))))) (h4 : Pl ns p) (h5 : Above ns ((i : Nat) - 1 : Int) p) (h6 : k < wct (c - i) (i : Nat) (val ns p)) (h7 : (hits c 0 (val ns p0))[k0]? = ((hits (c - i) (i : Nat) (val ns p))[k]?).map (is ++ ·)) (h8 : is.length ≤ i) : FwInv H pre ns p0 c k0 lw ls i σ H2
theorem ok_found {f f1 f2 f3 f4 C : Addr} {fd fd1 fd2 fd3 fd4 : FuncData} (BT : Bt mg) (n_min : mg "min" = none) (NT : NTx K C) (D_level : Df K mg "level" s_level p_level f1 fd1) (D_ways_from : Df K mg "ways_from" s_ways_from p_ways_from f2 fd2) (D_all_ways : Df K mg "all_ways" s_all_ways p_all_ways f3 fd3)
    (m_step : Meth K C "step" f4) (b_step : Binds K fd4 p_Net_step []) (G4 : FnOk P w K mg base CX0 1 f4 fd4 p_Net_step (spStep C)) (D : Df K mg "found_way" s_found_way p_found_way f fd) : FnOk P w K mg base CX0 4 f fd p_found_way (spFound C) := by
  have G2 : FnOk P w K mg base CX0 2 f2 fd2 p_ways_from (spFrom C) := ok_from BT n_min NT D_level D_ways_from
  have G_ways_from := G2.mono (show 2 ≤ 3 by decide)
  have G_all_ways : FnOk P w K mg base CX0 3 f3 fd3 p_all_ways (spAll C) := ok_all BT n_min NT D_level D_ways_from D_all_ways
  have G_step := G4.mono (show 1 ≤ 3 by decide)
  refine D.F.ok sc_found_way (fun vs H Q E h => ?_) (fun cdv A outer s H vs Q E hr h => ?_)
  · obtain ⟨a, ns, kp, p, c, k, rfl, _⟩ := h
    rfl
  · obtain ⟨a, ns, kp, p, c, k, rfl, hA, hN, hp, hsw, hc, hz, qn, q⟩ := h
    refine ⟨_, (pss_cons (ps_set (i := 4) sc_found_way.nd rfl (by first | exact Or.inl rfl | exact Or.inr rfl) (pe_call G_all_ways (hr) (by rfl) D_all_ways.m D_all_ways.F.kp D_all_ways.b .nil pass0 (pa_cons (pv 0) (pa_cons (pv 2) pa_nil))))
    (pss_cons (ps_if (PW.pt (pw_or (pt_cmpR op_lt (pv 3) pe_int (nomark _)) (pw_or1 (pt_cmpR op_ge (pv 3) (pe_call G_ways_from (hr) (by rfl) D_ways_from.m D_ways_from.F.kp D_ways_from.b .nil pass0 (pa_cons (pv 0) (pa_cons (pv 1) (pa_cons pe_int (pa_cons (pv 2) (pa_cons (pv 4) pa_nil)))))) (nomark _)))))
      (pss_one (ps_ret pe_non))
      pss_nil)
    (pss_cons (ps_set (i := 5) sc_found_way.nd rfl (by first | exact Or.inl rfl | exact Or.inr rfl) (pe_lst pa_nil))
    (pss_cons (ps_for PassesOwn.never rfl (pi_range1 (by rfl) BT.n_range (pa_cons (pv 2) pa_nil)) (pg_name (i := 6) sc_found_way.nd rfl (by first | exact Or.inl rfl | exact Or.inr rfl))
      (pss_cons (ps_set (i := 7) sc_found_way.nd rfl (by first | exact Or.inl rfl | exact Or.inr rfl) (pe_meth (pv 0) NT.cl m_step G_step (hr) b_step .nil pass0 (pa_cons (pv 1) (pa_cons (pv 6) (pa_cons pe_bl pa_nil)))))
      (pss_cons (ps_set (i := 8) sc_found_way.nd rfl (by first | exact Or.inl rfl | exact Or.inr rfl) (pe_call G_ways_from (hr) (by rfl) D_ways_from.m D_ways_from.F.kp D_ways_from.b .nil pass0 (pa_cons (pv 0) (pa_cons (pv 7) (pa_cons (pe_op op_add (pv 6) pe_int) (pa_cons (pv 2) (pa_cons (pv 4) pa_nil)))))))
      (pss_one (ps_if (pt_cmpR op_lt (pv 3) (pv 8) (nomark _))
        (pss_one (ps_set (i := 1) sc_found_way.nd rfl (by first | exact Or.inl rfl | exact Or.inr rfl) (pv 7)))
        (pss_cons (ps_set (i := 3) sc_found_way.nd rfl (by first | exact Or.inl rfl | exact Or.inr rfl) (pe_op op_sub (pv 3) (pv 8)))
        (pss_cons (ps_expr (pe_bm PySem.F.plainAttrs_list PySem.F.slot_list_append PySem.F.type_list_append mt_append (pv 5) (pa_cons (pv 6) pa_nil)))
        (pss_one (ps_set (i := 1) sc_found_way.nd rfl (by first | exact Or.inl rfl | exact Or.inr rfl) (pe_meth (pv 0) NT.cl m_step G_step (hr) b_step .nil pass0 (pa_cons (pv 1) (pa_cons (pv 6) (pa_cons pe_bl pa_nil)))))))))))))
    (pss_one (ps_ret (pv 5))))))), ?_⟩
    have hnn : ∀ nd ∈ ns, 0 ≤ nd.sw := fun nd h => (hsw nd h).1
    refine seq_as fun R1 hR1 => ?_
    simp only [rdA, rd_forL, rd_forR, rd_compT, rd_compL, rd_compR, rd_tyes, rd_seq, rd_if, rd_kget, rd_kin, rd_fldP, rd_make, rd_slS, cx_w, cx_w2]
    refine ⟨a, ns, kp, c, rfl, hA, hN, hsw, hc, hz, fun lw H1 hlw s1 hw => ?_⟩
    have hA1 := hA.same s1
    have ab0 : Above ns ((0 : Int) - 1) p := by
      by_cases p2 : p < 2
      · exact .inl p2
      · obtain ⟨nd, e, _⟩ := node_of hp p2
        exact .inr ⟨nd, e, by have := hnn nd (List.mem_of_getElem? e); omega⟩
    have hwf := wys_from hN (c := c) hp ab0 (by omega)
    rw [Int.sub_zero, Int.sub_zero, Int.toNat_natCast] at hwf
    subst hR1
    refine seq_as fun R1 hR1 => ?_
    simp only [rdA, rd_forL, rd_forR, rd_compT, rd_compL, rd_compR, rd_tyes, rd_seq, rd_if, rd_kget, rd_kin, rd_fldP, rd_make, rd_slS, cx_w, cx_w2]
    have g0 : ¬ (0 ≤ k ∧ k < (wct c 0 (val ns p) : Nat)) → Q .non H1 := qn H1 s1
    refine ite2 (fun h => g0 (by have : k < 0 := of_decide_eq_true h; omega)) (fun h => ?_)
    have hk0 : ¬ k < 0 := by simpa using h
    refine ⟨a, ns, kp, p, c, 0, lw, _, wys ns c p, rfl, hA1, hp, hw, ws_at hp, Int.le_refl _, by decide, hc, hnn, ?_⟩
    rw [Int.sub_zero, hwf]
    simp only [rdA, rd_forL, rd_forR, rd_compT, rd_compL, rd_compR, rd_tyes, rd_seq, rd_if, rd_kget, rd_kin, rd_fldP, rd_make, rd_slS, cx_w, cx_w2]
    refine ite2 (fun h2 => g0 (by have : ((wct c 0 (val ns p) : Nat) : Int) ≤ k := of_decide_eq_true h2; omega)) (fun h2 => ?_)
    have hkW : ¬ ((wct c 0 (val ns p) : Nat) : Int) ≤ k := by simpa using h2
    obtain ⟨k0, rfl⟩ := Int.eq_ofNat_of_zero_le (by omega : 0 ≤ k)
    clear g0 qn h h2 hk0 hwf
    subst hR1
    refine seq_as fun R1 hR1 => ?_
    simp only [rdA, rd_forL, rd_forR, rd_compT, rd_compL, rd_compR, rd_tyes, rd_seq, rd_if, rd_kget, rd_kin, rd_fldP, rd_make, rd_slS, cx_w, cx_w2]
    intro ls hls
    have s2 := Same.new (o := HO.lst []) hls
    have nls : lw ≠ ls := ne_of_none hw hls
    have hls0 : H ls = none := s1.free hls
    have hs2 := @upd_same H1 ls (HO.lst [])
    replace hw := s2 _ _ hw
    replace s2 := s1.trans s2
    generalize upd H1 ls (HO.lst []) = H2 at hw s2 hs2 ⊢
    clear hA1 s1 hls
    subst hR1
    refine seq_as fun R1 hR1 => ?_
    simp only [rdA, rd_forL, rd_forR, rd_compT, rd_compL, rd_compR, rd_tyes, rd_seq, rd_if, rd_kget, rd_kin, rd_fldP, rd_make, rd_slS, cx_w, cx_w2]
    refine ⟨by omega, by omega, ?_⟩
    rw [Int.toNat_natCast]
    refine for_range (lo := 0) (n := c) (FwInv H (some (.ref a.p)) ns p c k0 lw ls) ⟨p, k0, [], none, none, none, rfl, s2, hs2, hw, hp, ab0, by rw [Nat.sub_zero]; show k0 < wct c 0 _; omega, by rw [Nat.sub_zero]; show _ = ((hits c 0 (val ns p))[k0]?).map _; cases (hits c 0 (val ns p))[k0]? <;> rfl, Nat.le_refl _⟩ ?_ ?_
    · clear hs2 s2 hw ab0 hkW
      rintro i σ H3 hi ⟨pi, ki, is, o6, o7, o8, rfl, sm, hls3, hw3, hpi, abi, hki, hit, hil⟩
      have hA3 := hA.same sm
      simp only [rd_name, List.set_cons_succ, List.set_cons_zero, Int.zero_add]
      clear hR1
      refine seq_as fun R2 hR2 => ?_
      simp only [rdA, rd_forL, rd_forR, rd_compT, rd_compL, rd_compR, rd_tyes, rd_seq, rd_if, rd_kget, rd_kin, rd_fldP, rd_make, rd_slS, cx_w, cx_w2]
      refine ⟨_, _, hA3.ob, ?_, a, ns, kp, pi, (i : Nat), false, rfl, hA3, hpi, ?_⟩
      · rfl
      subst hR2
      refine seq_as fun R2 hR2 => ?_
      simp only [rdA, rd_forL, rd_forR, rd_compT, rd_compL, rd_compR, rd_tyes, rd_seq, rd_if, rd_kget, rd_kin, rd_fldP, rd_make, rd_slS, cx_w, cx_w2]
      have hpo : Pl ns (stepP ns pi (i : Nat) false) := step_pl hN hpi
      have hpn : Pl ns (stepP ns pi (i : Nat) true) := step_pl hN hpi
      have abo : Above ns (i : Nat) (stepP ns pi (i : Nat) false) := step_above hN hpi abi
      have abn : Above ns (i : Nat) (stepP ns pi (i : Nat) true) := step_above hN hpi abi
      refine ⟨a, ns, kp, stepP ns pi (i : Nat) false, c, ((i : Nat) : Int) + 1, lw, _, wys ns c (stepP ns pi (i : Nat) false), rfl, hA3, hpo, hw3, ws_at hpo, by omega, by omega, hc, hnn, ?_⟩
      have e1 := wys_from hN (c := c) (s := ((i : Nat) : Int) + 1) hpo (by rw [Int.add_sub_cancel]; exact abo) (by omega)
      rw [show (((c : Nat) : Int) - (((i : Nat) : Int) + 1)).toNat = c - (i + 1) by omega] at e1
      rw [e1]
      obtain ⟨n, hn⟩ : ∃ n, c - (i + 1) = n := ⟨_, rfl⟩
      rw [show c - i = n + 1 by omega] at hki hit
      rw [hn]
      obtain ⟨f1, f2⟩ := hits_off hN hpi (n := n) (k := ki) abi
      have f3 := wct_step hN hpi (n := n) abi
      have hcast : ((i + 1 : Nat) : Int) = ((i : Nat) : Int) + 1 := Int.natCast_add i 1
      subst hR2
      simp only [rdA, rd_forL, rd_forR, rd_compT, rd_compL, rd_compR, rd_tyes, rd_seq, rd_if, rd_kget, rd_kin, rd_fldP, rd_make, rd_slS, cx_w, cx_w2]
      refine ite2 (fun h => ?_) (fun h => ?_)
      · have h' : ki < wct n (((i : Nat) : Int) + 1) (val ns (stepP ns pi (i : Nat) false)) := by have := of_decide_eq_true h; omega
        refine ⟨_, ki, is, _, _, _, rfl, sm, hls3, hw3, hpo, by rw [hcast, Int.add_sub_cancel]; exact abo, by rw [hn, hcast]; exact h', ?_, by omega⟩
        rw [hn, hcast, hit, f1 h']
      · have h' : ¬ ki < wct n (((i : Nat) : Int) + 1) (val ns (stepP ns pi (i : Nat) false)) := by
          have : ¬ ((ki : Nat) : Int) < ((wct n (((i : Nat) : Int) + 1) (val ns (stepP ns pi (i : Nat) false)) : Nat) : Int) := by simpa using h
          omega
        have hkl : (is.map V.int).length < sizeLine := small1000 (by rw [List.length_map]; omega)
        have hsub : ((ki : Nat) : Int) - ((wct n (((i : Nat) : Int) + 1) (val ns (stepP ns pi (i : Nat) false)) : Nat) : Int) = ((ki - wct n (((i : Nat) : Int) + 1) (val ns (stepP ns pi (i : Nat) false)) : Nat) : Int) := by omega
        rw [hsub]
        refine ⟨⟨_, SqL.of hls3⟩, _, hls3, hkl, ?_⟩
        have s4 : Same H (upd H3 ls (HO.lst (is.map V.int ++ [V.int (i : Nat)]))) := sm.mut hls0
        have hA4 := hA.same s4
        refine ⟨_, _, hA4.ob, ?_, a, ns, kp, pi, (i : Nat), true, rfl, hA4, hpi, ?_⟩
        · rfl
        refine ⟨_, _, is ++ [((i : Nat) : Int)], _, _, _, rfl, s4, by rw [upd_same, List.map_append]; rfl, (upd_ne nls).trans hw3, hpn, by rw [hcast, Int.add_sub_cancel]; exact abn, by rw [hn, hcast]; omega, ?_, by rw [List.length_append]; simp only [List.length_singleton]; omega⟩
        rw [hn, hcast, hit, f2 h']
        cases (hits n (((i : Nat) : Int) + 1) (val ns (stepP ns pi (i : Nat) true)))[ki - wct n (((i : Nat) : Int) + 1) (val ns (stepP ns pi (i : Nat) false))]? with
        | none => rfl
        | some l => simp
    · rintro σ H3 ⟨pi, ki, is, o6, o7, o8, rfl, sm, hls3, hw3, hpi, abi, hki, hit, hil⟩
      subst hR1
      simp only [rdA, rd_forL, rd_forR, rd_compT, rd_compL, rd_compR, rd_tyes, rd_seq, rd_if, rd_kget, rd_kin, rd_fldP, rd_make, rd_slS, cx_w, cx_w2]
      rw [Nat.sub_self] at hit hki
      have e0 : (hits 0 (c : Nat) (val ns pi))[ki]? = some [] := by
        unfold wct hits at hki
        unfold hits
        simp only [sets, List.filter_cons, List.filter_nil] at hki ⊢
        split at hki
        · rename_i hv
          simp only [List.length_singleton] at hki
          have : ki = 0 := by omega
          subst this
          rw [if_pos hv]; rfl
        · simp at hki
      rw [e0] at hit
      refine q ls is H3 hls0 sm (by omega) ?_ hls3
      rw [Int.toNat_natCast, hit]
      simp
end
end Nt
end CN
end
section
set_option Elab.async false
set_option linter.all false
set_option maxRecDepth 100000
set_option maxHeartbeats 4000000
namespace CN
open PySem L2
seal L2.PE L2.PT L2.PS L2.PSs L2.PA L2.PPs L2.PW L2.PC L2.PG L2.PGs L2.PI L2.PO L2.PTs
namespace Nt
noncomputable abbrev s_how_many : Stmt := top 16
noncomputable abbrev p_how_many : List Str := ["statement", "count"]
theorem sc_how_many : FnScope ["statement", "count", "net", "place"] ["statement", "count"] (defScope s_how_many) := ⟨rfl, rfl, rfl, by decide +kernel, rfl, by decide +kernel, by decide +kernel⟩
noncomputable abbrev s_way_at : Stmt := top 17
noncomputable abbrev p_way_at : List Str := ["statement", "count", "place"]
theorem sc_way_at : FnScope ["statement", "count", "place", "net", "setting"] ["statement", "count", "place"] (defScope s_way_at) := ⟨rfl, rfl, rfl, by decide +kernel, rfl, by decide +kernel, by decide +kernel⟩
noncomputable def SmallL (L : List Int) : Prop := ∀ n ∈ L, 0 ≤ n ∧ n < 1000000
section
variable {P : Program} {w : World} {K : PySem.W.Frag} {mg : Str → Option Value} {base : Heap}
noncomputable def spMany (Pt : Addr) : Sp := fun vs H Q _ => ∃ (L : List Int) (v : V) (st : Stm) (c : Nat), vs = [v, .int (c : Nat)] ∧ IsSt H v st ∧ st.size ≤ 300 ∧ (∀ n ∈ swL st, n ∈ L) ∧ L.length ≤ 12 ∧ SmallL L ∧ c ≤ 1000 ∧ T1 Pt H ∧
  ∀ H', S1 Pt H H' → T1 Pt H' → Q (.int ((wct c 0 (tr st) : Nat) : Int)) H'
theorem ok_many {k : Nat} {f f0 f1 f2 f3 f4 C Pt : Addr} {fd fd0 fd1 fd2 fd3 fd4 : FuncData} (hk : 3 ≤ k) (BT : Bt mg) (n_min : mg "min" = none) (hC : mg "Net" = some (.ref C)) (MK : Mk K C f0) (b_init : Binds K fd0 p_Net___init__ []) (G0 : FnOk P w K mg base CX0 1 f0 fd0 p_Net___init__ (spNInit C)) (NT : NTx K C)
    (m_statement_place : Meth K C "statement_place" f1) (b_statement_place : Binds K fd1 p_Net_statement_place []) (G1 : FnOk P w K mg base CX0 k f1 fd1 p_Net_statement_place (spPlace C Pt 12))
    (D_level : Df K mg "level" s_level p_level f2 fd2) (D_ways_from : Df K mg "ways_from" s_ways_from p_ways_from f3 fd3) (D_all_ways : Df K mg "all_ways" s_all_ways p_all_ways f4 fd4)
    (D : Df K mg "how_many" s_how_many p_how_many f fd) : FnOk P w K mg base CX0 (k + 2) f fd p_how_many (spMany Pt) := by
  have G_init := G0.mono (show 1 ≤ k by omega)
  have G_statement_place := G1.mono (show k ≤ k + 1 by omega)
  have G2 : FnOk P w K mg base CX0 2 f3 fd3 p_ways_from (spFrom C) := ok_from BT n_min NT D_level D_ways_from
  have G_ways_from := G2.mono (show 2 ≤ k + 1 by omega)
  have G3 : FnOk P w K mg base CX0 3 f4 fd4 p_all_ways (spAll C) := ok_all BT n_min NT D_level D_ways_from D_all_ways
  have G_all_ways := G3.mono (show 3 ≤ k + 1 by omega)
  refine D.F.ok sc_how_many (fun vs H Q E h => ?_) (fun cdv A outer s H vs Q E hr h => ?_)
  · obtain ⟨L, v, st, c, rfl, _⟩ := h
    rfl
  · obtain ⟨L, v, st, c, rfl, hv, hsz, hsw, hLR, hLs, hc, hT, q⟩ := h
    refine ⟨_, (pss_cons (ps_set (i := 2) sc_how_many.nd rfl (by first | exact Or.inl rfl | exact Or.inr rfl) (pe_make0 MK G_init hr (by rfl) hC b_init .nil pass0))
    (pss_cons (ps_set (i := 3) sc_how_many.nd rfl (by first | exact Or.inl rfl | exact Or.inr rfl) (pe_meth (pv 2) NT.cl m_statement_place G_statement_place (hr) b_statement_place .nil pass0 (pa_cons (pv 0) pa_nil)))
    (pss_one (ps_ret (pe_call G_ways_from (hr) (by rfl) D_ways_from.m D_ways_from.F.kp D_ways_from.b .nil pass0 (pa_cons (pv 2) (pa_cons (pv 3) (pa_cons pe_int (pa_cons (pv 1) (pa_cons (pe_call G_all_ways (hr) (by rfl) D_all_ways.m D_all_ways.F.kp D_all_ways.b .nil pass0 (pa_cons (pv 2) (pa_cons (pv 1) pa_nil))) pa_nil)))))))))), ?_⟩
    refine seq_as fun R1 hR1 => ?_
    simp only [rdA, rd_forL, rd_forR, rd_seq, rd_if, rd_kget, rd_kin, rd_fldP, rd_make, rd_slS, cx_w, cx_w2]
    intro p dx hp hdx hne
    refine ⟨p, dx, rfl, upd_same, fun a H1 ep ed hF keep hown => ⟨rfl, ?_⟩⟩
    subst ep
    have sA : Same H H1 := fun b o e => keep b o (by rw [upd_ne (ne_of_none e hp), upd_ne (ne_of_none e hdx)]; exact e) (ne_of_none e hp)
    have hown0 : ∀ c ∈ own a, H c = none := fun c hc => by
      cases e : H c with
      | none => rfl
      | some o => exact absurd (hown c hc) (by rw [upd_ne (ne_of_none e hp), upd_ne (ne_of_none e hdx), e]; simp)
    subst hR1
    refine seq_as fun R1 hR1 => ?_
    simp only [rdA, rd_forL, rd_forR, rd_seq, rd_if, rd_kget, rd_kin, rd_fldP, rd_make, rd_slS, cx_w, cx_w2]
    refine ⟨_, _, hF.c.at_.ob, fl_sp _ _ _ _, a, [], [], [], [], L, v, st, 0, rfl, hF, hv.to sA.tk, by omega, fun nd h => (by cases h), hsw, hLR, ⟨Nat.le_refl _, Nat.le_refl _, Nat.le_refl _⟩, by omega, hT.same sA, fun r ns' kp' kc' ks' H2 _ F2 m inL sz up T2 => ?_⟩
    subst hR1
    simp only [rdA, rd_forL, rd_forR, rd_seq, rd_if, rd_kget, rd_kin, rd_fldP, rd_make, rd_slS, cx_w, cx_w2]
    have hsn := sz.n
    have hns : ∀ nd ∈ ns', 0 ≤ nd.sw ∧ nd.sw < 1000000 := fun nd h => hLs _ (inL nd h)
    have hpl : Pl ns' r := m.pl
    refine ⟨a, ns', kp', c, rfl, F2.c.at_, F2.net, hns, hc, by omega, fun lw H3 hlw s3 hw => ?_⟩
    refine ⟨a, ns', kp', r, c, 0, lw, _, wys ns' c r, rfl, F2.c.at_.same s3, hpl, hw, ws_at hpl, Int.le_refl _, by decide, hc, fun nd h => (hns nd h).1, ?_⟩
    have ab0 : Above ns' ((0 : Int) - 1) r := by
      by_cases p2 : r < 2
      · exact .inl p2
      · obtain ⟨nd, e, _⟩ := node_of hpl p2
        exact .inr ⟨nd, e, by have := (hns nd (List.mem_of_getElem? e)).1; omega⟩
    have hwf := wys_from F2.net (c := c) hpl ab0 (by omega)
    rw [show (((c : Nat) : Int) - 0).toNat = c by omega] at hwf
    rw [hwf, wct_congr fun ρ => m.say ρ]
    exact q H3 (fun b o e hb => s3 _ _ (up b o (sA b o e) (fun z => by rw [hown0 b z] at e; cases e) hb)) (T2.same s3)
end
end Nt
end CN
end
section
set_option Elab.async false
set_option linter.all false
set_option maxRecDepth 100000
set_option maxHeartbeats 4000000
namespace L2
open PySem PySem.Spec PyProof.Rows
theorem Fun.okE {P : Program} {w : World} {K : PySem.W.Frag} {mg : Str → Option Value} {base : Heap} {x qual : Str} {st : Stmt} {f : Addr} {fd : FuncData} {N ps : List Str} {k : Nat} {sp : Sp} (F : Fun K x qual st f fd) (S : FnScope N ps (defScope st)) (len : ∀ vs H Q E, sp vs H Q E → vs.length = ps.length)
    (hbody : ∀ (cdv : Value) (A : Around) (outer : List Env) (s : Shared) (H : Hp) (vs : List V) (Q : VK) (E : XK), Room k (A.deeper (envOfC qual (defScope st) s.heap.objs.size f cdv)) → sp vs H Q E →
      ∃ t, PSs (cxOf (CXe P w) P w K mg base N qual (defScope st) f cdv A outer s H E) (defBody st) t ∧ t { nx := fun _ H' => Q .non H', rt := Q } (start N vs) H) : FnOk P w K mg base (CXe P w) (k + 1) f fd ps sp := by
  obtain ⟨oc, od, kV, doc, pm, an, cdv, ct, osl, rfl, lk, hcd⟩ := F.ex
  exact fn_of lk hcd S len fun A outer s H vs Q E hr hsp => hbody cdv A outer s H vs Q E hr hsp
theorem rd_raise {C : Addr} {E : XK} {t : TA} {D : Ends} {σ : St} {H : Hp} : tRaise C E t D σ H = t σ H fun vs H1 => vs.length ≤ sizeLine ∧ E (.ref C) none H1 := rfl
structure Xw (K : PySem.W.Frag) (mg : Str → Option Value) (CW : Addr) : Prop where
  mW : mg "NoWay" = some (.ref CW)
  eW : PySem.W.excIn K CW [.type "ValueError", .type "Exception", .type "BaseException", .type "object"] "ValueError.__new__" = true
end L2
namespace CN
open PySem L2 PyProof.Rows
seal L2.PE L2.PT L2.PS L2.PSs L2.PA L2.PPs L2.PW L2.PC L2.PG L2.PGs L2.PI L2.PO L2.PTs
namespace Nt
section
variable {P : Program} {w : World} {K : PySem.W.Frag} {mg : Str → Option Value} {base : Heap}
noncomputable def spWayAt (Pt CW : Addr) : Sp := fun vs H Q E => ∃ (L : List Int) (v : V) (st : Stm) (c : Nat) (k : Int), vs = [v, .int (c : Nat), .int k] ∧ IsSt H v st ∧ st.size ≤ 300 ∧ (∀ n ∈ swL st, n ∈ L) ∧ L.length ≤ 12 ∧ SmallL L ∧ c ≤ 1000 ∧ T1 Pt H ∧
  (∀ H', S1 Pt H H' → T1 Pt H' → ¬ (0 ≤ k ∧ k < (wct c 0 (tr st) : Nat)) → E (.ref CW) none H') ∧
  ∀ l (is : List Int) H', S1 Pt H H' → T1 Pt H' → 0 ≤ k → (hits c 0 (tr st))[k.toNat]? = some is → H' l = some (.lst (is.map V.int)) → Q (.ref l) H'
theorem ok_wayat {k : Nat} {f f0 f1 f2 f3 f4 f5 f7 C Pt CW : Addr} {fd fd0 fd1 fd2 fd3 fd4 fd5 fd7 : FuncData} (hk : 4 ≤ k) (BT : Bt mg) (n_min : mg "min" = none) (XS : Xw K mg CW) (hC : mg "Net" = some (.ref C)) (MK : Mk K C f0) (b_init : Binds K fd0 p_Net___init__ []) (G0 : FnOk P w K mg base CX0 1 f0 fd0 p_Net___init__ (spNInit C)) (NT : NTx K C)
    (m_statement_place : Meth K C "statement_place" f1) (b_statement_place : Binds K fd1 p_Net_statement_place []) (G1 : FnOk P w K mg base CX0 k f1 fd1 p_Net_statement_place (spPlace C Pt 12))
    (D_level : Df K mg "level" s_level p_level f2 fd2) (D_ways_from : Df K mg "ways_from" s_ways_from p_ways_from f3 fd3) (D_all_ways : Df K mg "all_ways" s_all_ways p_all_ways f4 fd4)
    (m_step : Meth K C "step" f5) (b_step : Binds K fd5 p_Net_step []) (G5 : FnOk P w K mg base CX0 1 f5 fd5 p_Net_step (spStep C)) (D_found_way : Df K mg "found_way" s_found_way p_found_way f7 fd7)
    (D : Df K mg "way_at" s_way_at p_way_at f fd) : FnOk P w K mg base (CXe P w) (k + 2) f fd p_way_at (spWayAt Pt CW) := by
  have G_init := G0.mono (show 1 ≤ k by omega)
  have G_statement_place := G1.mono (show k ≤ k + 1 by omega)
  have G7 : FnOk P w K mg base CX0 4 f7 fd7 p_found_way (spFound C) := ok_found BT n_min NT D_level D_ways_from D_all_ways m_step b_step G5 D_found_way
  have G_found_way := G7.mono (show 4 ≤ k + 1 by omega)
  refine D.F.okE sc_way_at (fun vs H Q E h => ?_) (fun cdv A outer s H vs Q E hr h => ?_)
  · obtain ⟨L, v, st, c, k, rfl, _⟩ := h
    rfl
  · obtain ⟨L, v, st, c, kk, rfl, hv, hsz, hsw, hLR, hLs, hc, hT, qn, q⟩ := h
    refine ⟨_, (pss_cons (ps_set (i := 3) sc_way_at.nd rfl (by first | exact Or.inl rfl | exact Or.inr rfl) (pe_make0 MK G_init hr (by rfl) hC b_init .nil pass0))
    (pss_cons (ps_set (i := 4) sc_way_at.nd rfl (by first | exact Or.inl rfl | exact Or.inr rfl) (pe_call G_found_way (hr) (by rfl) D_found_way.m D_found_way.F.kp D_found_way.b .nil pass0 (pa_cons (pv 3) (pa_cons (pe_meth (pv 3) NT.cl m_statement_place G_statement_place (hr) b_statement_place .nil pass0 (pa_cons (pv 0) pa_nil)) (pa_cons (pv 1) (pa_cons (pv 2) pa_nil))))))
    (pss_cons (ps_if (pt_cmpR op_isN (pv 4) pe_non (nomark _))
      (pss_one (ps_raise rfl XS.mW XS.eW PySem.F.excBase_ValueError (pa_cons pe_str pa_nil)))
      pss_nil)
    (pss_one (ps_ret (pv 4)))))), ?_⟩
    refine seq_as fun R1 hR1 => ?_
    simp only [rdA, rd_forL, rd_forR, rd_compT, rd_compL, rd_compR, rd_tyes, rd_seq, rd_if, rd_kget, rd_kin, rd_fldP, rd_make, rd_slS, cx_w, cx_w2]
    intro p dx hp hdx hne
    refine ⟨p, dx, rfl, upd_same, fun a H1 ep ed hF keep hown => ⟨rfl, ?_⟩⟩
    subst ep
    have sA : Same H H1 := fun b o e => keep b o (by rw [upd_ne (ne_of_none e hp), upd_ne (ne_of_none e hdx)]; exact e) (ne_of_none e hp)
    have hown0 : ∀ c ∈ own a, H c = none := fun c hc => by
      cases e : H c with
      | none => rfl
      | some o => exact absurd (hown c hc) (by rw [upd_ne (ne_of_none e hp), upd_ne (ne_of_none e hdx), e]; simp)
    subst hR1
    refine seq_as fun R1 hR1 => ?_
    simp only [rdA, rd_forL, rd_forR, rd_compT, rd_compL, rd_compR, rd_tyes, rd_seq, rd_if, rd_kget, rd_kin, rd_fldP, rd_make, rd_slS, cx_w, cx_w2]
    refine ⟨_, _, hF.c.at_.ob, fl_sp _ _ _ _, a, [], [], [], [], L, v, st, 0, rfl, hF, hv.to sA.tk, by omega, fun nd h => (by cases h), hsw, hLR, ⟨Nat.le_refl _, Nat.le_refl _, Nat.le_refl _⟩, by omega, hT.same sA, fun r ns' kp' kc' ks' H2 _ F2 m inL sz up T2 => ?_⟩
    have sB : S1 Pt H H2 := fun b o e hb => up b o (sA b o e) (fun z => by rw [hown0 b z] at e; cases e) hb
    have hsn := sz.n
    have hns : ∀ nd ∈ ns', 0 ≤ nd.sw ∧ nd.sw < 1000000 := fun nd h => hLs _ (inL nd h)
    have hh : hits c 0 (val ns' r) = hits c 0 (tr st) := by rw [show val ns' r = tr st from funext m.say]
    have hw := wct_congr (n := c) (s := 0) fun ρ => m.say ρ
    refine ⟨a, ns', kp', r, c, kk, rfl, F2.c.at_, F2.net, m.pl, hns, hc, by omega, fun H3 s3 hno => ?_, fun l is H3 hl s3 k0 his hl3 => ?_⟩
    · subst hR1
      simp only [rdA, rd_forL, rd_forR, rd_compT, rd_compL, rd_compR, rd_tyes, rd_seq, rd_if, rd_kget, rd_kin, rd_fldP, rd_make, rd_slS, cx_w, cx_w2, rd_raise]
      refine qn H3 (fun b o e hb => s3 _ _ (sB b o e hb)) (T2.same s3) ?_
      rw [hw] at hno
      exact hno
    · subst hR1
      simp only [rdA, rd_forL, rd_forR, rd_compT, rd_compL, rd_compR, rd_tyes, rd_seq, rd_if, rd_kget, rd_kin, rd_fldP, rd_make, rd_slS, cx_w, cx_w2, rd_raise]
      refine q l is H3 (fun b o e hb => s3 _ _ (sB b o e hb)) (T2.same s3) k0 ?_ hl3
      rw [← hh]; exact his
end
end Nt
end CN
end
section
set_option Elab.async false
set_option linter.all false
set_option maxRecDepth 100000
namespace CN
namespace Nt
noncomputable def cOn (L : List Int) (ρ : Set1) : Nat := L.countP fun n => ρ n
noncomputable def subs (P : Nat → Bool) : Nat → Nat → Nat
  | 0, j => if P j = true then 1 else 0
  | r + 1, j => subs P r j + subs P r (j + 1)
theorem cnt_off {L : List Int} {s : Int} (h : s ∉ L) (ρ : Set1) (b : Bool) : cOn L (put ρ s b) = cOn L ρ := by
  unfold cOn
  refine List.countP_congr fun n hn => ?_
  have : n ≠ s := fun z => h (z ▸ hn)
  unfold put
  rw [if_neg this]
theorem cnt_on : ∀ {L : List Int} {s : Int}, L.Nodup → s ∈ L → ∀ (ρ : Set1) (b : Bool), cOn L (put ρ s b) = (if b = true then 1 else 0) + cOn (L.erase s) ρ
  | a :: L, s, hn, hs, ρ, b => by
    rw [List.nodup_cons] at hn
    by_cases e : a = s
    · subst e
      rw [List.erase_cons_head]
      have h1 := cnt_off (L := L) hn.1 ρ b
      unfold cOn at h1 ⊢
      rw [List.countP_cons, h1]
      have : put ρ a b a = b := by unfold put; rw [if_pos rfl]
      rw [this, Nat.add_comm]
    · have hs' : s ∈ L := by
        rcases List.mem_cons.mp hs with z | z
        · exact absurd z.symm e
        · exact z
      have ih := cnt_on hn.2 hs' ρ b
      rw [List.erase_cons_tail (by simpa using e)]
      unfold cOn at ih ⊢
      rw [List.countP_cons, List.countP_cons, ih]
      have : put ρ s b a = ρ a := by unfold put; rw [if_neg e]
      rw [this, Nat.add_assoc]
theorem wct_cnt (P : Nat → Bool) : ∀ (n : Nat) (s : Int) (L : List Int) (j : Nat), L.Nodup → (∀ t ∈ L, s ≤ t ∧ t < s + (n : Nat)) → wct n s (fun ρ => P (j + cOn L ρ)) * 2 ^ L.length = 2 ^ n * subs P L.length j
  | 0, s, L, j, _, hL => by
    have : L = [] := by
      cases L with
      | nil => rfl
      | cons a L => have := hL a List.mem_cons_self; omega
    subst this
    unfold wct hits sets
    rw [List.filter_cons, List.filter_nil]
    show (if P (j + 0) = true then [[]] else []).length * 2 ^ 0 = 2 ^ 0 * subs P 0 j
    rw [Nat.add_zero]
    unfold subs
    split <;> rfl
  | n + 1, s, L, j, hn, hL => by
    rw [wct_succ]
    by_cases h : s ∈ L
    · have hn' : (L.erase s).Nodup := hn.erase _
      have hL' : ∀ t ∈ L.erase s, s + 1 ≤ t ∧ t < s + 1 + (n : Nat) := fun t ht => by
        have h1 := hL t (List.mem_of_mem_erase ht)
        have h2 : t ≠ s := fun z => by rw [z] at ht; exact (List.Nodup.mem_erase_iff hn).mp ht |>.1 rfl
        omega
      have i1 := wct_cnt P n (s + 1) (L.erase s) j hn' hL'
      have i2 := wct_cnt P n (s + 1) (L.erase s) (j + 1) hn' hL'
      rw [wct_congr (ψ := fun ρ => P (j + cOn (L.erase s) ρ)) fun ρ => by rw [cnt_on hn h]; simp]
      rw [wct_congr (φ := fun ρ => P (j + cOn L (put ρ s true))) (ψ := fun ρ => P (j + 1 + cOn (L.erase s) ρ)) fun ρ => by rw [cnt_on hn h, if_pos rfl, ← Nat.add_assoc]]
      have hl : L.length = (L.erase s).length + 1 := by
        have := List.length_erase_of_mem h
        have : 0 < L.length := List.length_pos_of_mem h
        omega
      rw [hl, Nat.pow_succ, Nat.pow_succ]
      unfold subs
      rw [Nat.add_mul, ← Nat.mul_assoc, ← Nat.mul_assoc, i1, i2]
      simp only [Nat.mul_add, Nat.add_mul, Nat.mul_assoc, Nat.mul_comm, Nat.mul_left_comm]
    · have hL' : ∀ t ∈ L, s + 1 ≤ t ∧ t < s + 1 + (n : Nat) := fun t ht => by
        have h1 := hL t ht
        have h2 : t ≠ s := fun z => h (z ▸ ht)
        omega
      have i1 := wct_cnt P n (s + 1) L j hn hL'
      rw [wct_congr (ψ := fun ρ => P (j + cOn L ρ)) fun ρ => by rw [cnt_off h]]
      rw [wct_congr (φ := fun ρ => P (j + cOn L (put ρ s true))) (ψ := fun ρ => P (j + cOn L ρ)) fun ρ => by rw [cnt_off h]]
      rw [Nat.add_mul, i1, Nat.pow_succ]
      simp only [Nat.mul_assoc, Nat.mul_comm, Nat.mul_left_comm]
      omega
noncomputable def ask (w r : Nat) (m : Nat) : Bool := match w with
  | 0 => m == r
  | 1 => decide (0 < m)
  | 2 => m % 2 == 1
  | _ => m == 1
noncomputable def dueN (w r rest : Nat) : Nat := match w with
  | 0 => rest
  | 1 => rest * (2 ^ r - 1)
  | 2 => rest * 2 ^ (r - 1)
  | _ => rest * r
theorem subs_ask : ∀ w < 4, ∀ r < 7, 0 < r → subs (ask w r) r 0 = match w with | 0 => 1 | 1 => 2 ^ r - 1 | 2 => 2 ^ (r - 1) | _ => r := by decide
theorem wct_due {w : Nat} {L : List Int} {rest : Nat} {φ : Set1 → Bool} (hw : w < 4) (h0 : 0 < L.length) (h7 : L.length < 7) (hn : L.Nodup) (hL : ∀ t ∈ L, 0 ≤ t ∧ t < 40) (hr : rest * 2 ^ L.length = 2 ^ 40) (hφ : ∀ ρ, φ ρ = ask w L.length (cOn L ρ)) :
    wct 40 0 φ = dueN w L.length rest := by
  have k := wct_cnt (ask w L.length) 40 0 L 0 hn fun t ht => by have := hL t ht; omega
  rw [subs_ask w hw _ h7 h0, ← hr] at k
  rw [wct_congr (φ := φ) (ψ := fun ρ => ask w L.length (0 + cOn L ρ)) fun ρ => by rw [Nat.zero_add, hφ]]
  have hp : 0 < 2 ^ L.length := Nat.pow_pos (by decide)
  refine Nat.eq_of_mul_eq_mul_right hp (k.trans ?_)
  unfold dueN
  match w with
  | 0 => exact Nat.mul_one _
  | 1 => simp only [Nat.mul_assoc, Nat.mul_comm, Nat.mul_left_comm]
  | 2 => simp only [Nat.mul_assoc, Nat.mul_comm, Nat.mul_left_comm]
  | w + 3 => simp only [Nat.mul_assoc, Nat.mul_comm, Nat.mul_left_comm]
structure J4 (l : List Int) (a s o j : Stm) : Prop where
  ta : ∀ ρ, tr a ρ = (cOn l ρ == l.length)
  ts : ∀ ρ, tr s ρ = decide (0 < cOn l ρ)
  to : ∀ ρ, tr o ρ = (cOn l ρ % 2 == 1)
  tj : ∀ ρ, tr j ρ = (cOn l ρ == 1)
  za : a.size = 2 * l.length + 1
  zs : s.size = 2 * l.length + 1
  zo : o.size + 7 = 8 * 2 ^ l.length
  zj : j.size ≤ (8 + 2 * l.length) * l.length + 1
  wa : ∀ n ∈ swL a, n ∈ l
  ws : ∀ n ∈ swL s, n ∈ l
  wo : ∀ n ∈ swL o, n ∈ l
  wj : ∀ n ∈ swL j, n ∈ l
theorem J4.nil : J4 [] .yes .no .no .no := ⟨fun _ => rfl, fun _ => rfl, fun _ => rfl, fun _ => rfl, rfl, rfl, rfl, by decide, fun _ h => (by cases h), fun _ h => (by cases h), fun _ h => (by cases h), fun _ h => (by cases h)⟩
theorem J4.add {l : List Int} {a s o j : Stm} (h : J4 l a s o j) (n : Int) :
    J4 (l ++ [n]) (.an a (.sw n)) (.og s (.sw n)) (.og (.an (.nt (.sw n)) o) (.an (.sw n) (.nt o))) (.og (.an (.nt (.sw n)) j) (.an (.sw n) (.nt s))) := by
  have c : ∀ ρ, cOn (l ++ [n]) ρ = cOn l ρ + (if ρ n = true then 1 else 0) := fun ρ => by unfold cOn; rw [List.countP_append, List.countP_cons, List.countP_nil, Nat.zero_add]
  have le : ∀ ρ, cOn l ρ ≤ l.length := fun ρ => List.countP_le_length
  have hl : (l ++ [n]).length = l.length + 1 := by simp
  refine ⟨fun ρ => ?_, fun ρ => ?_, fun ρ => ?_, fun ρ => ?_, ?_, ?_, ?_, ?_, fun k hk => ?_, fun k hk => ?_, fun k hk => ?_, fun k hk => ?_⟩
  · rw [c, hl]
    show (tr a ρ && ρ n) = _
    rw [h.ta]
    have := le ρ
    rw [Bool.eq_iff_iff]
    cases hb : ρ n <;> simp <;> omega
  · rw [c]
    show (tr s ρ || ρ n) = _
    rw [h.ts]
    cases hb : ρ n <;> simp
  · rw [c]
    show (((!(ρ n)) && tr o ρ) || (ρ n && !(tr o ρ))) = _
    rw [h.to, Bool.eq_iff_iff]
    cases hb : ρ n
    · simp
    · simp; omega
  · rw [c]
    show (((!(ρ n)) && tr j ρ) || (ρ n && !(tr s ρ))) = _
    rw [h.tj, h.ts, Bool.eq_iff_iff]
    cases hb : ρ n
    · simp
    · simp
  · have := h.za; rw [hl]; simp only [Stm.size]; omega
  · have := h.zs; rw [hl]; simp only [Stm.size]; omega
  · have := h.zo; rw [hl, Nat.pow_succ]; simp only [Stm.size]; omega
  · have h1 := h.zj
    have h2 := h.zs
    rw [hl]
    simp only [Stm.size]
    generalize l.length = m at *
    have : (8 + 2 * (m + 1)) * (m + 1) = (8 + 2 * m) * m + 2 * m + (8 + 2 * m) + 2 := by
      simp only [Nat.add_mul, Nat.mul_add, Nat.mul_one, Nat.mul_assoc]; omega
    omega
  · rcases List.mem_append.mp (show k ∈ swL a ++ [n] from hk) with z | z
    · exact List.mem_append_left _ (h.wa k z)
    · exact List.mem_append_right _ z
  · rcases List.mem_append.mp (show k ∈ swL s ++ [n] from hk) with z | z
    · exact List.mem_append_left _ (h.ws k z)
    · exact List.mem_append_right _ z
  · rcases List.mem_append.mp (show k ∈ ([n] ++ swL o) ++ ([n] ++ swL o) from hk) with z | z <;> rcases List.mem_append.mp z with z | z
    · exact List.mem_append_right _ z
    · exact List.mem_append_left _ (h.wo k z)
    · exact List.mem_append_right _ z
    · exact List.mem_append_left _ (h.wo k z)
  · rcases List.mem_append.mp (show k ∈ ([n] ++ swL j) ++ ([n] ++ swL s) from hk) with z | z <;> rcases List.mem_append.mp z with z | z
    · exact List.mem_append_right _ z
    · exact List.mem_append_left _ (h.wj k z)
    · exact List.mem_append_right _ z
    · exact List.mem_append_left _ (h.ws k z)
noncomputable def Ahead (a b : List Int) : Prop := ∃ k, k ∉ a ∧ k ∈ b ∧ ∀ t, t < k → (t ∈ a ↔ t ∈ b)
theorem sets_ahead : ∀ (n : Nat) (s : Int), (sets n s).Pairwise Ahead
  | 0, s => by unfold sets; exact List.pairwise_singleton ..
  | n + 1, s => by
    have ih := sets_ahead n (s + 1)
    have low : ∀ l ∈ sets n (s + 1), ∀ t ∈ l, s < t := fun l hl t ht => by have := sets_in n (s + 1) l hl t ht; omega
    unfold sets
    rw [List.pairwise_append]
    refine ⟨ih, ?_, fun a ha b hb => ?_⟩
    · rw [List.pairwise_map]
      refine ih.imp_of_mem fun {a b} ha hb ⟨k, h1, h2, h3⟩ => ?_
      have hk := low b hb k h2
      refine ⟨k, fun z => ?_, List.mem_cons_of_mem _ h2, fun t ht => ?_⟩
      · rcases List.mem_cons.mp z with z | z
        · omega
        · exact h1 z
      · rw [List.mem_cons, List.mem_cons, h3 t ht]
    · obtain ⟨b', hb', rfl⟩ := List.mem_map.mp hb
      refine ⟨s, fun z => absurd (low a ha s z) (Int.lt_irrefl _), List.mem_cons_self, fun t ht => ?_⟩
      constructor
      · intro z; have := low a ha t z; omega
      · intro z
        rcases List.mem_cons.mp z with z | z
        · omega
        · have := low b' hb' t z; omega
theorem sets_rise : ∀ (n : Nat) (s : Int) (l : List Int), l ∈ sets n s → l.Pairwise (· < ·)
  | 0, s, l, h => by
    rw [sets, List.mem_singleton] at h
    subst h; exact .nil
  | n + 1, s, l, h => by
    rcases List.mem_append.mp (show l ∈ sets n (s + 1) ++ (sets n (s + 1)).map (s :: ·) from h) with h | h
    · exact sets_rise n _ l h
    · obtain ⟨l', h', rfl⟩ := List.mem_map.mp h
      rw [List.pairwise_cons]
      exact ⟨fun t ht => by have := sets_in n (s + 1) l' h' t ht; omega, sets_rise n _ l' h'⟩
theorem hits_next {n : Nat} {s : Int} {φ : Set1 → Bool} {i : Nat} {a b : List Int} (ha : (hits n s φ)[i]? = some a) (hb : (hits n s φ)[i + 1]? = some b) : Ahead a b := by
  have h : (hits n s φ).Pairwise Ahead := (sets_ahead n s).filter _
  obtain ⟨h1, rfl⟩ := List.getElem?_eq_some_iff.mp ha
  obtain ⟨h2, rfl⟩ := List.getElem?_eq_some_iff.mp hb
  exact List.pairwise_iff_getElem.mp h i (i + 1) h1 h2 (Nat.lt_succ_self _)
theorem hits_rise {n : Nat} {s : Int} {φ : Set1 → Bool} {a : List Int} (ha : a ∈ hits n s φ) : a.Pairwise (· < ·) := sets_rise n s a (List.mem_filter.mp ha).1
theorem hits_in {n : Nat} {s : Int} {φ : Set1 → Bool} {a : List Int} (ha : a ∈ hits n s φ) : ∀ t ∈ a, s ≤ t ∧ t < s + (n : Nat) := sets_in n s a (List.mem_filter.mp ha).1
theorem hits_say {n : Nat} {s : Int} {φ : Set1 → Bool} {a : List Int} (ha : a ∈ hits n s φ) : φ (onL a) = true := (List.mem_filter.mp ha).2
theorem hits_le40 {s : Int} {φ : Set1 → Bool} {n : Nat} {a : List Int} (ha : a ∈ hits n s φ) : a.length ≤ n := by
  have : ∀ (n : Nat) (s : Int) (l : List Int), l ∈ sets n s → l.length ≤ n := fun n => by
    induction n with
    | zero => intro s l h; rw [sets, List.mem_singleton] at h; subst h; exact Nat.le_refl _
    | succ n ih =>
      intro s l h
      rcases List.mem_append.mp (show l ∈ sets n (s + 1) ++ (sets n (s + 1)).map (s :: ·) from h) with h | h
      · exact Nat.le_succ_of_le (ih _ l h)
      · obtain ⟨l', h', rfl⟩ := List.mem_map.mp h
        rw [List.length_cons]; exact Nat.succ_le_succ (ih _ l' h')
  exact this n s a (List.mem_filter.mp ha).1
theorem ahead_first {a b : List Int} (h : Ahead a b) (hb : ∀ t ∈ b, 0 ≤ t ∧ t < 40) : ∃ (k : Nat) (r : List Nat), ((List.range 40).filter fun (k : Nat) => decide ((k : Int) ∈ a) != decide ((k : Int) ∈ b)) = k :: r ∧ (k : Int) ∉ a := by
  obtain ⟨k, h1, h2, h3⟩ := h
  obtain ⟨m, rfl⟩ := Int.eq_ofNat_of_zero_le (hb k h2).1
  have hm : m < 40 := by have := (hb _ h2).2; omega
  have e : List.range 40 = List.range m ++ (m :: List.range' (m + 1) (40 - (m + 1))) := by
    rw [List.range_eq_range', List.range_eq_range', show (40 : Nat) = m + (40 - m) by omega, ← List.range'_append_1, Nat.zero_add]
    congr 1
    rw [show m + (40 - m) - (m + 1) = 40 - m - 1 by omega]
    obtain ⟨q, hq⟩ : ∃ q, 40 - m = q + 1 := ⟨40 - m - 1, by omega⟩
    rw [hq, List.range'_succ]
    rfl
  refine ⟨m, (List.range' (m + 1) (40 - (m + 1))).filter fun (k : Nat) => decide ((k : Int) ∈ a) != decide ((k : Int) ∈ b), ?_, h1⟩
  rw [e, List.filter_append, List.filter_cons]
  have : (List.range m).filter (fun (k : Nat) => decide ((k : Int) ∈ a) != decide ((k : Int) ∈ b)) = [] := by
    rw [List.filter_eq_nil_iff]
    intro t ht
    have := h3 (t : Int) (by have := List.mem_range.mp ht; omega)
    rw [show decide ((t : Int) ∈ a) = decide ((t : Int) ∈ b) from by simp [this]]
    simp
  rw [this, List.nil_append, if_pos (by simp [h1, h2])]
noncomputable def ltc (L : List Int) (i : Nat) : Nat := L.countP fun t => decide (t < (i : Int))
theorem ltc_succ {L : List Int} (hn : L.Nodup) (i : Nat) : ltc L (i + 1) = ltc L i + if ((i : Nat) : Int) ∈ L then 1 else 0 := by
  induction L with
  | nil => rfl
  | cons a L ih =>
    rw [List.nodup_cons] at hn
    have ih := ih hn.2
    unfold ltc at ih ⊢
    rw [List.countP_cons, List.countP_cons, ih]
    by_cases e : a = ((i : Nat) : Int)
    · subst e
      have h1 : ¬ (((i : Nat) : Int) ∈ L) := hn.1
      rw [if_neg h1, if_pos List.mem_cons_self, if_pos (by simp; omega), if_neg (by simp)]
    · have h1 : (((i : Nat) : Int) ∈ a :: L) ↔ ((i : Nat) : Int) ∈ L := by
        rw [List.mem_cons]
        constructor
        · rintro (z | z)
          · exact absurd z.symm e
          · exact z
        · exact .inr
      have h2 : decide (a < ((i + 1 : Nat) : Int)) = decide (a < ((i : Nat) : Int)) := by
        rw [Bool.eq_iff_iff, decide_eq_true_eq, decide_eq_true_eq]; omega
      rw [h2]
      by_cases z : ((i : Nat) : Int) ∈ L
      · rw [if_pos z, if_pos (h1.mpr z)]; omega
      · rw [if_neg z, if_neg fun q => z (h1.mp q)]
        omega
theorem ltc_zero {L : List Int} (h : ∀ t ∈ L, 0 ≤ t ∧ t < 40) : ltc L 0 = 0 := by
  unfold ltc
  rw [List.countP_eq_zero]
  intro t ht
  have := h t ht
  simp; omega
theorem ltc_all {L : List Int} (h : ∀ t ∈ L, 0 ≤ t ∧ t < 40) : ltc L 40 = L.length := by
  unfold ltc
  rw [List.countP_eq_length]
  intro t ht
  have := h t ht
  simp; omega
end Nt
end CN
end
section
set_option Elab.async false
set_option linter.all false
set_option maxRecDepth 100000
set_option maxHeartbeats 4000000
namespace L2
theorem rd_neB {x y : Bool} {H : Hp} {Q : VK} : rNe (.bl x) (.bl y) H Q = Q (.bl (!decide (x = y))) H := by
  have e : decide (V.bl x = V.bl y) = decide (x = y) := by simp
  unfold rNe; rw [e]; simp [scal]
end L2
namespace CN
open PySem L2
seal L2.PE L2.PT L2.PS L2.PSs L2.PA L2.PPs L2.PW L2.PC L2.PG L2.PGs L2.PI L2.PO L2.PTs
namespace Nt
noncomputable abbrev s_L_joined : Stmt := top 21
noncomputable abbrev p_L_joined : List Str := ["_law_switches", "_law_way"]
theorem sc_L_joined : FnScope ["_law_switches", "_law_way", "_law_all_on", "_law_some_on", "_law_odd", "_law_just_one", "_law_number", "_law_switch", "_law_off"] ["_law_switches", "_law_way"] (defScope s_L_joined) := ⟨rfl, rfl, rfl, by decide +kernel, rfl, by decide +kernel, by decide +kernel⟩
noncomputable abbrev s_L_fits : Stmt := top 22
noncomputable abbrev p_L_fits : List Str := ["_law_switches", "_law_way", "_law_on"]
theorem sc_L_fits : FnScope ["_law_switches", "_law_way", "_law_on", "_law_many"] ["_law_switches", "_law_way", "_law_on"] (defScope s_L_fits) := ⟨rfl, rfl, rfl, by decide +kernel, rfl, by decide +kernel, by decide +kernel⟩
theorem comp_filt {K : PySem.W.Frag} {a D : Addr} {xs : List V} {ti : TT} {te : TE} {σ : St} {H1 : Hp} {Q : VK} (hx : H1 a = some (.lst xs)) (hD : H1 D = none) (hn : xs.length < 1000) (f : V → Bool)
    (ht : ∀ x ∈ xs, ∀ (o : HO) (R : Bool → Hp → Prop), R (f x) (upd H1 D o) → ti (some x :: σ) (upd H1 D o) R) (he : ∀ x H (R : VK), R x H → te (some x :: σ) H R)
    (q : Q (.ref D) (upd H1 D (.lst (xs.filter f)))) : tCompIn (Itl K a) D ti te σ Q H1 := by
  have ne : a ≠ D := ne_of_none hx hD
  refine comp_list (xs := xs) (fun i ys H => ys = (xs.take i).filter f ∧ H = upd H1 D (.lst ys)) ⟨rfl, rfl⟩ (fun i ys H _ h => ?_) (fun i x ys H e h => ?_) (fun ys H h => ?_)
  · rw [h.2]; exact SqL.of (by rw [upd_ne ne]; exact hx)
  · obtain ⟨rfl, rfl⟩ := h
    have hi : i < xs.length := (List.getElem?_eq_some_iff.mp e).1
    have ek : xs.take (i + 1) = xs.take i ++ [x] := by rw [List.take_add_one, e]; rfl
    refine ht x (List.mem_of_getElem? e) _ _ ?_
    have hl : ((xs.take i).filter f).length < sizeLine := small1000 (by have z := List.length_filter_le f (xs.take i); rw [List.length_take] at z; omega)
    cases hf : f x with
    | true =>
      rw [if_pos rfl]
      refine he x _ _ ⟨upd_same, hl, _, ?_, rfl, hi, ?_, ?_⟩
      · omega
      · rw [ek, List.filter_append, List.filter_cons, hf]; rfl
      · rw [upd_upd]
    | false =>
      rw [if_neg (by decide)]
      refine ⟨_, ?_, rfl, hi, ?_, rfl⟩
      · omega
      · rw [ek, List.filter_append, List.filter_cons, hf]; simp
  · obtain ⟨rfl, rfl⟩ := h
    rw [List.take_length]
    exact q
theorem in_ints {k : Int} {l : List Int} : inV (.int k) (l.map V.int) = decide (k ∈ l) := by
  unfold inV
  rw [Bool.eq_iff_iff, List.any_eq_true, decide_eq_true_eq]
  constructor
  · rintro ⟨x, hx, e⟩
    obtain ⟨i, hi, rfl⟩ := List.mem_map.mp hx
    have : i = k := by simpa [eqV] using e
    rw [← this]; exact hi
  · intro h
    exact ⟨.int k, List.mem_map.mpr ⟨k, h, rfl⟩, by simp [eqV]⟩
theorem flat_ints (l : List Int) : (l.map V.int).all flatV = true := by
  rw [List.all_eq_true]
  intro x hx
  obtain ⟨i, _, rfl⟩ := List.mem_map.mp hx
  rfl
section
variable {P : Program} {w : World} {K : PySem.W.Frag} {mg : Str → Option Value} {base : Heap}
noncomputable def spJoin : Sp := fun vs H Q _ => ∃ (l : Addr) (L : List Int) (wy : Nat), vs = [.ref l, .int (wy : Nat)] ∧ H l = some (.lst (L.map V.int)) ∧ wy < 4 ∧ L.length ≤ 6 ∧ (wy = 2 → L.length ≤ 3) ∧
  ∀ v st H', Same H H' → IsSt H' v st → st.size ≤ 300 → (∀ n ∈ swL st, n ∈ L) → (∀ ρ, tr st ρ = ask wy L.length (cOn L ρ)) → Q v H'
inductive JnInv (H : Hp) (l : Addr) (wy : Nat) (L : List Int) (i : Nat) (σ : St) (H2 : Hp) : Prop
  | mk (va vs vo vj : V) (a s o j : Stm) (o6 o7 o8 : Option V) (h0 : σ = [some (.ref l), some (.int (wy : Nat)), some va, some vs, some vo, some vj, o6, o7, o8]) (h1 : Same H H2) (h2 : IsSt H2 va a) (h3 : IsSt H2 vs s) (h4 : IsSt H2 vo o) (h5 : IsSt H2 vj j) (h6 : J4 (L.take i) a s o j) : JnInv H l wy L i σ H2
theorem ok_join {f : Addr} {fd : FuncData} (BT : Bt mg) (D : Df K mg "_law_joined" s_L_joined p_L_joined f fd) : FnOk P w K mg base CX0 1 f fd p_L_joined spJoin := by
  refine D.F.ok sc_L_joined (fun vs H Q E h => ?_) (fun cdv A outer s H vs Q E hr h => ?_)
  · obtain ⟨l, L, wy, rfl, _⟩ := h
    rfl
  · obtain ⟨l, L, wy, rfl, hl, hw, h6, h3, q⟩ := h
    refine ⟨_, (pss_cons (ps_set (i := 2) sc_L_joined.nd rfl (by first | exact Or.inl rfl | exact Or.inr rfl) (pe_tup (pa_cons pe_str pa_nil)))
    (pss_cons (ps_set (i := 3) sc_L_joined.nd rfl (by first | exact Or.inl rfl | exact Or.inr rfl) (pe_tup (pa_cons pe_str pa_nil)))
    (pss_cons (ps_set (i := 4) sc_L_joined.nd rfl (by first | exact Or.inl rfl | exact Or.inr rfl) (pe_tup (pa_cons pe_str pa_nil)))
    (pss_cons (ps_set (i := 5) sc_L_joined.nd rfl (by first | exact Or.inl rfl | exact Or.inr rfl) (pe_tup (pa_cons pe_str pa_nil)))
    (pss_cons (ps_for PassesOwn.never rfl (pi_list (pv 0)) (pg_name (i := 6) sc_L_joined.nd rfl (by first | exact Or.inl rfl | exact Or.inr rfl))
      (pss_cons (ps_set (i := 7) sc_L_joined.nd rfl (by first | exact Or.inl rfl | exact Or.inr rfl) (pe_tup (pa_cons pe_str (pa_cons (pv 6) pa_nil))))
      (pss_cons (ps_set (i := 8) sc_L_joined.nd rfl (by first | exact Or.inl rfl | exact Or.inr rfl) (pe_tup (pa_cons pe_str (pa_cons (pv 7) pa_nil))))
      (pss_cons (ps_set (i := 5) sc_L_joined.nd rfl (by first | exact Or.inl rfl | exact Or.inr rfl) (pe_tup (pa_cons pe_str (pa_cons (pe_tup (pa_cons pe_str (pa_cons (pv 8) (pa_cons (pv 5) pa_nil)))) (pa_cons (pe_tup (pa_cons pe_str (pa_cons (pv 7) (pa_cons (pe_tup (pa_cons pe_str (pa_cons (pv 3) pa_nil))) pa_nil)))) pa_nil)))))
      (pss_cons (ps_set (i := 2) sc_L_joined.nd rfl (by first | exact Or.inl rfl | exact Or.inr rfl) (pe_tup (pa_cons pe_str (pa_cons (pv 2) (pa_cons (pv 7) pa_nil)))))
      (pss_cons (ps_set (i := 3) sc_L_joined.nd rfl (by first | exact Or.inl rfl | exact Or.inr rfl) (pe_tup (pa_cons pe_str (pa_cons (pv 3) (pa_cons (pv 7) pa_nil)))))
      (pss_one (ps_set (i := 4) sc_L_joined.nd rfl (by first | exact Or.inl rfl | exact Or.inr rfl) (pe_tup (pa_cons pe_str (pa_cons (pe_tup (pa_cons pe_str (pa_cons (pv 8) (pa_cons (pv 4) pa_nil)))) (pa_cons (pe_tup (pa_cons pe_str (pa_cons (pv 7) (pa_cons (pe_tup (pa_cons pe_str (pa_cons (pv 4) pa_nil))) pa_nil)))) pa_nil))))))))))))
    (pss_one (ps_ret (pe_ix ix_list (pe_lst (pa_cons (pv 2) (pa_cons (pv 3) (pa_cons (pv 4) (pa_cons (pv 5) pa_nil))))) (pv 1) (fun _ _ => rfl))))))))), ?_⟩
    simp only [rdA, rd_forL, rd_forR, rd_compT, rd_compL, rd_compR, rd_tyes, rd_seq, rd_if, rd_kget, rd_kin, rd_fldP, rd_make, rd_slS, cx_w, cx_w2]
    intro y1 h_y1
    have s_y1 := Same.new (o := HO.tup [sv "yes"]) h_y1
    have i_y1 := @upd_same H y1 (HO.tup [sv "yes"])
    generalize upd H y1 (HO.tup [sv "yes"]) = HA at *
    intro y2 h_y2
    have s_y2 := Same.new (o := HO.tup [sv "no"]) h_y2
    have i_y2 := @upd_same HA y2 (HO.tup [sv "no"])
    generalize upd HA y2 (HO.tup [sv "no"]) = HB at *
    intro y3 h_y3
    have s_y3 := Same.new (o := HO.tup [sv "no"]) h_y3
    have i_y3 := @upd_same HB y3 (HO.tup [sv "no"])
    generalize upd HB y3 (HO.tup [sv "no"]) = HC at *
    intro y4 h_y4
    have s_y4 := Same.new (o := HO.tup [sv "no"]) h_y4
    have i_y4 := @upd_same HC y4 (HO.tup [sv "no"])
    generalize upd HC y4 (HO.tup [sv "no"]) = HD at *
    have e3 := s_y4
    have e2 := s_y3.trans e3
    have e1 := s_y2.trans e2
    have e0 := s_y1.trans e1
    refine ⟨⟨_, SqL.of (e0 _ _ hl)⟩, for_list (K := K) (xs := L.map V.int) (JnInv H l wy L) ⟨_, _, _, _, .yes, .no, .no, .no, none, none, none, rfl, e0, st_mk (e1 _ _ i_y1) rfl, st_mk (e2 _ _ i_y2) rfl, st_mk (e3 _ _ i_y3) rfl, st_mk i_y4 rfl, J4.nil⟩
      (fun i σ H2 _ ⟨_, _, _, _, _, _, _, _, _, _, _, _, sm, _, _, _, _, _⟩ => SqL.of (sm _ _ hl)) ?_ ?_⟩
    · clear e0 e1 e2 e3 i_y1 i_y2 i_y3 i_y4 s_y1 s_y2 s_y3 s_y4 h_y1 h_y2 h_y3 h_y4
      rintro i y σ H2 hi ⟨va, vs, vo, vj, a, s, o, j, o6, o7, o8, rfl, sm, ha, hs, ho, hj, J⟩
      obtain ⟨n, hn, rfl⟩ : ∃ n, L[i]? = some n ∧ y = V.int n := by
        rw [List.getElem?_map] at hi
        cases e : L[i]? with
        | none => rw [e] at hi; cases hi
        | some z => rw [e] at hi; exact ⟨z, rfl, (Option.some.inj hi).symm⟩
      have ek : L.take (i + 1) = L.take i ++ [n] := by rw [List.take_add_one, hn]; rfl
      simp only [rdA, rd_forL, rd_forR, rd_compT, rd_compL, rd_compR, rd_tyes, rd_seq, rd_if, rd_kget, rd_kin, rd_fldP, rd_make, rd_slS, cx_w, cx_w2]
      intro p1 h_p1
      have s_p1 := Same.new (o := HO.tup [sv "switch", V.int n]) h_p1
      have i_p1 := @upd_same H2 p1 (HO.tup [sv "switch", V.int n])
      generalize upd H2 p1 (HO.tup [sv "switch", V.int n]) = HA at *
      intro p2 h_p2
      have s_p2 := Same.new (o := HO.tup [sv "not", V.ref p1]) h_p2
      have i_p2 := @upd_same HA p2 (HO.tup [sv "not", V.ref p1])
      generalize upd HA p2 (HO.tup [sv "not", V.ref p1]) = HB at *
      intro p3 h_p3
      have s_p3 := Same.new (o := HO.tup [sv "and", V.ref p2, vj]) h_p3
      have i_p3 := @upd_same HB p3 (HO.tup [sv "and", V.ref p2, vj])
      generalize upd HB p3 (HO.tup [sv "and", V.ref p2, vj]) = HC at *
      intro p4 h_p4
      have s_p4 := Same.new (o := HO.tup [sv "not", vs]) h_p4
      have i_p4 := @upd_same HC p4 (HO.tup [sv "not", vs])
      generalize upd HC p4 (HO.tup [sv "not", vs]) = HD at *
      intro p5 h_p5
      have s_p5 := Same.new (o := HO.tup [sv "and", V.ref p1, V.ref p4]) h_p5
      have i_p5 := @upd_same HD p5 (HO.tup [sv "and", V.ref p1, V.ref p4])
      generalize upd HD p5 (HO.tup [sv "and", V.ref p1, V.ref p4]) = HE at *
      intro p6 h_p6
      have s_p6 := Same.new (o := HO.tup [sv "or", V.ref p3, V.ref p5]) h_p6
      have i_p6 := @upd_same HE p6 (HO.tup [sv "or", V.ref p3, V.ref p5])
      generalize upd HE p6 (HO.tup [sv "or", V.ref p3, V.ref p5]) = HF at *
      intro p7 h_p7
      have s_p7 := Same.new (o := HO.tup [sv "and", va, V.ref p1]) h_p7
      have i_p7 := @upd_same HF p7 (HO.tup [sv "and", va, V.ref p1])
      generalize upd HF p7 (HO.tup [sv "and", va, V.ref p1]) = HG at *
      intro p8 h_p8
      have s_p8 := Same.new (o := HO.tup [sv "or", vs, V.ref p1]) h_p8
      have i_p8 := @upd_same HG p8 (HO.tup [sv "or", vs, V.ref p1])
      generalize upd HG p8 (HO.tup [sv "or", vs, V.ref p1]) = HI at *
      intro p9 h_p9
      have s_p9 := Same.new (o := HO.tup [sv "and", V.ref p2, vo]) h_p9
      have i_p9 := @upd_same HI p9 (HO.tup [sv "and", V.ref p2, vo])
      generalize upd HI p9 (HO.tup [sv "and", V.ref p2, vo]) = HJ at *
      intro p10 h_p10
      have s_p10 := Same.new (o := HO.tup [sv "not", vo]) h_p10
      have i_p10 := @upd_same HJ p10 (HO.tup [sv "not", vo])
      generalize upd HJ p10 (HO.tup [sv "not", vo]) = HK at *
      intro p11 h_p11
      have s_p11 := Same.new (o := HO.tup [sv "and", V.ref p1, V.ref p10]) h_p11
      have i_p11 := @upd_same HK p11 (HO.tup [sv "and", V.ref p1, V.ref p10])
      generalize upd HK p11 (HO.tup [sv "and", V.ref p1, V.ref p10]) = HL at *
      intro p12 h_p12
      have s_p12 := Same.new (o := HO.tup [sv "or", V.ref p9, V.ref p11]) h_p12
      have i_p12 := @upd_same HL p12 (HO.tup [sv "or", V.ref p9, V.ref p11])
      generalize upd HL p12 (HO.tup [sv "or", V.ref p9, V.ref p11]) = HM at *
      have e11 := s_p12
      have e10 := s_p11.trans e11
      have e9 := s_p10.trans e10
      have e8 := s_p9.trans e9
      have e7 := s_p8.trans e8
      have e6 := s_p7.trans e7
      have e5 := s_p6.trans e6
      have e4 := s_p5.trans e5
      have e3 := s_p4.trans e4
      have e2 := s_p3.trans e3
      have e1 := s_p2.trans e2
      have e0 := s_p1.trans e1
      have ha' : IsSt HM va a := ha.to e0.tk
      have hs' : IsSt HM vs s := hs.to e0.tk
      have ho' : IsSt HM vo o := ho.to e0.tk
      have hj' : IsSt HM vj j := hj.to e0.tk
      have t1 : IsSt HM (.ref p1) (.sw n) := st_mk (e1 _ _ i_p1) rfl
      have t2 : IsSt HM (.ref p2) (.nt (.sw n)) := st_mk (e2 _ _ i_p2) ⟨_, rfl, t1⟩
      have t3 : IsSt HM (.ref p3) (.an (.nt (.sw n)) j) := st_mk (e3 _ _ i_p3) ⟨_, _, rfl, t2, hj'⟩
      have t4 : IsSt HM (.ref p4) (.nt s) := st_mk (e4 _ _ i_p4) ⟨_, rfl, hs'⟩
      have t5 : IsSt HM (.ref p5) (.an (.sw n) (.nt s)) := st_mk (e5 _ _ i_p5) ⟨_, _, rfl, t1, t4⟩
      have t6 : IsSt HM (.ref p6) (.og (.an (.nt (.sw n)) j) (.an (.sw n) (.nt s))) := st_mk (e6 _ _ i_p6) ⟨_, _, rfl, t3, t5⟩
      have t7 : IsSt HM (.ref p7) (.an a (.sw n)) := st_mk (e7 _ _ i_p7) ⟨_, _, rfl, ha', t1⟩
      have t8 : IsSt HM (.ref p8) (.og s (.sw n)) := st_mk (e8 _ _ i_p8) ⟨_, _, rfl, hs', t1⟩
      have t9 : IsSt HM (.ref p9) (.an (.nt (.sw n)) o) := st_mk (e9 _ _ i_p9) ⟨_, _, rfl, t2, ho'⟩
      have t10 : IsSt HM (.ref p10) (.nt o) := st_mk (e10 _ _ i_p10) ⟨_, rfl, ho'⟩
      have t11 : IsSt HM (.ref p11) (.an (.sw n) (.nt o)) := st_mk (e11 _ _ i_p11) ⟨_, _, rfl, t1, t10⟩
      have t12 : IsSt HM (.ref p12) (.og (.an (.nt (.sw n)) o) (.an (.sw n) (.nt o))) := st_mk i_p12 ⟨_, _, rfl, t9, t11⟩
      exact ⟨_, _, _, _, _, _, _, _, _, _, _, rfl, sm.trans e0, t7, t8, t12, t6, by rw [ek]; exact J.add n⟩
    · rintro σ H2 ⟨va, vs, vo, vj, a, s, o, j, o6, o7, o8, rfl, sm, ha, hs, ho, hj, J⟩
      rw [List.length_map, List.take_length] at J
      simp only [rdA, rd_forL, rd_forR, rd_compT, rd_compL, rd_compR, rd_tyes, rd_seq, rd_if, rd_kget, rd_kin, rd_fldP, rd_make, rd_slS, cx_w, cx_w2]
      intro p1 h_p1
      have s_p1 := Same.new (o := HO.lst [va, vs, vo, vj]) h_p1
      have i_p1 := @upd_same H2 p1 (HO.lst [va, vs, vo, vj])
      generalize upd H2 p1 (HO.lst [va, vs, vo, vj]) = HA at *
      have k := s_p1.tk
      obtain ⟨v, st, e, hv, z, sw, t⟩ : ∃ v st, [va, vs, vo, vj][wy]? = some v ∧ IsSt HA v st ∧ st.size ≤ 300 ∧ (∀ n ∈ swL st, n ∈ L) ∧ ∀ ρ, tr st ρ = ask wy L.length (cOn L ρ) := by
        match wy, hw, h3 with
        | 0, _, _ => exact ⟨va, a, rfl, ha.to k, by rw [J.za]; omega, J.wa, J.ta⟩
        | 1, _, _ => exact ⟨vs, s, rfl, hs.to k, by rw [J.zs]; omega, J.ws, J.ts⟩
        | 2, _, h3 =>
          refine ⟨vo, o, rfl, ho.to k, ?_, J.wo, J.to⟩
          have h := h3 rfl
          have z := J.zo
          have : 2 ^ L.length ≤ 2 ^ 3 := Nat.pow_le_pow_right (by decide) h
          omega
        | 3, _, _ =>
          refine ⟨vj, j, rfl, hj.to k, ?_, J.wj, J.tj⟩
          have z := J.zj
          have : (8 + 2 * L.length) * L.length ≤ 20 * 6 := Nat.mul_le_mul (by omega) h6
          omega
      exact ⟨_, SqL.of i_p1, _, atI_nat e, q v st HA (sm.trans s_p1) hv z sw t⟩
noncomputable def spFits : Sp := fun vs H Q _ => ∃ (l a : Addr) (L on : List Int) (wy : Nat), vs = [.ref l, .int (wy : Nat), .ref a] ∧ H l = some (.lst (L.map V.int)) ∧ H a = some (.lst (on.map V.int)) ∧ wy < 4 ∧ L.length ≤ 6 ∧ ask wy L.length (cOn L (onL on)) = true ∧
  ∀ H', Same H H' → Q (.bl true) H'
theorem ok_fits {f : Addr} {fd : FuncData} (BT : Bt mg) (D : Df K mg "_law_fits" s_L_fits p_L_fits f fd) : FnOk P w K mg base CX0 1 f fd p_L_fits spFits := by
  refine D.F.ok sc_L_fits (fun vs H Q E h => ?_) (fun cdv A outer s H vs Q E hr h => ?_)
  · obtain ⟨l, a, L, on, wy, rfl, _⟩ := h
    rfl
  · obtain ⟨l, a, L, on, wy, rfl, hl, ha, hw, h6, hk, q⟩ := h
    refine ⟨_, (pss_cons (ps_set (i := 3) sc_L_fits.nd rfl (by first | exact Or.inl rfl | exact Or.inr rfl) (pe_callB call_len_seq (by rfl) BT.n_len bo_len (pa_cons (pe_comp rfl (pi_list (pv 0)) (csc_of (M := ["_law_switches", "_law_way", "_law_on", "_law_many"]) rfl (by decide +kernel) (by decide +kernel)) (fun _ _ _ _ => (pts_one (pt_cmpR (op_in_seqK (K := K) rfl) (pv 0) (pv 3) (by with_unfolding_all rfl)))) (fun _ _ _ _ => (pv 0))) pa_nil)))
    (pss_one (ps_ret (pe_ix ix_list (pe_lst (pa_cons (pe_cmpR op_eq (pv 3) (pe_callB call_len_seq (by rfl) BT.n_len bo_len (pa_cons (pv 0) pa_nil)) (nomark _)) (pa_cons (pe_cmpR op_gt (pv 3) pe_int (nomark _)) (pa_cons (pe_cmpR op_eq (pe_op op_mod (pv 3) pe_int) pe_int (nomark _)) (pa_cons (pe_cmpR op_eq (pv 3) pe_int (nomark _)) pa_nil))))) (pv 1) (fun _ _ => rfl))))), ?_⟩
    simp only [rdA, rd_forL, rd_forR, rd_compT, rd_compL, rd_compR, rd_tyes, rd_seq, rd_if, rd_kget, rd_kin, rd_fldP, rd_make, rd_slS, cx_w, cx_w2]
    refine ⟨⟨_, SqL.of hl⟩, fun d hd => ?_⟩
    have nd : a ≠ d := ne_of_none ha hd
    have nl : l ≠ d := ne_of_none hl hd
    refine comp_filt (xs := L.map V.int) hl hd (by rw [List.length_map]; omega) (fun x => inV x (on.map V.int)) (fun x hx o R r => ?_) (fun x H2 R r => ?_) ?_
    · obtain ⟨n, _, rfl⟩ := List.mem_map.mp hx
      simp only [rdA, rd_forL, rd_forR, rd_compT, rd_compL, rd_compR, rd_tyes, rd_seq, rd_if, rd_kget, rd_kin, rd_fldP, rd_make, rd_slS, cx_w, cx_w2]
      refine ⟨_, .inl (SqL.of ((upd_ne nd).trans ha)), rfl, flat_ints on, r⟩
    · simp only [rdA, rd_forL, rd_forR, rd_compT, rd_compL, rd_compR, rd_tyes, rd_seq, rd_if, rd_kget, rd_kin, rd_fldP, rd_make, rd_slS, cx_w, cx_w2]
      exact r
    · have hc : ((L.map V.int).filter fun x => inV x (on.map V.int)).length = cOn L (onL on) := by
        rw [List.filter_map, List.length_map, ← List.countP_eq_length_filter]
        unfold cOn
        congr 1
        funext n
        exact in_ints
      refine ⟨d, rfl, _, .inl (SqL.of upd_same), _, .inl (SqL.of ((upd_ne nl).trans hl)), fun p hp => ⟨_, SqL.of upd_same, .bl true, atI_nat ?_, q _ ((Same.new hd).trans (Same.new hp))⟩⟩
      rw [hc, List.length_map]
      match wy, hw, hk with
      | 0, _, hk => have : cOn L (onL on) = L.length := by simpa [ask] using hk
                    simp [this]
      | 1, _, hk => have : 0 < cOn L (onL on) := by simpa [ask] using hk
                    simp; omega
      | 2, _, hk => have : cOn L (onL on) % 2 = 1 := by simpa [ask] using hk
                    simp; omega
      | 3, _, hk => have : cOn L (onL on) = 1 := by simpa [ask] using hk
                    simp [this]
end
end Nt
end CN
end
section
set_option Elab.async false
set_option linter.all false
set_option maxRecDepth 100000
set_option maxHeartbeats 4000000
namespace L2
theorem pass1 {P : PySem.Program} {w : PySem.World} {X : Cx} : Passes (CXe P w) X E0 := fun _ _ _ _ _ _ _ ⟨_, _, _, _, _, _, _, _, _, _, z⟩ => z.elim
end L2
namespace CN
open PySem L2
seal L2.PE L2.PT L2.PS L2.PSs L2.PA L2.PPs L2.PW L2.PC L2.PG L2.PGs L2.PI L2.PO L2.PTs
namespace Nt
noncomputable abbrev s_L_in_turn : Stmt := top 23
noncomputable abbrev p_L_in_turn : List Str := ["_law_statement", "_law_place", "_law_due"]
theorem sc_L_in_turn : FnScope ["_law_statement", "_law_place", "_law_due", "_law_one", "_law_here", "_law_there", "_law_unlike"] ["_law_statement", "_law_place", "_law_due"] (defScope s_L_in_turn) := ⟨rfl, rfl, rfl, by decide +kernel, rfl, by decide +kernel, by decide +kernel⟩
theorem comp_rfilt {n : Nat} {D : Addr} {ti : TT} {te : TE} {σ : St} {H1 : Hp} {Q : VK} (hD : H1 D = none) (hn : n < 1000) (f : Nat → Bool)
    (ht : ∀ (i : Nat) (o : HO) (R : Bool → Hp → Prop), i < n → R (f i) (upd H1 D o) → ti (some (.int (0 + (i : Nat))) :: σ) (upd H1 D o) R) (he : ∀ x H (R : VK), R x H → te (some x :: σ) H R)
    (q : Q (.ref D) (upd H1 D (.lst (((List.range n).filter f).map fun (k : Nat) => V.int (k : Int))))) : tCompIn (Itr 0 n) D ti te σ Q H1 := by
  refine comp_range (fun i ys H => ys = (((List.range i).filter f).map fun (k : Nat) => V.int (k : Int)) ∧ H = upd H1 D (.lst ys)) ⟨rfl, rfl⟩ (fun i ys H hi h => ?_) (fun ys H h => ?_)
  · obtain ⟨rfl, rfl⟩ := h
    refine ht i _ _ hi ?_
    have hl : (((List.range i).filter f).map fun (k : Nat) => V.int (k : Int)).length < sizeLine := small1000 (by have z := List.length_filter_le f (List.range i); rw [List.length_range] at z; rw [List.length_map]; omega)
    cases hf : f i with
    | true =>
      rw [if_pos rfl]
      refine he _ _ _ ⟨upd_same, hl, _, ?_, rfl, hi, ?_, ?_⟩
      · omega
      · rw [List.range_succ, List.filter_append, List.filter_cons, hf, List.map_append, Int.zero_add]; rfl
      · rw [upd_upd]
    | false =>
      rw [if_neg (by decide)]
      refine ⟨_, ?_, rfl, hi, ?_, rfl⟩
      · omega
      · rw [List.range_succ, List.filter_append, List.filter_cons, hf]; simp
  · obtain ⟨rfl, rfl⟩ := h
    exact q
section
variable {P : Program} {w : World} {K : PySem.W.Frag} {mg : Str → Option Value} {base : Heap}
structure Sml (L : List Int) (A : Stm) : Prop where
  sz : A.size ≤ 300
  sw : ∀ n ∈ swL A, n ∈ L
  ln : L.length ≤ 12
  sm : SmallL L
noncomputable def spTurn (P1 : Addr) : Sp := fun vs H Q _ => ∃ (L : List Int) (x : V) (A : Stm) (pl : Int), vs = [x, .int pl, .int (wct 40 0 (tr A) : Nat)] ∧ IsSt H x A ∧ Sml L A ∧ T1 P1 H ∧ ∀ H', S1 P1 H H' → T1 P1 H' → Q (.bl true) H'
inductive TuInv (P1 : Addr) (H : Hp) (x : V) (A : Stm) (pl due : Int) (p : Addr) (xs : List V) (i : Nat) (σ : St) (H2 : Hp) : Prop
  | mk (o3 o4 o5 o6 : Option V) (h0 : σ = [some x, some (.int pl), some (.int due), o3, o4, o5, o6]) (h1 : S1 P1 H H2) (h2 : T1 P1 H2) (h3 : IsSt H2 x A) (h4 : H2 p = some (.lst xs)) : TuInv P1 H x A pl due p xs i σ H2
theorem ok_turn {k : Nat} {f f1 f2 P1 CW : Addr} {fd fd1 fd2 : FuncData} (hk : 1 ≤ k) (BT : Bt mg) (D_L_whole : Df K mg "_law_whole" s_L_whole p_L_whole f1 fd1) (G1 : FnOk P w K mg base CX0 1 f1 fd1 p_L_whole spWhole)
    (D_way_at : Df K mg "way_at" s_way_at p_way_at f2 fd2) (G_way_at : FnOk P w K mg base (CXe P w) k f2 fd2 p_way_at (spWayAt P1 CW))
    (D : Df K mg "_law_in_turn" s_L_in_turn p_L_in_turn f fd) : FnOk P w K mg base CX0 (k + 1) f fd p_L_in_turn (spTurn P1) := by
  have G_L_whole := G1.mono hk
  refine D.F.ok sc_L_in_turn (fun vs H Q E h => ?_) (fun cdv A outer s H vs Q E hr h => ?_)
  · obtain ⟨L, x, A, pl, rfl, _⟩ := h
    rfl
  · obtain ⟨L, x, A, pl, rfl, hx, SM, hT, q⟩ := h
    refine ⟨_, (pss_cons (ps_for PassesOwn.never rfl (pi_list (pe_lst (pa_cons (pv 1) (pa_cons pe_int (pa_cons (pe_op op_sub (pv 2) pe_int) pa_nil))))) (pg_name (i := 3) sc_L_in_turn.nd rfl (by first | exact Or.inl rfl | exact Or.inr rfl))
      (pss_one (ps_if (PW.pt (pw_and (pt_cmpR op_ge (pv 3) pe_int (nomark _)) (pw_and1 (pt_cmpR op_lt (pe_op op_add (pv 3) pe_int) (pv 2) (nomark _)))))
        (pss_cons (ps_set (i := 4) sc_L_in_turn.nd rfl (by first | exact Or.inl rfl | exact Or.inr rfl) (pe_call G_way_at hr (by rfl) D_way_at.m D_way_at.F.kp D_way_at.b .nil pass1 (pa_cons (pv 0) (pa_cons pe_int (pa_cons (pv 3) pa_nil)))))
        (pss_cons (ps_set (i := 5) sc_L_in_turn.nd rfl (by first | exact Or.inl rfl | exact Or.inr rfl) (pe_call G_way_at hr (by rfl) D_way_at.m D_way_at.F.kp D_way_at.b .nil pass1 (pa_cons (pv 0) (pa_cons pe_int (pa_cons (pe_op op_add (pv 3) pe_int) pa_nil)))))
        (pss_cons (ps_if (PW.pt (pw_or (pt_not (pt_val (pe_callB (call_isinst) (by rfl) BT.n_isinstance bo_isinstance (pa_cons (pv 4) (pa_cons (pe_bltn (v := .ty "list") (by rfl) BT.n_list bo_list rfl) pa_nil))))) (pw_or1 (pt_not (pt_val (pe_callB (call_isinst) (by rfl) BT.n_isinstance bo_isinstance (pa_cons (pv 5) (pa_cons (pe_bltn (v := .ty "list") (by rfl) BT.n_list bo_list rfl) pa_nil))))))))
          (pss_one (ps_ret pe_bl))
          pss_nil)
        (pss_cons (ps_if (pt_cmpR (op_neNil hr) (pe_comp rfl (pi_list (pe_op op_cat (pv 4) (pv 5))) (csc_of (M := ["_law_statement", "_law_place", "_law_due", "_law_one", "_law_here", "_law_there", "_law_unlike"]) rfl (by decide +kernel) (by decide +kernel)) (fun _ _ _ _ => (pts_one (pt_not (pt_val (pe_call G_L_whole (hr) (by rfl) D_L_whole.m D_L_whole.F.kp D_L_whole.b .nil pass0 (pa_cons (pv 0) pa_nil)))))) (fun _ _ _ _ => (pv 0))) (pe_lst pa_nil) (nomark _))
          (pss_one (ps_ret pe_bl))
          pss_nil)
        (pss_cons (ps_setC (i := 6) sc_L_in_turn.nd rfl (by first | exact Or.inl rfl | exact Or.inr rfl) rfl (pi_range1 (by rfl) BT.n_range (pa_cons pe_int pa_nil)) (csc_of (M := ["_law_statement", "_law_place", "_law_due", "_law_one", "_law_here", "_law_there", "_law_unlike"]) rfl (by decide +kernel) (by decide +kernel)) (fun _ _ _ _ => (pts_one (pt_cmpR op_ne (pe_cmpR (op_in_seqK (K := K) rfl) (pv 0) (pv 5) (by with_unfolding_all rfl)) (pe_cmpR (op_in_seqK (K := K) rfl) (pv 0) (pv 6) (by with_unfolding_all rfl)) (nomark _)))) (fun _ _ _ _ => (pv 0)) (by rfl))
        (pss_one (ps_if (PW.pt (pw_or (pt_cmpR (op_eqNil hr) (pv 6) (pe_lst pa_nil) (nomark _)) (pw_or1 (pt_cmpR op_in_seq (pe_ix ix_list (pv 6) pe_int (fun _ _ => rfl)) (pv 4) (by with_unfolding_all rfl)))))
          (pss_one (ps_ret pe_bl))
          pss_nil)))))))
        pss_nil)))
    (pss_one (ps_ret pe_bl))), ?_⟩
    clear G1 G_L_whole G_way_at D_L_whole D_way_at D
    refine seq_as fun R1 hR1 => ?_
    simp only [rdA, rd_forL, rd_forR, rd_compT, rd_compL, rd_compR, rd_tyes, rd_seq, rd_if, rd_kget, rd_kin, rd_fldP, rd_make, rd_slS, cx_w, cx_w2]
    obtain ⟨due, hd⟩ : ∃ d, wct 40 0 (tr A) = d := ⟨_, rfl⟩
    rw [hd]
    intro p h_p
    have s_p := Same.new (o := HO.lst [V.int pl, V.int 0, V.int (((due : Nat) : Int) - 2)]) h_p
    have i_p := @upd_same H p (HO.lst [V.int pl, V.int 0, V.int (((due : Nat) : Int) - 2)])
    generalize upd H p (HO.lst [V.int pl, V.int 0, V.int (((due : Nat) : Int) - 2)]) = HA at *
    refine ⟨⟨_, SqL.of i_p⟩, ?_⟩
    refine for_list (K := K) (xs := [V.int pl, V.int 0, V.int (((due : Nat) : Int) - 2)]) (TuInv P1 H x A pl ((due : Nat) : Int) p [V.int pl, V.int 0, V.int (((due : Nat) : Int) - 2)]) ⟨none, none, none, none, rfl, S1.of s_p, hT.same s_p, DT.to hx s_p.tk, i_p⟩ (fun i σ Hn _ ⟨_, _, _, _, _, _, _, _, h⟩ => SqL.of h) ?_ ?_
    · clear hR1 i_p s_p
      rintro i v σ H2 hv ⟨o3, o4, o5, o6, rfl, s2, t2, x2, hp⟩
      obtain ⟨kk, rfl⟩ : ∃ kk : Int, v = .int kk := by
        have hm := List.mem_of_getElem? hv
        simp only [List.mem_cons, List.not_mem_nil, or_false] at hm
        rcases hm with rfl | rfl | rfl <;> exact ⟨_, rfl⟩
      simp only [rd_name, List.set_cons_succ, List.set_cons_zero]
      refine if_as fun RA RB hA hB => ?_
      simp only [rdA, rd_forL, rd_forR, rd_compT, rd_compL, rd_compR, rd_tyes, rd_seq, rd_if, rd_kget, rd_kin, rd_fldP, rd_make, rd_slS, cx_w, cx_w2]
      have rb : RB [some x, some (V.int pl), some (V.int ((due : Nat) : Int)), some (V.int kk), o4, o5, o6] H2 := by
        subst hB
        simp only [rdA, rd_forL, rd_forR, rd_compT, rd_compL, rd_compR, rd_tyes, rd_seq, rd_if, rd_kget, rd_kin, rd_fldP, rd_make, rd_slS, cx_w, cx_w2]
        exact ⟨_, _, _, _, rfl, s2, t2, x2, hp⟩
      refine ite2 (fun h0 => ite2 (fun h1 => ?_) fun _ => rb) fun _ => rb
      clear rb hB
      subst hA
      have k0 := of_decide_eq_true h0
      have k1 := of_decide_eq_true h1
      clear h0 h1
      obtain ⟨m, rfl⟩ := Int.eq_ofNat_of_zero_le k0
      refine seq_as fun R2 hR2 => ?_
      simp only [rdA, rd_forL, rd_forR, rd_compT, rd_compL, rd_compR, rd_tyes, rd_seq, rd_if, rd_kget, rd_kin, rd_fldP, rd_make, rd_slS, cx_w, cx_w2]
      refine ⟨L, x, A, 40, ((m : Nat) : Int), rfl, x2, SM.sz, SM.sw, SM.ln, SM.sm, by decide, t2, fun _ _ _ hno => (hno (by rw [hd]; omega)).elim, fun l1 a H3 up T3 _ ha hl1 => ?_⟩
      rw [Int.toNat_natCast] at ha
      replace hp := up.at t2 hp (fun _ z => by cases z)
      replace x2 := DT.to x2 (up.tk t2)
      replace s2 := s2.trans up
      subst hR2
      refine seq_as fun R2 hR2 => ?_
      simp only [rdA, rd_forL, rd_forR, rd_compT, rd_compL, rd_compR, rd_tyes, rd_seq, rd_if, rd_kget, rd_kin, rd_fldP, rd_make, rd_slS, cx_w, cx_w2]
      refine ⟨L, x, A, 40, ((m : Nat) : Int) + 1, rfl, x2, SM.sz, SM.sw, SM.ln, SM.sm, by decide, T3, fun _ _ _ hno => (hno (by rw [hd]; omega)).elim, fun l2 b H4 up4 T4 _ hb hl2 => ?_⟩
      rw [show (((m : Nat) : Int) + 1).toNat = m + 1 by omega] at hb
      replace hl1 := up4.at T3 hl1 (fun _ z => by cases z)
      replace hp := up4.at T3 hp (fun _ z => by cases z)
      replace x2 := DT.to x2 (up4.tk T3)
      replace s2 := s2.trans up4
      clear T3 up up4 t2
      have ra := hits_next ha hb
      have ina := hits_in (List.mem_of_getElem? ha)
      have inb := hits_in (List.mem_of_getElem? hb)
      have lea := hits_le40 (List.mem_of_getElem? ha)
      have leb := hits_le40 (List.mem_of_getElem? hb)
      subst hR2
      refine seq_as fun R2 hR2 => ?_
      simp only [rdA, rd_forL, rd_forR, rd_compT, rd_compL, rd_compR, rd_tyes, rd_seq, rd_if, rd_kget, rd_kin, rd_fldP, rd_make, rd_slS, cx_w, cx_w2]
      refine ⟨_, .lst hl1, _, kit_same K "list", iteF ⟨_, .lst hl2, _, kit_same K "list", iteF ?_⟩⟩
      subst hR2
      refine seq_as fun R2 hR2 => ?_
      simp only [rdA, rd_forL, rd_forR, rd_compT, rd_compL, rd_compR, rd_tyes, rd_seq, rd_if, rd_kget, rd_kin, rd_fldP, rd_make, rd_slS, cx_w, cx_w2]
      refine ⟨_, hl1, _, hl2, Nat.le_of_lt (small1000 (by rw [List.length_map, List.length_map]; omega)), fun q1 hq1 => ⟨⟨_, SqL.of upd_same⟩, fun d hd1 => ?_⟩⟩
      have z1 := Same.new (o := HO.lst (a.map V.int ++ b.map V.int)) hq1
      have iq1 := @upd_same H4 q1 (HO.lst (a.map V.int ++ b.map V.int))
      generalize upd H4 q1 (HO.lst (a.map V.int ++ b.map V.int)) = H5 at z1 iq1 hd1 ⊢
      refine comp_filt (xs := a.map V.int ++ b.map V.int) iq1 hd1 (by simp; omega) (fun _ => false) (fun y hy o R r => ?_) (fun y H2 R r => ?_) ?_
      · obtain ⟨n, rfl⟩ : ∃ n, y = V.int n := by
          rcases List.mem_append.mp hy with h | h <;> obtain ⟨n, _, rfl⟩ := List.mem_map.mp h <;> exact ⟨n, rfl⟩
        simp only [rdA, rd_forL, rd_forR, rd_compT, rd_compL, rd_compR, rd_tyes, rd_seq, rd_if, rd_kget, rd_kin, rd_fldP, rd_make, rd_slS, cx_w, cx_w2]
        exact ⟨n, rfl, _, rfl, r⟩
      · simp only [rdA, rd_forL, rd_forR, rd_compT, rd_compL, rd_compR, rd_tyes, rd_seq, rd_if, rd_kget, rd_kin, rd_fldP, rd_make, rd_slS, cx_w, cx_w2]
        exact r
      · have z2 := Same.new (o := HO.lst ((a.map V.int ++ b.map V.int).filter fun _ => false)) hd1
        have id1 := @upd_same H5 d (HO.lst ((a.map V.int ++ b.map V.int).filter fun _ => false))
        rw [show ((a.map V.int ++ b.map V.int).filter fun _ => false) = [] by simp] at z2 id1 ⊢
        generalize upd H5 d (HO.lst []) = H6 at z2 id1 ⊢
        intro q2 hq2
        have z3 := Same.new (o := HO.lst []) hq2
        refine ⟨d, rfl, _, z3 _ _ id1, upd_same, ?_⟩
        generalize upd H6 q2 (HO.lst []) = H7 at z3 ⊢
        rw [if_neg (by decide)]
        have zz := z1.trans (z2.trans z3)
        replace hl1 := zz _ _ hl1
        replace hl2 := zz _ _ hl2
        replace hp := zz _ _ hp
        replace x2 := DT.to x2 zz.tk
        replace s2 := s2.trans (S1.of zz)
        replace T4 := T4.same zz
        clear z1 z2 z3 iq1 id1 hq1 hq2 hd1 zz
        subst hR2
        refine seq_as fun R2 hR2 => ?_
        simp only [rdA, rd_forL, rd_forR, rd_compT, rd_compL, rd_compR, rd_tyes, rd_seq, rd_if, rd_kget, rd_kin, rd_fldP, rd_make, rd_slS, cx_w, cx_w2]
        refine ⟨by decide, by decide, fun d hd1 => ?_⟩
        have n1 : l1 ≠ d := ne_of_none hl1 hd1
        have n2 : l2 ≠ d := ne_of_none hl2 hd1
        refine comp_rfilt hd1 (by decide) (fun k => decide ((k : Int) ∈ a) != decide ((k : Int) ∈ b)) (fun i o R hi r => ?_) (fun y H2 R r => ?_) ?_
        · simp only [rdA, rd_forL, rd_forR, rd_compT, rd_compL, rd_compR, rd_tyes, rd_seq, rd_if, rd_kget, rd_kin, rd_fldP, rd_make, rd_slS, cx_w, cx_w2, rd_neB]
          refine ⟨_, .inl (SqL.of ((upd_ne n1).trans hl1)), rfl, flat_ints a, _, .inl (SqL.of ((upd_ne n2).trans hl2)), rfl, flat_ints b, ?_⟩
          rw [in_ints, in_ints]
          rw [show (!decide (decide (((i : Nat) : Int) ∈ a) = decide (((i : Nat) : Int) ∈ b))) = (decide (((i : Nat) : Int) ∈ a) != decide (((i : Nat) : Int) ∈ b)) by cases decide (((i : Nat) : Int) ∈ a) <;> cases decide (((i : Nat) : Int) ∈ b) <;> rfl]
          exact r
        · simp only [rdA, rd_forL, rd_forR, rd_compT, rd_compL, rd_compR, rd_tyes, rd_seq, rd_if, rd_kget, rd_kin, rd_fldP, rd_make, rd_slS, cx_w, cx_w2]
          exact r
        · obtain ⟨kf, rr, ef, nf⟩ := ahead_first ra (fun t ht => by have := inb t ht; omega)
          rw [show Int.toNat 40 = 40 from rfl, ef]
          have z1 := Same.new (o := HO.lst ((kf :: rr).map fun (k : Nat) => V.int (k : Int))) hd1
          have id1 := @upd_same H7 d (HO.lst ((kf :: rr).map fun (k : Nat) => V.int (k : Int)))
          generalize upd H7 d (HO.lst ((kf :: rr).map fun (k : Nat) => V.int (k : Int))) = H8 at z1 id1 ⊢
          subst hR2
          simp only [rdA, rd_forL, rd_forR, rd_compT, rd_compL, rd_compR, rd_tyes, rd_seq, rd_if, rd_kget, rd_kin, rd_fldP, rd_make, rd_slS, cx_w, cx_w2]
          intro q2 hq2
          have z2 := Same.new (o := HO.lst []) hq2
          refine ⟨_, z2 _ _ id1, upd_same, ?_⟩
          generalize upd H8 q2 (HO.lst []) = H9 at z2 ⊢
          rw [if_neg (by simp)]
          have zz := z1.trans z2
          refine ⟨_, SqL.of (z2 _ _ id1), _, atI0 _ _, _, .inl (SqL.of (zz _ _ hl1)), rfl, flat_ints a, ?_⟩
          rw [in_ints, if_neg (by simpa using nf)]
          exact ⟨_, _, _, _, rfl, s2.trans (S1.of zz), T4.same zz, DT.to x2 zz.tk, zz _ _ hp⟩
    · rintro σ Hn ⟨o3, o4, o5, o6, rfl, s2, t2, x2, hp⟩
      dsimp only
      subst hR1
      simp only [rdA, rd_forL, rd_forR, rd_compT, rd_compL, rd_compR, rd_tyes, rd_seq, rd_if, rd_kget, rd_kin, rd_fldP, rd_make, rd_slS, cx_w, cx_w2]
      exact q _ s2 t2
end
end Nt
end CN
end
section
set_option Elab.async false
set_option linter.all false
set_option maxRecDepth 100000
set_option maxHeartbeats 4000000
namespace L2
open PySem PySem.Spec PyProof.Rows
theorem bo_sorted : bootBuiltins "sorted" = some (.builtin "sorted") := by decide +kernel
theorem bo_set : bootBuiltins "set" = some (.type "set") := by decide +kernel
noncomputable def rLNe : R2 := fun x y H Q => ∃ d e, DL H x d ∧ DL H y e ∧ d.canLay0 = true ∧ e.canLay0 = true ∧ min d.depth e.depth ≤ 200 ∧ Q (.bl (!PyData.eqv d e)) H
theorem op_lne {X : Cx} {k : Nat} (hr : Room k X.A) : OpR X (compareOp .NotEq) rLNe := by
  intro pins s σ H x y v u Q I rx ry h
  obtain ⟨d, e, hd, he, l1, l2, dp, q⟩ := h
  obtain ⟨as, ra⟩ := dl_reads I.hok d x v hd rx
  obtain ⟨bs, rb⟩ := dl_reads I.hok e y u he ry
  have := hr.un
  exact SeqAt.compareNe_reads ra rb l1 l2 (by omega) ⟨.bl _, H, I, rfl, q⟩
end L2
namespace CN
open PySem L2
seal L2.PE L2.PT L2.PS L2.PSs L2.PA L2.PPs L2.PW L2.PC L2.PG L2.PGs L2.PI L2.PO L2.PTs
namespace Nt
noncomputable abbrev s_law : Stmt := top 24
noncomputable abbrev p_law : List Str := ["_law_script"]
theorem sc_law : FnScope ["_law_script", "_law_way", "_law_switches", "_law_cell", "_law_total", "_law_rest", "_law_k", "_law_due", "_law_statement", "_law_found", "_law_place", "_law_told", "_law_switch"] ["_law_script"] (defScope s_law) := ⟨rfl, rfl, rfl, by decide +kernel, rfl, by decide +kernel, by decide +kernel⟩
noncomputable def bnd (wy : Nat) : Nat := match wy with
  | 0 => 6
  | 1 => 6
  | 2 => 3
  | _ => 4
structure Swi (wy : Nat) (L : List Int) : Prop where
  nd : L.Nodup
  lo : ∀ t ∈ L, 0 ≤ t ∧ t < 40
  le : L.length ≤ bnd wy
theorem bnd_le (wy : Nat) : bnd wy ≤ 6 := by unfold bnd; split <;> decide
theorem bnd_at {wy : Nat} (h : wy < 4) : atI [V.int 6, V.int 6, V.int 3, V.int 4] ((wy : Nat) : Int) = some (.int (bnd wy : Nat)) := by
  refine atI_nat ?_
  match wy, h with
  | 0, _ => rfl
  | 1, _ => rfl
  | 2, _ => rfl
  | 3, _ => rfl
theorem Swi.add {wy : Nat} {L : List Int} (h : Swi wy L) {n : Int} (hn : n ∉ L) (h0 : 0 ≤ n) (h1 : n < 40) (hl : L.length < bnd wy) : Swi wy (L ++ [n]) := by
  refine ⟨List.nodup_append.mpr ⟨h.nd, by simp, fun a ha b hb z => ?_⟩, fun t ht => ?_, by simp; omega⟩
  · rw [List.mem_singleton] at hb
    subst hb; subst z; exact hn ha
  · rcases List.mem_append.mp ht with z | z
    · exact h.lo t z
    · rw [List.mem_singleton] at z; subst z; exact ⟨h0, h1⟩
theorem due_pos {wy r rest : Nat} (h0 : 0 < r) (hr : 0 < rest) : 0 < dueN wy r rest := by
  have : 2 ^ 1 ≤ 2 ^ r := Nat.pow_le_pow_right (by decide) h0
  unfold dueN
  split
  · exact hr
  · exact Nat.mul_pos hr (by omega)
  · exact Nat.mul_pos hr (Nat.pow_pos (by decide))
  · exact Nat.mul_pos hr h0
theorem due_at {wy r rest : Nat} (hw : wy < 4) (h0 : 0 < r) (hr : rest * 2 ^ r = 2 ^ 40) :
    atI [V.int ((rest : Nat) : Int), V.int (((2 ^ 40 : Nat) : Int) - ((rest : Nat) : Int)), V.int (((2 ^ 40 : Nat) : Int) / 2), V.int (((rest : Nat) : Int) * ((r : Nat) : Int))] ((wy : Nat) : Int) = some (.int (dueN wy r rest : Nat)) := by
  refine atI_nat ?_
  have hp : 2 ^ r = 2 * 2 ^ (r - 1) := by
    obtain ⟨q, rfl⟩ : ∃ q, r = q + 1 := ⟨r - 1, by omega⟩
    rw [Nat.pow_succ, Nat.mul_comm]; rfl
  match wy, hw with
  | 0, _ => rfl
  | 1, _ =>
    have e : dueN 1 r rest = 2 ^ 40 - rest := by show rest * (2 ^ r - 1) = _; rw [Nat.mul_sub, Nat.mul_one, hr]
    have le : rest ≤ 2 ^ 40 := by rw [← hr]; exact Nat.le_mul_of_pos_right _ (Nat.pow_pos (by decide))
    rw [e]
    show some (V.int (((2 ^ 40 : Nat) : Int) - ((rest : Nat) : Int))) = _
    rw [Int.ofNat_sub le]
  | 2, _ =>
    have e : 2 ^ 40 / 2 = dueN 2 r rest := by
      show _ = rest * 2 ^ (r - 1)
      rw [← hr, hp, ← Nat.mul_assoc, Nat.mul_comm rest 2, Nat.mul_assoc, Nat.mul_div_cancel_left _ (by decide)]
    show some (V.int (((2 ^ 40 : Nat) : Int) / 2)) = _
    rw [← e]; rfl
  | 3, _ => show some (V.int (((rest : Nat) : Int) * ((r : Nat) : Int))) = some (V.int ((rest * r : Nat) : Int)); rw [Int.natCast_mul]
theorem dls_ints {H : Hp} : ∀ l : List Int, DLs H (l.map V.int) (l.map PyData.int)
  | [] => .nil
  | i :: l => .cons (.of (.int i)) (dls_ints l)
theorem eqv_ints : ∀ l : List Int, PyData.eqvAll (l.map PyData.int) (l.map PyData.int) = true
  | [] => by simp [PyData.eqvAll]
  | i :: l => by simp [PyData.eqvAll, PyData.eqv, eqv_ints l]
theorem lay_ints : ∀ l : List Int, PyData.canLayAll0 (l.map PyData.int) = true
  | [] => by simp [PyData.canLayAll0]
  | i :: l => by simp [PyData.canLayAll0, PyData.canLay0, lay_ints l]
theorem dep_ints : ∀ l : List Int, PyData.depthAll (l.map PyData.int) ≤ 5
  | [] => by simp [PyData.depthAll]
  | i :: l => by
    have := dep_ints l
    simp only [List.map_cons, PyData.depthAll, PyData.depth]
    omega
structure Dn8 (K : PySem.W.Frag) (P1 a d : Addr) (ns : List Int) (L : List Int) (x : V) (A : Stm) (H : Hp) : Prop where
  hl : SqL K H a (ns.map V.int)
  hd : H d = some (.lst (L.map V.int))
  hx : IsSt H x A
  hT : T1 P1 H
theorem Dn8.up {K : PySem.W.Frag} {P1 a d : Addr} {ns L : List Int} {x : V} {A : Stm} {H H' : Hp} (D : Dn8 K P1 a d ns L x A H) (s : S1 P1 H H') (t : T1 P1 H') : Dn8 K P1 a d ns L x A H' :=
  ⟨s.seq D.hT D.hl, s.at D.hT D.hd (fun _ z => by cases z), DT.to D.hx (s.tk D.hT), t⟩
theorem Dn8.same {K : PySem.W.Frag} {P1 a d : Addr} {ns L : List Int} {x : V} {A : Stm} {H H' : Hp} (D : Dn8 K P1 a d ns L x A H) (s : Same H H') : Dn8 K P1 a d ns L x A H' := D.up (S1.of s) (D.hT.same s)
section
variable {P : Program} {w : World} {K : PySem.W.Frag} {mg : Str → Option Value} {base : Heap}
inductive SwInv (H : Hp) (a : Addr) (wy : Nat) (d q : Addr) (xs : List V) (i : Nat) (σ : St) (H2 : Hp) : Prop
  | mk (L : List Int) (o3 : Option V) (h0 : σ = [some (.ref a), some (.int (wy : Nat)), some (.ref d), o3, none, none, none, none, none, none, none, none, none]) (h1 : Same H H2) (h2 : H2 d = some (.lst (L.map V.int))) (h3 : H2 q = some (.lst xs)) (h4 : Swi wy L) : SwInv H a wy d q xs i σ H2
inductive DbInv (a : Addr) (wy : Nat) (d : Addr) (o3 : Option V) (L : List Int) (H : Hp) (i : Nat) (σ : St) (H2 : Hp) : Prop
  | mk (rest : Nat) (o6 : Option V) (h0 : σ = [some (.ref a), some (.int (wy : Nat)), some (.ref d), o3, some (.int ((2 ^ i : Nat) : Int)), some (.int (rest : Nat)), o6, none, none, none, none, none, none]) (h1 : H2 = H) (h2 : rest * 2 ^ ltc L i = 2 ^ i) : DbInv a wy d o3 L H i σ H2
inductive ChInv (v0 v1 v2 v3 v4 v5 v6 v7 v8 v9 v10 v11 : Option V) (H : Hp) (i : Nat) (σ : St) (H2 : Hp) : Prop
  | mk (o12 : Option V) (h0 : σ = [v0, v1, v2, v3, v4, v5, v6, v7, v8, v9, v10, v11, o12]) (h1 : H2 = H) : ChInv v0 v1 v2 v3 v4 v5 v6 v7 v8 v9 v10 v11 H i σ H2
noncomputable def spLaw8 (K : PySem.W.Frag) (P1 : Addr) : Sp := fun vs H Q _ => ∃ (a : Addr) (ns : List Int), vs = [.ref a] ∧ SqL K H a (ns.map V.int) ∧ ns.length ≤ 63 ∧ T1 P1 H ∧ ∀ H', Q (.bl true) H'
theorem ok_law8 {k : Nat} {P1 CW f f1 f2 f3 f4 f5 f6 f7 : Addr} {fd fd1 fd2 fd3 fd4 fd5 fd6 fd7 : FuncData} (hk : 2 ≤ k) (BT : Bt mg) (n_sorted : mg "sorted" = none) (n_set : mg "set" = none)
    (D_L_at : Df K mg "_law_at" s_L_at p_L_at f1 fd1) (G1 : FnOk P w K mg base CX0 1 f1 fd1 p_L_at (spAt K))
    (D_L_whole : Df K mg "_law_whole" s_L_whole p_L_whole f2 fd2) (G2 : FnOk P w K mg base CX0 1 f2 fd2 p_L_whole spWhole)
    (D_L_joined : Df K mg "_law_joined" s_L_joined p_L_joined f3 fd3) (G3 : FnOk P w K mg base CX0 1 f3 fd3 p_L_joined spJoin)
    (D_L_fits : Df K mg "_law_fits" s_L_fits p_L_fits f4 fd4) (G4 : FnOk P w K mg base CX0 1 f4 fd4 p_L_fits spFits)
    (D_how_many : Df K mg "how_many" s_how_many p_how_many f5 fd5) (G_how_many : FnOk P w K mg base CX0 k f5 fd5 p_how_many (spMany P1))
    (D_way_at : Df K mg "way_at" s_way_at p_way_at f6 fd6) (G_way_at : FnOk P w K mg base (CXe P w) k f6 fd6 p_way_at (spWayAt P1 CW))
    (D_L_in_turn : Df K mg "_law_in_turn" s_L_in_turn p_L_in_turn f7 fd7) (G_L_in_turn : FnOk P w K mg base CX0 k f7 fd7 p_L_in_turn (spTurn P1))
    (D : Df K mg "law" s_law p_law f fd) : FnOk P w K mg base CX0 (k + 1) f fd p_law (spLaw8 K P1) := by
  have h1 : 1 ≤ k := Nat.le_trans (by decide) hk
  have G_L_at := G1.mono h1
  have G_L_whole := G2.mono h1
  have G_L_joined := G3.mono h1
  have G_L_fits := G4.mono h1
  refine D.F.ok sc_law (fun vs H Q E h => ?_) (fun cdv A outer s H vs Q E hr h => ?_)
  · obtain ⟨a, ns, rfl, _⟩ := h
    rfl
  · obtain ⟨a, ns, rfl, hl, hn, hT, q⟩ := h
    refine ⟨_, (pss_cons (ps_set (i := 1) sc_law.nd rfl (by first | exact Or.inl rfl | exact Or.inr rfl) (pe_op op_mod (pe_call G_L_at (hr) (by rfl) D_L_at.m D_L_at.F.kp D_L_at.b .nil pass0 (pa_cons (pv 0) (pa_cons pe_int pa_nil))) pe_int))
    (pss_cons (ps_set (i := 2) sc_law.nd rfl (by first | exact Or.inl rfl | exact Or.inr rfl) (pe_lst pa_nil))
    (pss_cons (ps_for PassesOwn.never rfl (pi_list (pe_slice sl_list (pv 0) (po_some pe_int) po_none)) (pg_name (i := 3) sc_law.nd rfl (by first | exact Or.inl rfl | exact Or.inr rfl))
      (pss_one (ps_if (PW.pt (pw_and (pt_cmpR op_notIn_seq (pe_op op_mod (pv 3) pe_int) (pv 2) (by with_unfolding_all rfl)) (pw_and1 (pt_cmpR op_lt (pe_callB call_len_seq (by rfl) BT.n_len bo_len (pa_cons (pv 2) pa_nil)) (pe_ix ix_list (pe_lst (pa_cons pe_int (pa_cons pe_int (pa_cons pe_int (pa_cons pe_int pa_nil))))) (pv 1) (fun _ _ => rfl)) (nomark _)))))
        (pss_one (ps_expr (pe_bm PySem.F.plainAttrs_list PySem.F.slot_list_append PySem.F.type_list_append mt_append (pv 2) (pa_cons (pe_op op_mod (pv 3) pe_int) pa_nil))))
        pss_nil)))
    (pss_cons (ps_if (pt_cmpR (op_eqNil hr) (pv 2) (pe_lst pa_nil) (nomark _))
      (pss_one (ps_set (i := 2) sc_law.nd rfl (by first | exact Or.inl rfl | exact Or.inr rfl) (pe_lst (pa_cons pe_int pa_nil))))
      pss_nil)
    (pss_cons (ps_set (i := 4) sc_law.nd rfl (by first | exact Or.inl rfl | exact Or.inr rfl) pe_int)
    (pss_cons (ps_set (i := 5) sc_law.nd rfl (by first | exact Or.inl rfl | exact Or.inr rfl) pe_int)
    (pss_cons (ps_for PassesOwn.never rfl (pi_range1 (by rfl) BT.n_range (pa_cons pe_int pa_nil)) (pg_name (i := 6) sc_law.nd rfl (by first | exact Or.inl rfl | exact Or.inr rfl))
      (pss_cons (ps_set (i := 4) sc_law.nd rfl (by first | exact Or.inl rfl | exact Or.inr rfl) (pe_op op_mul pe_int (pv 4)))
      (pss_one (ps_if (pt_cmpR op_notIn_seq (pv 6) (pv 2) (by with_unfolding_all rfl))
        (pss_one (ps_set (i := 5) sc_law.nd rfl (by first | exact Or.inl rfl | exact Or.inr rfl) (pe_op op_mul pe_int (pv 5))))
        pss_nil))))
    (pss_cons (ps_set (i := 7) sc_law.nd rfl (by first | exact Or.inl rfl | exact Or.inr rfl) (pe_ix ix_list (pe_lst (pa_cons (pv 5) (pa_cons (pe_op op_sub (pv 4) (pv 5)) (pa_cons (pe_op op_fdiv (pv 4) pe_int) (pa_cons (pe_op op_mul (pv 5) (pe_callB call_len_seq (by rfl) BT.n_len bo_len (pa_cons (pv 2) pa_nil))) pa_nil))))) (pv 1) (fun _ _ => rfl)))
    (pss_cons (ps_set (i := 8) sc_law.nd rfl (by first | exact Or.inl rfl | exact Or.inr rfl) (pe_call G_L_joined (hr) (by rfl) D_L_joined.m D_L_joined.F.kp D_L_joined.b .nil pass0 (pa_cons (pv 2) (pa_cons (pv 1) pa_nil))))
    (pss_cons (ps_set (i := 9) sc_law.nd rfl (by first | exact Or.inl rfl | exact Or.inr rfl) (pe_call G_how_many (hr) (by rfl) D_how_many.m D_how_many.F.kp D_how_many.b .nil pass0 (pa_cons (pv 8) (pa_cons pe_int pa_nil))))
    (pss_cons (ps_if (PW.pt (pw_or (pt_not (pt_val (pe_call G_L_whole (hr) (by rfl) D_L_whole.m D_L_whole.F.kp D_L_whole.b .nil pass0 (pa_cons (pv 9) pa_nil)))) (pw_or1 (pt_cmpR op_ne (pv 9) (pv 7) (nomark _)))))
      (pss_one (ps_ret pe_bl))
      pss_nil)
    (pss_cons (ps_set (i := 10) sc_law.nd rfl (by first | exact Or.inl rfl | exact Or.inr rfl) (pe_op op_mod (pe_op op_mul (pe_call G_L_at (hr) (by rfl) D_L_at.m D_L_at.F.kp D_L_at.b .nil pass0 (pa_cons (pv 0) (pa_cons pe_int pa_nil))) (pe_op op_pow pe_int pe_int)) (pv 7)))
    (pss_cons (ps_set (i := 11) sc_law.nd rfl (by first | exact Or.inl rfl | exact Or.inr rfl) (pe_call G_way_at hr (by rfl) D_way_at.m D_way_at.F.kp D_way_at.b .nil pass1 (pa_cons (pv 8) (pa_cons pe_int (pa_cons (pv 10) pa_nil)))))
    (pss_cons (ps_if (pt_not (pt_val (pe_call G_L_in_turn (hr) (by rfl) D_L_in_turn.m D_L_in_turn.F.kp D_L_in_turn.b .nil pass0 (pa_cons (pv 8) (pa_cons (pv 10) (pa_cons (pv 7) pa_nil))))))
      (pss_one (ps_ret pe_bl))
      pss_nil)
    (pss_cons (ps_if (pt_not (pt_val (pe_callB (call_isinst) (by rfl) BT.n_isinstance bo_isinstance (pa_cons (pv 11) (pa_cons (pe_bltn (v := .ty "list") (by rfl) BT.n_list bo_list rfl) pa_nil)))))
      (pss_one (ps_ret pe_bl))
      pss_nil)
    (pss_cons (ps_for PassesOwn.never rfl (pi_list (pv 11)) (pg_name (i := 12) sc_law.nd rfl (by first | exact Or.inl rfl | exact Or.inr rfl))
      (pss_one (ps_if (PW.pt (pw_or (pt_not (pt_val (pe_call G_L_whole (hr) (by rfl) D_L_whole.m D_L_whole.F.kp D_L_whole.b .nil pass0 (pa_cons (pv 12) pa_nil)))) (pw_or (pt_cmpR op_lt (pv 12) pe_int (nomark _)) (pw_or1 (pt_cmpR op_gt (pv 12) pe_int (nomark _))))))
        (pss_one (ps_ret pe_bl))
        pss_nil)))
    (pss_cons (ps_if (pt_cmpR (op_lne hr) (pe_callB (call_sortedS rfl) (by rfl) n_sorted bo_sorted (pa_cons (pe_callTy (call_setI rfl) (by rfl) n_set bo_set (pa_cons (pv 11) pa_nil)) pa_nil)) (pv 11) (nomark _))
      (pss_one (ps_ret pe_bl))
      pss_nil)
    (pss_one (ps_ret (pe_call G_L_fits (hr) (by rfl) D_L_fits.m D_L_fits.F.kp D_L_fits.b .nil pass0 (pa_cons (pv 2) (pa_cons (pv 1) (pa_cons (pv 11) pa_nil))))))))))))))))))))))), ?_⟩
    clear G1 G2 G3 G4 G_L_at G_L_whole G_L_joined G_L_fits G_how_many G_way_at G_L_in_turn D_L_at D_L_whole D_L_joined D_L_fits D_how_many D_way_at D_L_in_turn D
    refine seq_as fun R1 hR1 => ?_
    simp only [rdA, rd_forL, rd_forR, rd_compT, rd_compL, rd_compR, rd_tyes, rd_seq, rd_if, rd_kget, rd_kin, rd_fldP, rd_make, rd_slS, cx_w, cx_w2]
    refine ⟨a, ns, 0, rfl, hl, fun c0 => ?_⟩
    simp only [rdA, rd_forL, rd_forR, rd_compT, rd_compL, rd_compR, rd_tyes, rd_seq, rd_if, rd_kget, rd_kin, rd_fldP, rd_make, rd_slS, cx_w, cx_w2]
    obtain ⟨wy, hw, ew⟩ : ∃ wy : Nat, wy < 4 ∧ c0 % 4 = ((wy : Nat) : Int) := ⟨(c0 % 4).toNat, by omega, by omega⟩
    rw [ew]
    clear ew c0
    subst hR1
    refine seq_as fun R1 hR1 => ?_
    simp only [rdA, rd_forL, rd_forR, rd_compT, rd_compL, rd_compR, rd_tyes, rd_seq, rd_if, rd_kget, rd_kin, rd_fldP, rd_make, rd_slS, cx_w, cx_w2]
    intro d0 hd0
    have s0 := Same.new (o := HO.lst []) hd0
    have id0 := @upd_same H d0 (HO.lst [])
    generalize upd H d0 (HO.lst []) = H1 at s0 id0 ⊢
    subst hR1
    refine seq_as fun R1 hR1 => ?_
    simp only [rdA, rd_forL, rd_forR, rd_compT, rd_compL, rd_compR, rd_tyes, rd_seq, rd_if, rd_kget, rd_kin, rd_fldP, rd_make, rd_slS, cx_w, cx_w2]
    refine ⟨_, s0.seq hl, fun q1 hq1 => ⟨⟨_, SqL.of upd_same⟩, ?_⟩⟩
    have cut : ∃ ns' : List Int, cutV (ns.map V.int) (some 2) none = ns'.map V.int := by
      refine ⟨(ns.drop (HT.sIx (ns.map V.int).length 0 (some ((2 : Nat) : Int)))).take (HT.sIx (ns.map V.int).length (ns.map V.int).length none - HT.sIx (ns.map V.int).length 0 (some ((2 : Nat) : Int))), ?_⟩
      unfold cutV; rw [List.map_take, List.map_drop]; rfl
    obtain ⟨cs, ecs⟩ := cut
    rw [ecs]
    have s1 := Same.new (o := HO.lst (cs.map V.int)) hq1
    have iq1 := @upd_same H1 q1 (HO.lst (cs.map V.int))
    have nq : q1 ≠ d0 := (ne_of_none id0 hq1).symm
    generalize upd H1 q1 (HO.lst (cs.map V.int)) = H2 at s1 iq1 ⊢
    refine for_list (K := K) (xs := cs.map V.int) (SwInv H a wy d0 q1 (cs.map V.int)) ⟨[], none, rfl, s0.trans s1, s1 _ _ id0, iq1, ⟨.nil, fun t ht => (by cases ht), Nat.zero_le _⟩⟩ (fun i σ Hn _ ⟨_, _, _, _, _, h, _⟩ => SqL.of h) ?_ ?_
    · clear hR1 s0 id0 s1 iq1 hq1
      rintro i y σ H3 hi ⟨L, o3, rfl, sm, hd, hq, SW⟩
      obtain ⟨n, rfl⟩ : ∃ n, y = V.int n := by
        obtain ⟨n, _, rfl⟩ := List.mem_map.mp (List.mem_of_getElem? hi)
        exact ⟨n, rfl⟩
      simp only [rd_name, List.set_cons_succ, List.set_cons_zero]
      refine if_as fun RA RB hA hB => ?_
      simp only [rdA, rd_forL, rd_forR, rd_compT, rd_compL, rd_compR, rd_tyes, rd_seq, rd_if, rd_kget, rd_kin, rd_fldP, rd_make, rd_slS, cx_w, cx_w2]
      have b6 := bnd_le wy
      have hle := SW.le
      have m0 : 0 ≤ n % 40 := Int.emod_nonneg _ (by decide)
      have m1 : n % 40 < 40 := Int.emod_lt_of_pos _ (by decide)
      obtain ⟨z, hz⟩ : ∃ z, n % 40 = z := ⟨_, rfl⟩
      refine ⟨_, .inl (SqL.of hd), rfl, flat_ints L, ?_⟩
      rw [in_ints, hz]
      rw [hz] at m0 m1
      have rb : ∀ H4, Same H3 H4 → RB [some (V.ref a), some (V.int ((wy : Nat) : Int)), some (V.ref d0), some (V.int n), none, none, none, none, none, none, none, none, none] H4 := fun H4 s4 => by
        subst hB
        simp only [rdA, rd_forL, rd_forR, rd_compT, rd_compL, rd_compR, rd_tyes, rd_seq, rd_if, rd_kget, rd_kin, rd_fldP, rd_make, rd_slS, cx_w, cx_w2]
        exact ⟨L, _, rfl, sm.trans s4, s4 _ _ hd, s4 _ _ hq, SW⟩
      refine ite2 (fun hnot => ?_) fun _ => rb _ (fun _ _ e => e)
      refine ⟨_, .inl (SqL.of hd), fun q2 hq2 => ⟨_, SqL.of upd_same, _, bnd_at hw, ?_⟩⟩
      have s4 := Same.new (o := HO.lst [V.int 6, V.int 6, V.int 3, V.int 4]) hq2
      generalize upd H3 q2 (HO.lst [V.int 6, V.int 6, V.int 3, V.int 4]) = H4 at s4 ⊢
      simp only [rdA, rd_forL, rd_forR, rd_compT, rd_compL, rd_compR, rd_tyes, rd_seq, rd_if, rd_kget, rd_kin, rd_fldP, rd_make, rd_slS, cx_w, cx_w2]
      refine ite2 (fun hlt => ?_) fun _ => rb _ s4
      subst hA
      simp only [rdA, rd_forL, rd_forR, rd_compT, rd_compL, rd_compR, rd_tyes, rd_seq, rd_if, rd_kget, rd_kin, rd_fldP, rd_make, rd_slS, cx_w, cx_w2, hz]
      have hlt' : L.length < bnd wy := by simpa using hlt
      refine ⟨⟨_, SqL.of (s4 _ _ hd)⟩, _, s4 _ _ hd, small1000 (by rw [List.length_map]; omega), ?_⟩
      refine ⟨L ++ [z], _, rfl, (sm.trans s4).mut hd0, by rw [List.map_append]; exact upd_same, (upd_ne nq).trans (s4 _ _ hq), SW.add (by simpa using hnot) m0 m1 hlt'⟩
    · clear s0 id0 s1 iq1 hq1 ecs nq hd0
      rintro σ H3 ⟨L, o3, rfl, sm, hd, hq, SW⟩
      replace hl := sm.seq hl
      replace hT := hT.same sm
      clear hq sm
      dsimp only
      subst hR1
      refine seq_as fun R1 hR1 => ?_
      simp only [rdA, rd_forL, rd_forR, rd_compT, rd_compL, rd_compR, rd_tyes, rd_seq, rd_if, rd_kget, rd_kin, rd_fldP, rd_make, rd_slS, cx_w, cx_w2]
      have fin : ∀ (d : Addr) (L : List Int) (H4 : Hp), SqL K H4 a (ns.map V.int) → T1 P1 H4 → H4 d = some (.lst (L.map V.int)) → Swi wy L → 0 < L.length → R1 [some (V.ref a), some (V.int ((wy : Nat) : Int)), some (V.ref d), o3, none, none, none, none, none, none, none, none, none] H4 := by
        clear hd SW L hl hT H3 d0
        intro d L H3 hl hT hd SW L0
        have b6 := bnd_le wy
        have hle := SW.le
        subst hR1
        refine seq_as fun R1 hR1 => ?_
        simp only [rdA, rd_forL, rd_forR, rd_compT, rd_compL, rd_compR, rd_tyes, rd_seq, rd_if, rd_kget, rd_kin, rd_fldP, rd_make, rd_slS, cx_w, cx_w2]
        subst hR1
        refine seq_as fun R1 hR1 => ?_
        simp only [rdA, rd_forL, rd_forR, rd_compT, rd_compL, rd_compR, rd_tyes, rd_seq, rd_if, rd_kget, rd_kin, rd_fldP, rd_make, rd_slS, cx_w, cx_w2]
        subst hR1
        refine seq_as fun R1 hR1 => ?_
        simp only [rdA, rd_forL, rd_forR, rd_compT, rd_compL, rd_compR, rd_tyes, rd_seq, rd_if, rd_kget, rd_kin, rd_fldP, rd_make, rd_slS, cx_w, cx_w2]
        refine ⟨by decide, by decide, ?_⟩
        refine for_range (lo := 0) (n := Int.toNat 40) (DbInv a wy d o3 L H3) ⟨1, none, rfl, rfl, by rw [ltc_zero SW.lo]⟩ ?_ ?_
        · clear hR1
          rintro i σ H4 hi ⟨rest, o6, rfl, rfl, er⟩
          simp only [rd_name, List.set_cons_succ, List.set_cons_zero, Int.zero_add]
          refine seq_as fun R2 hR2 => ?_
          simp only [rdA, rd_forL, rd_forR, rd_compT, rd_compL, rd_compR, rd_tyes, rd_seq, rd_if, rd_kget, rd_kin, rd_fldP, rd_make, rd_slS, cx_w, cx_w2]
          refine ⟨.inl ⟨by decide, by decide⟩, ?_⟩
          subst hR2
          have e2 : (2 : Int) * ((2 ^ i : Nat) : Int) = ((2 ^ (i + 1) : Nat) : Int) := by rw [Nat.pow_succ, Int.natCast_mul]; omega
          rw [e2]
          refine if_as fun RA RB hA hB => ?_
          simp only [rdA, rd_forL, rd_forR, rd_compT, rd_compL, rd_compR, rd_tyes, rd_seq, rd_if, rd_kget, rd_kin, rd_fldP, rd_make, rd_slS, cx_w, cx_w2]
          refine ⟨_, .inl (SqL.of hd), rfl, flat_ints L, ?_⟩
          rw [in_ints]
          refine ite2 (fun h => ?_) (fun h => ?_)
          · subst hA
            simp only [rdA, rd_forL, rd_forR, rd_compT, rd_compL, rd_compR, rd_tyes, rd_seq, rd_if, rd_kget, rd_kin, rd_fldP, rd_make, rd_slS, cx_w, cx_w2]
            refine ⟨.inl ⟨by decide, by decide⟩, 2 * rest, _, by rw [Int.natCast_mul]; rfl, rfl, ?_⟩
            rw [ltc_succ SW.nd, if_neg (by simpa using h), Nat.add_zero, Nat.pow_succ, Nat.mul_assoc, er, Nat.mul_comm]
          · subst hB
            simp only [rdA, rd_forL, rd_forR, rd_compT, rd_compL, rd_compR, rd_tyes, rd_seq, rd_if, rd_kget, rd_kin, rd_fldP, rd_make, rd_slS, cx_w, cx_w2]
            refine ⟨rest, _, rfl, rfl, ?_⟩
            rw [ltc_succ SW.nd, if_pos (by simpa using h), Nat.pow_succ, Nat.pow_succ, ← Nat.mul_assoc, er]
        · rintro σ H4 ⟨rest, o6, rfl, rfl, er⟩
          rw [show Int.toNat 40 = 40 from rfl] at er ⊢
          rw [ltc_all SW.lo] at er
          have r0 : 0 < rest := by
            rcases Nat.eq_zero_or_pos rest with z | z
            · rw [z, Nat.zero_mul] at er; exact absurd er (by decide)
            · exact z
          have rle : rest ≤ 2 ^ 40 := by rw [← er]; exact Nat.le_mul_of_pos_right _ (Nat.pow_pos (by decide))
          have hdue := due_at hw L0 er
          have dpos := due_pos (wy := wy) L0 r0
          dsimp only
          subst hR1
          refine seq_as fun R1 hR1 => ?_
          simp only [rdA, rd_forL, rd_forR, rd_compT, rd_compL, rd_compR, rd_tyes, rd_seq, rd_if, rd_kget, rd_kin, rd_fldP, rd_make, rd_slS, cx_w, cx_w2]
          refine ⟨_, .inl (SqL.of hd), .inl ⟨by omega, by omega⟩, fun p hp => ⟨_, SqL.of upd_same, .int (dueN wy L.length rest : Nat), ?_, ?_⟩⟩
          · rw [List.length_map]; exact hdue
          rw [List.length_map]
          generalize HO.lst [V.int ((rest : Nat) : Int), V.int (((2 ^ 40 : Nat) : Int) - ((rest : Nat) : Int)), V.int (((2 ^ 40 : Nat) : Int) / 2), V.int (((rest : Nat) : Int) * ((L.length : Nat) : Int))] = ob
          have z1 := Same.new (o := ob) hp
          generalize upd H4 p ob = H5 at z1 ⊢
          replace hl := z1.seq hl
          replace hT := hT.same z1
          replace hd := z1 _ _ hd
          clear z1 ob hdue rle hp
          have W3 : wy = 2 → L.length ≤ 3 := fun e => by subst e; exact SW.le
          subst hR1
          refine seq_as fun R1 hR1 => ?_
          simp only [rdA, rd_forL, rd_forR, rd_compT, rd_compL, rd_compR, rd_tyes, rd_seq, rd_if, rd_kget, rd_kin, rd_fldP, rd_make, rd_slS, cx_w, cx_w2]
          refine ⟨d, L, wy, rfl, hd, hw, by omega, W3, fun x A H6 s6 hx sz sw tA => ?_⟩
          have M : Dn8 K P1 a d ns L x A H6 := ⟨s6.seq hl, s6 _ _ hd, hx, hT.same s6⟩
          have SM : Sml L A := ⟨sz, sw, by omega, fun n hn => by have := SW.lo n hn; omega⟩
          have hdu : wct 40 0 (tr A) = dueN wy L.length rest := wct_due hw L0 (by omega) SW.nd SW.lo er tA
          clear s6 hl hd hx hT sz sw er r0
          subst hR1
          refine seq_as fun R1 hR1 => ?_
          simp only [rdA, rd_forL, rd_forR, rd_compT, rd_compL, rd_compR, rd_tyes, rd_seq, rd_if, rd_kget, rd_kin, rd_fldP, rd_make, rd_slS, cx_w, cx_w2]
          refine ⟨L, x, A, 40, rfl, M.hx, SM.sz, SM.sw, SM.ln, SM.sm, by decide, M.hT, fun H7 up7 T7 => ?_⟩
          replace M := M.up up7 T7
          rw [hdu]
          obtain ⟨due, hdd⟩ : ∃ q, dueN wy L.length rest = q := ⟨_, rfl⟩
          rw [hdd] at hdu dpos ⊢
          clear up7 T7 hdd
          subst hR1
          refine seq_as fun R1 hR1 => ?_
          simp only [rdA, rd_forL, rd_forR, rd_compT, rd_compL, rd_compR, rd_tyes, rd_seq, rd_if, rd_kget, rd_kin, rd_fldP, rd_make, rd_slS, cx_w, cx_w2]
          refine ⟨_, rfl, true, rfl, ?_⟩
          rw [if_neg (by decide), if_neg (by decide)]
          subst hR1
          refine seq_as fun R1 hR1 => ?_
          simp only [rdA, rd_forL, rd_forR, rd_compT, rd_compL, rd_compR, rd_tyes, rd_seq, rd_if, rd_kget, rd_kin, rd_fldP, rd_make, rd_slS, cx_w, cx_w2]
          refine ⟨a, ns, 1, rfl, M.hl, fun c1 => ?_⟩
          simp only [rdA, rd_forL, rd_forR, rd_compT, rd_compL, rd_compR, rd_tyes, rd_seq, rd_if, rd_kget, rd_kin, rd_fldP, rd_make, rd_slS, cx_w, cx_w2]
          refine ⟨⟨by decide, by decide, by decide⟩, .inr ⟨by decide, by decide⟩, by omega, ?_⟩
          have p0 : 0 ≤ (c1 * 10 ^ Int.toNat 9) % ((due : Nat) : Int) := Int.emod_nonneg _ (by omega)
          have p1 : (c1 * 10 ^ Int.toNat 9) % ((due : Nat) : Int) < ((due : Nat) : Int) := Int.emod_lt_of_pos _ (by omega)
          obtain ⟨pl, hpl⟩ := Int.eq_ofNat_of_zero_le p0
          rw [hpl] at p1 ⊢
          clear hpl p0 c1
          subst hR1
          refine seq_as fun R1 hR1 => ?_
          simp only [rdA, rd_forL, rd_forR, rd_compT, rd_compL, rd_compR, rd_tyes, rd_seq, rd_if, rd_kget, rd_kin, rd_fldP, rd_make, rd_slS, cx_w, cx_w2]
          refine ⟨L, x, A, 40, ((pl : Nat) : Int), rfl, M.hx, SM.sz, SM.sw, SM.ln, SM.sm, by decide, M.hT, fun _ _ _ hno => (hno (by rw [hdu]; omega)).elim, fun lt is H8 up8 T8 _ his hlt => ?_⟩
          rw [Int.toNat_natCast] at his
          replace M := M.up up8 T8
          clear up8 T8
          have im := List.mem_of_getElem? his
          have iri := hits_rise im
          have iin := hits_in im
          have ile := hits_le40 im
          have isay := hits_say im
          rw [tA] at isay
          clear im his
          subst hR1
          refine seq_as fun R1 hR1 => ?_
          simp only [rdA, rd_forL, rd_forR, rd_compT, rd_compL, rd_compR, rd_tyes, rd_seq, rd_if, rd_kget, rd_kin, rd_fldP, rd_make, rd_slS, cx_w, cx_w2]
          refine ⟨L, x, A, ((pl : Nat) : Int), by rw [hdu], M.hx, SM, M.hT, fun H9 up9 T9 => ⟨true, rfl, ?_⟩⟩
          rw [if_neg (by decide)]
          replace hlt := up9.at M.hT hlt (fun _ z => by cases z)
          replace M := M.up up9 T9
          clear up9 T9
          subst hR1
          refine seq_as fun R1 hR1 => ?_
          simp only [rdA, rd_forL, rd_forR, rd_compT, rd_compL, rd_compR, rd_tyes, rd_seq, rd_if, rd_kget, rd_kin, rd_fldP, rd_make, rd_slS, cx_w, cx_w2]
          refine ⟨_, .lst hlt, _, kit_same K "list", iteF ?_⟩
          subst hR1
          refine seq_as fun R1 hR1 => ?_
          simp only [rdA, rd_forL, rd_forR, rd_compT, rd_compL, rd_compR, rd_tyes, rd_seq, rd_if, rd_kget, rd_kin, rd_fldP, rd_make, rd_slS, cx_w, cx_w2]
          refine ⟨⟨_, SqL.of hlt⟩, ?_⟩
          refine for_list (K := K) (xs := is.map V.int) (ChInv (some (V.ref a)) (some (V.int ((wy : Nat) : Int))) (some (V.ref d)) o3 (some (V.int ((2 ^ 40 : Nat) : Int))) (some (V.int ((rest : Nat) : Int))) o6 (some (V.int ((due : Nat) : Int))) (some x) (some (V.int ((due : Nat) : Int))) (some (V.int ((pl : Nat) : Int))) (some (V.ref lt)) H9) ⟨none, rfl, rfl⟩ (fun i σ Hn _ ⟨_, _, e⟩ => by rw [e]; exact SqL.of hlt) ?_ ?_
          · clear hR1
            rintro i y σ Hn hi ⟨o12, rfl, rfl⟩
            obtain ⟨n, hn, rfl⟩ := List.mem_map.mp (List.mem_of_getElem? hi)
            have := iin n hn
            simp only [rd_name, List.set_cons_succ, List.set_cons_zero]
            simp only [rdA, rd_forL, rd_forR, rd_compT, rd_compL, rd_compR, rd_tyes, rd_seq, rd_if, rd_kget, rd_kin, rd_fldP, rd_make, rd_slS, cx_w, cx_w2]
            refine ⟨n, rfl, true, rfl, ?_⟩
            rw [if_neg (by decide), if_neg (by rw [decide_eq_true_eq]; omega), if_neg (by rw [decide_eq_true_eq]; omega)]
            exact ⟨_, rfl, rfl⟩
          · rintro σ Hn ⟨o12, rfl, rfl⟩
            dsimp only
            subst hR1
            refine seq_as fun R1 hR1 => ?_
            simp only [rdA, rd_forL, rd_forR, rd_compT, rd_compL, rd_compR, rd_tyes, rd_seq, rd_if, rd_kget, rd_kin, rd_fldP, rd_make, rd_slS, cx_w, cx_w2]
            refine ⟨is, SqL.of hlt, by omega, fun b hb => ⟨dd is, upd_same, by have := dd_le is; omega, dd_nd is, fun c ms hc r1 r2 _ => ?_⟩⟩
            obtain rfl : ms = is := rise_one r1 iri fun k => (r2 k).trans dd_in
            have zb := (Same.new hb).trans (Same.new (o := HO.lst (ms.map V.int)) hc)
            refine ⟨.list (ms.map .int), .list (ms.map .int), .lst upd_same (dls_ints _), .lst (zb _ _ hlt) (dls_ints _), by simp [PyData.canLay0, lay_ints], by simp [PyData.canLay0, lay_ints], ?_, ?_⟩
            · have := dep_ints ms
              simp only [PyData.depth]
              omega
            · rw [show PyData.eqv (.list (ms.map .int)) (.list (ms.map .int)) = true by simp only [PyData.eqv, eqv_ints]]
              simp only [rdA, rd_forL, rd_forR, rd_compT, rd_compL, rd_compR, rd_tyes, rd_seq, rd_if, rd_kget, rd_kin, rd_fldP, rd_make, rd_slS, cx_w, cx_w2]
              replace hlt := zb _ _ hlt
              replace M := M.same zb
              subst hR1
              simp only [rdA, rd_forL, rd_forR, rd_compT, rd_compL, rd_compR, rd_tyes, rd_seq, rd_if, rd_kget, rd_kin, rd_fldP, rd_make, rd_slS, cx_w, cx_w2]
              rw [if_neg (by decide)]
              exact ⟨d, lt, L, ms, wy, rfl, M.hd, hlt, hw, by omega, isay, fun H' _ => q H'⟩
      intro p hp
      have z1 := Same.new (o := HO.lst []) hp
      refine ⟨_, z1 _ _ hd, upd_same, ?_⟩
      generalize upd H3 p (HO.lst []) = H4 at z1 ⊢
      refine ite2 (fun h => ?_) (fun h => ?_)
      · intro p2 hp2
        have z2 := z1.trans (Same.new (o := HO.lst [V.int 7]) hp2)
        exact fin p2 [7] _ (z2.seq hl) (hT.same z2) upd_same ⟨by decide, by decide, by unfold bnd; split <;> decide⟩ (by decide)
      · refine fin d0 L _ (z1.seq hl) (hT.same z1) (z1 _ _ hd) SW ?_
        cases L with
        | nil => exact absurd rfl h
        | cons t L => exact Nat.succ_pos _
end
end Nt
end CN
end
section
set_option Elab.async false
set_option linter.all false
set_option maxRecDepth 100000
set_option maxHeartbeats 4000000
namespace CN
open PySem L2
namespace Nt
theorem all1 {C : List Value → Prop} (h : ∀ a, C [a]) : ∀ us : List Value, us.length = 1 → C us
  | [a], _ => h a
theorem all2 {C : List Value → Prop} (h : ∀ a b, C [a, b]) : ∀ us : List Value, us.length = 2 → C us
  | [a, b], _ => h a b
theorem all3 {C : List Value → Prop} (h : ∀ a b c, C [a, b, c]) : ∀ us : List Value, us.length = 3 → C us
  | [a, b, c], _ => h a b c
theorem all4 {C : List Value → Prop} (h : ∀ a b c d, C [a, b, c, d]) : ∀ us : List Value, us.length = 4 → C us
  | [a, b, c, d], _ => h a b c d
theorem all5 {C : List Value → Prop} (h : ∀ a b c d e, C [a, b, c, d, e]) : ∀ us : List Value, us.length = 5 → C us
  | [a, b, c, d, e], _ => h a b c d e
theorem df_mk {K : PySem.W.Frag} {h : Heap} {mg : Str → Option Value} (X : K.In h) (G : h.Ns mainGlobals mg) {x : Str} {st : Stmt} (ps : List Str) {f : Addr} {oc : Value} {od an : Option Addr} {osl : Array (Option Value)} {kV doc pm cdv ct : Value}
    (a : PySem.W.nsIn K mainGlobals x = some (some (.ref f))) (l : K.lookup f = some ⟨oc, od, .func (PySem.W.fnOf x x (defArgs st) (defBody st) (defScope st) .none kV doc pm an cdv ct), osl⟩) (c : PySem.W.codeIn K cdv x = true) (k : PySem.W.keepIn K (.ref f) = true)
    (hb : ∀ (kV doc pm : Value) (an : Option Addr) (cdv ct : Value) (us : List Value), us.length = ps.length → bindArgs (PySem.W.fnOf x x (defArgs st) (defBody st) (defScope st) .none kV doc pm an cdv ct) ⟨us, []⟩ = pure (ps.zip us)) :
    Df K mg x st ps f (PySem.W.fnOf x x (defArgs st) (defBody st) (defScope st) .none kV doc pm an cdv ct) :=
  ⟨fun_mk l c k, (fun_mk l c k).binds hb, PySem.W.mg_of X G a⟩
theorem all_mk {l : PySem.W.OpenLaw} {w : World} {K : PySem.W.Frag} {h : Heap} {mg : Str → Option Value} {fa f0 f1 f2 f3 f4 f5 f6 f7 f8 f9 f10 f11 f12 f13 f14 f15 f16 C m0 m1 m2 m3 m4 m5 m6 fS cS CW : Addr} (P1 : Addr) (X : K.In h) (G : h.Ns mainGlobals mg) (hfa : mg "law" = some (.ref fa))
    {od0 an0 od1 an1 od2 an2 od3 an3 od4 an4 od5 an5 od6 an6 od7 an7 od8 an8 od9 an9 od10 an10 od11 an11 od12 an12 od13 an13 od14 an14 od15 an15 od16 an16 od17 an17 od18 an18 od19 an19 od20 an20 od21 an21 od22 an22 od23 an23 od24 an24 : Option Addr} {sl0 sl1 sl2 sl3 sl4 sl5 sl6 sl7 sl8 sl9 sl10 sl11 sl12 sl13 sl14 sl15 sl16 sl17 sl18 sl19 sl20 sl21 sl22 sl23 sl24 : Array (Option Value)}
    {oc0 kV0 dc0 pm0 cd0 ct0 oc1 kV1 dc1 pm1 cd1 ct1 oc2 kV2 dc2 pm2 cd2 ct2 oc3 kV3 dc3 pm3 cd3 ct3 oc4 kV4 dc4 pm4 cd4 ct4 oc5 kV5 dc5 pm5 cd5 ct5 oc6 kV6 dc6 pm6 cd6 ct6 oc7 kV7 dc7 pm7 cd7 ct7 oc8 kV8 dc8 pm8 cd8 ct8 oc9 kV9 dc9 pm9 cd9 ct9 oc10 kV10 dc10 pm10 cd10 ct10 oc11 kV11 dc11 pm11 cd11 ct11 oc12 kV12 dc12 pm12 cd12 ct12 oc13 kV13 dc13 pm13 cd13 ct13 oc14 kV14 dc14 pm14 cd14 ct14 oc15 kV15 dc15 pm15 cd15 ct15 oc16 kV16 dc16 pm16 cd16 ct16 oc17 kV17 dc17 pm17 cd17 ct17 oc18 kV18 dc18 pm18 cd18 ct18 oc19 kV19 dc19 pm19 cd19 ct19 oc20 kV20 dc20 pm20 cd20 ct20 oc21 kV21 dc21 pm21 cd21 ct21 oc22 kV22 dc22 pm22 cd22 ct22 oc23 kV23 dc23 pm23 cd23 ct23 oc24 kV24 dc24 pm24 ct24 : Value}
    (b0 : PySem.W.nsIn K mainGlobals "len" = some none)    (b1 : PySem.W.nsIn K mainGlobals "range" = some none)    (b2 : PySem.W.nsIn K mainGlobals "isinstance" = some none)    (b3 : PySem.W.nsIn K mainGlobals "int" = some none)    (b4 : PySem.W.nsIn K mainGlobals "str" = some none)    (b5 : PySem.W.nsIn K mainGlobals "bool" = some none)    (b6 : PySem.W.nsIn K mainGlobals "list" = some none)    (b7 : PySem.W.nsIn K mainGlobals "tuple" = some none)    (b8 : PySem.W.nsIn K mainGlobals "abs" = some none)    (b9 : PySem.W.nsIn K mainGlobals "min" = some none)    (b10 : PySem.W.nsIn K mainGlobals "sorted" = some none)    (b11 : PySem.W.nsIn K mainGlobals "set" = some none)
    (a0 : PySem.W.nsIn K mainGlobals "law" = some (some (.ref f0))) (l0 : K.lookup f0 = some ⟨oc0, od0, .func (PySem.W.fnOf "law" "law" (defArgs s_law) (defBody s_law) (defScope s_law) .none kV0 dc0 pm0 an0 cd0 ct0), sl0⟩) (c0 : PySem.W.codeIn K cd0 "law" = true) (k0 : PySem.W.keepIn K (.ref f0) = true)
    (a1 : PySem.W.nsIn K mainGlobals "_law_whole" = some (some (.ref f1))) (l1 : K.lookup f1 = some ⟨oc1, od1, .func (PySem.W.fnOf "_law_whole" "_law_whole" (defArgs s_L_whole) (defBody s_L_whole) (defScope s_L_whole) .none kV1 dc1 pm1 an1 cd1 ct1), sl1⟩) (c1 : PySem.W.codeIn K cd1 "_law_whole" = true) (k1 : PySem.W.keepIn K (.ref f1) = true)
    (a2 : PySem.W.nsIn K mainGlobals "_law_at" = some (some (.ref f2))) (l2 : K.lookup f2 = some ⟨oc2, od2, .func (PySem.W.fnOf "_law_at" "_law_at" (defArgs s_L_at) (defBody s_L_at) (defScope s_L_at) .none kV2 dc2 pm2 an2 cd2 ct2), sl2⟩) (c2 : PySem.W.codeIn K cd2 "_law_at" = true) (k2 : PySem.W.keepIn K (.ref f2) = true)
    (a3 : PySem.W.nsIn K mainGlobals "_law_joined" = some (some (.ref f3))) (l3 : K.lookup f3 = some ⟨oc3, od3, .func (PySem.W.fnOf "_law_joined" "_law_joined" (defArgs s_L_joined) (defBody s_L_joined) (defScope s_L_joined) .none kV3 dc3 pm3 an3 cd3 ct3), sl3⟩) (c3 : PySem.W.codeIn K cd3 "_law_joined" = true) (k3 : PySem.W.keepIn K (.ref f3) = true)
    (a4 : PySem.W.nsIn K mainGlobals "_law_fits" = some (some (.ref f4))) (l4 : K.lookup f4 = some ⟨oc4, od4, .func (PySem.W.fnOf "_law_fits" "_law_fits" (defArgs s_L_fits) (defBody s_L_fits) (defScope s_L_fits) .none kV4 dc4 pm4 an4 cd4 ct4), sl4⟩) (c4 : PySem.W.codeIn K cd4 "_law_fits" = true) (k4 : PySem.W.keepIn K (.ref f4) = true)
    (a5 : PySem.W.nsIn K mainGlobals "_law_in_turn" = some (some (.ref f5))) (l5 : K.lookup f5 = some ⟨oc5, od5, .func (PySem.W.fnOf "_law_in_turn" "_law_in_turn" (defArgs s_L_in_turn) (defBody s_L_in_turn) (defScope s_L_in_turn) .none kV5 dc5 pm5 an5 cd5 ct5), sl5⟩) (c5 : PySem.W.codeIn K cd5 "_law_in_turn" = true) (k5 : PySem.W.keepIn K (.ref f5) = true)
    (a6 : PySem.W.nsIn K mainGlobals "how_many" = some (some (.ref f6))) (l6 : K.lookup f6 = some ⟨oc6, od6, .func (PySem.W.fnOf "how_many" "how_many" (defArgs s_how_many) (defBody s_how_many) (defScope s_how_many) .none kV6 dc6 pm6 an6 cd6 ct6), sl6⟩) (c6 : PySem.W.codeIn K cd6 "how_many" = true) (k6 : PySem.W.keepIn K (.ref f6) = true)
    (a7 : PySem.W.nsIn K mainGlobals "way_at" = some (some (.ref f7))) (l7 : K.lookup f7 = some ⟨oc7, od7, .func (PySem.W.fnOf "way_at" "way_at" (defArgs s_way_at) (defBody s_way_at) (defScope s_way_at) .none kV7 dc7 pm7 an7 cd7 ct7), sl7⟩) (c7 : PySem.W.codeIn K cd7 "way_at" = true) (k7 : PySem.W.keepIn K (.ref f7) = true)
    (a8 : PySem.W.nsIn K mainGlobals "found_way" = some (some (.ref f8))) (l8 : K.lookup f8 = some ⟨oc8, od8, .func (PySem.W.fnOf "found_way" "found_way" (defArgs s_found_way) (defBody s_found_way) (defScope s_found_way) .none kV8 dc8 pm8 an8 cd8 ct8), sl8⟩) (c8 : PySem.W.codeIn K cd8 "found_way" = true) (k8 : PySem.W.keepIn K (.ref f8) = true)
    (a9 : PySem.W.nsIn K mainGlobals "all_ways" = some (some (.ref f9))) (l9 : K.lookup f9 = some ⟨oc9, od9, .func (PySem.W.fnOf "all_ways" "all_ways" (defArgs s_all_ways) (defBody s_all_ways) (defScope s_all_ways) .none kV9 dc9 pm9 an9 cd9 ct9), sl9⟩) (c9 : PySem.W.codeIn K cd9 "all_ways" = true) (k9 : PySem.W.keepIn K (.ref f9) = true)
    (a10 : PySem.W.nsIn K mainGlobals "ways_from" = some (some (.ref f10))) (l10 : K.lookup f10 = some ⟨oc10, od10, .func (PySem.W.fnOf "ways_from" "ways_from" (defArgs s_ways_from) (defBody s_ways_from) (defScope s_ways_from) .none kV10 dc10 pm10 an10 cd10 ct10), sl10⟩) (c10 : PySem.W.codeIn K cd10 "ways_from" = true) (k10 : PySem.W.keepIn K (.ref f10) = true)
    (a11 : PySem.W.nsIn K mainGlobals "level" = some (some (.ref f11))) (l11 : K.lookup f11 = some ⟨oc11, od11, .func (PySem.W.fnOf "level" "level" (defArgs s_level) (defBody s_level) (defScope s_level) .none kV11 dc11 pm11 an11 cd11 ct11), sl11⟩) (c11 : PySem.W.codeIn K cd11 "level" = true) (k11 : PySem.W.keepIn K (.ref f11) = true)
    (a12 : PySem.W.nsIn K mainGlobals "folded" = some (some (.ref f12))) (l12 : K.lookup f12 = some ⟨oc12, od12, .func (PySem.W.fnOf "folded" "folded" (defArgs s_folded) (defBody s_folded) (defScope s_folded) .none kV12 dc12 pm12 an12 cd12 ct12), sl12⟩) (c12 : PySem.W.codeIn K cd12 "folded" = true) (k12 : PySem.W.keepIn K (.ref f12) = true)
    (a13 : PySem.W.nsIn K mainGlobals "parts_of" = some (some (.ref f13))) (l13 : K.lookup f13 = some ⟨oc13, od13, .func (PySem.W.fnOf "parts_of" "parts_of" (defArgs s_parts_of) (defBody s_parts_of) (defScope s_parts_of) .none kV13 dc13 pm13 an13 cd13 ct13), sl13⟩) (c13 : PySem.W.codeIn K cd13 "parts_of" = true) (k13 : PySem.W.keepIn K (.ref f13) = true)
    (a14 : PySem.W.nsIn K mainGlobals "within" = some (some (.ref f14))) (l14 : K.lookup f14 = some ⟨oc14, od14, .func (PySem.W.fnOf "within" "within" (defArgs s_within) (defBody s_within) (defScope s_within) .none kV14 dc14 pm14 an14 cd14 ct14), sl14⟩) (c14 : PySem.W.codeIn K cd14 "within" = true) (k14 : PySem.W.keepIn K (.ref f14) = true)
    (a15 : PySem.W.nsIn K mainGlobals "is_pair" = some (some (.ref f15))) (l15 : K.lookup f15 = some ⟨oc15, od15, .func (PySem.W.fnOf "is_pair" "is_pair" (defArgs s_is_pair) (defBody s_is_pair) (defScope s_is_pair) .none kV15 dc15 pm15 an15 cd15 ct15), sl15⟩) (c15 : PySem.W.codeIn K cd15 "is_pair" = true) (k15 : PySem.W.keepIn K (.ref f15) = true)
    (a16 : PySem.W.nsIn K mainGlobals "is_look" = some (some (.ref f16))) (l16 : K.lookup f16 = some ⟨oc16, od16, .func (PySem.W.fnOf "is_look" "is_look" (defArgs s_is_look) (defBody s_is_look) (defScope s_is_look) .none kV16 dc16 pm16 an16 cd16 ct16), sl16⟩) (c16 : PySem.W.codeIn K cd16 "is_look" = true) (k16 : PySem.W.keepIn K (.ref f16) = true)
    (r0 : PySem.W.nsIn K mainGlobals "Net" = some (some (.ref C))) (r1 : PySem.W.plainGet K C Str.empty = true) (r2 : PySem.W.hasDictIn K C = true) (r3 : PySem.W.plainOver K C = true) (r4 : PySem.W.findIn K (.ref C) "__setattr__" = some (some (.builtin "object.__setattr__"))) (r5 : PySem.W.findIn K (.ref C) "nodes" = some none) (r6 : PySem.W.findIn K (.ref C) "places" = some none) (r7 : PySem.W.findIn K (.ref C) "choices" = some none) (r8 : PySem.W.findIn K (.ref C) "settled" = some none) (r9 : PySem.W.makesIn K C = true) (r10 : PySem.W.keepIn K (.ref C) = true)
    (ma0 : PySem.W.findIn K (.ref C) "__init__" = some (some (.ref m0))) (mf0 : PySem.W.isFn K (.ref m0) = true) (mk0 : PySem.W.keepIn K (.ref m0) = true) (ml0 : K.lookup m0 = some ⟨oc17, od17, .func (PySem.W.fnOf "__init__" "Net.__init__" (defArgs s_Net___init__) (defBody s_Net___init__) (defScope s_Net___init__) .none kV17 dc17 pm17 an17 cd17 ct17), sl17⟩) (mc0 : PySem.W.codeIn K cd17 "Net.__init__" = true)
    (ma1 : PySem.W.findIn K (.ref C) "node_place" = some (some (.ref m1))) (mf1 : PySem.W.isFn K (.ref m1) = true) (mk1 : PySem.W.keepIn K (.ref m1) = true) (ml1 : K.lookup m1 = some ⟨oc18, od18, .func (PySem.W.fnOf "node_place" "Net.node_place" (defArgs s_Net_node_place) (defBody s_Net_node_place) (defScope s_Net_node_place) .none kV18 dc18 pm18 an18 cd18 ct18), sl18⟩) (mc1 : PySem.W.codeIn K cd18 "Net.node_place" = true)
    (ma2 : PySem.W.findIn K (.ref C) "first_switch" = some (some (.ref m2))) (mf2 : PySem.W.isFn K (.ref m2) = true) (mk2 : PySem.W.keepIn K (.ref m2) = true) (ml2 : K.lookup m2 = some ⟨oc19, od19, .func (PySem.W.fnOf "first_switch" "Net.first_switch" (defArgs s_Net_first_switch) (defBody s_Net_first_switch) (defScope s_Net_first_switch) .none kV19 dc19 pm19 an19 cd19 ct19), sl19⟩) (mc2 : PySem.W.codeIn K cd19 "Net.first_switch" = true)
    (ma3 : PySem.W.findIn K (.ref C) "step" = some (some (.ref m3))) (mf3 : PySem.W.isFn K (.ref m3) = true) (mk3 : PySem.W.keepIn K (.ref m3) = true) (ml3 : K.lookup m3 = some ⟨oc20, od20, .func (PySem.W.fnOf "step" "Net.step" (defArgs s_Net_step) (defBody s_Net_step) (defScope s_Net_step) .none kV20 dc20 pm20 an20 cd20 ct20), sl20⟩) (mc3 : PySem.W.codeIn K cd20 "Net.step" = true)
    (ma4 : PySem.W.findIn K (.ref C) "choice" = some (some (.ref m4))) (mf4 : PySem.W.isFn K (.ref m4) = true) (mk4 : PySem.W.keepIn K (.ref m4) = true) (ml4 : K.lookup m4 = some ⟨oc21, od21, .func (PySem.W.fnOf "choice" "Net.choice" (defArgs s_Net_choice) (defBody s_Net_choice) (defScope s_Net_choice) .none kV21 dc21 pm21 an21 cd21 ct21), sl21⟩) (mc4 : PySem.W.codeIn K cd21 "Net.choice" = true)
    (ma5 : PySem.W.findIn K (.ref C) "settled_place" = some (some (.ref m5))) (mf5 : PySem.W.isFn K (.ref m5) = true) (mk5 : PySem.W.keepIn K (.ref m5) = true) (ml5 : K.lookup m5 = some ⟨oc22, od22, .func (PySem.W.fnOf "settled_place" "Net.settled_place" (defArgs s_Net_settled_place) (defBody s_Net_settled_place) (defScope s_Net_settled_place) .none kV22 dc22 pm22 an22 cd22 ct22), sl22⟩) (mc5 : PySem.W.codeIn K cd22 "Net.settled_place" = true)
    (ma6 : PySem.W.findIn K (.ref C) "part_place" = some (some (.ref m6))) (mf6 : PySem.W.isFn K (.ref m6) = true) (mk6 : PySem.W.keepIn K (.ref m6) = true) (ml6 : K.lookup m6 = some ⟨oc23, od23, .func (PySem.W.fnOf "part_place" "Net.part_place" (defArgs s_Net_part_place) (defBody s_Net_part_place) (defScope s_Net_part_place) .none kV23 dc23 pm23 an23 cd23 ct23), sl23⟩) (mc6 : PySem.W.codeIn K cd23 "Net.part_place" = true)
    (sa : PySem.W.findIn K (.ref C) "statement_place" = some (some (.ref fS))) (sf : PySem.W.isFn K (.ref fS) = true) (sk : PySem.W.keepIn K (.ref fS) = true) (sl : K.lookup fS = some ⟨oc24, od24, .func (PySem.W.fnOf "statement_place" "Net.statement_place" (defArgs s_Net_statement_place) (defBody s_Net_statement_place) (defScope s_Net_statement_place) .none kV24 dc24 pm24 an24 (.ref cS) ct24), sl24⟩) (sc : PySem.W.codeIn K (.ref cS) "Net.statement_place" = true) (sh : PySem.W.codeHdIn K cS P1 = true)
    (x0 : PySem.W.nsIn K mainGlobals "NoWay" = some (some (.ref CW)))
    (x1 : PySem.W.excIn K CW [.type "ValueError", .type "Exception", .type "BaseException", .type "object"] "ValueError.__new__" = true) :
    ∃ fd : FuncData, (∀ (s : Shared) (v : Value), BindsTo s fd ⟨[v], []⟩ [("_law_script", v)]) ∧ ∀ base : Heap, K.In base → base.Ns mainGlobals mg → Bm mg base → FnOk l.prog w K mg base CX0 40 fa fd ["_law_script"] (spLaw8 K P1) := by
  have e := hfa.symm.trans (PySem.W.mg_of X G a0)
  cases e
  have BT : Bt mg := ⟨PySem.W.mg_none_of X G b0, PySem.W.mg_none_of X G b1, PySem.W.mg_none_of X G b2, PySem.W.mg_none_of X G b3, PySem.W.mg_none_of X G b4, PySem.W.mg_none_of X G b5, PySem.W.mg_none_of X G b6, PySem.W.mg_none_of X G b7, PySem.W.mg_none_of X G b8⟩
  have XS : Xw K mg CW := ⟨PySem.W.mg_of X G x0, x1⟩
  have n_min := PySem.W.mg_none_of X G b9
  have n_sorted := PySem.W.mg_none_of X G b10
  have n_set := PySem.W.mg_none_of X G b11
  have D_law := df_mk X G p_law a0 l0 c0 k0 fun _ _ _ _ _ _ => all1 fun _ => rfl
  have D_L_whole := df_mk X G p_L_whole a1 l1 c1 k1 fun _ _ _ _ _ _ => all1 fun _ => rfl
  have D_L_at := df_mk X G p_L_at a2 l2 c2 k2 fun _ _ _ _ _ _ => all2 fun _ _ => rfl
  have D_L_joined := df_mk X G p_L_joined a3 l3 c3 k3 fun _ _ _ _ _ _ => all2 fun _ _ => rfl
  have D_L_fits := df_mk X G p_L_fits a4 l4 c4 k4 fun _ _ _ _ _ _ => all3 fun _ _ _ => rfl
  have D_L_in_turn := df_mk X G p_L_in_turn a5 l5 c5 k5 fun _ _ _ _ _ _ => all3 fun _ _ _ => rfl
  have D_how_many := df_mk X G p_how_many a6 l6 c6 k6 fun _ _ _ _ _ _ => all2 fun _ _ => rfl
  have D_way_at := df_mk X G p_way_at a7 l7 c7 k7 fun _ _ _ _ _ _ => all3 fun _ _ _ => rfl
  have D_found_way := df_mk X G p_found_way a8 l8 c8 k8 fun _ _ _ _ _ _ => all4 fun _ _ _ _ => rfl
  have D_all_ways := df_mk X G p_all_ways a9 l9 c9 k9 fun _ _ _ _ _ _ => all2 fun _ _ => rfl
  have D_ways_from := df_mk X G p_ways_from a10 l10 c10 k10 fun _ _ _ _ _ _ => all5 fun _ _ _ _ _ => rfl
  have D_level := df_mk X G p_level a11 l11 c11 k11 fun _ _ _ _ _ _ => all3 fun _ _ _ => rfl
  have D_folded := df_mk X G p_folded a12 l12 c12 k12 fun _ _ _ _ _ _ => all2 fun _ _ => rfl
  have D_parts_of := df_mk X G p_parts_of a13 l13 c13 k13 fun _ _ _ _ _ _ => all1 fun _ => rfl
  have D_within := df_mk X G p_within a14 l14 c14 k14 fun _ _ _ _ _ _ => all1 fun _ => rfl
  have D_is_pair := df_mk X G p_is_pair a15 l15 c15 k15 fun _ _ _ _ _ _ => all1 fun _ => rfl
  have D_is_look := df_mk X G p_is_look a16 l16 c16 k16 fun _ _ _ _ _ _ => all1 fun _ => rfl
  have F0 := fun_mk ml0 mc0 mk0
  have B0 := F0.binds (ps := p_Net___init__) fun _ _ _ _ _ _ => all1 fun _ => rfl
  have M0 : Meth K C "__init__" m0 := ⟨ma0, mf0, mk0⟩
  have F1 := fun_mk ml1 mc1 mk1
  have B1 := F1.binds (ps := p_Net_node_place) fun _ _ _ _ _ _ => all4 fun _ _ _ _ => rfl
  have M1 : Meth K C "node_place" m1 := ⟨ma1, mf1, mk1⟩
  have F2 := fun_mk ml2 mc2 mk2
  have B2 := F2.binds (ps := p_Net_first_switch) fun _ _ _ _ _ _ => all2 fun _ _ => rfl
  have M2 : Meth K C "first_switch" m2 := ⟨ma2, mf2, mk2⟩
  have F3 := fun_mk ml3 mc3 mk3
  have B3 := F3.binds (ps := p_Net_step) fun _ _ _ _ _ _ => all4 fun _ _ _ _ => rfl
  have M3 : Meth K C "step" m3 := ⟨ma3, mf3, mk3⟩
  have F4 := fun_mk ml4 mc4 mk4
  have B4 := F4.binds (ps := p_Net_choice) fun _ _ _ _ _ _ => all4 fun _ _ _ _ => rfl
  have M4 : Meth K C "choice" m4 := ⟨ma4, mf4, mk4⟩
  have F5 := fun_mk ml5 mc5 mk5
  have B5 := F5.binds (ps := p_Net_settled_place) fun _ _ _ _ _ _ => all4 fun _ _ _ _ => rfl
  have M5 : Meth K C "settled_place" m5 := ⟨ma5, mf5, mk5⟩
  have F6 := fun_mk ml6 mc6 mk6
  have B6 := F6.binds (ps := p_Net_part_place) fun _ _ _ _ _ _ => all3 fun _ _ _ => rfl
  have M6 : Meth K C "part_place" m6 := ⟨ma6, mf6, mk6⟩
  have FS := fun_mk sl sc sk
  have BS := FS.binds (ps := p_Net_statement_place) fun _ _ _ _ _ _ => all2 fun _ _ => rfl
  have MS : Meth K C "statement_place" fS := ⟨sa, sf, sk⟩
  have NT : NTx K C := ⟨⟨r1, r2, r3, r4⟩, r5, r6, r7, r8⟩
  have hC := PySem.W.mg_of X G r0
  have MK : Mk K C m0 := ⟨r9, ma0, mf0, r10⟩
  refine ⟨PySem.W.fnOf "law" "law" (defArgs s_law) (defBody s_law) (defScope s_law) .none kV0 dc0 pm0 an0 cd0 ct0, fun s v => .of_eq rfl, fun base KB _ B => ?_⟩
  have g_node : ∀ b, FnOk l.prog w K mg b CX0 1 _ _ p_Net_node_place (spNode C) := fun b => ok_node BT F1 NT
  have g_first : ∀ b, FnOk l.prog w K mg b CX0 1 _ _ p_Net_first_switch (spFirst C) := fun b => ok_first n_min F2 NT
  have g_step : ∀ b, FnOk l.prog w K mg b CX0 1 _ _ p_Net_step (spStep C) := fun b => ok_step F3 NT
  have g_choice : ∀ b, FnOk l.prog w K mg b CX0 14 _ _ p_Net_choice (spC C 13) := fun b => ok_choice F4 NT M4 B4 M2 B2 (g_first b) M3 B3 (g_step b) M1 B1 (g_node b) 12
  have g_settled : ∀ b, FnOk l.prog w K mg b CX0 14 _ _ p_Net_settled_place (spS C 13) := fun b => ok_settled F5 NT M5 B5 M3 B3 (g_step b) M1 B1 (g_node b) 12
  have g_part : ∀ b, FnOk l.prog w K mg b CX0 15 _ _ p_Net_part_place (spPart C 12) := fun b => ok_part F6 NT M4 B4 (g_choice b) M5 B5 (g_settled b) M1 B1 (g_node b)
  have g_within : ∀ b, FnOk l.prog w K mg b CX0 2 _ _ p_within spWithin := fun b => ok_within D_is_pair D_is_look D_within
  have g_parts : ∀ b, FnOk l.prog w K mg b CX0 3 _ _ p_parts_of spParts := fun b => ok_parts BT D_within (g_within b) D_parts_of
  have g_place : FnOk l.prog w K mg base CX0 18 _ _ p_Net_statement_place (spPlace C P1 12) := ok_place (kt := 16) (by decide) (by decide) BT KB B NT sl sc sh M6 B6 g_part D_within g_within D_parts_of g_parts D_folded
  have g_many : FnOk l.prog w K mg base CX0 20 _ _ p_how_many (spMany P1) := ok_many (k := 18) (by decide) BT n_min hC MK B0 (ok_ninit F0 NT) NT MS BS g_place D_level D_ways_from D_all_ways D_how_many
  have g_way : FnOk l.prog w K mg base (CXe l.prog w) 20 _ _ p_way_at (spWayAt P1 CW) := ok_wayat (k := 18) (by decide) BT n_min XS hC MK B0 (ok_ninit F0 NT) NT MS BS g_place D_level D_ways_from D_all_ways M3 B3 (g_step base) D_found_way D_way_at
  have g_whole : FnOk l.prog w K mg base CX0 1 _ _ p_L_whole spWhole := ok_whole BT D_L_whole
  have g_turn : FnOk l.prog w K mg base CX0 21 _ _ p_L_in_turn (spTurn P1) := ok_turn (k := 20) (by decide) BT D_L_whole g_whole D_way_at g_way D_L_in_turn
  exact (ok_law8 (k := 21) (by decide) BT n_sorted n_set D_L_at (ok_at BT D_L_at) D_L_whole g_whole D_L_joined (ok_join BT D_L_joined) D_L_fits (ok_fits BT D_L_fits) D_how_many (g_many.mono (by decide)) D_way_at (g_way.mono (by decide)) D_L_in_turn g_turn D_law).mono (by decide)
theorem tab0 {H : Hp} {P : Addr} {pos : Pos} {q : Str} (h : H P = some (.tbl #[])) : TabAt H P pos q := ⟨#[], h, trivial, .inl rfl⟩
theorem walk {l : PySem.W.OpenLaw} {q : Program} {loose : List Str} {XP : (Str → Option Value) → Heap → Prop} {YP : World → Heap → Prop} {d : DefRec} {K : Params → PySem.W.Frag} (c1 P1 : Addr) (hn : l.most = some 63) (hdf : d.params.defaults = [])
    (hY : ∀ (w : World) (h : Heap), YP w h → (K w.params).In h ∧ PySem.W.TabsAt [(c1, P1)] h) (hK : ∀ w : World, PySem.W.noTabs (K w.params) = true)
    (F : ∀ (w : World) (mg : Str → Option Value) (fa : Addr) (h : Heap), (K w.params).In h → h.Ns mainGlobals mg → mg d.name = some (.ref fa) →
      ∃ fd : FuncData, (∀ (s : Shared) (u : Value), BindsTo s fd ⟨[u], []⟩ [("_law_script", u)]) ∧ ∀ base : Heap, (K w.params).In base → base.Ns mainGlobals mg → Bm mg base → FnOk l.prog w (K w.params) mg base CX0 40 fa fd ["_law_script"] (spLaw8 (K w.params) P1)) :
    PySem.W.WalkO q loose XP YP l.row.toRowW d [] (fun f vs => PySem.call f vs) :=
  L2.walk_ofT (n := 63) (k := 40) (x := "_law_script") (CX := fun _ => CX0) (sp := fun w => spLaw8 (K w.params) P1) (tabs := [(c1, P1)]) hn (by decide) hdf ⟨rfl, by decide, by decide⟩ hY hK F
    (fun _ H a ns hl hO hS => ⟨a, ns, rfl, hS, hl, tab0 (hO (c1, P1) (by simp)), fun _ => rfl⟩) fun _ _ _ _ _ z => z
end Nt
end CN
theorem PySem.W.Fast.te6053017238553707248 : True := True.intro
noncomputable def PySem.W.Fast.tw435458414165259074 : PySem.Program := PySem.Challenge.pw_choicenet_k08_whole_known_numbers
theorem PySem.W.Fast.te435458414165259074 : PySem.Challenge.pw_choicenet_k08_whole_known_numbers = PySem.W.Fast.tw435458414165259074 := rfl
open PySem PySem.W PyProof.Rows
set_option maxRecDepth 100000 in
set_option maxHeartbeats 0 in
theorem PySem.Challenge.cw_choicenet_k08_whole_known_numbers_holds : PySem.Challenge.rw_choicenet_k08_whole_known_numbers.Holds := by
  w_on; o_law; k_head; (case hw => w_witness2)
  k_fill
  refine CN.Nt.walk (l := PySem.Challenge.rw_choicenet_k08_whole_known_numbers) 132 128 rfl rfl (fun w h Y => ⟨PySem.W.km_in_of Y, List.forall_mem_cons.mpr ⟨⟨PySem.W.codeHd_of_K (PySem.W.km_in_of Y) (by kernel_rfl), PySem.W.km_tabs_of Y _ (by simp)⟩, fun _ h => nomatch h⟩⟩) (fun w => by kernel_rfl) ?F
  case F =>
    intro w mg fa h KX G hmg
    refine' CN.Nt.all_mk 128 KX G hmg ?b0 ?b1 ?b2 ?b3 ?b4 ?b5 ?b6 ?b7 ?b8 ?b9 ?b10 ?b11 ?a0 ?l0 ?c0 ?k0 ?a1 ?l1 ?c1 ?k1 ?a2 ?l2 ?c2 ?k2 ?a3 ?l3 ?c3 ?k3 ?a4 ?l4 ?c4 ?k4 ?a5 ?l5 ?c5 ?k5 ?a6 ?l6 ?c6 ?k6 ?a7 ?l7 ?c7 ?k7 ?a8 ?l8 ?c8 ?k8 ?a9 ?l9 ?c9 ?k9 ?a10 ?l10 ?c10 ?k10 ?a11 ?l11 ?c11 ?k11 ?a12 ?l12 ?c12 ?k12 ?a13 ?l13 ?c13 ?k13 ?a14 ?l14 ?c14 ?k14 ?a15 ?l15 ?c15 ?k15 ?a16 ?l16 ?c16 ?k16 ?r0 ?r1 ?r2 ?r3 ?r4 ?r5 ?r6 ?r7 ?r8 ?r9 ?r10 ?ma0 ?mf0 ?mk0 ?ml0 ?mc0 ?ma1 ?mf1 ?mk1 ?ml1 ?mc1 ?ma2 ?mf2 ?mk2 ?ml2 ?mc2 ?ma3 ?mf3 ?mk3 ?ml3 ?mc3 ?ma4 ?mf4 ?mk4 ?ml4 ?mc4 ?ma5 ?mf5 ?mk5 ?ml5 ?mc5 ?ma6 ?mf6 ?mk6 ?ml6 ?mc6 ?sa ?sf ?sk ?sl ?sc ?sh ?x0 ?x1
    (case b0 => k_is)
    (case b1 => k_is)
    (case b2 => k_is)
    (case b3 => k_is)
    (case b4 => k_is)
    (case b5 => k_is)
    (case b6 => k_is)
    (case b7 => k_is)
    (case b8 => k_is)
    (case b9 => k_is)
    (case b10 => k_is)
    (case b11 => k_is)
    (case a0 => k_is)
    (case l0 => k_is)
    (case c0 => k_is)
    (case k0 => k_is)
    (case a1 => k_is)
    (case l1 => k_is)
    (case c1 => k_is)
    (case k1 => k_is)
    (case a2 => k_is)
    (case l2 => k_is)
    (case c2 => k_is)
    (case k2 => k_is)
    (case a3 => k_is)
    (case l3 => k_is)
    (case c3 => k_is)
    (case k3 => k_is)
    (case a4 => k_is)
    (case l4 => k_is)
    (case c4 => k_is)
    (case k4 => k_is)
    (case a5 => k_is)
    (case l5 => k_is)
    (case c5 => k_is)
    (case k5 => k_is)
    (case a6 => k_is)
    (case l6 => k_is)
    (case c6 => k_is)
    (case k6 => k_is)
    (case a7 => k_is)
    (case l7 => k_is)
    (case c7 => k_is)
    (case k7 => k_is)
    (case a8 => k_is)
    (case l8 => k_is)
    (case c8 => k_is)
    (case k8 => k_is)
    (case a9 => k_is)
    (case l9 => k_is)
    (case c9 => k_is)
    (case k9 => k_is)
    (case a10 => k_is)
    (case l10 => k_is)
    (case c10 => k_is)
    (case k10 => k_is)
    (case a11 => k_is)
    (case l11 => k_is)
    (case c11 => k_is)
    (case k11 => k_is)
    (case a12 => k_is)
    (case l12 => k_is)
    (case c12 => k_is)
    (case k12 => k_is)
    (case a13 => k_is)
    (case l13 => k_is)
    (case c13 => k_is)
    (case k13 => k_is)
    (case a14 => k_is)
    (case l14 => k_is)
    (case c14 => k_is)
    (case k14 => k_is)
    (case a15 => k_is)
    (case l15 => k_is)
    (case c15 => k_is)
    (case k15 => k_is)
    (case a16 => k_is)
    (case l16 => k_is)
    (case c16 => k_is)
    (case k16 => k_is)
    (case r0 => k_is)
    (case r1 => k_is)
    (case r2 => k_is)
    (case r3 => k_is)
    (case r4 => k_is)
    (case r5 => k_is)
    (case r6 => k_is)
    (case r7 => k_is)
    (case r8 => k_is)
    (case r9 => k_is)
    (case r10 => k_is)
    (case ma0 => k_is)
    (case mf0 => k_is)
    (case mk0 => k_is)
    (case ml0 => k_is)
    (case mc0 => k_is)
    (case ma1 => k_is)
    (case mf1 => k_is)
    (case mk1 => k_is)
    (case ml1 => k_is)
    (case mc1 => k_is)
    (case ma2 => k_is)
    (case mf2 => k_is)
    (case mk2 => k_is)
    (case ml2 => k_is)
    (case mc2 => k_is)
    (case ma3 => k_is)
    (case mf3 => k_is)
    (case mk3 => k_is)
    (case ml3 => k_is)
    (case mc3 => k_is)
    (case ma4 => k_is)
    (case mf4 => k_is)
    (case mk4 => k_is)
    (case ml4 => k_is)
    (case mc4 => k_is)
    (case ma5 => k_is)
    (case mf5 => k_is)
    (case mk5 => k_is)
    (case ml5 => k_is)
    (case mc5 => k_is)
    (case ma6 => k_is)
    (case mf6 => k_is)
    (case mk6 => k_is)
    (case ml6 => k_is)
    (case mc6 => k_is)
    (case sa => k_is)
    (case sf => k_is)
    (case sk => k_is)
    (case sl => k_is)
    (case sc => k_is)
    (case sh => kernel_rfl)
    (case x0 => k_is)
    (case x1 => kernel_rfl)
end
