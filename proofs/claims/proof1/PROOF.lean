import PyProof.Rows.All
import Wide.All
import OpenK.AllK
import Wide.FinOn
import PyProof.EqAt
import PyProof.EqKinds
import PyProof.TupleCall
import KE.BitLaws
import Open.SpecLaws
import KE.OsHead
import KE.OsGo
import PySem.Challenge.RW_turningtray_s01_answers
set_option Elab.async false
set_option compiler.extract_closed false
set_option genSizeOf false
set_option linter.all false
set_option maxRecDepth 100000
namespace SK
open PySem

noncomputable def isB : Bool → Value → Bool
  | b, .bool c => decide (b = c)
  | _, _ => false
theorem isB_shape {b : Bool} {v : Value} (h : isB b v = true) : v = Value.bool b := by
  cases v <;> simp [isB] at h
  subst h; rfl
theorem isB_bool (b : Bool) : isB b (.bool b) = true := by simp [isB]
noncomputable def hashB (b : Bool) : Int := reduceHash (if b then 1 else 0)
theorem pyHash_bool {prog : Program} {w : World} {A : Around} {E : Value → Shared → Prop} {s : Shared} {b : Bool} {Q : Int → Shared → Prop} (h : Q (hashB b) { s with toks := s.toks + 1 }) :
    wpAny (model prog w) A (pyHash (.bool b)) Q E s := by
  refine PySem.W.pyHash_slot (T := "bool") rfl F.slot_bool_hash entry_int_hash (args_int_hash _) (beq_builtin_none _) (.inl rfl) ?_
  cases b
  · exact (show wpAny _ _ (do ret (← mkInt 0)) _ _ s from wpAny_bind (wpAny_mkInt (wpAny_pure ⟨_, _, rfl, h⟩)))
  · exact (show wpAny _ _ (do ret (← mkInt 1)) _ _ s from wpAny_bind (wpAny_mkInt (wpAny_pure ⟨_, _, rfl, h⟩)))
noncomputable def boolKind (prog : Program) (w : World) : PySem.KeyKind prog w Bool where
  is := isB
  hash := hashB
  inj := fun v a b ha hb => by
    have e1 := isB_shape ha; have e2 := isB_shape hb
    rw [e1] at e2; injection e2
  byValue := fun k v h => by rw [isB_shape h]; rfl
  pyHash := fun hv h => by rw [isB_shape hv]; exact pyHash_bool h
  eqBool := fun {A E s a b u v Q} hu hv h => by
    rw [isB_shape hu, isB_shape hv]
    refine SeqAt.EqAt.bool_bool a b _ _ _ _ ?_
    have e : (a == b) = decide (a = b) := by cases a <;> cases b <;> rfl
    rw [e]; exact h
  «strs» := fun k x t v h => by simp [isB] at h

noncomputable abbrev Key2 := Int × List Bool
section
variable {prog : Program} {w : World}
noncomputable def IsKey2 (h : Heap) (k : Key2) (a : Addr) : Prop := ∃ o n t b, h.get? a = some o ∧ o.cls = .type "tuple" ∧ o.data = .seq #[.int k.1 t, .ref b] n ∧ IsTupleKey (boolKind prog w) h k.2 b
theorem IsKey2.typeIs {s : Shared} {k : Key2} {a : Addr} (x : IsKey2 (prog := prog) (w := w) s.heap k a) : s.TypeIs (.ref a) "tuple" := let ⟨o, _, _, _, ho, hc, _⟩ := x; ⟨o, ho, hc⟩
theorem IsKey2.inj {h : Heap} {a : Addr} {x y : Key2} (hx : IsKey2 (prog := prog) (w := w) h x a) (hy : IsKey2 (prog := prog) (w := w) h y a) : x = y := by
  obtain ⟨o, n, t, b, ho, _, hd, hi⟩ := hx
  obtain ⟨o', n', t', b', ho', _, hd', hi'⟩ := hy
  obtain rfl : o = o' := Option.some.inj (ho.symm.trans ho')
  rw [hd] at hd'
  injection hd' with e0 _
  have e1 : [Value.int x.1 t, Value.ref b] = [Value.int y.1 t', Value.ref b'] := congrArg Array.toList e0
  injection e1 with e1 e2
  injection e1 with e1 _
  injection e2 with e2 _
  injection e2 with e2
  subst e2
  exact Prod.ext e1 (hi.inj hi')
theorem IsKey2.keeps {h h' : Heap} {k : Key2} {a d : Addr} {o : Obj} {es ep} (x : IsKey2 (prog := prog) (w := w) h k a) (ho : h.get? d = some o) (hd : o.data = .dict es ep) (hs : Heap.SameBut d h h') :
    IsKey2 (prog := prog) (w := w) h' k a := by
  obtain ⟨o', n, t, b, ho', hc, hd', hi⟩ := x
  have hne : a ≠ d := by
    rintro rfl
    obtain rfl : o' = o := Option.some.inj (ho'.symm.trans ho)
    rw [hd] at hd'; exact nomatch hd'
  exact ⟨o', n, t, b, (hs.2 a hne).trans ho', hc, hd', hi.keeps ho hd hs⟩

noncomputable def hash2 (prog : Program) (w : World) (k : Key2) : Int := reduceHash (Builtin.Tuple.tupleHashOf [hashInt k.1, tupleKeyHash (boolKind prog w) k.2])
variable {A : Around} {E : Value → Shared → Prop} {s : Shared}
theorem pyHash_key2 {k : Key2} {a : Addr} {Q : Int → Shared → Prop} (hu : A.units + 1 < cLine) (hk : IsKey2 (prog := prog) (w := w) s.heap k a)
    (h : Q (hash2 prog w k) { s with toks := s.toks + (k.2.length + 3) }) : wpAny (model prog w) A (pyHash (.ref a)) Q E s := by
  have hT := hk.typeIs
  obtain ⟨o, n, t, b, ho, _, hd, hi⟩ := hk
  refine PySem.W.pyHash_slot (T := "tuple") hT F.slot_tuple_hash F.entry_tuple_hash (F.args_tuple_hash_1 _) (beq_builtin_none _) (.inr (by omega)) ?_
  show wpAny _ _ (Builtin.Tuple.tupleItemsOf (.ref a) >>= _) _ _ s
  refine wpAny_bind (wpAny_tupleItemsOf ho hd ?_)
  refine wpAny_bind ?_
  rw [← Array.forIn_toList]
  show wpAny _ _ (forIn [Value.int k.1 t, Value.ref b] _ _) _ _ s
  rw [List.forIn_cons]
  refine wpAny_bind (wpAny_bind (wpAny_pyHash_int ?_))
  refine wpAny_bind (wpAny_pure (wpAny_pure ?_))
  show wpAny _ _ (forIn [Value.ref b] _ _) _ _ _
  rw [List.forIn_cons]
  refine wpAny_bind (wpAny_bind (wpAny_pyHash_tuple (ks := k.2) (knd := boolKind prog w) (by simpa using hu) hi ?_))
  refine wpAny_bind (wpAny_pure (wpAny_pure ?_))
  show wpAny _ _ (forIn ([] : List Value) _ _) _ _ _
  refine wpAny_pure ?_
  show wpAny _ _ (retInt (Builtin.Tuple.tupleHashOf _)) _ _ _
  refine wpAny_bind (wpAny_mkInt (wpAny_pure ⟨_, _, rfl, ?_⟩))
  have e : s.toks + 1 + (k.2.length + 1) + 1 = s.toks + (k.2.length + 3) := by omega
  show Q (hash2 prog w k) { s with toks := s.toks + 1 + (k.2.length + 1) + 1 }
  rw [e]; exact h

theorem eq_tree2 {x y : Key2} {a b : Addr} {P : Fin → Shared → Prop} (hu : A.units < cLine) (hx : IsKey2 (prog := prog) (w := w) s.heap x a) (hy : IsKey2 (prog := prog) (w := w) s.heap y b) (h : P (.done (.ret (.bool (decide (x = y))))) s) :
    wpAny (model prog w) A (Builtin.«tuple.__eq__» ⟨[.ref a, .ref b], []⟩) P E s := by
  have hTb := hy.typeIs
  obtain ⟨oa, na, ta, ia, hoa, _, hda, hia⟩ := hx
  obtain ⟨ob, nb, tb, ib, hob, _, hdb, hib⟩ := hy
  show wpAny _ _ (isInstance (.ref b) (.type "tuple") >>= _) _ _ s
  refine wpAny_bind (wpAny_isInstance hTb isSubtype_tuple_tuple ?_)
  simp only [Bool.not_true, Bool.false_eq_true, if_false]
  refine wpAny_bind (wpAny_tupleItemsOf hoa hda ?_)
  refine wpAny_bind (wpAny_tupleItemsOf hob hdb ?_)
  refine wpAny_bind ?_
  show wpAny _ _ (forIn [(Value.int x.1 ta, Value.int y.1 tb), (Value.ref ia, Value.ref ib)] _ _) _ _ s
  rw [List.forIn_cons]
  refine wpAny_bind (wpAny_bind (wpAny_eqBool_int ?_))
  by_cases h1 : x.1 = y.1
  · rw [show (x.1 == y.1) = true by simpa using h1]
    simp only [Bool.not_true, Bool.false_eq_true, if_false]
    refine wpAny_pure ?_
    show wpAny _ _ (forIn [(Value.ref ia, Value.ref ib)] _ _) _ _ _
    rw [List.forIn_cons]
    refine wpAny_bind (wpAny_bind (wpAny_eqBool_tuple (knd := boolKind prog w) (x := x.2) (y := y.2) (by simpa using hu) hia hib ?_))
    by_cases h2 : x.2 = y.2
    · rw [decide_eq_true h2]
      simp only [Bool.not_true, Bool.false_eq_true, if_false]
      refine wpAny_pure ?_
      refine wpAny_pure ?_
      refine wpAny_pure ?_
      rw [decide_eq_true (Prod.ext h1 h2 : x = y)] at h
      exact h
    · rw [decide_eq_false h2]
      simp only [Bool.not_false, if_true]
      rw [decide_eq_false (fun e => h2 (by rw [e]) : ¬ x = y)] at h
      exact wpAny_bind (wpAny_pure (wpAny_pure (wpAny_pure (wpAny_pure h))))
  · rw [show (x.1 == y.1) = false by simpa using h1]
    simp only [Bool.not_false, if_true]
    rw [decide_eq_false (fun e => h1 (by rw [e]) : ¬ x = y)] at h
    exact wpAny_bind (wpAny_pure (wpAny_pure (wpAny_pure (wpAny_pure h))))
theorem eqBool_key2 {x y : Key2} {a b : Addr} {Q : Bool → Shared → Prop} (hu : A.units + 1 < cLine) (hx : IsKey2 (prog := prog) (w := w) s.heap x a) (hy : IsKey2 (prog := prog) (w := w) s.heap y b) (h : Q (decide (x = y)) s) :
    wpAny (model prog w) A (eqBool (.ref a) (.ref b)) Q E s := by
  unfold eqBool
  try with_reducible refine wpAny_holding ?_
  show wpAny _ _ (if (Value.ref a == Value.ref b) = true then _ else _) Q E s
  by_cases hab : (Value.ref a == Value.ref b) = true
  · rw [if_pos hab]
    have e : a = b := by have := eq_of_beq hab; injection this
    subst e
    obtain rfl := hx.inj hy
    exact wpAny_bind (wpAny_rule (wpAny_pure (by simpa using h)))
  · rw [if_neg hab]
    exact wpAny_bind (wpAny_richCompare_same_room (op := .Eq) hx.typeIs hy.typeIs F.slot_tuple_eq
      (wpAny_call_entry F.slot_tuple_eq hx.typeIs F.entry_tuple_eq (eq_tree2 (by simpa using hu) hx hy ⟨_, rfl, (fun e => nomatch e), wpAny_truthy_bool h⟩) (F.args_tuple_eq_2 _ _)) (by omega))

theorem quiet_tup {K : Type} [DecidableEq K] {knd : KeyKind prog w K} (m : Nat) {ks : List K} {a : Addr} {Q : Bool → Shared → Prop} (hk : IsTupleKey knd s.heap ks a) (h : Q true s) : wpAny (model prog w) A (eqIsQuiet (m + 1) (.ref a)) Q E s := by
  have hT := hk.typeIs
  obtain ⟨o, items, n, ho, _, hd, hi⟩ := hk
  unfold eqIsQuiet
  refine wpAny_bind (wpAny_specialOf hT F.slot_tuple_eq.lookup ?_)
  show wpAny _ _ (isInstance (.ref a) (.type "tuple") >>= _) _ _ s
  refine wpAny_bind (wpAny_isInstance hT isSubtype_tuple_tuple ?_)
  simp only [Bool.not_true, Bool.false_eq_true, if_false]
  refine wpAny_bind (wpAny_seqItems ho hd ?_)
  refine wpAny_bind ?_
  show wpAny _ _ (forIn items _ _) _ _ s
  rw [← Array.forIn_toList]
  refine wpAny_forIn_list _ (fun rest r s' => r.1 = none ∧ s' = s ∧ ∀ v ∈ rest, carriedByValue v = true) _ ?_ ?_ _ _ ⟨rfl, rfl, hi.byValue⟩
  · rintro v rest r s' ⟨hr, rfl, hall⟩
    rw [eqIsQuiet_byValue _ (hall v List.mem_cons_self)]
    refine wpAny_bind (wpAny_pure ?_)
    simp only [Bool.not_true, Bool.false_eq_true, if_false]
    exact wpAny_pure ⟨rfl, rfl, fun u hu' => hall u (List.mem_cons_of_mem _ hu')⟩
  · rintro ⟨r1, r2⟩ s' ⟨hr, rfl, _⟩
    simp only at hr
    subst hr
    exact wpAny_pure h
theorem quiet_key2 {k : Key2} {a : Addr} {Q : Bool → Shared → Prop} (hk : IsKey2 (prog := prog) (w := w) s.heap k a) (h : Q true s) : wpAny (model prog w) A (eqIsQuiet 8 (.ref a)) Q E s := by
  have hT := hk.typeIs
  obtain ⟨o, n, t, b, ho, _, hd, hi⟩ := hk
  unfold eqIsQuiet
  refine wpAny_bind (wpAny_specialOf hT F.slot_tuple_eq.lookup ?_)
  show wpAny _ _ (isInstance (.ref a) (.type "tuple") >>= _) _ _ s
  refine wpAny_bind (wpAny_isInstance hT isSubtype_tuple_tuple ?_)
  simp only [Bool.not_true, Bool.false_eq_true, if_false]
  refine wpAny_bind (wpAny_seqItems ho hd ?_)
  refine wpAny_bind ?_
  show wpAny _ _ (forIn (#[Value.int k.1 t, Value.ref b] : Array Value) _ _) _ _ s
  rw [← Array.forIn_toList]
  show wpAny _ _ (forIn [Value.int k.1 t, Value.ref b] _ _) _ _ s
  rw [List.forIn_cons]
  rw [eqIsQuiet_byValue _ (show carriedByValue (Value.int k.1 t) = true from rfl)]
  refine wpAny_bind (wpAny_bind (wpAny_pure ?_))
  simp only [Bool.not_true, Bool.false_eq_true, if_false]
  refine wpAny_pure ?_
  show wpAny _ _ (forIn [Value.ref b] _ _) _ _ _
  rw [List.forIn_cons]
  refine wpAny_bind (wpAny_bind (quiet_tup 6 hi ?_))
  simp only [Bool.not_true, Bool.false_eq_true, if_false]
  refine wpAny_pure ?_
  exact wpAny_pure (wpAny_pure h)
end
noncomputable def stKind (prog : Program) (w : World) : HeapKind prog w Key2 where
  is := IsKey2 (prog := prog) (w := w)
  hash := hash2 prog w
  draws := fun k => k.2.length + 3
  room := fun A => A.units + 1 < cLine
  inj := fun hx hy => hx.inj hy
  keeps := fun x ho hd hs => x.keeps ho hd hs
  pyHash := fun hu hk h => pyHash_key2 hu hk h
  eqBool := fun hu hx hy h => eqBool_key2 hu hx hy h
  quiet := fun hk h => quiet_key2 hk h
end SK
set_option Elab.async false
set_option compiler.extract_closed false
set_option genSizeOf false
set_option linter.all false
set_option maxRecDepth 100000
namespace L2
open PySem PySem.Spec PyProof.Rows

noncomputable abbrev Key := Sum Int Str
noncomputable def keyIs : Key → Value → Bool
  | .inl k, v => Value.isInt k v
  | .inr x, v => Value.isStrOf x v
noncomputable def keyH (w : World) : Key → Int
  | .inl k => hashInt k
  | .inr x => hashStr w x
theorem keyIs_shape : ∀ {k : Key} {v : Value}, keyIs k v = true → (∃ i t, k = Sum.inl i ∧ v = Value.int i t) ∨ (∃ x t, k = Sum.inr x ∧ v = Value.str x t)
  | .inl i, v, h => by
    obtain ⟨t, e⟩ := Value.isInt_shape (k := i) (v := v) h
    exact .inl ⟨i, t, rfl, e⟩
  | .inr x, v, h => by
    obtain ⟨t, e⟩ := Value.isStrOf_shape (x := x) (v := v) h
    exact .inr ⟨x, t, rfl, e⟩
theorem keyIs_int (i : Int) (t : Tok) : keyIs (.inl i) (.int i t) = true := by simp [keyIs, Value.isInt]
theorem keyIs_str (x : Str) (t : Tok) : keyIs (.inr x) (.str x t) = true := by simp [keyIs, Value.isStrOf]
theorem key_ll (a b : Int) : decide ((Sum.inl a : Key) = Sum.inl b) = (a == b) := by
  by_cases e : a = b
  · subst e; simp
  · have h : ¬ (Sum.inl a : Key) = Sum.inl b := fun q => e (Sum.inl.inj q)
    rw [decide_eq_false h]
    exact (beq_eq_false_iff_ne.mpr e).symm
theorem key_rr (a b : Str) : decide ((Sum.inr a : Key) = Sum.inr b) = decide (a = b) := by
  by_cases e : a = b
  · subst e; simp
  · have h : ¬ (Sum.inr a : Key) = Sum.inr b := fun q => e (Sum.inr.inj q)
    rw [decide_eq_false h, decide_eq_false e]
theorem key_lr (a : Int) (b : Str) : decide ((Sum.inl a : Key) = Sum.inr b) = false := decide_eq_false (fun q => nomatch q)
theorem key_rl (a : Str) (b : Int) : decide ((Sum.inr a : Key) = Sum.inl b) = false := decide_eq_false (fun q => nomatch q)

noncomputable def mixKind (prog : Program) (w : World) : PySem.KeyKind prog w Key where
  is := keyIs
  hash := keyH w
  inj := fun v a b ha hb => by
    rcases keyIs_shape ha with ⟨i, t, rfl, rfl⟩ | ⟨x, t, rfl, rfl⟩
    · rcases keyIs_shape hb with ⟨j, u, rfl, e⟩ | ⟨y, u, rfl, e⟩
      · injection e with e1 _; rw [e1]
      · exact nomatch e
    · rcases keyIs_shape hb with ⟨j, u, rfl, e⟩ | ⟨y, u, rfl, e⟩
      · exact nomatch e
      · injection e with e1 _; rw [e1]
  byValue := fun k v h => by
    rcases keyIs_shape h with ⟨i, t, rfl, rfl⟩ | ⟨x, t, rfl, rfl⟩ <;> rfl
  pyHash := fun hv h => by
    rcases keyIs_shape hv with ⟨i, t, rfl, rfl⟩ | ⟨x, t, rfl, rfl⟩
    · exact wpAny_pyHash_int h
    · exact wpAny_pyHash_str h
  eqBool := fun hu hv h => by
    rcases keyIs_shape hu with ⟨i, t, rfl, rfl⟩ | ⟨x, t, rfl, rfl⟩
    · rcases keyIs_shape hv with ⟨j, u, rfl, rfl⟩ | ⟨y, u, rfl, rfl⟩
      · rw [key_ll] at h; exact wpAny_eqBool_int h
      · rw [key_lr] at h; exact SeqAt.EqAt.int_str i t y u _ _ _ _ h
    · rcases keyIs_shape hv with ⟨j, u, rfl, rfl⟩ | ⟨y, u, rfl, rfl⟩
      · rw [key_rl] at h; exact SeqAt.EqAt.str_int x t j u _ _ _ _ h
      · rw [key_rr] at h; exact wpAny_eqBool_str h
  «strs» := fun k x t v h => by
    rcases keyIs_shape h with ⟨i, u, rfl, e⟩ | ⟨y, u, rfl, e⟩
    · exact nomatch e
    · injection e with e1 _
      subst e1
      cases v <;> rfl

theorem mixKind_int (prog : Program) (w : World) (i : Int) (t : Tok) : (mixKind prog w).is (.inl i) (.int i t) = true := keyIs_int i t
theorem mixKind_str (prog : Program) (w : World) (x : Str) (t : Tok) : (mixKind prog w).is (.inr x) (.str x t) = true := keyIs_str x t
end L2

namespace L2
open PySem PySem.Spec PyProof.Rows

inductive V where
  | non | bl (b : Bool) | int (i : Int) | str (x : Str) | byt (b : Array UInt8) | flt (b : UInt64) | ref (a : Addr) | ty (n : String)
  deriving DecidableEq

noncomputable def RelV : V → Value → Prop
  | .non, u => u = Value.none
  | .bl b, u => u = Value.bool b
  | .int i, u => ∃ t, u = Value.int i t
  | .str x, u => ∃ t, u = Value.str x t
  | .byt b, u => ∃ t, u = Value.bytes b t
  | .flt b, u => ∃ t, u = Value.float b t
  | .ref a, u => u = Value.ref a
  | .ty n, u => u = Value.type n

noncomputable abbrev Vals : List V → List Value → Prop := Paired RelV
theorem Vals.length {xs : List V} {us : List Value} (r : Vals xs us) : xs.length = us.length := Paired.length r
theorem Vals.get : ∀ {xs : List V} {us : List Value} {i : Nat} {x : V}, Vals xs us → xs[i]? = some x → ∃ u, us[i]? = some u ∧ RelV x u
  | _, _, _, _, .nil, e => by simp at e
  | _, _, 0, _, .cons r _, e => by simp at e; subst e; exact ⟨_, rfl, r⟩
  | _, _, i + 1, x, .cons _ t, e => by
    obtain ⟨u, h1, h2⟩ := Vals.get (i := i) (x := x) t (by simpa using e)
    exact ⟨u, by simpa using h1, h2⟩
theorem Vals.set {x : V} {u : Value} (r : RelV x u) : ∀ {xs : List V} {us : List Value} (i : Nat), Vals xs us → Vals (xs.set i x) (us.set i u)
  | _, _, _, .nil => .nil
  | _, _, 0, .cons _ t => .cons r t
  | _, _, i + 1, .cons q t => .cons q (Vals.set r i t)
theorem Vals.append : ∀ {xs ys : List V} {us ws : List Value}, Vals xs us → Vals ys ws → Vals (xs ++ ys) (us ++ ws)
  | _, _, _, _, .nil, s => s
  | _, _, _, _, .cons r t, s => .cons r (Vals.append t s)
theorem Vals.take : ∀ {xs : List V} {us : List Value} (n : Nat), Vals xs us → Vals (xs.take n) (us.take n)
  | _, _, 0, _ => .nil
  | _, _, _ + 1, .nil => .nil
  | _, _, n + 1, .cons r t => .cons r (Vals.take n t)
theorem Vals.drop : ∀ {xs : List V} {us : List Value} (n : Nat), Vals xs us → Vals (xs.drop n) (us.drop n)
  | _, _, 0, r => r
  | _, _, _ + 1, .nil => .nil
  | _, _, n + 1, .cons _ t => Vals.drop n t

noncomputable def RelO : Option V → Option Value → Prop
  | some v, some u => RelV v u
  | none, none => True
  | _, _ => False
noncomputable def KV {κ : Type} : List (κ × V) → List (κ × Value) → Prop := Paired fun (p : κ × V) (q : κ × Value) => p.1 = q.1 ∧ RelV p.2 q.2

noncomputable def kV : Key → V
  | .inl i => .int i
  | .inr x => .str x

inductive HO where
  | lst (xs : List V)
  | tup (xs : List V)
  | dK (kvs : List (Key × V)) | dT (kvs : List (SK.Key2 × V))
  | set (S : Int → Bool) (n : Nat)
  | ins (C dx : Addr) (fs : List (Str × V))
  | own (x : Addr)
  | xd (fs : List (Str × V))
  | met (f x : Addr)
  | rng (lo hi : Int)
  | frz (o : Obj) (u : HO)
  | tbl (ps : Array Value)
  | ext (φ : Heap → Prop)

noncomputable abbrev Hp := Addr → Option HO
noncomputable def KeyAt (H : Hp) (k : SK.Key2) (a : Addr) : Prop := ∃ b, H a = some (.tup [.int k.1, .ref b]) ∧ H b = some (.tup (k.2.map V.bl))
theorem KeyAt.keeps {H H' : Hp} {k : SK.Key2} {a : Addr} (x : KeyAt H k a) (ht : ∀ b xs, H b = some (.tup xs) → H' b = some (.tup xs)) : KeyAt H' k a :=
  let ⟨b, h1, h2⟩ := x; ⟨b, ht _ _ h1, ht _ _ h2⟩
noncomputable def upd (H : Hp) (a : Addr) (o : HO) : Hp := fun b => if b = a then some o else H b
theorem upd_same {H : Hp} {a : Addr} {o : HO} : upd H a o a = some o := by unfold upd; rw [if_pos rfl]
theorem upd_ne {H : Hp} {a b : Addr} {o : HO} (h : b ≠ a) : upd H a o b = H b := by unfold upd; rw [if_neg h]
theorem upd_upd {H : Hp} {a : Addr} {o u : HO} : upd (upd H a o) a u = upd H a u := by
  funext b; unfold upd; split <;> rfl
theorem ne_of {H : Hp} {a b : Addr} {o u : HO} (h : H a = some o) (h' : H b = some u) (d : o ≠ u) : a ≠ b := by
  intro e; subst e; rw [h] at h'; exact d (Option.some.inj h')
theorem ne_of_none {H : Hp} {a b : Addr} {o : HO} (h : H a = some o) (h' : H b = none) : a ≠ b := by
  intro e; subst e; rw [h] at h'; cases h'

noncomputable def IsTupN (h : Heap) (a : Addr) (items : Array Value) : Prop := ∃ o, h.get? a = some o ∧ o.cls = .type "tuple" ∧ ∃ n, o.data = .seq items n ∧ o.dict = none
theorem IsTupN.tup {h : Heap} {a : Addr} {items : Array Value} (x : IsTupN h a items) : IsTup h a items := let ⟨o, h1, h2, n, h3, _⟩ := x; ⟨o, h1, h2, n, h3⟩
theorem IsTupN.new (h : Heap) (items : Array Value) : IsTupN (h.push { cls := .type "tuple", data := .seq items }) h.objs.size items := ⟨_, Heap.get?_push_size _ rfl, rfl, _, rfl, rfl⟩
section
variable (P : Program) (w : World)
noncomputable def ObjOk (H : Hp) (h : Heap) (a : Addr) : HO → Prop
  | .lst xs => xs.length ≤ sizeLine ∧ ∃ (its : List Value) (n : Nat), Vals xs its ∧ h.get? a = some { cls := .type "list", data := .seq its.toArray n }
  | .tup xs => xs.length ≤ sizeLine ∧ ∃ its : List Value, Vals xs its ∧ IsTupN h a its.toArray
  | .dK kvs => kvs.length ≤ sizeLine ∧ (a == sysModules) = false ∧ ∃ vs, KV kvs vs ∧ h.DictOf (mixKind P w) a vs
  | .dT kvs => kvs.length ≤ sizeLine ∧ (a == sysModules) = false ∧ ∃ xs : List (SK.Key2 × Addr × Value),
      Paired (fun (p : SK.Key2 × V) (q : SK.Key2 × Addr × Value) => p.1 = q.1 ∧ KeyAt H p.1 q.2.1 ∧ RelV p.2 q.2.2) kvs xs ∧
      ∃ o es ep, h.get? a = some o ∧ o.ExactDict ∧ o.data = .dict es ep ∧ es.toList = xs.map (entryOfKey (SK.stKind P w)) ∧ (xs.map (·.1)).Nodup
  | .set S n => h.SetOf (intKind P w) a S n
  | .ins C dx fs => H dx = some (.own a) ∧ fs.length ≤ 1000 ∧ dx ≠ a ∧ h.get? a = some (PySem.W.instObj C dx) ∧
      ∃ mA, h.Ns1 dx mA ∧ (∀ f, RelO (fs.lookup f) (mA f)) ∧ PySem.Within mA (fs.map (·.1))
  | .own _ => ∃ o, h.get? a = some o
  | .xd fs => ∃ mA, h.Ns1 a mA ∧ ∀ f, RelO (fs.lookup f) (mA f)
  | .rng lo hi => ∃ t u v, h.get? a = some { cls := .type "range", data := .fields #[.int lo t, .int hi u, .int 1 v] }
  | .frz o u => h.get? a = some o ∧ ObjOk H h a u
  | .tbl ps => h.get? a = some { cls := .none, data := .fields ps }
  | .met f x => h.get? a = some (PySem.W.methodObj (.ref f) (.ref x))
  | .ext φ => φ h ∧ (∃ o, h.get? a = some o) ∧ ∀ h1 h2 : Heap, φ h1 → (∀ o, h1.get? a = some o → h2.get? a = some o) → φ h2
noncomputable def HOk (H : Hp) (h : Heap) : Prop := ∀ a o, H a = some o → ObjOk P w H h a o
end

section
variable {P : Program} {w : World} {H H' : Hp} {h h' : Heap} {a : Addr} {o : HO}
theorem ObjOk.lt (x : ObjOk P w H h a o) : a < h.objs.size := by
  cases o with
  | lst xs => obtain ⟨_, _, _, _, e⟩ := x; exact Heap.lt_size e
  | tup xs => obtain ⟨_, _, _, p⟩ := x; exact p.tup.lt
  | dK kvs => obtain ⟨_, _, _, _, o, _, _, e, _⟩ := x; exact Heap.lt_size e
  | dT kvs => obtain ⟨_, _, _, _, o, _, _, e, _⟩ := x; exact Heap.lt_size e
  | set S n => obtain ⟨o, _, _, _, e, _⟩ := x; exact Heap.lt_size e
  | ins C dx fs => obtain ⟨_, _, _, e, _⟩ := x; exact Heap.lt_size e
  | own y => obtain ⟨_, e⟩ := x; exact Heap.lt_size e
  | xd fs => obtain ⟨_, ⟨_, _, _, e, _⟩, _⟩ := x; exact Heap.lt_size e
  | rng lo hi => obtain ⟨_, _, _, e⟩ := x; exact Heap.lt_size e
  | frz ob u => obtain ⟨e, _⟩ := x; exact Heap.lt_size e
  | tbl ps => exact Heap.lt_size (show h.get? a = some _ from x)
  | met f y => exact Heap.lt_size (show h.get? a = some _ from x)
  | ext φ => obtain ⟨_, ⟨_, e⟩, _⟩ := x; exact Heap.lt_size e
theorem Paired.mapP {α β : Type} {F G : α → β → Prop} : ∀ {l₁ : List α} {l₂ : List β}, Paired F l₁ l₂ → (∀ a b, F a b → G a b) → Paired G l₁ l₂
  | _, _, .nil, _ => .nil
  | _, _, .cons r t, f => .cons (f _ _ r) (Paired.mapP t f)
theorem ObjOk.stay (x : ObjOk P w H h a o) (k : ∀ b u, (b = a ∨ H b = some (.own a)) → h.get? b = some u → h'.get? b = some u)
    (ho : ∀ b, H b = some (.own a) → H' b = some (.own a)) (ht : ∀ b xs, H b = some (.tup xs) → H' b = some (.tup xs)) : ObjOk P w H' h' a o := by
  induction o with
  | lst xs => obtain ⟨z, its, n, r, e⟩ := x; exact ⟨z, its, n, r, k _ _ (.inl rfl) e⟩
  | tup xs => obtain ⟨z, its, r, ob, e, c⟩ := x; exact ⟨z, its, r, ob, k _ _ (.inl rfl) e, c⟩
  | dK kvs => obtain ⟨z, y, vs, r, ob, es, ep, e, c⟩ := x; exact ⟨z, y, vs, r, ob, es, ep, k _ _ (.inl rfl) e, c⟩
  | dT kvs =>
    obtain ⟨z, y, xs, r, ob, es, ep, e, c⟩ := x
    exact ⟨z, y, xs, Paired.mapP r fun p q z => ⟨z.1, z.2.1.keeps ht, z.2.2⟩, ob, es, ep, k _ _ (.inl rfl) e, c⟩
  | set S n => obtain ⟨ob, es, ep, t, e, c⟩ := x; exact ⟨ob, es, ep, t, k _ _ (.inl rfl) e, c⟩
  | ins C dx fs =>
    obtain ⟨d, z, ne, e, mA, ⟨od, es, ep, e2, c⟩, r⟩ := x
    exact ⟨ho _ d, z, ne, k _ _ (.inl rfl) e, mA, ⟨od, es, ep, k _ _ (.inr d) e2, c⟩, r⟩
  | own y => obtain ⟨ob, e⟩ := x; exact ⟨ob, k _ _ (.inl rfl) e⟩
  | xd fs => obtain ⟨mA, ⟨od, es, ep, e, c⟩, r⟩ := x; exact ⟨mA, ⟨od, es, ep, k _ _ (.inl rfl) e, c⟩, r⟩
  | rng lo hi => obtain ⟨t, u, v, e⟩ := x; exact ⟨t, u, v, k _ _ (.inl rfl) e⟩
  | frz ob u ih => obtain ⟨e, q⟩ := x; exact ⟨k _ _ (.inl rfl) e, ih q⟩
  | tbl ps =>
    have e : h.get? a = some { cls := .none, data := .fields ps } := x
    show h'.get? a = some { cls := .none, data := .fields ps }
    exact k a _ (.inl rfl) e
  | met f y =>
    have e : h.get? a = some (PySem.W.methodObj (.ref f) (.ref y)) := x
    show h'.get? a = some (PySem.W.methodObj (.ref f) (.ref y))
    exact k a _ (.inl rfl) e
  | ext φ => obtain ⟨p, ⟨o, e⟩, st⟩ := x; exact ⟨st _ _ p fun o q => k _ _ (.inl rfl) q, ⟨o, k _ _ (.inl rfl) e⟩, st⟩
theorem HOk.lt (x : HOk P w H h) (e : H a = some o) : a < h.objs.size := (x a o e).lt
theorem HOk.fresh (x : HOk P w H h) (e : h.objs.size ≤ a) : H a = none := by
  cases q : H a with
  | none => rfl
  | some u => exact absurd (Nat.lt_of_lt_of_le (x.lt q) e) (Nat.lt_irrefl _)
theorem HOk.kept (x : HOk P w H h) (k : ∀ b u, h.get? b = some u → h'.get? b = some u) : HOk P w H h' := fun a o e =>
  (x a o e).stay (fun b u _ q => k b u q) (fun _ q => q) fun _ _ q => q
theorem HOk.laid (x : HOk P w H h) (k : ∀ b u, h.get? b = some u → h'.get? b = some u) (hp : h.objs.size ≤ a) (new : ObjOk P w (upd H a o) h' a o) : HOk P w (upd H a o) h' := fun b u e => by
  have hn := x.fresh hp
  by_cases hb : b = a
  · subst hb; rw [upd_same] at e; cases e; exact new
  · rw [upd_ne hb] at e
    exact (x b u e).stay (fun c v _ q => k c v q) (fun c q => by rw [upd_ne (ne_of_none q hn)]; exact q) fun c xs q => by rw [upd_ne (ne_of_none q hn)]; exact q
end

noncomputable def Rd (H : Hp) (a : Addr) (u : HO) : Prop := H a = some u ∨ ∃ o, H a = some (.frz o u)
theorem Rd.ok {P : Program} {w : World} {H : Hp} {h : Heap} {a : Addr} {u : HO} (r : Rd H a u) (x : HOk P w H h) : ObjOk P w H h a u := by
  rcases r with r | ⟨o, r⟩
  · exact x a u r
  · obtain ⟨_, q⟩ := x a _ r
    exact q
noncomputable def Mut : Option HO → Prop
  | some (.lst _) => True
  | some (.dK _) => True
  | some (.dT _) => True
  | some (.set _ _) => True
  | some (.ins _ _ _) => True
  | some (.ext _) => True
  | _ => False
section
variable {P : Program} {w : World} {H : Hp} {h h' : Heap} {x e : Addr} {o' : HO}
theorem HOk.write (ok : HOk P w H h) (mu : Mut (H x)) (he : e = x ∨ H e = some (.own x)) (k : ∀ b u, b ≠ e → h.get? b = some u → h'.get? b = some u) (heo : ∃ u, h'.get? e = some u)
    (new : ObjOk P w (upd H x o') h' x o') : HOk P w (upd H x o') h' := fun b u q => by
  have nown : ∀ c y, H c = some (.own y) → c ≠ x := fun c y r z => by subst z; rw [r] at mu; exact mu
  have ntup : ∀ c xs, H c = some (.tup xs) → c ≠ x := fun c xs r z => by subst z; rw [r] at mu; exact mu
  by_cases hb : b = x
  · subst hb; rw [upd_same] at q; cases q; exact new
  · rw [upd_ne hb] at q
    by_cases hbe : b = e
    · have q' : H b = some (.own x) := by
        rcases he with z | z
        · exact absurd (hbe.trans z) hb
        · rw [hbe]; exact z
      rw [q] at q'; cases q'
      obtain ⟨v, hv⟩ := heo
      exact ⟨v, by rw [hbe]; exact hv⟩
    · refine (ok b u q).stay (fun c v hc r => k c v ?_ r) (fun c r => by rw [upd_ne (nown c b r)]; exact r) fun c xs r => by rw [upd_ne (ntup c xs r)]; exact r
      rcases hc with rfl | hc
      · exact hbe
      · rintro rfl
        rcases he with z | z
        · exact nown c b hc z
        · rw [hc] at z; cases z; exact hb rfl
end

structure Un (fs ex : List Addr) (H H' : Hp) (h h' : Heap) : Prop where
  keep : ∀ b o, h.get? b = some o → H b = none → b ∉ fs → b ∉ ex → h'.get? b = some o
  slot : ∀ b o, h.get? b = some o → H b = none → b ∈ fs → b ∉ ex → ∃ sl, h'.get? b = some { o with slots := sl }
  free : ∀ b o, h.get? b = some o → H b = none → b ∉ ex → H' b = none
  there : ∀ b o, h.get? b = some o → b ∉ ex → ∃ o', h'.get? b = some o'
  tups : ∀ b xs, H b = some (.tup xs) → H' b = some (.tup xs)
  frzs : ∀ b o u, H b = some (.frz o u) → H' b = some (.frz o u)
  tbls : ∀ b ps, H b = some (.tbl ps) → ∃ more, H' b = some (.tbl (ps ++ more))
section
variable {fs fs' ex ex' : List Addr} {H H1 H2 : Hp} {h h1 h2 h' : Heap} {a x e : Addr} {o : HO}
theorem Un.any (u : Un fs ex H H1 h h1) {b : Addr} {ob : Obj} (q : h.get? b = some ob) (n : H b = none) (hx : b ∉ ex) : ∃ sl, h1.get? b = some { ob with slots := sl } := by
  by_cases hb : b ∈ fs
  · exact u.slot b ob q n hb hx
  · exact ⟨ob.slots, u.keep b ob q n hb hx⟩
theorem Un.kept (k : ∀ b u, h.get? b = some u → h'.get? b = some u) : Un fs ex H H h h' :=
  ⟨fun b ob q _ _ _ => k b ob q, fun b ob q _ _ _ => ⟨ob.slots, k b ob q⟩, fun _ _ _ n _ => n, fun b ob q _ => ⟨ob, k b ob q⟩, fun _ _ q => q, fun _ _ _ q => q, fun _ ps q => ⟨#[], by rw [q]; simp⟩⟩
theorem Un.refl : Un fs ex H H h h := Un.kept fun _ _ q => q
theorem Un.laid (k : ∀ b u, h.get? b = some u → h'.get? b = some u) (hp : h.objs.size ≤ a) (hn : H a = none) : Un fs ex H (upd H a o) h h' where
  keep := fun b u q _ _ _ => k b u q
  slot := fun b u q _ _ _ => ⟨u.slots, k b u q⟩
  free := fun b u q n _ => by rw [upd_ne (Nat.ne_of_lt (Nat.lt_of_lt_of_le (Heap.lt_size q) hp))]; exact n
  there := fun b u q _ => ⟨u, k b u q⟩
  tups := fun b xs q => by rw [upd_ne (ne_of_none q hn)]; exact q
  frzs := fun b u xs q => by rw [upd_ne (ne_of_none q hn)]; exact q
  tbls := fun b ps q => ⟨#[], by rw [upd_ne (ne_of_none q hn), q]; simp⟩
theorem Un.write (mu : Mut (H x)) (he : e = x ∨ H e = some (.own x)) (k : ∀ b u, b ≠ e → h.get? b = some u → h'.get? b = some u) (heo : ∃ u, h'.get? e = some u) : Un fs ex H (upd H x o) h h' := by
  have hx : ∀ b, H b = none → b ≠ x := fun b n z => by subst z; rw [n] at mu; exact mu
  have hb : ∀ b, H b = none → b ≠ e := fun b n z => by
    subst z
    rcases he with r | r
    · exact hx b n r
    · rw [n] at r; cases r
  have hm : ∀ b u, H b = some u → ¬ Mut (some u) → b ≠ x := fun b u q nm z => by subst z; rw [q] at mu; exact nm mu
  refine ⟨fun b u q n _ _ => k b u (hb b n) q, fun b u q n _ _ => ⟨u.slots, k b u (hb b n) q⟩, fun b u q n _ => by rw [upd_ne (hx b n)]; exact n, fun b u q _ => ?_,
    fun b xs q => by rw [upd_ne (hm b _ q fun z => z)]; exact q, fun b u xs q => by rw [upd_ne (hm b _ q fun z => z)]; exact q, fun b ps q => ⟨#[], by rw [upd_ne (hm b _ q fun z => z), q]; simp⟩⟩
  by_cases hbe : b = e
  · subst hbe; exact heo
  · exact ⟨u, k b u hbe q⟩
end

noncomputable def trk (h : Heap) (H : Hp) : List Addr := (List.range h.objs.size).filter fun a => (H a).isSome
noncomputable def hidT (h : Heap) (H : Hp) : Heap := PySem.W.hideAll h (trk h H)
theorem hidT_size (h : Heap) (H : Hp) : (hidT h H).objs.size = h.objs.size := PySem.W.hideAll_size _ _
theorem hidT_get {h : Heap} {H : Hp} {b : Addr} {o : Obj} (e : h.get? b = some o) (n : H b = none) : (hidT h H).get? b = some o :=
  PySem.W.hideAll_get _ e fun hm => by
    have q : (H b).isSome = true := (List.mem_filter.mp hm).2
    rw [n] at q; simp at q
theorem of_hidT {h : Heap} {H : Hp} {b : Addr} {o : Obj} (e : (hidT h H).get? b = some o) : h.get? b = some o ∧ H b = none := by
  have e' : h.get? b = some o := PySem.W.of_hideAll (trk h H) e
  refine ⟨e', ?_⟩
  cases q : H b with
  | none => rfl
  | some x =>
    have hm : b ∈ trk h H := List.mem_filter.mpr ⟨List.mem_range.mpr (Heap.lt_size e'), by simp [q]⟩
    have z : (hidT h H).get? b = none := PySem.W.hideAll_none (trk h H) hm
    rw [z] at e; cases e

end L2

namespace L2
open PySem PySem.Spec PyProof.Rows

structure Mod (K : PySem.W.Frag) (mg : Str → Option Value) (base : Heap) : Prop where
  kin : K.In base
  glob : base.Ns mainGlobals mg
  blt : ∃ mb, base.Ns builtinsNs mb ∧ ∀ x : Str, x ≠ "__name__" → mb x = bootBuiltins x
  nolimit : base.NoLimit

structure Cx where
  prog : Program
  w : World
  K : PySem.W.Frag
  mg : Str → Option Value
  base : Heap
  A : Around
  N : List Str
  s_0 : Shared
  H_0 : Hp
  env : Env
  outer : List Env
  stack : List Env
  ex : List Addr
  fn : Str → Bool
  calm : Bool
  pn : List (Addr × Obj)
  xe : Value → Shared → Prop
noncomputable def frs (l : List Env) : List Addr := l.filterMap (·.frame)
noncomputable abbrev Cx.fs (X : Cx) : List Addr := frs X.outer

noncomputable def Vis (sc : Scope) (x : Str) : Prop := sc.names.lookup x = some .local ∨ sc.names.lookup x = some .cell ∨ sc.names.lookup x = some .free
noncomputable def Loc (sc : Scope) (x : Str) : Prop := sc.names.lookup x = some .local ∨ sc.names.lookup x = some .cell
noncomputable def Look (env : Env) (h : Heap) (m : Str → Option Value) (x : Str) (u : Value) : Prop :=
  (env.kindOf x = some .local ∧ m x = some u) ∨ ((env.kindOf x = some .cell ∨ env.kindOf x = some .free) ∧ ∃ c, env.cells.lookup x = some c ∧ h.IsCell c (some u))

structure Cx.Ok (X : Cx) : Prop where
  mod : Mod X.K X.mg X.base
  kind : X.env.scope.kind = .function
  glob : X.env.globals = mainGlobals
  blt : X.env.builtins = builtinsNs
  above : X.s_0.heap.objs.size ≤ X.env.locals
  inj : ∀ x y c, X.env.cells.lookup x = some c → X.env.cells.lookup y = some c → x = y
  has : ∀ x, (X.env.kindOf x = some .cell ∨ X.env.kindOf x = some .free) → ∃ c, X.env.cells.lookup x = some c
  cab : ∀ x c, X.fn x = true → X.env.cells.lookup x = some c → X.s_0.heap.objs.size ≤ c
  hd : X.calm = true → X.A.handled = none
  frames : X.A.frames = some X.stack
  stk : X.stack = X.outer ∨ (X.stack = X.env :: X.outer ∧ X.env.frame = some X.env.locals)
  exf : ∀ b ∈ X.ex, b ≠ X.env.locals ∧ ∀ x c, X.env.cells.lookup x = some c → c ≠ b
  bs : ∀ b o, X.base.get? b = some o → X.s_0.heap.get? b = some o ∧ X.H_0 b = none
  bsz : X.base.objs.size ≤ X.s_0.heap.objs.size
  noex : ∀ b o, X.base.get? b = some o → b ∉ X.ex
  exfs : ∀ b ∈ X.ex, b ∉ X.fs
  funs : X.s_0.heap.FunFrames X.base X.outer
  frf : ∀ b ∈ X.fs, X.H_0 b = none

structure Inv (X : Cx) (pins : List (Addr × Obj)) (σ : List (Option V)) (H : Hp) (s : Shared) : Prop where
  ok : X.Ok
  os : s.os = X.s_0.os
  bare : AllBare s.gens
  base : Un X.fs X.ex X.H_0 H X.s_0.heap s.heap
  loc : ∃ m, s.heap.Ns X.env.locals m ∧ ∀ (i : Nat) (x : Str) (v : V), X.N[i]? = some x → σ[i]? = some (some v) → Vis X.env.scope x → ∃ u, RelV v u ∧ Look X.env s.heap m x u
  cell : ∀ x c, X.env.cells.lookup x = some c → ∃ v, s.heap.IsCell c v
  free : H X.env.locals = none
  freeC : ∀ x c, X.env.cells.lookup x = some c → H c = none
  pin : ∀ p ∈ X.pn ++ pins, s.heap.get? p.1 = some p.2 ∧ H p.1 = none ∧ p.1 ≠ X.env.locals ∧ p.1 ∉ X.fs ∧ ∀ v, p.2.data ≠ .cell v
  hok : HOk X.prog X.w H s.heap
  len : σ.length = X.N.length

section
variable {X : Cx} {pins : List (Addr × Obj)} {σ : List (Option V)} {H H' : Hp} {s : Shared} {h' : Heap}

theorem Cx.Ok.nofr (ok : X.Ok) {b : Addr} {o : Obj} (e : X.base.get? b = some o) : b ∉ X.fs := fun hb => by
  have := (ok.funs.mem hb).1
  rw [e] at this; cases this
theorem Inv.bs (I : Inv X pins σ H s) : ∀ b o, X.base.get? b = some o → s.heap.get? b = some o ∧ H b = none := fun b o e =>
  ⟨I.base.keep b o (I.ok.bs b o e).1 (I.ok.bs b o e).2 (I.ok.nofr e) (I.ok.noex b o e), I.base.free b o (I.ok.bs b o e).1 (I.ok.bs b o e).2 (I.ok.noex b o e)⟩
theorem Inv.bk (I : Inv X pins σ H s) : ∀ b o, X.base.get? b = some o → s.heap.get? b = some o := fun b o e => (I.bs b o e).1
theorem Inv.mod (I : Inv X pins σ H s) : Mod X.K X.mg X.base := I.ok.mod
theorem Inv.kIn (I : Inv X pins σ H s) : X.K.In s.heap := I.ok.mod.kin.keeps I.bk
theorem Inv.lt (I : Inv X pins σ H s) : X.env.locals < s.heap.objs.size := let ⟨_, hn, _⟩ := I.loc; hn.lt
theorem Inv.sz (I : Inv X pins σ H s) : X.s_0.heap.objs.size ≤ s.heap.objs.size := Nat.le_trans I.ok.above (Nat.le_of_lt I.lt)
theorem Inv.nofs (I : Inv X pins σ H s) {a : Addr} (h : s.heap.objs.size ≤ a) : a ∉ X.fs := fun hb => by
  obtain ⟨_, o, ho, _⟩ := I.ok.funs.mem hb
  exact absurd (Nat.lt_of_lt_of_le (Heap.lt_size ho) (Nat.le_trans I.sz h)) (Nat.lt_irrefl _)
theorem Inv.cne (I : Inv X pins σ H s) : ∀ x c, X.env.cells.lookup x = some c → c ≠ X.env.locals := fun x c e z => by
  obtain ⟨v, o, ho, hd⟩ := I.cell x c e
  obtain ⟨m, ⟨o', es, ep, ho', hd', _⟩, _⟩ := I.loc
  rw [z, ho'] at ho; cases ho; rw [hd'] at hd; cases hd
theorem Inv.funs (I : Inv X pins σ H s) : s.heap.FunFrames X.base X.outer := by
  have all : ∀ (l : List Env), (∀ b ∈ frs l, b ∈ X.fs) → X.s_0.heap.FunFrames X.base l → s.heap.FunFrames X.base l := by
    intro l
    induction l with
    | nil => intro _ _; trivial
    | cons env r ih =>
      intro hs hl
      obtain ⟨hk, ⟨L, o, hf, hn, ho, hd⟩, hr⟩ := hl
      have hL : L ∈ X.fs := hs L (by unfold frs; rw [List.filterMap_cons, hf]; exact List.mem_cons_self)
      obtain ⟨sl, e⟩ := I.base.slot L o ho (I.ok.frf L hL) hL fun z => I.ok.exfs L z hL
      exact ⟨hk, ⟨L, _, hf, hn, e, hd⟩, ih (fun b hb => hs b (by unfold frs; rw [List.filterMap_cons, hf]; exact List.mem_cons_of_mem _ hb)) hr⟩
  exact all X.outer (fun _ hb => hb) I.ok.funs

theorem Inv.stack (I : Inv X pins σ H s) : s.heap.FunFrames X.base X.stack := by
  rcases I.ok.stk with e | ⟨e, hf⟩
  · rw [e]; exact I.funs
  · rw [e]
    obtain ⟨m, hn, _⟩ := I.loc
    refine .cons (by rw [I.ok.kind]; decide) hf hn ?_ I.funs
    exact Heap.get?_none_of_le (Nat.le_trans I.ok.bsz I.ok.above)
theorem Inv.stkSub (I : Inv X pins σ H s) : ∀ b ∈ frs X.stack, b ∈ X.env.locals :: X.fs := fun b hb => by
  rcases I.ok.stk with e | ⟨e, hf⟩
  · rw [e] at hb; exact List.mem_cons_of_mem _ hb
  · rw [e] at hb
    unfold frs at hb
    rw [List.filterMap_cons, hf] at hb
    exact hb
theorem Inv.stkFree (I : Inv X pins σ H s) : ∀ b ∈ frs X.stack, H b = none := fun b hb => by
  rcases List.mem_cons.mp (I.stkSub b hb) with e | hb
  · rw [e]; exact I.free
  · obtain ⟨_, o, ho, _⟩ := I.ok.funs.mem hb
    exact I.base.free b o ho (I.ok.frf b hb) fun z => I.ok.exfs b z hb

theorem Inv.step {g' : Array GenState} {t' : Nat} {d' : Drawn} {ch : List Addr} (I : Inv X pins σ H s)
    (hch : ∀ b ∈ ch, (b ∈ X.ex ∨ X.s_0.heap.objs.size ≤ b) ∧ b ≠ X.env.locals ∧ (∀ x c, X.env.cells.lookup x = some c → c ≠ b) ∧ ∀ p ∈ X.pn ++ pins, p.1 ≠ b)
    (keep : ∀ b o, b ≠ X.env.locals → b ∉ X.fs → b ∉ ch → s.heap.get? b = some o → H b = none → h'.get? b = some o)
    (slot : ∀ b o, b ≠ X.env.locals → b ∈ X.fs → b ∉ ch → s.heap.get? b = some o → H b = none → ∃ sl, h'.get? b = some { o with slots := sl }) (free : ∀ b o, b ∉ ch → s.heap.get? b = some o → H b = none → H' b = none)
    (there : ∀ b o, b ∉ ch → s.heap.get? b = some o → ∃ o', h'.get? b = some o')
    (tups : ∀ b xs, H b = some (.tup xs) → H' b = some (.tup xs)) (frzs : ∀ b o u, H b = some (.frz o u) → H' b = some (.frz o u)) (tbls : ∀ b ps, H b = some (.tbl ps) → ∃ more, H' b = some (.tbl (ps ++ more)))
    (ns : ∀ m, s.heap.Ns X.env.locals m → h'.Ns X.env.locals m) (hok : HOk X.prog X.w H' h') (hg : AllBare g') :
    Inv X pins σ H' { s with heap := h', gens := g', drawn := d', toks := t' } := by
  have neL : ∀ b o, X.s_0.heap.get? b = some o → b ≠ X.env.locals := fun b o e => Nat.ne_of_lt (Nat.lt_of_lt_of_le (Heap.lt_size e) I.ok.above)
  have neC : ∀ b o, X.s_0.heap.get? b = some o → b ∉ X.ex → b ∉ ch := fun b o e hx hb => by
    rcases (hch b hb).1 with z | z
    · exact hx z
    · exact absurd (Nat.lt_of_lt_of_le (Heap.lt_size e) z) (Nat.lt_irrefl _)
  have cellK : ∀ x c, X.env.cells.lookup x = some c → ∀ v, s.heap.IsCell c v → h'.IsCell c v := fun x c e v ⟨o, ho, hd⟩ => by
    have nch : c ∉ ch := fun z => (hch c z).2.2.1 x c e rfl
    by_cases hc : c ∈ X.fs
    · obtain ⟨sl, q⟩ := slot c o (I.cne x c e) hc nch ho (I.freeC x c e)
      exact ⟨_, q, hd⟩
    · exact ⟨o, keep c o (I.cne x c e) hc nch ho (I.freeC x c e), hd⟩
  refine ⟨I.ok, I.os, hg, ⟨fun b o e n hb hx => ?_, fun b o e n hb hx => ?_, fun b o e n hx => ?_, fun b o e hx => ?_, fun b xs e => tups b xs (I.base.tups b xs e), fun b o xs e => frzs b o xs (I.base.frzs b o xs e), fun b ps e => ?_⟩, ?_, fun x c e => ?_, ?_, fun x c e => ?_, fun p hp => ?_, hok, I.len⟩
  · exact keep b o (neL b o e) hb (neC b o e hx) (I.base.keep b o e n hb hx) (I.base.free b o e n hx)
  · obtain ⟨sl, e1⟩ := I.base.slot b o e n hb hx
    obtain ⟨sl', e2⟩ := slot b _ (neL b o e) hb (neC b o e hx) e1 (I.base.free b o e n hx)
    exact ⟨sl', e2⟩
  · obtain ⟨o', e1⟩ := I.base.there b o e hx
    exact free b o' (neC b o e hx) e1 (I.base.free b o e n hx)
  · obtain ⟨o', e1⟩ := I.base.there b o e hx
    exact there b o' (neC b o e hx) e1
  · obtain ⟨m1, e1⟩ := I.base.tbls b ps e
    obtain ⟨m2, e2⟩ := tbls b _ e1
    exact ⟨m1 ++ m2, by rw [e2, Array.append_assoc]⟩
  · obtain ⟨m, hn, hl⟩ := I.loc
    refine ⟨m, ns m hn, fun i x v e1 e2 e3 => ?_⟩
    obtain ⟨u, r, l⟩ := hl i x v e1 e2 e3
    refine ⟨u, r, ?_⟩
    rcases l with l | ⟨k, c, e, z⟩
    · exact .inl l
    · exact .inr ⟨k, c, e, cellK x c e _ z⟩
  · obtain ⟨v, z⟩ := I.cell x c e
    exact ⟨v, cellK x c e v z⟩
  · obtain ⟨m, ⟨o, _, _, ho, _⟩, _⟩ := I.loc
    exact free _ o (fun z => (hch _ z).2.1 rfl) ho I.free
  · obtain ⟨v, o, ho, hd⟩ := I.cell x c e
    exact free c o (fun z => (hch c z).2.2.1 x c e rfl) ho (I.freeC x c e)
  · obtain ⟨e, n, ne, nf, d⟩ := I.pin p hp
    have nch : p.1 ∉ ch := fun z => (hch p.1 z).2.2.2 p hp rfl
    exact ⟨keep p.1 p.2 ne nf nch e n, free p.1 p.2 nch e n, ne, nf, d⟩
theorem Inv.un {t' : Nat} (I : Inv X pins σ H s) (u : Un X.fs [] H H' s.heap h') (hok : HOk X.prog X.w H' h') : Inv X pins σ H' { s with heap := h', toks := t' } := by
  obtain ⟨m, ⟨o, es, ep, ho, r⟩, _⟩ := id I.loc
  obtain ⟨sl, hL⟩ := u.any ho I.free (by simp)
  exact I.step (g' := s.gens) (d' := s.drawn) (ch := []) (fun _ z => nomatch z) (fun b o _ hb _ e n => u.keep b o e n hb (by simp)) (fun b o _ hb _ e n => u.slot b o e n hb (by simp)) (fun b o _ e n => u.free b o e n (by simp)) (fun b o _ e => u.there b o e (by simp)) u.tups u.frzs u.tbls (fun m' hm => by
    obtain ⟨o', es', ep', ho', r'⟩ := hm
    rw [ho] at ho'; cases ho'
    exact ⟨_, es', ep', hL, r'⟩) hok I.bare
theorem Inv.call {g' : Array GenState} {t' : Nat} {d' : Drawn} {ch : List Addr} (I : Inv X pins σ H s) (u : Un (frs X.stack) ch H H' s.heap h') (hok : HOk X.prog X.w H' h') (hg : AllBare g')
    (hch : ∀ b ∈ ch, (b ∈ X.ex ∨ X.s_0.heap.objs.size ≤ b) ∧ b ≠ X.env.locals ∧ (∀ x c, X.env.cells.lookup x = some c → c ≠ b) ∧ ∀ p ∈ X.pn ++ pins, p.1 ≠ b) :
    Inv X pins σ H' { s with heap := h', gens := g', drawn := d', toks := t' } := by
  obtain ⟨m, ⟨o, es, ep, ho, r⟩, _⟩ := id I.loc
  obtain ⟨sl, hL⟩ := u.any ho I.free fun z => (hch _ z).2.1 rfl
  exact I.step (ch := ch) hch (fun b o hL hb hc e n => u.keep b o e n (fun z => (List.mem_cons.mp (I.stkSub b z)).elim hL hb) hc) (fun b o _ _ hc e n => u.any e n hc) (fun b o hc e n => u.free b o e n hc) (fun b o hc e => u.there b o e hc) u.tups u.frzs u.tbls (fun m' hm => by
    obtain ⟨o', es', ep', ho', r'⟩ := hm
    rw [ho] at ho'; cases ho'
    exact ⟨_, es', ep', hL, r'⟩) hok hg
theorem Inv.turned {t' : Nat} {it : Addr} (I : Inv X pins σ H s) (k : ∀ b o, b ≠ it → s.heap.get? b = some o → h'.get? b = some o) (hn : H it = none) (hL : it ≠ X.env.locals)
    (h1 : it ∈ X.ex ∨ X.s_0.heap.objs.size ≤ it) (h2 : ∀ x c, X.env.cells.lookup x = some c → c ≠ it) (h3 : ∀ p ∈ X.pn ++ pins, p.1 ≠ it) : Inv X pins σ H { s with heap := h', toks := t' } := by
  have nit : ∀ b u, H b = some u → b ≠ it := fun b u e z => by rw [z, hn] at e; cases e
  refine I.step (g' := s.gens) (d' := s.drawn) (ch := [it]) (fun b hb => ?_) (fun b o _ _ hc e _ => k b o (fun z => hc (by simp [z])) e) (fun b o _ _ hc e _ => ⟨o.slots, k b o (fun z => hc (by simp [z])) e⟩) (fun _ _ _ _ n => n)
    (fun b o hc e => ⟨o, k b o (fun z => hc (by simp [z])) e⟩) (fun _ _ e => e) (fun _ _ _ e => e) (fun b ps e => ⟨#[], by rw [e]; simp⟩) (fun m hm => ?_) (fun b u e => ?_) I.bare
  · have e : b = it := by simpa using hb
    subst e
    exact ⟨h1, hL, h2, h3⟩
  · obtain ⟨o, es, ep, ho, r⟩ := hm
    exact ⟨o, es, ep, k _ o (Ne.symm hL) ho, r⟩
  · refine (I.hok b u e).stay (fun c v hc q => k c v ?_ q) (fun _ q => q) fun _ _ q => q
    rcases hc with z | z
    · rw [z]; exact nit b u e
    · exact nit c _ z
theorem Inv.tok (I : Inv X pins σ H s) (t : Nat) : Inv X pins σ H { s with toks := t } := I.un (h' := s.heap) (t' := t) Un.refl I.hok
theorem Inv.kept {t' : Nat} (I : Inv X pins σ H s) (k : ∀ b u, s.heap.get? b = some u → h'.get? b = some u) : Inv X pins σ H { s with heap := h', toks := t' } := I.un (Un.kept k) (I.hok.kept k)
theorem Inv.laid {a : Addr} {o : HO} {t' : Nat} (I : Inv X pins σ H s) (k : ∀ b u, s.heap.get? b = some u → h'.get? b = some u) (hp : s.heap.objs.size ≤ a) (new : ObjOk X.prog X.w (upd H a o) h' a o) :
    Inv X pins σ (upd H a o) { s with heap := h', toks := t' } := I.un (Un.laid k hp (I.hok.fresh hp)) (I.hok.laid k hp new)
theorem Inv.write {x e : Addr} {o : HO} {t' : Nat} (I : Inv X pins σ H s) (mu : Mut (H x)) (he : e = x ∨ H e = some (.own x)) (k : ∀ b u, b ≠ e → s.heap.get? b = some u → h'.get? b = some u) (heo : ∃ u, h'.get? e = some u)
    (new : ObjOk X.prog X.w (upd H x o) h' x o) : Inv X pins σ (upd H x o) { s with heap := h', toks := t' } := I.un (Un.write mu he k heo) (I.hok.write mu he k heo new)
theorem Inv.weak {σ' : List (Option V)} (I : Inv X pins σ H s) (hl : σ'.length = σ.length) (w : ∀ (i : Nat) v, σ'[i]? = some (some v) → σ[i]? = some (some v)) : Inv X pins σ' H s :=
  ⟨I.ok, I.os, I.bare, I.base, let ⟨m, hn, hl'⟩ := I.loc; ⟨m, hn, fun i x v e1 e2 e3 => hl' i x v e1 (w i v e2) e3⟩, I.cell, I.free, I.freeC, I.pin, I.hok, hl.trans I.len⟩
theorem Inv.pins_of {pins' : List (Addr × Obj)} (I : Inv X pins σ H s) (h : ∀ p ∈ pins', s.heap.get? p.1 = some p.2 ∧ H p.1 = none ∧ p.1 ≠ X.env.locals ∧ p.1 ∉ X.fs ∧ ∀ v, p.2.data ≠ .cell v) : Inv X pins' σ H s :=
  ⟨I.ok, I.os, I.bare, I.base, I.loc, I.cell, I.free, I.freeC, fun p hp => (List.mem_append.mp hp).elim (fun z => I.pin p (List.mem_append_left _ z)) (h p), I.hok, I.len⟩

theorem nodup_ix {N : List Str} (hN : N.Nodup) {i j : Nat} {x : Str} (a : N[i]? = some x) (b : N[j]? = some x) : i = j := by
  obtain ⟨h1, e1⟩ := List.getElem?_eq_some_iff.mp a
  obtain ⟨h2, e2⟩ := List.getElem?_eq_some_iff.mp b
  exact (List.getElem_inj hN).mp (e1.trans e2.symm)

theorem store_ok2 {M : Model} {A : Around} {E : Value → Shared → Prop} {i : Nat} {x : Str} {v : V} {u : Value} {Q : Unit → Shared → Prop} (I : Inv X pins σ H s) (hN : X.N.Nodup) (hi : X.N[i]? = some x) (hx : Loc X.env.scope x) (r : RelV v u)
    (h : ∀ s', Inv X pins (σ.set i (some v)) H s' → (∃ a, Heap.SameBut a s.heap s'.heap ∧ (a = X.env.locals ∨ X.env.cells.lookup x = some a)) → Q () s') (hf : X.fn x = true ∨ X.env.scope.names.lookup x = some .local := by first | exact .inl rfl | exact .inr rfl | assumption) : wpAny M A (storeName X.env x u) Q E s := by
  obtain ⟨m, hn, hl⟩ := id I.loc
  have hcls : (X.env.scope.kind == .class || (X.env.scope.kind == .module && X.env.locals != X.env.globals)) = false := by rw [I.ok.kind]; rfl
  have hiσ : i < σ.length := by rw [I.len]; exact (List.getElem?_eq_some_iff.mp hi).1
  have cne := I.cne
  have tracked : ∀ {a : Addr} {h' : Heap}, (∃ o, s.heap.get? a = some o ∧ H a = none) → Heap.SameBut a s.heap h' → HOk X.prog X.w H h' := fun {a h'} ha hs b ob e => by
    obtain ⟨_, _, hfree⟩ := ha
    refine (I.hok b ob e).stay (fun c w' hc q => (hs.2 c ?_).trans q) (fun _ q => q) fun _ _ q => q
    rintro rfl
    rcases hc with rfl | hc
    · rw [hfree] at e; cases e
    · rw [hfree] at hc; cases hc
  rcases hx with hk | hk
  · refine wpAny_storeName_local hk hn (fun h' hn' hs => ?_) hcls
    obtain ⟨oL, _, _, hoL, _⟩ := id hn
    refine h _ ⟨I.ok, I.os, I.bare, ⟨fun b o e n hb hx => ?_, fun b o e n hb hx => ?_, I.base.free, fun b o e hx => ?_, I.base.tups, I.base.frzs, I.base.tbls⟩, ⟨_, hn', fun j y v' e1 e2 e3 => ?_⟩, fun y c e => ?_, I.free, I.freeC, fun p hp => ?_, tracked ⟨oL, hoL, I.free⟩ hs, by simpa using I.len⟩ ⟨_, hs, .inl rfl⟩
    · exact (hs.2 b (Nat.ne_of_lt (Nat.lt_of_lt_of_le (Heap.lt_size e) I.ok.above))).trans (I.base.keep b o e n hb hx)
    · obtain ⟨sl, e1⟩ := I.base.slot b o e n hb hx
      exact ⟨sl, (hs.2 b (Nat.ne_of_lt (Nat.lt_of_lt_of_le (Heap.lt_size e) I.ok.above))).trans e1⟩
    · obtain ⟨o', e1⟩ := I.base.there b o e hx
      exact ⟨o', (hs.2 b (Nat.ne_of_lt (Nat.lt_of_lt_of_le (Heap.lt_size e) I.ok.above))).trans e1⟩
    · by_cases hj : j = i
      · subst hj
        rw [hi] at e1; cases e1
        rw [List.getElem?_set_self hiσ] at e2
        cases e2
        exact ⟨u, r, .inl ⟨hk, by simp⟩⟩
      · rw [List.getElem?_set_ne (Ne.symm hj)] at e2
        obtain ⟨u', r', q⟩ := hl j y v' e1 e2 e3
        refine ⟨u', r', ?_⟩
        rcases q with ⟨k, e⟩ | ⟨k, c, e, z⟩
        · refine .inl ⟨k, ?_⟩
          have : y ≠ x := fun e => hj (nodup_ix hN e1 (e ▸ hi))
          simp [this, e]
        · exact .inr ⟨k, c, e, z.sameBut hs (cne y c e)⟩
    · obtain ⟨w', z⟩ := I.cell y c e
      exact ⟨w', z.sameBut hs (cne y c e)⟩
    · obtain ⟨e, n, ne, nf, d⟩ := I.pin p hp
      exact ⟨(hs.2 p.1 ne).trans e, n, ne, nf, d⟩
  · have hfn : X.fn x = true := by
      rcases hf with z | z
      · exact z
      · rw [z] at hk; cases hk
    obtain ⟨c, hc⟩ := I.ok.has x (.inl hk)
    obtain ⟨w', z⟩ := I.cell x c hc
    refine wpAny_storeName_cell I.ok.kind hk hc z (fun h' hc' hs => ?_)
    obtain ⟨oc, hoc, hocd⟩ := id z
    refine h { s with heap := h' } ⟨I.ok, I.os, I.bare, ⟨fun b o e n hb hx => ?_, fun b o e n hb hx => ?_, I.base.free, fun b o e hx => ?_, I.base.tups, I.base.frzs, I.base.tbls⟩, ⟨m, hn.sameBut hs (Ne.symm (cne x c hc)), fun j y v' e1 e2 e3 => ?_⟩, fun y c' e => ?_, I.free, I.freeC, fun p hp => ?_, tracked ⟨oc, hoc, I.freeC x c hc⟩ hs, by simpa using I.len⟩ ⟨c, hs, .inr hc⟩
    · exact (hs.2 b (Nat.ne_of_lt (Nat.lt_of_lt_of_le (Heap.lt_size e) (I.ok.cab x c hfn hc)))).trans (I.base.keep b o e n hb hx)
    · obtain ⟨sl, e1⟩ := I.base.slot b o e n hb hx
      exact ⟨sl, (hs.2 b (Nat.ne_of_lt (Nat.lt_of_lt_of_le (Heap.lt_size e) (I.ok.cab x c hfn hc)))).trans e1⟩
    · obtain ⟨o', e1⟩ := I.base.there b o e hx
      exact ⟨o', (hs.2 b (Nat.ne_of_lt (Nat.lt_of_lt_of_le (Heap.lt_size e) (I.ok.cab x c hfn hc)))).trans e1⟩
    · by_cases hj : j = i
      · subst hj
        rw [hi] at e1; cases e1
        rw [List.getElem?_set_self hiσ] at e2
        cases e2
        exact ⟨u, r, .inr ⟨.inl hk, c, hc, hc'⟩⟩
      · rw [List.getElem?_set_ne (Ne.symm hj)] at e2
        obtain ⟨u', r', q⟩ := hl j y v' e1 e2 e3
        refine ⟨u', r', ?_⟩
        rcases q with q | ⟨k, c', e, z'⟩
        · exact .inl q
        · refine .inr ⟨k, c', e, z'.sameBut hs ?_⟩
          rintro rfl
          exact hj (nodup_ix hN e1 (I.ok.inj _ _ _ e hc ▸ hi))
    · by_cases hcc : c' = c
      · subst hcc; exact ⟨_, hc'⟩
      · obtain ⟨w2, z2⟩ := I.cell y c' e
        exact ⟨w2, z2.sameBut hs hcc⟩
    · obtain ⟨e, n, ne, nf, d⟩ := I.pin p hp
      refine ⟨(hs.2 p.1 ?_).trans e, n, ne, nf, d⟩
      intro q
      rw [q, hoc] at e
      have q' : oc = p.2 := Option.some.inj e
      exact d w' (by rw [← q']; exact hocd)
theorem store_ok {M : Model} {A : Around} {E : Value → Shared → Prop} {i : Nat} {x : Str} {v : V} {u : Value} {Q : Unit → Shared → Prop} (I : Inv X pins σ H s) (hN : X.N.Nodup) (hi : X.N[i]? = some x) (hx : Loc X.env.scope x) (r : RelV v u)
    (h : ∀ s', Inv X pins (σ.set i (some v)) H s' → Q () s') (hf : X.fn x = true ∨ X.env.scope.names.lookup x = some .local := by first | exact .inl rfl | exact .inr rfl | assumption) : wpAny M A (storeName X.env x u) Q E s :=
  store_ok2 I hN hi hx r (fun s' I' _ => h s' I') hf
theorem Inv.call' {s' : Shared} {ch : List Addr} (I : Inv X pins σ H s) (ho : s'.os = s.os) (u : Un (frs X.stack) ch H H' s.heap s'.heap) (hok : HOk X.prog X.w H' s'.heap) (hg : AllBare s'.gens)
    (hch : ∀ b ∈ ch, (b ∈ X.ex ∨ X.s_0.heap.objs.size ≤ b) ∧ b ≠ X.env.locals ∧ (∀ x c, X.env.cells.lookup x = some c → c ≠ b) ∧ ∀ p ∈ X.pn ++ pins, p.1 ≠ b) : Inv X pins σ H' s' := by
  obtain ⟨h', g', d', t', o'⟩ := s'
  have e : o' = s.os := ho
  subst e
  exact I.call (g' := g') (t' := t') (d' := d') u hok hg hch
end

noncomputable abbrev XK := Value → Option Addr → Hp → Prop
noncomputable abbrev St := List (Option V)
noncomputable abbrev VK := V → Hp → Prop
noncomputable abbrev TE := St → Hp → VK → Prop
noncomputable abbrev TT := St → Hp → (Bool → Hp → Prop) → Prop
noncomputable abbrev TA := St → Hp → (List V → Hp → Prop) → Prop
structure Ends where
  nx : St → Hp → Prop
  rt : VK
  bk : St → Hp → Prop := fun _ _ => False
  ct : St → Hp → Prop := fun _ _ => False
noncomputable abbrev TS := Ends → St → Hp → Prop

noncomputable def EP (X : Cx) (pins : List (Addr × Obj)) (σ : St) (Q : VK) (u : Value) (s' : Shared) : Prop := ∃ v H', Inv X pins σ H' s' ∧ RelV v u ∧ Q v H'
noncomputable def TP (X : Cx) (pins : List (Addr × Obj)) (σ : St) (Q : Bool → Hp → Prop) (b : Bool) (s' : Shared) : Prop := ∃ H', Inv X pins σ H' s' ∧ Q b H'
noncomputable def AP (X : Cx) (pins : List (Addr × Obj)) (σ : St) (Q : List V → Hp → Prop) (us : List Value) (s' : Shared) : Prop := ∃ vs H', Inv X pins σ H' s' ∧ Vals vs us ∧ Q vs H'
noncomputable def SP (X : Cx) (pins : List (Addr × Obj)) (D : Ends) (f : Flow) (s' : Shared) : Prop :=
  match f with
  | .next => ∃ σ' H', Inv X pins σ' H' s' ∧ D.nx σ' H'
  | .brk => ∃ σ' H', Inv X pins σ' H' s' ∧ D.bk σ' H'
  | .cont => ∃ σ' H', Inv X pins σ' H' s' ∧ D.ct σ' H'
  | .ret u => ∃ v σ' H', Inv X pins σ' H' s' ∧ RelV v u ∧ D.rt v H'

noncomputable def PE (X : Cx) (e : Expr) (t : TE) : Prop :=
  ∀ (pins : List (Addr × Obj)) (s : Shared) (σ : St) (H : Hp) (Q : VK), Inv X pins σ H s → t σ H Q → wpAny (model X.prog X.w) X.A (eval e X.env) (EP X pins σ Q) X.xe s
noncomputable def PT (X : Cx) (e : Expr) (t : TT) : Prop :=
  ∀ (pins : List (Addr × Obj)) (s : Shared) (σ : St) (H : Hp) (Q : Bool → Hp → Prop), Inv X pins σ H s → t σ H Q → wpAny (model X.prog X.w) X.A (isTrue e X.env (eval e X.env)) (TP X pins σ Q) X.xe s
noncomputable def PW (X : Cx) (e : Expr) (t : TT) : Prop :=
  ∀ (whole : Sem Value) (pins : List (Addr × Obj)) (s : Shared) (σ : St) (H : Hp) (Q : Bool → Hp → Prop), Inv X pins σ H s → t σ H Q → wpAny (model X.prog X.w) X.A (isTrue e X.env whole) (TP X pins σ Q) X.xe s
theorem PW.pt {X : Cx} {e : Expr} {t : TT} (h : PW X e t) : PT X e t := h _
noncomputable def PA (X : Cx) (es : List Expr) (t : TA) : Prop :=
  ∀ (pos : Pos) (pins : List (Addr × Obj)) (s : Shared) (σ : St) (H : Hp) (Q : List V → Hp → Prop), Inv X pins σ H s → t σ H Q → wpAny (model X.prog X.w) X.A (spliced (backTo pos (starEach es X.env))) (AP X pins σ Q) X.xe s
noncomputable def PS (X : Cx) (st : Stmt) (t : TS) : Prop :=
  ∀ (pins : List (Addr × Obj)) (s : Shared) (σ : St) (H : Hp) (D : Ends), Inv X pins σ H s → t D σ H → wpAny (model X.prog X.w) X.A (exec st X.env) (SP X pins D) X.xe s
noncomputable def PSs (X : Cx) (st : List Stmt) (t : TS) : Prop :=
  ∀ (pins : List (Addr × Obj)) (s : Shared) (σ : St) (H : Hp) (D : Ends), Inv X pins σ H s → t D σ H → wpAny (model X.prog X.w) X.A (execs st X.env) (SP X pins D) X.xe s
theorem thn {α : Type} {t : Sem α} {Q Q' : α → Shared → Prop} {M : Model} {A : Around} {E : Value → Shared → Prop} {s : Shared} (h : wpAny M A t Q E s) (hQ : ∀ a s, Q a s → Q' a s) : wpAny M A t Q' E s := wpAny_mono h hQ fun _ _ x => x
end L2

namespace L2
open PySem PySem.Spec PyProof.Rows
section
variable {X : Cx}

noncomputable def tVar (i : Nat) : TE := fun σ H Q => ∃ v, σ[i]? = some (some v) ∧ Q v H
noncomputable def tC (v : V) : TE := fun _ H Q => Q v H
theorem pe_var {i : Nat} {x : Str} {pos : Pos} (hN : X.N[i]? = some x) (hv : Vis X.env.scope x) (hd : (x == ("__debug__" : Str)) = false := by decide) (hcd : (x == ("__classdict__" : Str)) = false := by decide) : PE X (.Name x pos) (tVar i) := by
  intro pins s σ H Q I h
  obtain ⟨v, e, h⟩ := h
  obtain ⟨m, hn, hl⟩ := I.loc
  obtain ⟨u, r, l⟩ := hl i x v hN e hv
  have fin : EP X pins σ Q u s := ⟨v, H, I, r, h⟩
  rcases l with ⟨hk, hm⟩ | ⟨hk, c, hc, hcell⟩
  · exact wpAny_Name (wpAny_loadName_local I.ok.kind hk hn hm fin) hd
  · rcases hk with hk | hk
    · exact wpAny_Name (wpAny_loadName_cell I.ok.kind hk hc hcell fin) hd
    · exact wpAny_Name (wpAny_loadName_free I.ok.kind hk hc hcell fin hcd) hd
theorem pe_int {i j pos} : PE X (.Constant (.int i) j pos) (tC (.int i)) := fun _ _ _ H _ I h => wpAny_Constant_int ⟨.int i, H, I.tok _, ⟨_, rfl⟩, h⟩
theorem pe_bl {b j pos} : PE X (.Constant (.bool b) j pos) (tC (.bl b)) := fun _ _ _ H _ I h => Constant_bool ⟨.bl b, H, I, rfl, h⟩

noncomputable def Gl (X : Cx) (x : Str) : Prop := X.env.kindOf x = some .globalImplicit
theorem ld_glob {E : Value → Shared → Prop} {pins : List (Addr × Obj)} {s : Shared} {σ : St} {H : Hp} {x : Str} {u : Value} {pos : Pos} {Q : Value → Shared → Prop} (I : Inv X pins σ H s) (hg : Gl X x) (hm : X.mg x = some u) (h : Q u s)
    (hd : (x == ("__debug__" : Str)) = false := by decide) : wpAny (model X.prog X.w) X.A (eval (.Name x pos) X.env) Q E s :=
  Calls.Name_function_global I.ok.kind hg (Calls.loadGlobal_global (by rw [I.ok.glob]; exact I.mod.glob.keeps I.bk) hm h) hd
theorem ld_blt {E : Value → Shared → Prop} {pins : List (Addr × Obj)} {s : Shared} {σ : St} {H : Hp} {x : Str} {u : Value} {pos : Pos} {Q : Value → Shared → Prop} (I : Inv X pins σ H s) (hg : Gl X x) (hm : X.mg x = none) (hv : bootBuiltins x = some u) (h : Q u s)
    (hn : x ≠ "__name__" := by decide) (hd : (x == ("__debug__" : Str)) = false := by decide) : wpAny (model X.prog X.w) X.A (eval (.Name x pos) X.env) Q E s := by
  obtain ⟨mb, h1, h2⟩ := I.mod.blt
  exact Calls.Name_function_global I.ok.kind hg (Calls.loadGlobal_builtin (by rw [I.ok.glob]; exact I.mod.glob.keeps I.bk) hm (by rw [I.ok.blt]; exact h1.keeps I.bk) ((h2 x hn).trans hv) h) hd
theorem pe_glob {x : Str} {v : V} {u : Value} {pos : Pos} (hg : Gl X x) (hm : X.mg x = some u) (r : RelV v u) (hd : (x == ("__debug__" : Str)) = false := by decide) : PE X (.Name x pos) (tC v) :=
  fun _ _ _ H _ I h => ld_glob I hg hm ⟨v, H, I, r, h⟩ hd

variable {a b : Expr} {ta tb : TE} {pos : Pos}

noncomputable def PC (X : Cx) (op : CmpOp) (a b : Expr) (t : TE) : Prop :=
  ∀ (pins : List (Addr × Obj)) (s : Shared) (σ : St) (H : Hp) (Q : VK), Inv X pins σ H s → t σ H Q →
    wpAny (model X.prog X.w) X.A (eval a X.env) (fun v s₁ => wpAny (model X.prog X.w) X.A (eval b X.env) (fun u s₂ => wpAny (model X.prog X.w) X.A (compareOp op v u) (EP X pins σ Q) X.xe s₂) X.xe s₁) X.xe s
noncomputable def tB (t : TE) : TT := fun σ H Q => t σ H fun x H1 => ∃ c, x = .bl c ∧ Q c H1
theorem pt_cmp {op : CmpOp} {t : TE} (h : PC X op a b t) (h1 : behindInMarks op b = false := by first | exact nobehind _ (by decide) (by decide) | rfl) : PT X (.Compare a [op] [b] pos) (tB t) := by
  intro pins s σ H Q I hw
  refine wpAny_isTrue_Compare1 (thn (h pins s σ H _ I hw) fun v s1 h1 => thn h1 fun u s2 h2 => thn h2 fun c s3 hZq0 => ?_) h1
  obtain ⟨x, H1, I1, r1, q1⟩ := hZq0
  obtain ⟨d, rfl, q⟩ := q1
  cases r1
  exact wpAny_truthy_bool ⟨H1, I1, q⟩
theorem pt_val {e : Expr} {t : TE} (h : PE X e t) (he : ∀ whole, isTrue e X.env whole = (do let v ← whole; standAt e.pos; holding [v] (truthy v)) := by intro _; rfl) : PT X e (tB t) := by
  intro pins s σ H Q I hw
  refine isTrue_plain (thn (h pins s σ H _ I hw) fun v s1 hZq0 => ?_) (he _)
  obtain ⟨x, H1, I1, r1, q1⟩ := hZq0
  obtain ⟨d, rfl, q⟩ := q1
  cases r1
  exact wpAny_truthy_bool ⟨H1, I1, q⟩

variable {tA tB' : TT} {rest : List Expr}
noncomputable def tAnd (t u : TT) : TT := fun σ H Q => t σ H fun c H1 => if c = true then u σ H1 Q else Q false H1
noncomputable def tOr (t u : TT) : TT := fun σ H Q => t σ H fun c H1 => if c = true then Q true H1 else u σ H1 Q
noncomputable def tNot (t : TT) : TT := fun σ H Q => t σ H fun c H1 => Q (!c) H1
theorem pw_and1 (ha : PT X a tA) : PW X (.BoolOp .And [a] pos) tA := by
  intro wh pins s σ H Q I h
  refine isTrue_and (thn (ha pins s σ H Q I h) fun c s1 e => ?_)
  cases c with
  | true => exact isTrue_and_nil e
  | false => exact e
theorem pw_or1 (ha : PT X a tA) : PW X (.BoolOp .Or [a] pos) tA := by
  intro wh pins s σ H Q I h
  refine isTrue_or (thn (ha pins s σ H Q I h) fun c s1 e => ?_)
  cases c with
  | false => exact isTrue_or_nil e
  | true => exact e
theorem pw_and (ha : PT X a tA) (hb : PW X (.BoolOp .And (b :: rest) pos) tB') : PW X (.BoolOp .And (a :: b :: rest) pos) (tAnd tA tB') := by
  intro wh pins s σ H Q I h
  refine isTrue_and (thn (ha pins s σ H _ I h) fun c s1 hZq0 => ?_)
  obtain ⟨H1, I1, q1⟩ := hZq0
  cases c with
  | true => exact hb wh pins s1 σ H1 Q I1 q1
  | false => exact ⟨H1, I1, q1⟩
theorem pw_or (ha : PT X a tA) (hb : PW X (.BoolOp .Or (b :: rest) pos) tB') : PW X (.BoolOp .Or (a :: b :: rest) pos) (tOr tA tB') := by
  intro wh pins s σ H Q I h
  refine isTrue_or (thn (ha pins s σ H _ I h) fun c s1 hZq0 => ?_)
  obtain ⟨H1, I1, q1⟩ := hZq0
  cases c with
  | true => exact ⟨H1, I1, q1⟩
  | false => exact hb wh pins s1 σ H1 Q I1 q1
theorem pt_not (ha : PT X a tA) : PT X (.UnaryOp .Not a pos) (tNot tA) := by
  intro pins s σ H Q I h
  exact isTrue_not (ha pins s σ H (fun c H1 => Q (!c) H1) I h)
noncomputable def tAndV (ta tb : TE) : TE := fun σ H Q => ta σ H fun x H1 => ∃ c, x = .bl c ∧ if c = true then tb σ H1 Q else Q (.bl false) H1
noncomputable def tOrV (ta tb : TE) : TE := fun σ H Q => ta σ H fun x H1 => ∃ c, x = .bl c ∧ if c = true then Q (.bl true) H1 else tb σ H1 Q
theorem pe_one {op} {t : TE} (h : PE X a t) : PE X (.BoolOp op [a] pos) t := fun pins s σ H Q I hw => BoolOp_one (h pins s σ H Q I hw)
theorem pe_and (ha : PE X a ta) (hb : PE X (.BoolOp .And (b :: rest) pos) tb) : PE X (.BoolOp .And (a :: b :: rest) pos) (tAndV ta tb) := by
  intro pins s σ H Q I h
  refine BoolOp_and (thn (ha pins s σ H _ I h) fun v s1 hZq0 => ?_)
  obtain ⟨x, H1, I1, r1, q1⟩ := hZq0
  obtain ⟨c, rfl, q1⟩ := q1
  cases r1
  refine wpAny_truthy_bool ?_
  cases c with
  | true => exact hb pins s1 σ H1 Q I1 q1
  | false => exact ⟨.bl false, H1, I1, rfl, q1⟩
theorem pe_or (ha : PE X a ta) (hb : PE X (.BoolOp .Or (b :: rest) pos) tb) : PE X (.BoolOp .Or (a :: b :: rest) pos) (tOrV ta tb) := by
  intro pins s σ H Q I h
  refine BoolOp_or (thn (ha pins s σ H _ I h) fun v s1 hZq0 => ?_)
  obtain ⟨x, H1, I1, r1, q1⟩ := hZq0
  obtain ⟨c, rfl, q1⟩ := q1
  cases r1
  refine wpAny_truthy_bool ?_
  cases c with
  | false => exact hb pins s1 σ H1 Q I1 q1
  | true => exact ⟨.bl true, H1, I1, rfl, q1⟩
noncomputable def tIf (t : TT) (ta tb : TE) : TE := fun σ H Q => t σ H fun c H1 => if c = true then ta σ H1 Q else tb σ H1 Q
theorem pe_ifExp {c : Expr} (hc : PT X c tA) (ha : PE X a ta) (hb : PE X b tb) : PE X (.IfExp c a b pos) (tIf tA ta tb) := by
  intro pins s σ H Q I h
  refine wpAny_IfExp (thn (hc pins s σ H _ I h) fun d s1 hZq0 => ?_)
  obtain ⟨H1, I1, q1⟩ := hZq0
  cases d with
  | true => exact ha pins s1 σ H1 Q I1 q1
  | false => exact hb pins s1 σ H1 Q I1 q1
end
end L2

namespace L2
open PySem PySem.Spec PyProof.Rows

noncomputable def SqL (K : PySem.W.Frag) (H : Hp) (a : Addr) (xs : List V) : Prop :=
  Rd H a (.lst xs) ∨
    ∃ (o : Obj) (its : Array Value) (n : Nat), K.lookup a = some o ∧ o.cls = .type "list" ∧ o.dict = none ∧ o.data = .seq its n ∧ its.size ≤ sizeLine ∧ Vals xs its.toList
noncomputable def SqT (K : PySem.W.Frag) (H : Hp) (a : Addr) (xs : List V) : Prop :=
  Rd H a (.tup xs) ∨
    ∃ (o : Obj) (its : Array Value) (n : Nat), K.lookup a = some o ∧ o.cls = .type "tuple" ∧ o.data = .seq its n ∧ its.size ≤ sizeLine ∧ Vals xs its.toList
noncomputable def absV : Value → Option V
  | .none => some .non
  | .bool b => some (.bl b)
  | .int i _ => some (.int i)
  | .str x _ => some (.str x)
  | .bytes b _ => some (.byt b)
  | .float b _ => some (.flt b)
  | .ref a => some (.ref a)
  | .type n => some (.ty n)
  | _ => none
theorem RelV.abs {x : V} {u : Value} (r : RelV x u) : absV u = some x := by
  cases x with
  | non => cases r; rfl
  | bl _ => cases r; rfl
  | int _ => obtain ⟨t, rfl⟩ := r; rfl
  | str _ => obtain ⟨t, rfl⟩ := r; rfl
  | byt _ => obtain ⟨t, rfl⟩ := r; rfl
  | flt _ => obtain ⟨t, rfl⟩ := r; rfl
  | ref _ => cases r; rfl
  | ty _ => cases r; rfl
theorem RelV.inj {x y : V} {u : Value} (r : RelV x u) (q : RelV y u) : x = y := Option.some.inj (r.abs.symm.trans q.abs)
theorem Vals.inj : ∀ {xs ys : List V} {us : List Value}, Vals xs us → Vals ys us → xs = ys
  | _, _, _, .nil, .nil => rfl
  | _, _, _, .cons r t, .cons r' t' => by rw [r.inj r', Vals.inj t t']
section
variable {X : Cx} {pins : List (Addr × Obj)} {σ : St} {H : Hp} {s : Shared} {a : Addr} {xs ys : List V}
theorem SqL.of {K : PySem.W.Frag} (h : H a = some (.lst xs)) : SqL K H a xs := .inl (.inl h)
theorem SqT.of {K : PySem.W.Frag} (h : H a = some (.tup xs)) : SqT K H a xs := .inl (.inl h)
theorem Inv.list (I : Inv X pins σ H s) (h : SqL X.K H a xs) : ∃ its : List Value, Vals xs its ∧ PlainL s.heap a its.toArray ∧ xs.length ≤ sizeLine := by
  rcases h with h | ⟨o, its, n, hk, hc, hd, hs, hz, r⟩
  · obtain ⟨z, its, n, r, e⟩ := h.ok I.hok
    exact ⟨its, r, ⟨_, n, e, rfl, rfl, rfl⟩, z⟩
  · refine ⟨its.toList, r, ⟨o, n, I.kIn a o hk, hc, hd, by simpa using hs⟩, ?_⟩
    have e := r.length
    simp only [Array.length_toList] at e
    omega
theorem Inv.tuple (I : Inv X pins σ H s) (h : SqT X.K H a xs) : ∃ its : List Value, Vals xs its ∧ IsTup s.heap a its.toArray ∧ xs.length ≤ sizeLine := by
  rcases h with h | ⟨o, its, n, hk, hc, hs, hz, r⟩
  · obtain ⟨z, its, r, p⟩ := h.ok I.hok
    exact ⟨its, r, p.tup, z⟩
  · refine ⟨its.toList, r, ⟨o, I.kIn a o hk, hc, n, by simpa using hs⟩, ?_⟩
    have e := r.length
    simp only [Array.length_toList] at e
    omega
theorem Inv.list_inj (I : Inv X pins σ H s) (h : SqL X.K H a xs) (h' : SqL X.K H a ys) : xs = ys := by
  obtain ⟨its, r, ⟨o, n, e, _, _, d⟩, _⟩ := I.list h
  obtain ⟨its', r', ⟨o', n', e', _, _, d'⟩, _⟩ := I.list h'
  rw [e] at e'; cases e'
  rw [d] at d'
  injection d' with d1 _
  have : its = its' := by simpa using congrArg Array.toList d1
  subst this
  exact r.inj r'
theorem Inv.tuple_inj (I : Inv X pins σ H s) (h : SqT X.K H a xs) (h' : SqT X.K H a ys) : xs = ys := by
  obtain ⟨its, r, ⟨o, e, _, n, d⟩, _⟩ := I.tuple h
  obtain ⟨its', r', ⟨o', e', _, n', d'⟩, _⟩ := I.tuple h'
  rw [e] at e'; cases e'
  rw [d] at d'
  injection d' with d1 _
  have : its = its' := by simpa using congrArg Array.toList d1
  subst this
  exact r.inj r'
end

noncomputable abbrev Cx.wish (X : Cx) (E : Value → Shared → Prop) : Cx := { X with xe := E }
noncomputable abbrev Cx.nox (X : Cx) : Cx := X.wish fun _ _ => False
theorem Cx.Ok.wish {X : Cx} (ok : X.Ok) (E : Value → Shared → Prop) : (X.wish E).Ok :=
  ⟨ok.mod, ok.kind, ok.glob, ok.blt, ok.above, ok.inj, ok.has, ok.cab, ok.hd, ok.frames, ok.stk, ok.exf, ok.bs, ok.bsz, ok.noex, ok.exfs, ok.funs, ok.frf⟩
theorem Cx.Ok.unwish {X : Cx} {E : Value → Shared → Prop} (ok : (X.wish E).Ok) : X.Ok :=
  ⟨ok.mod, ok.kind, ok.glob, ok.blt, ok.above, ok.inj, ok.has, ok.cab, ok.hd, ok.frames, ok.stk, ok.exf, ok.bs, ok.bsz, ok.noex, ok.exfs, ok.funs, ok.frf⟩
section
variable {X : Cx} {pins : List (Addr × Obj)} {σ : St} {H : Hp} {s : Shared} {E : Value → Shared → Prop}
theorem Inv.wish (I : Inv X pins σ H s) (E : Value → Shared → Prop) : Inv (X.wish E) pins σ H s := ⟨I.ok.wish E, I.os, I.bare, I.base, I.loc, I.cell, I.free, I.freeC, I.pin, I.hok, I.len⟩
theorem Inv.unwish (I : Inv (X.wish E) pins σ H s) : Inv X pins σ H s := ⟨I.ok.unwish, I.os, I.bare, I.base, I.loc, I.cell, I.free, I.freeC, I.pin, I.hok, I.len⟩
theorem SP.unwish {D : Ends} {f : Flow} {s' : Shared} (h : SP (X.wish E) pins D f s') : SP X pins D f s' := by
  cases f with
  | next => obtain ⟨σ', H', I, q⟩ := h; exact ⟨σ', H', I.unwish, q⟩
  | brk => obtain ⟨σ', H', I, q⟩ := h; exact ⟨σ', H', I.unwish, q⟩
  | cont => obtain ⟨σ', H', I, q⟩ := h; exact ⟨σ', H', I.unwish, q⟩
  | ret u => obtain ⟨v, σ', H', I, r, q⟩ := h; exact ⟨v, σ', H', I.unwish, r, q⟩
theorem PSs.nox {st : List Stmt} {t : TS} (h : PSs X.nox st t) : PSs X st t := fun pins s σ H D I hw =>
  wpAny_mono (h pins s σ H D (I.wish _) hw) (fun _ _ q => q.unwish) fun _ _ z => False.elim z
end

section
variable {X : Cx} {st : Stmt} {rest : List Stmt} {t u : TS} {e : Expr} {te : TE} {pos : Pos}
noncomputable def tNext : TS := fun D σ H => D.nx σ H
noncomputable def tSeq (t u : TS) : TS := fun D σ H => t { D with nx := u D } σ H
theorem pss_nil : PSs X [] tNext := fun _ _ σ H _ I h => wpAny_execs_nil ⟨σ, H, I, h⟩
theorem pss_cons (h1 : PS X st t) (h2 : PSs X rest u) : PSs X (st :: rest) (tSeq t u) := by
  intro pins s σ H D I h
  refine wpAny_execs_cons (thn (h1 pins s σ H { D with nx := u D } I h) fun f s1 q => ?_)
  cases f with
  | next =>
    obtain ⟨σ', H', I', q⟩ := q
    exact h2 pins s1 σ' H' D I' q
  | ret v => exact q
  | brk => exact q
  | cont => exact q
theorem pss_one (h1 : PS X st t) : PSs X [st] t := by
  intro pins s σ H D I h
  refine wpAny_execs_cons (thn (h1 pins s σ H D I h) fun f s1 q => ?_)
  cases f with
  | next => exact wpAny_execs_nil q
  | ret v => exact q
  | brk => exact q
  | cont => exact q
theorem Inv.quiet {pins : List (Addr × Obj)} {σ : St} {H : Hp} {s : Shared} (I : Inv X pins σ H s) : interactive X.env = false := by simp [interactive, I.ok.kind]
noncomputable def tDrop (te : TE) : TS := fun D σ H => te σ H fun _ H1 => D.nx σ H1
theorem ps_expr (he : PE X e te) (hs : swapsWith e none pos.line X.env = pure false := by rfl) : PS X (.Expr e pos) (tDrop te) := by
  intro pins s σ H D I h
  exact wpAny_Expr_any (thn (he pins s σ H _ I h) fun v s1 ⟨x, H1, I1, r1, q1⟩ => ⟨σ, H1, I1, q1⟩) I.quiet hs
noncomputable def tRet (te : TE) : TS := fun D σ H => te σ H D.rt
theorem ps_ret (he : PE X e te) : PS X (.Return (some e) pos) (tRet te) := by
  intro pins s σ H D I h
  exact wpAny_Return_some (thn (he pins s σ H _ I h) fun v s1 ⟨x, H1, I1, r1, q1⟩ => ⟨x, σ, H1, I1, r1, q1⟩)
noncomputable def tIfS (c : TT) (t u : TS) : TS := fun D σ H => c σ H fun b H1 => if b = true then t D σ H1 else u D σ H1
theorem ps_if {c : Expr} {a b : List Stmt} {tc : TT} (hc : PT X c tc) (ha : PSs X a t) (hb : PSs X b u) : PS X (.If c a b pos) (tIfS tc t u) := by
  intro pins s σ H D I h
  refine wpAny_If (thn (hc pins s σ H _ I h) fun d s1 hZq0 => ?_)
  obtain ⟨H1, I1, q1⟩ := hZq0
  cases d with
  | true => exact ha pins s1 σ H1 D I1 q1
  | false => exact hb pins s1 σ H1 D I1 q1
end

noncomputable abbrev TG := V → St → Hp → (St → Hp → Prop) → Prop
noncomputable abbrev TGs := List V → St → Hp → (St → Hp → Prop) → Prop
noncomputable def PG (X : Cx) (target : Expr) (t : TG) : Prop :=
  ∀ (pins : List (Addr × Obj)) (s : Shared) (σ : St) (H : Hp) (v : V) (u : Value) (Q : St → Hp → Prop), Inv X pins σ H s → RelV v u → t v σ H Q →
    wpAny (model X.prog X.w) X.A (assign target X.env u) (fun _ s' => ∃ σ' H', Inv X pins σ' H' s' ∧ Q σ' H') X.xe s
noncomputable def PGs (X : Cx) (ts : List Expr) (t : TGs) : Prop :=
  ∀ (pins : List (Addr × Obj)) (s : Shared) (σ : St) (H : Hp) (vs : List V) (us : List Value) (Q : St → Hp → Prop), Inv X pins σ H s → Vals vs us → t vs σ H Q →
    wpAny (model X.prog X.w) X.A (assignInOrder ((assignEach ts X.env).map (·.2)) us) (fun _ s' => ∃ σ' H', Inv X pins σ' H' s' ∧ Q σ' H') X.xe s
noncomputable abbrev TSet := V → V → V → Hp → (Hp → Prop) → Prop
noncomputable def PSet (X : Cx) (t : TSet) : Prop :=
  ∀ (pins : List (Addr × Obj)) (s : Shared) (σ : St) (H : Hp) (o i v : V) (ov iv u : Value) (Q : Hp → Prop), Inv X pins σ H s → RelV o ov → RelV i iv → RelV v u → t o i v H Q →
    wpAny (model X.prog X.w) X.A (setItem ov iv u) (fun _ s' => ∃ H', Inv X pins σ H' s' ∧ Q H') X.xe s
section
variable {X : Cx} {pos : Pos}
noncomputable def gName (i : Nat) : TG := fun v σ H Q => Q (σ.set i (some v)) H
theorem pg_name {i : Nat} {x : Str} (hN : X.N.Nodup) (hi : X.N[i]? = some x) (hx : Loc X.env.scope x) (hf : X.fn x = true ∨ X.env.scope.names.lookup x = some .local := by first | exact .inl rfl | exact .inr rfl | assumption) : PG X (.Name x pos) (gName i) := by
  intro pins s σ H v u Q I r h
  exact wpAny_assign_Name (store_ok I hN hi hx r (fun s' I' => ⟨_, H, I', h⟩) hf)
noncomputable def gNil : TGs := fun vs σ H Q => vs = [] ∧ Q σ H
noncomputable def gCons (t : TG) (u : TGs) : TGs := fun vs σ H Q => ∃ v r, vs = v :: r ∧ t v σ H fun σ' H' => u r σ' H' Q
theorem pgs_nil : PGs X [] gNil := by
  intro pins s σ H vs us Q I r h
  obtain ⟨e, h⟩ := h
  subst e
  cases r
  exact assignInOrder_nil ⟨σ, H, I, h⟩
theorem pgs_cons {e : Expr} {es : List Expr} {t : TG} {u : TGs} (h1 : PG X e t) (h2 : PGs X es u)
    (hs : (assignEach (e :: es) X.env).map (·.2) = assign e X.env :: (assignEach es X.env).map (·.2) := by rfl) : PGs X (e :: es) (gCons t u) := by
  intro pins s σ H vs us Q I r h
  obtain ⟨v, vr, e1, h⟩ := h
  subst e1
  cases r with
  | cons r rr =>
    rw [hs]
    refine assignInOrder_cons (thn (h1 pins s σ H _ _ _ I r h) fun _ s1 hZq0 => ?_)
    obtain ⟨σ1, H1, I1, q1⟩ := hZq0
    exact h2 pins s1 σ1 H1 _ _ Q I1 rr q1
noncomputable def gTup (K : PySem.W.Frag) (n : Nat) (t : TGs) : TG := fun v σ H Q => ∃ a xs, v = .ref a ∧ SqT K H a xs ∧ xs.length = n ∧ t xs σ H Q
theorem pg_tup {es : List Expr} {k : Nat} {t : TGs} {n : Nat} (hc : X.calm = true) (h : PGs X es t)
    (hn : (assignEach es X.env).length = n := by rfl) (hst : (assignEach es X.env).findIdx? (·.1) = none := by rfl) : PG X (.Tuple es k pos) (gTup X.K n t) := by
  intro pins s σ H v u Q I r hw
  obtain ⟨a, xs, e1, hq, hl, hw⟩ := hw
  subst e1
  cases r
  obtain ⟨its, rv, ht, hz⟩ := I.tuple hq
  refine assign_Tuple_tuple (I.ok.hd hc) ht (by simp [hn, ← hl, rv.length]) hst fun h' hx => ?_
  have I1 : Inv X pins σ H { s with heap := h' } := I.kept (t' := s.toks) fun b o e => hx b o (Nat.ne_of_lt (Heap.lt_size e)) e
  exact h pins _ σ H xs _ Q I1 (by simpa using rv) hw
noncomputable def gSub (to ti : TE) (t : TSet) : TG := fun v σ H Q => to σ H fun o H1 => ti σ H1 fun i H2 => t o i v H2 fun H3 => Q σ H3
theorem pg_sub {o i : Expr} {to ti : TE} {t : TSet} (ho : PE X o to) (hi : PE X i ti) (hs : PSet X t)
    (ha : ∀ v, assign (.Subscript o i pos) X.env v = (do
      let ov ← holding [v] (eval o X.env)
      let iv ← holding [v, ov] (eval i X.env)
      standAt pos
      holding [v, ov, iv] (setItem ov iv v)
      release [v, ov, iv] []) := by intro _; rfl) : PG X (.Subscript o i pos) (gSub to ti t) := by
  intro pins s σ H v u Q I r h
  rw [ha]
  refine wpAny_bind (wpAny_holding (thn (ho pins s σ H _ I h) fun ov s1 hZq0 => ?_))
  obtain ⟨x, H1, I1, r1, q1⟩ := hZq0
  refine wpAny_bind (wpAny_holding (thn (hi pins s1 σ H1 _ I1 q1) fun iv s2 hZq0 => ?_))
  obtain ⟨y, H2, I2, r2, q2⟩ := hZq0
  refine wpAny_bind (wpAny_standAt (wpAny_bind (wpAny_holding (thn (hs pins s2 σ H2 x y v ov iv u _ I2 r1 r2 r q2) fun _ s3 hZq0 => ?_))))
  obtain ⟨H3, I3, q3⟩ := hZq0
  exact wpAny_release ⟨σ, H3, I3, q3⟩
noncomputable def tAsg (te : TE) (g : TG) : TS := fun D σ H => te σ H fun x H1 => g x σ H1 D.nx
theorem ps_asg {tg e : Expr} {te : TE} {g : TG} (he : PE X e te) (hg : PG X tg g) (hs : swapsWithSole [tg] e pos.line X.env = pure false := by rfl) (hw : swappedStores [tg] e X.env = pure none := by rfl)
    (h1 : (assignEach [tg] X.env).map (·.2) = [assign tg X.env] := by rfl) : PS X (.Assign [tg] e pos) (tAsg te g) := by
  intro pins s σ H D I h
  refine wpAny_Assign_stores (thn (he pins s σ H _ I h) fun v s1 hZq0 => ?_) hs hw
  obtain ⟨x, H1, I1, r1, q1⟩ := hZq0
  rw [h1]
  exact thn (hg pins s1 σ H1 x v _ I1 r1 q1) fun _ s2 q => q
theorem ps_set {i : Nat} {x : Str} {e : Expr} {te : TE} {pos' : Pos} (hN : X.N.Nodup) (hi : X.N[i]? = some x) (hx : Loc X.env.scope x) (he : PE X e te) (hs : swapsWith e (some (.Name x pos')) pos.line X.env = pure false := by rfl) (hf : X.fn x = true ∨ X.env.scope.names.lookup x = some .local := by first | exact .inl rfl | exact .inr rfl | assumption) :
    PS X (.Assign [.Name x pos'] e pos) (tAsg te (gName i)) := by
  intro pins s σ H D I h
  refine wpAny_Assign_Name (thn (he pins s σ H _ I h) fun v s1 hZq0 => ?_) hs
  obtain ⟨y, H1, I1, r1, q1⟩ := hZq0
  exact store_ok I1 hN hi hx r1 (fun s2 I2 => ⟨_, H1, I2, q1⟩) hf
end

section
variable {X : Cx} {pos : Pos}
noncomputable def tWhile (c : TT) (tb : TS) : TS := fun D σ H => ∃ W : Nat → St → Hp → Prop, (∃ m, W m σ H) ∧ ∀ m σ H, W m σ H →
  c σ H fun b H1 => if b = true then ∃ N : St → Hp → Prop, (∀ σ' H', N σ' H' → ∃ m', m' < m ∧ W m' σ' H') ∧ tb { D with nx := N, ct := N, bk := D.nx } σ H1 else D.nx σ H1
theorem ps_while {c : Expr} {body : List Stmt} {tc : TT} {tb : TS} (hp : PassesOwn (model X.prog X.w) X.A X.env X.xe) (hc : PT X c tc) (hb : PSs X body tb) : PS X (.While c body [] pos) (tWhile tc tb) := by
  intro pins s σ H D I h
  obtain ⟨W, ⟨m0, w0⟩, turn⟩ := h
  refine wpAny_While (codeAny_whileLoop (fun n s' => ∃ σ' H', Inv X pins σ' H' s' ∧ W n σ' H') ?_ m0 ⟨σ, H, I, w0⟩)
  rintro n s1 ⟨σ1, H1, I1, w1⟩
  refine wpAny_passesOwn hp (thn (hc pins s1 σ1 H1 _ I1 (turn n σ1 H1 w1)) fun b s2 hZq0 => ?_)
  obtain ⟨H2, I2, q2⟩ := hZq0
  cases b with
  | true =>
    obtain ⟨N, hN, q2⟩ := q2
    rw [if_pos rfl]
    refine wpAny_passesOwn hp (thn (hb pins s2 σ1 H2 _ I2 q2) fun f s3 q3 => ?_)
    cases f with
    | next =>
      obtain ⟨σ3, H3, I3, n3⟩ := q3
      obtain ⟨m', hm, w3⟩ := hN σ3 H3 n3
      exact ⟨m', hm, σ3, H3, I3, w3⟩
    | cont =>
      obtain ⟨σ3, H3, I3, n3⟩ := q3
      obtain ⟨m', hm, w3⟩ := hN σ3 H3 n3
      exact ⟨m', hm, σ3, H3, I3, w3⟩
    | brk => exact q3
    | ret v => exact q3
  | false =>
    rw [if_neg Bool.false_ne_true]
    exact wpAny_execs_nil ⟨σ1, H2, I2, q2⟩
end

structure It where
  go : Nat → Hp → Prop
  yld : Nat → Hp → V → Hp → Prop
  stop : Nat → Hp → Prop
noncomputable def FpOk (X : Cx) (pins : List (Addr × Obj)) (H : Hp) (b : Addr) : Prop :=
  H b = none ∧ b ≠ X.env.locals ∧ b ∉ X.fs ∧ (b ∈ X.ex ∨ X.s_0.heap.objs.size ≤ b) ∧ (∀ x c, X.env.cells.lookup x = some c → c ≠ b) ∧ ∀ p ∈ X.pn ++ pins, p.1 ≠ b
theorem Inv.fpOk {X : Cx} {pins : List (Addr × Obj)} {σ : St} {H H' : Hp} {s : Shared} {b : Addr} (I : Inv X pins σ H s) (hb : s.heap.objs.size ≤ b) (hn : H' b = none) : FpOk X pins H' b := by
  refine ⟨hn, Nat.ne_of_gt (Nat.lt_of_lt_of_le I.lt hb), I.nofs hb, .inr (Nat.le_trans I.sz hb), fun x c e z => ?_, fun p hp z => ?_⟩
  · obtain ⟨v, q⟩ := I.cell x c e
    exact absurd (Nat.lt_of_lt_of_le q.lt (by rw [z]; exact hb)) (Nat.lt_irrefl _)
  · exact absurd (Nat.lt_of_lt_of_le (Heap.lt_size (I.pin p hp).1) (by rw [z]; exact hb)) (Nat.lt_irrefl _)
structure Turn (P : Program) (w : World) (K : PySem.W.Frag) (tg : Expr) (J : It) (fp : List Addr) (it : Addr) (tn : Nat → Heap → Prop) : Prop where
  mem : it ∈ fp
  obj : ∀ i h, tn i h → ∀ b ∈ fp, ∃ o, h.get? b = some o ∧ ∀ v, o.data ≠ .cell v
  keep : ∀ i h h', tn i h → (∀ b ∈ fp, ∀ o, h.get? b = some o → h'.get? b = some o) → tn i h'
  item : ∀ (X : Cx), X.prog = P → X.w = w → X.K = K → X.calm = true → ∀ (i : Nat) (pins : List (Addr × Obj)) (s : Shared) (σ : St) (H : Hp) (E : Value → Shared → Prop), Inv X pins σ H s → (∀ b ∈ fp, FpOk X pins H b) → tn i s.heap → J.go i H →
    wpAny (model P w) X.A (pyNext (.ref it)) (fun r s1 => ∃ u, r = some u ∧
      wpAny (model P w) X.A (letOwnedTupleGo tg (.ref it) u) (fun _ s2 => ∃ x H', Inv X pins σ H' s2 ∧ RelV x u ∧ J.yld i H x H' ∧ tn (i + 1) s2.heap ∧ ∀ b ∈ fp, H' b = none) E s1) E s
  done : ∀ (X : Cx), X.prog = P → X.w = w → X.K = K → X.calm = true → ∀ (i : Nat) (pins : List (Addr × Obj)) (s : Shared) (σ : St) (H : Hp) (E : Value → Shared → Prop), Inv X pins σ H s → (∀ b ∈ fp, FpOk X pins H b) → tn i s.heap → J.stop i H →
    wpAny (model P w) X.A (pyNext (.ref it)) (fun r s1 => r = none ∧ Inv X pins σ H s1) E s
  self : ∀ (A : Around) (i : Nat) (s : Shared) (Q : Value → Shared → Prop) (E : Value → Shared → Prop), tn i s.heap → Q (.ref it) s → wpAny (model P w) A (pyIter (.ref it)) Q E s
noncomputable abbrev TI := St → Hp → (It → Hp → Prop) → Prop
noncomputable def PIE (X : Cx) (pins : List (Addr × Obj)) (σ : St) (tg : Expr) (R : It → Hp → Prop) (itv : Value) (s2 : Shared) : Prop :=
  ∃ (it : Addr) (fp : List Addr) (tn : Nat → Heap → Prop) (J : It) (H' : Hp), itv = .ref it ∧ Inv X pins σ H' s2 ∧ Turn X.prog X.w X.K tg J fp it tn ∧ tn 0 s2.heap ∧ (∀ b ∈ fp, FpOk X pins H' b) ∧ R J H'
noncomputable def PI (X : Cx) (tg iter : Expr) (wi : TI) : Prop :=
  ∀ (pins : List (Addr × Obj)) (s : Shared) (σ : St) (H : Hp) (R : It → Hp → Prop), Inv X pins σ H s → wi σ H R →
    wpAny (model X.prog X.w) X.A (eval iter X.env) (fun v s1 => wpAny (model X.prog X.w) X.A (pyIter v) (PIE X pins σ tg R) X.xe s1) X.xe s

theorem go_of {M : Model} {A : Around} {E : Value → Shared → Prop} {s : Shared} {tg : Expr} {it : Addr} {u : Value} {o : Obj} {n : String} {vs : Array Value} {Q : Unit → Shared → Prop} (ho : s.heap.get? it = some o) (hc : o.cls = .type n) (hd : o.data = .fields vs)
    (hn : ["enumerate", "zip", "dict_itemiterator", "dict_reverseitemiterator", "odict_iterator", "itertools.zip_longest", "itertools.pairwise"].contains n = false) (hQ : Q () s) : wpAny M A (letOwnedTupleGo tg (.ref it) u) Q E s := by
  unfold letOwnedTupleGo
  cases tg <;> first
    | exact wpAny_pure hQ
    | (cases u <;> first
        | exact wpAny_pure hQ
        | (refine wpAny_bind (wpAny_load ho ?_)
           rw [hc, hd]
           show wpAny M A (if (["enumerate", "zip", "dict_itemiterator", "dict_reverseitemiterator", "odict_iterator", "itertools.zip_longest", "itertools.pairwise"].contains n && vs[0]? == some (rawInt _)) = true then _ else _) Q E s
           rw [if_neg (by intro h; rw [hn, Bool.false_and] at h; cases h)]
           exact wpAny_pure hQ))

noncomputable def Itl (K : PySem.W.Frag) (a : Addr) : It :=
  ⟨fun i H => ∃ xs x, SqL K H a xs ∧ xs[i]? = some x, fun i H x H' => H' = H ∧ ∀ xs, SqL K H a xs → xs[i]? = some x, fun i H => ∃ xs, SqL K H a xs ∧ xs.length ≤ i⟩
noncomputable def Itt (K : PySem.W.Frag) (a : Addr) : It :=
  ⟨fun i H => ∃ xs x, SqT K H a xs ∧ xs[i]? = some x, fun i H x H' => H' = H ∧ ∀ xs, SqT K H a xs → xs[i]? = some x, fun i H => ∃ xs, SqT K H a xs ∧ xs.length ≤ i⟩
noncomputable def Itr (lo : Int) (n : Nat) : It := ⟨fun i _ => i < n, fun i H x H' => H' = H ∧ x = .int (lo + i), fun i _ => n ≤ i⟩
theorem turn_list {P : Program} {w : World} {K : PySem.W.Frag} {tg : Expr} (a it : Addr) : Turn P w K tg (Itl K a) [it] it (fun i h => h.IsListIter it a i) where
  mem := by simp
  obj := fun i h st b hb => by
    have e : b = it := by simpa using hb
    subst e
    obtain ⟨o, e, c, d⟩ := st
    exact ⟨o, e, fun v z => by rw [d] at z; cases z⟩
  keep := fun i h h' st k => st.at fun o e => k it (by simp) o e
  item := by
    intro X hP hw hK hc i pins s σ H E I hf st hg
    subst hP hw hK
    obtain ⟨xs, x, hq, hx⟩ := hg
    obtain ⟨its, rv, p, hz⟩ := I.list hq
    obtain ⟨u, hu, ru⟩ := rv.get hx
    obtain ⟨f0, f1, f2, f3, f4, f5⟩ := hf it (by simp)
    refine wpAny_pyNext_list_item st p.isList (x := u) (by simpa using hu) fun h' st' sb => ?_
    have I1 : Inv X pins σ H { s with heap := h' } := I.turned (t' := s.toks) (fun b o hb e => (sb.2 b hb).trans e) f0 f1 f3 f4 f5
    obtain ⟨o, e, c, d⟩ := id st'
    exact ⟨u, rfl, go_of (s := { s with heap := h' }) e c d (by decide) ⟨x, H, I1, ru, ⟨rfl, fun ys hy => by rw [I.list_inj hy hq]; exact hx⟩, st', fun b hb => (hf b hb).1⟩⟩
  done := by
    intro X hP hw hK hc i pins s σ H E I hf st hg
    subst hP hw hK
    obtain ⟨xs, hq, hx⟩ := hg
    obtain ⟨its, rv, p, hz⟩ := I.list hq
    obtain ⟨f0, f1, f2, f3, f4, f5⟩ := hf it (by simp)
    have hl := rv.length
    exact wpAny_pyNext_list_end (I.ok.hd hc) st p.isList (by simp; omega) fun h' eb => ⟨rfl, I.turned (t' := s.toks) (fun b o hb e => eb b o hb e) f0 f1 f3 f4 f5⟩
  self := fun _ _ _ _ _ st h => wpAny_pyIter_listiter st h
theorem turn_tuple {P : Program} {w : World} {K : PySem.W.Frag} {tg : Expr} (a it : Addr) : Turn P w K tg (Itt K a) [it] it (fun i h => h.IsTupleIter it a i) where
  mem := by simp
  obj := fun i h st b hb => by
    have e : b = it := by simpa using hb
    subst e
    obtain ⟨o, e, c, d⟩ := st
    exact ⟨o, e, fun v z => by rw [d] at z; cases z⟩
  keep := fun i h h' st k => st.at fun o e => k it (by simp) o e
  item := by
    intro X hP hw hK hc i pins s σ H E I hf st hg
    subst hP hw hK
    obtain ⟨xs, x, hq, hx⟩ := hg
    obtain ⟨its, rv, p, hz⟩ := I.tuple hq
    obtain ⟨u, hu, ru⟩ := rv.get hx
    obtain ⟨f0, f1, f2, f3, f4, f5⟩ := hf it (by simp)
    refine wpAny_pyNext_tuple_item st (show s.heap.IsTuple a its.toArray from p) (x := u) (by simpa using hu) fun h' st' sb => ?_
    have I1 : Inv X pins σ H { s with heap := h' } := I.turned (t' := s.toks) (fun b o hb e => (sb.2 b hb).trans e) f0 f1 f3 f4 f5
    obtain ⟨o, e, c, d⟩ := id st'
    exact ⟨u, rfl, go_of (s := { s with heap := h' }) e c d (by decide) ⟨x, H, I1, ru, ⟨rfl, fun ys hy => by rw [I.tuple_inj hy hq]; exact hx⟩, st', fun b hb => (hf b hb).1⟩⟩
  done := by
    intro X hP hw hK hc i pins s σ H E I hf st hg
    subst hP hw hK
    obtain ⟨xs, hq, hx⟩ := hg
    obtain ⟨its, rv, p, hz⟩ := I.tuple hq
    obtain ⟨f0, f1, f2, f3, f4, f5⟩ := hf it (by simp)
    have hl := rv.length
    exact wpAny_pyNext_tuple_end (I.ok.hd hc) st (show s.heap.IsTuple a its.toArray from p) (by simp; omega) fun h' eb => ⟨rfl, I.turned (t' := s.toks) (fun b o hb e => eb b o hb e) f0 f1 f3 f4 f5⟩
  self := fun _ _ _ _ _ st h => wpAny_pyIter_tupleiter st h
theorem turn_range {P : Program} {w : World} {K : PySem.W.Frag} {tg : Expr} (it : Addr) (lo : Int) (n : Nat) : Turn P w K tg (Itr lo n) [it] it (fun i h => IsRangeIter h it (lo + (i : Nat) * 1) ((n : Int) - (i : Nat)) 1) where
  mem := by simp
  obj := fun i h st b hb => by
    have e : b = it := by simpa using hb
    subst e
    exact ⟨_, st, fun v z => by
      have z' : Data.fields _ = Data.cell v := z
      cases z'⟩
  keep := fun i h h' st k => k it (by simp) _ st
  item := by
    intro X hP hw hK hc i pins s σ H E I hf st hg
    subst hP hw hK
    obtain ⟨f0, f1, f2, f3, f4, f5⟩ := hf it (by simp)
    have W := Walks.range (prog := X.prog) (w := X.w) (I.ok.hd hc) it lo 1 n
    refine W.item i s _ _ hg st fun v h' tk hv st' kk => ?_
    obtain ⟨t, rfl⟩ := hv
    have I1 : Inv X pins σ H { s with heap := h', toks := tk } := I.turned (fun b o hb e => kk b o (by simpa using hb) e) f0 f1 f3 f4 f5
    refine ⟨_, rfl, go_of (s := { s with heap := h', toks := tk }) (n := "range_iterator") st' rfl rfl (by decide) ⟨.int (lo + i), H, I1, ⟨t, ?_⟩, ⟨rfl, rfl⟩, st', fun b hb => (hf b hb).1⟩⟩
    rw [Int.mul_one]
  done := by
    intro X hP hw hK hc i pins s σ H E I hf st hg
    subst hP hw hK
    obtain ⟨f0, f1, f2, f3, f4, f5⟩ := hf it (by simp)
    exact wpAny_pyNext_range_end (I.ok.hd hc) st (by have : n ≤ i := hg; omega) fun h' eb => ⟨rfl, I.turned (t' := s.toks) (fun b o hb e => eb b o hb e) f0 f1 f3 f4 f5⟩
  self := fun _ _ _ _ _ st h => wpAny_pyIter_rangeiter st h
end L2

namespace L2
open PySem PySem.Spec PyProof.Rows
section
variable {X : Cx} {tg : Expr}
noncomputable def iList (K : PySem.W.Frag) (tl : TE) : TI := fun σ H R => tl σ H fun x H1 => ∃ a, x = .ref a ∧ (∃ xs, SqL K H1 a xs) ∧ R (Itl K a) H1
noncomputable def iTup (K : PySem.W.Frag) (tl : TE) : TI := fun σ H R => tl σ H fun x H1 => ∃ a, x = .ref a ∧ (∃ xs, SqT K H1 a xs) ∧ R (Itt K a) H1
theorem pi_list {l : Expr} {tl : TE} (hl : PE X l tl) : PI X tg l (iList X.K tl) := by
  intro pins s σ H R I h
  refine thn (hl pins s σ H _ I h) fun v s1 hZq0 => ?_
  obtain ⟨x, H1, I1, r1, q1⟩ := hZq0
  obtain ⟨a, e, ⟨xs, hq⟩, q⟩ := q1
  subst e
  cases r1
  obtain ⟨its, rv, p, hz⟩ := I1.list hq
  refine wpAny_pyIter_list p.isList ?_
  refine ⟨s1.heap.objs.size, [s1.heap.objs.size], _, _, H1, rfl, I1.kept (t' := s1.toks) fun b o e => Heap.get?_push_of_some _ e, turn_list a _, ⟨_, Heap.get?_push_size _ rfl, rfl, rfl⟩, fun b hb => ?_, q⟩
  have e : b = s1.heap.objs.size := by simpa using hb
  subst e
  exact I1.fpOk (Nat.le_refl _) (I1.hok.fresh (Nat.le_refl _))
theorem pi_tup {l : Expr} {tl : TE} (hl : PE X l tl) : PI X tg l (iTup X.K tl) := by
  intro pins s σ H R I h
  refine thn (hl pins s σ H _ I h) fun v s1 hZq0 => ?_
  obtain ⟨x, H1, I1, r1, q1⟩ := hZq0
  obtain ⟨a, e, ⟨xs, hq⟩, q⟩ := q1
  subst e
  cases r1
  obtain ⟨its, rv, p, hz⟩ := I1.tuple hq
  refine wpAny_pyIter_tuple (show s1.heap.IsTuple a its.toArray from p) ?_
  refine ⟨s1.heap.objs.size, [s1.heap.objs.size], _, _, H1, rfl, I1.kept (t' := s1.toks) fun b o e => Heap.get?_push_of_some _ e, turn_tuple a _, ⟨_, Heap.get?_push_size _ rfl, rfl, rfl⟩, fun b hb => ?_, q⟩
  have e : b = s1.heap.objs.size := by simpa using hb
  subst e
  exact I1.fpOk (Nat.le_refl _) (I1.hok.fresh (Nat.le_refl _))
theorem range_it {pins : List (Addr × Obj)} {σ : St} {H : Hp} {s : Shared} {R : It → Hp → Prop} {E : Value → Shared → Prop} {lo hi : Int} {t u v : Tok} {tk : Nat} (I : Inv X pins σ H s) (h1 : -(2 ^ 62) ≤ lo) (h2 : lo < 2 ^ 62) (h3 : -(2 ^ 62) ≤ hi) (h4 : hi < 2 ^ 62)
    (q : R (Itr lo (hi - lo).toNat) H) : wpAny (model X.prog X.w) X.A (pyIter (.ref s.heap.objs.size)) (PIE X pins σ tg R) E { s with heap := s.heap.push { cls := .type "range", data := .fields #[.int lo t, .int hi u, .int 1 v] }, toks := tk } := by
  refine wpAny_pyIter_range (IsRange.new ..) (small_one h1 h2 h3 h4) ?_
  have I1 : Inv X pins σ H { s with heap := s.heap.push { cls := .type "range", data := .fields #[.int lo t, .int hi u, .int 1 v] }, toks := tk } := I.kept fun b o e => Heap.get?_push_of_some _ e
  refine ⟨(s.heap.push { cls := .type "range", data := .fields #[.int lo t, .int hi u, .int 1 v] }).objs.size, [(s.heap.push { cls := .type "range", data := .fields #[.int lo t, .int hi u, .int 1 v] }).objs.size], _, _, H, rfl,
    I1.kept (t' := tk) fun b o e => Heap.get?_push_of_some _ e, turn_range _ lo (hi - lo).toNat, ?_, fun b hb => ?_, q⟩
  · have e1 : lo + ((0 : Nat) : Int) * 1 = lo := by simp
    have e2 : (((hi - lo).toNat : Nat) : Int) - ((0 : Nat) : Int) = Builtin.Range.rangeSize lo hi 1 := by rw [rangeSize_one]; split <;> omega
    show IsRangeIter _ _ (lo + ((0 : Nat) : Int) * 1) ((((hi - lo).toNat : Nat) : Int) - ((0 : Nat) : Int)) 1
    rw [e1, e2]
    exact Heap.get?_push_size _ rfl
  · have e : b = (s.heap.push { cls := .type "range", data := .fields #[.int lo t, .int hi u, .int 1 v] }).objs.size := by simpa using hb
    subst e
    exact I1.fpOk (Nat.le_refl _) (I1.hok.fresh (Nat.le_refl _))
noncomputable def iRng1 (ta : TA) : TI := fun σ H R => ta σ H fun vs H1 => ∃ j : Int, vs = [.int j] ∧ -(2 ^ 62) ≤ j ∧ j < 2 ^ 62 ∧ R (Itr 0 j.toNat) H1
theorem pi_range1 {a : Expr} {ta : TA} {p pos : Pos} (hg : Gl X "range") (hm : X.mg "range" = none) (ha : PA X [a] ta) (hs : starEach [a] X.env = [(false, eval a X.env)] := by rfl) : PI X tg (.Call (.Name "range" p) [a] [] pos) (iRng1 ta) := by
  intro pins s σ H R I h
  refine Call_ (ld_blt I hg hm boot_range (PyProof.Rows.callWith_type1 (thn (ha pos pins s σ H _ I h) fun us s1 hZq0 => ?_) hs rfl))
  obtain ⟨vs, H1, I1, r1, q1⟩ := hZq0
  obtain ⟨j, e, q1, q2, q⟩ := q1
  subst e
  cases r1 with
  | cons r rr =>
    cases rr
    obtain ⟨t, rfl⟩ := r
    exact call_range_1 (range_it I1 (by omega) (by omega) q1 q2 (by simpa using q))

noncomputable def tFor (wi : TI) (g : TG) (tb : TS) : TS := fun D σ H => wi σ H fun J H1 => ∃ W : Nat → Nat → St → Hp → Prop, (∃ m, W 0 m σ H1) ∧ ∀ i m σ H, W i m σ H →
  (J.stop i H ∧ D.nx σ H) ∨ (J.go i H ∧ ∃ N : St → Hp → Prop, (∀ σ' H', N σ' H' → ∃ m', m' < m ∧ W (i + 1) m' σ' H') ∧ ∀ x H', J.yld i H x H' → g x σ H' fun σ2 H2 => tb { D with nx := N, ct := N, bk := D.nx } σ2 H2)
noncomputable def pinsAt (fp : List Addr) (h : Heap) : List (Addr × Obj) := fp.filterMap fun b => (h.get? b).map fun o => (b, o)
theorem mem_pinsAt {fp : List Addr} {h : Heap} {b : Addr} {o : Obj} (hb : b ∈ fp) (e : h.get? b = some o) : (b, o) ∈ pinsAt fp h := List.mem_filterMap.mpr ⟨b, hb, by rw [e]; rfl⟩
theorem of_pinsAt {fp : List Addr} {h : Heap} {p : Addr × Obj} (hp : p ∈ pinsAt fp h) : p.1 ∈ fp ∧ h.get? p.1 = some p.2 := by
  obtain ⟨b, hb, e⟩ := List.mem_filterMap.mp hp
  cases q : h.get? b with
  | none => rw [q] at e; cases e
  | some o =>
    rw [q] at e
    have e' : (b, o) = p := Option.some.inj e
    subst e'
    exact ⟨hb, q⟩
theorem Inv.pinned {pins : List (Addr × Obj)} {σ : St} {H : Hp} {s : Shared} {fp : List Addr} (I : Inv X pins σ H s) (hf : ∀ b ∈ fp, FpOk X pins H b) (ho : ∀ b ∈ fp, ∃ o, s.heap.get? b = some o ∧ ∀ v, o.data ≠ .cell v) : Inv X (pins ++ pinsAt fp s.heap) σ H s :=
  I.pins_of fun p hp => (List.mem_append.mp hp).elim (fun z => I.pin p (List.mem_append_right _ z)) fun z => by
    obtain ⟨hb, e⟩ := of_pinsAt z
    obtain ⟨f0, f1, f2, _⟩ := hf p.1 hb
    obtain ⟨o, e', d⟩ := ho p.1 hb
    rw [e] at e'; cases e'
    exact ⟨e, f0, f1, f2, d⟩
theorem Inv.unpinned {pins pl : List (Addr × Obj)} {σ : St} {H : Hp} {s : Shared} (I : Inv X (pins ++ pl) σ H s) : Inv X pins σ H s := I.pins_of fun p hp => I.pin p (List.mem_append_right _ (List.mem_append_left _ hp))
theorem ps_for {iter : Expr} {body : List Stmt} {wi : TI} {g : TG} {tb : TS} {pos : Pos} (hp : PassesOwn (model X.prog X.w) X.A X.env X.xe) (hc : X.calm = true) (hi : PI X tg iter wi) (hg : PG X tg g) (hb : PSs X body tb)
    (hs : ∀ x, foldedSetIterable iter X.env x = pure x := by intro _; rfl) : PS X (.For tg iter body [] pos) (tFor wi g tb) := by
  intro pins s σ H D I h
  refine wpAny_For (thn (hi pins s σ H _ I h) fun v s1 h1 => thn h1 fun itv s2 h2 => ?_) hs
  obtain ⟨it, fp, tn, J, H2, e, I2, T, st2, f2, W, ⟨m0, w0⟩, turn⟩ := h2
  subst e
  -- what stays true of the iterator's objects through the loop
  have stat : ∀ {H' : Hp}, (∀ b ∈ fp, H' b = none) → ∀ b ∈ fp, FpOk X pins H' b := fun hn b hb => ⟨hn b hb, (f2 b hb).2⟩
  refine codeAny_forLoop_any (fun n s' => ∃ i σ' H', Inv X pins σ' H' s' ∧ tn i s'.heap ∧ (∀ b ∈ fp, H' b = none) ∧ W i n σ' H') ?_ m0 ⟨0, σ, H2, I2, st2, fun b hb => (f2 b hb).1, w0⟩
  rintro n s3 ⟨i, σ3, H3, I3, st3, fr3, w3⟩
  rcases turn i n σ3 H3 w3 with ⟨stop, qn⟩ | ⟨go, N, hN, step⟩
  · refine wpAny_passesOwn hp (thn (T.done X rfl rfl rfl hc i pins s3 σ3 H3 X.xe I3 (stat fr3) st3 stop) fun r s4 ⟨hr, I4⟩ => ?_)
    subst hr
    exact wpAny_execs_nil ⟨σ3, H3, I4, qn⟩
  · refine wpAny_passesOwn hp (thn (T.item X rfl rfl rfl hc i pins s3 σ3 H3 X.xe I3 (stat fr3) st3 go) fun r s4 ⟨u, hr, h4⟩ => ?_)
    subst hr
    refine wpAny_passesOwn hp (thn h4 fun _ s5 hZq0 => ?_)
    obtain ⟨x, H5, I5, r5, y5, st5, fr5⟩ := hZq0
    have I5' := I5.pinned (stat fr5) (T.obj _ _ st5)
    refine wpAny_passesOwn hp (thn (hg _ s5 σ3 H5 x u _ I5' r5 (step x H5 y5)) fun _ s6 hZq0 => ?_)
    obtain ⟨σ6, H6, I6, q6⟩ := hZq0
    refine wpAny_passesOwn hp (thn (hb _ s6 σ6 H6 _ I6 q6) fun f s7 q7 => ?_)
    have again : ∀ {σ7 : St} {H7 : Hp}, Inv X (pins ++ pinsAt fp s5.heap) σ7 H7 s7 → N σ7 H7 → ∃ m, m < n ∧ ∃ i σ' H', Inv X pins σ' H' s7 ∧ tn i s7.heap ∧ (∀ b ∈ fp, H' b = none) ∧ W i m σ' H' := fun {σ7 H7} I7 n7 => by
      obtain ⟨m', hm, w7⟩ := hN σ7 H7 n7
      refine ⟨m', hm, i + 1, σ7, H7, I7.unpinned, T.keep _ _ _ st5 fun b hb o e => (I7.pin (b, o) (List.mem_append_right _ (List.mem_append_right _ (mem_pinsAt hb e)))).1, fun b hb => ?_, w7⟩
      obtain ⟨o, e, d⟩ := T.obj _ _ st5 b hb
      exact (I7.pin (b, o) (List.mem_append_right _ (List.mem_append_right _ (mem_pinsAt hb e)))).2.1
    cases f with
    | next => obtain ⟨σ7, H7, I7, n7⟩ := q7; exact again I7 n7
    | cont => obtain ⟨σ7, H7, I7, n7⟩ := q7; exact again I7 n7
    | brk => obtain ⟨σ7, H7, I7, q7⟩ := q7; exact ⟨σ7, H7, I7.unpinned, q7⟩
    | ret v => obtain ⟨x7, σ7, H7, I7, r7, q7⟩ := q7; exact ⟨x7, σ7, H7, I7.unpinned, r7, q7⟩
end

theorem for_list {K : PySem.W.Frag} {a : Addr} {xs : List V} {g : TG} {tb : TS} {D : Ends} {σ : St} {H : Hp} (Pv : Nat → St → Hp → Prop) (h0 : Pv 0 σ H) (hl : ∀ i σ H, i ≤ xs.length → Pv i σ H → SqL K H a xs)
    (hs : ∀ i x σ H, xs[i]? = some x → Pv i σ H → g x σ H fun σ2 H2 => tb { D with nx := Pv (i + 1), ct := Pv (i + 1), bk := D.nx } σ2 H2) (hd : ∀ σ H, Pv xs.length σ H → D.nx σ H) :
    ∃ W : Nat → Nat → St → Hp → Prop, (∃ m, W 0 m σ H) ∧ ∀ i m σ H, W i m σ H →
      ((Itl K a).stop i H ∧ D.nx σ H) ∨ ((Itl K a).go i H ∧ ∃ N : St → Hp → Prop, (∀ σ' H', N σ' H' → ∃ m', m' < m ∧ W (i + 1) m' σ' H') ∧ ∀ x H', (Itl K a).yld i H x H' → g x σ H' fun σ2 H2 => tb { D with nx := N, ct := N, bk := D.nx } σ2 H2) := by
  refine ⟨fun i m σ H => m = xs.length - i ∧ i ≤ xs.length ∧ Pv i σ H, ⟨xs.length, by simp, Nat.zero_le _, h0⟩, ?_⟩
  rintro i m σ H ⟨rfl, hi, p⟩
  have q := hl i σ H hi p
  by_cases hlt : i < xs.length
  · refine .inr ⟨⟨xs, xs[i], q, by simp [hlt]⟩, Pv (i + 1), fun σ' H' p' => ⟨xs.length - (i + 1), by omega, rfl, hlt, p'⟩, fun x H' y => ?_⟩
    obtain ⟨e, y⟩ := y
    subst e
    exact hs i x σ _ (y xs q) p
  · have e : i = xs.length := by omega
    subst e
    exact .inl ⟨⟨xs, q, Nat.le_refl _⟩, hd σ H p⟩
theorem for_tup {K : PySem.W.Frag} {a : Addr} {xs : List V} {g : TG} {tb : TS} {D : Ends} {σ : St} {H : Hp} (Pv : Nat → St → Hp → Prop) (h0 : Pv 0 σ H) (hl : ∀ i σ H, i ≤ xs.length → Pv i σ H → SqT K H a xs)
    (hs : ∀ i x σ H, xs[i]? = some x → Pv i σ H → g x σ H fun σ2 H2 => tb { D with nx := Pv (i + 1), ct := Pv (i + 1), bk := D.nx } σ2 H2) (hd : ∀ σ H, Pv xs.length σ H → D.nx σ H) :
    ∃ W : Nat → Nat → St → Hp → Prop, (∃ m, W 0 m σ H) ∧ ∀ i m σ H, W i m σ H →
      ((Itt K a).stop i H ∧ D.nx σ H) ∨ ((Itt K a).go i H ∧ ∃ N : St → Hp → Prop, (∀ σ' H', N σ' H' → ∃ m', m' < m ∧ W (i + 1) m' σ' H') ∧ ∀ x H', (Itt K a).yld i H x H' → g x σ H' fun σ2 H2 => tb { D with nx := N, ct := N, bk := D.nx } σ2 H2) := by
  refine ⟨fun i m σ H => m = xs.length - i ∧ i ≤ xs.length ∧ Pv i σ H, ⟨xs.length, by simp, Nat.zero_le _, h0⟩, ?_⟩
  rintro i m σ H ⟨rfl, hi, p⟩
  have q := hl i σ H hi p
  by_cases hlt : i < xs.length
  · refine .inr ⟨⟨xs, xs[i], q, by simp [hlt]⟩, Pv (i + 1), fun σ' H' p' => ⟨xs.length - (i + 1), by omega, rfl, hlt, p'⟩, fun x H' y => ?_⟩
    obtain ⟨e, y⟩ := y
    subst e
    exact hs i x σ _ (y xs q) p
  · have e : i = xs.length := by omega
    subst e
    exact .inl ⟨⟨xs, q, Nat.le_refl _⟩, hd σ H p⟩
theorem for_range {lo : Int} {n : Nat} {g : TG} {tb : TS} {D : Ends} {σ : St} {H : Hp} (Pv : Nat → St → Hp → Prop) (h0 : Pv 0 σ H)
    (hs : ∀ i σ H, i < n → Pv i σ H → g (.int (lo + i)) σ H fun σ2 H2 => tb { D with nx := Pv (i + 1), ct := Pv (i + 1), bk := D.nx } σ2 H2) (hd : ∀ σ H, Pv n σ H → D.nx σ H) :
    ∃ W : Nat → Nat → St → Hp → Prop, (∃ m, W 0 m σ H) ∧ ∀ i m σ H, W i m σ H →
      ((Itr lo n).stop i H ∧ D.nx σ H) ∨ ((Itr lo n).go i H ∧ ∃ N : St → Hp → Prop, (∀ σ' H', N σ' H' → ∃ m', m' < m ∧ W (i + 1) m' σ' H') ∧ ∀ x H', (Itr lo n).yld i H x H' → g x σ H' fun σ2 H2 => tb { D with nx := N, ct := N, bk := D.nx } σ2 H2) := by
  refine ⟨fun i m σ H => m = n - i ∧ i ≤ n ∧ Pv i σ H, ⟨n, by simp, Nat.zero_le _, h0⟩, ?_⟩
  rintro i m σ H ⟨rfl, hi, p⟩
  by_cases hlt : i < n
  · refine .inr ⟨hlt, Pv (i + 1), fun σ' H' p' => ⟨n - (i + 1), by omega, rfl, hlt, p'⟩, fun x H' y => ?_⟩
    obtain ⟨e, y⟩ := y
    subst e y
    exact hs i σ _ hlt p
  · have e : i = n := by omega
    subst e
    exact .inl ⟨Nat.le_refl _, hd σ H p⟩
theorem while_by {c : TT} {tb : TS} {D : Ends} {σ : St} {H : Hp} (Pv : St → Hp → Prop) (μ : St → Hp → Nat) (h0 : Pv σ H)
    (hs : ∀ σ H, Pv σ H → c σ H fun b H1 => if b = true then tb { D with nx := fun σ' H' => Pv σ' H' ∧ μ σ' H' < μ σ H, ct := fun σ' H' => Pv σ' H' ∧ μ σ' H' < μ σ H, bk := D.nx } σ H1 else D.nx σ H1)
    (mono : ∀ σ H Q Q', (∀ b H1, Q b H1 → Q' b H1) → c σ H Q → c σ H Q') : tWhile c tb D σ H := by
  refine ⟨fun m σ H => m = μ σ H ∧ Pv σ H, ⟨_, rfl, h0⟩, ?_⟩
  rintro m σ H ⟨rfl, p⟩
  refine mono σ H _ _ (fun b H1 q => ?_) (hs σ H p)
  cases b with
  | true => exact ⟨_, fun σ' H' ⟨p', l⟩ => ⟨_, l, rfl, p'⟩, q⟩
  | false => exact q
end L2

namespace L2
open PySem PySem.Spec PyProof.Rows

noncomputable abbrev R2 := V → V → Hp → VK → Prop
noncomputable def OpR (X : Cx) (f : Value → Value → Sem Value) (r : R2) : Prop :=
  ∀ (pins : List (Addr × Obj)) (s : Shared) (σ : St) (H : Hp) (x y : V) (v u : Value) (Q : VK), Inv X pins σ H s → RelV x v → RelV y u → r x y H Q →
    wpAny (model X.prog X.w) X.A (f v u) (EP X pins σ Q) X.xe s
noncomputable def CallR (X : Cx) (f : Value) (r : List V → Hp → VK → Prop) : Prop :=
  ∀ (pins : List (Addr × Obj)) (s : Shared) (σ : St) (H : Hp) (xs : List V) (us : List Value) (Q : VK), Inv X pins σ H s → Vals xs us → r xs H Q →
    wpAny (model X.prog X.w) X.A (call f us) (EP X pins σ Q) X.xe s

noncomputable def tOp (r : R2) (ta tb : TE) : TE := fun σ H Q => ta σ H fun x H1 => tb σ H1 fun y H2 => r x y H2 Q
noncomputable def rI (C : Int → Int → Prop) (g : Int → Int → V) : R2 := fun x y H Q => ∃ i j, x = .int i ∧ y = .int j ∧ C i j ∧ Q (g i j) H
noncomputable def rI0 (g : Int → Int → V) : R2 := fun x y H Q => ∃ i j, x = .int i ∧ y = .int j ∧ Q (g i j) H

section
variable {X : Cx} {a b c : Expr} {ta tb tc : TE} {pos : Pos}

theorem binT (ha : PE X a ta) (hb : PE X b tb) {pins : List (Addr × Obj)} {s : Shared} {σ : St} {H : Hp} {R : V → V → Hp → Prop} (I : Inv X pins σ H s)
    (h : ta σ H fun x H1 => tb σ H1 fun y H2 => R x y H2) {Q : Value → Shared → Prop} {f : Value → Value → Sem Value}
    (hf : ∀ v u s2 x y H2, Inv X pins σ H2 s2 → RelV x v → RelV y u → R x y H2 → wpAny (model X.prog X.w) X.A (f v u) Q X.xe s2) :
    wpAny (model X.prog X.w) X.A (eval a X.env) (fun v s₁ => wpAny (model X.prog X.w) X.A (eval b X.env) (fun u s₂ => wpAny (model X.prog X.w) X.A (f v u) Q X.xe s₂) X.xe s₁) X.xe s := by
  refine thn (ha pins s σ H _ I h) fun v s1 hZq0 => ?_
  obtain ⟨x, H1, I1, r1, q1⟩ := hZq0
  refine thn (hb pins s1 σ H1 _ I1 q1) fun u s2 hZq0 => ?_
  obtain ⟨y, H2, I2, r2, q2⟩ := hZq0
  exact hf v u s2 x y H2 I2 r1 r2 q2

theorem pe_op {op : Operator} {r : R2} (ho : OpR X (binaryOp op) r) (ha : PE X a ta) (hb : PE X b tb) : PE X (.BinOp a op b pos) (tOp r ta tb) := by
  intro pins s σ H Q I h
  exact wpAny_BinOp (binT ha hb I h fun v u s2 x y H2 I2 rx ry q => ho pins s2 σ H2 x y v u Q I2 rx ry q)

theorem opI {f : Value → Value → Sem Value} {C : Int → Int → Prop} {g : Int → Int → Int}
    (rule : ∀ (i j : Int) (t u : Tok) (s : Shared) (Q : Value → Shared → Prop) (E : Value → Shared → Prop), C i j → Q (.int (g i j) s.toks) { s with toks := s.toks + 1 } → wpAny (model X.prog X.w) X.A (f (.int i t) (.int j u)) Q E s) :
    OpR X f (rI C fun i j => .int (g i j)) := by
  intro pins s σ H x y v u Q I rx ry h
  obtain ⟨i, j, rfl, rfl, hc, q⟩ := h
  obtain ⟨t, rfl⟩ := rx
  obtain ⟨t', rfl⟩ := ry
  exact rule i j t t' s _ _ hc ⟨.int (g i j), H, I.tok _, ⟨_, rfl⟩, q⟩
theorem opI0 {f : Value → Value → Sem Value} {g : Int → Int → Int}
    (rule : ∀ (i j : Int) (t u : Tok) (s : Shared) (Q : Value → Shared → Prop) (E : Value → Shared → Prop), Q (.int (g i j) s.toks) { s with toks := s.toks + 1 } → wpAny (model X.prog X.w) X.A (f (.int i t) (.int j u)) Q E s) :
    OpR X f (rI0 fun i j => .int (g i j)) := by
  intro pins s σ H x y v u Q I rx ry h
  obtain ⟨i, j, rfl, rfl, q⟩ := h
  obtain ⟨t, rfl⟩ := rx
  obtain ⟨t', rfl⟩ := ry
  exact rule i j t t' s _ _ ⟨.int (g i j), H, I.tok _, ⟨_, rfl⟩, q⟩
theorem opB0 {f : Value → Value → Sem Value} {g : Int → Int → Bool}
    (rule : ∀ (i j : Int) (t u : Tok) (s : Shared) (Q : Value → Shared → Prop) (E : Value → Shared → Prop), Q (.bool (g i j)) s → wpAny (model X.prog X.w) X.A (f (.int i t) (.int j u)) Q E s) :
    OpR X f (rI0 fun i j => .bl (g i j)) := by
  intro pins s σ H x y v u Q I rx ry h
  obtain ⟨i, j, rfl, rfl, q⟩ := h
  obtain ⟨t, rfl⟩ := rx
  obtain ⟨t', rfl⟩ := ry
  exact rule i j t t' s _ _ ⟨.bl (g i j), H, I, rfl, q⟩

theorem op_add : OpR X (binaryOp .Add) (rI0 fun i j => .int (i + j)) := opI0 fun _ _ _ _ _ _ _ q => add_int q
theorem op_sub : OpR X (binaryOp .Sub) (rI0 fun i j => .int (i - j)) := opI0 fun _ _ _ _ _ _ _ q => sub_int q
theorem op_mod : OpR X (binaryOp .Mod) (rI (fun _ j => 0 < j) fun i j => .int (i % j)) := opI fun i j _ _ _ _ _ hc q => by
  have h1 : (0 : Int) < j := hc
  exact mod_int' (by omega) (by rw [Int.fmod_eq_emod_of_nonneg i (by omega)]; exact q)

end

noncomputable def scal : V → V → Bool
  | .non, .non => true | .non, .int _ => true | .int _, .non => true | .non, .bl _ => true | .bl _, .non => true | .non, .str _ => true | .str _, .non => true
  | .int _, .int _ => true | .bl _, .bl _ => true | .str _, .str _ => true | .byt _, .byt _ => true
  | .int _, .str _ => true | .str _, .int _ => true | .bl _, .str _ => true | .str _, .bl _ => true
  | _, _ => false
noncomputable def rEq : R2 := fun x y H Q => scal x y = true ∧ Q (.bl (decide (x = y))) H
noncomputable def rNe : R2 := fun x y H Q => scal x y = true ∧ Q (.bl (!decide (x = y))) H

theorem dec_int {i j : Int} : decide (V.int i = V.int j) = (i == j) := by
  rw [Bool.eq_iff_iff]
  simp
theorem dec_bl {i j : Bool} : decide (V.bl i = V.bl j) = (i == j) := by
  rw [Bool.eq_iff_iff]
  simp
theorem dec_str {i j : Str} : decide (V.str i = V.str j) = (i == j) := by
  rw [Bool.eq_iff_iff]
  simp
theorem dec_byt {i j : Array UInt8} : decide (V.byt i = V.byt j) = (i.toList == j.toList) := by
  rw [Bool.eq_iff_iff]
  cases i
  cases j
  simp

section
variable {X : Cx} {a b c : Expr} {ta tb tc : TE} {pos : Pos}
theorem fin_bl {pins : List (Addr × Obj)} {σ : St} {H : Hp} {s : Shared} {Q : VK} {k k' : Bool} (I : Inv X pins σ H s) (q : Q (.bl k) H) (e : k = k') : EP X pins σ Q (.bool k') s := by
  subst e
  exact ⟨.bl k, H, I, rfl, q⟩
theorem op_eq : OpR X (compareOp .Eq) rEq := by
  intro pins s σ H x y v u Q I rx ry h
  obtain ⟨hs, q⟩ := h
  cases x with
  | non =>
    cases rx
    cases y with
    | non => cases ry; exact PySem.EqNone.eq_none_none (fin_bl I q (by simp))
    | bl j => cases ry; exact PySem.EqNone.eq_none_bool (fin_bl I q (by simp))
    | int j => obtain ⟨t', rfl⟩ := ry; exact PySem.EqNone.eq_none_int (fin_bl I q (by simp))
    | str j => obtain ⟨t', rfl⟩ := ry; exact PySem.EqNone.eq_none_str (fin_bl I q (by simp))
    | _ => exact absurd (show false = true from hs) Bool.false_ne_true
  | bl i =>
    cases rx
    cases y with
    | non => cases ry; exact PySem.EqNone.eq_bool_none (fin_bl I q (by simp))
    | bl j => cases ry; exact eq_bool (fin_bl I q dec_bl)
    | str j => obtain ⟨t', rfl⟩ := ry; exact PySem.EqMixed.eq_bool_str (fin_bl I q (by simp))
    | _ => exact absurd (show false = true from hs) Bool.false_ne_true
  | int i =>
    obtain ⟨t, rfl⟩ := rx
    cases y with
    | non => cases ry; exact PySem.EqNone.eq_int_none (fin_bl I q (by simp))
    | int j => obtain ⟨t', rfl⟩ := ry; exact eq_int (fin_bl I q dec_int)
    | str j => obtain ⟨t', rfl⟩ := ry; exact PySem.EqMixed.eq_int_str (fin_bl I q (by simp))
    | _ => exact absurd (show false = true from hs) Bool.false_ne_true
  | str i =>
    obtain ⟨t, rfl⟩ := rx
    cases y with
    | non => cases ry; exact PySem.EqNone.eq_str_none (fin_bl I q (by simp))
    | bl j => cases ry; exact PySem.EqMixed.eq_str_bool (fin_bl I q (by simp))
    | int j => obtain ⟨t', rfl⟩ := ry; exact PySem.EqMixed.eq_str_int (fin_bl I q (by simp))
    | str j => obtain ⟨t', rfl⟩ := ry; exact eq_str (fin_bl I q dec_str)
    | _ => exact absurd (show false = true from hs) Bool.false_ne_true
  | byt i =>
    obtain ⟨t, rfl⟩ := rx
    cases y with
    | byt j => obtain ⟨t', rfl⟩ := ry; exact PySem.W.eq_bytes (fin_bl I q dec_byt)
    | _ => exact absurd (show false = true from hs) Bool.false_ne_true
  | _ => cases y <;> exact absurd (show false = true from hs) Bool.false_ne_true
theorem op_ne : OpR X (compareOp .NotEq) rNe := by
  intro pins s σ H x y v u Q I rx ry h
  obtain ⟨hs, q⟩ := h
  cases x with
  | non =>
    cases rx
    cases y with
    | non => cases ry; exact PySem.EqNone.ne_none_none (fin_bl I q (by simp))
    | bl j => cases ry; exact PySem.EqNone.ne_none_bool (fin_bl I q (by simp))
    | int j => obtain ⟨t', rfl⟩ := ry; exact PySem.EqNone.ne_none_int (fin_bl I q (by simp))
    | str j => obtain ⟨t', rfl⟩ := ry; exact PySem.EqNone.ne_none_str (fin_bl I q (by simp))
    | _ => exact absurd (show false = true from hs) Bool.false_ne_true
  | bl i =>
    cases rx
    cases y with
    | non => cases ry; exact PySem.EqNone.ne_bool_none (fin_bl I q (by simp))
    | bl j => cases ry; exact ne_bool (fin_bl I q (congrArg not dec_bl))
    | str j => obtain ⟨t', rfl⟩ := ry; exact PySem.EqMixed.ne_bool_str (fin_bl I q (by simp))
    | _ => exact absurd (show false = true from hs) Bool.false_ne_true
  | int i =>
    obtain ⟨t, rfl⟩ := rx
    cases y with
    | non => cases ry; exact PySem.EqNone.ne_int_none (fin_bl I q (by simp))
    | int j => obtain ⟨t', rfl⟩ := ry; exact ne_int (fin_bl I q (congrArg not dec_int))
    | str j => obtain ⟨t', rfl⟩ := ry; exact PySem.EqMixed.ne_int_str (fin_bl I q (by simp))
    | _ => exact absurd (show false = true from hs) Bool.false_ne_true
  | str i =>
    obtain ⟨t, rfl⟩ := rx
    cases y with
    | non => cases ry; exact PySem.EqNone.ne_str_none (fin_bl I q (by simp))
    | bl j => cases ry; exact PySem.EqMixed.ne_str_bool (fin_bl I q (by simp))
    | int j => obtain ⟨t', rfl⟩ := ry; exact PySem.EqMixed.ne_str_int (fin_bl I q (by simp))
    | str j => obtain ⟨t', rfl⟩ := ry; exact ne_str (fin_bl I q (congrArg not dec_str))
    | _ => exact absurd (show false = true from hs) Bool.false_ne_true
  | byt i =>
    obtain ⟨t, rfl⟩ := rx
    cases y with
    | byt j => obtain ⟨t', rfl⟩ := ry; exact PySem.W.ne_bytes (fin_bl I q (congrArg not dec_byt))
    | _ => exact absurd (show false = true from hs) Bool.false_ne_true
  | _ => cases y <;> exact absurd (show false = true from hs) Bool.false_ne_true

theorem op_lt : OpR X (compareOp .Lt) (rI0 fun i j => .bl (decide (i < j))) := opB0 fun _ _ _ _ _ _ _ q => lt_int q
theorem op_gt : OpR X (compareOp .Gt) (rI0 fun i j => .bl (decide (j < i))) := opB0 fun _ _ _ _ _ _ _ q => gt_int q
theorem op_ge : OpR X (compareOp .GtE) (rI0 fun i j => .bl (decide (j ≤ i))) := opB0 fun _ _ _ _ _ _ _ q => ge_int q

theorem nomark (b : Expr) {op : CmpOp} (h : op ≠ .In := by decide) (h2 : op ≠ .NotIn := by decide) : behindInMarks op b = false := by
  have e1 : (op == CmpOp.In) = false := by cases op <;> first | rfl | exact absurd rfl h
  have e2 : (op == CmpOp.NotIn) = false := by cases op <;> first | rfl | exact absurd rfl h2
  cases b <;> simp [behindInMarks, e1, e2]
theorem pe_cmpR {op : CmpOp} {r : R2} (ho : OpR X (compareOp op) r) (ha : PE X a ta) (hb : PE X b tb) (hm : behindInMarks op b = false) : PE X (.Compare a [op] [b] pos) (tOp r ta tb) := by
  intro pins s σ H Q I h
  exact wpAny_Compare1 (binT ha hb I h fun v u s2 x y H2 I2 rx ry q => ho pins s2 σ H2 x y v u Q I2 rx ry q) hm
noncomputable def tTest (t : TE) : TT := fun σ H Q => t σ H fun x H' => ∃ k, x = .bl k ∧ Q k H'
theorem pt_cmpR {op : CmpOp} {r : R2} (ho : OpR X (compareOp op) r) (ha : PE X a ta) (hb : PE X b tb) (hm : behindInMarks op b = false) : PT X (.Compare a [op] [b] pos) (tTest (tOp r ta tb)) := by
  intro pins s σ H Q I h
  refine wpAny_isTrue_Compare1 (thn (ha pins s σ H _ I h) fun v s1 ⟨x, H1, I1, r1, q1⟩ => thn (hb pins s1 σ H1 _ I1 q1) fun u s2 ⟨y, H2, I2, r2, q2⟩ =>
    thn (ho pins s2 σ H2 x y v u _ I2 r1 r2 q2) fun c s3 ⟨z, H3, I3, r3, k, e, q3⟩ => ?_) hm
  subst e
  cases r3
  exact wpAny_truthy_bool ⟨H3, I3, q3⟩

theorem line63 : (sizeLine : Nat) < 2 ^ 63 := by rw [sizeLine_eq]; decide


theorem vals1 {x : V} {us : List Value} (r : Vals [x] us) : ∃ u, us = [u] ∧ RelV x u := by
  cases r with
  | cons r1 r2 => cases r2; exact ⟨_, rfl, r1⟩
theorem vals2 {x y : V} {us : List Value} (r : Vals [x, y] us) : ∃ u w', us = [u, w'] ∧ RelV x u ∧ RelV y w' := by
  cases r with
  | cons r1 r2 =>
    cases r2 with
    | cons r3 r4 => cases r4; exact ⟨_, _, rfl, r1, r3⟩
theorem call_min2 (hc : X.calm = true) : CallR X (.builtin "min") (fun xs H Q => ∃ i j, xs = [.int i, .int j] ∧ Q (.int (if j < i then j else i)) H) := by
  intro pins s σ H xs us Q I r h
  obtain ⟨i, j, rfl, q⟩ := h
  obtain ⟨u, w', rfl, ⟨t, rfl⟩, ⟨t', rfl⟩⟩ := vals2 r
  refine min_two_ints (I.ok.hd hc) fun h' tk k => ⟨_, H, I.kept k, ?_, q⟩
  by_cases hj : j < i
  · rw [if_pos hj, if_pos hj]; exact ⟨_, rfl⟩
  · rw [if_neg hj, if_neg hj]; exact ⟨_, rfl⟩
end
end L2

namespace L2
open PySem PySem.Spec PyProof.Rows

structure ObjM (h : Heap) (x dx C : Addr) (mA : Str → Option Value) : Prop where
  obj : h.get? x = some (PySem.W.instObj C dx)
  ns : h.Ns1 dx mA
  ne : dx ≠ x

theorem lookIn_ns {h : Heap} {dx : Addr} {mA : Str → Option Value} (n : h.Ns1 dx mA) : ∃ od, h.get? dx = some od ∧ ∀ name, PySem.W.lookIn name od = some (mA name) := by
  obtain ⟨o, es, ep, ho, hd, hk, _, hm⟩ := n
  refine ⟨o, ho, fun name => ?_⟩
  have e := hm name
  unfold nsFind findBy at e
  rw [← Array.find?_toList] at e
  unfold PySem.W.lookIn
  rw [hd]
  dsimp only
  split
  · rename_i y q
    rw [q] at e
    exact congrArg some e
  · rename_i q
    rw [q] at e
    have a : es.toList.any (·.refKey) = false := by
      rw [List.any_eq_false]
      intro y hy
      obtain ⟨z, t, hkey⟩ := hk y (Array.mem_toList_iff.mp hy)
      simp [DictEntry.refKey, hkey]
    have a' : ¬ es.toList.any (·.refKey) = true := by rw [a]; exact Bool.false_ne_true
    rw [if_neg a']
    exact congrArg some e

theorem ObjM.look {h : Heap} {x dx C : Addr} {mA : Str → Option Value} (I : ObjM h x dx C mA) : ∃ od, PySem.W.InstAt h x (PySem.W.instObj C dx) C (some od) ∧ ∀ name, PySem.W.lookIn name od = some (mA name) :=
  let ⟨od, ho, hl⟩ := lookIn_ns I.ns
  ⟨od, ⟨I.obj, rfl, rfl, ho⟩, hl⟩

section
variable {prog : Program} {w : World} {A : Around} {E : Value → Shared → Prop} {s : Shared} {K : PySem.W.Frag} {x dx C f : Addr} {mA : Str → Option Value} {name : Str} {v : Value}

theorem get_map {expr : Bool} {Q : Value → Shared → Prop} (X : K.In s.heap) (I : ObjM s.heap x dx C mA) (hg : PySem.W.plainGet K C name = true) (hh : PySem.W.hasDictIn K C = true)
    (ha : PySem.W.findIn K (.ref C) name = some none) (hv : mA name = some v) (hv' : PySem.W.handedIn v = true) (h : Q v { s with toks := s.toks + 1 }) :
    wpAny (model prog w) A (getAttr (.ref x) name expr) Q E s := by
  obtain ⟨od, J, hl⟩ := I.look
  exact PySem.W.get_value X J (PySem.W.plainGet_of hg).1 (PySem.W.findObj_own hh ha rfl (by rw [hl, hv])) hv' h

theorem get_meth {pl : Sem Bool} {Q : Value × List Value → Shared → Prop} (X : K.In s.heap) (I : ObjM s.heap x dx C mA) (hg : PySem.W.plainGet K C name = true)
    (hf : PySem.W.findIn K (.ref C) name = some (some (.ref f))) (ht : PySem.W.isFn K (.ref f) = true) (hv : mA name = none) (h : Q (.ref f, [.ref x]) s) :
    wpAny (model prog w) A (getMethod (.ref x) name pl) Q E s := by
  obtain ⟨od, J, hl⟩ := I.look
  exact PySem.W.method_fn X J (PySem.W.plainGet_of hg).1 (PySem.W.plainGet_of hg).2 hf (beq_iff_eq.mp ht) (by show (PySem.W.lookIn name od).map (·.isSome) = some false; rw [hl, hv]; rfl) h

theorem set_map {ns : List Str} {Q : Unit → Shared → Prop} (X : K.In s.heap) (I : ObjM s.heap x dx C mA)
    (hs : PySem.W.findIn K (.ref C) "__setattr__" = some (some (.builtin "object.__setattr__"))) (hp : PySem.W.plainOver K C = true) (ht : PySem.W.takerIn K C name = some none) (hh : PySem.W.hasDictIn K C = true)
    (hw : PySem.Within mA ns) (hsz : ns.length ≤ sizeLine)
    (h : ∀ h', ObjM h' x dx C (fun y => if y = name then some v else mA y) → Heap.SameBut dx s.heap h' → Q () { s with heap := h', toks := s.toks + 2 }) :
    wpAny (model prog w) A (setAttr (.ref x) name v) Q E s := by
  obtain ⟨od, J, hl⟩ := I.look
  refine PySem.W.set_plain X J hs (PySem.W.osa_open (s := { s with toks := s.toks + 1 }) (r := none) X J hp ht fun b => ?_)
  obtain ⟨cd, hc, hd'⟩ := PySem.W.any_some hh
  have hx : s.heap.get? x = some ⟨.ref C, some dx, .plain, #[]⟩ := I.obj
  refine wpAny_bind (wpAny_pure (wpAny_bind (wpAny_bind (wpAny_loadPart hx (wpAny_bind (PySem.W.Looks.here (s := { s with toks := s.toks + 1 }) (PySem.W.looks_clsIn X hc) ?_))))))
  rw [hd']
  refine wpAny_pure (a := some dx) (wpAny_bind (wpAny_pure (wpAny_bind ?_)))
  refine wpAny_nsSet1 (s := { s with toks := s.toks + 1 }) I.ns fun h' hn2 hs2 => ?_
  obtain ⟨oD, esD, epD, hoD, hdD, hcD⟩ := hn2.count (PySem.Within.cons name v hw)
  refine wpAny_bind (wpAny_lookBehind hoD (by rw [hdD]; exact pastItsLine_dict (Nat.le_trans hcD (by rw [List.length_cons]; omega))) ?_)
  exact wpAny_pure (h _ ⟨(hs2.2 _ (Ne.symm I.ne)).trans I.obj, hn2, I.ne⟩ hs2)

theorem make_map {R : Result → Shared → Prop} {vs : List Value} {kw : List (Str × Value)} (X : K.In s.heap) (hm : PySem.W.makesIn K C = true)
    (hi : PySem.W.findIn K (.ref C) "__init__" = some (some (.ref f))) (hf : PySem.W.typeIn K (.ref f) = some (.type "function"))
    (h : codeAny (model prog w) (A.under (.builtin "type.__call__" ⟨.ref C :: vs, kw⟩)) (.call (.ref f) ⟨.ref (s.heap.objs.size + 1) :: vs, kw⟩) (PySem.W.InitBack (s.heap.objs.size + 1) R)
      { s with heap := (s.heap.push PySem.W.emptyDict).push (PySem.W.instObj C s.heap.objs.size) }) :
    codeAny (model prog w) A (.call (.ref C) ⟨vs, kw⟩) R s := by
  obtain ⟨hh, g, d, t, os⟩ := s
  exact PySem.W.make_core (PySem.W.makes_of X hm) (PySem.W.looks_findIn X hi) (fun self => PySem.W.bind_fn X self hf) (.inl rfl) h
end

noncomputable def putF (f : Str) (v : V) : List (Str × V) → List (Str × V)
  | [] => [(f, v)]
  | (g, x) :: r => if g = f then (g, v) :: r else (g, x) :: putF f v r
theorem lookup_putF (f g : Str) (v : V) : ∀ fs : List (Str × V), (putF f v fs).lookup g = if g = f then some v else fs.lookup g
  | [] => by
    show List.lookup g [(f, v)] = _
    by_cases h : g = f
    · have hb : (g == f) = true := beq_iff_eq.mpr h
      simp only [List.lookup, hb, if_pos h]
    · have hb : (g == f) = false := beq_eq_false_iff_ne.mpr h
      simp only [List.lookup, hb, if_neg h]
  | (k, x) :: r => by
    have ih := lookup_putF f g v r
    rw [show putF f v ((k, x) :: r) = (if k = f then (k, v) :: r else (k, x) :: putF f v r) from rfl]
    by_cases hk : k = f
    · rw [if_pos hk]
      by_cases h : g = k
      · have hb : (g == k) = true := beq_iff_eq.mpr h
        simp only [List.lookup, hb, if_pos (h.trans hk)]
      · have hb : (g == k) = false := beq_eq_false_iff_ne.mpr h
        simp only [List.lookup, hb, if_neg (fun e : g = f => h (e.trans hk.symm))]
    · rw [if_neg hk]
      by_cases h : g = k
      · have hb : (g == k) = true := beq_iff_eq.mpr h
        simp only [List.lookup, hb, if_neg (fun e : g = f => hk (h.symm.trans e))]
      · have hb : (g == k) = false := beq_eq_false_iff_ne.mpr h
        simp only [List.lookup, hb]
        exact ih
theorem keys_putF (f : Str) (v : V) : ∀ fs : List (Str × V), f ∈ (putF f v fs).map (·.1) ∧ ∀ g, g ∈ fs.map (·.1) → g ∈ (putF f v fs).map (·.1)
  | [] => ⟨by simp [putF], fun g h => by simp at h⟩
  | (k, x) :: r => by
    obtain ⟨i1, i2⟩ := keys_putF f v r
    rw [show putF f v ((k, x) :: r) = (if k = f then (k, v) :: r else (k, x) :: putF f v r) from rfl]
    by_cases hk : k = f
    · rw [if_pos hk]
      subst hk
      exact ⟨by simp, fun g h => by simpa using h⟩
    · rw [if_neg hk]
      refine ⟨?_, fun g h => ?_⟩
      · rw [List.map_cons]
        exact List.mem_cons_of_mem _ i1
      · rw [List.map_cons] at h ⊢
        rcases List.mem_cons.mp h with e | e
        · exact List.mem_cons.mpr (.inl e)
        · exact List.mem_cons_of_mem _ (i2 g e)
theorem length_putF (f : Str) (v : V) : ∀ fs : List (Str × V), (putF f v fs).length ≤ fs.length + 1
  | [] => by simp [putF]
  | (k, x) :: r => by
    have ih := length_putF f v r
    rw [show putF f v ((k, x) :: r) = (if k = f then (k, v) :: r else (k, x) :: putF f v r) from rfl]
    by_cases hk : k = f
    · rw [if_pos hk, List.length_cons, List.length_cons]; omega
    · rw [if_neg hk, List.length_cons, List.length_cons]; omega

theorem RelO.some_of {v : V} {o : Option Value} (r : RelO (some v) o) : ∃ u, o = some u ∧ RelV v u := by
  cases o with
  | none => exact (show False from r).elim
  | some u => exact ⟨u, rfl, r⟩
theorem RelO.none_of {o : Option Value} (r : RelO none o) : o = none := by
  cases o with
  | none => rfl
  | some u => exact (show False from r).elim
theorem handed_of {v : V} {u : Value} (r : RelV v u) : PySem.W.handedIn u = true := by
  cases v with
  | non => cases (show u = Value.none from r); rfl
  | bl b => cases (show u = Value.bool b from r); rfl
  | int i => obtain ⟨t, e⟩ := (show ∃ t, u = Value.int i t from r); cases e; rfl
  | str x => obtain ⟨t, e⟩ := (show ∃ t, u = Value.str x t from r); cases e; rfl
  | byt b => obtain ⟨t, e⟩ := (show ∃ t, u = Value.bytes b t from r); cases e; rfl
  | flt b => obtain ⟨t, e⟩ := (show ∃ t, u = Value.float b t from r); cases e; rfl
  | ref a => cases (show u = Value.ref a from r); rfl
  | ty n => cases (show u = Value.type n from r); rfl

section
variable {P : Program} {w : World} {H H' : Hp} {h h' : Heap} {a C dx : Addr} {fs fs' : List (Str × V)}
theorem ins_get (hok : HOk P w H h) (e : H a = some (.ins C dx fs)) : ∃ mA, ObjM h a dx C mA ∧ (∀ f, RelO (fs.lookup f) (mA f)) ∧ PySem.Within mA (fs.map (·.1)) ∧ fs.length ≤ 1000 ∧ H dx = some (.own a) := by
  obtain ⟨d, z, ne, ob, mA, n, r, q⟩ := (show ObjOk P w H h a (.ins C dx fs) from hok a _ e)
  exact ⟨mA, ⟨ob, n, ne⟩, r, q, z, d⟩
end

structure Cls (K : PySem.W.Frag) (C : Addr) : Prop where
  pg : PySem.W.plainGet K C Str.empty = true
  hd : PySem.W.hasDictIn K C = true
  po : PySem.W.plainOver K C = true
  sa : PySem.W.findIn K (.ref C) "__setattr__" = some (some (.builtin "object.__setattr__"))
theorem Cls.get {K : PySem.W.Frag} {C : Addr} (c : Cls K C) (f : Str) : PySem.W.plainGet K C f = true := c.pg
noncomputable def NoAttr (K : PySem.W.Frag) (C : Addr) (f : Str) : Prop := PySem.W.findIn K (.ref C) f = some none
theorem NoAttr.taker {K : PySem.W.Frag} {C : Addr} {f : Str} (n : NoAttr K C f) : PySem.W.takerIn K C f = some none := by
  unfold PySem.W.takerIn
  rw [show PySem.W.findIn K (.ref C) f = some none from n]
  rfl
structure Meth (K : PySem.W.Frag) (C : Addr) (m : Str) (f : Addr) : Prop where
  at_ : PySem.W.findIn K (.ref C) m = some (some (.ref f))
  fn : PySem.W.isFn K (.ref f) = true
  kp : PySem.W.keepIn K (.ref f) = true

section
variable {X : Cx} {pins : List (Addr × Obj)} {σ : St} {H : Hp} {s : Shared} {a C dx : Addr} {fs : List (Str × V)} {f : Str} {v : V} {A : Around} {E : Value → Shared → Prop}

theorem getattr_ok {b : Bool} {Q : Value → Shared → Prop} (I : Inv X pins σ H s) (e : H a = some (.ins C dx fs)) (c : Cls X.K C) (n : NoAttr X.K C f) (l : fs.lookup f = some v)
    (h : ∀ u s', Inv X pins σ H s' → RelV v u → Q u s') : wpAny (model X.prog X.w) A (getAttr (.ref a) f b) Q E s := by
  obtain ⟨mA, O, r, _, _, _⟩ := ins_get I.hok e
  obtain ⟨u, hu, ru⟩ := RelO.some_of (v := v) (o := mA f) (by rw [← l]; exact r f)
  exact get_map I.kIn O (c.get f) c.hd n hu (handed_of ru) (h u _ (I.tok _) ru)

theorem getmeth_ok {m : Str} {g : Addr} {pl : Sem Bool} {Q : Value × List Value → Shared → Prop} (I : Inv X pins σ H s) (e : H a = some (.ins C dx fs)) (c : Cls X.K C) (k : Meth X.K C m g) (l : fs.lookup m = none)
    (h : Q (.ref g, [.ref a]) s) : wpAny (model X.prog X.w) A (getMethod (.ref a) m pl) Q E s := by
  obtain ⟨mA, O, r, _, _, _⟩ := ins_get I.hok e
  have hn : mA m = none := RelO.none_of (by rw [← l]; exact r m)
  exact get_meth I.kIn O (c.get m) k.at_ k.fn hn h

theorem setattr_ok {y : V} {u : Value} {Q : Unit → Shared → Prop} (I : Inv X pins σ H s) (e : H a = some (.ins C dx fs)) (c : Cls X.K C) (n : NoAttr X.K C f) (hl : fs.length < 1000) (ry : RelV y u)
    (h : ∀ s', Inv X pins σ (upd H a (.ins C dx (putF f y fs))) s' → Q () s') : wpAny (model X.prog X.w) A (setAttr (.ref a) f u) Q E s := by
  obtain ⟨mA, O, r, wi, _, ho⟩ := ins_get I.hok e
  have hz : (fs.map (·.1)).length ≤ sizeLine := by rw [List.length_map, sizeLine_eq]; omega
  refine set_map I.kIn O c.sa c.po n.taker c.hd wi hz fun h' O' sb => h _ ?_
  have hd : ∃ o, h'.get? dx = some o := let ⟨o, _, _, e', _⟩ := O'.ns; ⟨o, e'⟩
  refine I.write (x := a) (e := dx) (by rw [e]; exact True.intro) (.inr ho) (fun b q hb z => (sb.2 b hb).trans z) hd ?_
  refine ⟨by rw [upd_ne O.ne]; exact ho, ?_, O.ne, O'.obj, _, O'.ns, fun g => ?_, fun g hg => ?_⟩
  · have := length_putF f y fs; omega
  · show RelO ((putF f y fs).lookup g) (if g = f then some u else mA g)
    rw [lookup_putF]
    by_cases q : g = f
    · rw [if_pos q, if_pos q]; exact ry
    · rw [if_neg q, if_neg q]; exact r g
  · by_cases q : g = f
    · rw [q]; exact (keys_putF f y fs).1
    · refine (keys_putF f y fs).2 g (wi g fun z => hg ?_)
      show (if g = f then some u else mA g) = none
      rw [if_neg q]; exact z

theorem Inv.made (I : Inv X pins σ H s) : Inv X pins σ (upd (upd H s.heap.objs.size (.own (s.heap.objs.size + 1))) (s.heap.objs.size + 1) (.ins C s.heap.objs.size []))
    { s with heap := (s.heap.push PySem.W.emptyDict).push (PySem.W.instObj C s.heap.objs.size) } := by
  have e1 : (s.heap.push PySem.W.emptyDict).get? s.heap.objs.size = some PySem.W.emptyDict := Heap.get?_push_size s.heap rfl
  have e2 : ((s.heap.push PySem.W.emptyDict).push (PySem.W.instObj C s.heap.objs.size)).get? (s.heap.objs.size + 1) = some (PySem.W.instObj C s.heap.objs.size) := by
    have := Heap.get?_push_size (s.heap.push PySem.W.emptyDict) (o := PySem.W.instObj C s.heap.objs.size) rfl
    rwa [Heap.size_push] at this
  have e3 : (s.heap.push PySem.W.emptyDict).Ns s.heap.objs.size (fun _ => none) := ⟨PySem.W.emptyDict, #[], _, e1, rfl, (fun e he => absurd he (by simp)), fun _ => rfl⟩
  have I1 := I.laid (a := s.heap.objs.size) (o := .own (s.heap.objs.size + 1)) (h' := s.heap.push PySem.W.emptyDict) (t' := s.toks) (fun b u q => Heap.get?_push_of_some _ q) (Nat.le_refl _) ⟨_, e1⟩
  refine I1.laid (a := s.heap.objs.size + 1) (o := .ins C s.heap.objs.size []) (t' := s.toks) (fun b u q => Heap.get?_push_of_some _ q) (Nat.le_of_eq (Heap.size_push _ _)) ?_
  have ne : s.heap.objs.size ≠ s.heap.objs.size + 1 := Nat.ne_of_lt (Nat.lt_succ_self _)
  refine ⟨by rw [upd_ne ne, upd_same], Nat.zero_le _, ne, e2, fun _ => none, (Heap.Ns1.of_empty e3).at fun o q => Heap.get?_push_of_some _ q, fun _ => True.intro, fun y hy => absurd rfl hy⟩

theorem attr_of {prog : Program} {w : World} {env : Env} {e : Expr} {f : Str} {pos : Pos} {s : Shared} {Q : Value → Shared → Prop} (hb : attributeBase e f env (eval e env) = eval e env)
    (h : wpAny (model prog w) A (eval e env) (fun o s₁ => wpAny (model prog w) A (getAttr o f true) Q E s₁) E s) : wpAny (model prog w) A (eval (.Attribute e f pos) env) Q E s :=
  Attribute_any_ h (by rw [arm_eval_Attribute, hb])
end

noncomputable def tFld (K : PySem.W.Frag) (ta : TE) (f : Str) : TE := fun σ H Q => ta σ H fun x H1 => ∃ a C dx fs v, x = .ref a ∧ H1 a = some (.ins C dx fs) ∧ Cls K C ∧ NoAttr K C f ∧ fs.lookup f = some v ∧ Q v H1
noncomputable def sFld (K : PySem.W.Frag) (ta tv : TE) (f : Str) : TS := fun D σ H => tv σ H fun y H1 => ta σ H1 fun x H2 => ∃ a C dx fs, x = .ref a ∧ H2 a = some (.ins C dx fs) ∧ Cls K C ∧ NoAttr K C f ∧ fs.length < 1000 ∧
  D.nx σ (upd H2 a (.ins C dx (putF f y fs)))

section
variable {X : Cx} {o e value : Expr} {f : Str} {pos pos' tpos : Pos} {ta tv : TE}
theorem pe_fld (he : PE X e ta) (hb : attributeBase e f X.env (eval e X.env) = eval e X.env) : PE X (.Attribute e f pos) (tFld X.K ta f) := by
  intro pins s σ H Q I h
  refine attr_of hb (thn (he pins s σ H _ I h) fun u s1 hZq0 => ?_)
  obtain ⟨x, H1, I1, rx, a, C, dx, fs, v, ex, ea, c, n, l, q⟩ := hZq0
  subst ex
  obtain rfl : u = Value.ref a := rx
  exact getattr_ok I1 ea c n l fun u' s2 I2 ru => ⟨v, H1, I2, ru, q⟩
theorem ps_fld (ha : PE X o ta) (hv : PE X value tv) (hs : swapsWith value (some (.Attribute o f pos')) pos.line X.env = pure false) : PS X (.Assign [.Attribute o f pos'] value pos) (sFld X.K ta tv f) := by
  intro pins s σ H D I h
  refine plainObj_wpAny_Assign_Attribute (thn (hv pins s σ H _ I h) fun u s1 hZq0 => ?_) hs
  obtain ⟨y, H1, I1, ry, q⟩ := hZq0
  refine thn (ha pins s1 σ H1 _ I1 q) fun ov s2 hZq1 => ?_
  obtain ⟨x, H2, I2, rx, a, C, dx, fs, ex, ea, c, n, l, q2⟩ := hZq1
  subst ex
  obtain rfl : ov = Value.ref a := rx
  exact setattr_ok I2 ea c n l ry fun s3 I3 => ⟨σ, _, I3, q2⟩

end

section
variable {X : Cx} {pins : List (Addr × Obj)} {σ : St} {H : Hp} {s : Shared} {A : Around} {E : Value → Shared → Prop} {Q : Value → Shared → Prop} {c : Value} {b : Bool}
end
end L2

namespace L2
open PySem PySem.Spec PyProof.Rows

structure Room (k : Nat) (A : Around) : Prop where
  hd : A.handled = none
  dp : A.depth + 3 * k + 5 < recursionLimit
  un : A.units + 16 * k + 200 < cLine
theorem Room.mono {j k : Nat} {A : Around} (r : Room k A) (h : j ≤ k) : Room j A := ⟨r.hd, by have := r.dp; omega, by have := r.un; omega⟩
theorem Room.deeper {k : Nat} {A : Around} (r : Room (k + 1) A) (env : Env) : Room k (A.deeper env) :=
  ⟨r.hd, by have := r.dp; show A.depth + 1 + 3 * k + 5 < _; omega, by have := r.un; show A.units + 3 + 16 * k + 200 < _; omega⟩
theorem make_depth {A : Around} {C : Addr} {us : List Value} {kw : List (Str × Value)} : (A.under (.builtin "type.__call__" ⟨.ref C :: us, kw⟩)).depth = A.depth + 1 := by
  first | rfl | simp [Around.under, Code.weight, Code.isCreation, Code.isGuard, Code.isCaller, Code.frames, Code.isFrame, guardIds]
theorem make_units {A : Around} {C : Addr} {us : List Value} {kw : List (Str × Value)} : (A.under (.builtin "type.__call__" ⟨.ref C :: us, kw⟩)).units = A.units + 1 := by
  first | rfl | simp [Around.under, Code.cUnits, Code.frames, Code.isFrame]
theorem Room.make {k : Nat} {A : Around} (r : Room (k + 1) A) (C : Addr) (us : List Value) (kw : List (Str × Value)) : Room k (A.under (.builtin "type.__call__" ⟨.ref C :: us, kw⟩)) :=
  ⟨r.hd, by have := r.dp; rw [make_depth]; omega, by have := r.un; rw [make_units]; omega⟩
theorem Room.depth {k : Nat} {A : Around} (r : Room k A) : A.depth < recursionLimit := by have := r.dp; omega
theorem Room.units {k : Nat} {A : Around} (r : Room k A) : A.units + 64 < cLine := by have := r.un; omega

noncomputable def tNil : TA := fun _ H Q => Q [] H
noncomputable def tCons (ta : TE) (tr : TA) : TA := fun σ H Q => ta σ H fun x H1 => tr σ H1 fun xs H2 => Q (x :: xs) H2
section
variable {X : Cx} {e : Expr} {es : List Expr} {te : TE} {t : TA} {pos : Pos}
theorem pa_nil : PA X [] tNil := fun _ _ _ _ H Q I h => Calls.spliced_nil ⟨[], H, I, .nil, h⟩
theorem pa_cons (ha : PE X e te) (hr : PA X es t) (hs : starEach (e :: es) X.env = (false, eval e X.env) :: starEach es X.env := by rfl) : PA X (e :: es) (tCons te t) := by
  intro pos pins s σ H Q I h
  rw [hs]
  show wpAny _ _ (spliced ((false, eval e X.env) :: backTo pos (starEach es X.env))) _ _ s
  refine Calls.spliced_cons (thn (ha pins s σ H _ I h) fun u s1 hZq0 => ?_)
  obtain ⟨x, H1, I1, r1, q1⟩ := hZq0
  exact thn (hr pos pins s1 σ H1 _ I1 q1) fun us s2 ⟨xs, H2, I2, r2, q2⟩ => ⟨x :: xs, H2, I2, .cons r1 r2, q2⟩

noncomputable def tTup (t : TA) : TE := fun σ H Q => t σ H fun xs H1 => xs.length ≤ sizeLine ∧ ∀ p, H1 p = none → Q (.ref p) (upd H1 p (.tup xs))
noncomputable def tLst (t : TA) : TE := fun σ H Q => t σ H fun xs H1 => xs.length ≤ sizeLine ∧ ∀ p, H1 p = none → Q (.ref p) (upd H1 p (.lst xs))
theorem pe_tup {x1} (h : PA X es t) : PE X (.Tuple es x1 pos) (tTup t) := by
  intro pins s σ H Q I hq
  refine wpAny_Tuple_spliced (thn (h pos pins s σ H _ I hq) fun us s1 ⟨xs, H1, I1, r, z, q⟩ => ⟨by rw [← r.length]; exact z, ?_⟩)
  have hf : H1 s1.heap.objs.size = none := I1.hok.fresh (Nat.le_refl _)
  refine ⟨.ref s1.heap.objs.size, upd H1 s1.heap.objs.size (.tup xs), I1.laid (t' := s1.toks) (fun b u e => Heap.get?_push_of_some _ e) (Nat.le_refl _) ?_, rfl, q _ hf⟩
  exact ⟨z, us, r, ⟨_, Heap.get?_push_size _ rfl, rfl, _, rfl, rfl⟩⟩
theorem pe_lst (h : PA X es t) : PE X (.List es pos) (tLst t) := by
  intro pins s σ H Q I hq
  refine wpAny_List_spliced (thn (h pos pins s σ H _ I hq) fun us s1 ⟨xs, H1, I1, r, z, q⟩ => ⟨by rw [← r.length]; exact z, ?_⟩)
  have hf : H1 s1.heap.objs.size = none := I1.hok.fresh (Nat.le_refl _)
  refine ⟨.ref s1.heap.objs.size, upd H1 s1.heap.objs.size (.lst xs), I1.laid (t' := s1.toks) (fun b u e => Heap.get?_push_of_some _ e) (Nat.le_refl _) ?_, rfl, q _ hf⟩
  exact ⟨z, us, 0, r, Heap.get?_push_size _ rfl⟩
end

noncomputable abbrev Sp := List V → Hp → VK → XK → Prop
noncomputable abbrev CXT := List Env → Hp → Shared → XK → Value → Shared → Prop

structure Env0 (P : Program) (w : World) (K : PySem.W.Frag) (mg : Str → Option Value) (base : Heap) (A : Around) (outer : List Env) (s : Shared) (H : Hp) : Prop where
  frames : A.frames = some outer
  mod : Mod K mg base
  bs : ∀ b o, base.get? b = some o → s.heap.get? b = some o ∧ H b = none
  bsz : base.objs.size ≤ s.heap.objs.size
  funs : s.heap.FunFrames base outer
  frf : ∀ b ∈ frs outer, H b = none
  hok : HOk P w H s.heap
  bare : AllBare s.gens
noncomputable def CE (outer : List Env) (P : Program) (w : World) (H : Hp) (s : Shared) (Q : VK) (u : Value) (s' : Shared) : Prop :=
  ∃ v H', s'.os = s.os ∧ AllBare s'.gens ∧ Un (frs outer) [] H H' s.heap s'.heap ∧ HOk P w H' s'.heap ∧ RelV v u ∧ Q v H'
noncomputable def CR (CX : CXT) (outer : List Env) (P : Program) (w : World) (H : Hp) (s : Shared) (Q : VK) (E : XK) (r : Result) (s' : Shared) : Prop :=
  match r with
  | .ok (.ret u) => CE outer P w H s Q u s'
  | .ok _ => False
  | .error e => CX outer H s E e s'
structure FnOk (P : Program) (w : World) (K : PySem.W.Frag) (mg : Str → Option Value) (base : Heap) (CX : CXT) (k : Nat) (f : Addr) (fd : FuncData) (ps : List Str) (sp : Sp) : Prop where
  len : ∀ vs H Q E, sp vs H Q E → vs.length = ps.length
  run : ∀ (A : Around) (outer : List Env) (s : Shared) (H : Hp) (args : Args) (us : List Value) (vs : List V) (Q : VK) (E : XK), Room k A → Env0 P w K mg base A outer s H → BindsTo s fd args (ps.zip us) → Vals vs us → sp vs H Q E →
    codeAny (model P w) A (.call (.ref f) args) (CR CX outer P w H s Q E) s

theorem Env0.make {P : Program} {w : World} {K : PySem.W.Frag} {mg : Str → Option Value} {base : Heap} {A : Around} {outer : List Env} {s : Shared} {H : Hp} (e : Env0 P w K mg base A outer s H) (C : Addr) (us : List Value) (kw : List (Str × Value)) :
    Env0 P w K mg base (A.under (.builtin "type.__call__" ⟨.ref C :: us, kw⟩)) outer s H := ⟨by first | exact e.frames | (simpa [Around.under, Code.envs, Code.isFrame, pushEnvs] using e.frames), e.mod, e.bs, e.bsz, e.funs, e.frf, e.hok, e.bare⟩

section
variable {X : Cx} {pins : List (Addr × Obj)} {σ : St} {H : Hp} {s s' : Shared}
theorem Inv.env0 (I : Inv X pins σ H s) : Env0 X.prog X.w X.K X.mg X.base X.A X.stack s H :=
  ⟨I.ok.frames, I.ok.mod, I.bs, Nat.le_trans I.ok.bsz I.sz, I.stack, I.stkFree, I.hok, I.bare⟩
theorem Inv.after {Q : VK} {u : Value} (I : Inv X pins σ H s) (h : CE X.stack X.prog X.w H s Q u s') : EP X pins σ Q u s' := by
  obtain ⟨v, H', os, bare, un, hok, r, q⟩ := h
  obtain ⟨hh, g, d, t, os'⟩ := s'
  obtain rfl : os' = s.os := os
  exact ⟨v, H', I.call (h' := hh) (g' := g) (d' := d) (t' := t) (ch := []) un hok bare (fun b z => absurd z (by simp)), r, q⟩
end

noncomputable def tCall (sp : Sp) (dvs : List V) (E : XK) (t : TA) : TE := fun σ H Q => t σ H fun vs H1 => sp (vs ++ dvs) H1 Q E
noncomputable def tMeth (C : Addr) (m : Str) (sp : Sp) (dvs : List V) (E : XK) (ta : TE) (t : TA) : TE := fun σ H Q => ta σ H fun x H1 => ∃ a dx fs, x = .ref a ∧ H1 a = some (.ins C dx fs) ∧ fs.lookup m = none ∧
  t σ H1 fun vs H2 => sp (x :: (vs ++ dvs)) H2 Q E
noncomputable def tMake (C : Addr) (sp : Sp) (dvs : List V) (E : XK) (t : TA) : TE := fun σ H Q => t σ H fun vs H1 => ∀ x dx, H1 x = none → H1 dx = none → dx ≠ x →
  sp (.ref x :: (vs ++ dvs)) (upd (upd H1 dx (.own x)) x (.ins C dx [])) (fun v H2 => v = .non ∧ Q (.ref x) H2) E

noncomputable def Binds (K : PySem.W.Frag) (fd : FuncData) (ps : List Str) (ds : List Value) : Prop :=
  ∀ (s : Shared) (us : List Value), K.In s.heap → (us ++ ds).length = ps.length → BindsTo s fd ⟨us, []⟩ (ps.zip (us ++ ds))
theorem Binds.all {K : PySem.W.Frag} {fd : FuncData} {ps : List Str} (h : ∀ us : List Value, us.length = ps.length → bindArgs fd ⟨us, []⟩ = pure (ps.zip us)) : Binds K fd ps [] := fun s us _ hl => by
  rw [List.append_nil] at hl ⊢
  exact .of_eq (h us hl)

noncomputable def Passes (CX : CXT) (X : Cx) (E : XK) : Prop := ∀ (pins : List (Addr × Obj)) (σ : St) (H : Hp) (s : Shared) (e : Value) (s' : Shared), Inv X pins σ H s → CX X.stack H s E e s' → X.xe e s'

section
variable {X : Cx} {CX : CXT} {k : Nat} {f C : Addr} {fd : FuncData} {ps : List Str} {sp : Sp} {dvs : List V} {ds : List Value} {E : XK} {x m : Str} {p pos apos : Pos} {e o : Expr} {es : List Expr} {ta : TE} {t : TA}

theorem run_fn {pins : List (Addr × Obj)} {σ : St} {H : Hp} {s : Shared} {Q : VK} {us : List Value} {vs : List V} (F : FnOk X.prog X.w X.K X.mg X.base CX k f fd ps sp) (hr : Room k X.A) (hb : Binds X.K fd ps ds) (hd : Vals dvs ds) (hx : Passes CX X E)
    (I : Inv X pins σ H s) (r : Vals vs us) (h : sp (vs ++ dvs) H Q E) : wpAny (model X.prog X.w) X.A (call (.ref f) us) (EP X pins σ Q) X.xe s := by
  have r2 : Vals (vs ++ dvs) (us ++ ds) := r.append hd
  have hl : (us ++ ds).length = ps.length := by rw [← r2.length]; exact F.len _ _ _ _ h
  refine wpAny_call (codeAny_mono (F.run X.A X.stack s H ⟨us, []⟩ (us ++ ds) (vs ++ dvs) Q E hr I.env0 (hb s us I.kIn hl) r2 h) fun r s' hq => ?_)
  cases r with
  | error e => exact hx pins σ H s e s' I hq
  | ok fl =>
    cases fl with
    | ret u => exact I.after hq
    | next => exact False.elim hq
    | brk => exact False.elim hq
    | cont => exact False.elim hq

theorem pe_call (F : FnOk X.prog X.w X.K X.mg X.base CX k f fd ps sp) (hr : Room k X.A) (hg : Gl X x) (hm : X.mg x = some (.ref f)) (hk : PySem.W.keepIn X.K (.ref f) = true) (hb : Binds X.K fd ps ds) (hd : Vals dvs ds) (hx : Passes CX X E)
    (ha : PA X (e :: es) t) (hdb : (x == ("__debug__" : Str)) = false := by decide) (he : starEach (e :: es) X.env = (false, eval e X.env) :: starEach es X.env := by rfl) (hpl : (backTo pos (starEach es X.env)).any (·.1) = false := by rfl) :
    PE X (.Call (.Name x p) (e :: es) [] pos) (tCall sp dvs E t) := by
  intro pins s σ H Q I h
  refine wpAny_Call_Name_kw (ld_glob I hg hm ?_ hdb)
  refine PySem.W.callWith_K (h₀ := X.base) I.ok.mod.kin hk (thn (ha pos pins s σ H _ I h) fun us s1 ⟨vs, H1, I1, r, q⟩ => ⟨I1.kIn, ?_⟩) he hpl
  exact run_fn F hr hb hd hx I1 r q

theorem pe_meth {pl : Sem Bool} (he : PE X o ta) (c : Cls X.K C) (hm : Meth X.K C m f) (F : FnOk X.prog X.w X.K X.mg X.base CX k f fd ps sp) (hr : Room k X.A) (hb : Binds X.K fd ps ds) (hd : Vals dvs ds) (hx : Passes CX X E) (ha : PA X (e :: es) t)
    (hst : starEach (e :: es) X.env = (false, eval e X.env) :: starEach es X.env := by rfl) (hpl : (backTo pos (starEach es X.env)).any (·.1) = false := by rfl)
    (ht : eval (.Call (.Attribute o m apos) (e :: es) [] pos) X.env = (do
      let ov ← eval o X.env
      standAt apos.atName
      let (f, first) ← holding [ov] (getMethod ov m pl)
      callWith pos f first (backTo pos (starEach (e :: es) X.env)) (backToKw pos (keywordEach [] X.env))) := by rfl) :
    PE X (.Call (.Attribute o m apos) (e :: es) [] pos) (tMeth C m sp dvs E ta t) := by
  intro pins s σ H Q I h
  refine PySem.W.methodCall_KW (pl := pl) (thn (he pins s σ H _ I h) fun u s1 hZq0 => ?_) ht
  obtain ⟨x, H1, I1, rx, a, dx, fs, ex, ea, l, q⟩ := hZq0
  subst ex
  obtain rfl : u = Value.ref a := rx
  refine getmeth_ok I1 ea c hm l ?_
  refine PySem.W.callWith_K (first := [.ref a]) (h₀ := X.base) I.ok.mod.kin hm.kp (thn (ha pos pins s1 σ H1 _ I1 q) fun us s2 ⟨vs, H2, I2, r, q2⟩ => ⟨I2.kIn, ?_⟩) hst hpl
  exact run_fn (us := .ref a :: us) (vs := .ref a :: vs) F hr hb hd hx I2 (.cons rfl r) q2
theorem pe_meth0 {pl : Sem Bool} (he : PE X o ta) (c : Cls X.K C) (hm : Meth X.K C m f) (F : FnOk X.prog X.w X.K X.mg X.base CX k f fd ps sp) (hr : Room k X.A) (hb : Binds X.K fd ps ds) (hd : Vals dvs ds) (hx : Passes CX X E)
    (ht : eval (.Call (.Attribute o m apos) [] [] pos) X.env = (do
      let ov ← eval o X.env
      standAt apos.atName
      let (f, first) ← holding [ov] (getMethod ov m pl)
      callWith pos f first (backTo pos (starEach [] X.env)) (backToKw pos (keywordEach [] X.env))) := by rfl) :
    PE X (.Call (.Attribute o m apos) [] [] pos) (tMeth C m sp dvs E ta tNil) := by
  intro pins s σ H Q I h
  refine PySem.W.methodCall_KW (pl := pl) (thn (he pins s σ H _ I h) fun u s1 hZq0 => ?_) ht
  obtain ⟨x, H1, I1, rx, a, dx, fs, ex, ea, l, q⟩ := hZq0
  subst ex
  obtain rfl : u = Value.ref a := rx
  refine getmeth_ok I1 ea c hm l ?_
  exact PySem.W.callWith_K0 (first := [.ref a]) I1.kIn hm.kp (run_fn (us := [.ref a]) (vs := [.ref a]) F hr hb hd hx I1 (.cons rfl .nil) q)

structure Mk (K : PySem.W.Frag) (C f : Addr) : Prop where
  makes : PySem.W.makesIn K C = true
  init : PySem.W.findIn K (.ref C) "__init__" = some (some (.ref f))
  fn : PySem.W.isFn K (.ref f) = true
  kp : PySem.W.keepIn K (.ref C) = true

theorem run_make {pins : List (Addr × Obj)} {σ : St} {H : Hp} {s : Shared} {Q : VK} {us : List Value} {vs : List V} (M : Mk X.K C f) (F : FnOk X.prog X.w X.K X.mg X.base CX k f fd ps sp) (hr : Room (k + 1) X.A) (hb : Binds X.K fd ps ds) (hd : Vals dvs ds)
    (hx : Passes CX X E) (I : Inv X pins σ H s) (r : Vals vs us)
    (h : ∀ x dx, H x = none → H dx = none → dx ≠ x → sp (.ref x :: (vs ++ dvs)) (upd (upd H dx (.own x)) x (.ins C dx [])) (fun v H2 => v = .non ∧ Q (.ref x) H2) E) :
    wpAny (model X.prog X.w) X.A (call (.ref C) us) (EP X pins σ Q) X.xe s := by
  have hq := h (s.heap.objs.size + 1) s.heap.objs.size (I.hok.fresh (Nat.le_succ _)) (I.hok.fresh (Nat.le_refl _)) (Nat.ne_of_lt (Nat.lt_succ_self _))
  have I2 := Inv.made (C := C) I
  have r2 : Vals (V.ref (s.heap.objs.size + 1) :: (vs ++ dvs)) (Value.ref (s.heap.objs.size + 1) :: (us ++ ds)) := .cons rfl (r.append hd)
  have hl : (Value.ref (s.heap.objs.size + 1) :: us ++ ds).length = ps.length := by
    have e := r2.length
    rw [F.len _ _ _ _ hq] at e
    exact e.symm
  refine wpAny_call (make_map (f := f) I.kIn M.makes M.init (beq_iff_eq.mp M.fn) (codeAny_mono (F.run _ X.stack _ _ ⟨Value.ref (s.heap.objs.size + 1) :: us, []⟩ (Value.ref (s.heap.objs.size + 1) :: (us ++ ds)) _ _ E (hr.make C us [])
    (I2.env0.make C us []) (hb _ (Value.ref (s.heap.objs.size + 1) :: us) I2.kIn hl) r2 hq) fun r s' hq' => ?_))
  cases r with
  | error e => exact hx pins σ _ _ e s' I2 hq'
  | ok fl =>
    cases fl with
    | ret u =>
      obtain ⟨v, H', I3, rv, ev, q3⟩ := I2.after hq'
      subst ev
      exact ⟨rv, ⟨V.ref (s.heap.objs.size + 1), H', I3, rfl, q3⟩⟩
    | next => exact False.elim hq'
    | brk => exact False.elim hq'
    | cont => exact False.elim hq'
theorem pe_make (M : Mk X.K C f) (F : FnOk X.prog X.w X.K X.mg X.base CX k f fd ps sp) (hr : Room (k + 1) X.A) (hg : Gl X x) (hm : X.mg x = some (.ref C)) (hb : Binds X.K fd ps ds) (hd : Vals dvs ds) (hx : Passes CX X E)
    (ha : PA X (e :: es) t) (hdb : (x == ("__debug__" : Str)) = false := by decide) (he : starEach (e :: es) X.env = (false, eval e X.env) :: starEach es X.env := by rfl) (hpl : (backTo pos (starEach es X.env)).any (·.1) = false := by rfl) :
    PE X (.Call (.Name x p) (e :: es) [] pos) (tMake C sp dvs E t) := by
  intro pins s σ H Q I h
  refine wpAny_Call_Name_kw (ld_glob I hg hm ?_ hdb)
  refine PySem.W.callWith_K (h₀ := X.base) I.ok.mod.kin M.kp (thn (ha pos pins s σ H _ I h) fun us s1 ⟨vs, H1, I1, r, q⟩ => ⟨I1.kIn, ?_⟩) he hpl
  exact run_make M F hr hb hd hx I1 r q
theorem pe_make0 (M : Mk X.K C f) (F : FnOk X.prog X.w X.K X.mg X.base CX k f fd ps sp) (hr : Room (k + 1) X.A) (hg : Gl X x) (hm : X.mg x = some (.ref C)) (hb : Binds X.K fd ps ds) (hd : Vals dvs ds) (hx : Passes CX X E)
    (hdb : (x == ("__debug__" : Str)) = false := by decide) : PE X (.Call (.Name x p) [] [] pos) (tMake C sp dvs E tNil) := by
  intro pins s σ H Q I h
  refine wpAny_Call_Name_kw (ld_glob I hg hm ?_ hdb)
  exact PySem.W.callWith_K0 I.kIn M.kp (run_make (us := []) M F hr hb hd hx I .nil h)
end

section
variable {X : Cx} {CX : CXT} {k : Nat} {f C : Addr} {fd : FuncData} {ps ks : List Str} {sp : Sp} {E : XK} {x m : Str} {p pos apos kpos : Pos} {e o : Expr} {es : List Expr} {kws : List Keyword} {te ta : TE} {t tk : TA} {nm : Option Str}

variable {g : List Value → List Value → List Value} {gV : List V → List V → List V}
end

structure FnScope (N P : List Str) (sc : Scope) : Prop where
  kind : sc.kind = .function
  co : sc.isCoroutine = false
  gen : sc.isGenerator = false
  nd : N.Nodup
  pre : N.take P.length = P
  par : ∀ x ∈ P, sc.names.lookup x = some .local ∨ sc.names.lookup x = some .cell
  nofree : ∀ y ∈ sc.names, y.2 ≠ .free

theorem bindL_out {kindOf : Str → Option NameKind} {x : Str} : ∀ {binds : List (Str × Value)} {m : Str → Option Value}, (∀ v, (x, v) ∉ binds) → bindL kindOf binds m x = m x
  | [], _, _ => rfl
  | (n, v) :: r, m, h => by
    unfold bindL
    rw [bindL_out fun w hw => h w (List.mem_cons_of_mem _ hw)]
    split
    · have : x ≠ n := by rintro rfl; exact h v List.mem_cons_self
      simp [this]
    · rfl
theorem bindC_out {kindOf : Str → Option NameKind} {x : Str} : ∀ {binds : List (Str × Value)} {m : Str → Option Value}, (∀ v, (x, v) ∉ binds) → bindC kindOf binds m x = m x
  | [], _, _ => rfl
  | (n, v) :: r, m, h => by
    unfold bindC
    rw [bindC_out fun w hw => h w (List.mem_cons_of_mem _ hw)]
    split
    · rfl
    · have : x ≠ n := by rintro rfl; exact h v List.mem_cons_self
      simp [this]
theorem bindL_get {kindOf : Str → Option NameKind} {x : Str} {v : Value} : ∀ {P : List Str} {vs : List Value} {i : Nat} {m : Str → Option Value}, P.Nodup → P[i]? = some x → vs[i]? = some v → kindOf x = some .local →
    bindL kindOf (P.zip vs) m x = some v
  | [], _, _, _, _, h, _, _ => by simp at h
  | _ :: _, [], _, _, _, _, h, _ => by simp at h
  | p :: P, w :: vs, 0, m, nd, h1, h2, hk => by
    simp at h1 h2; subst h1; subst h2
    show bindL kindOf ((p, w) :: P.zip vs) m p = _
    unfold bindL
    rw [bindL_out fun v hv => (List.nodup_cons.mp nd).1 (List.of_mem_zip hv).1, if_pos hk]
    simp
  | p :: P, w :: vs, i + 1, m, nd, h1, h2, hk => by
    show bindL kindOf ((p, w) :: P.zip vs) m x = _
    unfold bindL
    exact bindL_get (i := i) (List.nodup_cons.mp nd).2 (by simpa using h1) (by simpa using h2) hk
theorem bindC_get {kindOf : Str → Option NameKind} {x : Str} {v : Value} : ∀ {P : List Str} {vs : List Value} {i : Nat} {m : Str → Option Value}, P.Nodup → P[i]? = some x → vs[i]? = some v → kindOf x ≠ some .local →
    bindC kindOf (P.zip vs) m x = some v
  | [], _, _, _, _, h, _, _ => by simp at h
  | _ :: _, [], _, _, _, _, h, _ => by simp at h
  | p :: P, w :: vs, 0, m, nd, h1, h2, hk => by
    simp at h1 h2; subst h1; subst h2
    show bindC kindOf ((p, w) :: P.zip vs) m p = _
    unfold bindC
    rw [bindC_out fun v hv => (List.nodup_cons.mp nd).1 (List.of_mem_zip hv).1, if_neg hk]
    simp
  | p :: P, w :: vs, i + 1, m, nd, h1, h2, hk => by
    show bindC kindOf ((p, w) :: P.zip vs) m x = _
    unfold bindC
    exact bindC_get (i := i) (List.nodup_cons.mp nd).2 (by simpa using h1) (by simpa using h2) hk

noncomputable def start (N : List Str) (vs : List V) : St := vs.map some ++ List.replicate (N.length - vs.length) none

noncomputable def cxOf (CX : CXT) (P : Program) (w : World) (K : PySem.W.Frag) (mg : Str → Option Value) (base : Heap) (N : List Str) (qual : Str) (scope : Scope) (f : Addr) (cd : Value) (A : Around) (outer : List Env) (s : Shared) (H : Hp) (E : XK) : Cx where
  prog := P
  w := w
  K := K
  mg := mg
  base := base
  A := A.deeper (envOfC qual scope s.heap.objs.size f cd)
  N := N
  s_0 := s
  H_0 := H
  env := envOfC qual scope s.heap.objs.size f cd
  outer := outer
  stack := envOfC qual scope s.heap.objs.size f cd :: outer
  ex := []
  calm := true
  fn := fun _ => true
  pn := []
  xe := fun e s' => wpAny (model P w) (A.deeper (envOfC qual scope s.heap.objs.size f cd)) (leaving (envOfC qual scope s.heap.objs.size f cd) e) (fun _ s'' => CX outer H s E e s'') (fun e' s'' => CX outer H s E e' s'') s'

theorem cell_has {sc : Scope} {n : Nat} {x : Str} (h : sc.names.lookup x = some .cell) : ∃ c, (cellsFrom n sc.names []).lookup x = some c := by
  have q := PySem.W.cellsFrom_some sc.names n [] (.inl h)
  exact Option.isSome_iff_exists.mp q

theorem inv_start {CX : CXT} {P : Program} {w : World} {K : PySem.W.Frag} {mg : Str → Option Value} {base : Heap} {N ps : List Str} {qual : Str} {scope : Scope} {f : Addr} {cd : Value} {A : Around} {outer : List Env} {s s1 : Shared} {H : Hp} {E : XK} {us : List Value} {vs : List V}
    (S : FnScope N ps scope) (hd : A.handled = none) (e0 : Env0 P w K mg base A outer s H) (hl : vs.length = ps.length) (r : Vals vs us)
    (x : InCallC s s.heap.objs.size (bindL (envOfC qual scope s.heap.objs.size f cd).kindOf (ps.zip us) fun _ => none) (cellsFrom (s.heap.objs.size + 1) scope.names []) (bindC (envOfC qual scope s.heap.objs.size f cd).kindOf (ps.zip us) fun _ => none) s1) :
    Inv (cxOf CX P w K mg base N qual scope f cd A outer s H E) [] (start N vs) H s1 := by
  have hpl : ps.length ≤ N.length := by have := congrArg List.length S.pre; rw [List.length_take] at this; omega
  obtain ⟨h1, tk, rfl, hk⟩ := x.done
  have noA : ∀ b : Addr, b ∉ (cxOf CX P w K mg base N qual scope f cd A outer s H E).ex := fun b z => absurd (show b ∈ ([] : List Addr) from z) (by simp)
  refine ⟨⟨e0.mod, S.kind, rfl, rfl, Nat.le_refl _, fun y z c h1 h2 => ?_, fun y hy => ?_, fun y c _ h => ?_, fun _ => hd, Around.frames_deeper e0.frames, .inr ⟨rfl, rfl⟩, fun b z => absurd z (noA b), e0.bs, e0.bsz, fun b _ _ => noA b, fun b z => absurd z (noA b), e0.funs, e0.frf⟩,
    rfl, e0.bare, Un.kept hk, ⟨_, x.toInCall.ns, fun i y v h1 h2 h3 => ?_⟩, fun y c h => ⟨_, x.cell y c h⟩, e0.hok.fresh (Nat.le_refl _), fun y c h => ?_, fun p hp => absurd (show p ∈ ([] : List (Addr × Obj)) from hp) (by simp), e0.hok.kept hk, ?_⟩
  · exact name_of_addr x.apart (PySem.mem_of_lookup h1) (PySem.mem_of_lookup h2)
  · have hy : scope.names.lookup y = some .cell ∨ scope.names.lookup y = some .free := hy
    rcases hy with hy | hy
    · exact cell_has hy
    · exact absurd rfl (S.nofree _ (PySem.mem_of_lookup hy))
  · exact Nat.le_of_lt (x.above y c (PySem.mem_of_lookup h))
  · have hi : i < vs.length := by
      unfold start at h2
      by_cases hi : i < vs.length
      · exact hi
      · rw [List.getElem?_append_right (by simpa using hi)] at h2
        rw [List.getElem?_replicate] at h2
        split at h2 <;> cases h2
    have ha : vs[i]? = some v := by
      unfold start at h2
      rw [List.getElem?_append_left (by simpa using hi), List.getElem?_map] at h2
      cases e : vs[i]? with
      | none => rw [e] at h2; cases h2
      | some a => rw [e] at h2; cases h2; rfl
    obtain ⟨u, hu, rv⟩ := r.get ha
    have hp : ps[i]? = some y := by
      rw [← S.pre, List.getElem?_take_of_lt (by omega)]; exact h1
    have ndP : ps.Nodup := by rw [← S.pre]; exact S.nd.sublist (List.take_sublist _ _)
    refine ⟨u, rv, ?_⟩
    rcases S.par y (List.mem_of_getElem? hp) with k | k
    · exact .inl ⟨k, bindL_get ndP hp hu k⟩
    · obtain ⟨c, e⟩ := cell_has (n := s.heap.objs.size + 1) k
      refine .inr ⟨.inl k, c, e, ?_⟩
      have q := x.cell y c e
      rw [bindC_get ndP hp hu (by show scope.names.lookup y ≠ _; rw [k]; decide)] at q
      exact q
  · exact e0.hok.fresh (Nat.le_of_lt (x.above y c (PySem.mem_of_lookup h)))
  · unfold start
    show _ = N.length
    rw [List.length_append, List.length_map, List.length_replicate]
    omega

theorem fn_of {CX : CXT} {P : Program} {w : World} {K : PySem.W.Frag} {mg : Str → Option Value} {base : Heap} {k : Nat} {f : Addr} {name qual : Str} {params : Arguments} {body : List Stmt} {scope : Scope} {dV kV doc pm cdv ct oc : Value} {an od : Option Addr}
    {osl : Array (Option Value)} {N ps : List Str} {sp : Sp} (lk : K.lookup f = some ⟨oc, od, .func (PySem.W.fnOf name qual params body scope dV kV doc pm an cdv ct), osl⟩) (hcd : PySem.W.codeIn K cdv qual = true) (S : FnScope N ps scope)
    (len : ∀ vs H Q E, sp vs H Q E → vs.length = ps.length)
    (hbody : ∀ (A : Around) (outer : List Env) (s : Shared) (H : Hp) (vs : List V) (Q : VK) (E : XK), Room k (A.deeper (envOfC qual scope s.heap.objs.size f cdv)) → sp vs H Q E →
      ∃ t, PSs (cxOf CX P w K mg base N qual scope f cdv A outer s H E) body t ∧ t { nx := fun _ H' => Q .non H', rt := Q } (start N vs) H) :
    FnOk P w K mg base CX (k + 1) f (PySem.W.fnOf name qual params body scope dV kV doc pm an cdv ct) ps sp := by
  refine ⟨len, fun A outer s H args us vs Q E hr e0 hb r hsp => ?_⟩
  have hl := len _ _ _ _ hsp
  have KX : K.In s.heap := e0.mod.kin.keeps fun b o e => (e0.bs b o e).1
  have lim : s.heap.NoLimit := e0.mod.nolimit.keeps fun b o e => (e0.bs b o e).1
  have hkind : ∀ y ∈ ps.zip us, scope.names.lookup y.1 = some .local ∨ (scope.names.lookup y.1 = some .cell ∧ ((cellsFrom (s.heap.objs.size + 1) scope.names []).lookup y.1).isSome = true) := fun ⟨n, v⟩ hy => by
    rcases S.par n (List.of_mem_zip hy).1 with q | q
    · exact .inl q
    · exact .inr ⟨q, PySem.W.cellsFrom_some _ _ _ (.inl q)⟩
  refine codeAny_call_function hr.depth (KX _ _ lk) rfl S.co S.gen rfl (PySem.W.codeRec_of KX hcd) (hb _ _ _ _ ?_)
  refine wpAny_newFunctionEnv_cells S.kind hkind fun env he s1 x => ?_
  subst he
  refine ⟨lim.keeps x.toInCall.keep, codeAny_func ?_⟩
  obtain ⟨t, ht, hq⟩ := hbody A outer s H vs Q E (hr.deeper _) hsp
  have I : Inv (cxOf CX P w K mg base N qual scope f cdv A outer s H E) [] (start N vs) H s1 := inv_start S hr.hd e0 hl r x
  refine wpAny_mono (ht [] s1 (start N vs) H _ I hq) (fun fl s' hs => ?_) fun e s' hs => hs
  have fin : ∀ {σ' : St} {H' : Hp} {v : V} {u : Value}, Inv (cxOf CX P w K mg base N qual scope f cdv A outer s H E) [] σ' H' s' → RelV v u → Q v H' → CE outer P w H s Q u s' :=
    fun {σ' H' v u} J rv q => ⟨v, H', J.os, J.bare, J.base, J.hok, rv, q⟩
  cases fl with
  | ret u =>
    obtain ⟨v, σ', H', J, rv, q⟩ := hs
    exact fin J rv q
  | next =>
    obtain ⟨σ', H', J, q⟩ := hs
    exact fin (v := V.non) (u := Value.none) J rfl q
  | brk =>
    obtain ⟨_, _, _, q⟩ := hs
    exact False.elim q
  | cont =>
    obtain ⟨_, _, _, q⟩ := hs
    exact False.elim q
end L2

namespace L2
open PySem PySem.Spec PyProof.Rows
section
variable {X : Cx} {x : Str} {p pos : Pos} {e : Expr} {es : List Expr} {t : TA} {id T : String} {r : List V → Hp → VK → Prop}

noncomputable def tCB (r : List V → Hp → VK → Prop) (t : TA) : TE := fun σ H Q => t σ H fun vs H1 => r vs H1 Q
theorem pe_callB (hc : CallR X (.builtin id) r) (hg : Gl X x) (hm : X.mg x = none) (hv : bootBuiltins x = some (.builtin id)) (ha : PA X (e :: es) t) (hn : x ≠ "__name__" := by decide) (hdb : (x == ("__debug__" : Str)) = false := by decide)
    (he : starEach (e :: es) X.env = (false, eval e X.env) :: starEach es X.env := by rfl) (hpl : (backTo pos (starEach es X.env)).any (·.1) = false := by rfl) : PE X (.Call (.Name x p) (e :: es) [] pos) (tCB r t) := by
  intro pins s σ H Q I h
  refine wpAny_Call_Name_kw (ld_blt I hg hm hv ?_ hn hdb)
  exact PyProof.Rows.callWith_builtin1 (thn (ha pos pins s σ H _ I h) fun us s1 ⟨vs, H1, I1, r1, q1⟩ => hc pins s1 σ H1 vs us Q I1 r1 q1) he hpl
theorem pe_callTy (hc : CallR X (.type T) r) (hg : Gl X x) (hm : X.mg x = none) (hv : bootBuiltins x = some (.type T)) (ha : PA X (e :: es) t) (hn : x ≠ "__name__" := by decide) (hdb : (x == ("__debug__" : Str)) = false := by decide)
    (he : starEach (e :: es) X.env = (false, eval e X.env) :: starEach es X.env := by rfl) (hpl : (backTo pos (starEach es X.env)).any (·.1) = false := by rfl) : PE X (.Call (.Name x p) (e :: es) [] pos) (tCB r t) := by
  intro pins s σ H Q I h
  refine wpAny_Call_Name_kw (ld_blt I hg hm hv ?_ hn hdb)
  exact PyProof.Rows.callWith_type1 (thn (ha pos pins s σ H _ I h) fun us s1 ⟨vs, H1, I1, r1, q1⟩ => hc pins s1 σ H1 vs us Q I1 r1 q1) he hpl
end
end L2

namespace HT
open PySem PyProof.Rows

noncomputable def lexLt : List Int → List Int → Bool
  | [], [] => false
  | [], _ :: _ => true
  | _ :: _, [] => false
  | x :: xs, y :: ys => if x = y then lexLt xs ys else decide (x < y)
theorem lexLt_cons (x y : Int) (xs ys : List Int) : lexLt (x :: xs) (y :: ys) = if x = y then lexLt xs ys else decide (x < y) := rfl
theorem lexLt_nil_nil : lexLt [] [] = false := rfl
theorem lexLt_nil_cons (y : Int) (ys : List Int) : lexLt [] (y :: ys) = true := rfl
theorem lexLt_cons_nil (x : Int) (xs : List Int) : lexLt (x :: xs) [] = false := rfl

theorem eqAt_int (A : Around) (s : Shared) (a : Int) (t : Tok) (c : Int) (u : Tok) : ∃ e, SeqAt.EqAt A s (.int a t) (.int c u) e ∧ (e = true ↔ a = c) :=
  ⟨(a == c), SeqAt.EqAt.int_int a t c u, by simp⟩
theorem rcLt_int (A : Around) (s : Shared) (a : Int) (t : Tok) (c : Int) (u : Tok) (prog : Program) (w : World) (E : Value → Shared → Prop) (Q : Value → Shared → Prop) (h : Q (.bool (decide (a < c))) s) :
    wpAny (model prog w) A (richCompare .Lt (.int a t) (.int c u)) Q E s :=
  (PyProof.Rows.lt_int h : wpAny (model prog w) A (compareOp .Lt (.int a t) (.int c u)) Q E s)

section
open PySem.SeqAt
open PySem.AutoSeq1 (wpAny_loadPart')
open PySem.MeetsSeq PySem.MeetsSeq2 PySem.MeetsSeq3

end

section
variable {prog : Program} {w : World} {A : Around} {E : Value → Shared → Prop} {s : Shared}

noncomputable def sIx (n d : Nat) : Option Int → Nat
  | none => d
  | some v => if v < 0 then (v + (n : Int)).toNat else min v.toNat n
theorem sIx_none (n d : Nat) : sIx n d none = d := rfl
theorem sIx_nat (n d k : Nat) : sIx n d (some (k : Int)) = min k n := by
  show (if (k : Int) < 0 then ((k : Int) + (n : Int)).toNat else min (k : Int).toNat n) = min k n
  rw [if_neg (by omega), Int.toNat_natCast]

end
end HT

namespace L2
open PySem PySem.Spec PyProof.Rows

noncomputable abbrev TO := St → Hp → (Option Int → Hp → Prop) → Prop
noncomputable def PO (X : Cx) (e : Option Expr) (t : TO) : Prop :=
  ∀ (pins : List (Addr × Obj)) (s : Shared) (σ : St) (H : Hp) (Q : Option Int → Hp → Prop), Inv X pins σ H s → t σ H Q →
    wpAny (model X.prog X.w) X.A (evalPart e X.env) (fun u s' => ∃ o H', Inv X pins σ H' s' ∧ IsPart u o ∧ Q o H') X.xe s
noncomputable def tNoPart : TO := fun _ H Q => Q none H
noncomputable def tPart (t : TE) : TO := fun σ H Q => t σ H fun x H1 => ∃ i, x = .int i ∧ Q (some i) H1

section
variable {X : Cx} {e : Expr} {te : TE} {lo hi : Option Expr} {tl th : TO} {pos p2 : Pos}

theorem po_none : PO X none tNoPart := by
  intro pins s σ H Q I h
  rw [evalPart_none]
  exact wpAny_pure ⟨none, H, I, .none, h⟩
theorem po_some (h : PE X e te) : PO X (some e) (tPart te) := by
  intro pins s σ H Q I hw
  rw [evalPart_some]
  refine thn (h pins s σ H _ I hw) fun u s1 hZq0 => ?_
  obtain ⟨x, H1, I1, r1, q1⟩ := hZq0
  obtain ⟨i, rfl, q⟩ := q1
  obtain ⟨t, rfl⟩ := r1
  exact ⟨some i, H1, I1, .int i t, q⟩

noncomputable def SlR (X : Cx) (r : V → Option Int → Option Int → Hp → VK → Prop) : Prop :=
  ∀ (pins : List (Addr × Obj)) (s : Shared) (σ : St) (H : Hp) (x : V) (v vl vu : Value) (lo hi : Option Int) (sl : Addr) (Q : VK), Inv X pins σ H s → RelV x v → s.heap.IsSliceOf sl vl vu .none → IsPart vl lo → IsPart vu hi → r x lo hi H Q →
    ∃ T id, typeLookup (.type T) "__getitem__" = pure (some (.builtin id)) ∧ s.TypeIs v T ∧ wpAny (model X.prog X.w) X.A (getItem v (.ref sl)) (EP X pins σ Q) X.xe s
noncomputable def tSl (r : V → Option Int → Option Int → Hp → VK → Prop) (te : TE) (tl th : TO) : TE := fun σ H Q => te σ H fun x H1 => tl σ H1 fun l H2 => th σ H2 fun u H3 => r x l u H3 Q
theorem pe_slice {r : V → Option Int → Option Int → Hp → VK → Prop} (hr : SlR X r) (he : PE X e te) (hl : PO X lo tl) (hu : PO X hi th) : PE X (.Subscript e (.Slice lo hi none p2) pos) (tSl r te tl th) := by
  intro pins s σ H Q I h
  refine Subscript_ (thn (he pins s σ H _ I h) fun v s1 hZq0 => ?_)
  obtain ⟨x, H1, I1, r1, q1⟩ := hZq0
  refine wpAny_Slice (thn (hl pins s1 σ H1 _ I1 q1) fun vl s2 hZq0 => ?_)
  obtain ⟨l, H2, I2, pl, q2⟩ := hZq0
  refine thn (hu pins s2 σ H2 _ I2 q2) fun vu s3 hZq1 => ?_
  obtain ⟨u, H3, I3, pu, q3⟩ := hZq1
  rw [evalPart_none]
  refine wpAny_pure ?_
  have I4 : Inv X pins σ H3 { s3 with heap := s3.heap.push { cls := .type "slice", data := .fields #[vl, vu, .none] } } := I3.kept (t' := s3.toks) fun b ob q => Heap.get?_push_of_some _ q
  obtain ⟨T, id, hT, ht, hg⟩ := hr pins { s3 with heap := s3.heap.push { cls := .type "slice", data := .fields #[vl, vu, .none] } } σ H3 x v vl vu l u s3.heap.objs.size Q I4 r1 (Heap.IsSliceOf.new ..) pl pu q3
  show wpAny (model X.prog X.w) X.A (subscriptTail e (.Slice lo hi none p2) v (.ref s3.heap.objs.size)) (EP X pins σ Q) X.xe { s3 with heap := s3.heap.push { cls := .type "slice", data := .fields #[vl, vu, .none] } }
  exact tail_any (ops := [.ref s3.heap.objs.size, v]) ht hT hg (by with_unfolding_all rfl)

noncomputable def cutV (xs : List V) (lo hi : Option Int) : List V := (xs.drop (HT.sIx xs.length 0 lo)).take (HT.sIx xs.length xs.length hi - HT.sIx xs.length 0 lo)
theorem cutV_length (xs : List V) (lo hi : Option Int) : (cutV xs lo hi).length ≤ xs.length := by
  unfold cutV
  rw [List.length_take, List.length_drop]
  omega

end
end L2

namespace L2
open PySem PySem.Spec PyProof.Rows

noncomputable def ixN (n : Nat) (i : Int) : Option Nat := if 0 ≤ i then (if i < n then some i.toNat else none) else if -(n : Int) ≤ i then some (i + n).toNat else none
noncomputable def atI {α : Type} (xs : List α) (i : Int) : Option α := (ixN xs.length i).bind fun j => xs[j]?
theorem ixN_seq {n : Nat} {i : Int} {j : Nat} (h : ixN n i = some j) : seqIndex? i n = some j ∧ j < n ∧ -(n : Int) ≤ i ∧ i < n := by
  unfold ixN at h
  by_cases h0 : 0 ≤ i
  · rw [if_pos h0] at h
    by_cases h1 : i < n
    · rw [if_pos h1] at h
      have e : i.toNat = j := Option.some.inj h
      exact ⟨by rw [seqIndex_of h0 h1, e], by omega, by omega, h1⟩
    · rw [if_neg h1] at h; cases h
  · rw [if_neg h0] at h
    by_cases h1 : -(n : Int) ≤ i
    · rw [if_pos h1] at h
      have e : (i + n).toNat = j := Option.some.inj h
      exact ⟨by rw [seqIndex_neg (by omega) h1, e], by omega, h1, by omega⟩
    · rw [if_neg h1] at h; cases h
theorem atI_get {α : Type} {xs : List α} {i : Int} {v : α} (h : atI xs i = some v) : ∃ j, seqIndex? i xs.length = some j ∧ xs[j]? = some v ∧ j < xs.length ∧ -(xs.length : Int) ≤ i ∧ i < xs.length := by
  unfold atI at h
  cases e : ixN xs.length i with
  | none => rw [e] at h; cases h
  | some j =>
    rw [e] at h
    obtain ⟨h1, h2, h3, h4⟩ := ixN_seq e
    exact ⟨j, h1, h, h2, h3, h4⟩
theorem atI_nat {α : Type} {xs : List α} {j : Nat} {v : α} (h : xs[j]? = some v) : atI xs (j : Int) = some v := by
  have hj : j < xs.length := (List.getElem?_eq_some_iff.mp h).1
  have e : ixN xs.length (j : Int) = some j := by
    unfold ixN
    rw [if_pos (by omega), if_pos (by omega)]; simp
  unfold atI; rw [e]; exact h

noncomputable def PlainIx (b : Expr) : Prop := ∀ o i, subscripted b false o i = operate [o, i] (getItem o i)
noncomputable def IxR (X : Cx) (r : R2) : Prop :=
  ∀ (value slice : Expr) (pins : List (Addr × Obj)) (s : Shared) (σ : St) (H : Hp) (x y : V) (v u : Value) (Q : VK), Inv X pins σ H s → RelV x v → RelV y u → r x y H Q →
    subscripted slice false v u = operate [v, u] (getItem v u) → wpAny (model X.prog X.w) X.A (subscriptTail value slice v u) (EP X pins σ Q) X.xe s
noncomputable def MtR (X : Cx) (id : String) (r : V → List V → Hp → VK → Prop) : Prop :=
  ∀ (pins : List (Addr × Obj)) (s : Shared) (σ : St) (H : Hp) (x : V) (xs : List V) (v : Value) (us : List Value) (Q : VK), Inv X pins σ H s → RelV x v → Vals xs us → r x xs H Q →
    wpAny (model X.prog X.w) X.A (call (.builtin id) (v :: us)) (EP X pins σ Q) X.xe s
section
variable {X : Cx} {a b : Expr} {ta tb : TE} {pos : Pos}
theorem pe_ix {r : R2} (hr : IxR X r) (ha : PE X a ta) (hb : PE X b tb) (hs : PlainIx b) : PE X (.Subscript a b pos) (tOp r ta tb) := by
  intro pins s σ H Q I h
  exact Subscript_ (binT ha hb I h fun v u s2 x y H2 I2 rx ry q => hr a b pins s2 σ H2 x y v u Q I2 rx ry q (hs _ _))

noncomputable def rIxL (K : PySem.W.Frag) : R2 := fun x y H Q => ∃ p xs i v, x = .ref p ∧ y = .int i ∧ SqL K H p xs ∧ atI xs i = some v ∧ Q v H
noncomputable def rIxT (K : PySem.W.Frag) : R2 := fun x y H Q => ∃ p xs i v, x = .ref p ∧ y = .int i ∧ SqT K H p xs ∧ atI xs i = some v ∧ Q v H
theorem ix_list : IxR X (rIxL X.K) := by
  intro value slice pins s σ H x y v u Q I rx ry h hs
  obtain ⟨p, xs, i, z, rfl, rfl, hq, he, q⟩ := h
  cases rx
  obtain ⟨t, rfl⟩ := ry
  obtain ⟨its, r, pl, hz⟩ := I.list hq
  obtain ⟨j, h1, h2, h3, h4, h5⟩ := atI_get he
  obtain ⟨w, ew, rw'⟩ := r.get h2
  have hl := r.length
  have hn := line63
  have fin : EP X pins σ Q w s := ⟨z, H, I, rw', q⟩
  by_cases h0 : 0 ≤ i
  · have hj : i.toNat = j := by
      rw [seqIndex_of h0 h5] at h1
      exact Option.some.inj h1
    exact item_listR pl.isList h0 (by omega) (by rw [hj]; simpa using ew) fin hs
  · have hj : (i + (its.toArray.size : Int)).toNat = j := by
      rw [seqIndex_neg (by omega) h4] at h1
      rw [List.size_toArray, ← hl]
      exact Option.some.inj h1
    exact subscriptTail_builtinR (x := w) pl.isList.typeIs slot_list_getitem.lookup
      (wpAny_getItem_list_neg (Q := fun r s' => r = w ∧ EP X pins σ Q r s') pl.isList (by omega) (by rw [List.size_toArray] <;> omega) (by omega) (by rw [hj]; simpa using ew) ⟨rfl, fin⟩) hs
theorem ix_tup : IxR X (rIxT X.K) := by
  intro value slice pins s σ H x y v u Q I rx ry h hs
  obtain ⟨p, xs, i, z, rfl, rfl, hq, he, q⟩ := h
  cases rx
  obtain ⟨t, rfl⟩ := ry
  obtain ⟨its, r, pl, hz⟩ := I.tuple hq
  obtain ⟨j, h1, h2, h3, h4, h5⟩ := atI_get he
  obtain ⟨w, ew, rw'⟩ := r.get h2
  have hl := r.length
  have hn := line63
  have fin : EP X pins σ Q w s := ⟨z, H, I, rw', q⟩
  exact subscriptTail_builtinR (x := w) pl.typeIs slot_tuple_getitem.lookup
    (getItem_tuple (j := j) (Q := fun r s' => r = w ∧ EP X pins σ Q r s') pl (by omega) (by omega) (by rw [List.size_toArray, ← hl]; exact h1) (by simpa using ew) ⟨rfl, fin⟩) hs

theorem mapSeq_set (its : List Value) (n j : Nat) (u : Value) : Obj.mapSeq (·.setIfInBounds j u) { cls := .type "list", data := .seq its.toArray n } = { cls := .type "list", data := .seq (its.set j u).toArray n } := by
  simp [Obj.mapSeq]
theorem Inv.lst {pins : List (Addr × Obj)} {σ : St} {H : Hp} {s : Shared} {p : Addr} {xs : List V} (I : Inv X pins σ H s) (h : H p = some (.lst xs)) :
    ∃ (its : List Value) (n : Nat), Vals xs its ∧ s.heap.get? p = some { cls := .type "list", data := .seq its.toArray n } ∧ xs.length ≤ sizeLine := by
  obtain ⟨z, its, n, r, e⟩ := I.hok p _ h
  exact ⟨its, n, r, e, z⟩
theorem Inv.lstUpd {pins : List (Addr × Obj)} {σ : St} {H : Hp} {s : Shared} {p : Addr} {xs ys : List V} {its its' : List Value} {n n' : Nat} {f : Obj → Obj} (I : Inv X pins σ H s) (h : H p = some (.lst xs))
    (ho : s.heap.get? p = some { cls := .type "list", data := .seq its.toArray n }) (hf : f { cls := .type "list", data := .seq its.toArray n } = { cls := .type "list", data := .seq its'.toArray n' }) (r : Vals ys its') (hz : ys.length ≤ sizeLine) (t : Nat) :
    Inv X pins σ (upd H p (.lst ys)) { s with heap := s.heap.update p f, toks := t } := by
  have e : (s.heap.update p f).get? p = some { cls := .type "list", data := .seq its'.toArray n' } := by
    rw [Heap.get?_update_self f ho (by rw [hf] <;> rfl), hf]
  refine I.write (x := p) (e := p) (by rw [h]; trivial) (.inl rfl) (fun b u hb q => (Heap.get?_update_other _ _ (Ne.symm hb)).trans q) ⟨_, e⟩ ?_
  exact ⟨hz, its', n', r, e⟩
noncomputable def rSetL : V → V → V → Hp → (Hp → Prop) → Prop := fun o i v H Q => ∃ p xs k j, o = .ref p ∧ i = .int k ∧ H p = some (.lst xs) ∧ ixN xs.length k = some j ∧ Q (upd H p (.lst (xs.set j v)))
theorem set_list : PSet X rSetL := by
  intro pins s σ H o i v ov iv u Q I ro ri rv h
  obtain ⟨p, xs, k, j, rfl, rfl, hp, hj, q⟩ := h
  cases ro
  obtain ⟨t, rfl⟩ := ri
  obtain ⟨its, n, r, ho, hz⟩ := I.lst hp
  obtain ⟨h1, h2, h3, h4⟩ := ixN_seq hj
  have hl := r.length
  have hn := line63
  have I' : Inv X pins σ (upd H p (.lst (xs.set j v))) { s with heap := s.heap.update p (Obj.mapSeq (·.setIfInBounds j u)) } :=
    I.lstUpd hp ho (mapSeq_set its n j u) (r.set rv j) (by rw [List.length_set]; exact hz) s.toks
  by_cases h0 : 0 ≤ k
  · have hk : k.toNat = j := by
      rw [seqIndex_of h0 h4] at h1
      exact Option.some.inj h1
    exact PySem.W.ki_setAt ho h0 (by omega) (by rw [List.size_toArray, ← hl]; exact h4) (by rw [hk]; exact ⟨_, I', q⟩)
  · have hk : (k + (its.toArray.size : Int)).toNat = j := by
      rw [seqIndex_neg (by omega) h3] at h1
      rw [List.size_toArray, ← hl]
      exact Option.some.inj h1
    exact PySem.W.ki_setBack ho (by omega) (by rw [List.size_toArray, ← hl]; exact h3) (by omega) (by rw [hk]; exact ⟨_, I', q⟩)

theorem slice_bounds (lo hi : Option Int) (n : Nat) : (sliceBounds lo hi none n).1 = ((HT.sIx n 0 lo : Nat) : Int) ∧ (sliceBounds lo hi none n).2.1 = ((HT.sIx n n hi : Nat) : Int) ∧ (sliceBounds lo hi none n).2.2 = 1 := by
  refine ⟨?_, ?_, rfl⟩
  · cases lo with
    | none => simp [sliceBounds, HT.sIx]
    | some i =>
      simp only [sliceBounds, HT.sIx, Option.getD_none, show (1 : Int) > 0 by decide, if_true]
      by_cases h : i < 0
      · simp only [h, if_true] <;> omega
      · simp only [h, if_false] <;> omega
  · cases hi with
    | none => simp [sliceBounds, HT.sIx]
    | some i =>
      simp only [sliceBounds, HT.sIx, Option.getD_none, show (1 : Int) > 0 by decide, if_true]
      by_cases h : i < 0
      · simp only [h, if_true] <;> omega
      · simp only [h, if_false] <;> omega
theorem slicePick_cut (its : List Value) (lo hi : Option Int) : slicePick its.toArray lo hi none = ((its.drop (HT.sIx its.length 0 lo)).take (HT.sIx its.length its.length hi - HT.sIx its.length 0 lo)).toArray := by
  obtain ⟨h1, h2, h3⟩ := slice_bounds lo hi its.toArray.size
  unfold slicePick
  rw [h1, h2, h3]
  simp only [sliceRange_one, pick_run, List.size_toArray] <;> rfl
noncomputable def rSlL (K : PySem.W.Frag) : V → Option Int → Option Int → Hp → VK → Prop := fun x lo hi H Q => ∃ a xs, x = .ref a ∧ SqL K H a xs ∧ ∀ p, H p = none → Q (.ref p) (upd H p (.lst (cutV xs lo hi)))
theorem sl_list : SlR X (rSlL X.K) := by
  intro pins s σ H x v vl vu lo hi sl Q I rx hs pl pu h
  obtain ⟨a, xs, rfl, hx, q⟩ := h
  cases rx
  obtain ⟨its, r, ht, hz⟩ := I.list hx
  have hlen := r.length
  refine ⟨"list", _, slot_list_getitem.lookup, ht.isList.typeIs, ?_⟩
  refine wpAny_getItem_list_slice ht.isList hs pl pu .none (by simp) ?_ (by rw [List.size_toArray] <;> omega)
  rw [slicePick_cut, ← hlen]
  refine ⟨.ref s.heap.objs.size, _, I.laid (t' := s.toks) (o := .lst (cutV xs lo hi)) (fun b ob q => Heap.get?_push_of_some _ q) (Nat.le_refl _) ?_, rfl, q _ (I.hok.fresh (Nat.le_refl _))⟩
  exact ⟨Nat.le_trans (cutV_length xs lo hi) hz, _, 0, (r.drop (HT.sIx xs.length 0 lo)).take (HT.sIx xs.length xs.length hi - HT.sIx xs.length 0 lo), Heap.get?_push_size _ rfl⟩

noncomputable def flatV : V → Bool
  | .non => true
  | .bl _ => true
  | .int _ => true
  | .str _ => true
  | _ => false
noncomputable def eqV : V → V → Bool
  | .non, .non => true
  | .bl a, .bl b => a == b
  | .bl a, .int b => (if a then 1 else 0) == b
  | .int a, .bl b => a == (if b then 1 else 0)
  | .int a, .int b => a == b
  | .str a, .str b => a == b
  | _, _ => false
theorem eqAt_V {A : Around} {s : Shared} {y x : V} {u v : Value} (ry : RelV y u) (rx : RelV x v) (fy : flatV y = true) (fx : flatV x = true) : SeqAt.EqAt A s u v (eqV y x) := by
  cases y with
  | non =>
    cases ry
    cases x with
    | non => cases rx; exact SeqAt.EqAt.same _
    | bl b => cases rx; exact SeqAt.EqAt.none_bool b
    | int b => obtain ⟨t, rfl⟩ := rx; exact SeqAt.EqAt.none_int b t
    | str b => obtain ⟨t, rfl⟩ := rx; exact SeqAt.EqAt.none_str b t
    | _ => exact absurd (show false = true from fx) Bool.false_ne_true
  | bl a =>
    cases ry
    cases x with
    | non => cases rx; exact SeqAt.EqAt.bool_none a
    | bl b => cases rx; exact SeqAt.EqAt.bool_bool a b
    | int b => obtain ⟨t, rfl⟩ := rx; exact SeqAt.EqAt.bool_int a b t
    | str b => obtain ⟨t, rfl⟩ := rx; exact SeqAt.EqAt.bool_str a b t
    | _ => exact absurd (show false = true from fx) Bool.false_ne_true
  | int a =>
    obtain ⟨t', rfl⟩ := ry
    cases x with
    | non => cases rx; exact SeqAt.EqAt.int_none a t'
    | bl b => cases rx; exact SeqAt.EqAt.int_bool a t' b
    | int b => obtain ⟨t, rfl⟩ := rx; exact SeqAt.EqAt.int_int a t' b t
    | str b => obtain ⟨t, rfl⟩ := rx; exact SeqAt.EqAt.int_str a t' b t
    | _ => exact absurd (show false = true from fx) Bool.false_ne_true
  | str a =>
    obtain ⟨t', rfl⟩ := ry
    cases x with
    | non => cases rx; exact SeqAt.EqAt.str_none a t'
    | bl b => cases rx; exact SeqAt.EqAt.str_bool a t' b
    | int b => obtain ⟨t, rfl⟩ := rx; exact SeqAt.EqAt.str_int a t' b t
    | str b => obtain ⟨t, rfl⟩ := rx; exact SeqAt.EqAt.str_str a t' b t
    | _ => exact absurd (show false = true from fx) Bool.false_ne_true
  | _ => exact absurd (show false = true from fy) Bool.false_ne_true
noncomputable def eqU (x : V) (u : Value) : Bool := match u with
  | .none => eqV .non x
  | .bool b => eqV (.bl b) x
  | .int i _ => eqV (.int i) x
  | .str z _ => eqV (.str z) x
  | _ => false
theorem eqU_of {x y : V} {u : Value} (r : RelV y u) (f : flatV y = true) : eqU x u = eqV y x := by
  cases y with
  | non => cases r; rfl
  | bl b => cases r; rfl
  | int i => obtain ⟨t, rfl⟩ := r; rfl
  | str z => obtain ⟨t, rfl⟩ := r; rfl
  | _ => exact absurd (show false = true from f) Bool.false_ne_true
theorem any_eqU {x : V} : ∀ {xs : List V} {us : List Value}, Vals xs us → xs.all flatV = true → us.any (eqU x) = xs.any fun y => eqV y x
  | _, _, .nil, _ => rfl
  | y :: xs, u :: us, .cons r t, f => by
    rw [List.all_cons, Bool.and_eq_true] at f
    rw [List.any_cons, List.any_cons, eqU_of r f.1, any_eqU t f.2]
theorem mem_eqAt {A : Around} {s : Shared} {x : V} {v : Value} (rx : RelV x v) (fx : flatV x = true) : ∀ {xs : List V} {us : List Value}, Vals xs us → xs.all flatV = true → ∀ u ∈ us, SeqAt.EqAt A s u v (eqU x u)
  | _, _, .nil, _ => fun u hu => by cases hu
  | y :: xs, u :: us, .cons r t, f => fun u' hu => by
    rw [List.all_cons, Bool.and_eq_true] at f
    rcases List.mem_cons.mp hu with rfl | hu
    · rw [eqU_of r f.1]; exact eqAt_V r rx f.1 fx
    · exact mem_eqAt rx fx t f.2 u' hu
noncomputable def inV (x : V) (xs : List V) : Bool := xs.any fun y => eqV y x
noncomputable def rIn (K : PySem.W.Frag) (neg : Bool) : R2 := fun x y H Q => ∃ p xs, y = .ref p ∧ (SqL K H p xs ∨ SqT K H p xs) ∧ flatV x = true ∧ xs.all flatV = true ∧ Q (.bl (if neg then !inV x xs else inV x xs)) H
theorem op_in_seq : OpR X (compareOp .In) (rIn X.K false) := by
  intro pins s σ H x y v u Q I rx ry h
  obtain ⟨p, xs, rfl, hq, fx, fs, q⟩ := h
  cases ry
  rcases hq with hq | hq
  · obtain ⟨its, r, pl, hz⟩ := I.list hq
    refine SeqAt.in_listAt (eqU x) pl.isList (fun w hw => mem_eqAt rx fx r fs w (by simpa using hw)) ⟨.bl _, H, I, rfl, ?_⟩
    rw [show its.toArray.any (eqU x) = its.any (eqU x) by simp, any_eqU r fs]
    exact q
  · obtain ⟨its, r, pl, hz⟩ := I.tuple hq
    refine SeqAt.in_tupleAt (eqU x) pl (fun w hw => mem_eqAt rx fx r fs w (by simpa using hw)) ⟨.bl _, H, I, rfl, ?_⟩
    rw [show its.toArray.any (eqU x) = its.any (eqU x) by simp, any_eqU r fs]
    exact q

theorem call_len_seq : CallR X (.builtin "len") (fun xs H Q => ∃ p ys, xs = [.ref p] ∧ (SqL X.K H p ys ∨ SqT X.K H p ys) ∧ Q (.int ys.length) H) := by
  intro pins s σ H xs us Q I r h
  obtain ⟨p, ys, rfl, hq, q⟩ := h
  obtain ⟨u, rfl, rx⟩ := vals1 r
  cases rx
  have hn := line63
  rcases hq with hq | hq
  · obtain ⟨its, r', pl, hz⟩ := I.list hq
    have hlen := r'.length
    exact Calls.call_len_list pl.isList (by simp only [List.size_toArray] <;> omega) ⟨.int ys.length, H, I.tok _, ⟨s.toks + 1, by rw [List.size_toArray, hlen]⟩, q⟩
  · obtain ⟨its, r', pl, hz⟩ := I.tuple hq
    have hlen := r'.length
    exact len_tuple pl (by simp only [List.size_toArray] <;> omega) ⟨.int ys.length, H, I.tok _, ⟨s.toks + 1, by rw [List.size_toArray, hlen]⟩, q⟩
theorem call_list_of : CallR X (.type "list") (fun xs H Q => ∃ p ys, xs = [.ref p] ∧ (SqL X.K H p ys ∨ SqT X.K H p ys) ∧ ∀ l, H l = none → Q (.ref l) (upd H l (.lst ys))) := by
  intro pins s σ H xs us Q I r h
  obtain ⟨p, ys, rfl, hq, q⟩ := h
  obtain ⟨u, rfl, rx⟩ := vals1 r
  cases rx
  have fin : ∀ (its : List Value), Vals ys its → ys.length ≤ sizeLine → ∀ (h' : Heap) (c' : Nat), (∀ b o', s.heap.get? b = some o' → h'.get? b = some o') →
      h'.get? s.heap.objs.size = some { cls := .type "list", dict := none, data := .seq its.toArray c', slots := #[] } → EP X pins σ Q (.ref s.heap.objs.size) { s with heap := h' } := fun its r' hz h' c' kp e =>
    ⟨.ref s.heap.objs.size, _, I.laid (t' := s.toks) kp (Nat.le_refl _) (show ObjOk X.prog X.w _ h' _ (.lst ys) from ⟨hz, its, c', r', e⟩), rfl, q _ (I.hok.fresh (Nat.le_refl _))⟩
  rcases hq with hq | hq
  · obtain ⟨its, r', pl, hz⟩ := I.list hq
    have hlen := r'.length
    obtain ⟨o, ho, hc, n, hd⟩ := pl.isList
    exact call_list_seq p (.inl rfl) ho hc hd (fun h' c' kp e => fin its r' hz h' c' kp e) (by simp only [List.size_toArray] <;> omega)
  · obtain ⟨its, r', pl, hz⟩ := I.tuple hq
    have hlen := r'.length
    obtain ⟨o, ho, hc, n, hd⟩ := pl
    exact call_list_seq p (.inr rfl) ho hc hd (fun h' c' kp e => fin its r' hz h' c' kp e) (by simp only [List.size_toArray] <;> omega)
theorem call_tuple_of : CallR X (.type "tuple") (fun xs H Q => ∃ p ys, xs = [.ref p] ∧ ((SqL X.K H p ys ∧ ∀ l, H l = none → Q (.ref l) (upd H l (.tup ys))) ∨ (SqT X.K H p ys ∧ Q (.ref p) H))) := by
  intro pins s σ H xs us Q I r h
  obtain ⟨p, ys, rfl, h⟩ := h
  obtain ⟨u, rfl, rx⟩ := vals1 r
  cases rx
  rcases h with ⟨hq, q⟩ | ⟨hq, q⟩
  · obtain ⟨its, r', pl, hz⟩ := I.list hq
    have hlen := r'.length
    refine call_tuple_list pl.isList (fun h' kp => ?_) (by simp only [List.size_toArray] <;> omega)
    have I1 : Inv X pins σ H { s with heap := h' } := I.kept (t' := s.toks) kp
    have I2 : Inv X pins σ (upd H h'.objs.size (.tup ys)) { s with heap := h'.push { cls := .type "tuple", data := .seq its.toArray } } :=
      I1.laid (t' := s.toks) (fun b o e => Heap.get?_push_of_some _ e) (Nat.le_refl _) (show ObjOk X.prog X.w _ _ _ (.tup ys) from ⟨hz, its, r', IsTupN.new _ _⟩)
    exact ⟨.ref h'.objs.size, _, I2, rfl, q _ (I1.hok.fresh (Nat.le_refl _))⟩
  · obtain ⟨its, r', pl, hz⟩ := I.tuple hq
    exact call_tuple_same pl ⟨.ref p, H, I, rfl, q⟩

noncomputable def tyV (K : PySem.W.Frag) (T : String) (x : V) (H : Hp) : Prop := match x with
  | .str _ => T = "str"
  | .int _ => T = "int"
  | .ref p => (T = "list" ∧ ∃ xs, SqL K H p xs) ∨ (T = "tuple" ∧ ∃ o, K.lookup p = some o ∧ o.cls = .type "tuple" ∧ o.dict = none) ∨
      (T = "dict" ∧ ((∃ kvs, H p = some (.dK kvs)) ∨ ∃ kvs, H p = some (.dT kvs))) ∨ (T = "set" ∧ ∃ S n, H p = some (.set S n)) ∨ (T = "tuple" ∧ ∃ xs, H p = some (.tup xs))
  | _ => False
theorem tyV_is {pins : List (Addr × Obj)} {σ : St} {H : Hp} {s : Shared} {T : String} {x : V} {v : Value} (I : Inv X pins σ H s) (r : RelV x v) (ty : tyV X.K T x H) :
    s.TypeIs v T ∧ ∀ a, v = .ref a → ∃ ob, s.heap.get? a = some ob ∧ ob.dict = none := by
  cases x with
  | str z =>
    obtain ⟨t, rfl⟩ := r
    cases (show T = "str" from ty)
    exact ⟨typeIs_str s z t, fun _ e => nomatch e⟩
  | int i =>
    obtain ⟨t, rfl⟩ := r
    cases (show T = "int" from ty)
    exact ⟨typeIs_int s i t, fun _ e => nomatch e⟩
  | ref p =>
    cases r
    rcases ty with ⟨rfl, xs, hq⟩ | ⟨rfl, o, hk, hc, hd⟩ | ⟨rfl, hk⟩ | ⟨rfl, S, n, hk⟩ | ⟨rfl, xs, hk⟩
    · obtain ⟨its, _, pl, _⟩ := I.list hq
      refine ⟨pl.isList.typeIs, fun a e => ?_⟩
      cases e
      obtain ⟨o, n, e, c, hd, _⟩ := pl
      exact ⟨o, e, hd⟩
    · refine ⟨⟨o, I.kIn p o hk, hc⟩, fun a e => ?_⟩
      cases e
      exact ⟨o, I.kIn _ o hk, hd⟩
    · have z : ∃ o, s.heap.get? p = some o ∧ o.ExactDict := by
        rcases hk with ⟨kvs, hk⟩ | ⟨kvs, hk⟩
        · obtain ⟨_, _, _, _, o, _, _, e, ex, _⟩ := I.hok p _ hk
          exact ⟨o, e, ex⟩
        · obtain ⟨_, _, _, _, o, _, _, e, ex, _⟩ := I.hok p _ hk
          exact ⟨o, e, ex⟩
      obtain ⟨o, e, ex⟩ := z
      refine ⟨⟨o, e, ex.1⟩, fun a e2 => ?_⟩
      cases e2
      exact ⟨o, e, ex.2.1⟩
    · obtain ⟨o, _, _, _, e, ex, _⟩ := I.hok p _ hk
      refine ⟨⟨o, e, ex.1⟩, fun a e2 => ?_⟩
      cases e2
      exact ⟨o, e, ex.2.1⟩
    · obtain ⟨_, its, _, o, h1, h2, n, _, h3⟩ := I.hok p _ hk
      refine ⟨⟨o, h1, h2⟩, fun a e2 => ?_⟩
      cases e2
      exact ⟨o, h1, h3⟩
  | _ => exact False.elim ty
noncomputable def tBM (K : PySem.W.Frag) (T : String) (r : V → List V → Hp → VK → Prop) (to : TE) (t : TA) : TE := fun σ H Q => to σ H fun x H1 => tyV K T x H1 ∧ t σ H1 fun xs H2 => r x xs H2 Q
variable {o e : Expr} {es : List Expr} {to : TE} {t : TA} {name : Str} {apos cpos : Pos} {T id : String} {r : V → List V → Hp → VK → Prop}
theorem pe_bm (pa : PlainAttrs T) (slot : Slot T name id) (hty : typeOf (.builtin id) = pure (.type "method_descriptor")) (hm : MtR X id r) (ho : PE X o to) (ha : PA X (e :: es) t)
    (hbase : attributeBase o name X.env (eval o X.env) = eval o X.env := by rfl)
    (hfew : ((backTo cpos (starEach (e :: es) X.env)).all (fun x => !x.1) && (backToKw cpos (keywordEach [] X.env)).all (fun x => x.1.isSome)
      && decide ((e :: es).length + ([] : List Keyword).length + (if ([] : List Keyword).isEmpty then 0 else 1) < 30)) = true := by rfl)
    (hline : (apos.endLine == cpos.line) = true := by rfl) (hs : starEach (e :: es) X.env = (false, eval e X.env) :: starEach es X.env := by rfl) (hplain : (backTo cpos (starEach es X.env)).any (·.1) = false := by rfl) :
    PE X (.Call (.Attribute o name apos) (e :: es) [] cpos) (tBM X.K T r to t) := by
  intro pins s σ H Q I h
  refine wpAny_Call_method_late hbase hfew hline rfl (thn (ho pins s σ H _ I h) fun v s1 hZq0 => ?_)
  obtain ⟨x, H1, I1, r1, ty, q1⟩ := hZq0
  obtain ⟨h1, h2⟩ := tyV_is I1 r1 ty
  refine ⟨T, id, pa, slot, hty, h1, h2, ?_⟩
  have hA := ha cpos pins s1 σ H1 _ I1 q1
  rw [hs] at hA ⊢
  refine Calls.callWith_builtin (by show (false || (backTo cpos (starEach es X.env)).any (·.1)) = false; rw [hplain] <;> rfl) (Calls.evalArgs_plain ?_)
  exact thn hA fun us s2 ⟨vs, H2, I2, r2, q2⟩ => hm pins s2 σ H2 x vs v us Q I2 r1 r2 q2
/- xs.append(e), list.index on a module's tuple .. are MtR facts of 06m -/
end
end L2

namespace L2
open PySem PySem.Spec PyProof.Rows

noncomputable def MtM (X : Cx) (id : String) (r : V → List V → Hp → VK → Prop) : Prop :=
  ∀ (pins : List (Addr × Obj)) (s : Shared) (σ : St) (H : Hp) (x : V) (xs : List V) (v : Value) (us : List Value) (Q : VK), Inv X pins σ H s → RelV x v → Vals xs us → r x xs H Q →
    wpAny (model X.prog X.w) X.A (call (.builtin id) (v :: us)) (EP X pins σ Q) X.xe s

theorem Vals.one : ∀ {x : V} {us : List Value}, Vals [x] us → ∃ u, us = [u] ∧ RelV x u
  | _, _, .cons r .nil => ⟨_, rfl, r⟩

section
variable {X : Cx} {pins : List (Addr × Obj)} {σ : St} {H : Hp} {s : Shared} {l b : Addr} {xs ys zs : List V}

theorem Inv.lset {its its' : List Value} {n : Nat} {f : Array Value → Array Value} {t' : Nat} (I : Inv X pins σ H s) (hH : H l = some (.lst xs))
    (e : s.heap.get? l = some { cls := .type "list", data := .seq its.toArray n }) (hf : f its.toArray = its'.toArray) (hv : Vals ys its') (hz : ys.length ≤ sizeLine) :
    Inv X pins σ (upd H l (.lst ys)) { s with heap := s.heap.update l (Obj.mapSeq f), toks := t' } := by
  have q := PySem.IsL.update e f
  rw [hf] at q
  refine I.write (x := l) (e := l) (by rw [hH]; exact trivial) (.inl rfl) (fun b' u hb hu => (Heap.get?_update_other s.heap (Obj.mapSeq f) (Ne.symm hb)).trans hu) ⟨_, q⟩ ?_
  exact ⟨hz, its', _, hv, q⟩
theorem Inv.lnew {its : List Value} {t' : Nat} (I : Inv X pins σ H s) (hv : Vals ys its) (hz : ys.length ≤ sizeLine) :
    Inv X pins σ (upd H s.heap.objs.size (.lst ys)) { s with heap := s.heap.push { cls := .type "list", data := .seq its.toArray }, toks := t' } :=
  I.laid (fun _ _ q => Heap.get?_push_of_some _ q) (Nat.le_refl _) ⟨hz, its, 0, hv, Heap.get?_push_size _ rfl⟩
theorem Inv.fresh (I : Inv X pins σ H s) : H s.heap.objs.size = none := I.hok.fresh (Nat.le_refl _)
theorem Inv.lstM (I : Inv X pins σ H s) (hH : H l = some (.lst xs)) : xs.length ≤ sizeLine ∧ ∃ (its : List Value) (n : Nat), Vals xs its ∧ xs.length = its.length ∧ s.heap.get? l = some { cls := .type "list", data := .seq its.toArray n } := by
  obtain ⟨z, its, n, r, e⟩ := I.hok l _ hH
  exact ⟨z, its, n, r, r.length, e⟩

theorem notLongL {n : Nat} (h : n ≤ sizeLine) : Builtin.List.listTooLong n = false := by
  unfold Builtin.List.listTooLong
  exact decide_eq_false (by omega)
end

section
variable {X : Cx}

noncomputable def rAppend : V → List V → Hp → VK → Prop := fun x vs H Q => ∃ l xs y, x = .ref l ∧ vs = [y] ∧ H l = some (.lst xs) ∧ xs.length < sizeLine ∧ Q .non (upd H l (.lst (xs ++ [y])))
theorem mt_append : MtM X "list.append" rAppend := by
  intro pins s σ H x vs v us Q I rx rv h
  obtain ⟨l, xs, y, rfl, rfl, hH, hz, q⟩ := h
  cases rx
  obtain ⟨u, rfl, ru⟩ := rv.one
  obtain ⟨z, its, n, r, hl, e⟩ := I.lstM hH
  refine call_meets F.slot_list_append ⟨_, e, rfl⟩ F.entry_list_append (F.args_list_append_2 _ _) (PySem.list_append l its.toArray n u (by rw [List.size_toArray]; omega)) ⟨e, ?_⟩
  refine ⟨.non, _, I.lset (its' := its ++ [u]) hH e (by simp) (r.append (.cons ru .nil)) ?_, rfl, q⟩
  rw [List.length_append, List.length_singleton]
  omega

noncomputable def rExtend : V → List V → Hp → VK → Prop := fun x vs H Q => ∃ l b xs zs, x = .ref l ∧ vs = [.ref b] ∧ H l = some (.lst xs) ∧ H b = some (.lst zs) ∧ xs.length + zs.length ≤ sizeLine ∧ Q .non (upd H l (.lst (xs ++ zs)))
theorem mt_extend : MtM X "list.extend" rExtend := by
  intro pins s σ H x vs v us Q I rx rv h
  obtain ⟨l, b, xs, zs, rfl, rfl, hH, hB, hz, q⟩ := h
  cases rx
  obtain ⟨u, rfl, ru⟩ := rv.one
  cases ru
  obtain ⟨z, its, n, r, hl, e⟩ := I.lstM hH
  obtain ⟨z2, its2, n2, r2, hl2, e2⟩ := I.lstM hB
  have hsz : its.toArray.size + its2.toArray.size ≤ sizeLine := by rw [List.size_toArray, List.size_toArray]; omega
  have hlong : ¬ (!its.toArray.isEmpty && Builtin.List.listTooLong (its.toArray.size + its2.toArray.size)) = true := by
    rw [notLongL hsz, Bool.and_false]
    exact Bool.false_ne_true
  refine call_meets F.slot_list_extend ⟨_, e, rfl⟩ F.entry_list_extend (F.args_list_extend_2 _ _)
    (AutoSeq1.list_extend_list_list_0 l its.toArray n b its2.toArray n2 hlong (by rw [List.size_toArray]; omega) (by omega)) ⟨e, e2, ?_⟩
  refine ⟨.non, _, I.lset (its' := its ++ its2) hH e (by simp) (r.append r2) ?_, rfl, q⟩
  rw [List.length_append]
  omega

noncomputable def rCat : R2 := fun x y H Q => ∃ l b xs zs, x = .ref l ∧ y = .ref b ∧ H l = some (.lst xs) ∧ H b = some (.lst zs) ∧ xs.length + zs.length ≤ sizeLine ∧ ∀ p, H p = none → Q (.ref p) (upd H p (.lst (xs ++ zs)))
theorem op_cat : OpR X (binaryOp .Add) rCat := by
  intro pins s σ H x y v u Q I rx ry h
  obtain ⟨l, b, xs, zs, rfl, rfl, hH, hB, hz, q⟩ := h
  cases rx
  cases ry
  obtain ⟨z, its, n, r, hl, e⟩ := I.lstM hH
  obtain ⟨z2, its2, n2, r2, hl2, e2⟩ := I.lstM hB
  refine PySem.P.add_list e e2 ?_ (by rw [List.size_toArray, List.size_toArray]; omega)
  have ea : its.toArray ++ its2.toArray = (its ++ its2).toArray := by simp
  rw [ea]
  exact ⟨.ref _, _, I.lnew (t' := s.toks) (r.append r2) (by rw [List.length_append]; omega), rfl, q _ I.fresh⟩

end

section
variable {prog : Program} {w : World} {A : Around} {E : Value → Shared → Prop} {s : Shared}
set_option maxRecDepth 100000 in
end

section
variable {X : Cx}
end
end L2

namespace L2
open PySem PySem.Spec PyProof.Rows

theorem Vals.ints : ∀ {ns : List Int} {us : List Value}, Vals (ns.map V.int) us → IntsAre us ns
  | [], us, h => by
    rw [List.map_nil] at h
    cases h
    exact IntsAre.nil
  | n :: ns, us, h => by
    rw [List.map_cons] at h
    cases h with
    | cons r t =>
      obtain ⟨k, rfl⟩ := r
      exact IntsAre.cons n k (Vals.ints t)
theorem Vals.bls : ∀ {bs : List Bool} {us : List Value}, Vals (bs.map V.bl) us → us = bs.map Value.bool
  | [], us, h => by
    rw [List.map_nil] at h
    cases h
    rfl
  | b :: bs, us, h => by
    rw [List.map_cons] at h
    cases h with
    | cons r t =>
      cases r
      rw [Vals.bls t, List.map_cons]
theorem Vals.ref1 {a : Addr} {us : List Value} (r : Vals [V.ref a] us) : us = [Value.ref a] := by
  cases r with
  | cons r t =>
    cases t
    cases r
    rfl

section
variable {prog : Program} {w : World} {A : Around} {E : Value → Shared → Prop} {s : Shared} {l : Addr} {its : List Value} {ns : List Int} {Q : Value → Shared → Prop}
theorem sum_raw (hh : A.handled = none) (hl : s.heap.IsList l its.toArray) (hi : IntsAre its ns)
    (h : ∀ h' tk t', (∀ b o, s.heap.get? b = some o → h'.get? b = some o) → Q (.int ns.sum t') { s with heap := h', toks := tk }) : wpAny (model prog w) A (call (.builtin "sum") [.ref l]) Q E s := by
  obtain ⟨xs, e⟩ := hi.allInts.items
  have hn : numsOf (intItems xs).toList = ns := by rw [← e]; exact hi.numsOf
  rw [nums_intItems] at hn
  rw [e] at hl
  refine PySem.sum_intListG hh hl fun h' tk t' hk => ?_
  have := h h' tk t' hk
  rw [preSum_eq, List.take_of_length_le (by simp), hn]; exact this
end

section
variable {X : Cx}
noncomputable def rSum (K : PySem.W.Frag) : List V → Hp → VK → Prop := fun vs H Q => ∃ (a : Addr) (ns : List Int), vs = [V.ref a] ∧ SqL K H a (ns.map V.int) ∧ Q (.int ns.sum) H
theorem cr_sum (hc : X.calm = true) : CallR X (.builtin "sum") (rSum X.K) := by
  intro pins s σ H vs us Q I r h
  obtain ⟨a, ns, rfl, hs, q⟩ := h
  obtain ⟨its, rv, hl, _⟩ := I.list hs
  rw [Vals.ref1 r]
  exact sum_raw (I.ok.hd hc) hl.isList rv.ints fun h' tk t' hk => ⟨.int _, H, I.kept hk, ⟨_, rfl⟩, q⟩

end

section
variable {X : Cx}
end

section
variable {X : Cx}
end

theorem iter_any {prog : Program} {w : World} {A : Around} {E : Value → Shared → Prop} {s : Shared} {l : Addr} {items : Array Value} {Q : Value → Shared → Prop} (hl : s.heap.IsList l items)
    (h : ∀ s₂ : Shared, s₂ = { s with heap := s.heap.push { cls := .type "list_iterator", data := .fields #[.ref l, .int 0 0] } } →
      (s₂.heap.IsListIter s.heap.objs.size l 0 ∧ s₂.heap.IsList l items) → l ≠ s.heap.objs.size → Q (.ref s.heap.objs.size) s₂) : wpAny (model prog w) A (pyIter (.ref l)) Q E s := by
  have hlt : l < s.heap.objs.size := by obtain ⟨_, e, _⟩ := hl; exact Heap.lt_size e
  exact wpAny_pyIter_list hl (h _ rfl ⟨⟨_, Heap.get?_push_size _ rfl, rfl, rfl⟩, hl.push _⟩ (Nat.ne_of_lt hlt))
theorem truth_bools {prog : Program} {w : World} {A : Around} {bs : List Bool} {its : List Value} (e : its = bs.map Value.bool) :
    TruthOf prog w A (fun i v => its.toArray[i]? = some v) (fun i => bs.getD i false) := fun i v s Q E hv hq => by
  have hv' : its[i]? = some v := by simpa using hv
  rw [e, List.getElem?_map] at hv'
  obtain ⟨b, hb, rfl⟩ := Option.map_eq_some_iff.mp hv'
  have hg : bs.getD i false = b := by rw [List.getD_eq_getElem?_getD, hb] <;> rfl
  have hq' : Q (bs.getD i false) s := hq
  rw [hg] at hq'
  exact wpAny_truthy_bool hq'
theorem any_range : ∀ bs : List Bool, (List.range bs.length).any (fun i => bs.getD i false) = bs.any id
  | [] => rfl
  | b :: bs => by
    rw [List.length_cons, List.range_succ_eq_map, List.any_cons, List.any_map, List.any_cons, ← any_range bs]
    all_goals rfl
theorem all_range : ∀ bs : List Bool, (List.range bs.length).all (fun i => bs.getD i false) = bs.all id
  | [] => rfl
  | b :: bs => by
    rw [List.length_cons, List.range_succ_eq_map, List.all_cons, List.all_map, List.all_cons, ← all_range bs]
    all_goals rfl
section
variable {X : Cx}
noncomputable def rAny (K : PySem.W.Frag) : List V → Hp → VK → Prop := fun vs H Q => ∃ (a : Addr) (bs : List Bool), vs = [V.ref a] ∧ SqL K H a (bs.map V.bl) ∧ Q (.bl (bs.any id)) H
noncomputable def rAll (K : PySem.W.Frag) : List V → Hp → VK → Prop := fun vs H Q => ∃ (a : Addr) (bs : List Bool), vs = [V.ref a] ∧ SqL K H a (bs.map V.bl) ∧ Q (.bl (bs.all id)) H
theorem cr_any (hc : X.calm = true) : CallR X (.builtin "any") (rAny X.K) := by
  intro pins s σ H vs us Q I r h
  obtain ⟨a, bs, rfl, hs, q⟩ := h
  obtain ⟨its, rv, hl, _⟩ := I.list hs
  rw [Vals.ref1 r]
  have hb := rv.bls
  refine call_any_walk (iter_any hl.isList fun s₂ e2 st hne => ?_)
  subst e2
  refine ⟨_, _, _, _, _, _, _, rfl, Walks.list (A := X.A.in1) (I.ok.hd hc) _ a hne its.toArray, st, truth_bools hb, fun h' tk hk => ?_⟩
  refine ⟨.bl _, H, I.kept fun b o eo => hk b o (fun hmem => ?_) (Heap.get?_push_of_some _ eo), ?_, q⟩
  · rcases List.mem_cons.mp hmem with e1 | hmem
    · exact absurd (e1 ▸ Heap.lt_size eo) (Nat.lt_irrefl _)
    · cases hmem
  · show Value.bool _ = Value.bool _
    rw [← any_range, hb, List.size_toArray, List.length_map]
theorem cr_all (hc : X.calm = true) : CallR X (.builtin "all") (rAll X.K) := by
  intro pins s σ H vs us Q I r h
  obtain ⟨a, bs, rfl, hs, q⟩ := h
  obtain ⟨its, rv, hl, _⟩ := I.list hs
  rw [Vals.ref1 r]
  have hb := rv.bls
  refine call_all_walk (iter_any hl.isList fun s₂ e2 st hne => ?_)
  subst e2
  refine ⟨_, _, _, _, _, _, _, rfl, Walks.list (A := X.A.in1) (I.ok.hd hc) _ a hne its.toArray, st, truth_bools hb, fun h' tk hk => ?_⟩
  refine ⟨.bl _, H, I.kept fun b o eo => hk b o (fun hmem => ?_) (Heap.get?_push_of_some _ eo), ?_, q⟩
  · rcases List.mem_cons.mp hmem with e1 | hmem
    · exact absurd (e1 ▸ Heap.lt_size eo) (Nat.lt_irrefl _)
    · cases hmem
  · show Value.bool _ = Value.bool _
    rw [← all_range, hb, List.size_toArray, List.length_map]
end

section
variable {X : Cx} {pins : List (Addr × Obj)} {σ : St} {H : Hp} {s : Shared}
end
section
variable {X : Cx}
end
end L2

namespace L2
open PySem PySem.Spec PyProof.Rows
noncomputable abbrev CellAt (h : Heap) (c : Addr) (v : Option Value) : Prop := h.IsCell c v
noncomputable def relS (scope sc : Scope) : Scope :=
  { scope with names := scope.names.map fun (n, k) => if (k == .free && sc.kind == .function && sc.names.lookup n == some .cell) then (n, .cell) else (n, k) }

noncomputable def cloFrom (cells : List (Str × Addr)) : List (Str × NameKind) → List (Str × Addr) → List (Str × Addr)
  | [], acc => acc
  | (n, k) :: r, acc => if k == .free then cloFrom cells r ((n, (cells.lookup n).getD 0) :: acc) else cloFrom cells r acc

theorem closure_loop (env : Env) (f : Str × NameKind → List (Str × Addr) → Sem (ForInStep (List (Str × Addr))))
    (hf : ∀ n k c, f (n, k) c = if k == .free then (do let a ← cellOf env n; pure (.yield ((n, a) :: c))) else pure (.yield c)) :
    ∀ (names : List (Str × NameKind)) (acc : List (Str × Addr)), (∀ y ∈ names, y.2 = .free → ∃ c, env.cells.lookup y.1 = some c) → forIn names acc f = pure (cloFrom env.cells names acc)
  | [], acc, _ => by rw [List.forIn_nil]; rfl
  | (n, k) :: r, acc, h => by
    rw [List.forIn_cons, hf]
    have ih := fun acc => closure_loop env f hf r acc fun y hy => h y (List.mem_cons_of_mem _ hy)
    unfold cloFrom
    by_cases hk : (k == NameKind.free) = true
    · rw [if_pos hk, if_pos hk]
      obtain ⟨c, hc⟩ := h (n, k) List.mem_cons_self (by simpa using hk)
      have e : cellOf env n = pure c := by unfold cellOf; rw [hc]
      rw [e]
      have e2 : (env.cells.lookup n).getD 0 = c := by rw [hc]; rfl
      rw [e2]
      exact ih _
    · rw [if_neg hk, if_neg hk]
      exact ih _
theorem closure_ok {scope : Scope} {env : Env} (h : ∀ y ∈ scope.names, y.2 = .free → ∃ c, env.cells.lookup y.1 = some c) : closureFor scope env = pure (cloFrom env.cells scope.names []) := by
  simp only [closureFor]
  rw [closure_loop env _ (fun n k c => rfl) scope.names [] h]
  rfl

theorem mem_lookup {α : Type} : ∀ {l : List (Str × α)} {n : Str} {c : α}, (n, c) ∈ l → ∃ c', l.lookup n = some c'
  | (k, v) :: r, n, c, h => by
    rw [List.lookup_cons]
    cases hb : n == k with
    | true => exact ⟨_, rfl⟩
    | false =>
      rcases List.mem_cons.mp h with e | h
      · cases e; simp at hb
      · exact mem_lookup h

theorem cloFrom_mem {cells : List (Str × Addr)} : ∀ {names : List (Str × NameKind)} {acc : List (Str × Addr)} {n : Str} {c : Addr}, (n, c) ∈ cloFrom cells names acc → (n, c) ∈ acc ∨ ((n, .free) ∈ names ∧ c = (cells.lookup n).getD 0)
  | [], _, _, _, h => .inl h
  | (m, k) :: r, acc, n, c, h => by
    unfold cloFrom at h
    split at h
    · rename_i hk
      have hk : k = .free := by simpa using hk
      rcases cloFrom_mem h with h | ⟨h1, h2⟩
      · rcases List.mem_cons.mp h with e | h
        · cases e; exact .inr ⟨hk ▸ List.mem_cons_self, rfl⟩
        · exact .inl h
      · exact .inr ⟨List.mem_cons_of_mem _ h1, h2⟩
    · rcases cloFrom_mem h with h | ⟨h1, h2⟩
      · exact .inl h
      · exact .inr ⟨List.mem_cons_of_mem _ h1, h2⟩
theorem cloFrom_acc {cells : List (Str × Addr)} : ∀ {names : List (Str × NameKind)} {acc : List (Str × Addr)} {p : Str × Addr}, p ∈ acc → p ∈ cloFrom cells names acc
  | [], _, _, h => h
  | (m, k) :: r, acc, p, h => by
    unfold cloFrom
    split
    · exact cloFrom_acc (List.mem_cons_of_mem _ h)
    · exact cloFrom_acc h
theorem cloFrom_has {cells : List (Str × Addr)} : ∀ {names : List (Str × NameKind)} {acc : List (Str × Addr)} {n : Str}, (n, .free) ∈ names → (n, (cells.lookup n).getD 0) ∈ cloFrom cells names acc
  | (m, k) :: r, acc, n, h => by
    unfold cloFrom
    rcases List.mem_cons.mp h with e | h
    · cases e
      exact cloFrom_acc List.mem_cons_self
    · split
      · exact cloFrom_has h
      · exact cloFrom_has h

theorem cells_mem : ∀ {names : List (Str × NameKind)} {h : Heap} {acc : List (Str × Addr)} {x : Str} {c : Addr}, (x, c) ∈ cellsFrom h.objs.size names acc →
    (x, c) ∈ acc ∨ ((x, .cell) ∈ names ∧ h.objs.size ≤ c ∧ CellAt (pushCells h names) c none)
  | [], _, _, _, _, h => .inl h
  | (n, k) :: r, h, acc, x, c, hm => by
    unfold cellsFrom at hm
    unfold pushCells
    split at hm
    · rename_i hk
      rw [if_pos hk]
      have hk : k = .cell := by simpa using hk
      rw [← Heap.size_push h { cls := .type "cell", data := .cell none }] at hm
      rcases cells_mem hm with hm | ⟨h1, h2, h3⟩
      · rcases List.mem_cons.mp hm with e | hm
        · cases e
          exact .inr ⟨hk ▸ List.mem_cons_self, Nat.le_refl _, _, pushCells_keeps r _ _ _ (Heap.get?_push_size _ rfl), rfl⟩
        · exact .inl hm
      · rw [Heap.size_push] at h2
        exact .inr ⟨List.mem_cons_of_mem _ h1, Nat.le_of_succ_le h2, h3⟩
    · rename_i hk
      rw [if_neg hk]
      rcases cells_mem hm with hm | ⟨h1, h2, h3⟩
      · exact .inl hm
      · exact .inr ⟨List.mem_cons_of_mem _ h1, h2, h3⟩
theorem cells_acc : ∀ {names : List (Str × NameKind)} {n : Nat} {acc : List (Str × Addr)} {p : Str × Addr}, p ∈ acc → p ∈ cellsFrom n names acc
  | [], _, _, _, h => h
  | (m, k) :: r, n, acc, p, h => by
    unfold cellsFrom
    split
    · exact cells_acc (List.mem_cons_of_mem _ h)
    · exact cells_acc h
theorem cells_has : ∀ {names : List (Str × NameKind)} {n : Nat} {acc : List (Str × Addr)} {x : Str}, (x, .cell) ∈ names → ∃ c, (x, c) ∈ cellsFrom n names acc
  | (m, k) :: r, n, acc, x, h => by
    unfold cellsFrom
    rcases List.mem_cons.mp h with e | h
    · cases e
      exact ⟨n, cells_acc List.mem_cons_self⟩
    · split
      · exact cells_has h
      · exact cells_has h
theorem cells_inj : ∀ {names : List (Str × NameKind)} {h : Heap} {acc : List (Str × Addr)} {x y : Str} {c : Addr}, (∀ p ∈ acc, p.2 < h.objs.size) → (∀ x y c, (x, c) ∈ acc → (y, c) ∈ acc → x = y) →
    (x, c) ∈ cellsFrom h.objs.size names acc → (y, c) ∈ cellsFrom h.objs.size names acc → x = y
  | [], _, _, _, _, _, _, hi, h1, h2 => hi _ _ _ h1 h2
  | (n, k) :: r, h, acc, x, y, c, hl, hi, h1, h2 => by
    unfold cellsFrom at h1 h2
    split at h1
    · rename_i hk
      rw [if_pos hk] at h2
      rw [← Heap.size_push h { cls := .type "cell", data := .cell none }] at h1 h2
      refine cells_inj (h := h.push _) (fun p hp => ?_) (fun x y c a b => ?_) h1 h2
      · rw [Heap.size_push]
        rcases List.mem_cons.mp hp with rfl | hp
        · exact Nat.lt_succ_self _
        · exact Nat.lt_succ_of_lt (hl p hp)
      · rcases List.mem_cons.mp a with e | a <;> rcases List.mem_cons.mp b with e' | b
        · cases e; cases e'; rfl
        · cases e; exact absurd (hl _ b) (Nat.lt_irrefl _)
        · cases e'; exact absurd (hl _ a) (Nat.lt_irrefl _)
        · exact hi _ _ _ a b
    · rename_i hk
      rw [if_neg hk] at h2
      exact cells_inj hl hi h1 h2

theorem newEnv_comp {M : Model} {A : Around} {E : Value → Shared → Prop} {s : Shared} {scope : Scope} {globals : Addr} {closure : List (Str × Addr)} {qual : Str} {func : Option Addr} {code : Value} {around : Env} {builtins : Addr} {Q : Env → Shared → Prop}
    (h : Q (newEnv scope s.heap.objs.size globals (cellsFrom (s.heap.objs.size + 1) scope.names closure) qual func code (some around) builtins)
      { s with heap := pushCells (s.heap.push { cls := .type "dict", data := .dict #[] }) scope.names }) :
    wpAny M A (newFunctionEnv scope globals closure [] qual func code (some around) builtins) Q E s := by
  simp only [newFunctionEnv, Option.isSome_some, if_true]
  refine wpAny_bind (wpAny_alloc ?_)
  refine wpAny_bind (wpAny_layCells _ (fun n k c => rfl) scope.names closure _ _ ?_)
  rw [show ({ s with heap := s.heap.push { cls := .type "dict", data := .dict #[] } } : Shared).heap.objs.size = s.heap.objs.size + 1 from Heap.size_push ..]
  rw [List.forIn_nil]
  exact wpAny_bind (wpAny_pure (wpAny_pure h))

theorem lookup_relS {sc : Scope} : ∀ {names : List (Str × NameKind)} {x : Str} {k : NameKind},
    (names.map fun (n, k) => if (k == NameKind.free && sc.kind == .function && sc.names.lookup n == some .cell) then (n, NameKind.cell) else (n, k)).lookup x = some k →
    ∃ k', names.lookup x = some k' ∧ (k = k' ∨ (k' = .free ∧ k = .cell))
  | [], _, _, h => by simp at h
  | (n, k₀) :: r, x, k, h => by
    have ih := @lookup_relS sc r x k
    have h' : List.lookup x ((if (k₀ == NameKind.free && sc.kind == .function && sc.names.lookup n == some .cell) = true then (n, NameKind.cell) else (n, k₀)) :: (r.map _)) = some k := h
    cases hx : x == n with
    | true =>
      simp only [List.lookup_cons, hx]
      by_cases hc : (k₀ == NameKind.free && sc.kind == .function && sc.names.lookup n == some .cell) = true
      · rw [if_pos hc] at h'
        simp only [List.lookup_cons, hx] at h'
        cases h'
        simp only [Bool.and_eq_true, beq_iff_eq] at hc
        exact ⟨k₀, rfl, .inr ⟨hc.1.1, rfl⟩⟩
      · rw [if_neg hc] at h'
        simp only [List.lookup_cons, hx] at h'
        cases h'
        exact ⟨_, rfl, .inl rfl⟩
    | false =>
      simp only [List.lookup_cons, hx]
      by_cases hc : (k₀ == NameKind.free && sc.kind == .function && sc.names.lookup n == some .cell) = true
      · rw [if_pos hc] at h'
        simp only [List.lookup_cons, hx] at h'
        exact ih h'
      · rw [if_neg hc] at h'
        simp only [List.lookup_cons, hx] at h'
        exact ih h'

structure BlkOk (N : List Str) (sc scope : Scope) (own : List (Str × Nat)) : Prop where
  kind : scope.kind = .function
  uniq : ∀ y ∈ scope.names, scope.names.lookup y.1 = some y.2
  ix : ∀ p ∈ own, N[p.2]? = some p.1
  free : ∀ y ∈ scope.names, y.2 = .free → sc.names.lookup y.1 = some .cell ∨ sc.names.lookup y.1 = some .free
  own : ∀ y ∈ scope.names, y.2 = .local ∨ y.2 = .cell → y.1 ∈ own.map (·.1) ∨ y.1 ∉ N
noncomputable def wipe (σ : St) : List Nat → St
  | [] => σ
  | v :: vs => (wipe σ vs).set v none
theorem wipe_length (σ : St) : ∀ vs : List Nat, (wipe σ vs).length = σ.length
  | [] => rfl
  | v :: vs => by unfold wipe; rw [List.length_set, wipe_length σ vs]
theorem wipe_some {σ : St} {i : Nat} {x : V} : ∀ {vs : List Nat}, (wipe σ vs)[i]? = some (some x) → σ[i]? = some (some x) ∧ i ∉ vs
  | [], h => ⟨h, by simp⟩
  | v :: vs, h => by
    unfold wipe at h
    by_cases hi : v = i
    · subst hi
      by_cases hv : v < (wipe σ vs).length
      · rw [List.getElem?_set_self hv] at h; cases h
      · rw [List.getElem?_eq_none (by simpa using hv)] at h; cases h
    · rw [List.getElem?_set_ne hi] at h
      obtain ⟨h1, h2⟩ := wipe_some h
      exact ⟨h1, by simp only [List.mem_cons, not_or]; exact ⟨fun e => hi e.symm, h2⟩⟩

noncomputable abbrev Cx.blk (X : Cx) (s : Shared) (H : Hp) (scope : Scope) (cenv : Env) (fp : List Addr) : Cx := { X with s_0 := s, H_0 := H, env := cenv, outer := X.stack, ex := fp, fn := fun x => scope.names.lookup x == some .cell, pn := [], xe := fun _ _ => False }
section
variable {X : Cx} {pins : List (Addr × Obj)} {σ : St} {H : Hp} {s : Shared}
theorem block_start {scope : Scope} {own : List (Str × Nat)} {fp : List Addr} (I : Inv X pins σ H s) (ok : BlkOk X.N X.env.scope scope own) (hN : X.N.Nodup) (hfp : ∀ b ∈ fp, FpOk X pins H b ∧ b < s.heap.objs.size) :
    Inv (X.blk s H scope (compEnvC scope (cellsFrom (s.heap.objs.size + 1) scope.names (cloFrom X.env.cells scope.names [])) s.heap.objs.size X.env) fp) [] (wipe σ (own.map (·.2))) H { s with heap := pushCells (s.heap.push { cls := .type "dict", data := .dict #[] }) scope.names } := by
  have hfree : ∀ y ∈ scope.names, y.2 = .free → ∃ c, X.env.cells.lookup y.1 = some c := fun y hy e => by
    rcases ok.free y hy e with k | k
    · exact I.ok.has _ (.inl k)
    · exact I.ok.has _ (.inr k)
  generalize hcenv : compEnvC scope (cellsFrom (s.heap.objs.size + 1) scope.names (cloFrom X.env.cells scope.names [])) s.heap.objs.size X.env = cenv
  have kp : ∀ b o, s.heap.get? b = some o → (pushCells (s.heap.push { cls := .type "dict", data := .dict #[] }) scope.names).get? b = some o := fun b o e => pushCells_keeps _ _ _ _ (Heap.get?_push_of_some _ e)
  have hL : cenv.locals = s.heap.objs.size := by rw [← hcenv]; rfl
  have hcl : cenv.cells = cellsFrom (s.heap.objs.size + 1) scope.names (cloFrom X.env.cells scope.names []) := by rw [← hcenv]; rfl
  have hsc : cenv.scope = relS scope X.env.scope := by rw [← hcenv]; rfl
  rw [← Heap.size_push s.heap { cls := .type "dict", data := .dict #[] }] at hcl
  have cm : ∀ {y c}, (y, c) ∈ cloFrom X.env.cells scope.names [] → X.env.cells.lookup y = some c ∧ c < s.heap.objs.size := fun {y c} hm => by
    rcases cloFrom_mem hm with hm | ⟨h1, rfl⟩
    · cases hm
    · obtain ⟨c, hc⟩ := hfree _ h1 rfl
      rw [hc]
      obtain ⟨w, z⟩ := I.cell _ _ hc
      exact ⟨rfl, z.lt⟩
  have mem : ∀ {y c}, cenv.cells.lookup y = some c → (X.env.cells.lookup y = some c ∧ c < s.heap.objs.size) ∨ (s.heap.objs.size + 1 ≤ c ∧ CellAt (pushCells (s.heap.push { cls := .type "dict", data := .dict #[] }) scope.names) c none) := fun {y c} e => by
    rw [hcl] at e
    rcases cells_mem (PySem.mem_of_lookup e) with hm | ⟨_, h2, h3⟩
    · exact .inl (cm hm)
    · rw [Heap.size_push] at h2; exact .inr ⟨h2, h3⟩
  have look : ∀ {y}, scope.names.lookup y = some .free → ∃ c, cenv.cells.lookup y = some c ∧ X.env.cells.lookup y = some c := fun {y} hl => by
    have hy : (y, NameKind.free) ∈ scope.names := PySem.mem_of_lookup hl
    obtain ⟨c', e'⟩ := mem_lookup (cells_acc (names := scope.names) (n := (s.heap.push { cls := .type "dict", data := .dict #[] }).objs.size) (cloFrom_has (cells := X.env.cells) (acc := []) hy))
    rw [← hcl] at e'
    refine ⟨c', e', ?_⟩
    rw [hcl] at e'
    rcases cells_mem (PySem.mem_of_lookup e') with hm | ⟨h1, _, _⟩
    · exact (cm hm).1
    · have := ok.uniq _ h1
      rw [hl] at this; cases this
  have okB : (X.blk s H scope cenv fp).Ok := by
    refine ⟨I.ok.mod, by show cenv.scope.kind = _; rw [hsc]; exact ok.kind, by show cenv.globals = _; rw [← hcenv]; exact I.ok.glob, by show cenv.builtins = _; rw [← hcenv]; exact I.ok.blt, by show s.heap.objs.size ≤ cenv.locals; rw [hL]; exact Nat.le_refl _,
      fun y z c e1 e2 => ?_, fun y hy => ?_, fun y c z e => ?_, I.ok.hd, I.ok.frames, .inl rfl, fun b hb => ⟨?_, fun y c e z => ?_⟩, I.bs, Nat.le_trans I.ok.bsz I.sz, fun b o e hb => ?_, fun b hb z => ?_, I.stack, I.stkFree⟩
    · have e1 : cenv.cells.lookup y = some c := e1
      have e2 : cenv.cells.lookup z = some c := e2
      rw [hcl] at e1 e2
      refine cells_inj (fun p hp => ?_) (fun y z c a b => I.ok.inj y z c (cm a).1 (cm b).1) (PySem.mem_of_lookup e1) (PySem.mem_of_lookup e2)
      rw [Heap.size_push]
      exact Nat.lt_succ_of_lt (cm (y := p.1) (c := p.2) hp).2
    · show ∃ c, cenv.cells.lookup y = some c
      have key : ∀ k, cenv.kindOf y = some k → (k = .cell ∨ k = .free) → ∃ c, cenv.cells.lookup y = some c := fun k hk hk' => by
        unfold Env.kindOf at hk
        rw [hsc] at hk
        obtain ⟨k', e, r⟩ := lookup_relS hk
        have : k' = .cell ∨ k' = .free := by
          rcases r with rfl | ⟨rfl, _⟩
          · exact hk'
          · exact .inr rfl
        rcases this with rfl | rfl
        · obtain ⟨c, hm⟩ := cells_has (n := (s.heap.push { cls := .type "dict", data := .dict #[] }).objs.size) (acc := cloFrom X.env.cells scope.names []) (PySem.mem_of_lookup e)
          obtain ⟨c', e'⟩ := mem_lookup hm
          exact ⟨c', by rw [hcl]; exact e'⟩
        · obtain ⟨c, h1, _⟩ := look e
          exact ⟨c, h1⟩
      rcases hy with hy | hy
      · exact key _ hy (.inl rfl)
      · exact key _ hy (.inr rfl)
    · have z : (scope.names.lookup y == some NameKind.cell) = true := z
      have z : scope.names.lookup y = some .cell := by simpa using z
      have e : cenv.cells.lookup y = some c := e
      rw [hcl] at e
      rcases cells_mem (PySem.mem_of_lookup e) with hm | ⟨_, h2, _⟩
      · rcases cloFrom_mem hm with hm | ⟨h1, _⟩
        · cases hm
        · have q := ok.uniq _ h1
          rw [z] at q; cases q
      · rw [Heap.size_push] at h2
        exact Nat.le_of_succ_le h2
    · show b ≠ cenv.locals
      rw [hL]; exact Nat.ne_of_lt (hfp b hb).2
    · have e : cenv.cells.lookup y = some c := e
      rcases mem e with ⟨h1, _⟩ | ⟨h1, _⟩
      · exact (hfp b hb).1.2.2.2.2.1 y c h1 z
      · have h2 : s.heap.objs.size + 1 ≤ b := by rw [← z]; exact h1
        exact absurd (Nat.lt_of_lt_of_le (hfp b hb).2 (Nat.le_of_succ_le h2)) (Nat.lt_irrefl _)
    · rcases (hfp b hb).1.2.2.2.1 with z | z
      · exact I.ok.noex b o e z
      · exact absurd (Nat.lt_of_lt_of_le (Heap.lt_size e) (Nat.le_trans I.ok.bsz z)) (Nat.lt_irrefl _)
    · rcases List.mem_cons.mp (I.stkSub b z) with z | z
      · exact (hfp b hb).1.2.1 z
      · exact (hfp b hb).1.2.2.1 z
  refine ⟨okB, rfl, I.bare, Un.kept kp, ⟨fun _ => none, ?_, fun i y av e1 e2 e3 => ?_⟩, fun y c e => ?_, ?_, fun y c e => ?_, fun p hp => ?_, I.hok.kept kp, by rw [wipe_length]; exact I.len⟩
  · show Heap.Ns _ cenv.locals _
    rw [hL]
    exact Heap.Ns.keeps (Heap.Ns.new ..) fun b o e => pushCells_keeps _ _ _ _ e
  · obtain ⟨e2, hne⟩ := wipe_some e2
    have hfr : scope.names.lookup y = some .free ∧ (cenv.kindOf y = some .cell ∨ cenv.kindOf y = some .free) := by
      have key : ∀ k, cenv.scope.names.lookup y = some k → k = .local ∨ k = .cell ∨ k = .free → scope.names.lookup y = some .free ∧ (cenv.kindOf y = some .cell ∨ cenv.kindOf y = some .free) := fun k hk hk' => by
        have hk0 := hk
        rw [hsc] at hk
        obtain ⟨k', e, r⟩ := lookup_relS hk
        have no : ¬ (k' = .local ∨ k' = .cell) := fun hh => by
          rcases ok.own _ (PySem.mem_of_lookup e) hh with e' | e'
          · obtain ⟨p, hp, hpy⟩ := List.mem_map.mp e'
            have e3 := ok.ix p hp
            have : p.1 = y := hpy
            rw [this] at e3
            exact hne (List.mem_map.mpr ⟨p, hp, nodup_ix hN e3 e1⟩)
          · exact e' (List.mem_of_getElem? e1)
        rcases r with rfl | ⟨rfl, rfl⟩
        · rcases hk' with rfl | rfl | rfl
          · exact absurd (.inl rfl) no
          · exact absurd (.inr rfl) no
          · exact ⟨e, .inr hk0⟩
        · exact ⟨e, .inl hk0⟩
      have e3 : Vis cenv.scope y := e3
      rcases e3 with e3 | e3 | e3
      · exact key _ e3 (.inl rfl)
      · exact key _ e3 (.inr (.inl rfl))
      · exact key _ e3 (.inr (.inr rfl))
    obtain ⟨m, hn, hl⟩ := I.loc
    have hvis : Vis X.env.scope y := (ok.free _ (PySem.mem_of_lookup hfr.1) rfl).elim (fun k => .inr (.inl k)) (fun k => .inr (.inr k))
    obtain ⟨w, r, q⟩ := hl i y av e1 e2 hvis
    refine ⟨w, r, .inr ⟨hfr.2, ?_⟩⟩
    obtain ⟨c, h1, h2⟩ := look hfr.1
    rcases q with ⟨k, _⟩ | ⟨_, c', e', z⟩
    · have k : X.env.scope.names.lookup y = some .local := k
      rcases ok.free _ (PySem.mem_of_lookup hfr.1) rfl with k' | k' <;> rw [show X.env.scope.names.lookup y = _ from k'] at k <;> cases k
    · rw [h2] at e'; cases e'
      exact ⟨c, h1, z.keeps kp⟩
  · have e : cenv.cells.lookup y = some c := e
    rcases mem e with ⟨h1, _⟩ | ⟨_, z⟩
    · obtain ⟨w, z⟩ := I.cell y c h1
      exact ⟨w, z.keeps kp⟩
    · exact ⟨_, z⟩
  · show H cenv.locals = none
    rw [hL]; exact I.hok.fresh (Nat.le_refl _)
  · have e : cenv.cells.lookup y = some c := e
    rcases mem e with ⟨h1, _⟩ | ⟨h1, _⟩
    · exact I.freeC y c h1
    · exact I.hok.fresh (Nat.le_of_succ_le h1)
  · exact absurd (show p ∈ ([] : List (Addr × Obj)) ++ [] from hp) (by simp)

theorem app_ok {E : Value → Shared → Prop} {D : Addr} {xs : List V} {y : V} {v : Value} {Q : Value → Shared → Prop} (I : Inv X pins σ H s) (hD : H D = some (.lst xs)) (hz : xs.length < sizeLine) (r : RelV y v)
    (h : ∀ s', Inv X pins σ (upd H D (.lst (xs ++ [y]))) s' → Q .none s') : wpAny (model X.prog X.w) X.A (call (.builtin "list.append") [.ref D, v]) Q E s := by
  obtain ⟨hz', its, n, ri, e⟩ := I.hok D _ hD
  have hl := ri.length
  refine append_at (hsz := by rw [List.size_toArray]; omega) e fun h' sb ho' => ?_
  refine h { s with heap := h' } (I.write (t' := s.toks) (by rw [hD]; trivial) (.inl rfl) (fun b u hb q => (sb.2 b hb).trans q) ⟨_, ho'⟩ ⟨by rw [List.length_append]; exact hz, its ++ [v], n + 1, ri.append (.cons r .nil), ?_⟩)
  rw [ho']
  simp

noncomputable def PTs (X : Cx) (ifs : List Expr) (t : TT) : Prop :=
  ∀ (pins : List (Addr × Obj)) (s : Shared) (σ : St) (H : Hp) (Q : Bool → Hp → Prop), Inv X pins σ H s → t σ H Q →
    wpAny (model X.prog X.w) X.A (forIn ifs true fun c r => if r = true then do let ok ← isTrue c X.env (eval c X.env); pure (ForInStep.yield ok) else pure (ForInStep.yield r)) (TP X pins σ Q) X.xe s
noncomputable def tYes : TT := fun _ H Q => Q true H
theorem pts_nil : PTs X [] tYes := fun _ _ _ H _ I h => wpAny_tests_nil ⟨H, I, h⟩
theorem pts_one {c : Expr} {t : TT} (h : PT X c t) : PTs X [c] t := fun pins s σ H Q I hw => wpAny_tests_one (h pins s σ H Q I hw)
end

theorem thnF {α : Type} {t : Sem α} {Q Q' : α → Shared → Prop} {M : Model} {A : Around} {E : Value → Shared → Prop} {s : Shared} (h : wpAny M A t Q (fun _ _ => False) s) (hQ : ∀ a s, Q a s → Q' a s) : wpAny M A t Q' E s := wpAny_mono h hQ fun _ _ z => False.elim z

theorem compLoop_any {prog : Program} {w : World} {A : Around} {R : Result → Shared → Prop} {s : Shared} {elt target iter : Expr} {ifs : List Expr} {scope : Scope} {pos : Pos} {it acc : Value} {env : Env} (I : Nat → Shared → Prop)
    (turn : ∀ n s, I n s → wpAny (model prog w) A (pyNext it) (fun r s₁ => match r with
      | none => R (.ok .next) s₁
      | some v => wpAny (model prog w) A (letOwnedTupleGo target it v) (fun _ s₁' => wpAny (model prog w) A (assign target env v) (fun _ s₂ =>
          wpAny (model prog w) A (forIn ifs true fun c r => if r = true then do let ok ← isTrue c env (eval c env); pure (ForInStep.yield ok) else pure (ForInStep.yield r)) (fun ok s₃ =>
            if ok = true then wpAny (model prog w) A (eval elt env) (fun x s₄ =>
              wpAny (model prog w) A (call (.builtin "list.append") [acc, x]) (fun _ s₅ => ∃ m, m < n ∧ I m s₅) (notedBy (model prog w) A env fun e s' => R (.error e) s') s₄) (notedBy (model prog w) A env fun e s' => R (.error e) s') s₃
            else ∃ m, m < n ∧ I m s₃) (notedBy (model prog w) A env fun e s' => R (.error e) s') s₂) (notedBy (model prog w) A env fun e s' => R (.error e) s') s₁') (notedBy (model prog w) A env fun e s' => R (.error e) s') s₁) (notedBy (model prog w) A env fun e s' => R (.error e) s') s)
    (n : Nat) (h : I n s) :
    codeAny (model prog w) A (.compLoop (.ListComp elt [⟨target, iter, ifs, 0⟩] scope pos) 0 it acc env) R s := by
  refine codeAny_loop rfl I (fun n s hI => ?_) n h
  show wpAny _ A ((compTurn (.ListComp elt [⟨target, iter, ifs, 0⟩] scope pos) 0 it acc env).onRaise (fun x => do noteFrame x env; theTreesLotGoes x)) _ _ s
  refine wpAny_noted ?_
  rw [compTurn_list]
  refine wpAny_bind (wpAny_standAt (wpAny_bind (wpAny_mono (turn n s hI) (fun r s₁ h₁ => ?_) fun _ _ h' => h')))
  cases r with
  | none => exact wpAny_pure h₁
  | some v =>
    refine wpAny_bind (wpAny_mono h₁ (fun _ s₁' h₁' => ?_) fun _ _ h' => h')
    refine wpAny_bind (wpAny_mono h₁' (fun _ s₂ h₂ => wpAny_bind (wpAny_mono h₂ (fun ok s₃ h₃ => ?_) fun _ _ h' => h')) fun _ _ h' => h')
    cases ok with
    | false => exact wpAny_pure ⟨rfl, h₃⟩
    | true =>
      exact wpAny_bind (wpAny_bind (wpAny_mono h₃ (fun x s₄ h₄ => wpAny_bind (wpAny_mono h₄ (fun _ s₅ h₅ => wpAny_pure (wpAny_pure ⟨rfl, h₅⟩)) fun _ _ h' => h')) fun _ _ h' => h'))

section
variable {X : Cx}
noncomputable def tLc (wi : TI) (g : TG) (tt : TT) (te : TE) (vs : List Nat) : TE := fun σ H Q => wi σ H fun J H1 => ∀ D, H1 D = none → ∃ W : Nat → Nat → Hp → Prop, (∃ m, W 0 m (upd H1 D (.lst []))) ∧ ∀ i m H, W i m H →
  (J.stop i H ∧ Q (.ref D) H) ∨ (J.go i H ∧ ∃ Nx : Hp → Prop, (∀ H', Nx H' → ∃ m', m' < m ∧ W (i + 1) m' H') ∧ ∀ x H', J.yld i H x H' → g x (wipe σ vs) H' fun σ2 H2 => wipe σ2 vs = wipe σ vs ∧ tt σ2 H2 fun b H3 =>
    if b = true then te σ2 H3 fun y H4 => ∃ acc, H4 D = some (.lst acc) ∧ acc.length < sizeLine ∧ Nx (upd H4 D (.lst (acc ++ [y]))) else Nx H3)
theorem lc_core {pins : List (Addr × Obj)} {s : Shared} {σ : St} {H : Hp} {Q : VK} {elt tg iter : Expr} {ifs : List Expr} {scope : Scope} {own : List (Str × Nat)} {pos pos' : Pos} {wi : TI} {g : TG} {tt : TT} {te : TE} {use : Option (Value → Sem Unit)} {Qf : Value → Shared → Prop}
    (hc : X.calm = true) (hN : X.N.Nodup) (I : Inv X pins σ H s) (hi : PI X tg iter wi) (ok : BlkOk X.N X.env.scope scope own)
    (hg : ∀ (s : Shared) (H : Hp) (C : Addr) (cl : List (Str × Addr)) (fp : List Addr), PG (X.blk s H scope (compEnvC scope cl C X.env) fp) tg g) (ht : ∀ (s : Shared) (H : Hp) (C : Addr) (cl : List (Str × Addr)) (fp : List Addr), PTs (X.blk s H scope (compEnvC scope cl C X.env) fp) ifs tt)
    (he : ∀ (s : Shared) (H : Hp) (C : Addr) (cl : List (Str × Addr)) (fp : List Addr), PE (X.blk s H scope (compEnvC scope cl C X.env) fp) elt te) (hs : ∀ x, foldedSetIterable iter X.env x = pure x)
    (h : tLc wi g tt te (own.map (·.2)) σ H Q)
    (hRR : ∀ D C s' m H', Inv X pins σ H' s' → Q (.ref D) H' → s'.heap.Ns C m → FpOk X pins H' C → compPost (model X.prog X.w) X.A X.xe use Qf (.ref D) C (.ok .next) s') :
    wpAny (model X.prog X.w) X.A (comprehension (.ListComp elt [⟨tg, iter, ifs, 0⟩] scope pos) scope X.env pos' (newList []) false (eval iter X.env) use) Qf X.xe s := by
  have hfree : ∀ y ∈ scope.names, y.2 = .free → ∃ c, X.env.cells.lookup y.1 = some c := fun y hy e => by
    rcases ok.free y hy e with k | k
    · exact I.ok.has _ (.inl k)
    · exact I.ok.has _ (.inr k)
  refine wpAny_comprehension_free (use := use) rfl hs (closure_ok hfree) ok.kind (fun y hy e => by rw [ok.uniq y hy, e])
    (thn (hi pins s σ H _ I h) fun xv s1 hx => thn hx fun itv s2 h2 => ?_)
  obtain ⟨it, fp, tn, J, H2, e, I2, T, st2, f2, q⟩ := h2
  subst e
  refine wpAny_newObj_type (newEnv_comp ?_) (by show 0 ≤ sizeLine; decide)
  generalize hD : s2.heap.objs.size = D
  have hDn : H2 D = none := I2.hok.fresh (Nat.le_of_eq hD)
  obtain ⟨W, ⟨m0, w0⟩, turn⟩ := q D hDn
  -- the new list
  generalize hs3 : ({ s2 with heap := s2.heap.push { cls := .type "list", data := .seq ([] : List Value).toArray } } : Shared) = s3
  have I3 : Inv X pins σ (upd H2 D (.lst [])) s3 := by
    rw [← hs3]
    refine I2.laid (t' := s2.toks) (fun b o e => Heap.get?_push_of_some _ e) (Nat.le_of_eq hD) ⟨Nat.zero_le _, [], 0, .nil, ?_⟩
    rw [← hD]
    exact Heap.get?_push_size _ rfl
  have h3 : s3.heap = s2.heap.push { cls := .type "list", data := .seq ([] : List Value).toArray } := by rw [← hs3]
  have sz : ∀ b ∈ fp, b < s2.heap.objs.size := fun b hb => by
    obtain ⟨o, e, _⟩ := T.obj _ _ st2 b hb
    exact Heap.lt_size e
  have f3 : ∀ b ∈ fp, FpOk X pins (upd H2 D (.lst [])) b ∧ b < s3.heap.objs.size := fun b hb => by
    have hlt := sz b hb
    refine ⟨⟨?_, (f2 b hb).2⟩, by rw [h3, Heap.size_push]; exact Nat.lt_succ_of_lt hlt⟩
    rw [upd_ne (by rw [← hD]; exact Nat.ne_of_lt hlt)]
    exact (f2 b hb).1
  have st3 : tn 0 s3.heap := T.keep _ _ _ st2 fun b _ o e => by rw [h3]; exact Heap.get?_push_of_some _ e
  have I4 := block_start I3 ok hN f3
  have pg := hg s3 (upd H2 D (.lst [])) s3.heap.objs.size (cellsFrom (s3.heap.objs.size + 1) scope.names (cloFrom X.env.cells scope.names [])) fp
  have pt := ht s3 (upd H2 D (.lst [])) s3.heap.objs.size (cellsFrom (s3.heap.objs.size + 1) scope.names (cloFrom X.env.cells scope.names [])) fp
  have pe := he s3 (upd H2 D (.lst [])) s3.heap.objs.size (cellsFrom (s3.heap.objs.size + 1) scope.names (cloFrom X.env.cells scope.names [])) fp
  show codeAny _ _ (.compStart (.ListComp elt [⟨tg, iter, ifs, 0⟩] scope pos) 0 (.ref it) (.ref D) (compEnvC scope (cellsFrom (s3.heap.objs.size + 1) scope.names (cloFrom X.env.cells scope.names [])) s3.heap.objs.size X.env)) (compPost (model X.prog X.w) X.A X.xe use Qf (.ref D) s3.heap.objs.size) { s3 with heap := pushCells (s3.heap.push { cls := .type "dict", data := .dict #[] }) scope.names }
  have nfp : ∀ b ∈ fp, (upd H2 D (.lst [])) b = none := fun b hb => (f3 b hb).1.1
  generalize hce : compEnvC scope (cellsFrom (s3.heap.objs.size + 1) scope.names (cloFrom X.env.cells scope.names [])) s3.heap.objs.size X.env = ce at I4 pg pt pe ⊢
  have cL : ce.locals = s3.heap.objs.size := by subst hce; rfl
  generalize hH3 : upd H2 D (.lst []) = H3 at I3 I4 pg pt pe w0 nfp f3
  generalize hs4 : ({ s3 with heap := pushCells (s3.heap.push { cls := .type "dict", data := .dict #[] }) scope.names } : Shared) = s4 at I4 ⊢
  have st4 : tn 0 s4.heap := T.keep _ _ _ st3 fun b _ o e => by rw [← hs4]; exact pushCells_keeps _ _ _ _ (Heap.get?_push_of_some _ e)
  have stat : ∀ {σ' : St} {H' : Hp} {s' : Shared}, Inv (X.blk s3 H3 scope ce fp) [] σ' H' s' → (∀ b ∈ fp, H' b = none) → ∀ b ∈ fp, FpOk (X.blk s3 H3 scope ce fp) [] H' b := fun {σ' H' s'} I' hn b hb =>
    ⟨hn b hb, (I'.ok.exf b hb).1, I'.ok.exfs b hb, .inl hb, fun x c e => (I'.ok.exf b hb).2 x c e, fun p hp => absurd (show p ∈ ([] : List (Addr × Obj)) ++ [] from hp) (by simp)⟩
  have loop : codeAny (model X.prog X.w) X.A (.compLoop (.ListComp elt [⟨tg, iter, ifs, 0⟩] scope pos) 0 (.ref it) (.ref D) ce) (compPost (model X.prog X.w) X.A X.xe use Qf (.ref D) s3.heap.objs.size) s4 := by
    refine compLoop_any (fun n s' => ∃ i H', Inv (X.blk s3 H3 scope ce fp) [] (wipe σ (own.map (·.2))) H' s' ∧ tn i s'.heap ∧ (∀ b ∈ fp, H' b = none) ∧ W i n H') ?_ m0 ⟨0, H3, I4, st4, nfp, w0⟩
    rintro n s5 ⟨i, H5, I5, st5, n5, w5⟩
    rcases turn i n H5 w5 with ⟨stop, qq⟩ | ⟨go, Nx, hNx, step⟩
    · have td := T.done (X.blk s3 H3 scope ce fp) rfl rfl rfl hc i [] s5 _ H5 (fun _ _ => False) I5 (stat I5 n5) st5 stop
      refine thnF td fun r s6 hZq0 => ?_
      obtain ⟨hr, I6⟩ := hZq0
      subst hr
      -- back in the def's context
      have I7 : Inv X pins σ H5 s6 := I3.call' (ch := fp) I6.os I6.base I6.hok I6.bare fun b hb => ⟨(f3 b hb).1.2.2.2.1, (f3 b hb).1.2.1, (f3 b hb).1.2.2.2.2.1, (f3 b hb).1.2.2.2.2.2⟩
      have nC : H5 s3.heap.objs.size = none := by
        have z : H5 ce.locals = none := I6.free
        rw [cL] at z
        exact z
      obtain ⟨m, hn, _⟩ := I6.loc
      have hn : s6.heap.Ns ce.locals m := hn
      rw [cL] at hn
      exact hRR D s3.heap.objs.size s6 m H5 I7 qq hn (I3.fpOk (Nat.le_refl _) nC)
    · have ti := T.item (X.blk s3 H3 scope ce fp) rfl rfl rfl hc i [] s5 _ H5 (fun _ _ => False) I5 (stat I5 n5) st5 go
      refine thnF ti fun r s6 hZq0 => ?_
      obtain ⟨u, hr, h6⟩ := hZq0
      subst hr
      refine thnF h6 fun _ s7 hZq0 => ?_
      obtain ⟨x, H7, I7, r7, y7, st7, n7⟩ := hZq0
      have I7' := I7.pinned (stat I7 n7) (T.obj _ _ st7)
      refine thnF (pg _ s7 _ H7 x u _ I7' r7 (step x H7 y7)) fun _ s8 hZq0 => ?_
      obtain ⟨σ8, H8, I8, hw8, q8⟩ := hZq0
      refine thnF (pt _ s8 σ8 H8 _ I8 q8) fun b s9 hZq0 => ?_
      obtain ⟨H9, I9, q9⟩ := hZq0
      -- the turn's end
      have fin : ∀ {s' : Shared} {H' : Hp}, Inv (X.blk s3 H3 scope ce fp) ([] ++ pinsAt fp s7.heap) σ8 H' s' → Nx H' → ∃ m, m < n ∧ ∃ i H', Inv (X.blk s3 H3 scope ce fp) [] (wipe σ (own.map (·.2))) H' s' ∧ tn i s'.heap ∧ (∀ b ∈ fp, H' b = none) ∧ W i m H' := fun {s' H'} I' nx => by
        obtain ⟨m', hm, w'⟩ := hNx H' nx
        have pin' : ∀ b ∈ fp, ∀ o, s7.heap.get? b = some o → s'.heap.get? b = some o ∧ H' b = none := fun b hb o e =>
          let z := I'.pin (b, o) (List.mem_append_right _ (List.mem_append_right _ (mem_pinsAt hb e)))
          ⟨z.1, z.2.1⟩
        have hl : (wipe σ (own.map (·.2))).length = σ8.length := by rw [← hw8, wipe_length]
        refine ⟨m', hm, i + 1, H', (I'.unpinned (pins := [])).weak hl (fun j v e => ?_), T.keep _ _ _ st7 fun b hb o e => (pin' b hb o e).1, fun b hb => ?_, w'⟩
        · rw [← hw8] at e
          exact (wipe_some e).1
        · obtain ⟨o, e, _⟩ := T.obj _ _ st7 b hb
          exact (pin' b hb o e).2
      cases b with
      | false =>
        simp only [Bool.false_eq_true, if_false] at q9 ⊢
        exact fin I9 q9
      | true =>
        simp only [if_true] at q9 ⊢
        refine thnF (pe _ s9 σ8 H9 _ I9 q9) fun z s10 hZq0 => ?_
        obtain ⟨yv, H10, I10, r10, acc, hD10, hz10, nx⟩ := hZq0
        exact app_ok (X := X.blk s3 H3 scope ce fp) I10 hD10 hz10 r10 fun s11 I11 => fin I11 nx
  exact codeAny_compStart_list loop (T.self X.A 0 _ _ _ st4 loop)
theorem pe_lc {elt tg iter : Expr} {ifs : List Expr} {scope : Scope} {own : List (Str × Nat)} {pos : Pos} {wi : TI} {g : TG} {tt : TT} {te : TE} (hc : X.calm = true) (hN : X.N.Nodup) (hi : PI X tg iter wi) (ok : BlkOk X.N X.env.scope scope own)
    (hg : ∀ (s : Shared) (H : Hp) (C : Addr) (cl : List (Str × Addr)) (fp : List Addr), PG (X.blk s H scope (compEnvC scope cl C X.env) fp) tg g) (ht : ∀ (s : Shared) (H : Hp) (C : Addr) (cl : List (Str × Addr)) (fp : List Addr), PTs (X.blk s H scope (compEnvC scope cl C X.env) fp) ifs tt)
    (he : ∀ (s : Shared) (H : Hp) (C : Addr) (cl : List (Str × Addr)) (fp : List Addr), PE (X.blk s H scope (compEnvC scope cl C X.env) fp) elt te) (hs : ∀ x, foldedSetIterable iter X.env x = pure x := by intro _; rfl) :
    PE X (.ListComp elt [⟨tg, iter, ifs, 0⟩] scope pos) (tLc wi g tt te (own.map (·.2))) := by
  intro pins s σ H Q I h
  rw [eval_ListComp]
  refine lc_core hc hN I hi ok hg ht he hs h fun D C s' m H' I' q hn f => ⟨m, hn, fun h'' sb => ?_⟩
  obtain ⟨f0, f1, f2, f3, f4, f5⟩ := f
  exact ⟨.ref D, H', I'.turned (t' := s'.toks) (fun b o hb e => (sb.2 b hb).trans e) f0 f1 f3 f4 f5, rfl, q⟩
theorem ps_setLc {i : Nat} {y : Str} {py : Pos} {elt tg iter : Expr} {ifs : List Expr} {scope : Scope} {own : List (Str × Nat)} {pos spos : Pos} {wi : TI} {g : TG} {tt : TT} {te : TE} (hc : X.calm = true) (hN : X.N.Nodup) (hy : X.N[i]? = some y) (hyl : X.env.scope.names.lookup y = some .local)
    (hsw : swapsWith (.ListComp elt [⟨tg, iter, ifs, 0⟩] scope pos) (some (.Name y py)) spos.line X.env = pure true) (hi : PI X tg iter wi) (ok : BlkOk X.N X.env.scope scope own)
    (hg : ∀ (s : Shared) (H : Hp) (C : Addr) (cl : List (Str × Addr)) (fp : List Addr), PG (X.blk s H scope (compEnvC scope cl C X.env) fp) tg g) (ht : ∀ (s : Shared) (H : Hp) (C : Addr) (cl : List (Str × Addr)) (fp : List Addr), PTs (X.blk s H scope (compEnvC scope cl C X.env) fp) ifs tt)
    (he : ∀ (s : Shared) (H : Hp) (C : Addr) (cl : List (Str × Addr)) (fp : List Addr), PE (X.blk s H scope (compEnvC scope cl C X.env) fp) elt te) (hs : ∀ x, foldedSetIterable iter X.env x = pure x := by intro _; rfl) :
    PS X (.Assign [.Name y py] (.ListComp elt [⟨tg, iter, ifs, 0⟩] scope pos) spos) (tAsg (tLc wi g tt te (own.map (·.2))) (gName i)) := by
  intro pins s σ H D I h
  rw [exec_Assign_Name_used _ _ _ _ hsw]
  refine wpAny_bind (wpAny_standAt (wpAny_bind ?_))
  show wpAny _ X.A (do let _ ← comprehension (.ListComp elt [⟨tg, iter, ifs, 0⟩] scope pos) scope X.env (firstIterPos [⟨tg, iter, ifs, 0⟩] pos) (newList []) false (eval iter X.env) (some (assign (.Name y py) X.env))) _ _ s
  have h : tLc wi g tt te (own.map (·.2)) σ H (fun x H1 => gName i x σ H1 D.nx) := h
  refine wpAny_bind (thn (lc_core (Qf := fun _ s' => SP X pins D .next s') hc hN I hi ok hg ht he hs h fun L C s' m H' I' q hn f => ?_) fun _ s' hq => wpAny_pure (wpAny_pure hq))
  show wpAny _ _ (assign (.Name y py) X.env (.ref L)) _ _ _
  refine wpAny_assign_Name (store_ok2 (v := V.ref L) I' hN hy (.inl hyl) rfl (fun s2 I2 hZq0 => ?_) (.inr hyl))
  obtain ⟨a, sb, ha⟩ := hZq0
  obtain ⟨f0, f1, f2, f3, f4, f5⟩ := f
  have haC : C ≠ a := by
    rcases ha with z | z
    · rw [z]; exact f1
    · exact fun e => f4 y a z e.symm
  refine ⟨m, hn.sameBut sb haC, fun h3 sb3 => ?_⟩
  exact ⟨_, H', I2.turned (t' := s2.toks) (fun b o hb e => (sb3.2 b hb).trans e) f0 f1 f3 f4 f5, q⟩
theorem sw_true {elt : Expr} {gs : List Comprehension} {scope : Scope} {pos py : Pos} {y : Str} {l : Nat} {env : Env} (hk : env.scope.kind = .function) (hy : env.scope.names.lookup y = some .local) (hl : (py.line == pos.line) = true)
    (ha : (scope.names.any fun (n, k) => n == y && (k == .local || k == .cell)) = false) : swapsWith (.ListComp elt gs scope pos) (some (.Name y py)) l env = pure true := by
  have ky : env.kindOf y = some .local := hy
  have hb : env.blockKind = .function := by unfold Env.blockKind; rw [hk]; rfl
  unfold swapsWith
  simp only [hb, ky, ha, Expr.pos, hl]
  rfl
end

theorem lc_range {lo : Int} {n : Nat} {g : TG} {tt : TT} {te : TE} {vs : List Nat} {σ : St} {H1 : Hp} {D : Addr} {Qd : Hp → Prop} (Pv : Nat → Hp → Prop) (h0 : Pv 0 (upd H1 D (.lst [])))
    (hs : ∀ i H, i < n → Pv i H → g (.int (lo + i)) (wipe σ vs) H fun σ2 H2 => wipe σ2 vs = wipe σ vs ∧ tt σ2 H2 fun b H3 =>
      if b = true then te σ2 H3 fun y H4 => ∃ acc, H4 D = some (.lst acc) ∧ acc.length < sizeLine ∧ Pv (i + 1) (upd H4 D (.lst (acc ++ [y]))) else Pv (i + 1) H3) (hd : ∀ H, Pv n H → Qd H) :
    ∃ W : Nat → Nat → Hp → Prop, (∃ m, W 0 m (upd H1 D (.lst []))) ∧ ∀ i m H, W i m H →
      ((Itr lo n).stop i H ∧ Qd H) ∨ ((Itr lo n).go i H ∧ ∃ Nx : Hp → Prop, (∀ H', Nx H' → ∃ m', m' < m ∧ W (i + 1) m' H') ∧ ∀ x H', (Itr lo n).yld i H x H' → g x (wipe σ vs) H' fun σ2 H2 => wipe σ2 vs = wipe σ vs ∧ tt σ2 H2 fun b H3 =>
        if b = true then te σ2 H3 fun y H4 => ∃ acc, H4 D = some (.lst acc) ∧ acc.length < sizeLine ∧ Nx (upd H4 D (.lst (acc ++ [y]))) else Nx H3) := by
  refine ⟨fun i m H => m = n - i ∧ i ≤ n ∧ Pv i H, ⟨n, by simp, Nat.zero_le _, h0⟩, ?_⟩
  rintro i m H ⟨rfl, hi, p⟩
  by_cases hlt : i < n
  · refine .inr ⟨hlt, Pv (i + 1), fun H' p' => ⟨n - (i + 1), by omega, rfl, hlt, p'⟩, fun x H' y => ?_⟩
    obtain ⟨e, y⟩ := y
    subst e y
    exact hs i _ hlt p
  · have e : i = n := by omega
    subst e
    exact .inl ⟨Nat.le_refl _, hd H p⟩
theorem lc_list {K : PySem.W.Frag} {a : Addr} {xs : List V} {g : TG} {tt : TT} {te : TE} {vs : List Nat} {σ : St} {H1 : Hp} {D : Addr} {Qd : Hp → Prop} (Pv : Nat → Hp → Prop) (h0 : Pv 0 (upd H1 D (.lst []))) (hl : ∀ i H, i ≤ xs.length → Pv i H → SqL K H a xs)
    (hs : ∀ i x H, xs[i]? = some x → Pv i H → g x (wipe σ vs) H fun σ2 H2 => wipe σ2 vs = wipe σ vs ∧ tt σ2 H2 fun b H3 =>
      if b = true then te σ2 H3 fun y H4 => ∃ acc, H4 D = some (.lst acc) ∧ acc.length < sizeLine ∧ Pv (i + 1) (upd H4 D (.lst (acc ++ [y]))) else Pv (i + 1) H3) (hd : ∀ H, Pv xs.length H → Qd H) :
    ∃ W : Nat → Nat → Hp → Prop, (∃ m, W 0 m (upd H1 D (.lst []))) ∧ ∀ i m H, W i m H →
      ((Itl K a).stop i H ∧ Qd H) ∨ ((Itl K a).go i H ∧ ∃ Nx : Hp → Prop, (∀ H', Nx H' → ∃ m', m' < m ∧ W (i + 1) m' H') ∧ ∀ x H', (Itl K a).yld i H x H' → g x (wipe σ vs) H' fun σ2 H2 => wipe σ2 vs = wipe σ vs ∧ tt σ2 H2 fun b H3 =>
        if b = true then te σ2 H3 fun y H4 => ∃ acc, H4 D = some (.lst acc) ∧ acc.length < sizeLine ∧ Nx (upd H4 D (.lst (acc ++ [y]))) else Nx H3) := by
  refine ⟨fun i m H => m = xs.length - i ∧ i ≤ xs.length ∧ Pv i H, ⟨xs.length, by simp, Nat.zero_le _, h0⟩, ?_⟩
  rintro i m H ⟨rfl, hi, p⟩
  have q := hl i H hi p
  by_cases hlt : i < xs.length
  · refine .inr ⟨⟨xs, xs[i], q, by simp [hlt]⟩, Pv (i + 1), fun H' p' => ⟨xs.length - (i + 1), by omega, rfl, hlt, p'⟩, fun x H' y => ?_⟩
    obtain ⟨e, y⟩ := y
    subst e
    exact hs i x _ (y xs q) p
  · have e : i = xs.length := by omega
    subst e
    exact .inl ⟨⟨xs, q, Nat.le_refl _⟩, hd H p⟩
noncomputable def blkC (N : List Str) (sc scope : Scope) (own : List (Str × Nat)) : Bool :=
  (match scope.kind with | .function => true | _ => false) && (scope.names.all fun y => decide (scope.names.lookup y.1 = some y.2)) && (own.all fun p => decide (N[p.2]? = some p.1)) &&
    (scope.names.all fun y => match y.2 with
      | .free => (match sc.names.lookup y.1 with | some .cell => true | some .free => true | _ => false)
      | .local => decide (y.1 ∈ own.map (·.1)) || decide (y.1 ∉ N)
      | .cell => decide (y.1 ∈ own.map (·.1)) || decide (y.1 ∉ N)
      | _ => true)
theorem blkOk_by {N : List Str} {sc scope : Scope} {own : List (Str × Nat)} (h : blkC N sc scope own = true) : BlkOk N sc scope own := by
  unfold blkC at h
  simp only [Bool.and_eq_true, List.all_eq_true, decide_eq_true_eq] at h
  obtain ⟨⟨⟨h1, h2⟩, h3⟩, h4⟩ := h
  refine ⟨?_, h2, h3, fun y hy e => ?_, fun y hy e => ?_⟩
  · split at h1
    · assumption
    · cases h1
  · have q := h4 y hy
    simp only [e] at q
    split at q <;> first | exact .inl (by assumption) | exact .inr (by assumption) | cases q
  · have q := h4 y hy
    rcases e with e | e <;> (simp only [e, Bool.or_eq_true, decide_eq_true_eq] at q; exact q)
end L2

namespace L2
open PySem PySem.Spec PyProof.Rows

section
variable {prog : Program} {w : World} {A : Around} {R : Result → Shared → Prop} {s : Shared} {elt t0 i0 t1 i1 : Expr} {ifs0 ifs1 : List Expr} {scope : Scope} {pos : Pos} {it acc : Value} {env : Env}
end

section
variable {X : Cx}
end
end L2

namespace L2
open PySem PySem.Spec PyProof.Rows

section
variable {κ : Type} [DecidableEq κ]
noncomputable def valV (kvs : List (κ × V)) (k : κ) : Option V := (kvs.find? fun kv => decide (kv.1 = k)).map (·.2)
noncomputable def putK (kvs : List (κ × V)) (k : κ) (v : V) : List (κ × V) :=
  if (kvs.any fun kv => decide (kv.1 = k)) = true then kvs.map (fun kv => if kv.1 = k then (kv.1, v) else kv) else kvs ++ [(k, v)]
noncomputable def dropK (kvs : List (κ × V)) (k : κ) : List (κ × V) := kvs.filter fun kv => decide (kv.1 ≠ k)

theorem valV_nil {k : κ} : valV ([] : List (κ × V)) k = none := rfl
theorem valV_pos {p : κ × V} {r : List (κ × V)} {k : κ} (e : p.1 = k) : valV (p :: r) k = some p.2 := by simp [valV, List.find?_cons, e]
theorem valV_neg {p : κ × V} {r : List (κ × V)} {k : κ} (e : ¬ p.1 = k) : valV (p :: r) k = valV r k := by simp [valV, List.find?_cons, e]
theorem valV_any (k : κ) : ∀ kvs : List (κ × V), (kvs.any fun kv => decide (kv.1 = k)) = (valV kvs k).isSome
  | [] => rfl
  | p :: r => by
    rw [List.any_cons]
    by_cases e : p.1 = k
    · simp only [valV_pos e, decide_eq_true e, Bool.true_or, Option.isSome_some]
    · rw [valV_neg e, decide_eq_false e, Bool.false_or]; exact valV_any k r
theorem valV_map (k j : κ) (y : V) : ∀ kvs : List (κ × V), valV (kvs.map fun kv => if kv.1 = k then (kv.1, y) else kv) j = (valV kvs j).map fun x => if j = k then y else x
  | [] => rfl
  | p :: r => by
    have ih := valV_map k j y r
    rw [List.map_cons]
    by_cases h : p.1 = k
    · rw [if_pos h]
      by_cases e : p.1 = j
      · rw [valV_pos (p := (p.1, y)) e, valV_pos e, Option.map_some, if_pos (e.symm.trans h)]
      · rw [valV_neg (p := (p.1, y)) e, valV_neg e, ih]
    · rw [if_neg h]
      by_cases e : p.1 = j
      · rw [valV_pos (p := p) e, valV_pos e, Option.map_some, if_neg (fun z => h (e.trans z))]
      · rw [valV_neg (p := p) e, valV_neg e, ih]
theorem valV_snoc (k j : κ) (y : V) : ∀ kvs : List (κ × V), valV kvs k = none → valV (kvs ++ [(k, y)]) j = if j = k then some y else valV kvs j
  | [], _ => by
    by_cases e : k = j
    · rw [if_pos e.symm]; exact valV_pos (p := (k, y)) e
    · rw [if_neg (fun z => e z.symm)]; exact valV_neg (p := (k, y)) e
  | p :: r, hn => by
    rw [List.cons_append]
    have hk : ¬ p.1 = k := fun z => by rw [valV_pos z] at hn; cases hn
    rw [valV_neg hk] at hn
    have ih := valV_snoc k j y r hn
    by_cases e : p.1 = j
    · rw [valV_pos e, valV_pos e, if_neg (fun z => hk (e.trans z))]
    · rw [valV_neg e, valV_neg e, ih]
theorem valV_put (kvs : List (κ × V)) (k j : κ) (y : V) : valV (putK kvs k y) j = if j = k then some y else valV kvs j := by
  unfold putK
  by_cases a : (kvs.any fun kv => decide (kv.1 = k)) = true
  · rw [if_pos a, valV_map]
    rw [valV_any] at a
    by_cases e : j = k
    · obtain ⟨x, hx⟩ := Option.isSome_iff_exists.mp a
      rw [if_pos e, e, hx, Option.map_some, if_pos rfl]
    · rw [if_neg e]
      cases valV kvs j with
      | none => rfl
      | some x => rw [Option.map_some, if_neg e]
  · rw [if_neg a]
    refine valV_snoc k j y kvs ?_
    rw [valV_any] at a
    cases q : valV kvs k with
    | none => rfl
    | some x => rw [q] at a; exact (a rfl).elim
theorem length_putK (kvs : List (κ × V)) (k : κ) (v : V) : (putK kvs k v).length ≤ kvs.length + 1 := by
  unfold putK
  split
  · rw [List.length_map]; omega
  · rw [List.length_append, List.length_cons, List.length_nil]; omega
theorem putK_new {kvs : List (κ × V)} {k : κ} (v : V) (h : valV kvs k = none) : putK kvs k v = kvs ++ [(k, v)] := by
  unfold putK
  rw [valV_any, h]
  exact if_neg (by decide)

theorem RelO.isSome_eq {o : Option V} {u : Option Value} (r : RelO o u) : o.isSome = u.isSome := by
  cases o with
  | none => cases u with
    | none => rfl
    | some _ => exact (show False from r).elim
  | some _ => cases u with
    | none => exact (show False from r).elim
    | some _ => rfl

theorem KV.val {kvs : List (κ × V)} {vs : List (κ × Value)} (r : KV kvs vs) (k : κ) : RelO (valV kvs k) (valueAt vs k) := by
  unfold KV at r
  induction r with
  | nil => exact True.intro
  | @cons p q ps qs h t ih =>
    obtain ⟨h1, h2⟩ := h
    by_cases e : p.1 = k
    · have e' : q.1 = k := h1.symm.trans e
      have b : valueAt (q :: qs) k = some q.2 := by simp [valueAt, List.find?_cons, e']
      rw [valV_pos e, b]; exact h2
    · have e' : ¬ q.1 = k := fun z => e (h1.trans z)
      have b : valueAt (q :: qs) k = valueAt qs k := by simp [valueAt, List.find?_cons, e']
      rw [valV_neg e, b]; exact ih
theorem KV.any {kvs : List (κ × V)} {vs : List (κ × Value)} (r : KV kvs vs) (k : κ) : (kvs.any fun kv => decide (kv.1 = k)) = vs.any fun kv => decide (kv.1 = k) := by
  unfold KV at r
  induction r with
  | nil => rfl
  | cons h t ih => rw [List.any_cons, List.any_cons, ih, h.1]
theorem KV.repl {kvs : List (κ × V)} {vs : List (κ × Value)} (r : KV kvs vs) (k : κ) {y : V} {u : Value} (ry : RelV y u) :
    KV (kvs.map fun kv => if kv.1 = k then (kv.1, y) else kv) (vs.map fun kv => if kv.1 = k then (kv.1, u) else kv) := by
  unfold KV at r ⊢
  induction r with
  | nil => exact .nil
  | @cons p q ps qs h t ih =>
    rw [List.map_cons, List.map_cons]
    refine .cons ?_ ih
    obtain ⟨h1, h2⟩ := h
    by_cases e : p.1 = k
    · rw [if_pos e, if_pos (h1.symm.trans e)]; exact ⟨h1, ry⟩
    · rw [if_neg e, if_neg (fun z => e (h1.trans z))]; exact ⟨h1, h2⟩
theorem KV.put {kvs : List (κ × V)} {vs : List (κ × Value)} (r : KV kvs vs) (k : κ) {y : V} {u : Value} (ry : RelV y u) : KV (putK kvs k y) (stored vs k u) := by
  unfold putK stored
  rw [r.any k]
  by_cases e : (vs.any fun kv => decide (kv.1 = k)) = true
  · rw [if_pos e, if_pos e]; exact r.repl k ry
  · rw [if_neg e, if_neg e]; exact Paired.snoc r ⟨rfl, ry⟩
theorem KV.drop {kvs : List (κ × V)} {vs : List (κ × Value)} (r : KV kvs vs) (k : κ) : KV (dropK kvs k) (without vs k) := by
  unfold KV at r ⊢
  unfold dropK without
  induction r with
  | nil => exact .nil
  | @cons p q ps qs h t ih =>
    obtain ⟨h1, h2⟩ := h
    rw [List.filter_cons, List.filter_cons]
    by_cases e : p.1 = k
    · have a : ¬ decide (p.1 ≠ k) = true := by simp [e]
      have b : ¬ decide (q.1 ≠ k) = true := by simp [h1.symm.trans e]
      rw [if_neg a, if_neg b]; exact ih
    · have e' : ¬ q.1 = k := fun z => e (h1.trans z)
      have a : decide (p.1 ≠ k) = true := by simp [e]
      have b : decide (q.1 ≠ k) = true := by simp [e']
      rw [if_pos a, if_pos b]; exact .cons ⟨h1, h2⟩ ih
theorem KV.length {kvs : List (κ × V)} {vs : List (κ × Value)} (r : KV kvs vs) : kvs.length = vs.length := Paired.length r
theorem dropK_le (kvs : List (κ × V)) (k : κ) : (dropK kvs k).length ≤ kvs.length := List.length_filter_le _ _
end

theorem kV_is {P : Program} {w : World} {k : Key} {u : Value} (r : RelV (kV k) u) : (mixKind P w).is k u = true := by
  cases k with
  | inl i => obtain ⟨t, e⟩ := (show ∃ t, u = Value.int i t from r); subst e; exact mixKind_int P w i t
  | inr x => obtain ⟨t, e⟩ := (show ∃ t, u = Value.str x t from r); subst e; exact mixKind_str P w x t
theorem kV_inj {a b : Key} (e : kV a = kV b) : a = b := by
  cases a with
  | inl i => cases b with
    | inl j => have e' : V.int i = V.int j := e; injection e' with e'; rw [e']
    | inr y => exact nomatch (show V.int i = V.str y from e)
  | inr x => cases b with
    | inl j => exact nomatch (show V.str x = V.int j from e)
    | inr y => have e' : V.str x = V.str y := e; injection e' with e'; rw [e']

theorem bools_are {P : Program} {w : World} : ∀ {ks : List Bool} {us : List Value}, Vals (ks.map V.bl) us → ItemsAre (SK.boolKind P w) ks us
  | [], _, r => by rw [List.map_nil] at r; cases r; exact .nil
  | k :: ks, _, r => by
    rw [List.map_cons] at r
    cases r with
    | cons h t => exact .cons (by obtain rfl := (show _ = Value.bool k from h); exact SK.isB_bool k) (bools_are t)
noncomputable abbrev KT (H : Hp) : List (SK.Key2 × V) → List (SK.Key2 × Addr × Value) → Prop := Paired fun p q => p.1 = q.1 ∧ KeyAt H p.1 q.2.1 ∧ RelV p.2 q.2.2
theorem KT.val {H : Hp} {kvs : List (SK.Key2 × V)} {xs : List (SK.Key2 × Addr × Value)} (r : KT H kvs xs) (k : SK.Key2) : RelO (valV kvs k) ((atKey xs k).map (·.2)) := by
  induction r with
  | nil => exact True.intro
  | @cons p q ps qs h t ih =>
    obtain ⟨h1, _, h2⟩ := h
    by_cases e : p.1 = k
    · have e' : q.1 = k := h1.symm.trans e
      have b : atKey (q :: qs) k = some q.2 := by simp [atKey, List.find?_cons, e']
      rw [valV_pos e, b]; exact h2
    · have e' : ¬ q.1 = k := fun z => e (h1.trans z)
      have b : atKey (q :: qs) k = atKey qs k := by simp [atKey, List.find?_cons, e']
      rw [valV_neg e, b]; exact ih
theorem KT.repl {H : Hp} {kvs : List (SK.Key2 × V)} {xs : List (SK.Key2 × Addr × Value)} (r : KT H kvs xs) (k : SK.Key2) {y : V} {u : Value} (ry : RelV y u) :
    KT H (kvs.map fun kv => if kv.1 = k then (kv.1, y) else kv) (xs.map (putAt k u)) := by
  induction r with
  | nil => exact .nil
  | @cons p q ps qs h t ih =>
    rw [List.map_cons, List.map_cons]
    refine .cons ?_ ih
    obtain ⟨h1, h2, h3⟩ := h
    unfold putAt
    by_cases e : p.1 = k
    · rw [if_pos e, if_pos (h1.symm.trans e)]; exact ⟨h1, h2, ry⟩
    · rw [if_neg e, if_neg (fun z => e (h1.trans z))]; exact ⟨h1, h2, h3⟩
theorem KT.put {H : Hp} {kvs : List (SK.Key2 × V)} {xs : List (SK.Key2 × Addr × Value)} (r : KT H kvs xs) (k : SK.Key2) {b : Addr} {y : V} {u : Value} (hb : KeyAt H k b) (ry : RelV y u) :
    KT H (putK kvs k y) (storedH xs k b u) := by
  have e : (kvs.any fun kv => decide (kv.1 = k)) = (atKey xs k).isSome := by
    rw [valV_any, (r.val k).isSome_eq, Option.isSome_map]
  unfold putK storedH
  rw [e]
  by_cases q : (atKey xs k).isSome = true
  · rw [if_pos q, if_pos q]; exact r.repl k ry
  · rw [if_neg q, if_neg q]; exact Paired.snoc r ⟨rfl, hb, ry⟩
theorem KT.keeps {H H' : Hp} {kvs : List (SK.Key2 × V)} {xs : List (SK.Key2 × Addr × Value)} (r : KT H kvs xs) (ht : ∀ b ys, H b = some (.tup ys) → H' b = some (.tup ys)) : KT H' kvs xs :=
  Paired.mapP r fun _ _ z => ⟨z.1, z.2.1.keeps ht, z.2.2⟩

section
variable {P : Program} {w : World} {H : Hp} {h : Heap} {a : Addr}
theorem rd_of {u : HO} (ok : HOk P w H h) (e : Rd H a u) : ObjOk P w H h a u := e.ok ok
theorem dk_rd {kvs : List (Key × V)} (ok : HOk P w H h) (e : Rd H a (.dK kvs)) : kvs.length ≤ sizeLine ∧ (a == sysModules) = false ∧ ∃ vs, KV kvs vs ∧ h.DictOf (mixKind P w) a vs :=
  show ObjOk P w H h a (.dK kvs) from rd_of ok e
theorem dk_of {kvs : List (Key × V)} (ok : HOk P w H h) (e : H a = some (.dK kvs)) : kvs.length ≤ sizeLine ∧ (a == sysModules) = false ∧ ∃ vs, KV kvs vs ∧ h.DictOf (mixKind P w) a vs := dk_rd ok (.inl e)
theorem key_of {ks : SK.Key2} (ok : HOk P w H h) (e : KeyAt H ks a) : (SK.stKind P w).is h ks a := by
  obtain ⟨b, e1, e2⟩ := e
  obtain ⟨_, its, r, o, h1, h2, n, h3⟩ := (show ObjOk P w H h a (.tup [.int ks.1, .ref b]) from ok a _ e1)
  obtain ⟨_, its', r', o', h1', h2', n', h3'⟩ := (show ObjOk P w H h b (.tup (ks.2.map V.bl)) from ok b _ e2)
  cases r with
  | cons ra r => cases r with
    | cons rb r =>
      cases r
      obtain ⟨t, rfl⟩ := (show ∃ t, _ = Value.int ks.1 t from ra)
      obtain rfl := (show _ = Value.ref b from rb)
      exact ⟨o, n, t, b, h1, h2, h3.1, o', its'.toArray, n', h1', h2', h3'.1, by simpa using bools_are r'⟩
theorem dt_rd {kvs : List (SK.Key2 × V)} (ok : HOk P w H h) (e : Rd H a (.dT kvs)) : kvs.length ≤ sizeLine ∧ (a == sysModules) = false ∧
    ∃ xs, KT H kvs xs ∧ h.DictOfH (SK.stKind P w) a xs := by
  obtain ⟨z, y, xs, r, o, es, ep, h1, h2, h3, h4, h5⟩ := (show ObjOk P w H h a (.dT kvs) from rd_of ok e)
  refine ⟨z, y, xs, r, o, es, ep, h1, h2, h3, h4, fun x hx => ?_, h5⟩
  have all : ∀ {l : List (SK.Key2 × V)} {m : List (SK.Key2 × Addr × Value)}, KT H l m → ∀ x ∈ m, (SK.stKind P w).is h x.1 x.2.1 := by
    intro l m q
    induction q with
    | nil => intro x hx; exact nomatch hx
    | @cons p q ps qs hq t ih =>
      intro x hx
      rcases List.mem_cons.mp hx with e | hx
      · subst e
        exact key_of ok (by rw [← hq.1]; exact hq.2.1)
      · exact ih x hx
  exact all r x hx
theorem dt_of {kvs : List (SK.Key2 × V)} (ok : HOk P w H h) (e : H a = some (.dT kvs)) : kvs.length ≤ sizeLine ∧ (a == sysModules) = false ∧
    ∃ xs, KT H kvs xs ∧ h.DictOfH (SK.stKind P w) a xs := dt_rd ok (.inl e)
end

noncomputable def DGet (H : Hp) (a : Addr) (y : V) (r : Option V) : Prop :=
  (∃ kvs k, Rd H a (.dK kvs) ∧ y = kV k ∧ r = valV kvs k) ∨ ∃ kvs k b, Rd H a (.dT kvs) ∧ y = .ref b ∧ KeyAt H k b ∧ r = valV kvs k
noncomputable def DPut (H : Hp) (a : Addr) (y v : V) (H' : Hp) : Prop :=
  (∃ kvs k, H a = some (.dK kvs) ∧ y = kV k ∧ kvs.length < sizeLine ∧ H' = upd H a (.dK (putK kvs k v))) ∨
  ∃ kvs k b, H a = some (.dT kvs) ∧ y = .ref b ∧ KeyAt H k b ∧ kvs.length < sizeLine ∧ H' = upd H a (.dT (putK kvs k v))
theorem DGet.k {H : Hp} {a : Addr} {kvs : List (Key × V)} {k : Key} (e : H a = some (.dK kvs)) : DGet H a (kV k) (valV kvs k) := .inl ⟨kvs, k, .inl e, rfl, rfl⟩
theorem DGet.t {H : Hp} {a b : Addr} {kvs : List (SK.Key2 × V)} {k : SK.Key2} (e : H a = some (.dT kvs)) (eb : KeyAt H k b) : DGet H a (.ref b) (valV kvs k) := .inr ⟨kvs, k, b, .inl e, rfl, eb, rfl⟩
theorem DPut.k {H : Hp} {a : Addr} {kvs : List (Key × V)} {k : Key} {v : V} (e : H a = some (.dK kvs)) (hl : kvs.length < sizeLine) : DPut H a (kV k) v (upd H a (.dK (putK kvs k v))) := .inl ⟨kvs, k, e, rfl, hl, rfl⟩
theorem DPut.t {H : Hp} {a b : Addr} {kvs : List (SK.Key2 × V)} {k : SK.Key2} {v : V} (e : H a = some (.dT kvs)) (eb : KeyAt H k b) (hl : kvs.length < sizeLine) :
    DPut H a (.ref b) v (upd H a (.dT (putK kvs k v))) := .inr ⟨kvs, k, b, e, rfl, eb, hl, rfl⟩

section
variable {X : Cx} {pins : List (Addr × Obj)} {σ : St} {H : Hp} {s : Shared} {a : Addr} {y v : V} {u r : Value} {o : Option V} {A : Around} {E : Value → Shared → Prop}

theorem Inv.big (I : Inv X pins σ H s) : sysModules < s.heap.objs.size := by
  have h : mainGlobals < s.heap.objs.size := (I.mod.glob.keeps I.bk).lt
  exact Nat.lt_trans (by decide) h

theorem d_notIn {Q : Value → Shared → Prop} (hu : A.units + 2 < cLine) (I : Inv X pins σ H s) (g : DGet H a y o) (ry : RelV y u) (h : ∀ s', Inv X pins σ H s' → Q (.bool (!o.isSome)) s') :
    wpAny (model X.prog X.w) A (compareOp .NotIn u (.ref a)) Q E s := by
  rcases g with ⟨kvs, k, e, ey, l⟩ | ⟨kvs, k, b, e, ey, eb, l⟩
  · subst ey
    obtain ⟨z, hd, vs, rel, dd⟩ := dk_rd I.hok e
    refine wpAny_notIn_of (kV_is ry) hd dd.mapOf ?_
    rw [← (rel.val k).isSome_eq, ← l]
    exact h _ (I.tok _)
  · subst ey
    cases (show u = Value.ref b from ry)
    obtain ⟨z, hd, xs, rel, dd⟩ := dt_rd I.hok e
    refine wpAny_notIn_heap (show (SK.stKind _ _).room A.in1 by show A.units + 1 + 1 < cLine; omega) (key_of I.hok eb) hd dd ?_
    have q := (rel.val k).isSome_eq
    rw [Option.isSome_map] at q
    rw [← q, ← l]
    exact h _ (I.tok _)
theorem d_write {h' : Heap} {t' : Nat} {ob : HO} (I : Inv X pins σ H s) (mu : Mut (H a)) (hs : Heap.SameBut a s.heap h') (he : ∃ q, h'.get? a = some q) (new : ObjOk X.prog X.w (upd H a ob) h' a ob) :
    Inv X pins σ (upd H a ob) { s with heap := h', toks := t' } :=
  I.write (x := a) (e := a) mu (.inl rfl) (fun b q hb z => (hs.2 b hb).trans z) he new
theorem dk_new {P : Program} {w : World} {H' : Hp} {h' : Heap} {kvs : List (Key × V)} {vs : List (Key × Value)} (z : kvs.length ≤ sizeLine) (hd : (a == sysModules) = false) (rel : KV kvs vs) (dd : h'.DictOf (mixKind P w) a vs) :
    ObjOk P w H' h' a (.dK kvs) := ⟨z, hd, vs, rel, dd⟩
theorem d_setItem {H' : Hp} {Q : Unit → Shared → Prop} (hu : A.units + 2 < cLine) (I : Inv X pins σ H s) (g : DPut H a y v H') (ry : RelV y u) (rv : RelV v r) (h : ∀ s', Inv X pins σ H' s' → Q () s') :
    wpAny (model X.prog X.w) A (setItem (.ref a) u r) Q E s := by
  rcases g with ⟨kvs, k, e, ey, l, eH⟩ | ⟨kvs, k, b, e, ey, eb, l, eH⟩
  · subst ey eH
    obtain ⟨z, hd, vs, rel, dd⟩ := dk_of I.hok e
    have hz : vs.length ≤ sizeLine := by rw [← rel.length]; exact z
    have hl : (putK kvs k v).length ≤ sizeLine := by have := length_putK kvs k v; omega
    refine wpAny_setItem_pairs (hsz := hz) (kV_is ry) dd fun h' dd' hs => h _ ?_
    have he : ∃ q, h'.get? a = some q := let ⟨q, _, _, hq, _⟩ := dd'; ⟨q, hq⟩
    exact d_write I (by rw [e]; exact True.intro) hs he (dk_new hl hd (rel.put k rv) dd')
  · subst ey eH
    cases (show u = Value.ref b from ry)
    obtain ⟨z, hd, xs, rel, dd⟩ := dt_of I.hok e
    have hz : xs.length ≤ sizeLine := by rw [← Paired.length rel]; exact z
    have hl : (putK kvs k v).length ≤ sizeLine := by have := length_putK kvs k v; omega
    refine wpAny_setItem_heap (hsz := hz) (show (SK.stKind _ _).room A.in1 by show A.units + 1 + 1 < cLine; omega) (key_of I.hok eb) dd fun h' dd' hs => h _ ?_
    obtain ⟨q, es, ep, hq, h2, h3, h4, _, h5⟩ := dd'
    refine d_write I (by rw [e]; exact True.intro) hs ⟨q, hq⟩ ⟨hl, hd, _, (rel.put k eb rv).keeps fun c ys ec => ?_, q, es, ep, hq, h2, h3, h4, h5⟩
    rw [upd_ne (ne_of ec e (fun z => nomatch z))]
    exact ec
end

section
variable {X : Cx} {pins : List (Addr × Obj)} {σ : St} {H : Hp} {s : Shared} {a : Addr} {kvs : List (Key × V)} {k : Key} {u : Value} {A : Around} {E : Value → Shared → Prop}
theorem d_pop {v : V} {more : List Value} {Q : Value → Shared → Prop} (I : Inv X pins σ H s) (e : H a = some (.dK kvs)) (ry : RelV (kV k) u) (l : valV kvs k = some v) (hm : more = [] ∨ ∃ x, more = [x])
    (h : ∀ w' s', Inv X pins σ (upd H a (.dK (dropK kvs k))) s' → RelV v w' → Q w' s') : wpAny (model X.prog X.w) A (call (.builtin "dict.pop") (.ref a :: u :: more)) Q E s := by
  obtain ⟨z, hd, vs, rel, dd⟩ := dk_of I.hok e
  obtain ⟨w', hw, rw'⟩ := RelO.some_of (v := v) (o := valueAt vs k) (by rw [← l]; exact rel.val k)
  have hp : (keyPart u).isSome = true := by
    cases k with
    | inl i => obtain ⟨t, q⟩ := (show ∃ t, u = Value.int i t from ry); subst q; rfl
    | inr x => obtain ⟨t, q⟩ := (show ∃ t, u = Value.str x t from ry); subst q; rfl
  have ha : argsOk "dict.pop" ⟨.ref a :: u :: more, []⟩ := by
    rcases hm with q | ⟨x, q⟩
    · subst q; exact PySem.F.args_dict_pop_2 _ _
    · subst q; exact PySem.F.args_dict_pop_3 _ _ _
  refine call_meetsIn PySem.F.slot_dict_pop dd.typeIs PySem.F.entry_dict_pop ha (meets_dict_pop_there (mixKind X.prog X.w) a (kV_is ry) more hm hp)
    ⟨vs, w', dd, by rw [← rel.length]; exact z, hw, fun h' dd' hs => h w' _ ?_ rw'⟩
  have he : ∃ q, h'.get? a = some q := let ⟨q, _, _, hq, _⟩ := dd'; ⟨q, hq⟩
  exact d_write I (by rw [e]; exact True.intro) hs he (dk_new (Nat.le_trans (dropK_le kvs k) z) hd (rel.drop k) dd')
theorem d_popD {r : Value} {Q : Value → Shared → Prop} (I : Inv X pins σ H s) (e : H a = some (.dK kvs)) (ry : RelV (kV k) u) (l : valV kvs k = none) (h : ∀ s', Inv X pins σ H s' → Q r s') :
    wpAny (model X.prog X.w) A (call (.builtin "dict.pop") [.ref a, u, r]) Q E s := by
  obtain ⟨z, hd, vs, rel, dd⟩ := dk_of I.hok e
  have hn : valueAt vs k = none := RelO.none_of (by rw [← l]; exact rel.val k)
  have hp : (keyPart u).isSome = true := by
    cases k with
    | inl i => obtain ⟨t, q⟩ := (show ∃ t, u = Value.int i t from ry); subst q; rfl
    | inr x => obtain ⟨t, q⟩ := (show ∃ t, u = Value.str x t from ry); subst q; rfl
  exact call_meetsIn PySem.F.slot_dict_pop dd.typeIs PySem.F.entry_dict_pop (PySem.F.args_dict_pop_3 _ _ _) (meets_dict_pop_default (mixKind X.prog X.w) a (kV_is ry) hd hp r) ⟨vs, dd, hn, h _ (I.tok _)⟩
end


noncomputable def tDNotIn (ty td : TE) : TE := fun σ H Q => ty σ H fun y H1 => td σ H1 fun x H2 => ∃ a o, x = .ref a ∧ DGet H2 a y o ∧ Q (.bl (!o.isSome)) H2
noncomputable def sDPut (td ty tv : TE) : TS := fun D σ H => tv σ H fun v H1 => td σ H1 fun x H2 => ty σ H2 fun y H3 => ∃ a H4, x = .ref a ∧ DPut H3 a y v H4 ∧ D.nx σ H4

section
variable {X : Cx} {o i e value : Expr} {pos pos' tpos : Pos} {td ty tv : TE}
theorem pc_dnotin (hu : X.A.units + 2 < cLine) (hi : PE X i ty) (ho : PE X o td) : PC X .NotIn i o (tDNotIn ty td) := by
  intro pins s σ H Q I h
  refine thn (hi pins s σ H _ I h) fun iv s1 hZq0 => ?_
  obtain ⟨y, H1, I1, ry, q1⟩ := hZq0
  refine thn (ho pins s1 σ H1 _ I1 q1) fun u s2 hZq1 => ?_
  obtain ⟨x, H2, I2, rx, a, ov, ex, g, q2⟩ := hZq1
  subst ex
  obtain rfl : u = Value.ref a := rx
  exact d_notIn hu I2 g ry fun s3 I3 => ⟨.bl (!ov.isSome), H2, I3, rfl, q2⟩
theorem ps_dput (hu : X.A.units + 2 < cLine) (ho : PE X o td) (hi : PE X i ty) (hv : PE X value tv) (hs : swapsWith value (some (.Subscript o i pos')) pos.line X.env = pure false) :
    PS X (.Assign [.Subscript o i pos'] value pos) (sDPut td ty tv) := by
  intro pins s σ H D I h
  refine wpAny_Assign_Subscript (thn (hv pins s σ H _ I h) fun r s1 hZq0 => ?_) hs
  obtain ⟨v, H1, I1, rv, q1⟩ := hZq0
  refine thn (ho pins s1 σ H1 _ I1 q1) fun u s2 hZq1 => ?_
  obtain ⟨x, H2, I2, rx, q2⟩ := hZq1
  refine thn (hi pins s2 σ H2 _ I2 q2) fun iv s3 hZq2 => ?_
  obtain ⟨y, H3, I3, ry, a, H4, ex, g, q3⟩ := hZq2
  subst ex
  obtain rfl : u = Value.ref a := rx
  exact d_setItem hu I3 g ry rv fun s4 I4 => ⟨σ, H4, I4, q3⟩
end

theorem dk_empty {P : Program} {w : World} {H : Hp} (h : Heap) (hb : sysModules < h.objs.size) : ObjOk P w H (h.push { cls := .type "dict", data := .dict #[] }) h.objs.size (.dK []) :=
  ⟨Nat.zero_le _, beq_eq_false_iff_ne.mpr (Ne.symm (Nat.ne_of_lt hb)), [], .nil, Heap.DictOf.new h⟩
theorem dt_empty {P : Program} {w : World} {H : Hp} (h : Heap) (hb : sysModules < h.objs.size) : ObjOk P w H (h.push { cls := .type "dict", data := .dict #[] }) h.objs.size (.dT []) :=
  ⟨Nat.zero_le _, beq_eq_false_iff_ne.mpr (Ne.symm (Nat.ne_of_lt hb)), [], .nil, _, #[], 0, Heap.get?_push_size _ rfl, ⟨rfl, rfl, rfl⟩, rfl, rfl, List.nodup_nil⟩
noncomputable def tDNewT : TE := fun _ H Q => ∀ p, H p = none → Q (.ref p) (upd H p (.dT []))
section
variable {X : Cx} {pos : Pos}
theorem pe_dnewT : PE X (.Dict [] [] pos) tDNewT := fun pins s σ H Q I h =>
  wpAny_Dict_empty ⟨.ref s.heap.objs.size, _, I.laid (a := s.heap.objs.size) (o := .dT []) (t' := s.toks) (fun _ _ q => Heap.get?_push_of_some _ q) (Nat.le_refl _) (dt_empty s.heap I.big), rfl, h _ (I.hok.fresh (Nat.le_refl _))⟩
end

noncomputable def tPairs : List (TE × TE) → St → Hp → (List (V × V) → Hp → Prop) → Prop
  | [], _, H, Q => Q [] H
  | (tk, tv) :: r, σ, H, Q => tk σ H fun x H1 => tv σ H1 fun y H2 => tPairs r σ H2 fun ps H3 => Q ((x, y) :: ps) H3
noncomputable abbrev VV : List (V × V) → List (Value × Value) → Prop := Paired fun p q => RelV p.1 q.1 ∧ RelV p.2 q.2
noncomputable def PPs (X : Cx) (pos : Pos) (keys : List (Option Expr)) (values : List Expr) (trs : List (TE × TE)) : Prop :=
  ∀ (pins : List (Addr × Obj)) (s : Shared) (σ : St) (H : Hp) (Q : List (V × V) → Hp → Prop), Inv X pins σ H s → tPairs trs σ H Q →
    wpAny (model X.prog X.w) X.A (evalPairs (pairTrees keys values X.env pos)) (fun vs s' => ∃ ps H', Inv X pins σ H' s' ∧ VV ps vs ∧ Q ps H') X.xe s
theorem pps_nil {X : Cx} {pos : Pos} : PPs X pos [] [] [] := fun pins s σ H Q I h => pairTrees_nil_walk ⟨[], H, I, .nil, h⟩
theorem pps_cons {X : Cx} {pos : Pos} {k v : Expr} {ks : List (Option Expr)} {vs : List Expr} {tk tv : TE} {trs : List (TE × TE)} (hk : PE X k tk) (hv : PE X v tv) (hr : PPs X pos ks vs trs) :
    PPs X pos (some k :: ks) (v :: vs) ((tk, tv) :: trs) := fun pins s σ H Q I h =>
  pairTrees_cons_walk (thn (hk pins s σ H _ I h) fun u s1 ⟨x, H1, I1, rx, q1⟩ => thn (hv pins s1 σ H1 _ I1 q1) fun w2 s2 ⟨y, H2, I2, ry, q2⟩ =>
    thn (hr pins s2 σ H2 _ I2 q2) fun ws s3 ⟨ps, H3, I3, rel, q3⟩ => ⟨(x, y) :: ps, H3, I3, .cons ⟨rx, ry⟩ rel, q3⟩)

noncomputable def mergeK (kvs more : List (Key × V)) : List (Key × V) := more.foldl (fun acc kv => putK acc kv.1 kv.2) kvs
theorem KV.merge : ∀ {more : List (Key × V)} {rs : List (Key × Value)} {kvs : List (Key × V)} {vs : List (Key × Value)}, KV more rs → KV kvs vs → KV (mergeK kvs more) (merged vs rs) := by
  intro more rs kvs vs r
  unfold KV at r
  induction r generalizing kvs vs with
  | nil => intro q; exact q
  | @cons p q ps qs h t ih =>
    intro r0
    have e : KV (putK kvs p.1 p.2) (stored vs q.1 q.2) := by
      have := r0.put p.1 h.2
      rw [← h.1]; exact this
    exact ih e
theorem length_mergeK : ∀ (more kvs : List (Key × V)), (mergeK kvs more).length ≤ kvs.length + more.length
  | [], kvs => by show kvs.length ≤ kvs.length + 0; omega
  | p :: r, kvs => by
    have h1 := length_mergeK r (putK kvs p.1 p.2)
    have h2 := length_putK kvs p.1 p.2
    show (mergeK (putK kvs p.1 p.2) r).length ≤ _
    rw [List.length_cons]; omega
theorem carries_of {P : Program} {w : World} : ∀ {kvs : List (Key × V)} {ws : List (Value × Value)}, VV (kvs.map fun kv => (kV kv.1, kv.2)) ws → ∃ rs, Carries (mixKind P w) ws rs ∧ KV kvs rs
  | [], _, r => by rw [List.map_nil] at r; cases r; exact ⟨[], True.intro, .nil⟩
  | p :: kvs, _, r => by
    rw [List.map_cons] at r
    cases r with
    | @cons a b as bs h t =>
      obtain ⟨rs, c, q⟩ := carries_of (P := P) (w := w) t
      obtain ⟨b1, b2⟩ := b
      exact ⟨(p.1, b2) :: rs, ⟨kV_is h.1, rfl, c⟩, .cons ⟨rfl, h.2⟩ q⟩
noncomputable def tDisp (trs : List (TE × TE)) : TE := fun σ H Q => ∀ p, H p = none → tPairs trs σ (upd H p (.dK [])) fun ps H2 => H2 p = some (.dK []) ∧ ∃ kvs : List (Key × V), ps = kvs.map (fun kv => (kV kv.1, kv.2)) ∧ kvs.length ≤ 15 ∧ Q (.ref p) (upd H2 p (.dK (mergeK [] kvs)))
theorem pe_disp {X : Cx} {pos : Pos} {keys : List (Option Expr)} {values : List Expr} {trs : List (TE × TE)} (h : PPs X pos keys values trs) (hall : keys.all (·.isSome) = true) (hl : keys.length = values.length) (h0 : keys ≠ [])
    (h15 : keys.length ≤ 15) : PE X (.Dict keys values pos) (tDisp trs) := by
  intro pins s σ H Q I q
  have hn := I.hok.fresh (Nat.le_refl s.heap.objs.size)
  have I1 := I.laid (a := s.heap.objs.size) (o := .dK []) (h' := s.heap.push { cls := .type "dict", data := .dict #[] }) (t' := s.toks) (fun _ _ q => Heap.get?_push_of_some _ q) (Nat.le_refl _) (dk_empty s.heap I.big)
  refine wpAny_Dict_walk (knd := mixKind X.prog X.w) hall hl h0 h15 (thn (h pins _ σ _ _ I1 (q _ hn)) fun ws s2 hZq0 => ?_)
  obtain ⟨ps, H2, I2, rel, e, kvs, ep, lk, q2⟩ := hZq0
  subst ep
  obtain ⟨rs, c, rk⟩ := carries_of (P := X.prog) (w := X.w) rel
  obtain ⟨z, hd, vs0, r0, dd⟩ := dk_of I2.hok e
  cases r0
  refine ⟨rs, c, dd, fun h' dd' hs => ⟨.ref s.heap.objs.size, _, ?_, rfl, q2⟩⟩
  have hz : (mergeK [] kvs).length ≤ sizeLine := by
    have h1 := length_mergeK kvs []
    rw [List.length_nil] at h1
    rw [sizeLine_eq]; omega
  have he : ∃ q, h'.get? s.heap.objs.size = some q := let ⟨q, _, _, hq, _⟩ := dd'; ⟨q, hq⟩
  exact d_write I2 (by rw [e]; exact True.intro) hs he (dk_new hz hd (rk.merge .nil) dd')

structure M2 (X : Cx) (o : Expr) (m : Str) (apos : Pos) (e f : Expr) (cpos : Pos) : Prop where
  base : attributeBase o m X.env (eval o X.env) = eval o X.env
  few : ((backTo cpos (starEach [e, f] X.env)).all (fun x => !x.1) && (backToKw cpos (keywordEach [] X.env)).all (fun x => x.1.isSome)
    && decide (([e, f] : List Expr).length + ([] : List Keyword).length + (if ([] : List Keyword).isEmpty then 0 else 1) < 30)) = true
  line : (apos.endLine == cpos.line) = true
  trees : backTo cpos (starEach [e, f] X.env) = [(false, eval e X.env), (false, eval f X.env)]

noncomputable def IsD (H : Hp) (a : Addr) : Prop := (∃ kvs, Rd H a (.dK kvs)) ∨ ∃ kvs, Rd H a (.dT kvs)
theorem isD_at {X : Cx} {pins : List (Addr × Obj)} {σ : St} {H : Hp} {s : Shared} {a : Addr} (I : Inv X pins σ H s) (d : IsD H a) :
    s.TypeIs (.ref a) "dict" ∧ (∀ b, Value.ref a = .ref b → ∃ ob, s.heap.get? b = some ob ∧ ob.dict = none) ∧ (a == sysModules) = false := by
  rcases d with ⟨kvs, e⟩ | ⟨kvs, e⟩
  · obtain ⟨_, hd, vs, _, dd⟩ := dk_rd I.hok e
    refine ⟨dd.typeIs, fun b q => ?_, hd⟩
    cases q
    obtain ⟨ob, _, _, h1, h2, _⟩ := dd
    exact ⟨ob, h1, h2.2.1⟩
  · obtain ⟨_, hd, xs, _, dd⟩ := dt_rd I.hok e
    refine ⟨dd.typeIs, fun b q => ?_, hd⟩
    cases q
    obtain ⟨ob, _, _, h1, h2, _⟩ := dd
    exact ⟨ob, h1, h2.2.1⟩

section
variable {X : Cx} {pins : List (Addr × Obj)} {σ : St} {H : Hp} {s : Shared} {a : Addr} {y d : V} {u r : Value} {o : Option V} {A : Around} {E : Value → Shared → Prop}
end

noncomputable def tDPop2 (td ty tx : TE) : TE := fun σ H Q => td σ H fun x H1 => ∃ a, x = .ref a ∧ IsD H1 a ∧ ty σ H1 fun y H2 => tx σ H2 fun z H3 => ∃ kvs k, H3 a = some (.dK kvs) ∧ y = kV k ∧
  (∀ v, valV kvs k = some v → Q v (upd H3 a (.dK (dropK kvs k)))) ∧ (valV kvs k = none → Q z H3)
section
variable {X : Cx} {o e f : Expr} {apos cpos : Pos} {td ty tx : TE}
theorem pe_dpop2 (ho : PE X o td) (he : PE X e ty) (hf : PE X f tx) (m : M2 X o "pop" apos e f cpos) : PE X (.Call (.Attribute o "pop" apos) [e, f] [] cpos) (tDPop2 td ty tx) := by
  intro pins s σ H Q I h
  refine wpAny_Call_method m.base m.few m.line PySem.F.plainAttrs_dict PySem.F.slot_dict_pop PySem.F.type_dict_pop (thn (ho pins s σ H _ I h) fun u s1 hZq0 => ?_)
  obtain ⟨x, H1, I1, rx, a, ex, d, q1⟩ := hZq0
  subst ex
  obtain rfl : u = Value.ref a := rx
  obtain ⟨t1, t2, _⟩ := isD_at I1 d
  refine ⟨t1, t2, ?_⟩
  rw [m.trees]
  refine Calls.callWith_builtin rfl (Calls.evalArgs_plain (Calls.spliced_cons (thn (he pins s1 σ H1 _ I1 q1) fun iv s2 ⟨y, H2, I2, ry, q2⟩ =>
    Calls.spliced_cons (thn (hf pins s2 σ H2 _ I2 q2) fun fv s3 ⟨z, H3, I3, rz, kvs, k, ea, ey, q3, q4⟩ => Calls.spliced_nil ?_))))
  subst ey
  cases l : valV kvs k with
  | some v => exact d_pop I3 ea ry l (.inr ⟨fv, rfl⟩) fun w' s4 I4 rw' => ⟨v, _, I4, rw', q3 v l⟩
  | none => exact d_popD I3 ea ry l fun s4 I4 => ⟨z, H3, I4, rz, q4 l⟩
end

section
variable {X : Cx} {pins : List (Addr × Obj)} {σ : St} {H : Hp} {s : Shared} {a : Addr} {kvs : List (Key × V)} {A : Around} {E : Value → Shared → Prop}
end

section
variable {X : Cx} {pins : List (Addr × Obj)} {σ : St} {H : Hp} {s : Shared} {a : Addr} {y : V} {u : Value} {A : Around} {E : Value → Shared → Prop}
end
end L2

namespace L2
open PySem PySem.Spec PyProof.Rows

section
variable {prog : Program} {w : World} {A : Around} {E : Value → Shared → Prop}

end

section
variable {X : Cx}
end
end L2

namespace L2
open PySem PySem.Spec PyProof.Rows

section
variable {X : Cx} {pins : List (Addr × Obj)} {σ : St} {H : Hp} {s : Shared} {h' : Heap}
theorem Inv.turnedNew {t' : Nat} {ch : List Addr} {T : Addr} {ob : HO} (I : Inv X pins σ H s) (k : ∀ b o, b ∉ ch → s.heap.get? b = some o → h'.get? b = some o) (hf : ∀ b ∈ ch, FpOk X pins H b) (hT : s.heap.objs.size ≤ T)
    (new : ObjOk X.prog X.w (upd H T ob) h' T ob) : Inv X pins σ (upd H T ob) { s with heap := h', toks := t' } := by
  have hn : H T = none := I.hok.fresh hT
  have nit : ∀ b u, H b = some u → b ∉ ch := fun b u e z => by
    have q := (hf b z).1
    rw [q] at e; cases e
  refine I.step (g' := s.gens) (d' := s.drawn) (ch := ch) (fun b hb => ⟨(hf b hb).2.2.2.1, (hf b hb).2.1, (hf b hb).2.2.2.2.1, (hf b hb).2.2.2.2.2⟩) (fun b o _ _ hc e _ => k b o hc e) (fun b o _ _ hc e _ => ⟨o.slots, k b o hc e⟩)
    (fun b o _ e n => ?_) (fun b o hc e => ⟨o, k b o hc e⟩) (fun b xs e => ?_) (fun b o u e => ?_) (fun b ps e => ⟨#[], ?_⟩) (fun m hm => ?_) (fun b u e => ?_) I.bare
  · rw [upd_ne (Nat.ne_of_lt (Nat.lt_of_lt_of_le (Heap.lt_size e) hT))]; exact n
  · rw [upd_ne (ne_of_none e hn)]; exact e
  · rw [upd_ne (ne_of_none e hn)]; exact e
  · rw [upd_ne (ne_of_none e hn), e]; simp
  · obtain ⟨o, es, ep, ho, r⟩ := hm
    exact ⟨o, es, ep, k _ o (fun z => (hf _ z).2.1 rfl) ho, r⟩
  · by_cases hb : b = T
    · subst hb
      rw [upd_same] at e
      cases e
      exact new
    · rw [upd_ne hb] at e
      refine (I.hok b u e).stay (fun c v hc q => k c v ?_ q) (fun c q => by rw [upd_ne (ne_of_none q hn)]; exact q) fun c xs q => by rw [upd_ne (ne_of_none q hn)]; exact q
      rcases hc with z | z
      · rw [z]; exact nit b u e
      · exact nit c _ z

theorem Inv.lock {d : Addr} {u : HO} (I : Inv X pins σ H s) (h : H d = some u) (mu : Mut (some u)) : ∃ od, Inv X pins σ (upd H d (.frz od u)) s := by
  have x := I.hok d u h
  have ex : ∃ od, s.heap.get? d = some od := by
    cases u with
    | lst xs => obtain ⟨_, _, _, _, e⟩ := x; exact ⟨_, e⟩
    | dK kvs => obtain ⟨_, _, _, _, o, _, _, e, _⟩ := x; exact ⟨o, e⟩
    | dT kvs => obtain ⟨_, _, _, _, o, _, _, e, _⟩ := x; exact ⟨o, e⟩
    | set S n => obtain ⟨o, _, _, _, e, _⟩ := x; exact ⟨o, e⟩
    | ins C dx fs => obtain ⟨_, _, _, e, _⟩ := x; exact ⟨_, e⟩
    | ext φ => obtain ⟨_, ⟨_, e⟩, _⟩ := x; exact ⟨_, e⟩
    | _ => exact False.elim mu
  obtain ⟨od, e⟩ := ex
  have new : ObjOk X.prog X.w (upd H d (.frz od u)) s.heap d (.frz od u) := by
    refine ⟨e, x.stay (fun b v _ q => q) (fun b q => ?_) fun b xs q => ?_⟩
    · rw [upd_ne (fun z => by rw [z, h] at q; cases q; exact mu)]; exact q
    · rw [upd_ne (fun z => by rw [z, h] at q; cases q; exact mu)]; exact q
  exact ⟨od, I.write (x := d) (e := d) (t' := s.toks) (h' := s.heap) (by rw [h]; exact mu) (.inl rfl) (fun b v _ q => q) ⟨od, e⟩ new⟩
theorem Inv.nofrz {d : Addr} {u : HO} (I : Inv X pins σ H s) (h : H d = some u) (mu : Mut (some u)) : ∀ o' u', X.H_0 d ≠ some (.frz o' u') := fun o' u' e => by
  have q := I.base.frzs d o' u' e
  rw [h] at q
  cases q
  exact mu
theorem Inv.unlock {d : Addr} {od : Obj} {u : HO} (I : Inv X pins σ H s) (h : H d = some (.frz od u)) (hn : ∀ o' u', X.H_0 d ≠ some (.frz o' u')) : Inv X pins σ (upd H d u) s := by
  have neH : ∀ b o, H b = some o → (∀ o' u', o ≠ .frz o' u') → b ≠ d := fun b o e hne z => by
    rw [z, h] at e
    cases e
    exact hne _ _ rfl
  have neN : ∀ b, H b = none → b ≠ d := fun b e z => by rw [z, h] at e; cases e
  refine ⟨I.ok, I.os, I.bare, ⟨I.base.keep, I.base.slot, fun b o e n hx => ?_, I.base.there, fun b xs e => ?_, fun b o x e => ?_, fun b ps e => ?_⟩, I.loc, I.cell, ?_, fun x c e => ?_, fun p hp => ?_, fun b o e => ?_, I.len⟩
  · rw [upd_ne (neN b (I.base.free b o e n hx))]; exact I.base.free b o e n hx
  · have q := I.base.tups b xs e
    rw [upd_ne (neH b _ q (fun _ _ z => nomatch z))]; exact q
  · have q := I.base.frzs b o x e
    rw [upd_ne (fun z => by rw [z] at e; exact hn _ _ e)]; exact q
  · obtain ⟨m, q⟩ := I.base.tbls b ps e
    exact ⟨m, by rw [upd_ne (neH b _ q (fun _ _ z => nomatch z))]; exact q⟩
  · rw [upd_ne (neN _ I.free)]; exact I.free
  · rw [upd_ne (neN c (I.freeC x c e))]; exact I.freeC x c e
  · obtain ⟨e, n, r⟩ := I.pin p hp
    exact ⟨e, by rw [upd_ne (neN _ n)]; exact n, r⟩
  · by_cases hb : b = d
    · rw [hb, upd_same] at e
      cases e
      rw [hb]
      obtain ⟨_, x⟩ := I.hok d _ h
      exact x.stay (fun c v _ q => q) (fun c q => by rw [upd_ne (neH c _ q (fun _ _ z => nomatch z))]; exact q) fun c xs q => by rw [upd_ne (neH c _ q (fun _ _ z => nomatch z))]; exact q
    · rw [upd_ne hb] at e
      exact (I.hok b o e).stay (fun c v _ q => q) (fun c q => by rw [upd_ne (neH c _ q (fun _ _ z => nomatch z))]; exact q) fun c xs q => by rw [upd_ne (neH c _ q (fun _ _ z => nomatch z))]; exact q
end
noncomputable def tLock (t : TS) : TS := fun D σ H => ∃ d u, H d = some u ∧ Mut (some u) ∧ ∀ od, t ⟨fun σ' H' => H' d = some (.frz od u) ∧ D.nx σ' (upd H' d u), fun v H' => H' d = some (.frz od u) ∧ D.rt v (upd H' d u), fun σ' H' => H' d = some (.frz od u) ∧ D.bk σ' (upd H' d u), fun σ' H' => H' d = some (.frz od u) ∧ D.ct σ' (upd H' d u)⟩ σ (upd H d (.frz od u))
section
variable {X : Cx}
theorem ps_lock {st : Stmt} {t : TS} (h : PS X st t) : PS X st (tLock t) := by
  intro pins s σ H D I hw
  obtain ⟨d, u, hd, mu, hw⟩ := hw
  obtain ⟨od, I1⟩ := I.lock hd mu
  refine thn (h pins s σ _ _ I1 (hw od)) fun f s1 q => ?_
  cases f with
  | next => obtain ⟨σ', H', I2, e, q⟩ := q; exact ⟨σ', _, I2.unlock e (I.nofrz hd mu), q⟩
  | brk => obtain ⟨σ', H', I2, e, q⟩ := q; exact ⟨σ', _, I2.unlock e (I.nofrz hd mu), q⟩
  | cont => obtain ⟨σ', H', I2, e, q⟩ := q; exact ⟨σ', _, I2.unlock e (I.nofrz hd mu), q⟩
  | ret v => obtain ⟨x, σ', H', I2, r, e, q⟩ := q; exact ⟨x, σ', _, I2.unlock e (I.nofrz hd mu), r, q⟩

theorem pi_one {tg : Expr} {pins : List (Addr × Obj)} {σ : St} {H : Hp} {s : Shared} {R : It → Hp → Prop} {J : It} {tn : Nat → Heap → Prop} {tk : Nat} (I : Inv X pins σ H s) (o : Obj)
    (T : Turn X.prog X.w X.K tg J [s.heap.objs.size] s.heap.objs.size tn) (st : tn 0 (s.heap.push o)) (q : R J H) : PIE X pins σ tg R (.ref s.heap.objs.size) { s with heap := s.heap.push o, toks := tk } := by
  refine ⟨s.heap.objs.size, [s.heap.objs.size], tn, J, H, rfl, I.kept fun b ob e => Heap.get?_push_of_some _ e, T, st, fun b hb => ?_, q⟩
  have e : b = s.heap.objs.size := by simpa using hb
  subst e
  exact I.fpOk (Nat.le_refl _) (I.hok.fresh (Nat.le_refl _))
end

section
variable {X : Cx} {tg : Expr}
end

section
variable {X : Cx} {tg : Expr}
end


section
variable {prog : Program} {w : World} {A : Around} {E : Value → Shared → Prop} {s : Shared}
theorem iter_keys {d : Addr} {o : Obj} {es : Array DictEntry} {ep : Nat} {Q : Value → Shared → Prop} (hd : (d == sysModules) = false) (ho : s.heap.get? d = some o) (hc : o.ExactDict) (hdat : o.data = .dict es ep)
    (hQ : Q (.ref s.heap.objs.size) { s with heap := s.heap.push { cls := .type "dict_keyiterator", data := .fields #[.ref d, .int 0 0, .int es.size 0, .int ep 0] } }) :
    wpAny (model prog w) A (pyIter (.ref d)) Q E s := by
  have hT : s.TypeIs (.ref d) "dict" := ⟨o, ho, hc.1⟩
  refine wpAny_pyIter_slot hT F.slot_dict_iter (wpAny_call_entry F.slot_dict_iter hT F.entry_dict_iter ?_ (F.args_dict_iter_1 _))
  unfold Builtin.«dict.__iter__»
  refine wpAny_bind ?_
  unfold Builtin.Dict.dictSlotNone
  refine wpAny_bind (wpAny_notOrdered_dict hT ?_)
  show wpAny _ _ (pure (Value.ref d)) _ _ s
  refine wpAny_pure ?_
  show wpAny _ _ (Builtin.Dict.showsAll d >>= _) _ _ s
  unfold Builtin.Dict.showsAll
  rw [if_neg (by rw [hd]; exact Bool.false_ne_true)]
  refine wpAny_bind (wpAny_pure ?_)
  refine wpAny_bind (wpAny_dictEntries ho hdat ?_)
  refine wpAny_bind (wpAny_dictEpoch ho hdat ?_)
  refine wpAny_bind (wpAny_newObj_type (wpAny_pure ⟨_, rfl, "dict_keyiterator", _, ⟨_, Heap.get?_push_size _ rfl, rfl⟩, F.slot_dict_keyiterator_next.lookup, ?_⟩))
  simpa [rawInt] using hQ
theorem next_key_item {it d : Addr} {i n ep : Nat} {od : Obj} {es : Array DictEntry} {en : DictEntry} {Q : Option Value → Shared → Prop} (hit : s.heap.IsKeyIter it d i n ep) (hod : s.heap.get? d = some od) (hdd : od.data = .dict es ep)
    (hsz : es.size = n) (hx : es[i]? = some en) (hQ : ∀ h', h'.IsKeyIter it d (i + 1) n ep → Heap.SameBut it s.heap h' → Q (some en.key) { s with heap := h' }) : wpAny (model prog w) A (pyNext (.ref it)) Q E s := by
  obtain ⟨o, ho, hc, hd⟩ := id hit
  unfold pyNext
  refine wpAny_bind (wpAny_attempt (wpAny_callSpecial?_slot (name := Str.ofString "__next__") hit.typeIs F.slot_dict_keyiterator_next
    (wpAny_call_entry F.slot_dict_keyiterator_next hit.typeIs F.entry_dict_keyiterator_next ?_ (F.args_dict_keyiterator_next_1 _))))
  refine wpAny_bind (wpAny_pure ?_)
  refine wpAny_bind ?_
  refine wpAny_bind ?_
  first | refine wpAny_bind (wpAny_typeNameOfWhole_keyiter hit.typeIs (wpAny_pure ?_)) | refine wpAny_bind (wpAny_typeNameOf_keyiter hit.typeIs (wpAny_pure ?_))
  refine wpAny_bind (wpAny_fieldsOf ho hd ?_)
  have hown : Builtin.Dict_items.ownsTuple "dict_keyiterator" = false := by decide
  simp only [hown, Bool.false_eq_true, if_false]
  show wpAny _ _ (if (Value.ref d == Value.none) = true then _ else _) _ _ s
  rw [if_neg (show ¬ ((Value.ref d == Value.none) = true) from Bool.false_ne_true)]
  refine wpAny_bind (wpAny_pure ?_)
  refine wpAny_bind (wpAny_dictEntries hod hdd ?_)
  rw [if_neg (by rw [hsz]; simp)]
  refine wpAny_bind (wpAny_pure ?_)
  refine wpAny_bind (wpAny_dictEpoch hod hdd ?_)
  rw [if_neg (by simp)]
  refine wpAny_pure ?_
  obtain ⟨hlt', hen⟩ := Array.getElem?_eq_some_iff.mp hx
  simp only [show ¬ ((i : Int) < 0) from by omega, if_false, Int.toNat_natCast, Array.getElem?_eq_getElem hlt']
  refine wpAny_bind ?_
  first | refine wpAny_bind (wpAny_typeNameOfWhole_keyiter hit.typeIs (wpAny_pure ?_)) | refine wpAny_bind (wpAny_typeNameOf_keyiter hit.typeIs (wpAny_pure ?_))
  refine wpAny_bind (wpAny_isOneOf_keyiter hit.typeIs ?_)
  show wpAny _ _ (setField (.ref it) 1 (rawInt ((i : Int) + 1)) >>= _) _ _ s
  refine wpAny_bind (wpAny_setField ho hd (by simp) ?_)
  have hit' : (s.heap.update it (Obj.mapFields (·.setIfInBounds 1 (rawInt ((i : Int) + 1))))).IsKeyIter it d (i + 1) n ep :=
    ⟨_, Heap.get?_update_self _ ho (Obj.isFreed_of_fields (Obj.data_mapFields hd _)), (Obj.cls_mapFields ..).trans hc, by rw [Obj.data_mapFields hd]; simp [rawInt]⟩
  refine wpAny_bind (wpAny_holding ?_)
  refine wpAny_bind (wpAny_isOneOf_keyiter (s := { s with heap := s.heap.update it (Obj.mapFields (·.setIfInBounds 1 (rawInt ((i : Int) + 1)))) }) hit'.typeIs ?_)
  show wpAny _ _ (pure es[i].key) _ _ _
  rw [hen]
  exact wpAny_pure (wpAny_pure ⟨_, rfl, wpAny_pure (hQ _ hit' (Heap.SameBut.update ..))⟩)
theorem next_key_end {it d : Addr} {i n ep : Nat} {od : Obj} {es : Array DictEntry} {Q : Option Value → Shared → Prop} (hh : A.handled = none) (hit : s.heap.IsKeyIter it d i n ep) (hod : s.heap.get? d = some od) (hdd : od.data = .dict es ep)
    (hsz : es.size = n) (hge : n ≤ i) (hQ : ∀ h', Heap.ExtBut it s.heap h' → Q none { s with heap := h' }) : wpAny (model prog w) A (pyNext (.ref it)) Q E s := by
  obtain ⟨o, ho, hc, hd⟩ := id hit
  unfold pyNext
  refine wpAny_bind (wpAny_attempt (wpAny_callSpecial?_slot (name := Str.ofString "__next__") hit.typeIs F.slot_dict_keyiterator_next
    (wpAny_call_entry F.slot_dict_keyiterator_next hit.typeIs F.entry_dict_keyiterator_next ?_ (F.args_dict_keyiterator_next_1 _))))
  refine wpAny_bind (wpAny_pure ?_)
  refine wpAny_bind ?_
  refine wpAny_bind ?_
  first | refine wpAny_bind (wpAny_typeNameOfWhole_keyiter hit.typeIs (wpAny_pure ?_)) | refine wpAny_bind (wpAny_typeNameOf_keyiter hit.typeIs (wpAny_pure ?_))
  refine wpAny_bind (wpAny_fieldsOf ho hd ?_)
  have hown : Builtin.Dict_items.ownsTuple "dict_keyiterator" = false := by decide
  simp only [hown, Bool.false_eq_true, if_false]
  show wpAny _ _ (if (Value.ref d == Value.none) = true then _ else _) _ _ s
  rw [if_neg (show ¬ ((Value.ref d == Value.none) = true) from Bool.false_ne_true)]
  refine wpAny_bind (wpAny_pure ?_)
  refine wpAny_bind (wpAny_dictEntries hod hdd ?_)
  rw [if_neg (by rw [hsz]; simp)]
  refine wpAny_bind (wpAny_pure ?_)
  refine wpAny_bind (wpAny_dictEpoch hod hdd ?_)
  rw [if_neg (by simp)]
  refine wpAny_pure ?_
  have hge' : es.size ≤ i := by rw [hsz]; exact hge
  simp only [show ¬ ((i : Int) < 0) from by omega, if_false, Int.toNat_natCast, Array.getElem?_eq_none hge']
  refine wpAny_bind ?_
  first | refine wpAny_bind (wpAny_typeNameOfWhole_keyiter hit.typeIs (wpAny_pure ?_)) | refine wpAny_bind (wpAny_typeNameOf_keyiter hit.typeIs (wpAny_pure ?_))
  show wpAny _ _ (setField (.ref it) 0 .none >>= _) _ _ s
  refine wpAny_bind (wpAny_setField ho hd (by simp) ?_)
  show wpAny _ _ (newExc (.type "StopIteration") [] >>= _) _ _ _
  refine wpAny_bind ?_
  simp only [newExc, newTuple]
  refine wpAny_bind (wpAny_newObj_type ?_ (by size_fits))
  refine wpAny_bind (m := firstArgMember _ _) (wpAny_of_eq (a := Value.none) (by first | rfl | (simp only [firstArgMember]; rfl)) ?_)
  refine wpAny_newObj_type ?_ (by size_fits)
  simp only [raiseNew]
  refine wpAny_bind (wpAny_handled ?_)
  rw [show A.in1.handled = none from hh]
  refine wpAny_bind (wpAny_pure (wpAny_throw ?_))
  refine wpAny_bind (wpAny_isInstance (T := "StopIteration") (b := true) ⟨_, Heap.get?_push_size _ rfl, rfl⟩ isSubtype_stop ?_)
  exact wpAny_pure (hQ _ (((Heap.SameBut.update ..).extBut.push _).push _))
end

theorem kv_get {κ : Type} {kvs : List (κ × V)} {vs : List (κ × Value)} (h : KV kvs vs) : ∀ {i : Nat} {k : κ} {v : V}, kvs[i]? = some (k, v) → ∃ u, vs[i]? = some (k, u) ∧ RelV v u := by
  unfold KV at h
  induction h with
  | nil => intro i k v e; simp at e
  | @cons a b l₁ l₂ r t ih =>
    intro i k v e
    cases i with
    | zero =>
      simp only [List.getElem?_cons_zero, Option.some.injEq] at e
      subst e
      refine ⟨b.2, ?_, r.2⟩
      simp only [List.getElem?_cons_zero]
      exact congrArg some (Prod.ext r.1.symm rfl)
    | succ j =>
      simp only [List.getElem?_cons_succ] at e ⊢
      exact ih e
theorem paired_get {α β : Type} {G : α → β → Prop} {l₁ : List α} {l₂ : List β} (h : Paired G l₁ l₂) : ∀ {i : Nat} {a : α}, l₁[i]? = some a → ∃ b, l₂[i]? = some b ∧ G a b := by
  induction h with
  | nil => intro i a e; simp at e
  | @cons a b l₁ l₂ r t ih =>
    intro i a' e
    cases i with
    | zero =>
      simp only [List.getElem?_cons_zero, Option.some.injEq] at e
      subst e
      exact ⟨b, rfl, r⟩
    | succ j =>
      simp only [List.getElem?_cons_succ] at e ⊢
      exact ih e
theorem relV_key {k : Key} {u : Value} (h : keyIs k u = true) : RelV (kV k) u := by
  rcases keyIs_shape h with ⟨i, t, rfl, rfl⟩ | ⟨x, t, rfl, rfl⟩
  · exact ⟨t, rfl⟩
  · exact ⟨t, rfl⟩
section
variable {X : Cx} {pins : List (Addr × Obj)} {σ : St} {H : Hp} {s : Shared} {d : Addr} {o : Obj}
theorem Inv.frzK {kvs : List (Key × V)} (I : Inv X pins σ H s) (h : H d = some (.frz o (.dK kvs))) :
    (d == sysModules) = false ∧ s.heap.get? d = some o ∧ o.ExactDict ∧ ∃ (es : Array DictEntry) (ep : Nat) (vs : List (Key × Value)), o.data = .dict es ep ∧ es.size = kvs.length ∧ KV kvs vs ∧ s.heap.DictAt (mixKind X.prog X.w) d vs ep := by
  obtain ⟨hd, z, hs, vs, kv, o', es, ep, ho, hx, hdt, r⟩ := I.hok d _ h
  rw [hd] at ho
  cases ho
  refine ⟨hs, hd, hx, es, ep, vs, hdt, ?_, kv, o, es, hd, hx, hdt, r⟩
  have l1 := r.2.1.length
  have l2 : kvs.length = vs.length := Paired.length kv
  rw [Array.length_toList] at l1
  omega
theorem Inv.frzT {kvs : List (SK.Key2 × V)} (I : Inv X pins σ H s) (h : H d = some (.frz o (.dT kvs))) :
    (d == sysModules) = false ∧ s.heap.get? d = some o ∧ o.ExactDict ∧ ∃ (es : Array DictEntry) (ep : Nat), o.data = .dict es ep ∧ es.size = kvs.length ∧
      ∀ (i : Nat) (k : SK.Key2) (v : V), kvs[i]? = some (k, v) → ∃ (en : DictEntry) (q : Addr), es[i]? = some en ∧ en.key = .ref q ∧ KeyAt H k q := by
  obtain ⟨hd, z, hs, xs, pr, o', es, ep, ho, hx, hdt, he, _⟩ := I.hok d _ h
  rw [hd] at ho
  cases ho
  refine ⟨hs, hd, hx, es, ep, hdt, ?_, fun i k v e => ?_⟩
  · have l1 : es.size = xs.length := size_of_entries he
    have l2 : kvs.length = xs.length := Paired.length pr
    omega
  · obtain ⟨b, hb, e1, e2, _⟩ := paired_get pr e
    have q := entry_at he i
    rw [hb] at q
    exact ⟨_, b.2.1, q, rfl, e2⟩
end

noncomputable def Itk (d : Addr) (o : Obj) (kvs : List (Key × V)) : It :=
  ⟨fun i H => H d = some (.frz o (.dK kvs)) ∧ i < kvs.length, fun i H x H' => H' = H ∧ ∃ k v, kvs[i]? = some (k, v) ∧ x = kV k, fun i H => H d = some (.frz o (.dK kvs)) ∧ kvs.length ≤ i⟩
noncomputable def Itkt (d : Addr) (o : Obj) (kvs : List (SK.Key2 × V)) : It :=
  ⟨fun i H => H d = some (.frz o (.dT kvs)) ∧ i < kvs.length, fun i H x H' => H' = H ∧ ∃ (k : SK.Key2) (v : V) (q : Addr), kvs[i]? = some (k, v) ∧ x = .ref q ∧ KeyAt H k q, fun i H => H d = some (.frz o (.dT kvs)) ∧ kvs.length ≤ i⟩
theorem dict_ep {o : Obj} {es es' : Array DictEntry} {ep ep' : Nat} (h : o.data = .dict es ep) (h' : o.data = .dict es' ep') : es' = es ∧ ep' = ep := by
  rw [h] at h'
  cases h'
  exact ⟨rfl, rfl⟩
section
variable {P : Program} {w : World} {K : PySem.W.Frag} {tg : Expr} {d : Addr} {o : Obj} {es : Array DictEntry} {ep : Nat}
theorem turn_keys {kvs : List (Key × V)} (it : Addr) (hod : o.data = .dict es ep) : Turn P w K tg (Itk d o kvs) [it] it (fun i h => h.IsKeyIter it d i kvs.length ep) where
  mem := by simp
  obj := fun i h st b hb => by
    have e : b = it := by simpa using hb
    subst e
    obtain ⟨oi, e, c, dd⟩ := st
    exact ⟨oi, e, fun v z => by rw [dd] at z; cases z⟩
  keep := fun i h h' st k => st.at fun oi e => k it (by simp) oi e
  item := by
    intro X hP hw hK hc i pins s σ H E I hf st hg
    subst hP hw hK
    obtain ⟨hd, hi⟩ := hg
    obtain ⟨f0, f1, f2, f3, f4, f5⟩ := hf it (by simp)
    obtain ⟨hs, hgd, hx, es', ep', vs, hdt, hsz, kv, hm⟩ := I.frzK hd
    obtain ⟨rfl, rfl⟩ := dict_ep hod hdt
    obtain ⟨⟨k, v⟩, hkv⟩ : ∃ p, kvs[i]? = some p := ⟨kvs[i], List.getElem?_eq_getElem hi⟩
    obtain ⟨u, hu, ru⟩ := kv_get kv hkv
    have hl : kvs.length = vs.length := Paired.length kv
    rw [hl] at st
    refine wpAny_pyNext_dict_item st hm hu fun key h' hkey st' sb => ?_
    have I1 : Inv X pins σ H { s with heap := h' } := I.turned (t' := s.toks) (fun b ob hb e => (sb.2 b hb).trans e) f0 f1 f3 f4 f5
    obtain ⟨oi, e, c, dd⟩ := id st'
    refine ⟨key, rfl, go_of (s := { s with heap := h' }) e c dd (by decide) ⟨kV k, H, I1, relV_key (show keyIs k key = true from hkey), ⟨rfl, k, v, hkv, rfl⟩, ?_, fun b hb => (hf b hb).1⟩⟩
    show h'.IsKeyIter it d (i + 1) kvs.length _
    rw [hl]
    exact st'
  done := by
    intro X hP hw hK hc i pins s σ H E I hf st hg
    subst hP hw hK
    obtain ⟨hd, hi⟩ := hg
    obtain ⟨f0, f1, f2, f3, f4, f5⟩ := hf it (by simp)
    obtain ⟨hs, hgd, hx, es', ep', vs, hdt, hsz, kv, hm⟩ := I.frzK hd
    obtain ⟨rfl, rfl⟩ := dict_ep hod hdt
    exact next_key_end (I.ok.hd hc) st hgd hdt hsz hi fun h' eb => ⟨rfl, I.turned (t' := s.toks) (fun b ob hb e => eb b ob hb e) f0 f1 f3 f4 f5⟩
  self := fun A i s Q E st h => wpAny_pyIter_keyiter st h
theorem turn_keysT {kvs : List (SK.Key2 × V)} (it : Addr) (hod : o.data = .dict es ep) : Turn P w K tg (Itkt d o kvs) [it] it (fun i h => h.IsKeyIter it d i kvs.length ep) where
  mem := by simp
  obj := fun i h st b hb => by
    have e : b = it := by simpa using hb
    subst e
    obtain ⟨oi, e, c, dd⟩ := st
    exact ⟨oi, e, fun v z => by rw [dd] at z; cases z⟩
  keep := fun i h h' st k => st.at fun oi e => k it (by simp) oi e
  item := by
    intro X hP hw hK hc i pins s σ H E I hf st hg
    subst hP hw hK
    obtain ⟨hd, hi⟩ := hg
    obtain ⟨f0, f1, f2, f3, f4, f5⟩ := hf it (by simp)
    obtain ⟨hs, hgd, hx, es', ep', hdt, hsz, ent⟩ := I.frzT hd
    obtain ⟨rfl, rfl⟩ := dict_ep hod hdt
    obtain ⟨⟨k, v⟩, hkv⟩ : ∃ p, kvs[i]? = some p := ⟨kvs[i], List.getElem?_eq_getElem hi⟩
    obtain ⟨en, q, hen, hkey, hq⟩ := ent i k v hkv
    refine next_key_item st hgd hdt hsz hen fun h' st' sb => ?_
    have I1 : Inv X pins σ H { s with heap := h' } := I.turned (t' := s.toks) (fun b ob hb e => (sb.2 b hb).trans e) f0 f1 f3 f4 f5
    obtain ⟨oi, e, c, dd⟩ := id st'
    exact ⟨en.key, rfl, go_of (s := { s with heap := h' }) e c dd (by decide) ⟨.ref q, H, I1, hkey, ⟨rfl, k, v, q, hkv, rfl, hq⟩, st', fun b hb => (hf b hb).1⟩⟩
  done := by
    intro X hP hw hK hc i pins s σ H E I hf st hg
    subst hP hw hK
    obtain ⟨hd, hi⟩ := hg
    obtain ⟨f0, f1, f2, f3, f4, f5⟩ := hf it (by simp)
    obtain ⟨hs, hgd, hx, es', ep', hdt, hsz, ent⟩ := I.frzT hd
    obtain ⟨rfl, rfl⟩ := dict_ep hod hdt
    exact next_key_end (I.ok.hd hc) st hgd hdt hsz hi fun h' eb => ⟨rfl, I.turned (t' := s.toks) (fun b ob hb e => eb b ob hb e) f0 f1 f3 f4 f5⟩
  self := fun A i s Q E st h => by
    refine wpAny_pyIter_slot st.typeIs F.slot_dict_keyiterator_iter (wpAny_call_entry F.slot_dict_keyiterator_iter st.typeIs F.entry_dict_keyiterator_iter ?_ (F.args_dict_keyiterator_iter_1 _))
    show wpAny _ _ (ret (.ref it)) _ _ s
    exact wpAny_pure ⟨_, rfl, "dict_keyiterator", _, st.typeIs, F.slot_dict_keyiterator_next.lookup, h⟩
end

noncomputable def iKeys (td : TE) : TI := fun σ H R => td σ H fun x H1 => ∃ d o, x = .ref d ∧ ((∃ kvs, H1 d = some (.frz o (.dK kvs)) ∧ R (Itk d o kvs) H1) ∨ ∃ kvs, H1 d = some (.frz o (.dT kvs)) ∧ R (Itkt d o kvs) H1)
section
variable {X : Cx} {tg e : Expr} {td : TE} {apos cpos : Pos}
theorem pi_keys (he : PE X e td) : PI X tg e (iKeys td) := by
  intro pins s σ H R I h
  refine thn (he pins s σ H _ I h) fun u s1 hZq0 => ?_
  obtain ⟨x, H1, I1, rx, d, o, ex, q⟩ := hZq0
  subst ex
  obtain rfl : u = Value.ref d := rx
  rcases q with ⟨kvs, hd, q⟩ | ⟨kvs, hd, q⟩
  · obtain ⟨hs, hgd, hx, es, ep, vs, hdt, hsz, kv, hm⟩ := I1.frzK hd
    refine iter_keys hs hgd hx hdt (pi_one (tk := s1.toks) I1 _ (turn_keys _ hdt) ⟨_, Heap.get?_push_size _ rfl, rfl, ?_⟩ q)
    rw [hsz] <;> rfl
  · obtain ⟨hs, hgd, hx, es, ep, hdt, hsz, ent⟩ := I1.frzT hd
    refine iter_keys hs hgd hx hdt (pi_one (tk := s1.toks) I1 _ (turn_keysT _ hdt) ⟨_, Heap.get?_push_size _ rfl, rfl, ?_⟩ q)
    rw [hsz] <;> rfl
end

end L2

section 
namespace Bits
open PySem PyProof.Rows

end Bits
end 

section 
namespace TL
open PySem PySem.Builtin PySem.Builtin.Str PySem.StrLaws





end TL
end 

namespace L2
open PySem PySem.Spec PyProof.Rows

section
variable {X : Cx} {pins : List (Addr × Obj)} {σ : St} {H : Hp} {s : Shared} {Q : VK}
end

section
variable {X : Cx}



end

section
variable {X : Cx} {o e : Expr} {to te : TE}

end
end L2

namespace L2
open PySem PySem.Spec PyProof.Rows

section
variable {X : Cx}
end


end L2

namespace Att
open PySem PySem.W PySem.Calls PyProof.Rows



section
variable {prog : Program} {w : World} {A : Around} {E : Value → Shared → Prop} {s : Shared} {K : Frag}


end
end Att

namespace L2
open PySem PySem.Spec PyProof.Rows

end L2

namespace L2
open PySem PySem.Spec PyProof.Rows

end L2

/- THE LAST THEOREM (shape; LID, My.* are yours):
   My.Adr: a structure of the addresses that your layer names (classes, functions); My.Txt K t: a structure (Prop) of the equations over K;
   My.txt_mk : {K} {implicit addresses ..} (e1 : nsIn K mainGlobals "law" = some (some (.ref f))) (e2 : K.lookup f = some ⟨oc, od, .func (fnOf "law" "law" params body scope dV kV doc pm an cdv ct), sl⟩) (e3 : codeIn K cdv "law" = true) .. : ∃ t, My.Txt K t

set_option maxRecDepth 100000 in
set_option maxHeartbeats 0 in
theorem PySem.Challenge.cw_LID_holds : PySem.Challenge.rw_LID.Holds := by
  w_on; o_law; k_head; (case hw => w_witness2)
  k_fill
  refine L2.walk_of (l := PySem.Challenge.rw_LID) (n := 63) (k := 40) (x := "script") (CX := fun w => ..) (sp := fun _ => My.sp_law) rfl (by decide) rfl ⟨rfl, by decide, by decide⟩ (fun w h Y => PySem.W.kIn_of Y) ?F ?S ?C
  case F =>
    intro w mg fa h KX G hmg
    have T : ∃ t, My.Txt (L2.KOf KX) t := by
      dsimp only [L2.KOf]                          -- K must stand as «<heap const> w.params» for k_is
      refine' My.txt_mk ?e1 ?e2 ?e3 ..
      (case e1 => PySem.W.k_is)                    -- in the order: a name -> its address -> its object -> its parts
      (case e2 => PySem.W.k_is)
      ..
    obtain ⟨t, T⟩ := T
    have e0 := hmg.symm.trans (PySem.W.mg_of KX G T.law)
    cases e0                                       -- fa is the law's own address
    exact ⟨_, fun s u => .of_eq rfl, fun base kb nb => My.law_fn T kb nb⟩     -- if «.of_eq rfl» comes too early: refine' ⟨_, ?b, fun base kb nb => My.law_fn T kb nb⟩; exact fun s u => .of_eq rfl
  case S => exact fun w H a ns hl hO hS => ..
  case C => exact ..
(the tactic k_is has no namespace: write k_is) -/

namespace L2
open PySem PySem.Spec PyProof.Rows

noncomputable def inClass (s : Stmt) (j : Nat) : Stmt := match s with
  | .ClassDef _ _ _ body _ _ _ _ _ _ _ => body.getD j (.Pass ⟨0, 0, 0, 0⟩)
  | _ => .Pass ⟨0, 0, 0, 0⟩
noncomputable def defArgs (s : Stmt) : Arguments := match s with
  | .FunctionDef _ a _ _ _ _ _ _ _ _ => a
  | _ => { posonlyargs := [], args := [], vararg := none, kwonlyargs := [], kw_defaults := [], kwarg := none, defaults := [] }
noncomputable def defBody (s : Stmt) : List Stmt := match s with
  | .FunctionDef _ _ b _ _ _ _ _ _ _ => b
  | _ => []
noncomputable def defScope (s : Stmt) : Scope := match s with
  | .FunctionDef _ _ _ _ _ _ sc _ _ _ => sc
  | _ => { kind := .function, names := [], isGenerator := false, isCoroutine := false }

noncomputable abbrev CX0 : CXT := fun _ _ _ _ _ _ => False
noncomputable abbrev E0 : XK := fun _ _ _ => False
theorem pass0 {X : Cx} : Passes CX0 X E0 := fun _ _ _ _ _ _ _ h => h.elim

structure Fun (K : PySem.W.Frag) (x qual : Str) (st : Stmt) (f : Addr) (fd : FuncData) : Prop where
  ex : ∃ (oc : Value) (od : Option Addr) (kV doc pm : Value) (an : Option Addr) (cdv ct : Value) (osl : Array (Option Value)),
    fd = PySem.W.fnOf x qual (defArgs st) (defBody st) (defScope st) .none kV doc pm an cdv ct ∧ K.lookup f = some ⟨oc, od, .func fd, osl⟩ ∧ PySem.W.codeIn K cdv qual = true
  kp : PySem.W.keepIn K (.ref f) = true
section
variable {P : Program} {w : World} {K : PySem.W.Frag} {mg : Str → Option Value} {base : Heap}
theorem Fun.ok {x qual : Str} {st : Stmt} {f : Addr} {fd : FuncData} {N ps : List Str} {k : Nat} {sp : Sp} (F : Fun K x qual st f fd) (S : FnScope N ps (defScope st)) (len : ∀ vs H Q E, sp vs H Q E → vs.length = ps.length)
    (hbody : ∀ (cdv : Value) (A : Around) (outer : List Env) (s : Shared) (H : Hp) (vs : List V) (Q : VK) (E : XK), Room k (A.deeper (envOfC qual (defScope st) s.heap.objs.size f cdv)) → sp vs H Q E →
      ∃ t, PSs (cxOf CX0 P w K mg base N qual (defScope st) f cdv A outer s H E).nox (defBody st) t ∧ t { nx := fun _ H' => Q .non H', rt := Q } (start N vs) H) : FnOk P w K mg base CX0 (k + 1) f fd ps sp := by
  obtain ⟨oc, od, kV, doc, pm, an, cdv, ct, osl, rfl, lk, hcd⟩ := F.ex
  refine fn_of lk hcd S len fun A outer s H vs Q E hr hsp => ?_
  obtain ⟨t, h, q⟩ := hbody cdv A outer s H vs Q E hr hsp
  exact ⟨t, h.nox, q⟩
theorem Fun.binds {x qual : Str} {st : Stmt} {f : Addr} {fd : FuncData} {ps : List Str} (F : Fun K x qual st f fd)
    (h : ∀ (kV doc pm : Value) (an : Option Addr) (cdv ct : Value) (us : List Value), us.length = ps.length → bindArgs (PySem.W.fnOf x qual (defArgs st) (defBody st) (defScope st) .none kV doc pm an cdv ct) ⟨us, []⟩ = pure (ps.zip us)) : Binds K fd ps [] := by
  obtain ⟨oc, od, kV, doc, pm, an, cdv, ct, osl, rfl, lk, hcd⟩ := F.ex
  exact .all (h kV doc pm an cdv ct)
theorem fun_mk {x qual : Str} {st : Stmt} {f : Addr} {oc : Value} {od an : Option Addr} {osl : Array (Option Value)} {kV doc pm cdv ct : Value} (l : K.lookup f = some ⟨oc, od, .func (PySem.W.fnOf x qual (defArgs st) (defBody st) (defScope st) .none kV doc pm an cdv ct), osl⟩)
    (c : PySem.W.codeIn K cdv qual = true) (k : PySem.W.keepIn K (.ref f) = true) : Fun K x qual st f (PySem.W.fnOf x qual (defArgs st) (defBody st) (defScope st) .none kV doc pm an cdv ct) := ⟨⟨oc, od, kV, doc, pm, an, cdv, ct, osl, rfl, l, c⟩, k⟩
end
theorem hu_of {A : Around} {k : Nat} (hr : Room k A) : A.units + 2 < cLine := Nat.lt_of_le_of_lt (Nat.add_le_add_left (by decide : 2 ≤ 64) _) hr.units
theorem small1000 {n : Nat} (h : n ≤ 1000) : n < sizeLine := Nat.lt_of_le_of_lt h (by decide)

section
variable {X : Cx}
theorem pv (i : Nat) {x : Str} {pos : Pos} (hN : X.N[i]? = some x := by rfl) (hv : Vis X.env.scope x := by first | exact Or.inl rfl | exact Or.inr (Or.inl rfl) | exact Or.inr (Or.inr rfl)) (hd : (x == ("__debug__" : Str)) = false := by decide)
    (hcd : (x == ("__classdict__" : Str)) = false := by decide) : PE X (.Name x pos) (tVar i) := pe_var hN hv hd hcd
end

theorem iteF {A B : Prop} (h : B) : if false = true then A else B := by
  rw [if_neg Bool.false_ne_true]
  exact h
theorem iteT {A B : Prop} (h : A) : if true = true then A else B := by
  rw [if_pos rfl]
  exact h

noncomputable def Same (H H' : Hp) : Prop := ∀ b o, H b = some o → H' b = some o
theorem Same.refl (H : Hp) : Same H H := fun _ _ h => h
theorem Same.trans {H H1 H2 : Hp} (a : Same H H1) (b : Same H1 H2) : Same H H2 := fun c o h => b c o (a c o h)
theorem Same.free {H H' : Hp} (e : Same H H') {l : Addr} (h : H' l = Option.none) : H l = Option.none := by
  cases q : H l with
  | none => rfl
  | some o =>
    rw [e l o q] at h
    cases h
theorem Same.seq {K : PySem.W.Frag} {H H' : Hp} {a : Addr} {xs : List V} (e : Same H H') (h : SqL K H a xs) : SqL K H' a xs := by
  rcases h with (h | ⟨o, h⟩) | h
  · exact .inl (.inl (e _ _ h))
  · exact .inl (.inr ⟨o, e _ _ h⟩)
  · exact .inr h

section
variable {κ : Type} [DecidableEq κ]
theorem valV_not {kvs : List (κ × V)} {k : κ} (h : valV kvs k = none) : ¬ k ∈ kvs.map (·.1) := by
  intro m
  obtain ⟨p, hp, e⟩ := List.mem_map.mp m
  have q : (kvs.any fun kv => decide (kv.1 = k)) = true := List.any_eq_true.mpr ⟨p, hp, decide_eq_true e⟩
  rw [valV_any, h] at q
  exact absurd q (by simp)
theorem valV_in {kvs : List (κ × V)} {k : κ} {v : V} (h : valV kvs k = some v) : k ∈ kvs.map (·.1) := by
  have q : (kvs.any fun kv => decide (kv.1 = k)) = true := by
    rw [valV_any, h]
    all_goals rfl
  obtain ⟨p, hp, e⟩ := List.any_eq_true.mp q
  exact List.mem_map.mpr ⟨p, hp, of_decide_eq_true e⟩
theorem dropK_pos {p : κ × V} {r : List (κ × V)} {k : κ} (e : p.1 = k) : dropK (p :: r) k = dropK r k := by
  unfold dropK
  rw [List.filter_cons, if_neg (by simp [e])]
theorem dropK_neg {p : κ × V} {r : List (κ × V)} {k : κ} (e : ¬ p.1 = k) : dropK (p :: r) k = p :: dropK r k := by
  unfold dropK
  rw [List.filter_cons, if_pos (by simp [e])]
end
theorem at_of {xs : List V} {z : Int} {j : Nat} {v : V} (e : z = (j : Int)) (h : xs[j]? = some v) : atI xs z = some v := by
  rw [e]
  exact atI_nat h
theorem nd_ix {α : Type} {l : List α} (hN : l.Nodup) {i j : Nat} {x : α} (a : l[i]? = some x) (b : l[j]? = some x) : i = j := by
  obtain ⟨h1, e1⟩ := List.getElem?_eq_some_iff.mp a
  obtain ⟨h2, e2⟩ := List.getElem?_eq_some_iff.mp b
  exact (List.getElem_inj hN).mp (e1.trans e2.symm)
theorem Same.made {H H1 : Hp} {x dx C : Addr} (nx : H x = Option.none) (nd : H dx = Option.none) (k : ∀ b o, (upd (upd H dx (.own x)) x (.ins C dx [])) b = some o → b ≠ x → H1 b = some o) : Same H H1 := fun b o e =>
  k b o (by rw [upd_ne (ne_of_none e nx), upd_ne (ne_of_none e nd)]; exact e) (ne_of_none e nx)
end L2
set_option Elab.async false
set_option compiler.extract_closed false
set_option genSizeOf false
set_option linter.all false
set_option maxRecDepth 100000
namespace L2
open PySem PySem.Spec PyProof.Rows

section
variable {prog : Program} {w : World} {K : Type} [DecidableEq K] {knd : HeapKind prog w K} {A : Around} {E : Value → Shared → Prop} {s : Shared} {d a : Addr} {k : K} {xs : List (K × Addr × Value)}
theorem setDef_heap {v : Value} {Q : Value → Shared → Prop} (hu : knd.room A) (hkey : knd.is s.heap k a) (hm : s.heap.DictOfH knd d xs) (hsz : xs.length ≤ sizeLine)
    (h1 : ∀ p, atKey xs k = some p → Q p.2 { s with toks := s.toks + knd.draws k })
    (h2 : atKey xs k = none → ∀ h', h'.DictOfH knd d (storedH xs k a v) → Heap.SameBut d s.heap h' → Q v { s with heap := h', toks := s.toks + knd.draws k }) :
    wpAny (model prog w) A (dictSetDefault d (.ref a) v) Q E s := by
  obtain ⟨o, es, ep, ho, hc, hd, he, his, hn⟩ := hm
  unfold dictSetDefault
  refine wpAny_holding (wpAny_bind (knd.pyHash hu hkey (wpAny_bind ?_)))
  refine wpAny_dictFind_heap (s := { s with toks := s.toks + knd.draws k }) hu hkey ho hd he his hn (fun hno => ?_) fun j p hj => ?_
  · have hnone := atKey_none_of_get hno
    have sb : Heap.SameBut d s.heap (s.heap.update d (Obj.mapDictKeys (·.push ⟨knd.hash k, .ref a, v⟩))) := Heap.SameBut.update ..
    have esz := size_of_entries he
    refine wpAny_bind (wpAny_rule (wpAny_bind (wpAny_updateDictKeys (hz := by omega) (s := { s with toks := s.toks + knd.draws k }) ho hd (wpAny_pure (h2 hnone _ ?_ sb)))))
    rw [storedH_new hnone]
    refine ⟨_, _, ep + 1, Heap.get?_update_self _ ho (Obj.isFreed_of_dict (Obj.data_mapDictKeys hd _)), hc.mapDictKeys _, Obj.data_mapDictKeys hd _, by simp [he, entryOfKey], fun x hx => ?_, ?_⟩
    · rcases List.mem_append.mp hx with hx | hx
      · exact knd.keeps (his x hx) ho hd sb
      · obtain rfl : x = (k, a, v) := by simpa using hx
        exact knd.keeps hkey ho hd sb
    · have hnot : k ∉ xs.map (·.1) := not_mem_keys_of_get hno
      rw [List.map_append]
      exact List.nodup_append.mpr ⟨hn, by simp, fun x hx y hy e => hnot (have hy' : y = k := (by simpa using hy); (by rw [← hy', ← e]; exact hx))⟩
  · refine wpAny_bind (wpAny_dictEntries (s := { s with toks := s.toks + knd.draws k }) ho hd ?_)
    rw [entry_at he j, hj]
    exact wpAny_bind (wpAny_rule (wpAny_pure (h1 p (atKey_of_get hn hj))))
theorem meets_setDef (knd : HeapKind prog w K) (d a : Addr) (hd : (d == sysModules) = false) (v : Value) :
    MeetsIn prog w (Builtin.«dict.setdefault» ⟨[.ref d, .ref a, v], []⟩) (fun A R s => knd.room A.in1 ∧ ∃ k xs, knd.is s.heap k a ∧ s.heap.DictOfH knd d xs ∧ xs.length ≤ sizeLine ∧
      (∀ p, atKey xs k = some p → R (.ok (.ret p.2)) { s with toks := s.toks + knd.draws k }) ∧
      (atKey xs k = none → ∀ h', h'.DictOfH knd d (storedH xs k a v) → Heap.SameBut d s.heap h' → R (.ok (.ret v)) { s with heap := h', toks := s.toks + knd.draws k })) :=
  .of_wp fun A R s hZ => by
    obtain ⟨hu, k, xs, hkey, hm, hz, h1, h2⟩ := hZ
    unfold Builtin.«dict.setdefault» Builtin.Dict.keyAndDefault
    refine wpAny_bind (wpAny_bind (wpAny_notOrdered_dict hm.typeIs ?_))
    refine wpAny_pure ?_
    show wpAny _ _ (if (d == sysModules) = true then _ else (dictSetDefault d (.ref a) v >>= _)) _ _ s
    rw [hd, if_neg Bool.false_ne_true]
    exact wpAny_bind (setDef_heap hu hkey hm hz (fun p hp => wpAny_pure ⟨_, rfl, h1 p hp⟩) fun hn h' hm' hs => wpAny_pure ⟨_, rfl, h2 hn h' hm' hs⟩)
end

section
variable {X : Cx} {pins : List (Addr × Obj)} {σ : St} {H : Hp} {s : Shared} {a : Addr} {y z : V} {u r : Value} {A : Around} {E : Value → Shared → Prop}
theorem d_setDef {Q : Value → Shared → Prop} {o : Option V} {H' : Hp} (hu : A.units + 2 < cLine) (I : Inv X pins σ H s) (g : DGet H a y o) (p : DPut H a y z H') (ry : RelV y u) (rz : RelV z r)
    (h1 : ∀ v w' s', o = some v → Inv X pins σ H s' → RelV v w' → Q w' s') (h2 : ∀ s', o = none → Inv X pins σ H' s' → Q r s') :
    wpAny (model X.prog X.w) A (call (.builtin "dict.setdefault") [.ref a, u, r]) Q E s := by
  rcases p with ⟨kvs, k, e, ey, l, eH⟩ | ⟨kvs, k, b, e, ey, eb, l, eH⟩
  · subst ey eH
    have ho : o = valV kvs k := by
      rcases g with ⟨kvs', k', e', ey', l'⟩ | ⟨kvs', k', b', e', ey', eb', l'⟩
      · rcases e' with e' | ⟨ob, e'⟩
        · rw [e] at e'; cases e'; rw [kV_inj ey']; exact l'
        · rw [e] at e'; cases e'
      · rcases e' with e' | ⟨ob, e'⟩
        · rw [e] at e'; cases e'
        · rw [e] at e'; cases e'
    obtain ⟨zz, hd, vs, rel, dd⟩ := dk_of I.hok e
    have hz : vs.length ≤ sizeLine := by rw [← rel.length]; exact zz
    have hl : (putK kvs k z).length ≤ sizeLine := by have := length_putK kvs k z; omega
    refine call_meetsIn PySem.F.slot_dict_setdefault dd.typeIs PySem.F.entry_dict_setdefault (PySem.F.args_dict_setdefault_3 _ _ _) (kt_meets_setdefault (mixKind X.prog X.w) a (kV_is ry) hd r)
      ⟨vs, dd, hz, fun w' hw => ?_, fun hn h' dd' hs => ?_⟩
    · obtain ⟨v, hv, rv⟩ : ∃ v, valV kvs k = some v ∧ RelV v w' := by
        have q := rel.val k
        rw [hw] at q
        cases hv : valV kvs k with
        | none => rw [hv] at q; exact q.elim
        | some v => rw [hv] at q; exact ⟨v, rfl, q⟩
      exact h1 v w' _ (ho.trans hv) (I.tok _) rv
    · have q := rel.val k
      rw [hn] at q
      have hv : valV kvs k = none := by
        cases hv : valV kvs k with
        | none => rfl
        | some v => rw [hv] at q; exact q.elim
      have he : ∃ q, h'.get? a = some q := let ⟨q, _, _, hq, _⟩ := dd'; ⟨q, hq⟩
      exact h2 _ (ho.trans hv) (d_write I (by rw [e]; exact True.intro) hs he (dk_new hl hd (rel.put k rz) dd'))
  · subst ey eH
    cases (show u = Value.ref b from ry)
    have ho : o = valV kvs k := by
      rcases g with ⟨kvs', k', e', ey', l'⟩ | ⟨kvs', k', b', e', ey', eb', l'⟩
      · rcases e' with e' | ⟨ob, e'⟩
        · rw [e] at e'; cases e'
        · rw [e] at e'; cases e'
      · rcases e' with e' | ⟨ob, e'⟩
        · rw [e] at e'; cases e'; cases ey'
          have := (key_of I.hok eb).inj (key_of I.hok eb')
          rw [this]; exact l'
        · rw [e] at e'; cases e'
    obtain ⟨zz, hd, xs, rel, dd⟩ := dt_of I.hok e
    have hz : xs.length ≤ sizeLine := by rw [← Paired.length rel]; exact zz
    have hl : (putK kvs k z).length ≤ sizeLine := by have := length_putK kvs k z; omega
    refine call_meetsIn PySem.F.slot_dict_setdefault dd.typeIs PySem.F.entry_dict_setdefault (PySem.F.args_dict_setdefault_3 _ _ _) (meets_setDef (SK.stKind X.prog X.w) a b hd r)
      ⟨show A.units + 1 + 1 < cLine by omega, k, xs, key_of I.hok eb, dd, hz, fun p hp => ?_, fun hn h' dd' hs => ?_⟩
    · have q := rel.val k
      rw [hp] at q
      obtain ⟨v, hv, rv⟩ : ∃ v, valV kvs k = some v ∧ RelV v p.2 := by
        cases hv : valV kvs k with
        | none => rw [hv] at q; exact q.elim
        | some v => rw [hv] at q; exact ⟨v, rfl, q⟩
      exact h1 v p.2 _ (ho.trans hv) (I.tok _) rv
    · have q := rel.val k
      rw [hn] at q
      have hv : valV kvs k = none := by
        cases hv : valV kvs k with
        | none => rfl
        | some v => rw [hv] at q; exact q.elim
      obtain ⟨q, es, ep, hq, g2, g3, g4, _, g5⟩ := dd'
      refine h2 _ (ho.trans hv) (d_write I (by rw [e]; exact True.intro) hs ⟨q, hq⟩ ⟨hl, hd, _, (rel.put k eb rz).keeps fun c ys ec => ?_, q, es, ep, hq, g2, g3, g4, g5⟩)
      rw [upd_ne (ne_of ec e (fun z => nomatch z))]
      exact ec
end

noncomputable def tDSet (td ty tx : TE) : TE := fun σ H Q => td σ H fun x H1 => ∃ a, x = .ref a ∧ IsD H1 a ∧ ty σ H1 fun y H2 => tx σ H2 fun z H3 => ∃ o H4, DGet H3 a y o ∧ DPut H3 a y z H4 ∧ (∀ v, o = some v → Q v H3) ∧ (o = none → Q z H4)
theorem pe_dset {X : Cx} {o e f : Expr} {apos cpos : Pos} {td ty tx : TE} (hu : X.A.units + 2 < cLine) (ho : PE X o td) (he : PE X e ty) (hf : PE X f tx) (m : M2 X o "setdefault" apos e f cpos) :
    PE X (.Call (.Attribute o "setdefault" apos) [e, f] [] cpos) (tDSet td ty tx) := by
  intro pins s σ H Q I h
  refine wpAny_Call_method m.base m.few m.line PySem.F.plainAttrs_dict PySem.F.slot_dict_setdefault PySem.F.type_dict_setdefault (thn (ho pins s σ H _ I h) fun u s1 hZ => ?_)
  obtain ⟨x, H1, I1, rx, a, ex, d, q1⟩ := hZ
  subst ex
  obtain rfl : u = Value.ref a := rx
  obtain ⟨t1, t2, _⟩ := isD_at I1 d
  refine ⟨t1, t2, ?_⟩
  rw [m.trees]
  refine Calls.callWith_builtin rfl (Calls.evalArgs_plain (Calls.spliced_cons (thn (he pins s1 σ H1 _ I1 q1) fun iv s2 hY => ?_)))
  obtain ⟨y, H2, I2, ry, q2⟩ := hY
  refine Calls.spliced_cons (thn (hf pins s2 σ H2 _ I2 q2) fun fv s3 hX => ?_)
  obtain ⟨z, H3, I3, rz, ov, H4, g, p, q3, q4⟩ := hX
  refine Calls.spliced_nil ?_
  exact d_setDef hu I3 g p ry rz (fun v w' s4 eo I4 rw' => ⟨v, H3, I4, rw', q3 v eo⟩) fun s4 eo I4 => ⟨z, H4, I4, rz, q4 eo⟩

noncomputable def tDisp1 (tk tv : TE) : TE := fun σ H Q => ∀ p, H p = none → tk σ (upd H p (.dT [])) fun x H1 => tv σ H1 fun y H2 => H2 p = some (.dT []) ∧ ∃ b k, x = .ref b ∧ KeyAt H2 k b ∧ Q (.ref p) (upd H2 p (.dT [(k, y)]))
theorem pe_disp1 {X : Cx} {pos : Pos} {k v : Expr} {tk tv : TE} (hu : X.A.units + 2 < cLine) (hk : PE X k tk) (hv : PE X v tv) : PE X (.Dict [some k] [v] pos) (tDisp1 tk tv) := by
  intro pins s σ H Q I q
  have hn := I.hok.fresh (Nat.le_refl s.heap.objs.size)
  have I1 := I.laid (a := s.heap.objs.size) (o := .dT []) (h' := s.heap.push { cls := .type "dict", data := .dict #[] }) (t' := s.toks) (fun _ _ q => Heap.get?_push_of_some _ q) (Nat.le_refl _) (dt_empty s.heap I.big)
  rw [arm_eval_Dict, zip_pairTrees [some k] [v] X.env pos rfl rfl, dictDisplay_pairs _ (by simp [pairTrees]) (by simp [pairTrees])]
  refine wpAny_bind (wpAny_standAt (wpAny_bind ?_))
  unfold subDict
  refine wpAny_bind (wpAny_alloc (wpAny_bind (wpAny_holding ?_)))
  rw [if_pos (by simp [pairTrees])]
  refine wpAny_bind (pairTrees_cons_walk (thn (hk pins _ σ _ _ I1 (q _ hn)) fun u s1 hZ => ?_))
  obtain ⟨x, H1, I1, rx, q1⟩ := hZ
  refine thn (hv pins s1 σ H1 _ I1 q1) fun w2 s2 hY => pairTrees_nil_walk ?_
  obtain ⟨y, H2, I2, ry, e, b, kk, ex, eb, q2⟩ := hY
  subst ex
  cases (show u = Value.ref b from rx)
  obtain ⟨z, hd, xs, rel, dd⟩ := dt_of I2.hok e
  cases rel
  refine wpAny_holding (wpAny_bind ?_)
  rw [List.forIn_cons]
  refine wpAny_bind (wpAny_bind (wpAny_dictSet_heap (hsz := by simp) (show (SK.stKind X.prog X.w).room X.A by show X.A.units + 1 < cLine; omega) (key_of I2.hok eb) dd fun h' dd' hs => wpAny_pure ?_))
  show wpAny _ _ (forIn ([] : List (Value × Value)) PUnit.unit _) _ _ _
  refine wpAny_pure (wpAny_pure (wpAny_pure (wpAny_pure ?_)))
  obtain ⟨q, es, ep, hq, g2, g3, g4, _, g5⟩ := dd'
  have new : ObjOk X.prog X.w (upd H2 s.heap.objs.size (.dT [(kk, y)])) h' s.heap.objs.size (.dT [(kk, y)]) := by
    refine ⟨by show 1 ≤ sizeLine; decide, hd, _, (KT.put (H := H2) .nil kk eb ry).keeps fun c ys ec => ?_, q, es, ep, hq, g2, g3, g4, g5⟩
    rw [upd_ne (ne_of ec e (fun z => nomatch z))]
    exact ec
  exact ⟨.ref s.heap.objs.size, _, d_write I2 (by rw [e]; exact True.intro) hs ⟨q, hq⟩ new, rfl, q2⟩
end L2
set_option Elab.async false
set_option compiler.extract_closed false
set_option genSizeOf false
set_option linter.all false
set_option maxRecDepth 100000
namespace L2
open PySem PySem.Spec PyProof.Rows

section
variable {prog : Program} {w : World} {A : Around} {E : Value → Shared → Prop} {s : Shared}
theorem dict_items_raw (d : Addr) (hd : (d == sysModules) = false) : MeetsIn prog w (Builtin.«dict.items» ⟨[.ref d], []⟩) (fun _ R s => s.TypeIs (.ref d) "dict" ∧
      R (.ok (.ret (.ref s.heap.objs.size))) { s with heap := s.heap.push { cls := .type "dict_items", data := .fields #[.ref d] } }) :=
  .of_wp fun A R s hZ => by
    obtain ⟨hT, h⟩ := hZ
    unfold Builtin.«dict.items» Builtin.Dict.noArgs
    refine wpAny_bind (wpAny_bind (wpAny_notOrdered_dict hT (wpAny_pure ?_)))
    show wpAny _ _ (Builtin.Dict.showsAll d >>= _) _ _ s
    unfold Builtin.Dict.showsAll
    rw [hd, if_neg Bool.false_ne_true]
    exact wpAny_bind (wpAny_pure (wpAny_bind (wpAny_newObj_type (wpAny_pure ⟨_, rfl, h⟩))))
theorem iter_items_raw {v d : Addr} {o : Obj} {es : Array DictEntry} {ep : Nat} {Q : Value → Shared → Prop} (hv : s.heap.IsItemsView v d) (ho : s.heap.get? d = some o) (hdat : o.data = .dict es ep)
    (hQ : Q (.ref s.heap.objs.size) { s with heap := s.heap.push { cls := .type "dict_itemiterator", data := .fields #[.none, .bool false, .ref d, .int 0 0, .int es.size 0, .int ep 0, .none, .none] } }) :
    wpAny (model prog w) A (pyIter (.ref v)) Q E s := by
  obtain ⟨ov, hov, hcv, hdv⟩ := id hv
  refine wpAny_pyIter_slot hv.typeIs F.slot_dict_items_iter (wpAny_call_entry F.slot_dict_items_iter hv.typeIs F.entry_dict_items_iter ?_ (F.args_dict_items_iter_1 _))
  unfold Builtin.«dict_items.__iter__»
  refine wpAny_bind (wpAny_pure (wpAny_bind ?_))
  unfold Builtin.Dict_items.dictOf
  refine wpAny_bind (wpAny_field hov hdv (x := .ref d) rfl (wpAny_pure (wpAny_bind ?_)))
  unfold Builtin.Dict_items.newIterator
  refine wpAny_bind (wpAny_dictEntries ho hdat (wpAny_bind (wpAny_dictEpoch ho hdat ?_)))
  have hown : Builtin.Dict_items.ownsTuple "dict_itemiterator" = true := by decide
  simp only [hown, if_true]
  refine wpAny_newObj_type (wpAny_pure ⟨_, rfl, "dict_itemiterator", _, ⟨_, Heap.get?_push_size _ rfl, rfl⟩, F.slot_dict_itemiterator_next.lookup, ?_⟩) (by simp [sizeOk, Builtin.Dict_items.ownedTupleFields, sizeLine_eq])
  simpa [rawInt, Builtin.Dict_items.ownedTupleFields] using hQ

section
variable {it d : Addr} {i n ep : Nat} {od : Obj} {es : Array DictEntry} {en : DictEntry} {ok ov : Value} {Q : Option Value → Shared → Prop}
theorem next_pair (hit : IsItemIter s.heap it d i n ep ok ov) (hod : s.heap.get? d = some od) (hdd : od.data = .dict es ep) (hsz : es.size = n) (hx : es[i]? = some en)
    (hQ : ∀ h', IsItemIterOut h' it d (i + 1) n ep en.key en.val s.heap.objs.size → h'.get? s.heap.objs.size = some { cls := .type "tuple", data := .seq #[en.key, en.val] } →
      (∀ b o, b ≠ it → s.heap.get? b = some o → h'.get? b = some o) → Q (some (.ref s.heap.objs.size)) { s with heap := h' }) : wpAny (model prog w) A (pyNext (.ref it)) Q E s := by
  obtain ⟨hp, g, dr, tk, os⟩ := s
  have hT : Shared.TypeIs ⟨hp, g, dr, tk, os⟩ (.ref it) "dict_itemiterator" := ⟨_, hit, rfl⟩
  have hown : Builtin.Dict_items.ownsTuple "dict_itemiterator" = true := by decide
  obtain ⟨hlt, hen⟩ := Array.getElem?_eq_some_iff.mp hx
  unfold pyNext
  refine wpAny_bind (wpAny_attempt (wpAny_callSpecial?_slot (name := Str.ofString "__next__") hT F.slot_dict_itemiterator_next
    (wpAny_call_entry F.slot_dict_itemiterator_next hT F.entry_dict_itemiterator_next ?_ (F.args_dict_itemiterator_next_1 _))))
  refine wpAny_bind (wpAny_pure (wpAny_bind (wpAny_bind ?_)))
  first | refine wpAny_bind (wpAny_typeNameOfWhole_itemiter hT (wpAny_pure (wpAny_bind (wpAny_fieldsOf hit rfl ?_)))) | refine wpAny_bind (wpAny_typeNameOf_itemiter hT (wpAny_pure (wpAny_bind (wpAny_fieldsOf hit rfl ?_))))
  simp only [hown, if_true]
  show wpAny _ _ (if (Value.ref d == Value.none) = true then _ else _) _ _ _
  rw [if_neg (show ¬ ((Value.ref d == Value.none) = true) from Bool.false_ne_true)]
  refine wpAny_bind (wpAny_pure (wpAny_bind (wpAny_dictEntries hod hdd ?_)))
  rw [if_neg (by rw [hsz]; simp)]
  refine wpAny_bind (wpAny_pure (wpAny_bind (wpAny_dictEpoch hod hdd ?_)))
  rw [if_neg (by simp)]
  refine wpAny_pure ?_
  simp only [show ¬ ((i : Int) < 0) from by omega, if_false, Int.toNat_natCast, Array.getElem?_eq_getElem hlt]
  rw [hen]
  refine wpAny_bind ?_
  first | refine wpAny_bind (wpAny_typeNameOfWhole_itemiter hT (wpAny_pure (wpAny_bind (wpAny_isOneOf_itemiter hT ?_)))) | refine wpAny_bind (wpAny_typeNameOf_itemiter hT (wpAny_pure (wpAny_bind (wpAny_isOneOf_itemiter hT ?_))))
  show wpAny _ _ (setField (.ref it) 3 (rawInt ((i : Int) + 1)) >>= _) _ _ ⟨hp, g, dr, tk, os⟩
  refine wpAny_bind (wpAny_setField_rec hit (by simp) fun h1 e1 s1 => ?_)
  replace s1 : Heap.SameBut it hp h1 := s1
  replace e1 : IsItemIter h1 it d (i + 1) n ep ok ov := by
    have e : ((i + 1 : Nat) : Int) = (i : Int) + 1 := by omega
    unfold IsItemIter; rw [e]; simpa [rawInt] using e1
  have hT1 : Shared.TypeIs ⟨h1, g, dr, tk, os⟩ (.ref it) "dict_itemiterator" := ⟨_, e1, rfl⟩
  refine wpAny_bind (wpAny_holding (wpAny_bind (wpAny_isOneOf_itemiter hT1 (wpAny_bind (wpAny_isOneOf_itemiter hT1 ?_)))))
  show wpAny _ _ (Builtin.Dict_items.pairFromOwner (.ref it) 6 en.key en.val) _ _ ⟨h1, g, dr, tk, os⟩
  unfold Builtin.Dict_items.pairFromOwner
  refine wpAny_bind (wpAny_newTuple ?_)
  have hlt' : it < hp.objs.size := Heap.lt_size hit
  have z1 : h1.objs.size = hp.objs.size := s1.1
  have e2 : IsItemIter (h1.push { cls := .type "tuple", data := .seq #[en.key, en.val] }) it d (i + 1) n ep ok ov := Heap.get?_push_of_some _ e1
  have t2 : (h1.push { cls := .type "tuple", data := .seq #[en.key, en.val] }).get? hp.objs.size = some { cls := .type "tuple", data := .seq #[en.key, en.val] } := by rw [← z1]; exact Heap.get?_push_size _ rfl
  have k2 : ∀ b o, b ≠ it → hp.get? b = some o → (h1.push { cls := .type "tuple", data := .seq #[en.key, en.val] }).get? b = some o := fun b o hb e => Heap.get?_push_of_some _ (s1.extBut b o hb e)
  rw [z1]
  generalize h1.push { cls := .type "tuple", data := .seq #[en.key, en.val] } = h2 at e2 t2 k2
  clear e1 s1 hT1 z1
  refine wpAny_bind ?_
  unfold Builtin.Dict_items.ownedTupleIsFree
  refine wpAny_bind (wpAny_field (s := ⟨h2, g, dr, tk, os⟩) e2 rfl (x := .none) rfl (wpAny_pure ?_))
  simp only [if_true]
  refine wpAny_bind (wpAny_field (s := ⟨h2, g, dr, tk, os⟩) e2 rfl (x := ok) rfl (wpAny_bind (wpAny_field (s := ⟨h2, g, dr, tk, os⟩) e2 rfl (x := ov) rfl ?_)))
  refine wpAny_bind (wpAny_setField_rec (s := ⟨h2, g, dr, tk, os⟩) e2 (by simp) fun h3 e3 s3 => ?_)
  replace s3 : Heap.SameBut it h2 h3 := s3
  replace e3 : IsItemIter h3 it d (i + 1) n ep en.key ov := e3
  refine wpAny_bind (wpAny_setField_rec (s := ⟨h3, g, dr, tk, os⟩) e3 (by simp) fun h4 e4 s4 => ?_)
  replace s4 : Heap.SameBut it h3 h4 := s4
  replace e4 : IsItemIter h4 it d (i + 1) n ep en.key en.val := e4
  refine wpAny_bind (wpAny_setField_rec (s := ⟨h4, g, dr, tk, os⟩) e4 (by simp) fun h5 e5 s5 => ?_)
  replace s5 : Heap.SameBut it h4 h5 := s5
  replace e5 : IsItemIterOut h5 it d (i + 1) n ep en.key en.val hp.objs.size := e5
  refine wpAny_bind (wpAny_setField_rec (s := ⟨h5, g, dr, tk, os⟩) e5 (by simp) fun h6 e6 s6 => ?_)
  replace s6 : Heap.SameBut it h5 h6 := s6
  replace e6 : IsItemIterOut h6 it d (i + 1) n ep en.key en.val hp.objs.size := e6
  have all : ∀ b o, b ≠ it → h2.get? b = some o → h6.get? b = some o := fun b o hb e => s6.extBut b o hb (s5.extBut b o hb (s4.extBut b o hb (s3.extBut b o hb e)))
  exact wpAny_bind (wpAny_letGo (wpAny_pure (wpAny_pure ⟨_, rfl, wpAny_pure (hQ h6 e6 (all _ _ (Nat.ne_of_gt hlt') t2) fun b o hb e => all b o hb (k2 b o hb e))⟩)))
theorem next_pair_end (hh : A.handled = none) (hit : IsItemIter s.heap it d i n ep ok ov) (hod : s.heap.get? d = some od) (hdd : od.data = .dict es ep) (hsz : es.size = n) (hge : n ≤ i)
    (hQ : ∀ h', Heap.ExtBut it s.heap h' → Q none { s with heap := h' }) : wpAny (model prog w) A (pyNext (.ref it)) Q E s := by
  have hT : s.TypeIs (.ref it) "dict_itemiterator" := ⟨_, hit, rfl⟩
  have hown : Builtin.Dict_items.ownsTuple "dict_itemiterator" = true := by decide
  have hge' : es.size ≤ i := by rw [hsz]; exact hge
  unfold pyNext
  refine wpAny_bind (wpAny_attempt (wpAny_callSpecial?_slot (name := Str.ofString "__next__") hT F.slot_dict_itemiterator_next
    (wpAny_call_entry F.slot_dict_itemiterator_next hT F.entry_dict_itemiterator_next ?_ (F.args_dict_itemiterator_next_1 _))))
  refine wpAny_bind (wpAny_pure (wpAny_bind (wpAny_bind ?_)))
  first | refine wpAny_bind (wpAny_typeNameOfWhole_itemiter hT (wpAny_pure (wpAny_bind (wpAny_fieldsOf hit rfl ?_)))) | refine wpAny_bind (wpAny_typeNameOf_itemiter hT (wpAny_pure (wpAny_bind (wpAny_fieldsOf hit rfl ?_))))
  simp only [hown, if_true]
  show wpAny _ _ (if (Value.ref d == Value.none) = true then _ else _) _ _ s
  rw [if_neg (show ¬ ((Value.ref d == Value.none) = true) from Bool.false_ne_true)]
  refine wpAny_bind (wpAny_pure (wpAny_bind (wpAny_dictEntries hod hdd ?_)))
  rw [if_neg (by rw [hsz]; simp)]
  refine wpAny_bind (wpAny_pure (wpAny_bind (wpAny_dictEpoch hod hdd ?_)))
  rw [if_neg (by simp)]
  refine wpAny_pure ?_
  simp only [show ¬ ((i : Int) < 0) from by omega, if_false, Int.toNat_natCast, Array.getElem?_eq_none hge']
  refine wpAny_bind ?_
  first | refine wpAny_bind (wpAny_typeNameOfWhole_itemiter hT (wpAny_pure ?_)) | refine wpAny_bind (wpAny_typeNameOf_itemiter hT (wpAny_pure ?_))
  show wpAny _ _ (setField (.ref it) 2 .none >>= _) _ _ s
  refine wpAny_bind (wpAny_setField hit rfl (by simp) ?_)
  show wpAny _ _ (newExc (.type "StopIteration") [] >>= _) _ _ _
  refine wpAny_bind ?_
  simp only [newExc, newTuple]
  refine wpAny_bind (wpAny_newObj_type ?_ (by size_fits))
  refine wpAny_bind (m := firstArgMember _ _) (wpAny_of_eq (a := Value.none) (by first | rfl | (simp only [firstArgMember]; rfl)) (wpAny_newObj_type ?_ (by size_fits)))
  simp only [raiseNew]
  refine wpAny_bind (wpAny_handled ?_)
  rw [show A.in1.handled = none from hh]
  refine wpAny_bind (wpAny_pure (wpAny_throw ?_))
  refine wpAny_bind (wpAny_isInstance (T := "StopIteration") (b := true) ⟨_, Heap.get?_push_size _ rfl, rfl⟩ isSubtype_stop ?_)
  exact wpAny_pure (hQ _ (((Heap.SameBut.update ..).extBut.push _).push _))
end
end

theorem Inv.frzTV {X : Cx} {pins : List (Addr × Obj)} {σ : St} {H : Hp} {s : Shared} {d : Addr} {o : Obj} {kvs : List (SK.Key2 × V)} (I : Inv X pins σ H s) (h : H d = some (.frz o (.dT kvs))) :
    (d == sysModules) = false ∧ s.heap.get? d = some o ∧ o.ExactDict ∧ ∃ (es : Array DictEntry) (ep : Nat), o.data = .dict es ep ∧ es.size = kvs.length ∧
      ∀ (i : Nat) (k : SK.Key2) (v : V), kvs[i]? = some (k, v) → ∃ (en : DictEntry) (q : Addr), es[i]? = some en ∧ en.key = .ref q ∧ KeyAt H k q ∧ RelV v en.val := by
  obtain ⟨hd, z, hs, xs, pr, o', es, ep, ho, hx, hdt, he, _⟩ := I.hok d _ h
  rw [hd] at ho
  cases ho
  refine ⟨hs, hd, hx, es, ep, hdt, ?_, fun i k v e => ?_⟩
  · have l1 : es.size = xs.length := size_of_entries he
    have l2 : kvs.length = xs.length := Paired.length pr
    omega
  · obtain ⟨b, hb, e1, e2, e3⟩ := paired_get pr e
    have q := entry_at he i
    rw [hb] at q
    exact ⟨_, b.2.1, q, rfl, e2, e3⟩
noncomputable def Itti (d : Addr) (o : Obj) (kvs : List (SK.Key2 × V)) : It :=
  ⟨fun i H => H d = some (.frz o (.dT kvs)) ∧ i < kvs.length, fun i H x H' => ∃ T k v q, kvs[i]? = some (k, v) ∧ KeyAt H k q ∧ x = .ref T ∧ H T = none ∧ H' = upd H T (.tup [.ref q, v]), fun i H => H d = some (.frz o (.dT kvs)) ∧ kvs.length ≤ i⟩
theorem turn_itemsT {P : Program} {w : World} {K : PySem.W.Frag} {d : Addr} {o : Obj} {es : Array DictEntry} {ep : Nat} {kvs : List (SK.Key2 × V)} {elts : List Expr} {kk : Nat} {tpos : Pos} (it : Addr) (hod : o.data = .dict es ep) :
    Turn P w K (.Tuple elts kk tpos) (Itti d o kvs) [it] it (fun i h => ∃ ok ov, IsItemIter h it d i kvs.length ep ok ov) where
  mem := by simp
  obj := fun i h st b hb => by
    have e : b = it := by simpa using hb
    subst e
    obtain ⟨ok, ov, e⟩ := st
    exact ⟨_, e, fun v z => nomatch z⟩
  keep := fun i h h' st k => let ⟨ok, ov, e⟩ := st; ⟨ok, ov, k it (by simp) _ e⟩
  item := by
    intro X hP hw hK hc i pins s σ H E I hf st hg
    subst hP hw hK
    obtain ⟨hd, hi⟩ := hg
    obtain ⟨hs, hgd, hx, es', ep', hdt, hsz, ent⟩ := I.frzTV hd
    obtain ⟨rfl, rfl⟩ := dict_ep hod hdt
    obtain ⟨⟨k, v⟩, hkv⟩ : ∃ p, kvs[i]? = some p := ⟨kvs[i], List.getElem?_eq_getElem hi⟩
    obtain ⟨en, q, hen, hkey, hq, rv⟩ := ent i k v hkv
    obtain ⟨ok, ov, he⟩ := st
    have hlt : it < s.heap.objs.size := Heap.lt_size he
    refine next_pair he hgd hdt hsz hen fun h' ho hT hk => ?_
    refine ⟨_, rfl, wpAny_letOwnedTupleGo_items (s := { s with heap := h' }) ho fun h'' he' sb => ?_⟩
    have hT2 : h''.get? s.heap.objs.size = some { cls := .type "tuple", data := .seq #[en.key, en.val] } := (sb.2 _ (Nat.ne_of_gt hlt)).trans hT
    have new : ObjOk X.prog X.w (upd H s.heap.objs.size (.tup [.ref q, v])) h'' s.heap.objs.size (.tup [.ref q, v]) :=
      ⟨by show 2 ≤ sizeLine; decide, [en.key, en.val], .cons hkey (.cons rv .nil), ⟨_, hT2, rfl, _, rfl, rfl⟩⟩
    have I1 : Inv X pins σ (upd H s.heap.objs.size (.tup [.ref q, v])) { s with heap := h'' } :=
      I.turnedNew (t' := s.toks) (ch := [it]) (fun b ob hb e => (sb.2 b (by simpa using hb)).trans (hk b ob (by simpa using hb) e)) hf (Nat.le_refl _) new
    refine ⟨.ref s.heap.objs.size, _, I1, rfl, ⟨_, k, v, q, hkv, hq, rfl, I.hok.fresh (Nat.le_refl _), rfl⟩, ⟨en.key, en.val, he'⟩, fun b hb => ?_⟩
    have e : b = it := by simpa using hb
    rw [e, upd_ne (Nat.ne_of_lt hlt)]
    exact (hf it (by simp)).1
  done := by
    intro X hP hw hK hc i pins s σ H E I hf st hg
    subst hP hw hK
    obtain ⟨hd, hi⟩ := hg
    obtain ⟨f0, f1, f2, f3, f4, f5⟩ := hf it (by simp)
    obtain ⟨hs, hgd, hx, es', ep', hdt, hsz, ent⟩ := I.frzTV hd
    obtain ⟨rfl, rfl⟩ := dict_ep hod hdt
    obtain ⟨ok, ov, he⟩ := st
    exact next_pair_end (I.ok.hd hc) he hgd hdt hsz hi fun h' eb => ⟨rfl, I.turned (t' := s.toks) (fun b ob hb e => eb b ob hb e) f0 f1 f3 f4 f5⟩
  self := fun A i s Q E st h => let ⟨_, _, e⟩ := st; PySem.W.kcp_self e h
noncomputable def iItemsL (td : TE) : TI := fun σ H R => td σ H fun x H1 => ∃ d kvs, x = .ref d ∧ ((∃ o, H1 d = some (.frz o (.dT kvs)) ∧ R (Itti d o kvs) H1) ∨ (H1 d = some (.dT kvs) ∧ ∀ o, R (Itti d o kvs) (upd H1 d (.frz o (.dT kvs)))))
theorem pi_itemsL {X : Cx} {e : Expr} {td : TE} {apos cpos : Pos} {elts : List Expr} {kk : Nat} {tpos : Pos} (he : PE X e td) (hbase : attributeBase e "items" X.env (eval e X.env) = eval e X.env := by rfl) (hline : (apos.endLine == cpos.line) = true := by rfl) :
    PI X (.Tuple elts kk tpos) (.Call (.Attribute e "items" apos) [] [] cpos) (iItemsL td) := by
  intro pins s σ H R I h
  refine wpAny_Call_method (T := "dict") (id := "dict.items") hbase rfl hline F.plainAttrs_dict F.slot_dict_items F.type_dict_items (thn (he pins s σ H _ I h) fun u s1 hZ => ?_)
  obtain ⟨x, H1, I1, rx, d, kvs, ex, q⟩ := hZ
  subst ex
  obtain rfl : u = Value.ref d := rx
  have key : ∀ (H2 : Hp) (o : Obj), Inv X pins σ H2 s1 → H2 d = some (.frz o (.dT kvs)) → R (Itti d o kvs) H2 →
      s1.TypeIs (.ref d) "dict" ∧ (∀ a, Value.ref d = .ref a → ∃ ob, s1.heap.get? a = some ob ∧ ob.dict = none) ∧
      wpAny (model X.prog X.w) X.A (callWith cpos (.builtin "dict.items") [.ref d] [] []) (fun v s' => wpAny (model X.prog X.w) X.A (pyIter v) (PIE X pins σ (.Tuple elts kk tpos) R) X.xe s') X.xe s1 := by
    intro H2 o I1 hd q
    obtain ⟨hs, hgd, hx, es, ep, hdt, hsz, ent⟩ := I1.frzTV hd
    have hT : s1.TypeIs (.ref d) "dict" := ⟨o, hgd, hx.1⟩
    refine ⟨hT, fun b q => ?_, ?_⟩
    · cases q
      exact ⟨o, hgd, hx.2.1⟩
    have I2 : Inv X pins σ H2 { s1 with heap := s1.heap.push { cls := .type "dict_items", data := .fields #[.ref d] } } := I1.kept (t' := s1.toks) fun b ob q => Heap.get?_push_of_some _ q
    have fin : wpAny (model X.prog X.w) X.A (pyIter (.ref s1.heap.objs.size)) (PIE X pins σ (.Tuple elts kk tpos) R) X.xe { s1 with heap := s1.heap.push { cls := .type "dict_items", data := .fields #[.ref d] } } := by
      refine iter_items_raw (d := d) ⟨_, Heap.get?_push_size _ rfl, rfl, rfl⟩ (Heap.get?_push_of_some _ hgd) hdt (pi_one (tk := s1.toks) I2 _ (turn_itemsT _ hdt) ⟨.none, .none, ?_⟩ q)
      rw [← hsz]
      exact Heap.get?_push_size _ rfl
    exact method_meetsIn F.slot_dict_items F.entry_dict_items rfl (PySem.evalArgs_none ⟨rfl, hT, F.args_dict_items_1 _, _, dict_items_raw d hs, hT, fin⟩)
  rcases q with ⟨o, hd, q⟩ | ⟨hd, q⟩
  · exact key H1 o I1 hd q
  · obtain ⟨od, I2⟩ := I1.lock hd True.intro
    exact key _ od I2 upd_same (q od)
end L2
set_option Elab.async false
set_option compiler.extract_closed false
set_option genSizeOf false
set_option linter.all false
set_option maxRecDepth 100000
namespace L2
open PySem PySem.Spec PyProof.Rows
section
open PySem.SeqAt
open PySem.AutoSeq1 (wpAny_loadPart')
open PySem.MeetsSeq PySem.MeetsSeq2 PySem.MeetsSeq3
theorem IntsAre.at : ∀ {vs : List Value} {ns : List Int}, IntsAre vs ns → ∀ {i : Nat} {v : Value}, vs[i]? = some v → ∃ a t, v = .int a t ∧ ns.drop i = a :: ns.drop (i + 1)
  | _, _, .nil, _, _, h => by simp at h
  | _, _, .cons a t r, 0, _, h => by simp at h; subst h; exact ⟨a, t, rfl, rfl⟩
  | _, _, .cons a t r, i + 1, v, h => by
    obtain ⟨b, u, e1, e2⟩ := IntsAre.at r (i := i) (v := v) (by simpa using h)
    exact ⟨b, u, e1, by simpa using e2⟩
theorem lt_loop (l b : Addr) (items items2 : Array Value) (n n2 : Nat) (dd dd2 : Option Addr) (sl sl2 : Array (Option Value)) (ns ms : List Int) (hi : IntsAre items.toList ns) (hj : IntsAre items2.toList ms) (k : Nat) :
    ∀ i : Nat, items.size - i = k → i ≤ items.size ∧ i ≤ items2.size → Meets (Builtin.«list.__eq__.loop» ⟨[.ref l, .ref b, rawInt i, rawInt 0], []⟩)
      (fun A R s => s.heap.get? l = some { cls := .type "list", dict := dd, data := .seq items n, slots := sl } ∧ s.heap.get? b = some { cls := .type "list", dict := dd2, data := .seq items2 n2, slots := sl2 } ∧
        R (.ok (.ret (.bool (HT.lexLt (ns.drop i) (ms.drop i))))) s) := by
  have z1 : items.size = ns.length := by rw [← hi.length]; simp
  have z2 : items2.size = ms.length := by rw [← hj.length]; simp
  have ends : ∀ i, (i = items.size ∧ i ≤ items2.size) ∨ (i = items2.size ∧ i ≤ items.size) → HT.lexLt (ns.drop i) (ms.drop i) = decide (items.size < items2.size) := by
    intro i hi'
    rw [z1, z2] at hi' ⊢
    rcases hi' with ⟨e, q⟩ | ⟨e, q⟩
    · subst e
      rw [List.drop_length]
      cases hm : ms.drop ns.length with
      | nil => rw [HT.lexLt_nil_nil]; exact (decide_eq_false (Nat.not_lt_of_le (List.drop_eq_nil_iff.mp hm))).symm
      | cons y ys =>
        rw [HT.lexLt_nil_cons]
        refine (decide_eq_true (Nat.lt_of_not_le fun z => ?_)).symm
        rw [List.drop_eq_nil_of_le z] at hm
        cases hm
    · subst e
      rw [List.drop_length]
      have f : decide (ns.length < ms.length) = false := decide_eq_false (Nat.not_lt_of_le q)
      rw [f]
      cases hm : ns.drop ms.length with
      | nil => exact HT.lexLt_nil_nil
      | cons y ys => exact HT.lexLt_cons_nil y ys
  induction k with
  | zero =>
    intro i hk hle prog w A R s h
    obtain ⟨hp, g, d, tk, os⟩ := s; obtain ⟨hl, hb, h⟩ := h
    have hi1 : items[((i : Nat) : Int).toNat]? = none := by simp; omega
    wp_walk using wpAny_loadPart' hl, wpAny_loadPart' hb
    rw [hi1]
    wp_walk using wpAny_loadPart' hl, wpAny_loadPart' hb
    have e := ends i (.inl ⟨Nat.le_antisymm hle.1 (Nat.le_of_sub_eq_zero hk), hle.2⟩)
    rw [e] at h
    exact h
  | succ k ih =>
    intro i hk hle prog w A R s h
    obtain ⟨hp, g, d, tk, os⟩ := s; obtain ⟨hl, hb, h⟩ := h
    have hlt : i < items.size := by omega
    have hi1 : items[((i : Nat) : Int).toNat]? = some items[i] := by simp [hlt]
    wp_walk using wpAny_loadPart' hl, wpAny_loadPart' hb
    rw [hi1]
    by_cases hlt2 : i < items2.size
    · have hi2 : items2[((i : Nat) : Int).toNat]? = some items2[i] := by simp [hlt2]
      have hc : ((i : Int) + 1) = ((i + 1 : Nat) : Int) := by push_cast; rfl
      obtain ⟨a, t, ea, da⟩ := L2.IntsAre.at hi (i := i) (v := items[i]) (by simp [hlt])
      obtain ⟨c, u, ec, dc⟩ := L2.IntsAre.at hj (i := i) (v := items2[i]) (by simp [hlt2])
      rw [hi2]
      rw [da, dc, HT.lexLt_cons] at h
      obtain ⟨e, he, hiff⟩ := HT.eqAt_int A.in1 ⟨hp, g, d, tk, os⟩ a t c u
      rw [ea, ec]
      refine wpAny_bind (he prog w _ _ ?_)
      cases e with
      | true =>
        rw [if_pos (hiff.mp rfl)] at h
        wp_walk
        rw [hc]
        exact ⟨plainId_quiet plain_eq_loop _, codeAny_builtin entry_eq_loop (by
          rw [Around.under_plainId plain_eq_loop _]
          exact ih (i + 1) (by omega) (by omega) prog w A R _ ⟨hl, hb, h⟩)⟩
      | false =>
        rw [if_neg (fun q => absurd (hiff.mpr q) Bool.false_ne_true)] at h
        have hri := HT.rcLt_int A.in1 ⟨hp, g, d, tk, os⟩ a t c u prog w
        wp_walk using wpAny_loadPart' hl, wpAny_loadPart' hb
        rw [hi1, hi2, ea, ec]
        wp_walk using hri
        exact h
    · have hi2 : items2[((i : Nat) : Int).toNat]? = none := by simp; omega
      rw [hi2]
      wp_walk using wpAny_loadPart' hl, wpAny_loadPart' hb
      have e := ends i (.inr ⟨Nat.le_antisymm hle.2 (Nat.le_of_not_lt hlt2), hle.1⟩)
      rw [e] at h
      exact h
theorem list_lt_ints (l b : Addr) (items items2 : Array Value) (n n2 : Nat) (dd dd2 : Option Addr) (sl sl2 : Array (Option Value)) (ns ms : List Int) (hi : IntsAre items.toList ns) (hj : IntsAre items2.toList ms) :
    Meets (Builtin.«list.__lt__» ⟨[.ref l, .ref b], []⟩)
      (fun A R s => s.heap.get? l = some { cls := .type "list", dict := dd, data := .seq items n, slots := sl } ∧ s.heap.get? b = some { cls := .type "list", dict := dd2, data := .seq items2 n2, slots := sl2 } ∧
        R (.ok (.ret (.bool (HT.lexLt ns ms)))) s) := by
  intro prog w A R s h
  obtain ⟨hp, g, d, tk, os⟩ := s; obtain ⟨hl, hb, h⟩ := h
  have f3 := AutoSeq1.sub_list_list
  wp_walk using wpAny_loadPart' hl, wpAny_loadPart' hb
  exact ⟨plainId_quiet plain_eq_loop _, codeAny_builtin entry_eq_loop (by
    rw [Around.under_plainId plain_eq_loop _]
    exact lt_loop l b items items2 n n2 dd dd2 sl sl2 ns ms hi hj _ 0 rfl ⟨Nat.zero_le _, Nat.zero_le _⟩ prog w A R _ ⟨hl, hb, by simpa using h⟩)⟩
end
section
variable {prog : Program} {w : World} {A : Around} {E : Value → Shared → Prop} {s : Shared}
theorem lt_listInts {l b : Addr} {items items2 : Array Value} {ns ms : List Int} {Q : Value → Shared → Prop} (hl : s.heap.IsList l items) (hb : s.heap.IsList b items2) (hi : IntsAre items.toList ns) (hj : IntsAre items2.toList ms)
    (hu : A.units < cLine) (h : Q (.bool (HT.lexLt ns ms)) s) : wpAny (model prog w) A (richCompare .Lt (.ref l) (.ref b)) Q E s := by
  obtain ⟨⟨cls, dd, data, sl⟩, ho, hc, n, hd⟩ := id hl
  obtain ⟨⟨cls2, dd2, data2, sl2⟩, ho2, hc2, n2, hd2⟩ := id hb
  simp only at hc hd hc2 hd2
  subst hc hd hc2 hd2
  exact richCompare_meets_room (op := .Lt) ⟨_, ho, rfl⟩ ⟨_, ho2, rfl⟩ PySem.F.slot_list_lt PySem.F.entry_list_lt (PySem.F.args_list_lt_2 _ _) (list_lt_ints l b items items2 n n2 dd dd2 sl sl2 ns ms hi hj)
    ⟨ho, ho2, show Value.bool (HT.lexLt ns ms) ≠ Value.notImplemented ∧ Q (.bool (HT.lexLt ns ms)) s from ⟨(fun x => nomatch x), h⟩⟩ hu
end

section
variable {prog : Program} {w : World} {A : Around} {R : Result → Shared → Prop} {I S l : Addr} {its : Array Value} {h0 : Heap} {bt : Nat → Nat → Bool}
noncomputable def Stays (h h' : Heap) : Prop := ∀ b o, h.get? b = some o → h'.get? b = some o
theorem Stays.but {h h1 h2 : Heap} {a : Addr} (x : Stays h h1) (hs : Heap.SameBut a h1 h2) (ha : h.objs.size ≤ a) : Stays h h2 := fun b o e =>
  (hs.2 b (Nat.ne_of_lt (Nat.lt_of_lt_of_le (Heap.lt_size e) ha))).trans (x b o e)
theorem Stays.ext {h h1 h2 : Heap} {a : Addr} (x : Stays h h1) (hs : Heap.ExtBut a h1 h2) (ha : h.objs.size ≤ a) : Stays h h2 := fun b o e =>
  hs b o (Nat.ne_of_lt (Nat.lt_of_lt_of_le (Heap.lt_size e) ha)) (x b o e)
noncomputable def LtAt (prog : Program) (w : World) (A : Around) (h0 : Heap) (its : Array Value) (bt : Nat → Nat → Bool) : Prop :=
  ∀ (i j : Nat) (x y : Value) (s : Shared) (Q : Value → Shared → Prop) (E : Value → Shared → Prop), its[i]? = some x → its[j]? = some y → Stays h0 s.heap → Q (.bool (bt i j)) s → wpAny (model prog w) A (richCompare .Lt x y) Q E s

theorem minLoop (hh : A.handled = none) (hl : h0.IsList l its) (hI : h0.objs.size ≤ I) (hS : h0.objs.size ≤ S) (hIS : S ≠ I) (hc : LtAt prog w A.in1 h0 its bt) :
    ∀ (k j : Nat) (s : Shared) (vb : Value) (c : Nat), its.size - (j + 1) = k → j + 1 ≤ its.size → s.heap.IsListIter I l (j + 1) → Stays h0 s.heap → its[argBest bt j]? = some vb →
    s.heap.get? S = some { cls := .type "list", dict := none, data := .seq #[vb, vb] c, slots := #[] } →
    (∀ v h' tk, its[argBest bt (its.size - 1)]? = some v → Stays h0 h' → R (.ok (.ret v)) { s with heap := h', toks := tk }) →
    codeAny (model prog w) A (.builtin "min.loop" ⟨[.ref I, .none, .ref S], []⟩) R s := by
  have hname : (toString "min" ++ toString ".loop" : String) = "min.loop" := by decide
  have lst : ∀ h, Stays h0 h → h.IsList l its := fun h st => let ⟨o, ho, q⟩ := hl; ⟨o, st _ _ ho, q⟩
  intro k
  induction k with
  | zero =>
    intro j s vb c hk hj hit hst hb hSo hR
    have hin : j + 1 = its.size := by omega
    refine codeAny_builtin F.entry_min_loop ?_
    rw [Around.under_plainId F.plain_min_loop _]
    show wpAny _ A.in1 (seqItems? (.ref S) >>= _) _ _ s
    refine wpAny_bind (wpAny_seqItems hSo rfl ?_)
    show wpAny _ A.in1 (tryCatch (pyNext (.ref I)) _ >>= _) _ _ s
    refine wpAny_bind (wpAny_tryCatch (wpAny_pyNext_list_end hh hit (lst _ hst) (by simp; omega) fun h' eb => ?_))
    have hS' := eb S _ hIS hSo
    show wpAny _ A.in1 (updateSeq S (fun _ => #[]) >>= _) _ _ _
    refine wpAny_bind (wpAny_updateSeq hS' rfl (wpAny_bind (wpAny_letGo (wpAny_pure ?_))))
    exact hR vb _ _ (by rw [← hin]; exact hb) ((hst.ext eb hI).but (Heap.SameBut.update ..) hS)
  | succ k ih =>
    intro j s vb c hk hj hit hst hb hSo hR
    have hlt : j + 1 < its.size := by omega
    refine codeAny_builtin F.entry_min_loop ?_
    rw [Around.under_plainId F.plain_min_loop _]
    show wpAny _ A.in1 (seqItems? (.ref S) >>= _) _ _ s
    refine wpAny_bind (wpAny_seqItems hSo rfl ?_)
    show wpAny _ A.in1 (tryCatch (pyNext (.ref I)) _ >>= _) _ _ s
    refine wpAny_bind (wpAny_tryCatch (wpAny_pyNext_list_item hit (lst _ hst) (x := its[j + 1]) (by simp [hlt]) fun h' hit' sb => ?_))
    have st1 : Stays h0 h' := hst.but sb hI
    have hS' := (sb.2 S hIS).trans hSo
    show wpAny _ A.in1 (tryCatch (holding [its[j + 1], its[j + 1]] (richCompare .Lt its[j + 1] vb >>= _)) _ >>= _) _ _ _
    refine wpAny_bind (wpAny_tryCatch (wpAny_holding (wpAny_bind (hc (j + 1) (argBest bt j) its[j + 1] vb _ _ _ (by simp [hlt]) hb st1 ?_))))
    refine wpAny_bind (wpAny_holding (wpAny_truthy_bool (wpAny_bind (wpAny_letGo (wpAny_pure ?_)))))
    cases hbt : bt (j + 1) (argBest bt j) with
    | true =>
      simp only [if_true]
      refine wpAny_bind (wpAny_updateSeq hS' rfl (wpAny_bind (wpAny_letGo ?_)))
      rw [hname]
      refine wpAny_pure ⟨plainId_quiet F.plain_min_loop _, ih (j + 1) _ its[j + 1] _ (by omega) hlt (hit'.at fun o e => (Heap.get?_update_other _ _ hIS).trans e) (st1.but (Heap.SameBut.update ..) hS)
        (by simp only [argBest, hbt, if_true]; simp [hlt]) (Heap.get?_update_self _ hS' rfl) hR⟩
    | false =>
      simp only [Bool.false_eq_true, if_false]
      refine wpAny_bind (wpAny_letGo ?_)
      rw [hname]
      exact wpAny_pure ⟨plainId_quiet F.plain_min_loop _, ih (j + 1) _ vb c (by omega) hlt hit' st1 (by simp only [argBest, hbt, Bool.false_eq_true, if_false]; exact hb) hS' hR⟩
theorem min_lists {E : Value → Shared → Prop} {s : Shared} {Q : Value → Shared → Prop} (hh : A.handled = none) (hl : s.heap.IsList l its) (hne : 0 < its.size) (hc : LtAt prog w A.in1 s.heap its bt)
    (hQ : ∀ v h' tk, its[argBest bt (its.size - 1)]? = some v → Stays s.heap h' → Q v { s with heap := h', toks := tk }) : wpAny (model prog w) A (call (.builtin "min") [.ref l]) Q E s := by
  have hname : (toString "min" ++ toString ".loop" : String) = "min.loop" := by decide
  have hlt : l < s.heap.objs.size := by obtain ⟨_, e, _⟩ := hl; exact Heap.lt_size e
  refine call_function_tree F.kind_min F.plain_min F.entry_min (F.args_min1 _) ?_
  show wpAny _ A.in1 (Builtin.Builtins.bindParams "min" ["key", "default"] 0 ⟨[], []⟩ >>= _) _ _ s
  refine wpAny_bind (wpAny_of_eq (show Builtin.Builtins.bindParams "min" ["key", "default"] 0 ⟨[], []⟩ = pure [none, none] from rfl) (wpAny_bind (wpAny_pure ?_)))
  refine wpAny_bind (wpAny_pyIter_list hl (wpAny_bind (wpAny_newObj_type ?_)))
  rw [hname]
  generalize hs1 : (s.heap.push { cls := .type "list_iterator", data := .fields #[.ref l, .int 0 0] }) = h1
  have st1 : Stays s.heap h1 := by rw [← hs1]; exact fun b o e => Heap.get?_push_of_some _ e
  have it1 : h1.IsListIter s.heap.objs.size l 0 := by rw [← hs1]; exact ⟨_, Heap.get?_push_size _ rfl, rfl, rfl⟩
  have z1 : h1.objs.size = s.heap.objs.size + 1 := by rw [← hs1, Heap.size_push]
  generalize hs2 : h1.push { cls := .type "list", data := .seq #[] } = h2
  have st2 : Stays s.heap h2 := by rw [← hs2]; exact fun b o e => Heap.get?_push_of_some _ (st1 b o e)
  have it2 : h2.IsListIter s.heap.objs.size l 0 := by rw [← hs2]; exact it1.at fun o e => Heap.get?_push_of_some _ e
  have hS2 : h2.get? h1.objs.size = some { cls := .type "list", data := .seq #[] } := by rw [← hs2]; exact Heap.get?_push_size _ rfl
  have hSI : h1.objs.size ≠ s.heap.objs.size := by omega
  have hl2 : h2.IsList l its := let ⟨o, ho, q⟩ := hl; ⟨o, st2 _ _ ho, q⟩
  refine wpAny_pure ⟨plainId_quiet F.plain_min_loop _, codeAny_builtin F.entry_min_loop ?_⟩
  rw [Around.under_plainId F.plain_min_loop _]
  show wpAny _ A.in1 (seqItems? (.ref h1.objs.size) >>= _) _ _ { s with heap := h2 }
  refine wpAny_bind (wpAny_seqItems hS2 rfl ?_)
  show wpAny _ A.in1 (tryCatch (pyNext (.ref s.heap.objs.size)) _ >>= _) _ _ _
  refine wpAny_bind (wpAny_tryCatch (wpAny_pyNext_list_item it2 hl2 (x := its[0]) (by simp [hne]) fun h3 it3 sb => ?_))
  have hS3 := (sb.2 _ hSI).trans hS2
  show wpAny _ A.in1 (updateSeq h1.objs.size (fun _ => #[its[0], its[0]]) >>= _) _ _ _
  refine wpAny_bind (wpAny_updateSeq hS3 rfl ?_)
  rw [hname]
  refine wpAny_pure ⟨plainId_quiet F.plain_min_loop _, minLoop (h0 := s.heap) hh hl (Nat.le_refl _) (by omega) hSI hc _ 0 _ its[0] _ rfl hne (it3.at fun o e => (Heap.get?_update_other _ _ hSI).trans e)
    ((st2.but sb (Nat.le_refl _)).but (Heap.SameBut.update ..) (by omega)) (by simp [argBest, hne]) (Heap.get?_update_self _ hS3 rfl) fun v h' tk hv st => hQ v h' tk hv st⟩
end

section
variable {X : Cx}
noncomputable def ListsAt (K : PySem.W.Frag) (H : Hp) (as : List Addr) (xss : List (List Int)) : Prop := Paired (fun a xs => SqL K H a (xs.map V.int)) as xss
noncomputable def rMinL (K : PySem.W.Frag) : List V → Hp → VK → Prop := fun vs H Q => ∃ (a : Addr) (as : List Addr) (xss : List (List Int)), vs = [V.ref a] ∧ SqL K H a (as.map V.ref) ∧ ListsAt K H as xss ∧ 0 < as.length ∧
  ∀ b, as[argBest (fun i j => HT.lexLt (xss.getD i []) (xss.getD j [])) (as.length - 1)]? = some b → Q (.ref b) H
theorem vals_refs : ∀ {as : List Addr} {us : List Value}, Vals (as.map V.ref) us → us = as.map Value.ref
  | [], _, r => by cases r; rfl
  | a :: as, _, r => by
    rw [List.map_cons] at r
    cases r with
    | cons h t => rw [vals_refs t]; cases (show _ = Value.ref a from h); rfl
theorem cr_minL (hc : X.calm = true) (hu : X.A.units + 2 < cLine) : CallR X (.builtin "min") (rMinL X.K) := by
  intro pins s σ H vs us Q I r h
  obtain ⟨a, as, xss, rfl, hs, hls, hne, q⟩ := h
  obtain ⟨its, rv, hl, _⟩ := I.list hs
  rw [Vals.ref1 r]
  have e := vals_refs rv
  subst e
  refine min_lists (bt := fun i j => HT.lexLt (xss.getD i []) (xss.getD j [])) (I.ok.hd hc) hl.isList (by simpa using hne) (fun i j x y s2 Q2 E2 hx hy st hQ => ?_) fun v h' tk hv st => ?_
  · have at' : ∀ (i : Nat) (x : Value), (as.map Value.ref).toArray[i]? = some x → ∃ b items, x = .ref b ∧ s2.heap.IsList b items ∧ IntsAre items.toList (xss.getD i []) := by
      intro i x hx
      have hx' : (as.map Value.ref)[i]? = some x := by simpa using hx
      rw [List.getElem?_map] at hx'
      obtain ⟨b, hb, rfl⟩ := Option.map_eq_some_iff.mp hx'
      obtain ⟨xs, hxs, hq⟩ := paired_get hls hb
      obtain ⟨its', rv', hl', _⟩ := I.list hq
      refine ⟨b, its'.toArray, rfl, ?_, ?_⟩
      · obtain ⟨o, ho, q⟩ := hl'.isList
        exact ⟨o, st _ _ ho, q⟩
      · rw [List.getD_eq_getElem?_getD, hxs]; simpa using rv'.ints
    obtain ⟨b, i1, rfl, hb, hi1⟩ := at' i x hx
    obtain ⟨c, i2, rfl, hc2, hi2⟩ := at' j y hy
    exact lt_listInts hb hc2 hi1 hi2 (by show X.A.units + 1 < cLine; omega) hQ
  · have hv' : (as.map Value.ref)[argBest (fun i j => HT.lexLt (xss.getD i []) (xss.getD j [])) (as.length - 1)]? = some v := by simpa using hv
    rw [List.getElem?_map] at hv'
    obtain ⟨b, hb, rfl⟩ := Option.map_eq_some_iff.mp hv'
    exact ⟨.ref b, H, I.kept st, rfl, q b hb⟩
noncomputable def rAllT (K : PySem.W.Frag) : List V → Hp → VK → Prop := fun vs H Q => ∃ (a : Addr) (bs : List Bool), vs = [V.ref a] ∧ SqT K H a (bs.map V.bl) ∧ Q (.bl (bs.all id)) H
theorem cr_allT (hc : X.calm = true) : CallR X (.builtin "all") (rAllT X.K) := by
  intro pins s σ H vs us Q I r h
  obtain ⟨a, bs, rfl, hs, q⟩ := h
  obtain ⟨its, rv, hl, _⟩ := I.tuple hs
  rw [Vals.ref1 r]
  have hb := rv.bls
  have hT : s.heap.IsTuple a its.toArray := hl
  have hlt : a < s.heap.objs.size := hl.lt
  refine call_all_walk (wpAny_pyIter_tuple hT ?_)
  refine ⟨_, _, _, _, _, _, _, rfl, Walks.tuple (A := X.A.in1) (I.ok.hd hc) _ a (Nat.ne_of_lt hlt) its.toArray, ⟨⟨_, Heap.get?_push_size _ rfl, rfl, rfl⟩, hT.push _⟩, truth_bools hb, fun h' tk hk => ?_⟩
  refine ⟨.bl _, H, I.kept fun b o eo => hk b o (fun hmem => ?_) (Heap.get?_push_of_some _ eo), ?_, q⟩
  · rcases List.mem_cons.mp hmem with e1 | hmem
    · exact absurd (e1 ▸ Heap.lt_size eo) (Nat.lt_irrefl _)
    · cases hmem
  · show Value.bool _ = Value.bool _
    rw [← all_range, hb, List.size_toArray, List.length_map]
end
end L2
set_option Elab.async false
set_option compiler.extract_closed false
set_option genSizeOf false
set_option linter.all false
set_option maxRecDepth 100000
namespace L2
open PySem PySem.Spec PyProof.Rows
section
variable {X : Cx}
theorem mt_countT : MtR X "tuple.count" (fun x xs H Q => ∃ (a : Addr) (bs : List Bool) (c : Bool), x = .ref a ∧ xs = [.bl c] ∧ SqT X.K H a (bs.map V.bl) ∧ Q (.int (bs.count c : Nat)) H) := by
  intro pins s σ H x xs v us Q I rx rs h
  obtain ⟨a, bs, c, rfl, rfl, hs, q⟩ := h
  obtain rfl : v = Value.ref a := rx
  obtain ⟨its, rv, hl, _⟩ := I.tuple hs
  have hb := rv.bls
  cases rs with
  | cons r1 r2 =>
    cases r2
    obtain rfl := (show _ = Value.bool c from r1)
    obtain ⟨⟨cls, dd, data, sl⟩, ho, hc, n, hd⟩ := id hl
    simp only at hc hd
    subst hc hd
    have key : its.countP (fun y => y == Value.bool c) = bs.count c := by
      rw [hb, List.countP_map]
      show bs.countP _ = bs.countP _
      refine List.countP_congr fun b _ => ?_
      show ((Value.bool b == Value.bool c) = true) ↔ ((b == c) = true)
      cases b <;> cases c <;> simp
    refine call_meets PySem.F.slot_tuple_count ⟨_, ho, rfl⟩ PySem.F.entry_tuple_count (PySem.F.args_tuple_count_2 _ _) (SeqAt.tuple_countAt a its.toArray n dd sl (.bool c) (fun y => y == Value.bool c)) ⟨ho, fun y hy => ?_, ⟨.int _, H, I.tok _, ⟨s.toks, ?_⟩, q⟩⟩
    · have hy' : y ∈ its := by simpa using hy
      rw [hb] at hy'
      obtain ⟨b, _, rfl⟩ := List.mem_map.mp hy'
      have e : (Value.bool b == Value.bool c) = (b == c) := by cases b <;> cases c <;> rfl
      rw [e]
      exact SeqAt.EqAt.bool_bool b c
    · rw [← key]
end
section
variable {d : Addr} {o : Obj} {kvs : List (SK.Key2 × V)} {g : TG} {tb : TS} {D : Ends} {σ : St} {H : Hp}
theorem for_items (Pv : Nat → St → Hp → Prop) (h0 : Pv 0 σ H) (hl : ∀ i σ H, i ≤ kvs.length → Pv i σ H → H d = some (.frz o (.dT kvs)))
    (hs : ∀ i k v q T σ H, kvs[i]? = some (k, v) → Pv i σ H → KeyAt H k q → H T = none → g (.ref T) σ (upd H T (.tup [.ref q, v])) fun σ2 H2 => tb { D with nx := Pv (i + 1), ct := Pv (i + 1), bk := D.nx } σ2 H2) (hd : ∀ σ H, Pv kvs.length σ H → D.nx σ H) :
    ∃ W : Nat → Nat → St → Hp → Prop, (∃ m, W 0 m σ H) ∧ ∀ i m σ H, W i m σ H →
      ((Itti d o kvs).stop i H ∧ D.nx σ H) ∨ ((Itti d o kvs).go i H ∧ ∃ N : St → Hp → Prop, (∀ σ' H', N σ' H' → ∃ m', m' < m ∧ W (i + 1) m' σ' H') ∧ ∀ x H', (Itti d o kvs).yld i H x H' → g x σ H' fun σ2 H2 => tb { D with nx := N, ct := N, bk := D.nx } σ2 H2) := by
  refine ⟨fun i m σ H => m = kvs.length - i ∧ i ≤ kvs.length ∧ Pv i σ H, ⟨kvs.length, by simp, Nat.zero_le _, h0⟩, ?_⟩
  rintro i m σ H ⟨rfl, hi, p⟩
  have q := hl i σ H hi p
  by_cases hlt : i < kvs.length
  · refine .inr ⟨⟨q, hlt⟩, Pv (i + 1), fun σ' H' p' => ⟨kvs.length - (i + 1), by omega, rfl, hlt, p'⟩, fun x H' y => ?_⟩
    obtain ⟨T, k, v, q', h1, h2, rfl, h3, rfl⟩ := y
    exact hs i k v q' T σ H h1 p h2 h3
  · have e : i = kvs.length := by omega
    subst e
    exact .inl ⟨⟨q, Nat.le_refl _⟩, hd σ H p⟩
theorem for_keysT (Pv : Nat → St → Hp → Prop) (h0 : Pv 0 σ H) (hl : ∀ i σ H, i ≤ kvs.length → Pv i σ H → H d = some (.frz o (.dT kvs)))
    (hs : ∀ i k v q σ H, kvs[i]? = some (k, v) → Pv i σ H → KeyAt H k q → g (.ref q) σ H fun σ2 H2 => tb { D with nx := Pv (i + 1), ct := Pv (i + 1), bk := D.nx } σ2 H2) (hd : ∀ σ H, Pv kvs.length σ H → D.nx σ H) :
    ∃ W : Nat → Nat → St → Hp → Prop, (∃ m, W 0 m σ H) ∧ ∀ i m σ H, W i m σ H →
      ((Itkt d o kvs).stop i H ∧ D.nx σ H) ∨ ((Itkt d o kvs).go i H ∧ ∃ N : St → Hp → Prop, (∀ σ' H', N σ' H' → ∃ m', m' < m ∧ W (i + 1) m' σ' H') ∧ ∀ x H', (Itkt d o kvs).yld i H x H' → g x σ H' fun σ2 H2 => tb { D with nx := N, ct := N, bk := D.nx } σ2 H2) := by
  refine ⟨fun i m σ H => m = kvs.length - i ∧ i ≤ kvs.length ∧ Pv i σ H, ⟨kvs.length, by simp, Nat.zero_le _, h0⟩, ?_⟩
  rintro i m σ H ⟨rfl, hi, p⟩
  have q := hl i σ H hi p
  by_cases hlt : i < kvs.length
  · refine .inr ⟨⟨q, hlt⟩, Pv (i + 1), fun σ' H' p' => ⟨kvs.length - (i + 1), by omega, rfl, hlt, p'⟩, fun x H' y => ?_⟩
    obtain ⟨rfl, k, v, q', h1, rfl, h2⟩ := y
    exact hs i k v q' σ _ h1 p h2
  · have e : i = kvs.length := by omega
    subst e
    exact .inl ⟨⟨q, Nat.le_refl _⟩, hd σ H p⟩
end
theorem lc_items {d : Addr} {o : Obj} {kvs : List (SK.Key2 × V)} {g : TG} {tt : TT} {te : TE} {vs : List Nat} {σ : St} {H1 : Hp} {D : Addr} {Qd : Hp → Prop} (Pv : Nat → Hp → Prop) (h0 : Pv 0 (upd H1 D (.lst []))) (hl : ∀ i H, i ≤ kvs.length → Pv i H → H d = some (.frz o (.dT kvs)))
    (hs : ∀ i k v q T H, kvs[i]? = some (k, v) → Pv i H → KeyAt H k q → H T = none → g (.ref T) (wipe σ vs) (upd H T (.tup [.ref q, v])) fun σ2 H2 => wipe σ2 vs = wipe σ vs ∧ tt σ2 H2 fun b H3 =>
      if b = true then te σ2 H3 fun y H4 => ∃ acc, H4 D = some (.lst acc) ∧ acc.length < sizeLine ∧ Pv (i + 1) (upd H4 D (.lst (acc ++ [y]))) else Pv (i + 1) H3) (hd : ∀ H, Pv kvs.length H → Qd H) :
    ∃ W : Nat → Nat → Hp → Prop, (∃ m, W 0 m (upd H1 D (.lst []))) ∧ ∀ i m H, W i m H →
      ((Itti d o kvs).stop i H ∧ Qd H) ∨ ((Itti d o kvs).go i H ∧ ∃ Nx : Hp → Prop, (∀ H', Nx H' → ∃ m', m' < m ∧ W (i + 1) m' H') ∧ ∀ x H', (Itti d o kvs).yld i H x H' → g x (wipe σ vs) H' fun σ2 H2 => wipe σ2 vs = wipe σ vs ∧ tt σ2 H2 fun b H3 =>
        if b = true then te σ2 H3 fun y H4 => ∃ acc, H4 D = some (.lst acc) ∧ acc.length < sizeLine ∧ Nx (upd H4 D (.lst (acc ++ [y]))) else Nx H3) := by
  refine ⟨fun i m H => m = kvs.length - i ∧ i ≤ kvs.length ∧ Pv i H, ⟨kvs.length, by simp, Nat.zero_le _, h0⟩, ?_⟩
  rintro i m H ⟨rfl, hi, p⟩
  have q := hl i H hi p
  by_cases hlt : i < kvs.length
  · refine .inr ⟨⟨q, hlt⟩, Pv (i + 1), fun H' p' => ⟨kvs.length - (i + 1), by omega, rfl, hlt, p'⟩, fun x H' y => ?_⟩
    obtain ⟨T, k, v, q', h1, h2, rfl, h3, rfl⟩ := y
    exact hs i k v q' T H h1 p h2 h3
  · have e : i = kvs.length := by omega
    subst e
    exact .inl ⟨⟨q, Nat.le_refl _⟩, hd H p⟩
end L2
section
set_option Elab.async false
set_option compiler.extract_closed false
set_option genSizeOf false
set_option linter.all false
set_option maxRecDepth 100000
set_option maxHeartbeats 2000000
namespace L2
open PySem PySem.Spec PyProof.Rows
open PySem.W (WData Codec OpenSpec Well WellAll ReadsW ReadsAllW)
mutual
inductive Dw (K : PySem.W.Frag) (H : Hp) : V → WData → Prop
  | non : Dw K H .non .none
  | bl (b : Bool) : Dw K H (.bl b) (.bool b)
  | int (i : Int) : Dw K H (.int i) (.int i)
  | str (x : Str) : Dw K H (.str x) (.str x)
  | byt (b : Array UInt8) : Dw K H (.byt b) (.bytes b.toList)
  | lst {a : Addr} {xs : List V} {ds : List WData} : SqL K H a xs → DwAll K H xs ds → Dw K H (.ref a) (.list ds)
  | tup {a : Addr} {xs : List V} {ds : List WData} : SqT K H a xs → DwAll K H xs ds → Dw K H (.ref a) (.tuple ds)
inductive DwAll (K : PySem.W.Frag) (H : Hp) : List V → List WData → Prop
  | nil : DwAll K H [] []
  | cons {v : V} {vs : List V} {d : WData} {ds : List WData} : Dw K H v d → DwAll K H vs ds → DwAll K H (v :: vs) (d :: ds)
end
theorem dw_ints {K : PySem.W.Frag} {H : Hp} : ∀ ns : List Int, DwAll K H (ns.map V.int) (ns.map WData.int)
  | [] => .nil
  | n :: r => .cons (.int n) (dw_ints r)
theorem ints_dw {K : PySem.W.Frag} {H : Hp} : ∀ (ns : List Int) (xs : List V), DwAll K H xs (ns.map WData.int) → xs = ns.map V.int
  | [], xs, h => by
    cases h
    rfl
  | n :: r, xs, h => by
    cases h with
    | cons h1 h2 =>
      cases h1
      rw [ints_dw r _ h2] <;> rfl
section
variable {P : Program} {w : World} {K : PySem.W.Frag} {H : Hp} {h : Heap} {R : PySem.W.WRecords} {cl : Str → Option Addr}
theorem sqL_at {a : Addr} {xs : List V} (hok : HOk P w H h) (KX : K.In h) (q : SqL K H a xs) : ∃ (its : List Value) (o : Obj) (n : Nat), Vals xs its ∧ h.get? a = some o ∧ o.cls = .type "list" ∧ o.data = .seq its.toArray n := by
  rcases q with q | ⟨o, its, n, e, hc, _, hd, _, hv⟩
  · obtain ⟨_, its, n, hv, e⟩ := (show ObjOk P w H h a (.lst xs) from q.ok hok)
    exact ⟨its, _, n, hv, e, rfl, rfl⟩
  · exact ⟨its.toList, o, n, hv, KX _ _ e, hc, by simp [hd]⟩
theorem sqT_at {a : Addr} {xs : List V} (hok : HOk P w H h) (KX : K.In h) (q : SqT K H a xs) : ∃ (its : List Value) (o : Obj) (n : Nat), Vals xs its ∧ h.get? a = some o ∧ o.cls = .type "tuple" ∧ o.data = .seq its.toArray n := by
  rcases q with q | ⟨o, its, n, e, hc, hd, _, hv⟩
  · obtain ⟨_, its, hv, o, e, hc, n, hd⟩ := (show ObjOk P w H h a (.tup xs) from q.ok hok)
    exact ⟨its, o, n, hv, e, hc, hd.1⟩
  · exact ⟨its.toList, o, n, hv, KX _ _ e, hc, by simp [hd]⟩
mutual
theorem Dw.reads (hok : HOk P w H h) (KX : K.In h) : ∀ (d : WData) (v : V) (u : Value), Dw K H v d → RelV v u → ∃ as, ReadsW R cl h u d as
  | .none, _, _, x, r => by
    cases x
    cases r
    exact ⟨_, ReadsW.none⟩
  | .bool b, _, _, x, r => by
    cases x
    cases r
    exact ⟨_, ReadsW.bool b⟩
  | .int i, _, _, x, r => by
    cases x
    obtain ⟨t, rfl⟩ := r
    exact ⟨_, ReadsW.int i t⟩
  | .str s, _, _, x, r => by
    cases x
    obtain ⟨t, rfl⟩ := r
    exact ⟨_, ReadsW.str s t⟩
  | .bytes b, _, _, x, r => by
    cases x
    obtain ⟨t, rfl⟩ := r
    exact ⟨_, ReadsW.bytes _ t⟩
  | .list ds, _, _, x, r => by
    cases x with
    | lst hs ha =>
      cases r
      obtain ⟨its, o, n, rv, ho, hc, hd⟩ := sqL_at hok KX hs
      obtain ⟨as, hr⟩ := Dw.readsAll hok KX ds _ its ha rv
      exact ⟨_, ReadsW.list ho hc hd hr⟩
  | .tuple ds, _, _, x, r => by
    cases x with
    | tup hs ha =>
      cases r
      obtain ⟨its, o, n, rv, ho, hc, hd⟩ := sqT_at hok KX hs
      obtain ⟨as, hr⟩ := Dw.readsAll hok KX ds _ its ha rv
      exact ⟨_, ReadsW.tuple ho hc hd hr⟩
  | .float _, _, _, x, _ => by cases x
  | .dict _, _, _, x, _ => by cases x
  | .bytearray _, _, _, x, _ => by cases x
  | .set _, _, _, x, _ => by cases x
  | .frozenset _, _, _, x, _ => by cases x
  | .obj _ _, _, _, x, _ => by cases x
theorem Dw.readsAll (hok : HOk P w H h) (KX : K.In h) : ∀ (ds : List WData) (vs : List V) (us : List Value), DwAll K H vs ds → Vals vs us → ∃ as, ReadsAllW R cl h us ds as
  | [], _, _, x, r => by
    cases x
    cases r
    exact ⟨_, ReadsAllW.nil⟩
  | d :: ds, _, _, x, r => by
    cases x with
    | cons h1 h2 =>
      cases r with
      | cons r1 r2 =>
        obtain ⟨as, q1⟩ := Dw.reads hok KX d _ _ h1 r1
        obtain ⟨bs, q2⟩ := Dw.readsAll hok KX ds _ _ h2 r2
        exact ⟨_, ReadsAllW.cons q1 q2⟩
end
end
mutual
noncomputable def plW : WData → Bool
  | .none => true
  | .bool _ => true
  | .int _ => true
  | .str _ => true
  | .bytes _ => true
  | .list xs => plWs xs
  | .tuple xs => plWs xs
  | _ => false
noncomputable def plWs : List WData → Bool
  | [] => true
  | x :: r => plW x && plWs r
end
theorem plWs_map {α : Type} {f : α → WData} (h : ∀ a, plW (f a) = true) : ∀ l : List α, plWs (l.map f) = true
  | [] => rfl
  | x :: r => by
    show (plW (f x) && plWs (r.map f)) = true
    rw [h x, plWs_map h r] <;> rfl
theorem pl_enc : ∀ (c : Codec) (a : c.denote), plW (c.enc a) = true
  | .unit, _ => rfl
  | .bool, _ => rfl
  | .int _ _, _ => rfl
  | .nat _ _, _ => rfl
  | .u8, _ => rfl
  | .bytes _ _, _ => rfl
  | .text _ _ _ _, _ => rfl
  | .list _ _ c, a => plWs_map (fun x => pl_enc c x) a
  | .pair c d, a => by
    show (plW (c.enc a.1) && (plW (d.enc a.2) && true)) = true
    rw [pl_enc c a.1, pl_enc d a.2] <;> rfl
  | .triple c d e, a => by
    show (plW (c.enc a.1) && (plW (d.enc a.2.1) && (plW (e.enc a.2.2) && true))) = true
    rw [pl_enc c a.1, pl_enc d a.2.1, pl_enc e a.2.2] <;> rfl
  | .option c, none => rfl
  | .option c, some x => pl_enc c x
theorem pl_encAll : ∀ (cs : List Codec) (a : Codec.denoteAll cs), plWs (Codec.encAll cs a) = true
  | [], _ => rfl
  | c :: cs, a => by
    show (plW (c.enc a.1) && plWs (Codec.encAll cs a.2)) = true
    rw [pl_enc c a.1, pl_encAll cs a.2] <;> rfl
theorem weight_mem : ∀ {xs : List WData} {d : WData}, d ∈ xs → d.weight ≤ WData.weightAll xs
  | [], d, h => absurd h (by simp)
  | x :: r, d, h => by
    show d.weight ≤ x.weight + 1 + WData.weightAll r
    rcases List.mem_cons.mp h with e | m
    · rw [e]
      omega
    · have z := weight_mem m
      omega
noncomputable def toV : Value → V
  | .none => .non
  | .bool b => .bl b
  | .int i _ => .int i
  | .str x _ => .str x
  | .bytes b _ => .byt b
  | .ref a => .ref a
  | _ => .non
noncomputable def OkU (A : List Addr) : Value → Prop
  | .none => True
  | .bool _ => True
  | .int _ _ => True
  | .str _ _ => True
  | .bytes _ _ => True
  | .ref a => a ∈ A
  | _ => False
theorem OkU.mono {A B : List Addr} (h : ∀ a ∈ A, a ∈ B) : ∀ {u : Value}, OkU A u → OkU B u := fun {u} x => by
  cases u with
  | ref a => exact h a x
  | none => trivial
  | bool b => trivial
  | int i t => trivial
  | str s t => trivial
  | bytes b t => trivial
  | _ => exact False.elim x
theorem relV_toV {A : List Addr} {u : Value} (x : OkU A u) : RelV (toV u) u := by
  cases u with
  | ref a => rfl
  | none => rfl
  | bool b => rfl
  | int i t => exact ⟨t, rfl⟩
  | str s t => exact ⟨t, rfl⟩
  | bytes b t => exact ⟨t, rfl⟩
  | _ => exact False.elim x
theorem vals_toV {A : List Addr} : ∀ {vs : List Value}, (∀ u ∈ vs, OkU A u) → Vals (vs.map toV) vs
  | [], _ => .nil
  | u :: r, h => .cons (relV_toV (h u (List.mem_cons_self ..))) (vals_toV fun x hx => h x (List.mem_cons_of_mem _ hx))
noncomputable def ArgOb (h : Heap) (A : List Addr) (a : Addr) : Prop := ∃ vs : List Value, vs.length ≤ sizeLine ∧ (∀ u ∈ vs, OkU A u) ∧
  (h.get? a = some { cls := .type "list", data := .seq vs.toArray } ∨ h.get? a = some { cls := .type "tuple", data := .seq vs.toArray })
theorem ArgOb.mono {h : Heap} {A B : List Addr} {a : Addr} (k : ∀ a ∈ A, a ∈ B) (x : ArgOb h A a) : ArgOb h B a := by
  obtain ⟨vs, h1, h2, h3⟩ := x
  exact ⟨vs, h1, fun u hu => (h2 u hu).mono k, h3⟩
theorem wellAll_len {P : Params} {h : Heap} : ∀ {vs : List Value} {ds : List WData}, WellAll P h vs ds → vs.length = ds.length
  | _, _, .nil => rfl
  | _, _, .cons _ b => by
    show _ + 1 = _ + 1
    rw [wellAll_len b]
theorem well_list {P : Params} {h : Heap} {v : Value} {ds : List WData} (x : Well P h v (.list ds)) : ∃ (a : Addr) (vs : List Value), v = .ref a ∧ h.get? a = some { cls := .type "list", data := .seq vs.toArray } ∧ WellAll P h vs ds := by
  cases x with
  | list ho hall => exact ⟨_, _, rfl, ho, hall⟩
theorem well_tuple {P : Params} {h : Heap} {v : Value} {ds : List WData} (x : Well P h v (.tuple ds)) : ∃ (a : Addr) (vs : List Value), v = .ref a ∧ h.get? a = some { cls := .type "tuple", data := .seq vs.toArray } ∧ WellAll P h vs ds := by
  cases x with
  | tuple ho hall => exact ⟨_, _, rfl, ho, hall⟩
theorem well_cons {P : Params} {h : Heap} {us : List Value} {d : WData} {ds : List WData} (x : WellAll P h us (d :: ds)) : ∃ (v : Value) (vs : List Value), us = v :: vs ∧ Well P h v d ∧ WellAll P h vs ds := by
  cases x with
  | cons a b => exact ⟨_, _, rfl, a, b⟩
theorem line_of {n : Nat} (h : n ≤ 1048576) : n ≤ sizeLine := Nat.le_trans h (by decide)
section
variable {P : Params} {h : Heap}
mutual
theorem area_one : ∀ (d : WData) (v : Value), Well P h v d → plW d = true → d.weight ≤ 1048576 → ∃ A : List Addr, OkU A v ∧ ∀ a ∈ A, ArgOb h A a
  | .none, _, x, _, _ => by
    cases x
    exact ⟨[], trivial, fun a m => absurd m (by simp)⟩
  | .bool b, _, x, _, _ => by
    cases x
    exact ⟨[], trivial, fun a m => absurd m (by simp)⟩
  | .int i, _, x, _, _ => by
    cases x
    exact ⟨[], trivial, fun a m => absurd m (by simp)⟩
  | .str s, _, x, _, _ => by
    cases x
    exact ⟨[], trivial, fun a m => absurd m (by simp)⟩
  | .bytes b, _, x, _, _ => by
    cases x
    exact ⟨[], trivial, fun a m => absurd m (by simp)⟩
  | .list ds, _, x, p, z => by
    obtain ⟨a, vs, rfl, ho, hall⟩ := well_list x
    have z2 : WData.weightAll ds ≤ 1048576 := z
    obtain ⟨A, h1, h2⟩ := area_all ds _ hall p fun d hd => Nat.le_trans (weight_mem hd) z2
    have k : ∀ b ∈ A, b ∈ a :: A := fun b hb => List.mem_cons_of_mem _ hb
    refine ⟨a :: A, List.mem_cons_self .., fun b hb => ?_⟩
    rcases List.mem_cons.mp hb with e | m
    · rw [e]
      exact ⟨vs, line_of (by rw [wellAll_len hall]; exact Nat.le_trans (PySem.W.length_le_weightAllW ds) z2), fun u hu => (h1 u hu).mono k, .inl ho⟩
    · exact (h2 b m).mono k
  | .tuple ds, _, x, p, z => by
    obtain ⟨a, vs, rfl, ho, hall⟩ := well_tuple x
    have z2 : WData.weightAll ds ≤ 1048576 := z
    obtain ⟨A, h1, h2⟩ := area_all ds _ hall p fun d hd => Nat.le_trans (weight_mem hd) z2
    have k : ∀ b ∈ A, b ∈ a :: A := fun b hb => List.mem_cons_of_mem _ hb
    refine ⟨a :: A, List.mem_cons_self .., fun b hb => ?_⟩
    rcases List.mem_cons.mp hb with e | m
    · rw [e]
      exact ⟨vs, line_of (by rw [wellAll_len hall]; exact Nat.le_trans (PySem.W.length_le_weightAllW ds) z2), fun u hu => (h1 u hu).mono k, .inr ho⟩
    · exact (h2 b m).mono k
  | .float _, _, _, p, _ => Bool.noConfusion (show false = true from p)
  | .dict _, _, _, p, _ => Bool.noConfusion (show false = true from p)
  | .bytearray _, _, _, p, _ => Bool.noConfusion (show false = true from p)
  | .set _, _, _, p, _ => Bool.noConfusion (show false = true from p)
  | .frozenset _, _, _, p, _ => Bool.noConfusion (show false = true from p)
  | .obj _ _, _, _, p, _ => Bool.noConfusion (show false = true from p)
theorem area_all : ∀ (ds : List WData) (vs : List Value), WellAll P h vs ds → plWs ds = true → (∀ d ∈ ds, d.weight ≤ 1048576) → ∃ A : List Addr, (∀ u ∈ vs, OkU A u) ∧ ∀ a ∈ A, ArgOb h A a
  | [], _, x, _, _ => by
    cases x
    exact ⟨[], fun u m => absurd m (by simp), fun a m => absurd m (by simp)⟩
  | d :: ds, _, x, p, z => by
    obtain ⟨v, vs, rfl, x1, x2⟩ := well_cons x
    have q : plW d = true ∧ plWs ds = true := Bool.and_eq_true_iff.mp p
    obtain ⟨A, a1, a2⟩ := area_one d v x1 q.1 (z d (List.mem_cons_self ..))
    obtain ⟨B, b1, b2⟩ := area_all ds vs x2 q.2 fun e he => z e (List.mem_cons_of_mem _ he)
    have kA : ∀ b ∈ A, b ∈ A ++ B := fun b hb => List.mem_append.mpr (.inl hb)
    have kB : ∀ b ∈ B, b ∈ A ++ B := fun b hb => List.mem_append.mpr (.inr hb)
    refine ⟨A ++ B, fun u hu => ?_, fun b hb => ?_⟩
    · rcases List.mem_cons.mp hu with e | m
      · rw [e]
        exact a1.mono kA
      · exact (b1 u m).mono kB
    · rcases List.mem_append.mp hb with m | m
      · exact (a2 b m).mono kA
      · exact (b2 b m).mono kB
end
end
noncomputable def hoOf (o : Obj) : Option HO := match o.data with
  | .seq vs _ => if (o.cls == Value.type "list") = true then some (.frz o (.lst (vs.toList.map toV))) else some (.frz o (.tup (vs.toList.map toV)))
  | _ => none
noncomputable def argH (K : PySem.W.Frag) (h : Heap) (A : List Addr) : Hp := fun b => if b ∈ A then (if (K.lookup b).isNone = true then (h.get? b).bind hoOf else none) else none
noncomputable def OnlyF (H : Hp) : Prop := ∀ b, H b = none ∨ ∃ o u, H b = some (.frz o u)
theorem hoOf_lst (vs : List Value) : hoOf { cls := .type "list", data := .seq vs.toArray } = some (.frz { cls := .type "list", data := .seq vs.toArray } (.lst (vs.map toV))) := by
  show (if (Value.type "list" == Value.type "list") = true then some (HO.frz { cls := .type "list", data := .seq vs.toArray } (.lst (vs.toArray.toList.map toV))) else some (HO.frz { cls := .type "list", data := .seq vs.toArray } (.tup (vs.toArray.toList.map toV)))) = _
  rw [if_pos (beq_self_eq_true _)]
theorem hoOf_tup (vs : List Value) : hoOf { cls := .type "tuple", data := .seq vs.toArray } = some (.frz { cls := .type "tuple", data := .seq vs.toArray } (.tup (vs.map toV))) := by
  show (if (Value.type "tuple" == Value.type "list") = true then some (HO.frz { cls := .type "tuple", data := .seq vs.toArray } (.lst (vs.toArray.toList.map toV))) else some (HO.frz { cls := .type "tuple", data := .seq vs.toArray } (.tup (vs.toArray.toList.map toV)))) = _
  rw [if_neg (by decide)]
section
variable {P : Program} {w : World} {K : PySem.W.Frag} {h : Heap} {A : List Addr}
theorem argH_at {b : Addr} {o : Obj} (hb : b ∈ A) (hk : K.lookup b = none) (e : h.get? b = some o) : argH K h A b = hoOf o := by
  unfold argH
  rw [if_pos hb, hk, if_pos (show (none : Option Obj).isNone = true from rfl), e] <;> rfl
theorem of_argH {b : Addr} {u : HO} (q : argH K h A b = some u) : b ∈ A ∧ K.lookup b = none := by
  unfold argH at q
  by_cases hb : b ∈ A
  · rw [if_pos hb] at q
    cases hk : K.lookup b with
    | none => exact ⟨hb, rfl⟩
    | some o =>
      rw [hk, if_neg (by simp)] at q
      cases q
  · rw [if_neg hb] at q
    cases q
theorem argH_is (ar : ∀ a ∈ A, ArgOb h A a) {b : Addr} {u : HO} (q : argH K h A b = some u) : K.lookup b = none ∧ ∃ vs : List Value, vs.length ≤ sizeLine ∧ (∀ u ∈ vs, OkU A u) ∧
    ((h.get? b = some { cls := .type "list", data := .seq vs.toArray } ∧ u = .frz { cls := .type "list", data := .seq vs.toArray } (.lst (vs.map toV))) ∨
     (h.get? b = some { cls := .type "tuple", data := .seq vs.toArray } ∧ u = .frz { cls := .type "tuple", data := .seq vs.toArray } (.tup (vs.map toV)))) := by
  obtain ⟨hb, hk⟩ := of_argH q
  obtain ⟨vs, h1, h2, h3⟩ := ar b hb
  refine ⟨hk, vs, h1, h2, ?_⟩
  rcases h3 with e | e
  · rw [argH_at hb hk e, hoOf_lst] at q
    exact .inl ⟨e, (Option.some.inj q).symm⟩
  · rw [argH_at hb hk e, hoOf_tup] at q
    exact .inr ⟨e, (Option.some.inj q).symm⟩
theorem argH_only (ar : ∀ a ∈ A, ArgOb h A a) : OnlyF (argH K h A) := fun b => by
  cases q : argH K h A b with
  | none => exact .inl rfl
  | some u =>
    obtain ⟨_, vs, _, _, ⟨_, e⟩ | ⟨_, e⟩⟩ := argH_is ar q
    · exact .inr ⟨_, _, by rw [e]⟩
    · exact .inr ⟨_, _, by rw [e]⟩
theorem argH_ok (ar : ∀ a ∈ A, ArgOb h A a) : HOk P w (argH K h A) h := fun b u q => by
  obtain ⟨_, vs, h1, h2, ⟨e, rfl⟩ | ⟨e, rfl⟩⟩ := argH_is ar q
  · exact ⟨e, by rw [List.length_map]; exact h1, vs, _, vals_toV h2, e⟩
  · exact ⟨e, by rw [List.length_map]; exact h1, vs, vals_toV h2, _, e, rfl, _, rfl, rfl⟩
theorem seq_inj {c c' : Value} {vs us : List Value} (e : (some { cls := c, data := .seq vs.toArray } : Option Obj) = some { cls := c', data := .seq us.toArray }) : c = c' ∧ vs = us := by
  have e1 := Option.some.inj e
  have e2 : c = c' := congrArg Obj.cls e1
  have e3 : Data.seq vs.toArray = Data.seq us.toArray := congrArg Obj.data e1
  injection e3 with e4
  refine ⟨e2, ?_⟩
  have e5 := congrArg Array.toList e4
  simpa using e5
theorem argL (KX : K.In h) (ar : ∀ a ∈ A, ArgOb h A a) {a : Addr} {vs : List Value} (ha : a ∈ A) (e : h.get? a = some { cls := .type "list", data := .seq vs.toArray }) : (∀ u ∈ vs, OkU A u) ∧ SqL K (argH K h A) a (vs.map toV) := by
  obtain ⟨us, h1, h2, h3⟩ := ar a ha
  have hu : us = vs := by
    rcases h3 with q | q
    · rw [e] at q
      exact (seq_inj q).2.symm
    · rw [e] at q
      exact absurd (Value.type.inj (seq_inj q).1) (by decide)
  subst hu
  refine ⟨h2, ?_⟩
  cases hk : K.lookup a with
  | none => exact .inl (.inr ⟨_, by rw [argH_at ha hk e, hoOf_lst]⟩)
  | some o =>
    have e2 := KX a o hk
    rw [e] at e2
    obtain rfl := Option.some.inj e2
    exact .inr ⟨_, us.toArray, _, hk, rfl, rfl, rfl, by rw [List.size_toArray]; exact h1, by simpa using vals_toV h2⟩
theorem argT (KX : K.In h) (ar : ∀ a ∈ A, ArgOb h A a) {a : Addr} {vs : List Value} (ha : a ∈ A) (e : h.get? a = some { cls := .type "tuple", data := .seq vs.toArray }) : (∀ u ∈ vs, OkU A u) ∧ SqT K (argH K h A) a (vs.map toV) := by
  obtain ⟨us, h1, h2, h3⟩ := ar a ha
  have hu : us = vs := by
    rcases h3 with q | q
    · rw [e] at q
      exact absurd (Value.type.inj (seq_inj q).1) (by decide)
    · rw [e] at q
      exact (seq_inj q).2.symm
  subst hu
  refine ⟨h2, ?_⟩
  cases hk : K.lookup a with
  | none => exact .inl (.inr ⟨_, by rw [argH_at ha hk e, hoOf_tup]⟩)
  | some o =>
    have e2 := KX a o hk
    rw [e] at e2
    obtain rfl := Option.some.inj e2
    exact .inr ⟨_, us.toArray, _, hk, rfl, rfl, by rw [List.size_toArray]; exact h1, by simpa using vals_toV h2⟩
mutual
theorem dw_one {Pm : Params} (KX : K.In h) (ar : ∀ a ∈ A, ArgOb h A a) : ∀ (d : WData) (v : Value), Well Pm h v d → plW d = true → OkU A v → Dw K (argH K h A) (toV v) d
  | .none, _, x, _, _ => by
    cases x
    exact .non
  | .bool b, _, x, _, _ => by
    cases x
    exact .bl b
  | .int i, _, x, _, _ => by
    cases x
    exact .int i
  | .str s, _, x, _, _ => by
    cases x
    exact .str s
  | .bytes b, _, x, _, _ => by
    cases x
    have z := Dw.byt (K := K) (H := argH K h A) b.toArray
    exact z
  | .list ds, _, x, p, hu => by
    obtain ⟨a, vs, rfl, ho, hall⟩ := well_list x
    obtain ⟨h2, hs⟩ := argL KX ar hu ho
    exact .lst hs (dw_all KX ar ds _ hall p h2)
  | .tuple ds, _, x, p, hu => by
    obtain ⟨a, vs, rfl, ho, hall⟩ := well_tuple x
    obtain ⟨h2, hs⟩ := argT KX ar hu ho
    exact .tup hs (dw_all KX ar ds _ hall p h2)
  | .float _, _, _, p, _ => Bool.noConfusion (show false = true from p)
  | .dict _, _, _, p, _ => Bool.noConfusion (show false = true from p)
  | .bytearray _, _, _, p, _ => Bool.noConfusion (show false = true from p)
  | .set _, _, _, p, _ => Bool.noConfusion (show false = true from p)
  | .frozenset _, _, _, p, _ => Bool.noConfusion (show false = true from p)
  | .obj _ _, _, _, p, _ => Bool.noConfusion (show false = true from p)
theorem dw_all {Pm : Params} (KX : K.In h) (ar : ∀ a ∈ A, ArgOb h A a) : ∀ (ds : List WData) (vs : List Value), WellAll Pm h vs ds → plWs ds = true → (∀ u ∈ vs, OkU A u) → DwAll K (argH K h A) (vs.map toV) ds
  | [], _, x, _, _ => by
    cases x
    exact .nil
  | d :: ds, _, x, p, hu => by
    obtain ⟨v, vs, rfl, x1, x2⟩ := well_cons x
    have q : plW d = true ∧ plWs ds = true := Bool.and_eq_true_iff.mp p
    exact .cons (dw_one KX ar d v x1 q.1 (hu _ (List.mem_cons_self ..))) (dw_all KX ar ds vs x2 q.2 fun u m => hu u (List.mem_cons_of_mem _ m))
end
end
theorem spec_call {P : Program} {w : World} {K : PySem.W.Frag} {mg mb : Str → Option Value} {CX : CXT} {k : Nat} {fa : Addr} {fd : FuncData} {ps : List Str} {sp : Sp} {s₁ : Shared} {vals : List Value} {ds : List WData} {R : PySem.W.WRecords} {cl : Str → Option Addr} {d0 : WData}
    (KX : K.In s₁.heap) (hns : s₁.heap.Ns mainGlobals mg) (hb : s₁.heap.Ns builtinsNs mb) (hbb : ∀ x : Str, x ≠ "__name__" → mb x = bootBuiltins x) (hlim : s₁.heap.NoLimit) (hg : s₁.gens = #[])
    (hwl : WellAll w.params s₁.heap vals ds) (hpl : plWs ds = true) (hwt : ∀ d ∈ ds, d.weight ≤ 1048576) (hr : Room k callerA)
    (F : ∀ base : Heap, K.In base → base.Ns mainGlobals mg → FnOk P w K mg base CX k fa fd ps sp) (hbind : ∀ (s : Shared) (us : List Value), us.length = ps.length → BindsTo s fd ⟨us, []⟩ (ps.zip us)) (hlen : ds.length = ps.length)
    (hsp : ∀ (H : Hp) (xs : List V), OnlyF H → DwAll K H xs ds → sp xs H (fun v H' => Dw K H' v d0) fun _ _ _ => False)
    (hCX : ∀ H e s', CX [] H s₁ (fun _ _ _ => False) e s' → False) :
    codeAny (model P w) callerA (.call (.ref fa) ⟨vals, []⟩) (fun r s' => ∃ u as, r = .ok (.ret u) ∧ ReadsW R cl s'.heap u d0 as ∧ OldK s₁.heap s'.heap ∧ s'.os = s₁.os ∧ AllBare s'.gens) s₁ := by
  obtain ⟨A, ho, ar⟩ := area_all ds vals hwl hpl hwt
  have hO : OnlyF (argH K s₁.heap A) := argH_only ar
  have hok : HOk P w (argH K s₁.heap A) s₁.heap := argH_ok ar
  have hS := dw_all KX ar ds vals hwl hpl ho
  have hV := vals_toV ho
  have hK : ∀ b u, argH K s₁.heap A b = some u → K.lookup b = none := fun b u q => (argH_is ar q).1
  have noA : ∀ {b : Addr} {o : Obj} {es : Array DictEntry} {ep : Nat}, s₁.heap.get? b = some o → o.data = .dict es ep → argH K s₁.heap A b = none := fun {b o es ep} e d => by
    cases q : argH K s₁.heap A b with
    | none => rfl
    | some u =>
      obtain ⟨_, vs, _, _, ⟨e2, _⟩ | ⟨e2, _⟩⟩ := argH_is ar q
      · rw [e2] at e
        cases e
        have d' : Data.seq vs.toArray _ = Data.dict es ep := d
        cases d'
      · rw [e2] at e
        cases e
        have d' : Data.seq vs.toArray _ = Data.dict es ep := d
        cases d'
  generalize argH K s₁.heap A = H at hO hok hS hK noA
  have base_of : ∀ {b : Addr} {o : Obj}, s₁.heap.get? b = some o → H b = none → (hidT s₁.heap H).get? b = some o := fun e n => hidT_get e n
  have nsK : ∀ {b : Addr} {m : Str → Option Value}, s₁.heap.Ns b m → (hidT s₁.heap H).Ns b m := fun {b m} ⟨o, es, ep, e, d, r⟩ => ⟨o, es, ep, base_of e (noA e d), d, r⟩
  have nK : ∀ b o, K.lookup b = some o → H b = none := fun b o e => by
    cases q : H b with
    | none => rfl
    | some u =>
      rw [hK b u q] at e
      cases e
  have hKb : K.In (hidT s₁.heap H) := fun b o e => base_of (KX b o e) (nK b o e)
  have hM : Mod K mg (hidT s₁.heap H) := ⟨hKb, nsK hns, ⟨mb, nsK hb, hbb⟩, let ⟨mc, h1, h2⟩ := hlim; ⟨mc, nsK h1, h2⟩⟩
  have e0 : Env0 P w K mg (hidT s₁.heap H) callerA [] s₁ H := ⟨rfl, hM, fun b o e => of_hidT e, Nat.le_of_eq (hidT_size _ _), trivial, fun b hb => absurd (show b ∈ ([] : List Addr) from hb) (by simp), hok, .of_eq hg⟩
  have hl : vals.length = ps.length := by rw [wellAll_len hwl]; exact hlen
  refine codeAny_mono ((F _ hKb (nsK hns)).run callerA [] s₁ H ⟨vals, []⟩ vals (vals.map toV) _ _ hr e0 (hbind s₁ vals hl) hV (hsp H _ hO hS)) fun r s' x => ?_
  cases r with
  | error e => exact (hCX H e s' x).elim
  | ok fl =>
    cases fl with
    | next => exact False.elim x
    | brk => exact False.elim x
    | cont => exact False.elim x
    | ret u =>
      obtain ⟨v, H', os, bare, un, hok', r', q⟩ := x
      have kept : ∀ b o, s₁.heap.get? b = some o → s'.heap.get? b = some o := fun b o e => by
        cases q2 : H b with
        | none => exact un.keep b o e q2 (by intro z; exact absurd (show b ∈ ([] : List Addr) from z) (by simp)) (by simp)
        | some u2 =>
          rcases hO b with z | ⟨ob, u3, z⟩
          · rw [q2] at z
            cases z
          · have z2 := un.frzs b ob _ z
            obtain ⟨e1, _⟩ := hok b _ z
            obtain ⟨e2, _⟩ := hok' b _ z2
            rw [e] at e1
            cases e1
            exact e2
      have KX' : K.In s'.heap := fun b o e => kept b o (KX b o e)
      obtain ⟨as, hrd⟩ := Dw.reads (R := R) (cl := cl) hok' KX' d0 v u q r'
      exact ⟨u, as, rfl, hrd, OldK.of_keep kept, os, bare⟩
theorem layable_weight {ds : List WData} (h : WData.layableAll ds = true) : ∀ d ∈ ds, d.weight ≤ 1048576 := fun d hd =>
  (PySem.W.layableW_iff.mp (List.all_eq_true.mp h d hd)).2.2
theorem encAll_len : ∀ (cs : List Codec) (a : Codec.denoteAll cs), (Codec.encAll cs a).length = cs.length
  | [], _ => rfl
  | c :: cs, a => by
    show (Codec.encAll cs a.2).length + 1 = cs.length + 1
    rw [encAll_len cs a.2]
theorem walk_spec {r : OpenSpec} {k : Nat} {q : Program} {loose : List Str} {XP : (Str → Option Value) → Heap → Prop} {YP : World → Heap → Prop} {d : DefRec} {K : Params → PySem.W.Frag} {CX : World → CXT} {ps : List Str} {sp : World → Sp}
    (hwell : r.wellSaid = true) (hdf : d.params.defaults = []) (hlen : r.args.length = ps.length) (hr : Room k callerA)
    (hY : ∀ (w : World) (h : Heap), YP w h → (K w.params).In h)
    (F : ∀ (w : World) (mg : Str → Option Value) (fa : Addr) (h : Heap), YP w h → (K w.params).In h → h.Ns mainGlobals mg → mg d.name = some (.ref fa) →
      ∃ fd : FuncData, (∀ (s : Shared) (us : List Value), us.length = ps.length → BindsTo s fd ⟨us, []⟩ (ps.zip us)) ∧
        ∀ base : Heap, (K w.params).In base → base.Ns mainGlobals mg → FnOk r.prog w (K w.params) mg base (CX w) k fa fd ps (sp w))
    (hsp : ∀ (w : World) (H : Hp) (xs : List V) (a : Codec.denoteAll r.args), OnlyF H → Codec.withinAll r.args a = true → Codec.app r.args r.asked a = true → DwAll (K w.params) H xs (Codec.encAll r.args a) →
      sp w xs H (fun v H' => Dw (K w.params) H' v (r.ret.enc (Codec.app r.args r.f a))) fun _ _ _ => False)
    (hCX : ∀ (w : World) (H : Hp) (s : Shared) (e : Value) (s' : Shared), CX w [] H s (fun _ _ _ => False) e s' → False) :
    PySem.W.WalkOS q loose XP YP r d [] (fun f vs => PySem.call f vs) := by
  intro w s_0 s₁ mg mb G Y fa o pm cd doc dV kV ho hd hcd hD hmg hg args vals as hpre hlay hrd hwl hlo
  obtain ⟨a, e1, e2⟩ := PySem.W.os_pre_some hpre
  obtain ⟨e3, hwi⟩ := Codec.encAll_of_decAll r.args args a e1
  subst e3
  have KX := hY w _ Y
  obtain ⟨fd, hb, hF⟩ := F w mg fa _ Y KX G.T.g hmg
  refine PySem.W.enter_call (codeAny_mono (spec_call (R := []) (cl := classAt s_0.heap) (d0 := r.ret.enc (Codec.app r.args r.f a)) KX G.T.g G.T.b G.T.builtins G.T.nolimit hg hwl (pl_encAll _ _) (layable_weight hlay) hr hF hb (by rw [encAll_len]; exact hlen)
    (fun H xs hO hS => hsp w H xs a hO hwi e2 hS) fun H e s' => hCX w H s₁ e s') fun r' s' hq => ?_)
  obtain ⟨u, as', rfl, h1, h2, h3, h4⟩ := hq
  exact ⟨.inl ⟨u, _, as', rfl, fun _ => rfl, h1, (OpenSpec.post_iff hwell hwi _ _).mpr rfl, fun z => Bool.noConfusion (show false = true from z)⟩, h2, h3, h4⟩
theorem walk_specK {r : OpenSpec} {k : Nat} {q : Program} {loose : List Str} {XP : (Str → Option Value) → Heap → Prop} {YP : World → Heap → Prop} {d : DefRec} {K : Params → PySem.W.Frag} {CX : CXT} {ps : List Str} {sp : PySem.W.Frag → Sp}
    (hwell : r.wellSaid = true) (hdf : d.params.defaults = []) (hlen : r.args.length = ps.length) (hr : Room k callerA)
    (hY : ∀ (w : World) (h : Heap), YP w h → (K w.params).In h)
    (F : ∀ (w : World) (mg : Str → Option Value) (fa : Addr) (h : Heap), YP w h → (K w.params).In h → h.Ns mainGlobals mg → mg d.name = some (.ref fa) →
      ∃ fd : FuncData, (∀ (s : Shared) (us : List Value), us.length = ps.length → BindsTo s fd ⟨us, []⟩ (ps.zip us)) ∧
        ∀ base : Heap, (K w.params).In base → base.Ns mainGlobals mg → FnOk r.prog w (K w.params) mg base CX k fa fd ps (sp (K w.params)))
    (hsp : ∀ (K : PySem.W.Frag) (H : Hp) (xs : List V) (a : Codec.denoteAll r.args), OnlyF H → Codec.withinAll r.args a = true → Codec.app r.args r.asked a = true → DwAll K H xs (Codec.encAll r.args a) →
      sp K xs H (fun v H' => Dw K H' v (r.ret.enc (Codec.app r.args r.f a))) fun _ _ _ => False)
    (hCX : ∀ (H : Hp) (s : Shared) (e : Value) (s' : Shared), CX [] H s (fun _ _ _ => False) e s' → False) :
    PySem.W.WalkOS q loose XP YP r d [] (fun f vs => PySem.call f vs) :=
  walk_spec (K := K) (CX := fun _ => CX) (sp := fun w => sp (K w.params)) hwell hdf hlen hr hY F (fun w H xs a h1 h2 h3 h4 => hsp (K w.params) H xs a h1 h2 h3 h4) fun _ H s e s' => hCX H s e s'
end L2
-- rests on (row put in by the clerk, for the bench that shows a file only what it spells): KE.SpHead KE.OsShapes
end
set_option maxRecDepth 100000
set_option maxHeartbeats 4000000
namespace Ma
open Uw77

theorem bit_add : ∀ m : Nat, m < 64 → ∀ i : Nat, i < 6 → ∀ j : Nat, j < 6 → isIn m i = false → isIn (m + 2 ^ i) j = (j == i || isIn m j) := by decide +kernel
theorem bit_lt0 : ∀ k : Nat, k < 7 → ∀ m : Nat, m < 64 → ∀ i : Nat, i < 6 → (m < 2 ^ k ∧ i < k ∧ isIn m i = false) → m + 2 ^ i < 2 ^ k := by decide +kernel
theorem bit_lt (k : Nat) (hk : k < 7) (m : Nat) (hm : m < 64) (i : Nat) (hi : i < 6) (h1 : m < 2 ^ k) (h2 : i < k) (h3 : isIn m i = false) : m + 2 ^ i < 2 ^ k := bit_lt0 k hk m hm i hi ⟨h1, h2, h3⟩
theorem bit_full0 : ∀ k : Nat, k < 7 → ∀ i : Nat, i < 6 → i < k → isIn (2 ^ k - 1) i = true := by decide +kernel
theorem pow_le {k : Nat} (h : k ≤ 6) : 2 ^ k ≤ 64 := by
  have : 2 ^ k ≤ 2 ^ 6 := Nat.pow_le_pow_right (by decide) h
  simpa using this
theorem bit_full {k i : Nat} (hk : k ≤ 6) (h : i < k) : isIn (2 ^ k - 1) i = true := bit_full0 k (by omega) i (by omega) h
theorem isIn_false {a i : Nat} (h : a < 2 ^ i) : isIn a i = false := by
  unfold isIn
  rw [Nat.div_eq_of_lt h]
  rfl
theorem bit_out {k a i : Nat} (ha : a < 2 ^ k) (h : k ≤ i) : isIn a i = false :=
  isIn_false (Nat.lt_of_lt_of_le ha (Nat.pow_le_pow_right (by decide) h))

theorem isIn_bit (m i : Nat) : isIn m i = m.testBit i := by
  rw [Nat.testBit_eq_decide_div_mod_eq]
  unfold isIn
  by_cases h : m / 2 ^ i % 2 = 1
  · rw [h]; rfl
  · rw [decide_eq_false h]; exact beq_eq_false_iff_ne.mpr h
theorem bit_ext {k a b : Nat} (ha : a < 2 ^ k) (hb : b < 2 ^ k) (h : ∀ i, i < k → isIn a i = isIn b i) : a = b :=
  Nat.eq_of_testBit_eq fun i => by
    rw [← isIn_bit, ← isIn_bit]
    by_cases hi : i < k
    · exact h i hi
    · rw [bit_out ha (by omega), bit_out hb (by omega)]

theorem foldl_num (l : List Nat) (a : Nat) : l.foldl (fun s i => s + 2 ^ i) a = a + numberOf l := by
  unfold numberOf
  induction l generalizing a with
  | nil => simp
  | cons x l ih =>
    simp only [List.foldl_cons]
    rw [ih, ih (0 + 2 ^ x)]
    omega
theorem num_cons (x : Nat) (l : List Nat) : numberOf (x :: l) = 2 ^ x + numberOf l := by
  show l.foldl _ (0 + 2 ^ x) = _
  rw [foldl_num]; omega
theorem num_nil : numberOf [] = 0 := rfl

theorem add_num {k : Nat} (hk : k ≤ 6) : ∀ (l : List Nat) (m : Nat), m < 2 ^ k → l.Nodup → (∀ i ∈ l, i < k ∧ isIn m i = false) →
    m + numberOf l < 2 ^ k ∧ ∀ j, j < k → isIn (m + numberOf l) j = (isIn m j || l.contains j)
  | [], m, hm, _, _ => ⟨by simpa [num_nil] using hm, fun j _ => by simp [num_nil]⟩
  | x :: l, m, hm, nd, h => by
    have hx := h x (by simp)
    have hm64 : m < 64 := Nat.lt_of_lt_of_le hm (pow_le hk)
    have nd' := List.nodup_cons.mp nd
    have h1 : m + 2 ^ x < 2 ^ k := bit_lt k (by omega) m hm64 x (by omega) hm hx.1 hx.2
    have ih := add_num hk l (m + 2 ^ x) h1 nd'.2 (fun i hi => by
      have hi' := h i (by simp [hi])
      refine ⟨hi'.1, ?_⟩
      rw [bit_add m hm64 x (by omega) i (by omega) hx.2, hi'.2]
      have : i ≠ x := fun e => nd'.1 (e ▸ hi)
      simp [this])
    rw [num_cons, ← Nat.add_assoc]
    refine ⟨ih.1, fun j hj => ?_⟩
    rw [ih.2 j hj, bit_add m hm64 x (by omega) j (by omega) hx.2, List.contains_cons]
    cases (j == x) <;> cases (isIn m j) <;> simp

theorem nodup_range (k : Nat) : (List.range k).Nodup := List.nodup_range
theorem nodup_filter {α : Type} {p : α → Bool} {l : List α} (h : l.Nodup) : (l.filter p).Nodup := h.filter p

theorem num_members {k : Nat} (hk : k ≤ 6) {m : Nat} (hm : m < 2 ^ k) : numberOf (membersOf k m) = m := by
  have h := add_num hk (membersOf k m) 0 (Nat.pow_pos (by decide)) (nodup_filter (nodup_range k)) (fun i hi => by
    have := List.mem_filter.mp hi
    exact ⟨List.mem_range.mp this.1, by unfold isIn; rw [Nat.zero_div]; rfl⟩)
  rw [Nat.zero_add] at h
  refine bit_ext h.1 hm fun i hi => ?_
  rw [h.2 i hi]
  have : isIn 0 i = false := by unfold isIn; rw [Nat.zero_div]; rfl
  rw [this, Bool.false_or]
  unfold membersOf
  by_cases e : isIn m i = true
  · rw [e, List.contains_iff_mem]
    exact List.mem_filter.mpr ⟨List.mem_range.mpr hi, e⟩
  · rw [Bool.not_eq_true] at e
    rw [e]
    apply Bool.eq_false_iff.mpr
    intro c
    have := List.mem_filter.mp (List.contains_iff_mem.mp c)
    rw [e] at this
    exact absurd this.2 (by decide)

noncomputable def canP (n : Nat) (ws : List Wish) (t : Nat) (X : Nat → Bool) (i : Nat) : Bool := (ws[i]?).any fun w => meets n w == t && w.behind.all X
theorem canP_mono {n : Nat} {ws : List Wish} {t : Nat} {X Y : Nat → Bool} {i : Nat} (h : ∀ w, ws[i]? = some w → ∀ j ∈ w.behind, X j = true → Y j = true) (c : canP n ws t X i = true) : canP n ws t Y i = true := by
  unfold canP at *
  cases e : ws[i]? with
  | none => rw [e] at c; exact c
  | some w =>
    rw [e] at c
    simp only [Option.any_some, Bool.and_eq_true, List.all_eq_true] at *
    exact ⟨c.1, fun j hj => h w e j hj (c.2 j hj)⟩
noncomputable def Closed (n : Nat) (ws : List Wish) (t : Nat) (X : Nat → Bool) : Prop := ∀ i, i < ws.length → canP n ws t X i = true → X i = true
theorem ready_mem {n : Nat} {ws : List Wish} {t m i : Nat} : i ∈ ready n ws t m ↔ i < ws.length ∧ isIn m i = false ∧ canP n ws t (isIn m) i = true := by
  unfold ready canP
  rw [List.mem_filter, List.mem_range, Bool.and_eq_true, Bool.not_eq_true']

theorem filter_len_lt {α : Type} {p q : α → Bool} : ∀ {l : List α}, (∀ x ∈ l, p x = true → q x = true) → (∃ x ∈ l, q x = true ∧ p x = false) → (l.filter p).length < (l.filter q).length
  | [], _, h => by obtain ⟨x, hx, _⟩ := h; cases hx
  | a :: l, h1, h2 => by
    have h1' : ∀ x ∈ l, p x = true → q x = true := fun x hx => h1 x (by simp [hx])
    have le : (l.filter p).length ≤ (l.filter q).length := by
      by_cases e : ∃ x ∈ l, q x = true ∧ p x = false
      · exact Nat.le_of_lt (filter_len_lt h1' e)
      · rw [show l.filter p = l.filter q from List.filter_congr fun x hx => by
          cases hq : q x with
          | false =>
            cases hp : p x with
            | false => rfl
            | true => rw [h1' x hx hp] at hq; cases hq
          | true =>
            cases hp : p x with
            | true => rfl
            | false => exact absurd ⟨x, hx, hq, hp⟩ e]
        exact Nat.le_refl _
    obtain ⟨x, hx, hq, hp⟩ := h2
    rcases List.mem_cons.mp hx with rfl | hx
    · rw [List.filter_cons_of_neg (by simp [hp]), List.filter_cons_of_pos hq]
      simp; omega
    · have lt := filter_len_lt h1' ⟨x, hx, hq, hp⟩
      cases ha : p a with
      | true =>
        rw [List.filter_cons_of_pos ha, List.filter_cons_of_pos (h1 a (by simp) ha)]
        simp; omega
      | false =>
        rw [List.filter_cons_of_neg (by simp [ha])]
        cases hb : q a with
        | true => rw [List.filter_cons_of_pos hb]; simp; omega
        | false => rw [List.filter_cons_of_neg (by simp [hb])]; exact lt

noncomputable def card (k m : Nat) : Nat := (membersOf k m).length
theorem card_le (k m : Nat) : card k m ≤ k := by
  unfold card membersOf
  have := List.length_filter_le (isIn m) (List.range k)
  rw [List.length_range] at this
  exact this

theorem round1 {n : Nat} {ws : List Wish} {t m : Nat} (hk : ws.length ≤ 6) (hm : m < 2 ^ ws.length) :
    m + numberOf (ready n ws t m) < 2 ^ ws.length ∧ ∀ j, j < ws.length → isIn (m + numberOf (ready n ws t m)) j = (isIn m j || (ready n ws t m).contains j) :=
  add_num hk _ m hm (nodup_filter (nodup_range _)) fun i hi => ⟨(ready_mem.mp hi).1, (ready_mem.mp hi).2.1⟩

theorem ready_nil_closed {n : Nat} {ws : List Wish} {t m : Nat} (h : ready n ws t m = []) : Closed n ws t (isIn m) := fun i hi c => by
  cases e : isIn m i with
  | true => rfl
  | false =>
    have : i ∈ ready n ws t m := ready_mem.mpr ⟨hi, e, c⟩
    rw [h] at this
    cases this
theorem served_nil {n : Nat} {ws : List Wish} {t m : Nat} (h : ready n ws t m = []) : ∀ f, served n ws t f m = m
  | 0 => rfl
  | f + 1 => by
    show served n ws t f (m + numberOf (ready n ws t m)) = m
    rw [h, num_nil, Nat.add_zero]
    exact served_nil h f

structure Served (n : Nat) (ws : List Wish) (t m c : Nat) : Prop where
  lt : c < 2 ^ ws.length
  sub : ∀ i, i < ws.length → isIn m i = true → isIn c i = true
  least : ∀ X : Nat → Bool, (∀ i, i < ws.length → isIn m i = true → X i = true) → Closed n ws t X → ∀ i, i < ws.length → isIn c i = true → X i = true

noncomputable def Inside (ws : List Wish) : Prop := ∀ (i : Nat) (w : Wish), ws[i]? = some w → ∀ j ∈ w.behind, j < ws.length

theorem served_ok {n : Nat} {ws : List Wish} {t : Nat} (hk : ws.length ≤ 6) (hin : Inside ws) : ∀ (f m : Nat), m < 2 ^ ws.length → Served n ws t m (served n ws t f m)
  | 0, m, hm => ⟨hm, fun _ _ h => h, fun _ h _ i hi c => h i hi c⟩
  | f + 1, m, hm => by
    have r := round1 (n := n) (t := t) hk hm
    have ih := served_ok (n := n) (t := t) hk hin f _ r.1
    show Served n ws t m (served n ws t f (m + numberOf (ready n ws t m)))
    refine ⟨ih.lt, fun i hi h => ih.sub i hi (by rw [r.2 i hi, h]; rfl), fun X h cl i hi c => ih.least X (fun j hj hj1 => ?_) cl i hi c⟩
    rw [r.2 j hj, Bool.or_eq_true] at hj1
    rcases hj1 with e | e
    · exact h j hj e
    · have q := ready_mem.mp (List.contains_iff_mem.mp e)
      exact cl j hj (canP_mono (fun w hw x hx hx1 => h x (hin j w hw x hx) hx1) q.2.2)
theorem served_closed {n : Nat} {ws : List Wish} {t : Nat} (hk : ws.length ≤ 6) : ∀ (f m : Nat), m < 2 ^ ws.length → ws.length ≤ f + card ws.length m → Closed n ws t (isIn (served n ws t f m))
  | 0, m, hm, hf => by
    refine ready_nil_closed ?_
    show ready n ws t m = []
    cases e : ready n ws t m with
    | nil => rfl
    | cons x l =>
      exfalso
      have hx : x ∈ ready n ws t m := by rw [e]; simp
      have q := ready_mem.mp hx
      have lt : (List.filter (isIn m) (List.range ws.length)).length < (List.filter (fun _ => true) (List.range ws.length)).length :=
        filter_len_lt (fun _ _ _ => rfl) ⟨x, List.mem_range.mpr q.1, rfl, q.2.1⟩
      rw [show (List.filter (fun _ => true) (List.range ws.length)) = List.range ws.length from List.filter_eq_self.mpr fun _ _ => rfl, List.length_range] at lt
      unfold card membersOf at hf
      omega
  | f + 1, m, hm, hf => by
    show Closed n ws t (isIn (served n ws t f (m + numberOf (ready n ws t m))))
    cases e : ready n ws t m with
    | nil =>
      rw [num_nil, Nat.add_zero, served_nil e]
      exact ready_nil_closed e
    | cons x l =>
      rw [← e]
      have r := round1 (n := n) (t := t) hk hm
      refine served_closed hk f _ r.1 ?_
      have hx : x ∈ ready n ws t m := by rw [e]; simp
      have q := ready_mem.mp hx
      have lt : card ws.length m < card ws.length (m + numberOf (ready n ws t m)) := by
        refine filter_len_lt (fun y hy h => ?_) ⟨x, List.mem_range.mpr q.1, ?_, q.2.1⟩
        · rw [r.2 y (List.mem_range.mp hy), h]; rfl
        · rw [r.2 x q.1, List.contains_iff_mem.mpr hx, Bool.or_true]
      omega
theorem serve_ok {n : Nat} {ws : List Wish} {t m : Nat} (hk : ws.length ≤ 6) (hin : Inside ws) (hm : m < 2 ^ ws.length) : Served n ws t m (serve n ws t m) := served_ok hk hin _ _ hm
theorem serve_closed {n : Nat} {ws : List Wish} {t m : Nat} (hk : ws.length ≤ 6) (hm : m < 2 ^ ws.length) : Closed n ws t (isIn (serve n ws t m)) := served_closed hk _ _ hm (by omega)
theorem serve_unique {n : Nat} {ws : List Wish} {t m : Nat} (hk : ws.length ≤ 6) (hin : Inside ws) (hm : m < 2 ^ ws.length) {X : Nat → Bool}
    (sub : ∀ i, i < ws.length → isIn m i = true → X i = true) (cl : Closed n ws t X)
    (least : ∀ Y : Nat → Bool, (∀ i, i < ws.length → isIn m i = true → Y i = true) → Closed n ws t Y → ∀ i, i < ws.length → X i = true → Y i = true) :
    ∀ i, i < ws.length → isIn (serve n ws t m) i = X i := fun i hi => by
  have S := serve_ok (n := n) (t := t) hk hin hm
  cases hX : X i with
  | true => exact least _ S.sub (serve_closed hk hm) i hi hX
  | false =>
    cases hC : isIn (serve n ws t m) i with
    | false => rfl
    | true => rw [S.least X sub cl i hi hC] at hX; cases hX
end Ma
set_option maxRecDepth 100000
set_option maxHeartbeats 4000000
namespace Ma
open Uw77

theorem getD_set (a : Array Nat) (i j v d : Nat) : (a.set! i v).getD j d = if i = j ∧ i < a.size then v else a.getD j d := by
  rw [Array.getD_eq_getD_getElem?, Array.getD_eq_getD_getElem?, Array.set!_eq_setIfInBounds, Array.getElem?_setIfInBounds]
  by_cases e : i = j
  · subst e
    by_cases h : i < a.size
    · simp [h]
    · simp [h]
  · simp [e]
theorem size_set (a : Array Nat) (i v : Nat) : (a.set! i v).size = a.size := by
  rw [Array.set!_eq_setIfInBounds, Array.size_setIfInBounds]

noncomputable def rnd (n : Nat) (ws : List Wish) (c : Nat → Nat) (a : Steps) : Steps := (List.range (2 ^ ws.length)).foldl (fun b m => (List.range n).foldl (fun b t => if m = fullSet ws then b else
  b.set! (place n (t, m)) (min (a.getD (place n (after n ws (t, m) 0)) FAR) (a.getD (place n (after n ws (t, m) 1)) FAR) + c m)) b) a
theorem round_rnd (n : Nat) (ws : List Wish) : round n ws = rnd n ws (fun _ => 1) := rfl
theorem waitRound_rnd (n : Nat) (ws : List Wish) : waitRound n ws = rnd n ws (waiting ws) := rfl
noncomputable def rnds (n : Nat) (ws : List Wish) (c : Nat → Nat) : Nat → Steps → Steps
  | 0, a => a
  | k + 1, a => if rnd n ws c a == a then a else rnds n ws c k (rnd n ws c a)
theorem rounds_rnds (n : Nat) (ws : List Wish) : ∀ k a, rounds n ws k a = rnds n ws (fun _ => 1) k a
  | 0, _ => rfl
  | k + 1, a => by
    show (if round n ws a == a then a else rounds n ws k (round n ws a)) = _
    rw [rounds_rnds n ws k, round_rnd]
    rfl
theorem waitRounds_rnds (n : Nat) (ws : List Wish) : ∀ k a, waitRounds n ws k a = rnds n ws (waiting ws) k a
  | 0, _ => rfl
  | k + 1, a => by
    show (if waitRound n ws a == a then a else waitRounds n ws k (waitRound n ws a)) = _
    rw [waitRounds_rnds n ws k, waitRound_rnd]
    rfl

theorem place_div {n t m : Nat} (h : t < n) : place n (t, m) / n = m := by
  show (m * n + t) / n = m
  rw [Nat.mul_comm, Nat.mul_add_div (by omega), Nat.div_eq_of_lt h, Nat.add_zero]
theorem place_mod {n t m : Nat} (h : t < n) : place n (t, m) % n = t := by
  show (m * n + t) % n = t
  rw [Nat.mul_comm, Nat.mul_add_mod, Nat.mod_eq_of_lt h]
theorem place_lt {n t m k : Nat} (h : t < n) (hm : m < k) : place n (t, m) < k * n := by
  show m * n + t < k * n
  have : (m + 1) * n ≤ k * n := Nat.mul_le_mul_right n hm
  rw [Nat.succ_mul] at this
  omega
theorem place_eq {n j : Nat} : place n (j % n, j / n) = j := by
  show j / n * n + j % n = j
  rw [Nat.mul_comm]
  exact Nat.div_add_mod j n

theorem inner {n full m : Nat} (g : Nat → Nat) (b : Steps) : ∀ T, T ≤ n →
    ((List.range T).foldl (fun b t => if m = full then b else b.set! (place n (t, m)) (g t)) b).size = b.size ∧
    ∀ j, ((List.range T).foldl (fun b t => if m = full then b else b.set! (place n (t, m)) (g t)) b).getD j FAR = if j / n = m ∧ j % n < T ∧ m ≠ full ∧ j < b.size then g (j % n) else b.getD j FAR
  | 0, _ => ⟨rfl, fun j => by simp⟩
  | T + 1, h => by
    have ih := inner (n := n) (full := full) (m := m) g b T (by omega)
    rw [List.range_succ, List.foldl_append]
    simp only [List.foldl_cons, List.foldl_nil]
    by_cases e : m = full
    · rw [if_pos e]
      refine ⟨ih.1, fun j => ?_⟩
      rw [ih.2 j, if_neg (fun q => q.2.2.1 e), if_neg (fun q => q.2.2.1 e)]
    · rw [if_neg e]
      refine ⟨by rw [size_set]; exact ih.1, fun j => ?_⟩
      rw [getD_set, ih.1, ih.2 j]
      by_cases hj : place n (T, m) = j
      · have h1 : j / n = m := by rw [← hj]; exact place_div (by omega)
        have h2 : j % n = T := by rw [← hj]; exact place_mod (by omega)
        by_cases hs : j < b.size
        · rw [if_pos ⟨hj, by rw [hj]; exact hs⟩, if_pos ⟨h1, by omega, e, hs⟩, h2]
        · rw [if_neg (fun q => hs (by rw [← hj]; exact q.2)), if_neg (fun q => hs q.2.2.2), if_neg (fun q => hs q.2.2.2)]
      · rw [if_neg (fun q => hj q.1)]
        by_cases c : j / n = m ∧ j % n < T ∧ m ≠ full ∧ j < b.size
        · rw [if_pos c, if_pos ⟨c.1, by omega, c.2.2⟩]
        · rw [if_neg c, if_neg]
          rintro ⟨q1, q2, q3, q4⟩
          by_cases l : j % n < T
          · exact c ⟨q1, l, q3, q4⟩
          · have h3 : j % n = T := by omega
            apply hj
            rw [← h3, ← q1]
            exact place_eq
theorem outer {n full : Nat} (g : Nat → Nat → Nat) (b : Steps) : ∀ M,
    ((List.range M).foldl (fun b m => (List.range n).foldl (fun b t => if m = full then b else b.set! (place n (t, m)) (g t m)) b) b).size = b.size ∧
    ∀ j, 0 < n → ((List.range M).foldl (fun b m => (List.range n).foldl (fun b t => if m = full then b else b.set! (place n (t, m)) (g t m)) b) b).getD j FAR = if j / n < M ∧ j / n ≠ full ∧ j < b.size then g (j % n) (j / n) else b.getD j FAR
  | 0 => ⟨rfl, fun j _ => by simp⟩
  | M + 1 => by
    have ih := outer (n := n) (full := full) g b M
    rw [List.range_succ, List.foldl_append]
    simp only [List.foldl_cons, List.foldl_nil]
    have i1 := inner (n := n) (full := full) (m := M) (fun t => g t M) ((List.range M).foldl (fun b m => (List.range n).foldl (fun b t => if m = full then b else b.set! (place n (t, m)) (g t m)) b) b) n (Nat.le_refl n)
    refine ⟨i1.1.trans ih.1, fun j hn => ?_⟩
    rw [i1.2 j, ih.1, ih.2 j hn]
    have hmod : j % n < n := Nat.mod_lt _ hn
    by_cases e : j / n = M
    · by_cases f : M = full
      · rw [if_neg (fun q => q.2.2.1 f), if_neg (fun q => q.2.1 (e.trans f)), if_neg (fun q => q.2.1 (e.trans f))]
      · by_cases s : j < b.size
        · rw [if_pos ⟨e, hmod, f, s⟩, if_pos ⟨by omega, by rw [e]; exact f, s⟩, e]
        · rw [if_neg (fun q => s q.2.2.2), if_neg (fun q => s q.2.2), if_neg (fun q => s q.2.2)]
    · rw [if_neg (fun q => e q.1)]
      by_cases c : j / n < M ∧ j / n ≠ full ∧ j < b.size
      · rw [if_pos c, if_pos ⟨by omega, c.2⟩]
      · rw [if_neg c, if_neg]
        rintro ⟨q1, q2, q3⟩
        exact c ⟨by omega, q2, q3⟩

structure Va (n : Nat) (ws : List Wish) (s : Stand) : Prop where
  t : s.1 < n
  m : s.2 < 2 ^ ws.length
structure Ok (n : Nat) (ws : List Wish) : Prop where
  n2 : 2 ≤ n
  k6 : ws.length ≤ 6
  ins : Inside ws
theorem turned_lt {n t w : Nat} (h : 0 < n) : turned n t w < n := by
  unfold turned
  split <;> exact Nat.mod_lt _ h
theorem after_va {n : Nat} {ws : List Wish} (o : Ok n ws) {s : Stand} (v : Va n ws s) (w : Nat) : Va n ws (after n ws s w) :=
  ⟨turned_lt (Nat.lt_of_lt_of_le (by decide) o.n2), (serve_ok (n := n) (t := turned n s.1 w) o.k6 o.ins v.m).lt⟩

noncomputable def gval (n : Nat) (ws : List Wish) (c : Nat → Nat) : Nat → Stand → Nat
  | 0, s => if s.2 = fullSet ws then 0 else FAR
  | k + 1, s => if s.2 = fullSet ws then 0 else min (gval n ws c k (after n ws s 0)) (gval n ws c k (after n ws s 1)) + c s.2
structure Rep (n : Nat) (ws : List Wish) (a : Steps) (v : Stand → Nat) : Prop where
  size : a.size = 2 ^ ws.length * n
  val : ∀ s, Va n ws s → a.getD (place n s) FAR = v s
theorem rep_init {n : Nat} {ws : List Wish} (c : Nat → Nat) : Rep n ws ((Array.replicate (2 ^ ws.length * n) FAR).mapIdx fun i x => if i / n = fullSet ws then 0 else x) (gval n ws c 0) := by
  refine ⟨by simp, fun s v => ?_⟩
  have hl : place n s < 2 ^ ws.length * n := place_lt v.t v.m
  rw [Array.getD_eq_getD_getElem?, Array.getElem?_mapIdx, Array.getElem?_replicate, if_pos hl]
  show (if place n (s.1, s.2) / n = fullSet ws then 0 else FAR) = _
  rw [place_div v.t]
  rfl
theorem rep_rnd {n : Nat} {ws : List Wish} (o : Ok n ws) {c : Nat → Nat} {k : Nat} {a : Steps} (R : Rep n ws a (gval n ws c k)) : Rep n ws (rnd n ws c a) (gval n ws c (k + 1)) := by
  have hn : 0 < n := Nat.lt_of_lt_of_le (by decide) o.n2
  have O := outer (n := n) (full := fullSet ws) (fun t m => min (a.getD (place n (after n ws (t, m) 0)) FAR) (a.getD (place n (after n ws (t, m) 1)) FAR) + c m) a (2 ^ ws.length)
  refine ⟨O.1.trans R.size, fun s v => ?_⟩
  have e := O.2 (place n s) hn
  have e1 : place n s / n = s.2 := place_div v.t
  have e2 : place n s % n = s.1 := place_mod v.t
  rw [e1, e2] at e
  refine e.trans ?_
  show _ = (if s.2 = fullSet ws then 0 else min (gval n ws c k (after n ws s 0)) (gval n ws c k (after n ws s 1)) + c s.2)
  by_cases f : s.2 = fullSet ws
  · rw [if_neg (fun q => q.2.1 f), if_pos f, R.val s v]
    cases k <;> exact if_pos f
  · rw [if_pos ⟨v.m, f, by rw [R.size]; exact place_lt v.t v.m⟩, if_neg f, R.val _ (after_va o v 0), R.val _ (after_va o v 1)]
theorem gval_stays {n : Nat} {ws : List Wish} (o : Ok n ws) {c : Nat → Nat} {k : Nat} (h : ∀ s, Va n ws s → gval n ws c (k + 1) s = gval n ws c k s) : ∀ j s, Va n ws s → gval n ws c (k + j) s = gval n ws c k s
  | 0, _, _ => rfl
  | j + 1, s, v => by
    rw [← h s v]
    show gval n ws c ((k + j) + 1) s = _
    show (if s.2 = fullSet ws then 0 else _) = (if s.2 = fullSet ws then 0 else _)
    rw [gval_stays o h j _ (after_va o v 0), gval_stays o h j _ (after_va o v 1)]
theorem rep_rnds {n : Nat} {ws : List Wish} (o : Ok n ws) {c : Nat → Nat} : ∀ (k j : Nat) (a : Steps), Rep n ws a (gval n ws c j) → Rep n ws (rnds n ws c k a) (gval n ws c (j + k))
  | 0, _, _, R => R
  | k + 1, j, a, R => by
    have R1 := rep_rnd o R
    show Rep n ws (if rnd n ws c a == a then a else rnds n ws c k (rnd n ws c a)) _
    by_cases e : (rnd n ws c a == a) = true
    · rw [if_pos e]
      have e' : rnd n ws c a = a := eq_of_beq e
      refine ⟨R.size, fun s v => ?_⟩
      rw [R.val s v]
      refine (gval_stays o (fun s v => ?_) (k + 1) s v).symm
      rw [← R1.val s v, e', R.val s v]
    · rw [if_neg e]
      have := rep_rnds o k (j + 1) _ R1
      rw [show j + (k + 1) = j + 1 + k by omega]
      exact this

noncomputable def lots (n : Nat) (ws : List Wish) : Nat := n * (ws.length + 1) + 1
theorem steps_val {n : Nat} {ws : List Wish} (o : Ok n ws) {s : Stand} (v : Va n ws s) : (steps n ws).getD (place n s) FAR = gval n ws (fun _ => 1) (lots n ws) s := by
  unfold steps
  rw [rounds_rnds]
  have := rep_rnds o (n * (ws.length + 1) + 1) 0 _ (rep_init (n := n) (ws := ws) (fun _ => 1))
  rw [this.val s v, Nat.zero_add]
  rfl
theorem least_val {x : Table} (o : Ok x.n x.wishes) (v : Va x.n x.wishes (standOf x)) : least x = gval x.n x.wishes (waiting x.wishes) (lots x.n x.wishes) (standOf x) := by
  unfold least
  rw [waitRounds_rnds]
  have := rep_rnds o (x.n * (x.wishes.length + 1) + 1) 0 _ (rep_init (n := x.n) (ws := x.wishes) (waiting x.wishes))
  rw [this.val _ v, Nat.zero_add]
  rfl
end Ma
set_option maxRecDepth 100000
set_option maxHeartbeats 4000000
namespace Ma
open Uw77

noncomputable def run (n : Nat) (ws : List Wish) (s : Stand) (p : List Nat) : Stand := p.foldl (after n ws) s
theorem run_cons (n : Nat) (ws : List Wish) (s : Stand) (w : Nat) (p : List Nat) : run n ws s (w :: p) = run n ws (after n ws s w) p := rfl
theorem run_app (n : Nat) (ws : List Wish) (s : Stand) (p q : List Nat) : run n ws s (p ++ q) = run n ws (run n ws s p) q := List.foldl_append
noncomputable def cost (n : Nat) (ws : List Wish) (c : Nat → Nat) : Stand → List Nat → Nat
  | _, [] => 0
  | s, w :: p => (if s.2 = fullSet ws then 0 else c s.2) + cost n ws c (after n ws s w) p
noncomputable abbrev Full (ws : List Wish) (s : Stand) : Prop := s.2 = fullSet ws
theorem full_lt (ws : List Wish) : fullSet ws < 2 ^ ws.length := by
  unfold fullSet
  have : 0 < 2 ^ ws.length := Nat.pow_pos (by decide)
  omega
theorem after_sub {n : Nat} {ws : List Wish} (o : Ok n ws) {s : Stand} (v : Va n ws s) (w : Nat) {i : Nat} (hi : i < ws.length) (h : isIn s.2 i = true) : isIn (after n ws s w).2 i = true :=
  (serve_ok (n := n) (t := turned n s.1 w) o.k6 o.ins v.m).sub i hi h
theorem full_iff {n : Nat} {ws : List Wish} (o : Ok n ws) {s : Stand} (v : Va n ws s) : Full ws s ↔ ∀ i, i < ws.length → isIn s.2 i = true := by
  constructor
  · intro h i hi
    rw [show s.2 = 2 ^ ws.length - 1 from h]
    exact bit_full o.k6 hi
  · intro h
    refine bit_ext v.m (full_lt ws) fun i hi => ?_
    rw [h i hi]
    exact (bit_full o.k6 hi).symm
theorem after_full {n : Nat} {ws : List Wish} (o : Ok n ws) {s : Stand} (v : Va n ws s) (f : Full ws s) (w : Nat) : Full ws (after n ws s w) :=
  (full_iff o (after_va o v w)).mpr fun i hi => after_sub o v w hi ((full_iff o v).mp f i hi)
theorem run_va {n : Nat} {ws : List Wish} (o : Ok n ws) : ∀ (p : List Nat) {s : Stand}, Va n ws s → Va n ws (run n ws s p)
  | [], _, v => v
  | w :: p, _, v => run_va o p (after_va o v w)
theorem after_way {n : Nat} {ws : List Wish} (s : Stand) (w : Nat) : after n ws s w = after n ws s 0 ∨ after n ws s w = after n ws s 1 := by
  by_cases h : w = 0
  · exact .inl (by rw [h])
  · refine .inr ?_
    unfold after turned
    rw [if_neg h, if_neg (by decide)]
theorem gval_le {n : Nat} {ws : List Wish} {c : Nat → Nat} : ∀ (k : Nat) (p : List Nat) (s : Stand), p.length ≤ k → Full ws (run n ws s p) → gval n ws c k s ≤ cost n ws c s p
  | 0, [], s, _, f => by
    have f : s.2 = fullSet ws := f
    show (if s.2 = fullSet ws then 0 else FAR) ≤ 0
    rw [if_pos f]
    exact Nat.le_refl 0
  | 0, _ :: _, _, h, _ => by simp at h
  | k + 1, [], s, _, f => by
    have f : s.2 = fullSet ws := f
    show (if s.2 = fullSet ws then 0 else _) ≤ 0
    rw [if_pos f]
    exact Nat.le_refl 0
  | k + 1, w :: p, s, h, f => by
    have ih := gval_le (c := c) k p (after n ws s w) (by simpa using h) f
    show (if s.2 = fullSet ws then 0 else min (gval n ws c k (after n ws s 0)) (gval n ws c k (after n ws s 1)) + c s.2) ≤ (if s.2 = fullSet ws then 0 else c s.2) + cost n ws c (after n ws s w) p
    by_cases e : s.2 = fullSet ws
    · rw [if_pos e]; omega
    · rw [if_neg e, if_neg e]
      rcases after_way (n := n) (ws := ws) s w with q | q <;> rw [q] at ih ⊢ <;> omega
theorem gval_real {n : Nat} {ws : List Wish} {c : Nat → Nat} : ∀ (k : Nat) (s : Stand), gval n ws c k s < FAR → ∃ p : List Nat, p.length ≤ k ∧ (∀ w ∈ p, w = 0 ∨ w = 1) ∧ Full ws (run n ws s p) ∧ cost n ws c s p = gval n ws c k s ∧ cost n ws (fun _ => 1) s p = p.length
  | 0, s, h => by
    by_cases e : s.2 = fullSet ws
    · exact ⟨[], Nat.le_refl 0, fun _ q => (nomatch q), e, (if_pos e).symm, rfl⟩
    · exact absurd (show (if s.2 = fullSet ws then 0 else FAR) < FAR from h) (by rw [if_neg e]; exact Nat.lt_irrefl _)
  | k + 1, s, h => by
    by_cases e : s.2 = fullSet ws
    · exact ⟨[], Nat.zero_le _, fun _ q => (nomatch q), e, (if_pos e).symm, rfl⟩
    · have h1 : gval n ws c (k + 1) s = min (gval n ws c k (after n ws s 0)) (gval n ws c k (after n ws s 1)) + c s.2 := if_neg e
      by_cases l : gval n ws c k (after n ws s 0) ≤ gval n ws c k (after n ws s 1)
      · obtain ⟨p, p1, p2, p3, p4, p5⟩ := gval_real (n := n) (ws := ws) (c := c) k (after n ws s 0) (by omega)
        refine ⟨0 :: p, by simpa using p1, fun w hw => ?_, p3, ?_, ?_⟩
        · rcases List.mem_cons.mp hw with rfl | hw
          · exact .inl rfl
          · exact p2 w hw
        · show (if s.2 = fullSet ws then 0 else c s.2) + cost n ws c (after n ws s 0) p = _
          rw [if_neg e, p4]; omega
        · show (if s.2 = fullSet ws then 0 else 1) + cost n ws (fun _ => 1) (after n ws s 0) p = p.length + 1
          rw [if_neg e, p5]; omega
      · obtain ⟨p, p1, p2, p3, p4, p5⟩ := gval_real (n := n) (ws := ws) (c := c) k (after n ws s 1) (by omega)
        refine ⟨1 :: p, by simpa using p1, fun w hw => ?_, p3, ?_, ?_⟩
        · rcases List.mem_cons.mp hw with rfl | hw
          · exact .inr rfl
          · exact p2 w hw
        · show (if s.2 = fullSet ws then 0 else c s.2) + cost n ws c (after n ws s 1) p = _
          rw [if_neg e, p4]; omega
        · show (if s.2 = fullSet ws then 0 else 1) + cost n ws (fun _ => 1) (after n ws s 1) p = p.length + 1
          rw [if_neg e, p5]; omega
theorem cost_len {n : Nat} {ws : List Wish} {c : Nat → Nat} {b : Nat} (hb : ∀ m, c m ≤ b) : ∀ (p : List Nat) (s : Stand), cost n ws c s p ≤ p.length * b
  | [], _ => Nat.zero_le _
  | w :: p, s => by
    have ih := cost_len (n := n) (ws := ws) hb p (after n ws s w)
    show (if s.2 = fullSet ws then 0 else c s.2) + cost n ws c (after n ws s w) p ≤ _
    rw [List.length_cons, Nat.succ_mul]
    have := hb s.2
    split <;> omega

noncomputable def Ranked (ws : List Wish) (r : Nat → Nat) : Prop := ∀ (i : Nat) (w : Wish), ws[i]? = some w → ∀ j ∈ w.behind, r j < r i
theorem least_of {p : Nat → Prop} (r : Nat → Nat) [DecidablePred p] : ∀ (k i : Nat), r i < k → p i → ∃ i, p i ∧ ∀ j, p j → r i ≤ r j
  | 0, _, h, _ => by omega
  | k + 1, i, h, hi => by
    rcases Classical.em (∃ j, p j ∧ r j < r i) with ⟨j, pj, hj⟩ | q
    · exact least_of r k j (by omega) pj
    · refine ⟨i, hi, fun j pj => ?_⟩
      rcases Nat.lt_or_ge (r j) (r i) with l | g
      · exact absurd ⟨j, pj, l⟩ q
      · exact g
theorem some_free {n : Nat} {ws : List Wish} (o : Ok n ws) {r : Nat → Nat} (R : Ranked ws r) {s : Stand} (v : Va n ws s) (f : ¬ Full ws s) :
    ∃ (i : Nat) (w : Wish), ws[i]? = some w ∧ isIn s.2 i = false ∧ ∀ j ∈ w.behind, isIn s.2 j = true := by
  have h0 : ∃ i, i < ws.length ∧ isIn s.2 i = false := by
    rcases Classical.em (∃ i, i < ws.length ∧ isIn s.2 i = false) with h | h
    · exact h
    · exact absurd ((full_iff o v).mpr fun i hi => by
        cases e : isIn s.2 i with
        | true => rfl
        | false => exact absurd ⟨i, hi, e⟩ h) f
  obtain ⟨i0, h0⟩ := h0
  obtain ⟨i, hi, hm⟩ := least_of (p := fun i => i < ws.length ∧ isIn s.2 i = false) r (r i0 + 1) i0 (by omega) h0
  have e : ws[i]? = some ws[i] := List.getElem?_eq_getElem hi.1
  refine ⟨i, ws[i], e, hi.2, fun j hj => ?_⟩
  cases q : isIn s.2 j with
  | true => rfl
  | false =>
    have h1 := hm j ⟨o.ins i _ e j hj, q⟩
    have h2 := R i _ e j hj
    omega

noncomputable def right (n : Nat) : Nat → Nat → Nat
  | 0, t => t
  | e + 1, t => turned n (right n e t) 0
theorem right_eq {n t : Nat} (h : t < n) : ∀ e, right n e t = (t + e) % n
  | 0 => by rw [Nat.add_zero, Nat.mod_eq_of_lt h]; rfl
  | e + 1 => by
    show (right n e t + 1) % n = _
    rw [right_eq h e, Nat.mod_add_mod, Nat.add_assoc]
theorem meets_lt {n : Nat} (h : 0 < n) (w : Wish) : meets n w < n := Nat.mod_lt _ h
theorem right_to {n t g : Nat} (ht : t < n) (hg : g < n) : ∃ e, e < n ∧ right n e t = g := by
  by_cases h : t ≤ g
  · exact ⟨g - t, by omega, by rw [right_eq ht, show t + (g - t) = g by omega, Nat.mod_eq_of_lt hg]⟩
  · refine ⟨g + n - t, by omega, ?_⟩
    rw [right_eq ht, show t + (g + n - t) = g + n by omega, Nat.add_mod_right, Nat.mod_eq_of_lt hg]
theorem run_right {n : Nat} {ws : List Wish} : ∀ (e : Nat) (s : Stand), (run n ws s (List.replicate e 0)).1 = right n e s.1
  | 0, _ => rfl
  | e + 1, s => by
    rw [List.replicate_succ', run_app]
    show turned n (run n ws s (List.replicate e 0)).1 0 = turned n (right n e s.1) 0
    rw [run_right e s]
theorem run_sub {n : Nat} {ws : List Wish} (o : Ok n ws) : ∀ (p : List Nat) {s : Stand}, Va n ws s → ∀ i, i < ws.length → isIn s.2 i = true → isIn (run n ws s p).2 i = true
  | [], _, _, _, _, h => h
  | w :: p, _, v, i, hi, h => run_sub o p (after_va o v w) i hi (after_sub o v w hi h)
noncomputable def left_ (ws : List Wish) (s : Stand) : Nat := ws.length - card ws.length s.2
theorem closed_after {n : Nat} {ws : List Wish} (o : Ok n ws) {s : Stand} (v : Va n ws s) (w : Nat) : Closed n ws (after n ws s w).1 (isIn (after n ws s w).2) := serve_closed o.k6 v.m
theorem one_more {n : Nat} {ws : List Wish} (o : Ok n ws) {r : Nat → Nat} (R : Ranked ws r) {s : Stand} (v : Va n ws s) (f : ¬ Full ws s) :
    ∃ p : List Nat, p.length ≤ n ∧ left_ ws (run n ws s p) < left_ ws s := by
  obtain ⟨i, w, e, h1, h2⟩ := some_free o R v f
  have hi : i < ws.length := (List.getElem?_eq_some_iff.mp e).1
  have hn : 0 < n := Nat.lt_of_lt_of_le (by decide) o.n2
  obtain ⟨d, hd, hr⟩ := right_to (turned_lt (n := n) (t := s.1) (w := 0) hn) (meets_lt hn w)
  refine ⟨0 :: List.replicate d 0, by simp; omega, ?_⟩
  have v' := after_va o v 0
  have vr := run_va o (List.replicate d 0) v'
  have h3 : isIn (run n ws s (0 :: List.replicate d 0)).2 i = true := by
    rw [run_cons]
    have cl : Closed n ws (run n ws (after n ws s 0) (List.replicate d 0)).1 (isIn (run n ws (after n ws s 0) (List.replicate d 0)).2) := by
      cases d with
      | zero => exact closed_after o v 0
      | succ d =>
        rw [List.replicate_succ', run_app]
        exact closed_after o (run_va o (List.replicate d 0) v') 0
    refine cl i hi ?_
    unfold canP
    rw [e]
    have e1 : (run n ws (after n ws s 0) (List.replicate d 0)).1 = meets n w := by rw [run_right]; exact hr
    simp only [Option.any_some, Bool.and_eq_true, List.all_eq_true]
    exact ⟨by rw [e1]; exact beq_self_eq_true _, fun j hj => run_sub o _ v' j (o.ins i w e j hj) (after_sub o v 0 (o.ins i w e j hj) (h2 j hj))⟩
  have lt : card ws.length s.2 < card ws.length (run n ws s (0 :: List.replicate d 0)).2 :=
    filter_len_lt (fun j hj h => run_sub o _ v j (List.mem_range.mp hj) h) ⟨i, List.mem_range.mpr hi, h3, h1⟩
  have := card_le ws.length (run n ws s (0 :: List.replicate d 0)).2
  unfold left_
  omega
theorem left_full {n : Nat} {ws : List Wish} (o : Ok n ws) {s : Stand} (v : Va n ws s) (h : left_ ws s = 0) : Full ws s := by
  refine (full_iff o v).mpr fun i hi => ?_
  cases e : isIn s.2 i with
  | true => rfl
  | false =>
    exfalso
    have lt : (List.filter (isIn s.2) (List.range ws.length)).length < (List.filter (fun _ => true) (List.range ws.length)).length :=
      filter_len_lt (fun _ _ _ => rfl) ⟨i, List.mem_range.mpr hi, rfl, e⟩
    rw [show (List.filter (fun _ => true) (List.range ws.length)) = List.range ws.length from List.filter_eq_self.mpr fun _ _ => rfl, List.length_range] at lt
    unfold left_ card membersOf at h
    omega
theorem plan_ex {n : Nat} {ws : List Wish} (o : Ok n ws) {r : Nat → Nat} (R : Ranked ws r) : ∀ (u : Nat) (s : Stand), Va n ws s → left_ ws s ≤ u → ∃ p : List Nat, p.length ≤ n * u ∧ Full ws (run n ws s p)
  | 0, s, v, h => ⟨[], Nat.zero_le _, left_full o v (Nat.le_zero.mp h)⟩
  | u + 1, s, v, h => by
    by_cases f : Full ws s
    · exact ⟨[], Nat.zero_le _, f⟩
    · obtain ⟨p, p1, p2⟩ := one_more o R v f
      obtain ⟨q, q1, q2⟩ := plan_ex o R u (run n ws s p) (run_va o p v) (by omega)
      refine ⟨p ++ q, ?_, by rw [run_app]; exact q2⟩
      rw [List.length_append, Nat.mul_succ]
      omega

theorem cost_one {n : Nat} {ws : List Wish} : ∀ (p : List Nat) (s : Stand), cost n ws (fun _ => 1) s p ≤ p.length := fun p s => by
  have := cost_len (n := n) (ws := ws) (c := fun _ => 1) (b := 1) (fun _ => Nat.le_refl 1) p s
  omega
structure Short (n : Nat) (ws : List Wish) (s : Stand) (d : Nat) : Prop where
  ex : ∃ p : List Nat, p.length = d ∧ (∀ w ∈ p, w = 0 ∨ w = 1) ∧ Full ws (run n ws s p)
  le : ∀ p : List Nat, Full ws (run n ws s p) → d ≤ p.length
noncomputable def dist (n : Nat) (ws : List Wish) (s : Stand) : Nat := gval n ws (fun _ => 1) (lots n ws) s
theorem lots_ge {n : Nat} {ws : List Wish} {u : Nat} (h : u ≤ ws.length) : n * u ≤ lots n ws := by
  unfold lots
  have := Nat.mul_le_mul_left n (show u ≤ ws.length + 1 by omega)
  omega
theorem lots_far {n : Nat} {ws : List Wish} (o : Ok n ws) (h8 : n ≤ 8) : n * ws.length * 6 < FAR := by
  have h1 : n * ws.length ≤ 8 * 6 := Nat.mul_le_mul h8 o.k6
  unfold FAR
  omega
theorem dist_short {n : Nat} {ws : List Wish} (o : Ok n ws) (h8 : n ≤ 8) {r : Nat → Nat} (R : Ranked ws r) {s : Stand} (v : Va n ws s) : Short n ws s (dist n ws s) := by
  obtain ⟨p0, l0, f0⟩ := plan_ex o R ws.length s v (by unfold left_; omega)
  have h1 := gval_le (c := fun _ => 1) (lots n ws) p0 s (Nat.le_trans l0 (lots_ge (Nat.le_refl _))) f0
  have h2 := cost_one (n := n) (ws := ws) p0 s
  have h3 := lots_far o h8
  have h4 : n * ws.length ≤ lots n ws := lots_ge (Nat.le_refl _)
  obtain ⟨p, p1, p2, p3, p4, p5⟩ := gval_real (n := n) (ws := ws) (c := fun _ => 1) (lots n ws) s (by omega)
  refine ⟨⟨p, by unfold dist; omega, p2, p3⟩, fun q f => ?_⟩
  by_cases l : q.length ≤ lots n ws
  · exact Nat.le_trans (gval_le (c := fun _ => 1) (lots n ws) q s l f) (cost_one q s)
  · unfold dist
    omega
theorem dist_full {n : Nat} {ws : List Wish} {s : Stand} (f : Full ws s) : dist n ws s = 0 := by
  unfold dist lots
  exact if_pos f
theorem dist_zero {n : Nat} {ws : List Wish} (o : Ok n ws) (h8 : n ≤ 8) {r : Nat → Nat} (R : Ranked ws r) {s : Stand} (v : Va n ws s) : dist n ws s = 0 ↔ Full ws s := by
  refine ⟨fun h => ?_, dist_full⟩
  obtain ⟨p, p1, _, p3⟩ := (dist_short o h8 R v).ex
  rw [h] at p1
  rw [List.eq_nil_of_length_eq_zero p1] at p3
  exact p3
theorem dist_after {n : Nat} {ws : List Wish} (o : Ok n ws) (h8 : n ≤ 8) {r : Nat → Nat} (R : Ranked ws r) {s : Stand} (v : Va n ws s) (f : ¬ Full ws s) :
    dist n ws s = min (dist n ws (after n ws s 0)) (dist n ws (after n ws s 1)) + 1 := by
  have S := dist_short o h8 R v
  have S0 := dist_short o h8 R (after_va o v 0)
  have S1 := dist_short o h8 R (after_va o v 1)
  have le : ∀ w, dist n ws s ≤ dist n ws (after n ws s w) + 1 := fun w => by
    obtain ⟨p, p1, _, p3⟩ := (dist_short o h8 R (after_va o v w)).ex
    have := S.le (w :: p) p3
    rw [List.length_cons] at this
    omega
  have h0 := le 0
  have h1 := le 1
  obtain ⟨p, p1, _, p3⟩ := S.ex
  cases p with
  | nil => exact absurd p3 f
  | cons w p =>
    rw [List.length_cons] at p1
    rw [run_cons] at p3
    rcases after_way (n := n) (ws := ws) s w with q | q <;> rw [q] at p3
    · have := S0.le p p3
      omega
    · have := S1.le p p3
      omega
end Ma
set_option maxRecDepth 100000
set_option maxHeartbeats 4000000
namespace Ma
open Uw77

noncomputable def cnt (n : Nat) (ws : List Wish) : Nat → Stand → Nat
  | 0, s => if s.2 = fullSet ws then 1 else 0
  | k + 1, s => cnt n ws k (after n ws s 0) + cnt n ws k (after n ws s 1)
noncomputable def total (g : Stand → Nat) (l : List (Stand × Nat)) : Nat := (l.map fun x => x.2 * g x.1).sum
theorem total_app (g : Stand → Nat) (a b : List (Stand × Nat)) : total g (a ++ b) = total g a + total g b := by
  unfold total
  rw [List.map_append, List.sum_append]
noncomputable def put (r : List (Stand × Nat)) (s : Stand) (c : Nat) : List (Stand × Nat) := match r.findIdx? fun y => y.1 == s with
  | none => r ++ [(s, c)]
  | some i => r.modify i fun y => (y.1, y.2 + c)
theorem total_mod (g : Stand → Nat) (s : Stand) (c : Nat) : ∀ (r : List (Stand × Nat)) (i : Nat), r.findIdx? (fun y => y.1 == s) = some i → total g (r.modify i fun y => (y.1, y.2 + c)) = total g r + c * g s
  | [], i, h => by simp at h
  | a :: r, i, h => by
    rw [List.findIdx?_cons] at h
    by_cases e : (a.1 == s) = true
    · rw [if_pos e] at h
      have h0 : i = 0 := (Option.some.inj h).symm
      subst h0
      have e' : a.1 = s := eq_of_beq e
      show (((a.2 + c) * g a.1) :: (r.map fun x => x.2 * g x.1)).sum = ((a.2 * g a.1) :: (r.map fun x => x.2 * g x.1)).sum + c * g s
      rw [List.sum_cons, List.sum_cons, e', Nat.add_mul]
      omega
    · rw [if_neg e] at h
      cases q : r.findIdx? (fun y => y.1 == s) with
      | none => rw [q] at h; cases h
      | some j =>
        rw [q] at h
        have h0 : i = j + 1 := (Option.some.inj h).symm
        subst h0
        have ih := total_mod g s c r j q
        show ((a.2 * g a.1) :: ((r.modify j fun y => (y.1, y.2 + c)).map fun x => x.2 * g x.1)).sum = ((a.2 * g a.1) :: (r.map fun x => x.2 * g x.1)).sum + c * g s
        rw [List.sum_cons, List.sum_cons]
        unfold total at ih
        rw [ih]
        omega
theorem total_put (g : Stand → Nat) (r : List (Stand × Nat)) (s : Stand) (c : Nat) : total g (put r s c) = total g r + c * g s := by
  unfold put
  cases e : r.findIdx? fun y => y.1 == s with
  | none =>
    show total g (r ++ [(s, c)]) = _
    rw [total_app]
    show _ + ([c * g s].sum) = _
    simp
  | some i => exact total_mod g s c r i e
theorem spread_put (n : Nat) (ws : List Wish) (l : List (Stand × Nat)) : spread n ws l = l.foldl (fun r x => put (put r (after n ws x.1 0) x.2) (after n ws x.1 1) x.2) [] := rfl
theorem total_spread0 (g : Stand → Nat) (n : Nat) (ws : List Wish) : ∀ (l r : List (Stand × Nat)), total g (l.foldl (fun r x => put (put r (after n ws x.1 0) x.2) (after n ws x.1 1) x.2) r) = total g r + total (fun s => g (after n ws s 0) + g (after n ws s 1)) l
  | [], r => by
    show total g r = total g r + 0
    omega
  | a :: l, r => by
    rw [List.foldl_cons, total_spread0 g n ws l, total_put, total_put]
    show _ = total g r + (((a.2 * (g (after n ws a.1 0) + g (after n ws a.1 1)))) :: (l.map fun x => x.2 * (g (after n ws x.1 0) + g (after n ws x.1 1)))).sum
    rw [List.sum_cons, Nat.mul_add]
    simp only [total]
    omega
theorem foldl_add : ∀ (l : List Nat) (a : Nat), l.foldl (fun a b => a + b) a = a + l.sum
  | [], a => by simp
  | x :: l, a => by
    rw [List.foldl_cons, foldl_add l, List.sum_cons]
    omega
theorem total_zero (n : Nat) (ws : List Wish) : ∀ l : List (Stand × Nat), ((l.filter fun x => x.1.2 == fullSet ws).map fun x => x.2).sum = total (cnt n ws 0) l
  | [] => rfl
  | a :: l => by
    have ih := total_zero n ws l
    unfold total at *
    rw [List.map_cons, List.sum_cons]
    by_cases e : a.1.2 = fullSet ws
    · rw [List.filter_cons_of_pos (by rw [e]; exact beq_self_eq_true _), List.map_cons, List.sum_cons, ih]
      show _ = a.2 * (if a.1.2 = fullSet ws then 1 else 0) + _
      rw [if_pos e, Nat.mul_one]
    · rw [List.filter_cons_of_neg (by rw [beq_iff_eq]; exact e), ih]
      show _ = a.2 * (if a.1.2 = fullSet ws then 1 else 0) + _
      rw [if_neg e, Nat.mul_zero, Nat.zero_add]
theorem count_total (n : Nat) (ws : List Wish) : ∀ (k : Nat) (l : List (Stand × Nat)), countPlans n ws k l = total (cnt n ws k) l
  | 0, l => by
    unfold countPlans
    rw [foldl_add, Nat.zero_add]
    exact total_zero n ws l
  | k + 1, l => by
    unfold countPlans
    rw [count_total n ws k, spread_put, total_spread0]
    show 0 + _ = _
    rw [Nat.zero_add]
    rfl
theorem count_cnt (n : Nat) (ws : List Wish) (k : Nat) (s : Stand) : countPlans n ws k [(s, 1)] = cnt n ws k s := by
  rw [count_total]
  show ([1 * cnt n ws k s]).sum = _
  simp
theorem cnt_zero {n : Nat} {ws : List Wish} : ∀ (k : Nat) (s : Stand), (∀ p : List Nat, p.length = k → ¬ Full ws (run n ws s p)) → cnt n ws k s = 0
  | 0, s, h => if_neg (h [] rfl)
  | k + 1, s, h => by
    show cnt n ws k (after n ws s 0) + cnt n ws k (after n ws s 1) = 0
    rw [cnt_zero k _ fun p hp => h (0 :: p) (by rw [List.length_cons, hp]), cnt_zero k _ fun p hp => h (1 :: p) (by rw [List.length_cons, hp])]
theorem cnt_less {n : Nat} {ws : List Wish} (o : Ok n ws) (h8 : n ≤ 8) {r : Nat → Nat} (R : Ranked ws r) {s : Stand} (v : Va n ws s) {k : Nat} (h : k < dist n ws s) : cnt n ws k s = 0 :=
  cnt_zero k s fun p hp f => by
    have := (dist_short o h8 R v).le p f
    omega

noncomputable def plan (n : Nat) (ws : List Wish) : Nat → Stand → List Nat
  | 0, _ => []
  | f + 1, s => if dist n ws s = 0 then [] else if dist n ws (after n ws s 0) + 1 = dist n ws s then 0 :: plan n ws f (after n ws s 0) else 1 :: plan n ws f (after n ws s 1)
theorem planFrom_plan {n : Nat} {ws : List Wish} (o : Ok n ws) : ∀ (f : Nat) (s : Stand), Va n ws s → planFrom n ws (steps n ws) f s = plan n ws f s
  | 0, _, _ => rfl
  | f + 1, s, v => by
    show (if (steps n ws).getD (place n s) FAR = 0 then [] else if (steps n ws).getD (place n (after n ws s 0)) FAR + 1 = (steps n ws).getD (place n s) FAR then 0 :: planFrom n ws (steps n ws) f (after n ws s 0) else 1 :: planFrom n ws (steps n ws) f (after n ws s 1)) = _
    rw [steps_val o v, steps_val o (after_va o v 0), planFrom_plan o f _ (after_va o v 0), planFrom_plan o f _ (after_va o v 1)]
    rfl
theorem plan_way {n : Nat} {ws : List Wish} (o : Ok n ws) (h8 : n ≤ 8) {r : Nat → Nat} (R : Ranked ws r) {s : Stand} (v : Va n ws s) (f : ¬ Full ws s) (h : ¬ dist n ws (after n ws s 0) + 1 = dist n ws s) : dist n ws (after n ws s 1) + 1 = dist n ws s := by
  have := dist_after o h8 R v f
  omega
theorem plan_enough {n : Nat} {ws : List Wish} (o : Ok n ws) (h8 : n ≤ 8) {r : Nat → Nat} (R : Ranked ws r) : ∀ (f : Nat) (s : Stand), Va n ws s → dist n ws s ≤ f → plan n ws f s = plan n ws (dist n ws s) s
  | 0, s, _, h => by rw [Nat.le_zero.mp h]
  | f + 1, s, v, h => by
    cases e : dist n ws s with
    | zero => exact if_pos e
    | succ d =>
      have nf : ¬ Full ws s := fun q => by rw [dist_full q] at e; cases e
      show (if dist n ws s = 0 then [] else if dist n ws (after n ws s 0) + 1 = dist n ws s then 0 :: plan n ws f (after n ws s 0) else 1 :: plan n ws f (after n ws s 1)) = (if dist n ws s = 0 then [] else if dist n ws (after n ws s 0) + 1 = dist n ws s then 0 :: plan n ws d (after n ws s 0) else 1 :: plan n ws d (after n ws s 1))
      by_cases q : dist n ws (after n ws s 0) + 1 = dist n ws s
      · rw [if_pos q, if_pos q, plan_enough o h8 R f _ (after_va o v 0) (by omega), show dist n ws (after n ws s 0) = d by omega]
      · have q1 := plan_way o h8 R v nf q
        rw [if_neg q, if_neg q, plan_enough o h8 R f _ (after_va o v 1) (by omega), show dist n ws (after n ws s 1) = d by omega]
noncomputable def thePlan (n : Nat) (ws : List Wish) (s : Stand) : List Nat := plan n ws (dist n ws s) s
theorem thePlan_full {n : Nat} {ws : List Wish} {s : Stand} (f : Full ws s) : thePlan n ws s = [] := by
  unfold thePlan
  rw [dist_full f]
  rfl
theorem thePlan_step {n : Nat} {ws : List Wish} (o : Ok n ws) (h8 : n ≤ 8) {r : Nat → Nat} (R : Ranked ws r) {s : Stand} (v : Va n ws s) (f : ¬ Full ws s) :
    thePlan n ws s = if dist n ws (after n ws s 0) + 1 = dist n ws s then 0 :: thePlan n ws (after n ws s 0) else 1 :: thePlan n ws (after n ws s 1) := by
  have D := dist_after o h8 R v f
  obtain ⟨d, hd⟩ : ∃ k, dist n ws s = k + 1 := ⟨_, D⟩
  unfold thePlan
  rw [hd]
  show (if dist n ws s = 0 then [] else if dist n ws (after n ws s 0) + 1 = dist n ws s then 0 :: plan n ws d (after n ws s 0) else 1 :: plan n ws d (after n ws s 1)) = _
  rw [if_neg (by omega), hd]
  by_cases q : dist n ws (after n ws s 0) + 1 = d + 1
  · rw [if_pos q, if_pos q, show dist n ws (after n ws s 0) = d by omega]
  · have q1 := plan_way o h8 R v f (by omega)
    rw [if_neg q, if_neg q, show dist n ws (after n ws s 1) = d by omega]
theorem thePlan_len {n : Nat} {ws : List Wish} (o : Ok n ws) (h8 : n ≤ 8) {r : Nat → Nat} (R : Ranked ws r) : ∀ (d : Nat) (s : Stand), Va n ws s → dist n ws s = d → (thePlan n ws s).length = d
  | 0, s, v, h => by rw [thePlan_full ((dist_zero o h8 R v).mp h)]; rfl
  | d + 1, s, v, h => by
    have nf : ¬ Full ws s := fun q => by rw [dist_full q] at h; cases h
    rw [thePlan_step o h8 R v nf]
    by_cases q : dist n ws (after n ws s 0) + 1 = dist n ws s
    · rw [if_pos q, List.length_cons, thePlan_len o h8 R d _ (after_va o v 0) (by omega)]
    · have q1 := plan_way o h8 R v nf q
      rw [if_neg q, List.length_cons, thePlan_len o h8 R d _ (after_va o v 1) (by omega)]
theorem fewest_eq {x : Table} (o : Ok x.n x.wishes) (h8 : x.n ≤ 8) {r : Nat → Nat} (R : Ranked x.wishes r) (v : Va x.n x.wishes (standOf x)) :
    fewest x = (dist x.n x.wishes (standOf x), cnt x.n x.wishes (dist x.n x.wishes (standOf x)) (standOf x), thePlan x.n x.wishes (standOf x)) := by
  show ((steps x.n x.wishes).getD (place x.n (standOf x)) FAR, countPlans x.n x.wishes ((steps x.n x.wishes).getD (place x.n (standOf x)) FAR) [(standOf x, 1)], planFrom x.n x.wishes (steps x.n x.wishes) ((steps x.n x.wishes).getD (place x.n (standOf x)) FAR + 1) (standOf x)) = _
  rw [steps_val o v, count_cnt, planFrom_plan o _ _ v]
  show (dist x.n x.wishes (standOf x), cnt x.n x.wishes (dist x.n x.wishes (standOf x)) (standOf x), plan x.n x.wishes (dist x.n x.wishes (standOf x) + 1) (standOf x)) = _
  rw [plan_enough o h8 R _ _ v (Nat.le_succ _)]
  rfl

noncomputable def stays (n : Nat) (ws : List Wish) : Stand → List Nat → Prop
  | _, [] => True
  | s, w :: q => (after n ws s w).2 = s.2 ∧ stays n ws (after n ws s w) q
theorem stays_run {n : Nat} {ws : List Wish} : ∀ (q : List Nat) (s : Stand), stays n ws s q → (run n ws s q).2 = s.2
  | [], _, _ => rfl
  | _ :: q, _, h => (stays_run q _ h.2).trans h.1
theorem split_ {n : Nat} {ws : List Wish} : ∀ (p : List Nat) (s : Stand), ¬ Full ws s → Full ws (run n ws s p) → ∃ (q : List Nat) (w : Nat) (r : List Nat), p = q ++ w :: r ∧ stays n ws s q ∧ (after n ws (run n ws s q) w).2 ≠ s.2
  | [], s, h, f => absurd f h
  | w :: p, s, h, f => by
    by_cases e : (after n ws s w).2 = s.2
    · obtain ⟨q, w', r, h1, h2, h3⟩ := split_ p (after n ws s w) (by show ¬ (after n ws s w).2 = fullSet ws; rw [e]; exact h) f
      exact ⟨w :: q, w', r, by rw [h1]; rfl, ⟨e, h2⟩, by rw [← e]; exact h3⟩
    · exact ⟨[], w, p, rfl, trivial, e⟩
noncomputable def wayw (n w : Nat) : Nat → Nat → Nat
  | 0, t => t
  | e + 1, t => turned n (wayw n w e t) w
theorem wayw_in (n w : Nat) : ∀ (e t : Nat), wayw n w e (turned n t w) = wayw n w (e + 1) t
  | 0, _ => rfl
  | e + 1, t => by
    show turned n (wayw n w e (turned n t w)) w = turned n (wayw n w (e + 1) t) w
    rw [wayw_in n w e t]
theorem turned_rl {n t : Nat} (h : t < n) : turned n (turned n t 0) 1 = t := by
  unfold turned
  rw [if_pos rfl, if_neg (by decide)]
  by_cases e : t + 1 = n
  · rw [e, Nat.mod_self, show 0 + n - 1 = t by omega, Nat.mod_eq_of_lt h]
  · rw [Nat.mod_eq_of_lt (show t + 1 < n by omega), show t + 1 + n - 1 = t + n by omega, Nat.add_mod_right, Nat.mod_eq_of_lt h]
theorem turned_lr {n t : Nat} (h : t < n) : turned n (turned n t 1) 0 = t := by
  unfold turned
  rw [if_pos rfl, if_neg (by decide)]
  by_cases e : t = 0
  · subst e
    rw [show 0 + n - 1 = n - 1 by omega, Nat.mod_eq_of_lt (show n - 1 < n by omega), show n - 1 + 1 = n by omega, Nat.mod_self]
  · rw [show t + n - 1 = (t - 1) + n by omega, Nat.add_mod_right, Nat.mod_eq_of_lt (show t - 1 < n by omega), show t - 1 + 1 = t by omega, Nat.mod_eq_of_lt h]
theorem turned_one (n t w : Nat) (h : w ≠ 0) : turned n t w = turned n t 1 := by
  unfold turned
  rw [if_neg h, if_neg (by decide)]
theorem wayw_mod {n w t : Nat} (hn : 0 < n) (ht : t < n) (e : Nat) : wayw n w (e % n) t = wayw n w e t := by
  by_cases h : w = 0
  · subst h
    have q : ∀ e, wayw n 0 e t = (t + e) % n := fun e => by
      induction e with
      | zero => rw [Nat.add_zero, Nat.mod_eq_of_lt ht]; rfl
      | succ e ih =>
        show (wayw n 0 e t + 1) % n = _
        rw [ih, Nat.mod_add_mod, Nat.add_assoc]
    rw [q, q, Nat.add_mod_mod]
  · have q : ∀ e, wayw n w e t = (t + (n - 1) * e) % n := fun e => by
      induction e with
      | zero => rw [Nat.mul_zero, Nat.add_zero, Nat.mod_eq_of_lt ht]; rfl
      | succ e ih =>
        show turned n (wayw n w e t) w = _
        rw [turned_one n _ w h]
        unfold turned
        rw [if_neg (by decide), ih, show (t + (n - 1) * e) % n + n - 1 = (t + (n - 1) * e) % n + (n - 1) by omega, Nat.mod_add_mod, Nat.add_assoc, Nat.mul_succ]
    rw [q, q, Nat.add_mod, Nat.mul_mod, Nat.mod_mod, ← Nat.mul_mod, ← Nat.add_mod]
noncomputable def Stand1 (n : Nat) (ws : List Wish) (w e : Nat) (s s' : Stand) : Prop := s' = (wayw n w e s.1, s.2) ∧ ∀ i, 1 ≤ i → i ≤ e → serve n ws (wayw n w i s.1) s.2 = s.2
theorem straight {n : Nat} {ws : List Wish} (o : Ok n ws) : ∀ (q : List Nat) (s : Stand), s.1 < n → stays n ws s q → ∃ e w, e ≤ q.length ∧ (w = 0 ∨ w = 1) ∧ Stand1 n ws w e s (run n ws s q)
  | [], s, _, _ => ⟨0, 0, Nat.le_refl 0, .inl rfl, rfl, fun i h1 h2 => by omega⟩
  | v :: q, s, ht, h => by
    have hn : 0 < n := Nat.lt_of_lt_of_le (by decide) o.n2
    have key : ∀ v' u' : Nat, after n ws s v = after n ws s v' → (v' = 0 ∨ v' = 1) → turned n (turned n s.1 v') u' = s.1 → (u' = 0 ∨ u' = 1) → (u' ≠ v') →
        ∃ e w, e ≤ q.length + 1 ∧ (w = 0 ∨ w = 1) ∧ Stand1 n ws w e s (run n ws (after n ws s v) q) := by
      intro v' u' ev hv' hu hu' _
      obtain ⟨e, w, h1, h2, h3, h4⟩ := straight o q (after n ws s v) (by rw [ev]; exact turned_lt hn) h.2
      rw [ev] at h3 h4
      have e1 : (after n ws s v').1 = turned n s.1 v' := rfl
      have e2 : (after n ws s v').2 = s.2 := by rw [← ev]; exact h.1
      have e3 : serve n ws (turned n s.1 v') s.2 = s.2 := e2
      rw [e1, e2] at h3 h4
      by_cases c : w = v'
      · subst c
        refine ⟨e + 1, w, by omega, h2, by rw [ev, h3, wayw_in], fun i i1 i2 => ?_⟩
        obtain ⟨j, rfl⟩ : ∃ j, i = j + 1 := ⟨i - 1, by omega⟩
        cases j with
        | zero => exact e3
        | succ j =>
          have := h4 (j + 1) (by omega) (by omega)
          rw [wayw_in] at this
          exact this
      · have cw : w = u' := by omega
        subst cw
        cases e with
        | zero =>
          refine ⟨1, v', by omega, hv', by rw [ev, h3]; rfl, fun i i1 i2 => ?_⟩
          rw [show i = 1 by omega]
          exact e3
        | succ e =>
          refine ⟨e, w, by omega, h2, ?_, fun i i1 i2 => ?_⟩
          · rw [ev, h3, ← wayw_in, hu]
          · have := h4 (i + 1) (by omega) (by omega)
            rw [← wayw_in, hu] at this
            exact this
    by_cases c : v = 0
    · exact key 0 1 (by rw [c]) (.inl rfl) (turned_rl ht) (.inr rfl) (by decide)
    · exact key 1 0 (by
        unfold after
        rw [turned_one n _ v c]) (.inr rfl) (turned_lr ht) (.inl rfl) (by decide)
theorem run_straight {n : Nat} {ws : List Wish} {w : Nat} : ∀ (e : Nat) (s : Stand), (∀ i, 1 ≤ i → i ≤ e → serve n ws (wayw n w i s.1) s.2 = s.2) → stays n ws s (List.replicate e w) ∧ run n ws s (List.replicate e w) = (wayw n w e s.1, s.2)
  | 0, _, _ => ⟨trivial, rfl⟩
  | e + 1, s, h => by
    have h1 : after n ws s w = (turned n s.1 w, s.2) := by
      show (turned n s.1 w, serve n ws (turned n s.1 w) s.2) = _
      rw [show serve n ws (turned n s.1 w) s.2 = s.2 from h 1 (by omega) (by omega)]
    have ih := run_straight (w := w) e (after n ws s w) (fun i i1 i2 => by
      rw [h1]
      show serve n ws (wayw n w i (turned n s.1 w)) s.2 = s.2
      rw [wayw_in]
      exact h (i + 1) (by omega) (by omega))
    refine ⟨⟨by rw [h1], ih.1⟩, ?_⟩
    show run n ws (after n ws s w) (List.replicate e w) = _
    rw [ih.2, h1]
    show (wayw n w e (turned n s.1 w), s.2) = _
    rw [wayw_in]
theorem cost_app {n : Nat} {ws : List Wish} {c : Nat → Nat} : ∀ (p q : List Nat) (s : Stand), cost n ws c s (p ++ q) = cost n ws c s p + cost n ws c (run n ws s p) q
  | [], q, s => (Nat.zero_add _).symm
  | w :: p, q, s => by
    show _ + cost n ws c (after n ws s w) (p ++ q) = _ + cost n ws c (after n ws s w) p + _
    rw [cost_app p q, Nat.add_assoc]
    rfl
theorem cost_stays {n : Nat} {ws : List Wish} {c : Nat → Nat} : ∀ (q : List Nat) (s : Stand), ¬ Full ws s → stays n ws s q → cost n ws c s q = q.length * c s.2
  | [], _, _, _ => by
    show 0 = 0 * _
    rw [Nat.zero_mul]
  | w :: q, s, f, h => by
    show (if s.2 = fullSet ws then 0 else c s.2) + cost n ws c (after n ws s w) q = (q.length + 1) * c s.2
    rw [if_neg f, cost_stays q _ (by show ¬ (after n ws s w).2 = fullSet ws; rw [h.1]; exact f) h.2, h.1, Nat.succ_mul, Nat.add_comm]
theorem gval_walk {n : Nat} {ws : List Wish} {c : Nat → Nat} (k : Nat) : ∀ (p : List Nat) (s : Stand), gval n ws c (p.length + k) s ≤ cost n ws c s p + gval n ws c k (run n ws s p)
  | [], s => by
    show gval n ws c (0 + k) s ≤ 0 + gval n ws c k s
    rw [Nat.zero_add, Nat.zero_add]
    exact Nat.le_refl _
  | w :: p, s => by
    have ih := gval_walk (n := n) (ws := ws) (c := c) k p (after n ws s w)
    rw [show (w :: p).length + k = (p.length + k) + 1 by rw [List.length_cons]; omega, run_cons]
    show (if s.2 = fullSet ws then 0 else min (gval n ws c (p.length + k) (after n ws s 0)) (gval n ws c (p.length + k) (after n ws s 1)) + c s.2) ≤ ((if s.2 = fullSet ws then 0 else c s.2) + cost n ws c (after n ws s w) p) + gval n ws c k (run n ws (after n ws s w) p)
    by_cases e : s.2 = fullSet ws
    · rw [if_pos e]; omega
    · rw [if_neg e, if_neg e]
      rcases after_way (n := n) (ws := ws) s w with q | q <;> rw [q] at ih ⊢ <;> omega
theorem left_less {n : Nat} {ws : List Wish} (o : Ok n ws) {s : Stand} (v : Va n ws s) {w : Nat} (h : (after n ws s w).2 ≠ s.2) : left_ ws (after n ws s w) < left_ ws s := by
  have ex : ∃ i, i < ws.length ∧ isIn (after n ws s w).2 i = true ∧ isIn s.2 i = false := by
    rcases Classical.em (∃ i, i < ws.length ∧ isIn (after n ws s w).2 i = true ∧ isIn s.2 i = false) with e | e
    · exact e
    · refine absurd (bit_ext (after_va o v w).m v.m fun i hi => ?_) h
      cases q : isIn s.2 i with
      | true => exact after_sub o v w hi q
      | false =>
        cases q2 : isIn (after n ws s w).2 i with
        | false => rfl
        | true => exact absurd ⟨i, hi, q2, q⟩ e
  obtain ⟨i, hi, h1, h2⟩ := ex
  have lt : card ws.length s.2 < card ws.length (after n ws s w).2 := filter_len_lt (fun j hj q => after_sub o v w (List.mem_range.mp hj) q) ⟨i, List.mem_range.mpr hi, h1, h2⟩
  have := card_le ws.length (after n ws s w).2
  unfold left_
  omega
theorem gval_best {n : Nat} {ws : List Wish} (o : Ok n ws) {c : Nat → Nat} : ∀ (u k : Nat) (s : Stand) (p : List Nat), Va n ws s → left_ ws s ≤ u → n * u ≤ k → Full ws (run n ws s p) → gval n ws c k s ≤ cost n ws c s p
  | 0, k, s, p, v, hu, _, _ => by
    have f := left_full o v (Nat.le_zero.mp hu)
    have : gval n ws c k s = 0 := by cases k <;> exact if_pos f
    omega
  | u + 1, k, s, p, v, hu, hk, f => by
    by_cases fs : Full ws s
    · have : gval n ws c k s = 0 := by cases k <;> exact if_pos fs
      omega
    · have hn : 0 < n := Nat.lt_of_lt_of_le (by decide) o.n2
      obtain ⟨q, w, r, rfl, h2, h3⟩ := split_ p s fs f
      obtain ⟨e, d, e1, e2, e3, e4⟩ := straight o q s v.t h2
      have hmod : e % n < n := Nat.mod_lt _ hn
      have hle : e % n ≤ e := Nat.mod_le _ _
      have R := run_straight (n := n) (ws := ws) (w := d) (e % n) s (fun i i1 i2 => e4 i i1 (by omega))
      rw [wayw_mod hn v.t, ← e3] at R
      have vq := run_va o q v
      have lq : left_ ws (after n ws (run n ws s q) w) < left_ ws s := by
        have := left_less o vq (w := w) (by rw [stays_run q s h2]; exact h3)
        have e5 : left_ ws (run n ws s q) = left_ ws s := by unfold left_; rw [stays_run q s h2]
        omega
      rw [run_app, run_cons] at f
      rw [Nat.mul_succ] at hk
      have ih := gval_best o (c := c) u (k - (e % n + 1)) (after n ws (run n ws s q) w) r (after_va o vq w) (by omega) (by omega) f
      have W := gval_walk (n := n) (ws := ws) (c := c) (k - (e % n + 1)) (List.replicate (e % n) d ++ [w]) s
      rw [run_app, R.2, cost_app, R.2, cost_stays _ s fs R.1, List.length_append, List.length_replicate] at W
      have nq : ¬ (run n ws s q).2 = fullSet ws := by rw [stays_run q s h2]; exact fs
      have one : cost n ws c (run n ws s q) [w] = c s.2 := by
        show (if (run n ws s q).2 = fullSet ws then 0 else c (run n ws s q).2) + 0 = _
        rw [if_neg nq, stays_run q s h2, Nat.add_zero]
      rw [one, show e % n + [w].length + (k - (e % n + 1)) = k by simp; omega] at W
      have C : cost n ws c s (q ++ w :: r) = q.length * c s.2 + (c s.2 + cost n ws c (after n ws (run n ws s q) w) r) := by
        rw [cost_app, cost_stays q s fs h2]
        show _ + ((if (run n ws s q).2 = fullSet ws then 0 else c (run n ws s q).2) + _) = _
        rw [if_neg nq, stays_run q s h2]
      have M : e % n * c s.2 ≤ q.length * c s.2 := Nat.mul_le_mul_right _ (by omega)
      rw [C]
      have W' : gval n ws c k s ≤ e % n * c s.2 + c s.2 + gval n ws c (k - (e % n + 1)) (after n ws (run n ws s q) w) := W
      omega
structure Least (n : Nat) (ws : List Wish) (c : Nat → Nat) (s : Stand) (x : Nat) : Prop where
  ex : ∃ p : List Nat, (∀ w ∈ p, w = 0 ∨ w = 1) ∧ Full ws (run n ws s p) ∧ cost n ws c s p = x
  le : ∀ p : List Nat, Full ws (run n ws s p) → x ≤ cost n ws c s p
noncomputable def wait (n : Nat) (ws : List Wish) (s : Stand) : Nat := gval n ws (waiting ws) (lots n ws) s
theorem waiting_le {ws : List Wish} (m : Nat) : waiting ws m ≤ ws.length := by unfold waiting; omega
theorem wait_least {n : Nat} {ws : List Wish} (o : Ok n ws) (h8 : n ≤ 8) {r : Nat → Nat} (R : Ranked ws r) {s : Stand} (v : Va n ws s) : Least n ws (waiting ws) s (wait n ws s) := by
  obtain ⟨p0, l0, f0⟩ := plan_ex o R ws.length s v (by unfold left_; omega)
  have h1 := gval_best o (c := waiting ws) ws.length (lots n ws) s p0 v (by unfold left_; omega) (lots_ge (Nat.le_refl _)) f0
  have h2 := cost_len (n := n) (ws := ws) (c := waiting ws) (b := 6) (fun m => Nat.le_trans (waiting_le m) o.k6) p0 s
  have h3 := lots_far o h8
  have h4 : p0.length * 6 ≤ n * ws.length * 6 := Nat.mul_le_mul_right 6 l0
  obtain ⟨p, p1, p2, p3, p4, p5⟩ := gval_real (n := n) (ws := ws) (c := waiting ws) (lots n ws) s (by omega)
  exact ⟨⟨p, p2, p3, p4⟩, fun q f => gval_best o ws.length (lots n ws) s q v (by unfold left_; omega) (lots_ge (Nat.le_refl _)) f⟩
theorem wait_full {n : Nat} {ws : List Wish} {s : Stand} (f : Full ws s) : wait n ws s = 0 := by
  unfold wait lots
  exact if_pos f
theorem wait_after {n : Nat} {ws : List Wish} (o : Ok n ws) (h8 : n ≤ 8) {r : Nat → Nat} (R : Ranked ws r) {s : Stand} (v : Va n ws s) (f : ¬ Full ws s) :
    wait n ws s = min (wait n ws (after n ws s 0)) (wait n ws (after n ws s 1)) + waiting ws s.2 := by
  have S := wait_least o h8 R v
  have le : ∀ w, (w = 0 ∨ w = 1) → wait n ws s ≤ wait n ws (after n ws s w) + waiting ws s.2 := fun w hw => by
    obtain ⟨p, p1, p2, p3⟩ := (wait_least o h8 R (after_va o v w)).ex
    have := S.le (w :: p) p2
    have e : cost n ws (waiting ws) s (w :: p) = waiting ws s.2 + cost n ws (waiting ws) (after n ws s w) p := by
      show (if s.2 = fullSet ws then 0 else waiting ws s.2) + _ = _
      rw [if_neg f]
    omega
  have h0 := le 0 (.inl rfl)
  have h1 := le 1 (.inr rfl)
  obtain ⟨p, p1, p2, p3⟩ := S.ex
  cases p with
  | nil => exact absurd p2 f
  | cons w p =>
    have e : cost n ws (waiting ws) s (w :: p) = waiting ws s.2 + cost n ws (waiting ws) (after n ws s w) p := by
      show (if s.2 = fullSet ws then 0 else waiting ws s.2) + _ = _
      rw [if_neg f]
    rw [run_cons] at p2
    rcases p1 w (by simp) with rfl | rfl
    · have := (wait_least o h8 R (after_va o v 0)).le p p2
      omega
    · have := (wait_least o h8 R (after_va o v 1)).le p p2
      omega
end Ma
set_option maxRecDepth 100000
set_option maxHeartbeats 4000000
namespace Ma
open Uw77

structure TInv (x : Table) : Prop where
  n2 : 2 ≤ x.n
  n8 : x.n ≤ 8
  t : x.turn < x.n
  k6 : x.wishes.length ≤ 6
  gd : ∀ w ∈ x.wishes, w.guest < x.n ∧ w.dish < x.n
  ins : Inside x.wishes
  nd : ∀ w ∈ x.wishes, w.behind.Nodup
  rank : ∃ r, Ranked x.wishes r
  lt : numberOf x.done < 2 ^ x.wishes.length
  done : x.done = membersOf x.wishes.length (numberOf x.done)
theorem TInv.ok {x : Table} (h : TInv x) : Ok x.n x.wishes := ⟨h.n2, h.k6, h.ins⟩
theorem TInv.va {x : Table} (h : TInv x) : Va x.n x.wishes (standOf x) := ⟨h.t, h.lt⟩
theorem TInv.mem {x : Table} (h : TInv x) (i : Nat) : x.done.contains i = (decide (i < x.wishes.length) && isIn (numberOf x.done) i) := by
  rw [Bool.eq_iff_iff, List.contains_iff_mem, h.done, ← h.done]
  have : i ∈ x.done ↔ i ∈ membersOf x.wishes.length (numberOf x.done) := by rw [← h.done]
  rw [this]
  unfold membersOf
  rw [List.mem_filter, List.mem_range, Bool.and_eq_true, decide_eq_true_eq]
theorem init_inv : TInv init := ⟨by decide, by decide, by decide, by decide, fun _ h => (nomatch h), fun i w h => (by simp [init] at h), fun _ h => (nomatch h), ⟨fun _ => 0, fun i w h => (by simp [init] at h)⟩, by decide, rfl⟩
theorem table_inv {n : Nat} (h2 : 2 ≤ n) (h8 : n ≤ 8) : TInv ⟨n, 0, [], []⟩ :=
  ⟨h2, h8, by show 0 < n; omega, Nat.zero_le _, fun _ h => (nomatch h), fun i w h => (by simp at h), fun _ h => (nomatch h), ⟨fun _ => 0, fun i w h => (by simp at h)⟩, by show (0 : Nat) < 1; decide, rfl⟩
theorem stood_inv {x : Table} (h : TInv x) {s : Stand} (v : Va x.n x.wishes s) : TInv (stood x s) := by
  have e : numberOf (membersOf x.wishes.length s.2) = s.2 := num_members h.k6 v.m
  refine ⟨h.n2, h.n8, v.t, h.k6, h.gd, h.ins, h.nd, h.rank, ?_, ?_⟩
  · show numberOf (membersOf x.wishes.length s.2) < 2 ^ x.wishes.length
    rw [e]
    exact v.m
  · show membersOf x.wishes.length s.2 = membersOf x.wishes.length (numberOf (membersOf x.wishes.length s.2))
    rw [e]
theorem stepped_inv {x : Table} (h : TInv x) (w : Nat) : TInv (stepped x w) := stood_inv h (after_va h.ok h.va w)
theorem get_app {α : Type} {l : List α} {a b : α} {i : Nat} (h : (l ++ [a])[i]? = some b) : l[i]? = some b ∨ (i = l.length ∧ b = a) := by
  rw [List.getElem?_append] at h
  by_cases c : i < l.length
  · rw [if_pos c] at h
    exact .inl h
  · rw [if_neg c] at h
    cases e : i - l.length with
    | zero =>
      rw [e] at h
      exact .inr ⟨by omega, (Option.some.inj h).symm⟩
    | succ k => rw [e] at h; simp at h
theorem more_inv {x : Table} (h : TInv x) {g d : Nat} (hg : g < x.n) (hd : d < x.n) (h6 : ¬ 6 ≤ x.wishes.length) : TInv { x with wishes := x.wishes ++ [⟨g, d, []⟩], done := membersOf (x.wishes.length + 1) (numberOf x.done) } ∧ numberOf x.done < 2 ^ (x.wishes.length + 1) := by
  have lt : numberOf x.done < 2 ^ (x.wishes.length + 1) := Nat.lt_trans h.lt (Nat.pow_lt_pow_right (by decide) (by omega))
  obtain ⟨r, R⟩ := h.rank
  have e : numberOf (membersOf (x.wishes.length + 1) (numberOf x.done)) = numberOf x.done := num_members (by omega) lt
  refine ⟨⟨h.n2, h.n8, h.t, ?_, ?_, ?_, ?_, ⟨r, ?_⟩, ?_, ?_⟩, lt⟩
  · show (x.wishes ++ [_]).length ≤ 6
    rw [List.length_append, List.length_singleton]
    omega
  · intro w hw
    rcases List.mem_append.mp hw with q | q
    · exact h.gd w q
    · rw [List.mem_singleton.mp q]
      exact ⟨hg, hd⟩
  · intro i w hw j hj
    show j < (x.wishes ++ [_]).length
    rw [List.length_append, List.length_singleton]
    rcases get_app hw with q | ⟨_, q⟩
    · exact Nat.lt_succ_of_lt (h.ins i w q j hj)
    · rw [q] at hj
      cases hj
  · intro w hw
    rcases List.mem_append.mp hw with q | q
    · exact h.nd w q
    · rw [List.mem_singleton.mp q]
      exact List.nodup_nil
  · intro i w hw j hj
    rcases get_app hw with q | ⟨_, q⟩
    · exact R i w q j hj
    · rw [q] at hj
      cases hj
  · show numberOf (membersOf (x.wishes.length + 1) (numberOf x.done)) < 2 ^ (x.wishes ++ [_]).length
    rw [e, List.length_append, List.length_singleton]
    exact lt
  · show membersOf (x.wishes.length + 1) (numberOf x.done) = membersOf (x.wishes ++ [_]).length (numberOf (membersOf (x.wishes.length + 1) (numberOf x.done)))
    rw [e, List.length_append, List.length_singleton]
noncomputable def wished (x : Table) (g d : Nat) : Table :=
  let y : Table := { x with wishes := x.wishes ++ [⟨g, d, []⟩] }
  stood y (y.turn, serve y.n y.wishes y.turn (numberOf y.done))
theorem wished_inv {x : Table} (h : TInv x) {g d : Nat} (hg : g < x.n) (hd : d < x.n) (h6 : ¬ 6 ≤ x.wishes.length) : TInv (wished x g d) := by
  obtain ⟨m, lt⟩ := more_inv h hg hd h6
  have v : Va x.n (x.wishes ++ [⟨g, d, []⟩]) (x.turn, serve x.n (x.wishes ++ [⟨g, d, []⟩]) x.turn (numberOf x.done)) :=
    ⟨h.t, (serve_ok (n := x.n) (t := x.turn) m.k6 m.ins (by rw [List.length_append, List.length_singleton]; exact lt)).lt⟩
  exact stood_inv m v

theorem rank_bound {ws : List Wish} (hin : Inside ws) {r : Nat → Nat} (R : Ranked ws r) : ∃ q, Ranked ws q ∧ ∀ i, i < ws.length → q i < ws.length := by
  refine ⟨fun i => ((List.range ws.length).filter fun j => decide (r j < r i)).length, fun i w hw j hj => ?_, fun i hi => ?_⟩
  · refine filter_len_lt (fun k _ hk => ?_) ⟨j, List.mem_range.mpr (hin i w hw j hj), ?_, ?_⟩
    · rw [decide_eq_true_eq] at hk ⊢
      exact Nat.lt_trans hk (R i w hw j hj)
    · rw [decide_eq_true_eq]
      exact R i w hw j hj
    · rw [decide_eq_false_iff_not]
      exact Nat.lt_irrefl _
  · have lt := filter_len_lt (p := fun j => decide (r j < r i)) (q := fun _ => true) (l := List.range ws.length) (fun _ _ _ => rfl) ⟨i, List.mem_range.mpr hi, rfl, by rw [decide_eq_false_iff_not]; exact Nat.lt_irrefl _⟩
    rw [show (List.filter (fun _ => true) (List.range ws.length)) = List.range ws.length from List.filter_eq_self.mpr fun _ _ => rfl, List.length_range] at lt
    exact lt
theorem leads_succ (ws : List Wish) (f i j : Nat) : leads ws (f + 1) i j = (ws[i]?).any fun w => w.behind.contains j || w.behind.any fun k => leads ws f k j := rfl
theorem leads_mono {ws : List Wish} {j : Nat} : ∀ {f g i : Nat}, f ≤ g → leads ws f i j = true → leads ws g i j = true
  | 0, _, _, _, h => by cases h
  | f + 1, 0, _, l, _ => by omega
  | f + 1, g + 1, i, l, h => by
    rw [leads_succ] at h ⊢
    cases e : ws[i]? with
    | none => rw [e] at h; cases h
    | some w =>
      rw [e] at h
      simp only [Option.any_some, Bool.or_eq_true, List.any_eq_true] at h ⊢
      rcases h with h | ⟨k, hk, h⟩
      · exact .inl h
      · exact .inr ⟨k, hk, leads_mono (by omega) h⟩
theorem leads_rank {ws : List Wish} {r : Nat → Nat} (R : Ranked ws r) {j : Nat} : ∀ {f i : Nat}, leads ws f i j = true → leads ws (r i + 1) i j = true
  | 0, _, h => by cases h
  | f + 1, i, h => by
    rw [leads_succ] at h ⊢
    cases e : ws[i]? with
    | none => rw [e] at h; cases h
    | some w =>
      rw [e] at h
      simp only [Option.any_some, Bool.or_eq_true, List.any_eq_true] at h ⊢
      rcases h with h | ⟨k, hk, h⟩
      · exact .inl h
      · exact .inr ⟨k, hk, leads_mono (R i w e k hk) (leads_rank R h)⟩
theorem leads_len {ws : List Wish} (hin : Inside ws) {r : Nat → Nat} (R : Ranked ws r) {f i j : Nat} (h : leads ws f i j = true) : leads ws ws.length i j = true := by
  obtain ⟨q, Q, b⟩ := rank_bound hin R
  cases f with
  | zero => cases h
  | succ f =>
    have hi : i < ws.length := by
      rw [leads_succ] at h
      cases e : ws[i]? with
      | none => rw [e] at h; cases h
      | some w => exact (List.getElem?_eq_some_iff.mp e).1
    exact leads_mono (b i hi) (leads_rank Q h)
theorem leads_turn {ws : List Wish} (hin : Inside ws) {r : Nat → Nat} (R : Ranked ws r) {i j : Nat} {w : Wish} (e : ws[i]? = some w) :
    leads ws ws.length i j = w.behind.any fun k => k == j || leads ws ws.length k j := by
  rw [Bool.eq_iff_iff]
  constructor
  · intro h
    cases l : ws.length with
    | zero => rw [l] at h; cases h
    | succ n =>
      rw [l, leads_succ, e] at h
      simp only [Option.any_some, Bool.or_eq_true, List.any_eq_true] at h
      rw [List.any_eq_true]
      rcases h with h | ⟨k, hk, h⟩
      · exact ⟨j, List.contains_iff_mem.mp h, by rw [beq_self_eq_true]; rfl⟩
      · refine ⟨k, hk, ?_⟩
        have := leads_len hin R h
        rw [l] at this
        rw [this, Bool.or_true]
  · intro h
    rw [List.any_eq_true] at h
    obtain ⟨k, hk, h⟩ := h
    refine leads_len hin R (f := ws.length + 1) ?_
    rw [leads_succ, e]
    simp only [Option.any_some, Bool.or_eq_true, List.any_eq_true]
    rw [Bool.or_eq_true] at h
    rcases h with h | h
    · rw [eq_of_beq h] at hk
      exact .inl (List.contains_iff_mem.mpr hk)
    · exact .inr ⟨k, hk, h⟩

noncomputable def put1 (x : Table) (i j : Nat) : Table := { x with wishes := x.wishes.modify i fun w => { w with behind := w.behind ++ [j] } }
theorem mod_get {ws : List Wish} {i j k : Nat} {w : Wish} (h : (ws.modify i fun w => { w with behind := w.behind ++ [j] })[k]? = some w) : ∃ v, ws[k]? = some v ∧ w = if i = k then { v with behind := v.behind ++ [j] } else v := by
  rw [List.getElem?_modify] at h
  cases e : ws[k]? with
  | none => rw [e] at h; cases h
  | some v =>
    rw [e] at h
    refine ⟨v, rfl, ?_⟩
    exact (Option.some.inj h).symm
theorem put1_inv {x : Table} (h : TInv x) {i j : Nat} (hj : j < x.wishes.length) (hij : i ≠ j) (h4 : ¬ (x.wishes[i]?).any (fun w => w.behind.contains j) = true) (h6 : ¬ leads x.wishes x.wishes.length j i = true) : TInv (put1 x i j) := by
  obtain ⟨r, R⟩ := h.rank
  have len : (put1 x i j).wishes.length = x.wishes.length := List.length_modify _ _ _
  have beh : ∀ (k : Nat) (w : Wish), (put1 x i j).wishes[k]? = some w → ∃ v, x.wishes[k]? = some v ∧ w.guest = v.guest ∧ w.dish = v.dish ∧ w.behind = if i = k then v.behind ++ [j] else v.behind := fun k w hw => by
    obtain ⟨v, hv, e⟩ := mod_get hw
    refine ⟨v, hv, ?_⟩
    by_cases c : i = k
    · rw [if_pos c] at e ⊢
      rw [e]
      exact ⟨rfl, rfl, rfl⟩
    · rw [if_neg c] at e ⊢
      rw [e]
      exact ⟨rfl, rfl, rfl⟩
  have mem : ∀ w ∈ (put1 x i j).wishes, ∃ (k : Nat) (v : Wish), x.wishes[k]? = some v ∧ w.guest = v.guest ∧ w.dish = v.dish ∧ w.behind = if i = k then v.behind ++ [j] else v.behind := fun w hw => by
    obtain ⟨k, hk⟩ := List.getElem?_of_mem hw
    obtain ⟨v, q⟩ := beh k w hk
    exact ⟨k, v, q⟩
  refine ⟨h.n2, h.n8, h.t, by rw [len]; exact h.k6, fun w hw => ?_, fun k w hw y hy => ?_, fun w hw => ?_, ?_, by rw [len]; exact h.lt, by rw [len]; exact h.done⟩
  · obtain ⟨k, v, hv, e1, e2, _⟩ := mem w hw
    rw [e1, e2]
    exact h.gd v (List.mem_of_getElem? hv)
  · obtain ⟨v, hv, _, _, e3⟩ := beh k w hw
    rw [len]
    rw [e3] at hy
    by_cases c : i = k
    · rw [if_pos c] at hy
      rcases List.mem_append.mp hy with q | q
      · exact h.ins k v hv y q
      · rw [List.mem_singleton.mp q]
        exact hj
    · rw [if_neg c] at hy
      exact h.ins k v hv y hy
  · obtain ⟨k, v, hv, _, _, e3⟩ := mem w hw
    have nd := h.nd v (List.mem_of_getElem? hv)
    rw [e3]
    by_cases c : i = k
    · rw [if_pos c]
      rw [List.nodup_append]
      refine ⟨nd, by simp, fun a ha b hb e => ?_⟩
      apply h4
      rw [c, hv]
      show v.behind.contains j = true
      rw [List.contains_iff_mem, ← List.mem_singleton.mp hb, ← e]
      exact ha
    · rw [if_neg c]
      exact nd
  · refine ⟨fun y => r y + (if y = i ∨ leads x.wishes x.wishes.length y i = true then r j + 1 else 0), fun k w hw y hy => ?_⟩
    obtain ⟨v, hv, _, _, e3⟩ := beh k w hw
    rw [e3] at hy
    have nj : ¬ (j = i ∨ leads x.wishes x.wishes.length j i = true) := fun q => q.elim (fun e => hij e.symm) h6
    have old : y ∈ v.behind → r y + (if y = i ∨ leads x.wishes x.wishes.length y i = true then r j + 1 else 0) < r k + (if k = i ∨ leads x.wishes x.wishes.length k i = true then r j + 1 else 0) := fun hy => by
      have lt := R k v hv y hy
      by_cases c : y = i ∨ leads x.wishes x.wishes.length y i = true
      · have c2 : k = i ∨ leads x.wishes x.wishes.length k i = true := by
          refine .inr ?_
          rw [leads_turn h.ins R hv, List.any_eq_true]
          refine ⟨y, hy, ?_⟩
          rcases c with c | c
          · rw [c, beq_self_eq_true]; rfl
          · rw [c, Bool.or_true]
        rw [if_pos c, if_pos c2]
        omega
      · rw [if_neg c]
        omega
    by_cases c : i = k
    · rw [if_pos c] at hy
      rcases List.mem_append.mp hy with q | q
      · exact old q
      · show r y + _ < r k + _
        rw [List.mem_singleton.mp q, if_neg nj, if_pos (.inl c.symm)]
        omega
    · rw [if_neg c] at hy
      exact old hy

theorem st_table (x : Table) (n : Nat) : step x (.table n) = if n < 2 ∨ 8 < n then (x, [-1]) else (⟨n, 0, [], []⟩, [0]) := rfl
theorem st_wish (x : Table) (g d : Nat) : step x (.wish g d) = if x.n ≤ g ∨ x.n ≤ d then (x, [-1]) else if 6 ≤ x.wishes.length then (x, [-5]) else if x.wishes.any (fun w => w.guest == g && w.dish == d) = true then (x, [-4]) else
    (wished x g d, Uw77.ints [x.wishes.length, if (wished x g d).done.contains x.wishes.length = true then 1 else 0]) := rfl
theorem st_behind (x : Table) (i j : Nat) : step x (.behind i j) = if x.wishes.length ≤ i ∨ x.wishes.length ≤ j then (x, [-2]) else if i = j then (x, [-1]) else if x.done.contains i = true then (x, [-3]) else if (x.wishes[i]?).any (fun w => w.behind.contains j) = true then (x, [-4]) else if leads x.wishes x.wishes.length j i = true then (x, [-6]) else (put1 x i j, [0]) := rfl
theorem st_step (x : Table) (w : Nat) : step x (.step w) = if 1 < w then (x, [-1]) else (stepped x w, ((stepped x w).turn : Int) :: counted ((stepped x w).done.filter fun i => !x.done.contains i)) := rfl
theorem st_follow (x : Table) (n : Nat) : step x (.follow n) = if 100 < n then (x, [-1]) else (((Uw77.fewest x).2.2.take n).foldl stepped x, Uw77.ints [((Uw77.fewest x).2.2.take n).length, (undone (((Uw77.fewest x).2.2.take n).foldl stepped x)).length]) := rfl
theorem stepped_all_inv : ∀ (p : List Nat) {x : Table}, TInv x → TInv (p.foldl stepped x)
  | [], _, h => h
  | w :: p, _, h => stepped_all_inv p (stepped_inv h w)
theorem step_inv {x : Table} (h : TInv x) (c : Call) : TInv (step x c).1 := by
  cases c with
  | table n =>
    rw [st_table]
    by_cases e : n < 2 ∨ 8 < n
    · rw [if_pos e]; exact h
    · rw [if_neg e]; exact table_inv (by omega) (by omega)
  | wish g d =>
    rw [st_wish]
    by_cases e : x.n ≤ g ∨ x.n ≤ d
    · rw [if_pos e]; exact h
    · rw [if_neg e]
      by_cases e2 : 6 ≤ x.wishes.length
      · rw [if_pos e2]; exact h
      · rw [if_neg e2]
        by_cases e3 : x.wishes.any (fun w => w.guest == g && w.dish == d) = true
        · rw [if_pos e3]; exact h
        · rw [if_neg e3]; exact wished_inv h (by omega) (by omega) e2
  | behind i j =>
    rw [st_behind]
    by_cases e1 : x.wishes.length ≤ i ∨ x.wishes.length ≤ j
    · rw [if_pos e1]; exact h
    · rw [if_neg e1]
      by_cases e2 : i = j
      · rw [if_pos e2]; exact h
      · rw [if_neg e2]
        by_cases e3 : x.done.contains i = true
        · rw [if_pos e3]; exact h
        · rw [if_neg e3]
          by_cases e4 : (x.wishes[i]?).any (fun w => w.behind.contains j) = true
          · rw [if_pos e4]; exact h
          · rw [if_neg e4]
            by_cases e5 : leads x.wishes x.wishes.length j i = true
            · rw [if_pos e5]; exact h
            · rw [if_neg e5]; exact put1_inv h (by omega) e2 e4 e5
  | step w =>
    rw [st_step]
    by_cases e : 1 < w
    · rw [if_pos e]; exact h
    · rw [if_neg e]; exact stepped_inv h w
  | stands => exact h
  | open_ => exact h
  | soon i => exact h
  | fewest => exact h
  | least => exact h
  | follow n =>
    rw [st_follow]
    by_cases e : 100 < n
    · rw [if_pos e]; exact h
    · rw [if_neg e]
      exact stepped_all_inv _ h
end Ma
set_option maxRecDepth 100000
set_option maxHeartbeats 4000000
namespace Ma
open Uw77

noncomputable def arity (p : Int) : Nat := if p = 0 then 1 else if p = 1 then 2 else if p = 2 then 2 else if p = 3 then 1 else if p = 6 then 1 else if p = 9 then 1 else 0
theorem shape_ar {p : Int} {s : Nat × Nat} (h : PyUw77.shape p = some s) : s = (arity p, 0) ∧ 0 ≤ p ∧ p ≤ 9 := by
  unfold PyUw77.shape at h
  unfold arity
  by_cases h0 : p = 0
  · subst h0; simp at h; exact ⟨h.symm, by decide, by decide⟩
  by_cases h1 : p = 1
  · subst h1; simp at h; exact ⟨h.symm, by decide, by decide⟩
  by_cases h2 : p = 2
  · subst h2; simp at h; exact ⟨h.symm, by decide, by decide⟩
  by_cases h3 : p = 3
  · subst h3; simp at h; exact ⟨h.symm, by decide, by decide⟩
  by_cases h4 : p = 4
  · subst h4; simp at h; exact ⟨h.symm, by decide, by decide⟩
  by_cases h5 : p = 5
  · subst h5; simp at h; exact ⟨h.symm, by decide, by decide⟩
  by_cases h6 : p = 6
  · subst h6; simp at h; exact ⟨h.symm, by decide, by decide⟩
  by_cases h7 : p = 7
  · subst h7; simp at h; exact ⟨h.symm, by decide, by decide⟩
  by_cases h8 : p = 8
  · subst h8; simp at h; exact ⟨h.symm, by decide, by decide⟩
  by_cases h9 : p = 9
  · subst h9; simp at h; exact ⟨h.symm, by decide, by decide⟩
  · rw [if_neg h0, if_neg h1, if_neg h2, if_neg h3, if_neg h4, if_neg h5, if_neg h6, if_neg h7, if_neg h8, if_neg h9] at h
    cases h
inductive Calls : List Int → List (List Int) → Prop
  | nil : Calls [] []
  | cons {p : Int} {r : List Int} {cs : List (List Int)} (h0 : 0 ≤ p) (h9 : p ≤ 9) (hl : arity p ≤ r.length) (t : Calls (r.drop (arity p)) cs) : Calls (p :: r) ((p :: r.take (arity p)) :: cs)
theorem calls_of : ∀ (f : Nat) (l : List Int) (raw : List (List (List Int))), PyFlat.calls PyUw77.shape f l = some raw → ∃ cs, Calls l cs ∧ raw = cs.map fun c => [c]
  | f, [], raw, h => by
    have e : some ([] : List (List (List Int))) = some raw := by
      cases f <;> exact h
    cases e
    exact ⟨[], .nil, rfl⟩
  | 0, _ :: _, _, h => by cases h
  | f + 1, p :: r, raw, h => by
    unfold PyFlat.calls at h
    unfold PyFlat.call at h
    cases e : PyUw77.shape p with
    | none => simp only [e] at h; cases h
    | some s =>
      obtain ⟨e1, h0, h9⟩ := shape_ar e
      subst e1
      simp only [e] at h
      by_cases l : r.length < arity p
      · rw [if_pos l] at h; cases h
      · rw [if_neg l] at h
        simp only [PyFlat.rows] at h
        cases q : PyFlat.calls PyUw77.shape f (r.drop (arity p)) with
        | none => simp only [q] at h; cases h
        | some raw' =>
          simp only [q] at h
          obtain ⟨cs, hc, er⟩ := calls_of f _ raw' q
          refine ⟨(p :: r.take (arity p)) :: cs, .cons h0 h9 (by omega) hc, ?_⟩
          rw [← Option.some.inj h, er]
          rfl
theorem Calls.head {l : List Int} {cs : List (List Int)} (h : Calls l cs) : ∀ c ∈ cs, ∃ p xs, c = p :: xs ∧ 0 ≤ p ∧ p ≤ 9 ∧ xs.length = arity p ∧ ∀ x ∈ c, x ∈ l := by
  induction h with
  | nil => intro c hc; cases hc
  | @cons p r cs h0 h9 hl t ih =>
    intro c hc
    rcases List.mem_cons.mp hc with e | hc
    · subst e
      refine ⟨p, _, rfl, h0, h9, by rw [List.length_take]; omega, fun x hx => ?_⟩
      rcases List.mem_cons.mp hx with e | hx
      · rw [e]; exact List.mem_cons_self
      · exact List.mem_cons_of_mem _ (List.mem_of_mem_take hx)
    · obtain ⟨q, xs, e, a, b, c', d⟩ := ih c hc
      exact ⟨q, xs, e, a, b, c', fun x hx => List.mem_cons_of_mem _ (List.mem_of_mem_drop (d x hx))⟩
theorem whole_one {p : Int} {xs : List Int} (h0 : 0 ≤ p) (h9 : p ≤ 9) (hl : xs.length = arity p) : PyUw77.whole [p :: xs] = [p :: xs] := by
  have : p = 0 ∨ p = 1 ∨ p = 2 ∨ p = 3 ∨ p = 4 ∨ p = 5 ∨ p = 6 ∨ p = 7 ∨ p = 8 ∨ p = 9 := by omega
  rcases this with rfl | rfl | rfl | rfl | rfl | rfl | rfl | rfl | rfl | rfl
  · match xs, hl with | [_], _ => rfl
  · match xs, hl with | [_, _], _ => rfl
  · match xs, hl with | [_, _], _ => rfl
  · match xs, hl with | [_], _ => rfl
  · match xs, hl with | [], _ => rfl
  · match xs, hl with | [], _ => rfl
  · match xs, hl with | [_], _ => rfl
  · match xs, hl with | [], _ => rfl
  · match xs, hl with | [], _ => rfl
  · match xs, hl with | [_], _ => rfl
noncomputable def outp : Table → List (List Int) → List Int
  | _, [] => []
  | x, c :: cs => ((Uw77Neutral.step x c).2.length : Int) :: ((Uw77Neutral.step x c).2 ++ outp (Uw77Neutral.step x c).1 cs)
theorem told_outp : ∀ (cs : List (List Int)) (x : Table), PyFlat.told (PyFlat.played (fun s c => Uw77Neutral.step s (c.headD [])) x (cs.map fun c => [c])) = outp x cs
  | [], _ => rfl
  | c :: cs, x => by
    have ih := told_outp cs (Uw77Neutral.step x c).1
    show (((Uw77Neutral.step x c).2.length : Int) :: (Uw77Neutral.step x c).2) ++ PyFlat.told (PyFlat.played (fun s c => Uw77Neutral.step s (c.headD [])) (Uw77Neutral.step x c).1 (cs.map fun c => [c])) = _
    rw [ih]
    rfl
theorem asked_calls {l : List Int} (h : PyUw77.answers_asked l = true) : ∃ cs, Calls l cs ∧ PyUw77.answers l = outp init cs ∧ (outp init cs).length ≤ 10000000 := by
  unfold PyUw77.answers_asked at h
  cases e : PyFlat.calls PyUw77.shape l.length l with
  | none => simp only [e] at h; cases h
  | some raw =>
    simp only [e] at h
    obtain ⟨cs, hc, er⟩ := calls_of _ _ _ e
    have a : PyUw77.answers l = outp init cs := by
      unfold PyUw77.answers PyUw77.calls
      simp only [e]
      rw [er, List.map_map]
      have w : cs.map (PyUw77.whole ∘ fun c => [c]) = cs.map fun c => [c] := List.map_congr_left fun c hcm => by
        obtain ⟨p, xs, ec, h0, h9, hl, _⟩ := hc.head c hcm
        show PyUw77.whole [c] = [c]
        rw [ec]
        exact whole_one h0 h9 hl
      rw [w]
      exact told_outp cs init
    refine ⟨cs, hc, a, ?_⟩
    rw [← a]
    rw [Bool.and_eq_true] at h
    exact of_decide_eq_true h.2
theorem step_of {x : Table} {c : List Int} {k : Call} (hn : ∀ z ∈ c, 0 ≤ z ∧ z ≤ 4294967295) (hk : Uw77Neutral.callIn (c.map Int.toNat) = some k) : Uw77Neutral.step x c = Uw77.step x k := by
  have e : Uw77Neutral.callOf c = some k := by
    unfold Uw77Neutral.callOf
    rw [if_neg, hk]
    rw [Bool.not_eq_false, List.all_eq_true]
    intro z hz
    have := hn z hz
    unfold Uw77Neutral.nat
    rw [Bool.and_eq_true, decide_eq_true_eq, decide_eq_true_eq]
    exact ⟨this.1, by omega⟩
  unfold Uw77Neutral.step
  rw [e]
  rfl
end Ma
set_option maxRecDepth 100000
set_option maxHeartbeats 4000000
namespace Ma
open Uw77

noncomputable def has (now : List Bool) (j : Nat) : Bool := now.getD j false
noncomputable def pass1 (n : Nat) (ws : List Wish) (t : Nat) (now : List Bool) (i : Nat) : List Bool := if canP n ws t (has now) i = true then now.set i true else now
noncomputable def passN (n : Nat) (ws : List Wish) (t : Nat) (now : List Bool) : List Bool := (List.range ws.length).foldl (pass1 n ws t) now
noncomputable def settle (n : Nat) (ws : List Wish) (t : Nat) : Nat → List Bool → List Bool
  | 0, now => now
  | f + 1, now => passN n ws t (settle n ws t f now)
noncomputable def trues : List Bool → Nat
  | [] => 0
  | b :: l => (if b = true then 1 else 0) + trues l
theorem trues_le : ∀ l : List Bool, trues l ≤ l.length
  | [] => Nat.le_refl 0
  | b :: l => by
    have := trues_le l
    show (if b = true then 1 else 0) + trues l ≤ l.length + 1
    split <;> omega
theorem trues_all : ∀ {l : List Bool}, l.length ≤ trues l → ∀ i, i < l.length → has l i = true
  | [], _, i, hi => by simp at hi
  | b :: l, h, i, hi => by
    have h : l.length + 1 ≤ (if b = true then 1 else 0) + trues l := h
    have le := trues_le l
    cases b with
    | false => simp at h; omega
    | true =>
      simp at h
      cases i with
      | zero => rfl
      | succ i => exact trues_all (l := l) (by omega) i (by simpa using hi)
theorem trues_set : ∀ {l : List Bool} {i : Nat}, l.set i true = l ∨ trues l < trues (l.set i true)
  | [], _ => .inl rfl
  | b :: l, 0 => by
    cases b with
    | true => exact .inl rfl
    | false =>
      refine .inr ?_
      show 0 + trues l < 1 + trues l
      omega
  | b :: l, i + 1 => by
    rcases trues_set (l := l) (i := i) with e | e
    · exact .inl (by show b :: l.set i true = b :: l; rw [e])
    · refine .inr ?_
      show (if b = true then 1 else 0) + trues l < (if b = true then 1 else 0) + trues (l.set i true)
      omega
theorem has_set {l : List Bool} {i j : Nat} : has (l.set i true) j = (has l j || (decide (i = j) && decide (j < l.length))) := by
  unfold has
  rw [List.getD_eq_getElem?_getD, List.getD_eq_getElem?_getD, List.getElem?_set]
  by_cases e : i = j
  · subst e
    by_cases h : i < l.length
    · simp [h]
    · simp [h]
  · simp [e]
section
variable {n : Nat} {ws : List Wish} {t : Nat}
theorem pass1_len (now : List Bool) (i : Nat) : (pass1 n ws t now i).length = now.length := by
  unfold pass1
  split
  · rw [List.length_set]
  · rfl
theorem pass1_more (now : List Bool) (i : Nat) : pass1 n ws t now i = now ∨ trues now < trues (pass1 n ws t now i) := by
  unfold pass1
  split
  · exact trues_set
  · exact .inl rfl
theorem pass1_sub {now : List Bool} {i j : Nat} (h : has now j = true) : has (pass1 n ws t now i) j = true := by
  unfold pass1
  split
  · rw [has_set, h]; rfl
  · exact h
theorem pass1_least {Y : Nat → Bool} (hin : Inside ws) (cl : Closed n ws t Y) {now : List Bool} {i : Nat} (hi : i < ws.length) (h : ∀ j, j < ws.length → has now j = true → Y j = true) : ∀ j, j < ws.length → has (pass1 n ws t now i) j = true → Y j = true := fun j hj q => by
  unfold pass1 at q
  split at q
  · rename_i c
    rw [has_set, Bool.or_eq_true] at q
    rcases q with q | q
    · exact h j hj q
    · rw [Bool.and_eq_true, decide_eq_true_eq] at q
      rw [← q.1]
      exact cl i hi (canP_mono (fun w hw k hk hk1 => h k (hin i w hw k hk) hk1) c)
  · exact h j hj q
theorem fold_len : ∀ (l : List Nat) (now : List Bool), (l.foldl (pass1 n ws t) now).length = now.length
  | [], _ => rfl
  | i :: l, now => (fold_len l _).trans (pass1_len now i)
theorem fold_trues : ∀ (l : List Nat) (now : List Bool), trues now ≤ trues (l.foldl (pass1 n ws t) now)
  | [], _ => Nat.le_refl _
  | i :: l, now => by
    have h1 : trues now ≤ trues (pass1 n ws t now i) := by
      rcases pass1_more (n := n) (ws := ws) (t := t) now i with e | e
      · rw [e]; exact Nat.le_refl _
      · exact Nat.le_of_lt e
    exact Nat.le_trans h1 (fold_trues l _)
theorem fold_same : ∀ (l : List Nat) (now : List Bool), trues (l.foldl (pass1 n ws t) now) = trues now → l.foldl (pass1 n ws t) now = now ∧ ∀ i ∈ l, pass1 n ws t now i = now
  | [], _, _ => ⟨rfl, fun _ h => (nomatch h)⟩
  | i :: l, now, h => by
    have h2 := fold_trues (n := n) (ws := ws) (t := t) l (pass1 n ws t now i)
    have h3 : trues (l.foldl (pass1 n ws t) (pass1 n ws t now i)) = trues now := h
    rcases pass1_more (n := n) (ws := ws) (t := t) now i with e | e
    · have ih := fold_same l (pass1 n ws t now i) (by rw [h3, e])
      rw [e] at ih
      refine ⟨by show l.foldl (pass1 n ws t) (pass1 n ws t now i) = now; rw [e]; exact ih.1, fun j hj => ?_⟩
      rcases List.mem_cons.mp hj with q | q
      · rw [q]; exact e
      · exact ih.2 j q
    · omega
theorem fold_sub : ∀ (l : List Nat) {now : List Bool} {j : Nat}, has now j = true → has (l.foldl (pass1 n ws t) now) j = true
  | [], _, _, h => h
  | _ :: l, _, _, h => fold_sub l (pass1_sub h)
theorem fold_least {Y : Nat → Bool} (hin : Inside ws) (cl : Closed n ws t Y) : ∀ (l : List Nat) {now : List Bool}, (∀ i ∈ l, i < ws.length) → (∀ j, j < ws.length → has now j = true → Y j = true) → ∀ j, j < ws.length → has (l.foldl (pass1 n ws t) now) j = true → Y j = true
  | [], _, _, h => h
  | i :: l, _, hl, h => fold_least hin cl l (fun k hk => hl k (by simp [hk])) (pass1_least hin cl (hl i (by simp)) h)
theorem settle_len (now : List Bool) : ∀ f, (settle n ws t f now).length = now.length
  | 0 => rfl
  | f + 1 => (fold_len _ _).trans (settle_len now f)
theorem settle_sub {now : List Bool} {j : Nat} (h : has now j = true) : ∀ f, has (settle n ws t f now) j = true
  | 0 => h
  | f + 1 => fold_sub _ (settle_sub h f)
theorem settle_least {Y : Nat → Bool} (hin : Inside ws) (cl : Closed n ws t Y) {now : List Bool} (h : ∀ j, j < ws.length → has now j = true → Y j = true) : ∀ f, ∀ j, j < ws.length → has (settle n ws t f now) j = true → Y j = true
  | 0 => h
  | f + 1 => fold_least hin cl _ (fun _ hi => List.mem_range.mp hi) (settle_least hin cl h f)
theorem settle_more (now : List Bool) : ∀ f, passN n ws t (settle n ws t f now) = settle n ws t f now ∨ f ≤ trues (settle n ws t f now)
  | 0 => .inr (Nat.zero_le _)
  | f + 1 => by
    show passN n ws t (passN n ws t (settle n ws t f now)) = passN n ws t (settle n ws t f now) ∨ f + 1 ≤ trues (passN n ws t (settle n ws t f now))
    rcases settle_more now f with e | e
    · refine .inl ?_
      rw [e, e]
    · have h1 : trues (settle n ws t f now) ≤ trues (passN n ws t (settle n ws t f now)) := fold_trues _ _
      by_cases c : trues (passN n ws t (settle n ws t f now)) = trues (settle n ws t f now)
      · refine .inl ?_
        have q : passN n ws t (settle n ws t f now) = settle n ws t f now := (fold_same _ _ c).1
        rw [q, q]
      · exact .inr (by omega)
theorem settle_closed {now : List Bool} (hl : now.length = ws.length) : Closed n ws t (has (settle n ws t ws.length now)) := fun i hi c => by
  have len := settle_len (n := n) (ws := ws) (t := t) now ws.length
  rcases settle_more (n := n) (ws := ws) (t := t) now ws.length with e | e
  · have q := (fold_same (n := n) (ws := ws) (t := t) (List.range ws.length) (settle n ws t ws.length now) (by
      show trues (passN n ws t (settle n ws t ws.length now)) = _
      rw [e])).2 i (List.mem_range.mpr hi)
    unfold pass1 at q
    rw [if_pos c] at q
    rw [← q, has_set, decide_eq_true rfl, len, hl, decide_eq_true hi]
    simp
  · exact trues_all (by rw [len, hl]; exact e) i (by rw [len, hl]; exact hi)
noncomputable def bits (k m : Nat) : List Bool := (List.range k).map (isIn m)
theorem bits_len (k m : Nat) : (bits k m).length = k := by unfold bits; rw [List.length_map, List.length_range]
theorem has_bits {k m i : Nat} (h : i < k) : has (bits k m) i = isIn m i := by
  unfold has bits
  rw [List.getD_eq_getElem?_getD, List.getElem?_map, List.getElem?_range h]
  rfl
theorem bits_of {k m : Nat} {l : List Bool} (hl : l.length = k) (h : ∀ i, i < k → has l i = isIn m i) : l = bits k m := by
  refine List.ext_getElem? fun i => ?_
  by_cases c : i < k
  · have h1 := h i c
    have e1 : l[i]? = some (has l i) := by
      unfold has
      rw [List.getD_eq_getElem?_getD, List.getElem?_eq_getElem (by omega)]
      rfl
    have e2 : (bits k m)[i]? = some (isIn m i) := by
      unfold bits
      rw [List.getElem?_map, List.getElem?_range c]
      rfl
    rw [e1, e2, h1]
  · rw [List.getElem?_eq_none (by omega), List.getElem?_eq_none (by rw [bits_len]; omega)]
theorem settle_serve (hk : ws.length ≤ 6) (hin : Inside ws) {m : Nat} (hm : m < 2 ^ ws.length) : settle n ws t ws.length (bits ws.length m) = bits ws.length (serve n ws t m) := by
  refine bits_of (by rw [settle_len, bits_len]) fun i hi => ?_
  refine (serve_unique hk hin hm (X := has (settle n ws t ws.length (bits ws.length m))) (fun j hj h => ?_) (settle_closed (bits_len _ _)) (fun Y h cl j hj q => ?_) i hi).symm
  · refine settle_sub ?_ _
    rw [has_bits hj]
    exact h
  · refine settle_least hin cl (fun k hk' hk1 => h k hk' ?_) _ j hj q
    rw [has_bits hk'] at hk1
    exact hk1
end
theorem meets_iff0 : ∀ n : Nat, n < 9 → ∀ g : Nat, g < n → ∀ d : Nat, d < n → ∀ t : Nat, t < n → ((d + t) % n == g) = ((g + n - d % n) % n == t) := by decide +kernel
theorem meets_iff {n : Nat} {w : Wish} {t : Nat} (h8 : n ≤ 8) (hg : w.guest < n) (hd : w.dish < n) (ht : t < n) : ((w.dish + t) % n == w.guest) = (meets n w == t) := meets_iff0 n (by omega) w.guest hg w.dish hd t ht
end Ma
set_option linter.all false
namespace Ma
open Uw77
noncomputable def lexN : List Nat → List Nat → Bool
  | [], [] => false
  | [], _ :: _ => true
  | _ :: _, [] => false
  | x :: xs, y :: ys => if x = y then lexN xs ys else decide (x < y)
theorem lexN_trans : ∀ {a b c : List Nat}, lexN b a = false → lexN c b = false → lexN c a = false
  | [], [], c, _, h => h
  | [], _ :: _, [], _, _ => rfl
  | [], _ :: _, _ :: _, _, _ => rfl
  | _ :: _, [], _, h, _ => by simp [lexN] at h
  | _ :: _, _ :: _, [], _, h => by simp [lexN] at h
  | x :: xs, y :: ys, z :: zs, h1, h2 => by
    unfold lexN at h1 h2 ⊢
    by_cases e1 : y = x
    · subst e1
      rw [if_pos rfl] at h1
      by_cases e2 : z = y
      · rw [if_pos e2] at h2 ⊢
        exact lexN_trans h1 h2
      · rw [if_neg e2] at h2 ⊢
        exact h2
    · rw [if_neg e1] at h1
      by_cases e2 : z = y
      · subst e2
        rw [if_neg e1]; exact h1
      · rw [if_neg e2] at h2
        have h1 := of_decide_eq_false h1
        have h2 := of_decide_eq_false h2
        rw [if_neg (by omega)]
        exact decide_eq_false (by omega)
theorem lexN_anti : ∀ {a b : List Nat}, lexN a b = false → lexN b a = false → a = b
  | [], [], _, _ => rfl
  | [], _ :: _, h, _ => by simp [lexN] at h
  | _ :: _, [], _, h => by simp [lexN] at h
  | x :: xs, y :: ys, h1, h2 => by
    unfold lexN at h1 h2
    by_cases e : x = y
    · subst e
      rw [if_pos rfl] at h1 h2
      rw [lexN_anti h1 h2]
    · rw [if_neg e] at h1
      rw [if_neg (fun q => e q.symm)] at h2
      have h1 := of_decide_eq_false h1
      have h2 := of_decide_eq_false h2
      omega
theorem lexN_refl : ∀ a : List Nat, lexN a a = false
  | [] => rfl
  | x :: xs => by unfold lexN; rw [if_pos rfl]; exact lexN_refl xs
theorem lexN_total {a b : List Nat} : lexN a b = true → lexN b a = false := by
  intro h
  induction a generalizing b with
  | nil => cases b with
    | nil => rfl
    | cons y ys => rfl
  | cons x xs ih => cases b with
    | nil => simp [lexN] at h
    | cons y ys =>
      unfold lexN at h ⊢
      by_cases e : x = y
      · rw [if_pos e] at h; rw [if_pos e.symm]; exact ih h
      · rw [if_neg e] at h; rw [if_neg (fun q => e q.symm)]
        have h := of_decide_eq_true h
        exact decide_eq_false (by omega)
theorem lexN_snoc {w : Nat} : ∀ {a b : List Nat}, a.length = b.length → lexN b a = false → lexN (b ++ [w]) (a ++ [w]) = false
  | [], [], _, _ => by show lexN [w] [w] = false; exact lexN_refl _
  | [], _ :: _, h, _ => by simp at h
  | _ :: _, [], h, _ => by simp at h
  | x :: xs, y :: ys, h, h2 => by
    show lexN (y :: (ys ++ [w])) (x :: (xs ++ [w])) = false
    unfold lexN at h2 ⊢
    by_cases e : y = x
    · rw [if_pos e] at h2 ⊢
      exact lexN_snoc (by simpa using h) h2
    · rw [if_neg e] at h2 ⊢
      exact h2
noncomputable abbrev Row := Nat × List Nat
noncomputable def Bin (p : List Nat) : Prop := ∀ w ∈ p, w = 0 ∨ w = 1
structure IsMin (m : List Nat) (l : List (List Nat)) : Prop where
  mem : m ∈ l
  le : ∀ q ∈ l, lexN q m = false
noncomputable def addR (F : List (Stand × List Row)) (u : Stand) (r : Row) : List (Stand × List Row) :=
  if u ∈ F.map (·.1) then F.map (fun e => if e.1 = u then (e.1, e.2 ++ [r]) else e) else F ++ [(u, [r])]
theorem addR_keys_old {F : List (Stand × List Row)} {u : Stand} {r : Row} (h : u ∈ F.map (·.1)) : (addR F u r).map (·.1) = F.map (·.1) := by
  unfold addR
  rw [if_pos h, List.map_map]
  refine List.map_congr_left fun e _ => ?_
  show (if e.1 = u then (e.1, e.2 ++ [r]) else e).1 = e.1
  split <;> rfl
structure Grp (F : List (Stand × List Row)) (T : List (Stand × Row)) : Prop where
  nd : (F.map (·.1)).Nodup
  rows : ∀ e ∈ F, e.2 = (T.filter fun t => t.1 = e.1).map (·.2)
  all : ∀ t ∈ T, t.1 ∈ F.map (·.1)
  use : ∀ e ∈ F, ∃ t ∈ T, t.1 = e.1
theorem Grp.nil : Grp [] [] := ⟨List.nodup_nil, fun _ h => (nomatch h), fun _ h => (nomatch h), fun _ h => (nomatch h)⟩
theorem Grp.add {F : List (Stand × List Row)} {T : List (Stand × Row)} (g : Grp F T) (u : Stand) (r : Row) : Grp (addR F u r) (T ++ [(u, r)]) := by
  by_cases h : u ∈ F.map (·.1)
  · refine ⟨by rw [addR_keys_old h]; exact g.nd, fun e he => ?_, fun t ht => ?_, fun e he => ?_⟩
    · unfold addR at he
      rw [if_pos h] at he
      obtain ⟨f, hf, rfl⟩ := List.mem_map.mp he
      rw [List.filter_append, List.map_append]
      by_cases q : f.1 = u
      · rw [if_pos q]
        show f.2 ++ [r] = _
        rw [← g.rows f hf]
        congr 1
        simp [q]
      · rw [if_neg q]
        rw [← g.rows f hf]
        simp [show ¬ u = f.1 from fun z => q z.symm]
    · rw [addR_keys_old h]
      rcases List.mem_append.mp ht with ht | ht
      · exact g.all t ht
      · obtain rfl : t = (u, r) := by simpa using ht
        exact h
    · have hk : e.1 ∈ F.map (·.1) := by rw [← addR_keys_old (r := r) h]; exact List.mem_map.mpr ⟨e, he, rfl⟩
      obtain ⟨f, hf, ef⟩ := List.mem_map.mp hk
      obtain ⟨t, ht, et⟩ := g.use f hf
      exact ⟨t, List.mem_append_left _ ht, by rw [et, ef]⟩
  · have e0 : addR F u r = F ++ [(u, [r])] := by unfold addR; rw [if_neg h]
    rw [e0]
    have nT : T.filter (fun t => decide (t.1 = u)) = [] := List.filter_eq_nil_iff.mpr fun t ht q => h (by rw [← of_decide_eq_true q]; exact g.all t ht)
    refine ⟨?_, fun e he => ?_, fun t ht => ?_, fun e he => ?_⟩
    · rw [List.map_append]
      exact List.nodup_append.mpr ⟨g.nd, by simp, fun x hx y hy z => h (by have hy' : y = u := (by simpa using hy); rw [← hy', ← z]; exact hx)⟩
    · rcases List.mem_append.mp he with he | he
      · rw [List.filter_append, List.map_append, ← g.rows e he]
        have : ¬ u = e.1 := fun z => h (by rw [z]; exact List.mem_map.mpr ⟨e, he, rfl⟩)
        simp [this]
      · obtain rfl : e = (u, [r]) := by simpa using he
        rw [List.filter_append, nT]
        simp
    · rw [List.map_append]
      rcases List.mem_append.mp ht with ht | ht
      · exact List.mem_append_left _ (g.all t ht)
      · obtain rfl : t = (u, r) := by simpa using ht
        exact List.mem_append_right _ (by simp)
    · rcases List.mem_append.mp he with he | he
      · obtain ⟨t, ht, et⟩ := g.use e he
        exact ⟨t, List.mem_append_left _ ht, et⟩
      · obtain rfl : e = (u, [r]) := by simpa using he
        exact ⟨(u, r), List.mem_append_right _ (by simp), rfl⟩
noncomputable def many (rs : List Row) : Nat := (rs.map (·.1)).sum
noncomputable def totF (g : Stand → Nat) (F : List (Stand × List Row)) : Nat := (F.map fun e => many e.2 * g e.1).sum
theorem totF_old (g : Stand → Nat) (u : Stand) (r : Row) : ∀ F : List (Stand × List Row), (F.map (·.1)).Nodup → u ∈ F.map (·.1) → totF g (F.map fun e => if e.1 = u then (e.1, e.2 ++ [r]) else e) = totF g F + r.1 * g u
  | [], _, h => by simp at h
  | e :: F, nd, h => by
    rw [List.map_cons, List.nodup_cons] at nd
    by_cases q : e.1 = u
    · have same : F.map (fun e => if e.1 = u then (e.1, e.2 ++ [r]) else e) = F := by
        conv => rhs; rw [← List.map_id F]
        refine List.map_congr_left fun f hf => ?_
        rw [if_neg (fun z => nd.1 (by rw [q, ← z]; exact List.mem_map.mpr ⟨f, hf, rfl⟩))]; rfl
      rw [List.map_cons, if_pos q, same]
      show many (e.2 ++ [r]) * g e.1 + totF g F = many e.2 * g e.1 + totF g F + r.1 * g u
      have : many (e.2 ++ [r]) = many e.2 + r.1 := by simp [many]
      rw [this, Nat.add_mul, q]
      omega
    · rw [List.map_cons, if_neg q]
      have h' : u ∈ F.map (·.1) := by
        rcases List.mem_cons.mp h with z | z
        · exact absurd z.symm q
        · exact z
      have ih := totF_old g u r F nd.2 h'
      show many e.2 * g e.1 + totF g _ = many e.2 * g e.1 + totF g F + r.1 * g u
      rw [ih]; omega
theorem totF_add {F : List (Stand × List Row)} {T : List (Stand × Row)} (g : Stand → Nat) (G : Grp F T) (u : Stand) (r : Row) : totF g (addR F u r) = totF g F + r.1 * g u := by
  by_cases h : u ∈ F.map (·.1)
  · unfold addR
    rw [if_pos h]
    exact totF_old g u r F G.nd h
  · unfold addR
    rw [if_neg h]
    unfold totF
    rw [List.map_append, List.sum_append]
    simp [many]
noncomputable def way1 (n : Nat) (ws : List Wish) (S : List Stand) (F : List (Stand × List Row)) (e : Stand × Row) (w : Nat) : List (Stand × List Row) :=
  if after n ws e.1 w ∈ S then F else addR F (after n ws e.1 w) (e.2.1, e.2.2 ++ [w])
noncomputable def ways2 (n : Nat) (ws : List Wish) (S : List Stand) (F : List (Stand × List Row)) (e : Stand × Row) : List (Stand × List Row) := way1 n ws S (way1 n ws S F e 0) e 1
noncomputable def waysOn (n : Nat) (ws : List Wish) (S : List Stand) (L : List (Stand × Row)) : List (Stand × List Row) := L.foldl (ways2 n ws S) []
structure WInv (n : Nat) (ws : List Wish) (S : List Stand) (D : List ((Stand × Row) × Nat)) (F : List (Stand × List Row)) : Prop where
  ex : ∃ T, Grp F T ∧ (∀ t ∈ T, t.1 ∉ S ∧ ∃ d ∈ D, t = (after n ws d.1.1 d.2, (d.1.2.1, d.1.2.2 ++ [d.2]))) ∧ (∀ d ∈ D, after n ws d.1.1 d.2 ∉ S → (after n ws d.1.1 d.2, (d.1.2.1, d.1.2.2 ++ [d.2])) ∈ T)
  tot : ∀ g : Stand → Nat, (∀ u ∈ S, g u = 0) → totF g F = (D.map fun d => d.1.2.1 * g (after n ws d.1.1 d.2)).sum
theorem WInv.nil {n : Nat} {ws : List Wish} {S : List Stand} : WInv n ws S [] [] :=
  ⟨⟨[], Grp.nil, fun _ h => (nomatch h), fun _ h => (nomatch h)⟩, fun _ _ => rfl⟩
theorem WInv.step {n : Nat} {ws : List Wish} {S : List Stand} {D : List ((Stand × Row) × Nat)} {F : List (Stand × List Row)} (x : WInv n ws S D F) (e : Stand × Row) (w : Nat) : WInv n ws S (D ++ [(e, w)]) (way1 n ws S F e w) := by
  obtain ⟨⟨T, G, h1, h2⟩, ht⟩ := x
  unfold way1
  by_cases c : after n ws e.1 w ∈ S
  · rw [if_pos c]
    refine ⟨⟨T, G, fun t hT => ⟨(h1 t hT).1, ?_⟩, fun d hd => ?_⟩, fun g hg => ?_⟩
    · obtain ⟨d, hd, q⟩ := (h1 t hT).2
      exact ⟨d, List.mem_append_left _ hd, q⟩
    · rcases List.mem_append.mp hd with hd | hd
      · exact h2 d hd
      · obtain rfl : d = (e, w) := by simpa using hd
        exact fun q => absurd c q
    · rw [List.map_append, List.sum_append, ht g hg]
      simp [hg _ c]
  · rw [if_neg c]
    refine ⟨⟨_, G.add _ _, fun t hT => ?_, fun d hd => ?_⟩, fun g hg => ?_⟩
    · rcases List.mem_append.mp hT with hT | hT
      · obtain ⟨q0, d, hd, q⟩ := h1 t hT
        exact ⟨q0, d, List.mem_append_left _ hd, q⟩
      · obtain rfl : t = _ := by simpa using hT
        exact ⟨c, (e, w), List.mem_append_right _ (by simp), rfl⟩
    · rcases List.mem_append.mp hd with hd | hd
      · exact fun q => List.mem_append_left _ (h2 d hd q)
      · obtain rfl : d = (e, w) := by simpa using hd
        exact fun _ => List.mem_append_right _ (by simp)
    · rw [totF_add g G, List.map_append, List.sum_append, ht g hg]
      simp
noncomputable def pairs (L : List (Stand × Row)) : List ((Stand × Row) × Nat) := L.flatMap fun e => [(e, 0), (e, 1)]
theorem ways_inv {n : Nat} {ws : List Wish} {S : List Stand} : ∀ (L : List (Stand × Row)) (D : List ((Stand × Row) × Nat)) (F : List (Stand × List Row)), WInv n ws S D F → WInv n ws S (D ++ pairs L) (L.foldl (ways2 n ws S) F)
  | [], D, F, x => by simpa [pairs] using x
  | e :: L, D, F, x => by
    have h := ways_inv L (D ++ [(e, 0)] ++ [(e, 1)]) (ways2 n ws S F e) ((x.step e 0).step e 1)
    have eq : D ++ [(e, 0)] ++ [(e, 1)] ++ pairs L = D ++ pairs (e :: L) := by simp [pairs]
    rw [eq] at h
    exact h
theorem mem_pairs {L : List (Stand × Row)} {d : (Stand × Row) × Nat} : d ∈ pairs L ↔ d.1 ∈ L ∧ (d.2 = 0 ∨ d.2 = 1) := by
  unfold pairs
  rw [List.mem_flatMap]
  constructor
  · rintro ⟨e, he, h⟩
    have h : d = (e, 0) ∨ d = (e, 1) := by simpa using h
    rcases h with rfl | rfl
    · exact ⟨he, .inl rfl⟩
    · exact ⟨he, .inr rfl⟩
  · rintro ⟨h1, h2⟩
    obtain ⟨e, w⟩ := d
    refine ⟨e, h1, ?_⟩
    rcases h2 with h | h
    · have : w = 0 := h
      rw [this]; simp
    · have : w = 1 := h
      rw [this]; simp
noncomputable def Tog (F : List (Stand × List Row)) (L : List (Stand × Row)) : Prop := L.length = F.length ∧ ∀ (i : Nat) (f : Stand × List Row) (e : Stand × Row), F[i]? = some f → L[i]? = some e → e.1 = f.1 ∧ e.2.1 = many f.2 ∧ IsMin e.2.2 (f.2.map (·.2))
theorem Tog.keys {F : List (Stand × List Row)} {L : List (Stand × Row)} (t : Tog F L) : L.map (·.1) = F.map (·.1) := by
  refine List.ext_getElem? fun i => ?_
  rw [List.getElem?_map, List.getElem?_map]
  by_cases h : i < F.length
  · have h' : i < L.length := by rw [t.1]; exact h
    rw [List.getElem?_eq_getElem h, List.getElem?_eq_getElem h']
    exact congrArg some (t.2 i _ _ (List.getElem?_eq_getElem h) (List.getElem?_eq_getElem h')).1
  · have h1 := t.1
    rw [List.getElem?_eq_none (show F.length ≤ i by omega), List.getElem?_eq_none (show L.length ≤ i by omega)]
    rfl
theorem Tog.mem {F : List (Stand × List Row)} {L : List (Stand × Row)} (t : Tog F L) {e : Stand × Row} (h : e ∈ L) : ∃ f ∈ F, e.1 = f.1 ∧ e.2.1 = many f.2 ∧ IsMin e.2.2 (f.2.map (·.2)) := by
  obtain ⟨i, hi⟩ := List.getElem?_of_mem h
  have h1 : i < F.length := by rw [← t.1]; exact (List.getElem?_eq_some_iff.mp hi).1
  exact ⟨F[i], List.getElem_mem h1, t.2 i _ _ (List.getElem?_eq_getElem h1) hi⟩
theorem Tog.total {g : Stand → Nat} {F : List (Stand × List Row)} {L : List (Stand × Row)} (t : Tog F L) : total g (L.map fun e => (e.1, e.2.1)) = totF g F := by
  unfold Ma.total totF
  rw [List.map_map]
  congr 1
  refine List.ext_getElem? fun i => ?_
  rw [List.getElem?_map, List.getElem?_map]
  by_cases h : i < F.length
  · have h' : i < L.length := by rw [t.1]; exact h
    rw [List.getElem?_eq_getElem h, List.getElem?_eq_getElem h']
    obtain ⟨h1, h2, _⟩ := t.2 i _ _ (List.getElem?_eq_getElem h) (List.getElem?_eq_getElem h')
    show some (L[i].2.1 * g L[i].1) = some (many F[i].2 * g F[i].1)
    rw [h1, h2]
  · have h1 := t.1
    rw [List.getElem?_eq_none (show F.length ≤ i by omega), List.getElem?_eq_none (show L.length ≤ i by omega)]
    rfl
theorem sum_pairs {n : Nat} {ws : List Wish} (j : Nat) : ∀ L : List (Stand × Row), ((pairs L).map fun d => d.1.2.1 * cnt n ws j (after n ws d.1.1 d.2)).sum = total (cnt n ws (j + 1)) (L.map fun e => (e.1, e.2.1))
  | [] => rfl
  | e :: L => by
    have ih := sum_pairs (n := n) (ws := ws) j L
    have e1 : pairs (e :: L) = (e, 0) :: (e, 1) :: pairs L := by simp [pairs]
    rw [e1]
    show e.2.1 * cnt n ws j (after n ws e.1 0) + (e.2.1 * cnt n ws j (after n ws e.1 1) + ((pairs L).map fun d => d.1.2.1 * cnt n ws j (after n ws d.1.1 d.2)).sum) = e.2.1 * (cnt n ws j (after n ws e.1 0) + cnt n ws j (after n ws e.1 1)) + total (cnt n ws (j + 1)) (L.map fun e => (e.1, e.2.1))
    rw [Nat.mul_add, ih]
    omega
theorem sum_full {n : Nat} {ws : List Wish} : ∀ L : List (Stand × Row), many ((L.filter fun e => e.1.2 == fullSet ws).map (·.2)) = total (cnt n ws 0) (L.map fun e => (e.1, e.2.1))
  | [] => rfl
  | a :: L => by
    have ih := sum_full (n := n) (ws := ws) L
    show _ = a.2.1 * (if a.1.2 = fullSet ws then 1 else 0) + total (cnt n ws 0) (L.map fun e => (e.1, e.2.1))
    by_cases c : a.1.2 = fullSet ws
    · rw [List.filter_cons_of_pos (by simpa using c), if_pos c, List.map_cons, ← ih, Nat.mul_one]
      rfl
    · rw [List.filter_cons_of_neg (by simpa using c), if_neg c, ← ih]
      omega
structure BF (n : Nat) (ws : List Wish) (s0 : Stand) (k : Nat) (L : List (Stand × Row)) (S : List Stand) : Prop where
  nd : (L.map (·.1)).Nodup
  va : ∀ u ∈ L.map (·.1), Va n ws u
  sva : ∀ u ∈ S, Va n ws u
  snd : S.Nodup
  dj : ∀ u ∈ L.map (·.1), u ∉ S
  snf : ∀ u ∈ S, ¬ Full ws u
  row : ∀ e ∈ L, e.2.2.length = k ∧ Bin e.2.2 ∧ run n ws s0 e.2.2 = e.1
  srow : ∀ u ∈ S, ∃ p : List Nat, p.length < k ∧ run n ws s0 p = u
  cov : ∀ q : List Nat, q.length = k → Bin q → run n ws s0 q ∈ S ∨ ∃ e ∈ L, run n ws s0 q = e.1 ∧ lexN q e.2.2 = false
  clo : ∀ u ∈ S, ∀ w, (w = 0 ∨ w = 1) → after n ws u w ∈ S ∨ after n ws u w ∈ L.map (·.1)
  tot : total (cnt n ws (dist n ws s0 - k)) (L.map fun e => (e.1, e.2.1)) = cnt n ws (dist n ws s0) s0
  le : k ≤ dist n ws s0
theorem BF.init {n : Nat} {ws : List Wish} {s0 : Stand} (v : Va n ws s0) : BF n ws s0 0 [(s0, (1, []))] [] where
  nd := by simp
  va := fun u hu => by have : u = s0 := by simpa using hu
                       rw [this]; exact v
  sva := fun _ h => (nomatch h)
  snd := List.nodup_nil
  dj := fun _ _ h => (nomatch h)
  snf := fun _ h => (nomatch h)
  row := fun e he => by
    obtain rfl : e = (s0, (1, [])) := by simpa using he
    exact ⟨rfl, fun _ h => (nomatch h), rfl⟩
  srow := fun _ h => (nomatch h)
  cov := fun q hq _ => by
    have : q = [] := List.length_eq_zero_iff.mp hq
    subst this
    exact .inr ⟨(s0, (1, [])), List.mem_cons_self .., rfl, rfl⟩
  clo := fun _ h => (nomatch h)
  tot := by
    rw [Nat.sub_zero]
    show ([1 * cnt n ws (dist n ws s0) s0]).sum = _
    simp
  le := Nat.zero_le _
theorem zeros_bin (k : Nat) : Bin (List.replicate k 0) := fun w hw => .inl (List.eq_of_mem_replicate hw)
theorem run_full {n : Nat} {ws : List Wish} (o : Ok n ws) : ∀ (p : List Nat) {s : Stand}, Va n ws s → Full ws s → Full ws (run n ws s p)
  | [], _, _, f => f
  | w :: p, _, v, f => run_full o p (after_va o v w) (after_full o v f w)
section
variable {n : Nat} {ws : List Wish} {s0 : Stand} {k : Nat} {L : List (Stand × Row)} {S : List Stand}
theorem BF.more (x : BF n ws s0 k L S) (o : Ok n ws) (h8 : n ≤ 8) {r : Nat → Nat} (R : Ranked ws r) (v : Va n ws s0) (nf : ∀ e ∈ L, ¬ Full ws e.1) : k + 1 ≤ dist n ws s0 := by
  rcases Nat.lt_or_ge k (dist n ws s0) with h | h
  · exact h
  exfalso
  obtain ⟨p, p1, p2, p3⟩ := (dist_short o h8 R v).ex
  have hb : Bin (p ++ List.replicate (k - p.length) 0) := fun w hw => by
    rcases List.mem_append.mp hw with q | q
    · exact p2 w q
    · exact zeros_bin _ w q
  have hf : Full ws (run n ws s0 (p ++ List.replicate (k - p.length) 0)) := by
    rw [run_app]
    exact run_full o _ (run_va o p v) p3
  rcases x.cov _ (by rw [List.length_append, List.length_replicate]; omega) hb with q | ⟨e, he, q, _⟩
  · exact x.snf _ q hf
  · exact nf e he (q ▸ hf)
theorem cnt_gone (o : Ok n ws) (h8 : n ≤ 8) {r : Nat → Nat} (R : Ranked ws r) (v : Va n ws s0) {p : List Nat} {u : Stand} {j : Nat} (hp : run n ws s0 p = u) (hj : p.length + j < dist n ws s0) : cnt n ws j u = 0 := by
  have vu : Va n ws u := hp ▸ run_va o p v
  obtain ⟨q, q1, _, q3⟩ := (dist_short o h8 R vu).ex
  have h := (dist_short o h8 R v).le (p ++ q) (by rw [run_app, hp]; exact q3)
  rw [List.length_append] at h
  exact cnt_less o h8 R vu (by omega)
theorem BF.next (x : BF n ws s0 k L S) (o : Ok n ws) (h8 : n ≤ 8) {r : Nat → Nat} (R : Ranked ws r) (v : Va n ws s0) (nf : ∀ e ∈ L, ¬ Full ws e.1) {L' : List (Stand × Row)}
    (t : Tog (waysOn n ws (S ++ L.map (·.1)) L) L') : BF n ws s0 (k + 1) L' (S ++ L.map (·.1)) := by
  have hk := x.more o h8 R v nf
  have W := ways_inv (n := n) (ws := ws) (S := S ++ L.map (·.1)) L [] [] WInv.nil
  rw [List.nil_append] at W
  obtain ⟨⟨T, G, w1, w2⟩, wt⟩ := W
  have G : Grp (waysOn n ws (S ++ L.map (·.1)) L) T := G
  have keys := t.keys
  -- what an entry of the next layer is
  have ent : ∀ e' ∈ L', e'.1 ∉ S ++ L.map (·.1) ∧ (∃ e ∈ L, ∃ w, (w = 0 ∨ w = 1) ∧ e'.1 = after n ws e.1 w ∧ e'.2.2 = e.2.2 ++ [w]) ∧
      ∀ e ∈ L, ∀ w, (w = 0 ∨ w = 1) → after n ws e.1 w = e'.1 → lexN (e.2.2 ++ [w]) e'.2.2 = false := by
    intro e' he'
    obtain ⟨f, hf, h1, h2, h3⟩ := t.mem he'
    have hrows := G.rows f hf
    have fnS : f.1 ∉ S ++ L.map (·.1) := by
      obtain ⟨t0, ht0, et0⟩ := G.use f hf
      rw [← et0]; exact (w1 t0 ht0).1
    refine ⟨by rw [h1]; exact fnS, ?_, fun e he w hw hu => ?_⟩
    · obtain ⟨rw0, hr, er⟩ := List.mem_map.mp h3.mem
      rw [hrows] at hr
      obtain ⟨t1, ht1, et1⟩ := List.mem_map.mp hr
      obtain ⟨ht1, q⟩ := List.mem_filter.mp ht1
      obtain ⟨_, d, hd, ed⟩ := w1 t1 ht1
      obtain ⟨hd1, hd2⟩ := mem_pairs.mp hd
      refine ⟨d.1, hd1, d.2, hd2, ?_, ?_⟩
      · rw [h1, ← of_decide_eq_true q, ed]
      · rw [← er, ← et1, ed]
    · refine h3.le _ ?_
      have hin := w2 (e, w) (mem_pairs.mpr ⟨he, hw⟩) (by rw [hu, h1]; exact fnS)
      rw [hrows]
      exact List.mem_map.mpr ⟨_, List.mem_map.mpr ⟨_, List.mem_filter.mpr ⟨hin, decide_eq_true (by rw [← h1]; exact hu)⟩, rfl⟩, rfl⟩
  have reach : ∀ e ∈ L, ∀ w, (w = 0 ∨ w = 1) → after n ws e.1 w ∈ S ++ L.map (·.1) ∨ after n ws e.1 w ∈ L'.map (·.1) := by
    intro e he w hw
    rcases Classical.em (after n ws e.1 w ∈ S ++ L.map (·.1)) with c | c
    · exact .inl c
    · refine .inr ?_
      rw [keys]
      exact G.all _ (w2 (e, w) (mem_pairs.mpr ⟨he, hw⟩) c)
  refine ⟨by rw [keys]; exact G.nd, fun u hu => ?_, fun u hu => ?_, ?_, fun u hu => ?_, fun u hu => ?_, fun e' he' => ?_, fun u hu => ?_, fun q hq hb => ?_, fun u hu w hw => ?_, ?_, hk⟩
  · obtain ⟨e', he', rfl⟩ := List.mem_map.mp hu
    obtain ⟨_, ⟨e, he, w, hw, h1, _⟩, _⟩ := ent e' he'
    rw [h1]
    exact after_va o (x.va _ (List.mem_map.mpr ⟨e, he, rfl⟩)) w
  · rcases List.mem_append.mp hu with q | q
    · exact x.sva u q
    · exact x.va u q
  · exact List.nodup_append.mpr ⟨x.snd, x.nd, fun a ha b hb z => x.dj b hb (z ▸ ha)⟩
  · obtain ⟨e', he', rfl⟩ := List.mem_map.mp hu
    exact (ent e' he').1
  · rcases List.mem_append.mp hu with q | q
    · exact x.snf u q
    · obtain ⟨e, he, rfl⟩ := List.mem_map.mp q
      exact nf e he
  · obtain ⟨_, ⟨e, he, w, hw, h1, h2⟩, _⟩ := ent e' he'
    obtain ⟨r1, r2, r3⟩ := x.row e he
    refine ⟨by rw [h2, List.length_append, r1]; rfl, fun z hz => ?_, ?_⟩
    · rw [h2] at hz
      rcases List.mem_append.mp hz with q | q
      · exact r2 z q
      · have : z = w := by simpa using q
        rw [this]; exact hw
    · rw [h2, run_app, r3, h1]
      rfl
  · rcases List.mem_append.mp hu with q | q
    · obtain ⟨p, p1, p2⟩ := x.srow u q
      exact ⟨p, by omega, p2⟩
    · obtain ⟨e, he, rfl⟩ := List.mem_map.mp q
      obtain ⟨r1, _, r3⟩ := x.row e he
      exact ⟨_, by omega, r3⟩
  · -- rows of k + 1 steps
    rcases List.eq_nil_or_concat q with rfl | ⟨q', w, rfl⟩
    · simp at hq
    rw [List.concat_eq_append] at hq hb ⊢
    have hq' : q'.length = k := by simpa using hq
    have hb' : Bin q' := fun z hz => hb z (List.mem_append_left _ hz)
    have hw : w = 0 ∨ w = 1 := hb w (List.mem_append_right _ (by simp))
    have er : run n ws s0 (q' ++ [w]) = after n ws (run n ws s0 q') w := by rw [run_app]; rfl
    rw [er]
    rcases x.cov q' hq' hb' with c | ⟨e, he, c, le⟩
    · refine .inl (List.mem_append.mpr ?_)
      exact x.clo _ c w hw
    · rw [c]
      rcases reach e he w hw with z | z
      · exact .inl z
      · obtain ⟨e', he', ee⟩ := List.mem_map.mp z
        refine .inr ⟨e', he', ee.symm, ?_⟩
        have l1 := (ent e' he').2.2 e he w hw ee.symm
        have l2 := lexN_snoc (w := w) (by rw [(x.row e he).1, hq']) le
        exact lexN_trans l1 l2
  · rcases List.mem_append.mp hu with q | q
    · exact .inl (List.mem_append.mpr (x.clo u q w hw))
    · obtain ⟨e, he, rfl⟩ := List.mem_map.mp q
      exact reach e he w hw
  · have gz : ∀ u ∈ S ++ L.map (·.1), cnt n ws (dist n ws s0 - (k + 1)) u = 0 := by
      intro u hu
      rcases List.mem_append.mp hu with q | q
      · obtain ⟨p, p1, p2⟩ := x.srow u q
        exact cnt_gone o h8 R v p2 (by omega)
      · obtain ⟨e, he, rfl⟩ := List.mem_map.mp q
        obtain ⟨r1, _, r3⟩ := x.row e he
        exact cnt_gone o h8 R v r3 (by omega)
    rw [t.total]
    have := wt _ gz
    show totF _ (L.foldl (ways2 n ws (S ++ L.map (·.1))) []) = _
    rw [this, ← x.tot]
    have hj : dist n ws s0 - k = (dist n ws s0 - (k + 1)) + 1 := by omega
    rw [hj]
    exact sum_pairs _ L
end
theorem first_le {n : Nat} {ws : List Wish} (o : Ok n ws) (h8 : n ≤ 8) {r : Nat → Nat} (R : Ranked ws r) : ∀ (d : Nat) (s : Stand), Va n ws s → dist n ws s = d → ∀ q : List Nat, q.length = d → Bin q → Full ws (run n ws s q) → lexN q (thePlan n ws s) = false
  | 0, s, v, hd, q, hq, _, _ => by
    have : q = [] := List.length_eq_zero_iff.mp hq
    rw [this, thePlan_full ((dist_zero o h8 R v).mp hd)]
    rfl
  | d + 1, s, v, hd, [], hq, _, _ => by simp at hq
  | d + 1, s, v, hd, w :: q, hq, hb, hf => by
    have nf : ¬ Full ws s := fun z => by rw [dist_full z] at hd; cases hd
    have hw : w = 0 ∨ w = 1 := hb w (by simp)
    have hq' : q.length = d := by simpa using hq
    have hb' : Bin q := fun z hz => hb z (List.mem_cons_of_mem _ hz)
    have hf' : Full ws (run n ws (after n ws s w) q) := hf
    have va := after_va o v w
    have dw : dist n ws (after n ws s w) = d := by
      have h1 := (dist_short o h8 R va).le q hf'
      have h2 := dist_after o h8 R v nf
      rcases hw with rfl | rfl <;> omega
    rw [thePlan_step o h8 R v nf]
    by_cases c : dist n ws (after n ws s 0) + 1 = dist n ws s
    · rw [if_pos c]
      rcases hw with rfl | rfl
      · show lexN (0 :: q) (0 :: _) = false
        unfold lexN
        rw [if_pos rfl]
        exact first_le o h8 R d _ va dw q hq' hb' hf'
      · rfl
    · rw [if_neg c]
      rcases hw with rfl | rfl
      · omega
      · show lexN (1 :: q) (1 :: _) = false
        unfold lexN
        rw [if_pos rfl]
        exact first_le o h8 R d _ va dw q hq' hb' hf'
theorem plan_bin {n : Nat} {ws : List Wish} (o : Ok n ws) (h8 : n ≤ 8) {r : Nat → Nat} (R : Ranked ws r) : ∀ (d : Nat) (s : Stand), Va n ws s → dist n ws s = d → Bin (thePlan n ws s) ∧ Full ws (run n ws s (thePlan n ws s))
  | 0, s, v, hd => by
    have f := (dist_zero o h8 R v).mp hd
    rw [thePlan_full f]
    exact ⟨fun _ h => (nomatch h), f⟩
  | d + 1, s, v, hd => by
    have nf : ¬ Full ws s := fun z => by rw [dist_full z] at hd; cases hd
    rw [thePlan_step o h8 R v nf]
    have h2 := dist_after o h8 R v nf
    by_cases c : dist n ws (after n ws s 0) + 1 = dist n ws s
    · rw [if_pos c]
      obtain ⟨b, f⟩ := plan_bin o h8 R d _ (after_va o v 0) (by omega)
      exact ⟨fun z hz => by rcases List.mem_cons.mp hz with q | q; exact .inl q; exact b z q, f⟩
    · rw [if_neg c]
      obtain ⟨b, f⟩ := plan_bin o h8 R d _ (after_va o v 1) (by omega)
      exact ⟨fun z hz => by rcases List.mem_cons.mp hz with q | q; exact .inr q; exact b z q, f⟩
theorem BF.fin {n : Nat} {ws : List Wish} {s0 : Stand} {k : Nat} {L : List (Stand × Row)} {S : List Stand} (x : BF n ws s0 k L S) (o : Ok n ws) (h8 : n ≤ 8) {r : Nat → Nat} (R : Ranked ws r) (v : Va n ws s0)
    {m : List Nat} (hm : IsMin m ((L.filter fun e => e.1.2 == fullSet ws).map (·.2.2))) :
    many ((L.filter fun e => e.1.2 == fullSet ws).map (·.2)) = cnt n ws (dist n ws s0) s0 ∧ m = thePlan n ws s0 := by
  obtain ⟨e, he, em⟩ := List.mem_map.mp hm.mem
  obtain ⟨he, ef⟩ := List.mem_filter.mp he
  have ef : Full ws e.1 := eq_of_beq ef
  obtain ⟨r1, r2, r3⟩ := x.row e he
  have hd : dist n ws s0 = k := by
    have := (dist_short o h8 R v).le e.2.2 (by rw [r3]; exact ef)
    have := x.le
    omega
  constructor
  · have ht := x.tot
    rw [hd, Nat.sub_self] at ht
    rw [hd, ← ht]
    exact sum_full L
  · obtain ⟨pb, pf⟩ := plan_bin o h8 R k s0 v hd
    have pl := thePlan_len o h8 R k s0 v hd
    refine lexN_anti ?_ ?_
    · rw [← em]
      exact first_le o h8 R k s0 v hd _ r1 r2 (by rw [r3]; exact ef)
    · rcases x.cov _ pl pb with c | ⟨e2, he2, c, le⟩
      · exact absurd pf (x.snf _ c)
      · refine lexN_trans (hm.le e2.2.2 (List.mem_map.mpr ⟨e2, List.mem_filter.mpr ⟨he2, ?_⟩, rfl⟩)) le
        exact beq_iff_eq.mpr (c ▸ pf)
theorem nd_lt {k : Nat} {m : List Nat} (nd : m.Nodup) (h : ∀ j ∈ m, j < k) : m.length ≤ k := by
  induction k generalizing m with
  | zero =>
    cases m with
    | nil => exact Nat.le_refl 0
    | cons a m => exact absurd (h a (List.mem_cons_self ..)) (Nat.not_lt_zero _)
  | succ k ih =>
    by_cases c : k ∈ m
    · have h2 := ih (nd.erase k) (fun j hj => by
        have q := (List.Nodup.mem_erase_iff nd).mp hj
        exact Nat.lt_of_le_of_ne (Nat.le_of_lt_succ (h j q.2)) q.1)
      rw [List.length_erase_of_mem c] at h2
      exact Nat.le_add_of_sub_le h2
    · exact Nat.le_succ_of_le (ih nd (fun j hj => Nat.lt_of_le_of_ne (Nat.le_of_lt_succ (h j hj)) (fun e => c (e ▸ hj))))
theorem va_card {n : Nat} {ws : List Wish} (o : Ok n ws) (h8 : n ≤ 8) {l : List Stand} (nd : l.Nodup) (v : ∀ u ∈ l, Va n ws u) : l.length ≤ 512 := by
  have hp : 2 ^ ws.length ≤ 64 := by
    have := Nat.pow_le_pow_right (show 0 < 2 by decide) o.k6
    simpa using this
  have inj : (l.map fun u => u.2 * 8 + u.1).Nodup := by
    refine List.pairwise_map.mpr (List.Pairwise.imp_of_mem ?_ nd)
    intro a b ha hb hne h
    refine hne ?_
    have h1 := (v a ha).t
    have h2 := (v b hb).t
    refine Prod.ext ?_ ?_ <;> omega
  have := nd_lt (k := 512) inj (fun j hj => by
    obtain ⟨u, hu, rfl⟩ := List.mem_map.mp hj
    have h1 := (v u hu).t
    have h2 := (v u hu).m
    omega)
  rw [List.length_map] at this
  exact this
end Ma
set_option linter.all false
namespace Ma
open Uw77
theorem waiting_pos {n : Nat} {ws : List Wish} (o : Ok n ws) {s : Stand} (v : Va n ws s) (nf : ¬ Full ws s) : 0 < waiting ws s.2 := by
  rcases Nat.eq_zero_or_pos (waiting ws s.2) with h | h
  · exact absurd (left_full o v h) nf
  · exact h
noncomputable abbrev Heaps := Nat → Option (List Stand)
noncomputable def putH (B : Heaps) (c : Nat) (us : List Stand) : Heaps := fun d => if d = c then some ((B c).getD [] ++ us) else B d
noncomputable def cutH (B : Heaps) (w : Nat) : Heaps := fun d => if d = w then none else B d
structure LW (n : Nat) (ws : List Wish) (om : Nat) (w : Nat) (B : Heaps) (S : List Stand) : Prop where
  va : ∀ c us, B c = some us → ∀ u ∈ us, Va n ws u ∧ om ≤ c + wait n ws u
  sva : ∀ u ∈ S, Va n ws u
  snd : S.Nodup
  sn : ∀ v ∈ S, om < w + wait n ws v
  opt : ∃ c us u, B c = some us ∧ u ∈ us ∧ w ≤ c ∧ u ∉ S ∧ c + wait n ws u = om
  len : ∀ c us, B c = some us → us.length ≤ 1 + 2 * S.length
structure LM (n : Nat) (ws : List Wish) (om : Nat) (w : Nat) (us : List Stand) (i : Nat) (B : Heaps) (S : List Stand) : Prop where
  va : ∀ c us, B c = some us → ∀ u ∈ us, Va n ws u ∧ om ≤ c + wait n ws u
  uva : ∀ u ∈ us, Va n ws u ∧ om ≤ w + wait n ws u ∧ ¬ Full ws u
  sva : ∀ u ∈ S, Va n ws u
  snd : S.Nodup
  sn : ∀ v ∈ S, om ≤ w + wait n ws v
  opt : (∃ c us u, B c = some us ∧ u ∈ us ∧ w < c ∧ u ∉ S ∧ c + wait n ws u = om) ∨ ∃ j u, i ≤ j ∧ us[j]? = some u ∧ u ∉ S ∧ w + wait n ws u = om
  len : ∀ c us, B c = some us → us.length ≤ 1 + 2 * S.length
theorem LW.init {n : Nat} {ws : List Wish} {s0 : Stand} (v : Va n ws s0) : LW n ws (wait n ws s0) 0 (fun d => if d = 0 then some [s0] else none) [] where
  va := fun c us h u hu => by
    by_cases e : c = 0
    · have h : (if c = 0 then some [s0] else none) = some us := h
      rw [if_pos e] at h
      cases h
      have : u = s0 := by simpa using hu
      rw [this, e]
      exact ⟨v, by omega⟩
    · have h : (if c = 0 then some [s0] else none) = some us := h
      rw [if_neg e] at h
      cases h
  sva := fun _ h => (nomatch h)
  snd := List.nodup_nil
  sn := fun _ h => (nomatch h)
  opt := ⟨0, [s0], s0, rfl, by simp, Nat.le_refl _, fun h => (nomatch h), Nat.zero_add _⟩
  len := fun c us h => by
    by_cases e : c = 0
    · have h : (if c = 0 then some [s0] else none) = some us := h
      rw [if_pos e] at h
      cases h
      exact Nat.le_refl _
    · have h : (if c = 0 then some [s0] else none) = some us := h
      rw [if_neg e] at h
      cases h
section
variable {n : Nat} {ws : List Wish} {om w : Nat} {B : Heaps} {S : List Stand}
theorem LW.le (x : LW n ws om w B S) : w ≤ om := by
  obtain ⟨c, us, u, _, _, h1, _, h2⟩ := x.opt
  omega
theorem LW.fin (x : LW n ws om w B S) {us : List Stand} (h : B w = some us) {u : Stand} (hu : u ∈ us) (f : Full ws u) : w = om := by
  have h1 := (x.va w us h u hu).2
  rw [wait_full f] at h1
  have := x.le
  omega
theorem cut_some {B : Heaps} {w c : Nat} {us : List Stand} (h : cutH B w c = some us) : c ≠ w ∧ B c = some us := by
  unfold cutH at h
  by_cases e : c = w
  · rw [if_pos e] at h; cases h
  · rw [if_neg e] at h; exact ⟨e, h⟩
theorem LW.pop (x : LW n ws om w B S) (nf : ∀ u ∈ (B w).getD [], ¬ Full ws u) : LM n ws om w ((B w).getD []) 0 (cutH B w) S where
  va := fun c us h u hu => x.va c us (cut_some h).2 u hu
  uva := fun u hu => by
    cases e : B w with
    | none => rw [e] at hu; exact nomatch hu
    | some us =>
      have hu' : u ∈ us := by rw [e] at hu; exact hu
      exact ⟨(x.va w us e u hu').1, (x.va w us e u hu').2, nf u hu⟩
  sva := x.sva
  snd := x.snd
  sn := fun v hv => Nat.le_of_lt (x.sn v hv)
  opt := by
    obtain ⟨c, us, u, h1, h2, h3, h4, h5⟩ := x.opt
    by_cases e : c = w
    · subst e
      obtain ⟨j, hj⟩ := List.getElem?_of_mem h2
      exact .inr ⟨j, u, Nat.zero_le _, by rw [h1]; exact hj, h4, h5⟩
    · exact .inl ⟨c, us, u, by unfold cutH; rw [if_neg e]; exact h1, h2, by omega, h4, h5⟩
  len := fun c us h => x.len c us (cut_some h).2
variable {us : List Stand} {i : Nat}
theorem LM.skip (x : LM n ws om w us i B S) {u : Stand} (hu : us[i]? = some u) (hS : u ∈ S) : LM n ws om w us (i + 1) B S where
  va := x.va
  uva := x.uva
  sva := x.sva
  snd := x.snd
  sn := x.sn
  opt := by
    rcases x.opt with h | ⟨j, v, h1, h2, h3, h4⟩
    · exact .inl h
    · refine .inr ⟨j, v, ?_, h2, h3, h4⟩
      rcases Nat.lt_or_ge i j with q | q
      · exact q
      · have : i = j := by omega
        subst this
        rw [hu] at h2
        cases h2
        exact absurd hS h3
  len := x.len
theorem LM.grow (x : LM n ws om w us i B S) (o : Ok n ws) (h8 : n ≤ 8) {r : Nat → Nat} (R : Ranked ws r) {u : Stand} (hu : us[i]? = some u) (hS : u ∉ S) :
    LM n ws om w us (i + 1) (putH B (w + waiting ws u.2) [after n ws u 0, after n ws u 1]) (S ++ [u]) := by
  have hm : u ∈ us := List.mem_of_getElem? hu
  obtain ⟨vu, lu, nf⟩ := x.uva u hm
  have wp := waiting_pos o vu nf
  have wa := wait_after o h8 R vu nf
  have hput : ∀ c vs, putH B (w + waiting ws u.2) [after n ws u 0, after n ws u 1] c = some vs →
      (c ≠ w + waiting ws u.2 ∧ B c = some vs) ∨ (c = w + waiting ws u.2 ∧ vs = (B c).getD [] ++ [after n ws u 0, after n ws u 1]) := by
    intro c vs h
    unfold putH at h
    by_cases e : c = w + waiting ws u.2
    · rw [if_pos e] at h
      cases h
      exact .inr ⟨e, by rw [e]⟩
    · rw [if_neg e] at h
      exact .inl ⟨e, h⟩
  refine ⟨fun c vs h v hv => ?_, x.uva, fun v hv => ?_, ?_, fun v hv => ?_, ?_, fun c vs h => ?_⟩
  · rcases hput c vs h with ⟨_, h⟩ | ⟨e, rfl⟩
    · exact x.va c vs h v hv
    · rcases List.mem_append.mp hv with q | q
      · cases eb : B c with
        | none => rw [eb] at q; exact nomatch q
        | some vs => rw [eb] at q; exact x.va c vs eb v q
      · have q : v = after n ws u 0 ∨ v = after n ws u 1 := by simpa using q
        rcases q with rfl | rfl
        · exact ⟨after_va o vu 0, by omega⟩
        · exact ⟨after_va o vu 1, by omega⟩
  · rcases List.mem_append.mp hv with q | q
    · exact x.sva v q
    · have : v = u := by simpa using q
      rw [this]; exact vu
  · exact List.nodup_append.mpr ⟨x.snd, by simp, fun a ha b hb z => hS (by have hb' : b = u := (by simpa using hb); rw [← hb', ← z]; exact ha)⟩
  · rcases List.mem_append.mp hv with q | q
    · exact x.sn v q
    · have : v = u := by simpa using q
      rw [this]; exact lu
  · have keep : ∀ c vs v, B c = some vs → v ∈ vs → ∃ vs', putH B (w + waiting ws u.2) [after n ws u 0, after n ws u 1] c = some vs' ∧ v ∈ vs' := by
      intro c vs v h hv
      unfold putH
      by_cases e : c = w + waiting ws u.2
      · rw [if_pos e, ← e, h]
        exact ⟨_, rfl, List.mem_append_left _ hv⟩
      · rw [if_neg e]
        exact ⟨vs, h, hv⟩
    rcases x.opt with ⟨c, vs, v, h1, h2, h3, h4, h5⟩ | ⟨j, v, h1, h2, h3, h4⟩
    · obtain ⟨vs', k1, k2⟩ := keep c vs v h1 h2
      refine .inl ⟨c, vs', v, k1, k2, h3, fun q => ?_, h5⟩
      rcases List.mem_append.mp q with q | q
      · exact h4 q
      · have e : v = u := by simpa using q
        rw [e] at h5
        omega
    · by_cases e : v = u
      · subst e
        have best : ∃ y, (y = 0 ∨ y = 1) ∧ wait n ws v = wait n ws (after n ws v y) + waiting ws v.2 := by
          by_cases c : wait n ws (after n ws v 0) ≤ wait n ws (after n ws v 1)
          · exact ⟨0, .inl rfl, by omega⟩
          · exact ⟨1, .inr rfl, by omega⟩
        obtain ⟨y, hy, wy⟩ := best
        refine .inl ⟨w + waiting ws v.2, _, after n ws v y, by unfold putH; rw [if_pos rfl], List.mem_append_right _ ?_, by omega, fun q => ?_, by omega⟩
        · rcases hy with rfl | rfl <;> simp
        · rcases List.mem_append.mp q with q | q
          · have := x.sn _ q
            omega
          · have e : after n ws v y = v := by simpa using q
            rw [e] at wy
            omega
      · refine .inr ⟨j, v, ?_, h2, fun q => ?_, h4⟩
        · rcases Nat.lt_or_ge i j with q | q
          · exact q
          · have : i = j := by omega
            subst this
            rw [hu] at h2
            cases h2
            exact absurd rfl e
        · rcases List.mem_append.mp q with q | q
          · exact h3 q
          · exact e (by simpa using q)
  · rw [List.length_append]
    rcases hput c vs h with ⟨_, h⟩ | ⟨e, rfl⟩
    · have := x.len c vs h
      show _ ≤ 1 + 2 * (S.length + 1)
      omega
    · rw [List.length_append]
      show ((B c).getD []).length + 2 ≤ 1 + 2 * (S.length + 1)
      cases eb : B c with
      | none => simp; omega
      | some vs =>
        have := x.len c vs eb
        show vs.length + 2 ≤ _
        omega
theorem LM.fin (x : LM n ws om w us us.length B S) : LW n ws om (w + 1) B S where
  va := x.va
  sva := x.sva
  snd := x.snd
  sn := fun v hv => by have := x.sn v hv; omega
  opt := by
    rcases x.opt with ⟨c, vs, v, h1, h2, h3, h4, h5⟩ | ⟨j, v, h1, h2, _⟩
    · exact ⟨c, vs, v, h1, h2, h3, h4, h5⟩
    · rw [List.getElem?_eq_none h1] at h2
      cases h2
  len := x.len
end
end Ma
set_option Elab.async false
set_option compiler.extract_closed false
set_option genSizeOf false
set_option linter.all false
set_option maxRecDepth 100000
set_option maxHeartbeats 2000000
namespace Tt
open PySem PySem.Spec PyProof.Rows L2
open Uw77 (Table Wish numberOf)
open Ma
noncomputable def top (i : Nat) : Stmt := PySem.Challenge.pw_turningtray_s01_answers.main.body.getD i (.Pass ⟨0, 0, 0, 0⟩)
noncomputable abbrev sInit : Stmt := inClass (top 6) 0
noncomputable abbrev sLay : Stmt := inClass (top 6) 1
noncomputable abbrev sHas : Stmt := inClass (top 6) 2
noncomputable abbrev sWan : Stmt := inClass (top 6) 3
noncomputable abbrev sUnf : Stmt := inClass (top 6) 4
noncomputable abbrev sAdd : Stmt := inClass (top 6) 5
noncomputable abbrev sPut : Stmt := inClass (top 6) 6
noncomputable abbrev sBeh : Stmt := inClass (top 6) 7
noncomputable abbrev sTurn : Stmt := inClass (top 6) 8
noncomputable abbrev sMake : Stmt := inClass (top 6) 9
noncomputable abbrev sServ : Stmt := inClass (top 6) 10
noncomputable abbrev sTill : Stmt := inClass (top 6) 11
noncomputable abbrev sFree : Stmt := inClass (top 6) 12
noncomputable abbrev sSet : Stmt := inClass (top 6) 13
noncomputable def tf (p t : Int) (g d h f : Addr) : List (Str × V) := [("places", .int p), ("turned", .int t), ("guests", .ref g), ("dishes", .ref d), ("ahead", .ref h), ("fulfilled", .ref f)]
theorem tf_p {p t : Int} {g d h f : Addr} : (tf p t g d h f).lookup ("places" : Str) = some (.int p) := rfl
theorem tf_t {p t : Int} {g d h f : Addr} : (tf p t g d h f).lookup ("turned" : Str) = some (.int t) := rfl
theorem tf_g {p t : Int} {g d h f : Addr} : (tf p t g d h f).lookup ("guests" : Str) = some (.ref g) := rfl
theorem tf_d {p t : Int} {g d h f : Addr} : (tf p t g d h f).lookup ("dishes" : Str) = some (.ref d) := rfl
theorem tf_h {p t : Int} {g d h f : Addr} : (tf p t g d h f).lookup ("ahead" : Str) = some (.ref h) := rfl
theorem tf_f {p t : Int} {g d h f : Addr} : (tf p t g d h f).lookup ("fulfilled" : Str) = some (.ref f) := rfl
theorem tf_pt {p t t' : Int} {g d h f : Addr} : putF "turned" (.int t') (tf p t g d h f) = tf p t' g d h f := rfl
theorem tf_pf {p t : Int} {g d h f f' : Addr} : putF "fulfilled" (.ref f') (tf p t g d h f) = tf p t g d h f' := rfl
theorem tf_lay0 {p t : Int} {g d h f : Addr} : putF "fulfilled" (.ref f) (putF "ahead" (.ref h) (putF "dishes" (.ref d) (putF "guests" (.ref g) (putF "turned" (.int t) (putF "places" (.int p) []))))) = tf p t g d h f := rfl
theorem tf_lay1 {p t p' t' : Int} {g d h f g' d' h' f' : Addr} : putF "fulfilled" (.ref f) (putF "ahead" (.ref h) (putF "dishes" (.ref d) (putF "guests" (.ref g) (putF "turned" (.int t) (putF "places" (.int p) (tf p' t' g' d' h' f')))))) = tf p t g d h f := rfl
structure Ad where
  dx : Addr
  g : Addr
  d : Addr
  h : Addr
  f : Addr
  hs : List Addr
noncomputable def Ad.all (A : Ad) : List Addr := A.g :: A.d :: A.h :: A.f :: A.hs
noncomputable def nums (l : List Nat) : List V := l.map fun j => V.int (j : Nat)
structure TabAt (C : Addr) (H : Hp) (a : Addr) (A : Ad) (x : Table) : Prop where
  obj : H a = some (.ins C A.dx (tf x.n x.turn A.g A.d A.h A.f))
  gs : H A.g = some (.lst (nums (x.wishes.map (·.guest))))
  ds : H A.d = some (.lst (nums (x.wishes.map (·.dish))))
  ah : H A.h = some (.lst (A.hs.map V.ref))
  fu : H A.f = some (.lst ((bits x.wishes.length (numberOf x.done)).map V.bl))
  len : A.hs.length = x.wishes.length
  beh : ∀ (i : Nat) (b : Addr) (w : Wish), A.hs[i]? = some b → x.wishes[i]? = some w → H b = some (.lst (nums w.behind))
  nd : A.all.Nodup
theorem TabAt.same {C : Addr} {H H' : Hp} {a : Addr} {A : Ad} {x : Table} (T : TabAt C H a A x) (s : Same H H') : TabAt C H' a A x :=
  ⟨s _ _ T.obj, s _ _ T.gs, s _ _ T.ds, s _ _ T.ah, s _ _ T.fu, T.len, fun i b w h1 h2 => s _ _ (T.beh i b w h1 h2), T.nd⟩
theorem upd_none {H : Hp} {a b : Addr} {o : HO} (h : upd H a o b = Option.none) : b ≠ a ∧ H b = Option.none := by
  by_cases e : b = a
  · rw [e, upd_same] at h; cases h
  · rw [upd_ne e] at h; exact ⟨e, h⟩
theorem pe_fldK {X : Cx} {e : Expr} {f : Str} {pos : Pos} {ta : TE} (K : PySem.W.Frag) (hK : X.K = K) (he : PE X e ta) (hb : attributeBase e f X.env (eval e X.env) = eval e X.env) : PE X (.Attribute e f pos) (tFld K ta f) := hK ▸ pe_fld he hb
theorem ix_listK {X : Cx} (K : PySem.W.Frag) (hK : X.K = K) : IxR X (rIxL K) := hK ▸ ix_list
structure Txt (K : PySem.W.Frag) (mg : Str → Option Value) (C : Addr) : Prop where
  cl : Cls K C
  nP : NoAttr K C "places"
  nT : NoAttr K C "turned"
  nG : NoAttr K C "guests"
  nD : NoAttr K C "dishes"
  nA : NoAttr K C "ahead"
  nF : NoAttr K C "fulfilled"
  mgC : mg "Table" = some (.ref C)
  few : ∃ t, mg "FEWEST_PLACES" = some (.int 2 t)
  most : ∃ t, mg "MOST_PLACES" = some (.int 8 t)
  mostW : ∃ t, mg "MOST_WISHES" = some (.int 6 t)
  rgt : ∃ t, mg "TO_THE_RIGHT" = some (.int 0 t)
  lft : ∃ t, mg "TO_THE_LEFT" = some (.int 1 t)
  len : mg "len" = none
  range : mg "range" = none
  any : mg "any" = none
  all : mg "all" = none
  list : mg "list" = none
section
variable {P : Program} {w : World} {K : PySem.W.Frag} {mg : Str → Option Value} {base : Heap}
noncomputable def spLay (C : Addr) : Sp := fun vs H Q _ => ∃ (a dx : Addr) (n : Nat) (fs : List (Str × V)), vs = [.ref a, .int (n : Nat)] ∧ H a = some (.ins C dx fs) ∧ (fs = [] ∨ ∃ p t g d h f, fs = tf p t g d h f) ∧
  ∀ (H' : Hp) (A : Ad), TabAt C H' a A ⟨n, 0, [], []⟩ → (∀ b o, H b = some o → b ≠ a → H' b = some o) → A.hs = [] → (∀ b ∈ A.all, H b = none) → Q .non H'
theorem len6 {fs : List (Str × V)} (h : fs = [] ∨ ∃ p t g d h f, fs = tf p t g d h f) : fs.length ≤ 6 := by
  rcases h with rfl | ⟨p, t, g, d, h, f, rfl⟩
  · exact Nat.zero_le _
  · exact Nat.le_refl _
theorem scLay : FnScope ["self", "places"] ["self", "places"] (defScope sLay) := ⟨rfl, rfl, rfl, by decide +kernel, rfl, by decide +kernel, by decide +kernel⟩
theorem ok_lay {f C : Addr} {fd : FuncData} (F : Fun K "lay" "Table.lay" sLay f fd) (T : Txt K mg C) : FnOk P w K mg base CX0 1 f fd ["self", "places"] (spLay C) := by
  refine F.ok scLay (fun vs H Q E h => ?_) (fun cdv A outer s H vs Q E hr h => ?_)
  · obtain ⟨a, dx, n, fs, rfl, _⟩ := h
    rfl
  · obtain ⟨a, dx, n, fs, rfl, ha, hf, k⟩ := h
    have l0 := len6 hf
    refine ⟨_, pss_cons (ps_fld (pv 0) (pv 1) rfl) (pss_cons (ps_fld (pv 0) pe_int rfl) (pss_cons (ps_fld (pv 0) (pe_lst pa_nil) rfl) (pss_cons (ps_fld (pv 0) (pe_lst pa_nil) rfl)
      (pss_cons (ps_fld (pv 0) (pe_lst pa_nil) rfl) (pss_one (ps_fld (pv 0) (pe_lst pa_nil) rfl)))))), ?_⟩
    refine ⟨_, rfl, _, rfl, a, C, dx, fs, rfl, ha, T.cl, T.nP, (by omega), ?_⟩
    have l1 := length_putF "places" (V.int (n : Nat)) fs
    refine ⟨_, rfl, a, C, dx, _, rfl, upd_same, T.cl, T.nT, (by omega), ?_⟩
    rw [upd_upd]
    have l2 := length_putF "turned" (V.int 0) (putF "places" (V.int (n : Nat)) fs)
    refine ⟨Nat.zero_le _, fun g hg => ?_⟩
    obtain ⟨ng, hg⟩ := upd_none hg
    refine ⟨_, rfl, a, C, dx, _, rfl, (by rw [upd_ne ng.symm]; exact upd_same), T.cl, T.nG, (by omega), ?_⟩
    have l3 := length_putF "guests" (V.ref g) (putF "turned" (V.int 0) (putF "places" (V.int (n : Nat)) fs))
    refine ⟨Nat.zero_le _, fun d hd => ?_⟩
    obtain ⟨nd, hd⟩ := upd_none hd
    obtain ⟨ndg, hd⟩ := upd_none hd
    obtain ⟨_, hd⟩ := upd_none hd
    refine ⟨_, rfl, a, C, dx, _, rfl, (by rw [upd_ne nd.symm]; exact upd_same), T.cl, T.nD, (by omega), ?_⟩
    have l4 := length_putF "dishes" (V.ref d) (putF "guests" (V.ref g) (putF "turned" (V.int 0) (putF "places" (V.int (n : Nat)) fs)))
    refine ⟨Nat.zero_le _, fun h hh => ?_⟩
    obtain ⟨nh, hh⟩ := upd_none hh
    obtain ⟨nhd, hh⟩ := upd_none hh
    obtain ⟨_, hh⟩ := upd_none hh
    obtain ⟨nhg, hh⟩ := upd_none hh
    obtain ⟨_, hh⟩ := upd_none hh
    refine ⟨_, rfl, a, C, dx, _, rfl, (by rw [upd_ne nh.symm]; exact upd_same), T.cl, T.nA, (by omega), ?_⟩
    have l5 := length_putF "ahead" (V.ref h) (putF "dishes" (V.ref d) (putF "guests" (V.ref g) (putF "turned" (V.int 0) (putF "places" (V.int (n : Nat)) fs))))
    refine ⟨Nat.zero_le _, fun u hu => ?_⟩
    obtain ⟨nu, hu⟩ := upd_none hu
    obtain ⟨nuh, hu⟩ := upd_none hu
    obtain ⟨_, hu⟩ := upd_none hu
    obtain ⟨nud, hu⟩ := upd_none hu
    obtain ⟨_, hu⟩ := upd_none hu
    obtain ⟨nug, hu⟩ := upd_none hu
    obtain ⟨_, hu⟩ := upd_none hu
    refine ⟨_, rfl, a, C, dx, _, rfl, (by rw [upd_ne nu.symm]; exact upd_same), T.cl, T.nF, (by omega), ?_⟩
    have e6 : putF "fulfilled" (.ref u) (putF "ahead" (.ref h) (putF "dishes" (.ref d) (putF "guests" (.ref g) (putF "turned" (.int 0) (putF "places" (.int (n : Nat)) fs))))) = tf (n : Nat) 0 g d h u := by
      rcases hf with rfl | ⟨p, t, g', d', h', f', rfl⟩
      · exact tf_lay0
      · exact tf_lay1
    rw [e6]
    refine k _ ⟨dx, g, d, h, u, []⟩ ⟨?_, ?_, ?_, ?_, ?_, rfl, fun i b w h1 _ => ?_, ?_⟩ (fun b o e hb => ?_) rfl (fun b hb => ?_)
    · exact upd_same
    · simp [upd, ng, ndg.symm, nhg.symm, nug.symm, nums]
    · simp [upd, nd, nhd.symm, nud.symm, nums]
    · simp [upd, nh, nuh.symm]
    · simp [upd, nu, bits]
    · simp at h1
    · simp [Ad.all, ndg.symm, nhg.symm, nug.symm, nhd.symm, nud.symm, nuh.symm]
    · have q1 := ne_of_none e hg
      have q2 := ne_of_none e hd
      have q3 := ne_of_none e hh
      have q4 := ne_of_none e hu
      simp [upd, hb, q1, q2, q3, q4, e]
    · simp [Ad.all] at hb
      rcases hb with rfl | rfl | rfl | rfl <;> assumption
end
end Tt
set_option Elab.async false
set_option compiler.extract_closed false
set_option genSizeOf false
set_option linter.all false
set_option maxRecDepth 100000
set_option maxHeartbeats 2000000
namespace Tt
open PySem PySem.Spec PyProof.Rows L2
open Uw77 (Table Wish numberOf)
open Ma
section
variable {P : Program} {w : World} {K : PySem.W.Frag} {mg : Str → Option Value} {base : Heap}
noncomputable def spInit (C : Addr) : Sp := fun vs H Q _ => ∃ (a dx : Addr), vs = [.ref a] ∧ H a = some (.ins C dx []) ∧
  ∀ (H' : Hp) (A : Ad), TabAt C H' a A Uw77.init → (∀ b o, H b = some o → b ≠ a → H' b = some o) → A.hs = [] → (∀ b ∈ A.all, H b = none) → Q .non H'
theorem scInit : FnScope ["self"] ["self"] (defScope sInit) := ⟨rfl, rfl, rfl, by decide +kernel, rfl, by decide +kernel, by decide +kernel⟩
theorem ok_init {f C fL : Addr} {fd fdL : FuncData} (F : Fun K "__init__" "Table.__init__" sInit f fd) (T : Txt K mg C) (FL : Fun K "lay" "Table.lay" sLay fL fdL) (bL : Binds K fdL ["self", "places"] []) (mL : Meth K C "lay" fL) : FnOk P w K mg base CX0 2 f fd ["self"] (spInit C) := by
  have GL : FnOk P w K mg base CX0 1 fL fdL ["self", "places"] (spLay C) := ok_lay FL T
  refine F.ok scInit (fun vs H Q E h => ?_) (fun cdv A outer s H vs Q E hr h => ?_)
  · obtain ⟨a, dx, rfl, _⟩ := h
    rfl
  · obtain ⟨a, dx, rfl, ha, k⟩ := h
    obtain ⟨t, hfew⟩ := T.few
    refine ⟨_, pss_one (ps_expr (pe_meth (pv 0) T.cl mL GL hr bL .nil pass0 (pa_cons (pe_glob (v := .int 2) (by rfl) hfew ⟨_, rfl⟩) pa_nil))), ?_⟩
    refine ⟨_, rfl, a, dx, [], rfl, ha, rfl, ?_⟩
    exact ⟨a, dx, 2, [], rfl, ha, .inl rfl, fun H' A h1 h2 h3 h4 => k H' A h1 h2 h3 h4⟩
noncomputable def spHas (C : Addr) : Sp := fun vs H Q _ => ∃ (a : Addr) (A : Ad) (x : Table) (i : Nat), vs = [.ref a, .int (i : Nat)] ∧ TabAt C H a A x ∧ Q (.bl (decide (i < x.wishes.length))) H
theorem scHas : FnScope ["self", "wish"] ["self", "wish"] (defScope sHas) := ⟨rfl, rfl, rfl, by decide +kernel, rfl, by decide +kernel, by decide +kernel⟩
theorem ok_has {f C : Addr} {fd : FuncData} (F : Fun K "has_wish" "Table.has_wish" sHas f fd) (T : Txt K mg C) : FnOk P w K mg base CX0 1 f fd ["self", "wish"] (spHas C) := by
  refine F.ok scHas (fun vs H Q E h => ?_) (fun cdv A outer s H vs Q E hr h => ?_)
  · obtain ⟨a, A, x, i, rfl, _⟩ := h
    rfl
  · obtain ⟨a, A, x, i, rfl, hT, k⟩ := h
    refine ⟨_, pss_one (ps_ret (pe_cmpR op_lt (pv 1) (pe_callB call_len_seq (by rfl) T.len PySem.boot_len (pa_cons (pe_fld (pv 0) (by rfl)) pa_nil)) (nomark _))), ?_⟩
    refine ⟨_, rfl, _, rfl, a, C, _, _, _, rfl, hT.obj, T.cl, T.nF, tf_f, _, _, rfl, .inl (SqL.of hT.fu), _, _, rfl, rfl, ?_⟩
    show Q (V.bl (decide ((i : Int) < (((bits x.wishes.length (numberOf x.done)).map V.bl).length : Int)))) H
    rw [List.length_map, bits_len, decide_eq_decide.mpr Int.ofNat_lt]
    exact k
theorem undone_bits {x : Table} (h : TInv x) : Uw77.undone x = (List.range x.wishes.length).filter fun i => !Uw77.isIn (numberOf x.done) i := by
  unfold Uw77.undone
  refine List.filter_congr fun i hi => ?_
  rw [h.mem, decide_eq_true (List.mem_range.mp hi), Bool.true_and]
noncomputable def spUnf (C : Addr) : Sp := fun vs H Q _ => ∃ (a : Addr) (A : Ad) (x : Table), vs = [.ref a] ∧ TabAt C H a A x ∧ TInv x ∧ ∀ (H' : Hp) (p : Addr), H p = none → Same H H' → H' p = some (.lst (nums (Uw77.undone x))) → Q (.ref p) H'
theorem scUnf : FnScope ["self", "wish"] ["self"] (defScope sUnf) := ⟨rfl, rfl, rfl, by decide +kernel, rfl, by decide +kernel, by decide +kernel⟩
theorem bits_get {k m i : Nat} (h : i < k) : ((bits k m).map V.bl)[i]? = some (V.bl (Uw77.isIn m i)) := by
  unfold bits
  rw [List.getElem?_map, List.getElem?_map, List.getElem?_range h]
  rfl
theorem filter_range_succ (p : Nat → Bool) (i : Nat) : (List.range (i + 1)).filter p = (List.range i).filter p ++ (if p i = true then [i] else []) := by
  rw [List.range_succ, List.filter_append]
  congr 1
  cases h : p i <;> simp [h]
theorem nums_app (a b : List Nat) : nums (a ++ b) = nums a ++ nums b := List.map_append
theorem nums_len (a : List Nat) : (nums a).length = a.length := List.length_map _
theorem Same.upd_new {H H' : Hp} {D : Addr} {o : HO} (s : Same H H') (h : H D = Option.none) : Same H (upd H' D o) := fun b u e => by
  rw [upd_ne (ne_of_none e h)]
  exact s b u e
theorem filter_range_len (p : Nat → Bool) (i : Nat) : ((List.range i).filter p).length ≤ i := by
  have := List.length_filter_le p (List.range i)
  rw [List.length_range] at this
  exact this
theorem ok_unf {f C : Addr} {fd : FuncData} (F : Fun K "unfulfilled" "Table.unfulfilled" sUnf f fd) (T : Txt K mg C) : FnOk P w K mg base CX0 1 f fd ["self"] (spUnf C) := by
  refine F.ok scUnf (fun vs H Q E h => ?_) (fun cdv A outer s H vs Q E hr h => ?_)
  · obtain ⟨a, A, x, rfl, _⟩ := h
    rfl
  · obtain ⟨a, A, x, rfl, hT, hI, k⟩ := h
    refine ⟨_, pss_one (ps_ret (pe_lc (own := [("wish", 1)]) rfl scUnf.nd (pi_range1 rfl T.range (pa_cons (pe_callB call_len_seq (by rfl) T.len PySem.boot_len (pa_cons (pe_fld (pv 0) (by rfl)) pa_nil)) pa_nil)) (blkOk_by (show blkC ["self", "wish"] (defScope sUnf) _ [("wish", 1)] = true by decide +kernel))
      (fun _ _ _ _ _ => pg_name (i := 1) scUnf.nd rfl (Or.inl rfl)) (fun _ _ _ _ _ => pts_one (pt_not (pt_val (pe_ix (ix_listK K rfl) (pe_fldK K rfl (pv 0) (by rfl)) (pv 1) (fun _ _ => rfl))))) (fun _ _ _ _ _ => pv 1))), ?_⟩
    refine ⟨_, rfl, a, C, _, _, _, rfl, hT.obj, T.cl, T.nF, tf_f, _, _, rfl, .inl (SqL.of hT.fu), _, rfl, ?_, ?_, fun D hD => ?_⟩
    · rw [List.length_map, bits_len]
      have := hI.k6
      omega
    · rw [List.length_map, bits_len]
      have := hI.k6
      omega
    have en : (((bits x.wishes.length (numberOf x.done)).map V.bl).length : Int).toNat = x.wishes.length := by rw [List.length_map, bits_len]; exact Int.toNat_natCast _
    rw [en]
    refine lc_range (fun i H' => Same H H' ∧ H' D = some (.lst (nums ((List.range i).filter fun i => !Uw77.isIn (numberOf x.done) i)))) ⟨Same.upd_new (Same.refl H) hD, upd_same⟩ ?_ ?_
    · rintro i H' hi ⟨s1, hD1⟩
      have T1 := hT.same s1
      refine ⟨rfl, _, rfl, a, C, _, _, _, rfl, T1.obj, T.cl, T.nF, tf_f, _, rfl, _, _, _, _, rfl, rfl, SqL.of T1.fu, at_of (j := i) (Int.zero_add _) (bits_get hi), _, rfl, ?_⟩
      rw [filter_range_succ]
      cases e : Uw77.isIn (numberOf x.done) i with
      | true =>
        refine iteF ⟨s1, ?_⟩
        rw [hD1]
        simp
      | false =>
        refine iteT ⟨_, rfl, _, hD1, ?_, Same.upd_new s1 hD, ?_⟩
        · rw [nums_len]
          exact Nat.lt_of_le_of_lt (filter_range_len _ _) (small1000 (by have := hI.k6; omega))
        · rw [upd_same, nums_app, Int.zero_add]
          rfl
    · rintro H' ⟨s1, hD1⟩
      rw [← undone_bits hI] at hD1
      exact k H' D hD s1 hD1
end
end Tt
set_option Elab.async false
set_option compiler.extract_closed false
set_option genSizeOf false
set_option linter.all false
set_option maxRecDepth 100000
set_option maxHeartbeats 2000000
namespace Tt
open PySem PySem.Spec PyProof.Rows L2
open Uw77 (Table Wish numberOf)
open Ma
section
variable {P : Program} {w : World} {K : PySem.W.Frag} {mg : Str → Option Value} {base : Heap}
theorem boot_any' : bootBuiltins "any" = some (.builtin "any") := by decide +kernel
theorem boot_all' : bootBuiltins "all" = some (.builtin "all") := by decide +kernel
theorem boot_list' : bootBuiltins "list" = some (.type "list") := by decide +kernel
theorem nums_get {l : List Nat} {i j : Nat} (h : l[i]? = some j) : (nums l)[i]? = some (V.int (j : Nat)) := by
  unfold nums
  rw [List.getElem?_map, h]
  rfl
theorem dec_nat (a b : Nat) : decide (V.int (a : Nat) = V.int (b : Nat)) = (a == b) := by
  rw [dec_int, Bool.eq_iff_iff, beq_iff_eq, beq_iff_eq]
  exact Int.ofNat_inj
theorem map_wish {α : Type} {ws : List Wish} {i : Nat} {v : Wish} (g : Wish → α) (h : ws[i]? = some v) : (ws.map g)[i]? = some (g v) := by
  rw [List.getElem?_map, h]
  rfl
theorem any_places {α : Type} (l : List α) (p : α → Bool) : ((List.range l.length).map fun j => (l[j]?).any p).any id = l.any p := by
  rw [Bool.eq_iff_iff, List.any_eq_true, List.any_eq_true]
  constructor
  · rintro ⟨b, hb, hid⟩
    obtain ⟨j, hj, e⟩ := List.mem_map.mp hb
    have hid : b = true := hid
    rw [hid] at e
    have hj := List.mem_range.mp hj
    rw [List.getElem?_eq_getElem hj] at e
    exact ⟨_, List.getElem_mem hj, e⟩
  · rintro ⟨x, hx, hp⟩
    obtain ⟨j, hj⟩ := List.getElem?_of_mem hx
    refine ⟨true, List.mem_map.mpr ⟨j, List.mem_range.mpr (List.getElem?_eq_some_iff.mp hj).1, ?_⟩, rfl⟩
    rw [hj]
    exact hp
noncomputable def spWan (C : Addr) : Sp := fun vs H Q _ => ∃ (a : Addr) (A : Ad) (x : Table) (g d : Nat), vs = [.ref a, .int (g : Nat), .int (d : Nat)] ∧ TabAt C H a A x ∧ TInv x ∧ ∀ H' : Hp, Same H H' → Q (.bl (x.wishes.any fun v => v.guest == g && v.dish == d)) H'
theorem scWan : FnScope ["self", "guest", "dish", "wish"] ["self", "guest", "dish"] (defScope sWan) := ⟨rfl, rfl, rfl, by decide +kernel, rfl, by decide +kernel, by decide +kernel⟩
theorem ok_wan {f C : Addr} {fd : FuncData} (F : Fun K "is_wanted" "Table.is_wanted" sWan f fd) (T : Txt K mg C) : FnOk P w K mg base CX0 1 f fd ["self", "guest", "dish"] (spWan C) := by
  refine F.ok scWan (fun vs H Q E h => ?_) (fun cdv A outer s H vs Q E hr h => ?_)
  · obtain ⟨a, A, x, g, d, rfl, _⟩ := h
    rfl
  · obtain ⟨a, A, x, g, d, rfl, hT, hI, k⟩ := h
    refine ⟨_, pss_one (ps_ret (pe_callB (cr_any rfl) (by rfl) T.any boot_any' (pa_cons (pe_lc (own := [("wish", 3)]) rfl scWan.nd (pi_range1 rfl T.range (pa_cons (pe_callB call_len_seq (by rfl) T.len PySem.boot_len (pa_cons (pe_fld (pv 0) (by rfl)) pa_nil)) pa_nil))
      (blkOk_by (show blkC ["self", "guest", "dish", "wish"] (defScope sWan) _ [("wish", 3)] = true by decide +kernel))
      (fun _ _ _ _ _ => pg_name (i := 3) scWan.nd rfl (Or.inl rfl)) (fun _ _ _ _ _ => pts_nil)
      (fun _ _ _ _ _ => pe_and (pe_cmpR op_eq (pe_ix (ix_listK K rfl) (pe_fldK K rfl (pv 0) (by rfl)) (pv 3) (fun _ _ => rfl)) (pv 1) (nomark _)) (pe_one (pe_cmpR op_eq (pe_ix (ix_listK K rfl) (pe_fldK K rfl (pv 0) (by rfl)) (pv 3) (fun _ _ => rfl)) (pv 2) (nomark _))))) pa_nil))), ?_⟩
    refine ⟨_, rfl, a, C, _, _, _, rfl, hT.obj, T.cl, T.nG, tf_g, _, _, rfl, .inl (SqL.of hT.gs), _, rfl, ?_, ?_, fun D hD => ?_⟩
    · rw [nums_len, List.length_map]
      have := hI.k6
      omega
    · rw [nums_len, List.length_map]
      have := hI.k6
      omega
    have en : ((nums (x.wishes.map (·.guest))).length : Int).toNat = x.wishes.length := by rw [nums_len, List.length_map]; exact Int.toNat_natCast _
    rw [en]
    refine lc_range (fun i H' => Same H H' ∧ H' D = some (.lst (((List.range i).map fun j => (x.wishes[j]?).any fun v => v.guest == g && v.dish == d).map V.bl))) ⟨Same.upd_new (Same.refl H) hD, upd_same⟩ ?_ ?_
    · rintro i H' hi ⟨s1, hD1⟩
      have T1 := hT.same s1
      have hw : x.wishes[i]? = some x.wishes[i] := List.getElem?_eq_getElem hi
      refine ⟨rfl, _, rfl, a, C, _, _, _, rfl, T1.obj, T.cl, T.nG, tf_g, _, rfl, _, _, _, _, rfl, rfl, SqL.of T1.gs, at_of (j := i) (Int.zero_add _) (nums_get (map_wish (·.guest) hw)), _, rfl, rfl, _, rfl, ?_⟩
      have fin : ∀ b : Bool, b = (x.wishes[i].guest == g && x.wishes[i].dish == d) → ∃ acc, H' D = some (.lst acc) ∧ acc.length < sizeLine ∧ Same H (upd H' D (.lst (acc ++ [V.bl b]))) ∧ (upd H' D (.lst (acc ++ [V.bl b]))) D = some (.lst (((List.range (i + 1)).map fun j => (x.wishes[j]?).any fun v => v.guest == g && v.dish == d).map V.bl)) := fun b e => by
        refine ⟨_, hD1, ?_, Same.upd_new s1 hD, ?_⟩
        · rw [List.length_map, List.length_map, List.length_range]
          exact small1000 (by have := hI.k6; omega)
        · rw [upd_same, List.range_succ, List.map_append, List.map_append, e]
          simp [hw]
      rw [dec_nat]
      cases e1 : x.wishes[i].guest == g with
      | false => exact iteF (fin _ (by rw [e1]; rfl))
      | true =>
        refine iteT ⟨_, rfl, a, C, _, _, _, rfl, T1.obj, T.cl, T.nD, tf_d, _, rfl, _, _, _, _, rfl, rfl, SqL.of T1.ds, at_of (j := i) (Int.zero_add _) (nums_get (map_wish (·.dish) hw)), _, rfl, rfl, ?_⟩
        rw [dec_nat]
        exact fin _ (by rw [e1]; rfl)
    · rintro H' ⟨s1, hD1⟩
      refine ⟨D, _, rfl, SqL.of hD1, ?_⟩
      rw [any_places]
      exact k H' s1
noncomputable def spTurn (C : Addr) : Sp := fun vs H Q _ => ∃ (a : Addr) (A : Ad) (x : Table) (t v : Nat), vs = [.ref a, .int (t : Nat), .int (v : Nat)] ∧ TabAt C H a A x ∧ TInv x ∧ t < x.n ∧ Q (.int (Uw77.turned x.n t v : Nat)) H
theorem scTurn : FnScope ["self", "turned", "way"] ["self", "turned", "way"] (defScope sTurn) := ⟨rfl, rfl, rfl, by decide +kernel, rfl, by decide +kernel, by decide +kernel⟩
theorem ok_turn {f C : Addr} {fd : FuncData} (F : Fun K "turn_after" "Table.turn_after" sTurn f fd) (T : Txt K mg C) : FnOk P w K mg base CX0 1 f fd ["self", "turned", "way"] (spTurn C) := by
  refine F.ok scTurn (fun vs H Q E h => ?_) (fun cdv A outer s H vs Q E hr h => ?_)
  · obtain ⟨a, A, x, t, v, rfl, _⟩ := h
    rfl
  · obtain ⟨a, A, x, t, v, rfl, hT, hI, ht, k⟩ := h
    obtain ⟨tr, hr0⟩ := T.rgt
    refine ⟨_, pss_cons (ps_if (pt_cmpR op_eq (pv 2) (pe_glob (v := .int 0) (by rfl) hr0 ⟨_, rfl⟩) (nomark _)) (pss_one (ps_ret (pe_op op_mod (pe_op op_add (pv 1) pe_int) (pe_fld (pv 0) (by rfl))))) pss_nil)
      (pss_one (ps_ret (pe_op op_mod (pe_op op_sub (pv 1) pe_int) (pe_fld (pv 0) (by rfl))))), ?_⟩
    have n2 := hI.n2
    refine ⟨_, rfl, rfl, _, rfl, ?_⟩
    have e0 : decide (V.int (v : Nat) = V.int 0) = (v == 0) := dec_nat v 0
    rw [e0]
    cases e1 : v == 0 with
    | true =>
      have e2 : v = 0 := eq_of_beq e1
      refine iteT ⟨_, rfl, _, _, rfl, rfl, _, rfl, a, C, _, _, _, rfl, hT.obj, T.cl, T.nP, tf_p, _, _, rfl, rfl, (by show (0 : Int) < x.n; omega), ?_⟩
      show Q (V.int (((t : Nat) + 1) % (x.n : Nat))) H
      have e3 : ((t : Int) + 1) % (x.n : Int) = ((Uw77.turned x.n t v : Nat) : Int) := by
        unfold Uw77.turned
        rw [if_pos e2, Int.natCast_emod, Int.natCast_add]
        rfl
      rw [e3]
      exact k
    | false =>
      have e2 : ¬ v = 0 := fun q => by rw [q] at e1; cases e1
      refine iteF ⟨_, rfl, _, _, rfl, rfl, _, rfl, a, C, _, _, _, rfl, hT.obj, T.cl, T.nP, tf_p, _, _, rfl, rfl, (by show (0 : Int) < x.n; omega), ?_⟩
      show Q (V.int (((t : Nat) - 1) % (x.n : Nat))) H
      have e3 : ((t : Int) - 1) % (x.n : Int) = ((Uw77.turned x.n t v : Nat) : Int) := by
        unfold Uw77.turned
        rw [if_neg e2, Int.natCast_emod, show ((t + x.n - 1 : Nat) : Int) = ((t : Int) - 1) + x.n by omega, Int.add_emod_right]
      rw [e3]
      exact k
noncomputable def spServ (C : Addr) : Sp := fun vs H Q _ => ∃ (a : Addr) (A : Ad) (x : Table) (i t : Nat) (v : Wish), vs = [.ref a, .int (i : Nat), .int (t : Nat)] ∧ TabAt C H a A x ∧ TInv x ∧ x.wishes[i]? = some v ∧ t < x.n ∧ Q (.bl (Uw77.meets x.n v == t)) H
theorem scServ : FnScope ["self", "wish", "turned"] ["self", "wish", "turned"] (defScope sServ) := ⟨rfl, rfl, rfl, by decide +kernel, rfl, by decide +kernel, by decide +kernel⟩
theorem ok_serv {f C : Addr} {fd : FuncData} (F : Fun K "is_served" "Table.is_served" sServ f fd) (T : Txt K mg C) : FnOk P w K mg base CX0 1 f fd ["self", "wish", "turned"] (spServ C) := by
  refine F.ok scServ (fun vs H Q E h => ?_) (fun cdv A outer s H vs Q E hr h => ?_)
  · obtain ⟨a, A, x, i, t, v, rfl, _⟩ := h
    rfl
  · obtain ⟨a, A, x, i, t, v, rfl, hT, hI, hv, ht, k⟩ := h
    have n2 := hI.n2
    have gd := hI.gd v (List.mem_of_getElem? hv)
    refine ⟨_, pss_one (ps_ret (pe_cmpR op_eq (pe_op op_mod (pe_op op_add (pe_ix ix_list (pe_fld (pv 0) (by rfl)) (pv 1) (fun _ _ => rfl)) (pv 2)) (pe_fld (pv 0) (by rfl))) (pe_ix ix_list (pe_fld (pv 0) (by rfl)) (pv 1) (fun _ _ => rfl)) (nomark _))), ?_⟩
    refine ⟨_, rfl, a, C, _, _, _, rfl, hT.obj, T.cl, T.nD, tf_d, _, rfl, _, _, _, _, rfl, rfl, SqL.of hT.ds, at_of (j := i) rfl (nums_get (map_wish (·.dish) hv)), _, rfl, _, _, rfl, rfl, _, rfl, a, C, _, _, _, rfl, hT.obj, T.cl, T.nP, tf_p, _, _, rfl, rfl, (by show (0 : Int) < x.n; omega),
      _, rfl, a, C, _, _, _, rfl, hT.obj, T.cl, T.nG, tf_g, _, rfl, _, _, _, _, rfl, rfl, SqL.of hT.gs, at_of (j := i) rfl (nums_get (map_wish (·.guest) hv)), rfl, ?_⟩
    show Q (V.bl (decide (V.int (((v.dish : Nat) + (t : Nat)) % (x.n : Nat)) = V.int (v.guest : Nat)))) H
    have e : ((v.dish : Int) + (t : Int)) % (x.n : Int) = (((v.dish + t) % x.n : Nat) : Int) := by rw [Int.natCast_emod, Int.natCast_add]
    rw [e, dec_nat, meets_iff hI.n8 gd.1 gd.2 ht]
    exact k
end
end Tt
set_option Elab.async false
set_option compiler.extract_closed false
set_option genSizeOf false
set_option linter.all false
set_option maxRecDepth 100000
set_option maxHeartbeats 2000000
namespace Tt
open PySem PySem.Spec PyProof.Rows L2
open Uw77 (Table Wish numberOf)
open Ma
section
variable {P : Program} {w : World} {K : PySem.W.Frag} {mg : Str → Option Value} {base : Heap}
theorem has_get {bs : List Bool} {j : Nat} (h : j < bs.length) : (bs.map V.bl)[j]? = some (V.bl (has bs j)) := by
  unfold has
  rw [List.getElem?_map, List.getD_eq_getElem?_getD, List.getElem?_eq_getElem h]
  rfl
theorem take_snoc' {α : Type} {l : List α} {i : Nat} {x : α} (h : l[i]? = some x) : l.take (i + 1) = l.take i ++ [x] := by
  rw [List.take_succ, h]
  rfl
theorem nums_some {l : List Nat} {i : Nat} {y : V} (h : (nums l)[i]? = some y) : ∃ j : Nat, l[i]? = some j ∧ y = V.int (j : Nat) := by
  unfold nums at h
  rw [List.getElem?_map] at h
  cases e : l[i]? with
  | none => rw [e] at h; cases h
  | some j =>
    rw [e] at h
    exact ⟨j, rfl, (Option.some.inj h).symm⟩
theorem beh_len {x : Table} (hI : TInv x) {i : Nat} {v : Wish} (hv : x.wishes[i]? = some v) : v.behind.length ≤ 6 :=
  Nat.le_trans (nd_lt (hI.nd v (List.mem_of_getElem? hv)) (hI.ins i v hv)) hI.k6
theorem TabAt.hs_get {C : Addr} {H : Hp} {a : Addr} {A : Ad} {x : Table} (hT : TabAt C H a A x) {i : Nat} {v : Wish} (hv : x.wishes[i]? = some v) : ∃ b, A.hs[i]? = some b ∧ H b = some (.lst (nums v.behind)) := by
  have hi : i < A.hs.length := by rw [hT.len]; exact (List.getElem?_eq_some_iff.mp hv).1
  exact ⟨_, List.getElem?_eq_getElem hi, hT.beh i _ v (List.getElem?_eq_getElem hi) hv⟩
theorem refs_get {l : List Addr} {i : Nat} {b : Addr} (h : l[i]? = some b) : (l.map V.ref)[i]? = some (V.ref b) := by
  rw [List.getElem?_map, h]
  rfl
noncomputable def spFree (C : Addr) : Sp := fun vs H Q _ => ∃ (a : Addr) (A : Ad) (x : Table) (i : Nat) (v : Wish) (b : Addr) (bs : List Bool), vs = [.ref a, .int (i : Nat), .ref b] ∧ TabAt C H a A x ∧ TInv x ∧ x.wishes[i]? = some v ∧ H b = some (.lst (bs.map V.bl)) ∧ bs.length = x.wishes.length ∧
  ∀ H' : Hp, Same H H' → Q (.bl (v.behind.all (has bs))) H'
theorem scFree : FnScope ["self", "wish", "fulfilled", "other"] ["self", "wish", "fulfilled"] (defScope sFree) := ⟨rfl, rfl, rfl, by decide +kernel, rfl, by decide +kernel, by decide +kernel⟩
theorem ok_free {f C : Addr} {fd : FuncData} (F : Fun K "is_free" "Table.is_free" sFree f fd) (T : Txt K mg C) : FnOk P w K mg base CX0 1 f fd ["self", "wish", "fulfilled"] (spFree C) := by
  refine F.ok scFree (fun vs H Q E h => ?_) (fun cdv A outer s H vs Q E hr h => ?_)
  · obtain ⟨a, A, x, i, v, b, bs, rfl, _⟩ := h
    rfl
  · obtain ⟨a, A, x, i, v, b, bs, rfl, hT, hI, hv, hb, hl, k⟩ := h
    obtain ⟨c, hc, hcl⟩ := hT.hs_get hv
    refine ⟨_, pss_one (ps_ret (pe_callB (cr_all rfl) (by rfl) T.all boot_all' (pa_cons (pe_lc (own := [("other", 3)]) rfl scFree.nd (pi_list (pe_ix ix_list (pe_fld (pv 0) (by rfl)) (pv 1) (fun _ _ => rfl)))
      (blkOk_by (show blkC ["self", "wish", "fulfilled", "other"] (defScope sFree) _ [("other", 3)] = true by decide +kernel))
      (fun _ _ _ _ _ => pg_name (i := 3) scFree.nd rfl (Or.inl rfl)) (fun _ _ _ _ _ => pts_nil)
      (fun _ _ _ _ _ => pe_ix (ix_listK K rfl) (pv 2) (pv 3) (fun _ _ => rfl))) pa_nil))), ?_⟩
    refine ⟨_, rfl, a, C, _, _, _, rfl, hT.obj, T.cl, T.nA, tf_h, _, rfl, _, _, _, _, rfl, rfl, SqL.of hT.ah, at_of (j := i) rfl (refs_get hc), c, rfl, ⟨_, SqL.of hcl⟩, fun D hD => ?_⟩
    refine lc_list (K := K) (a := c) (xs := nums v.behind) (fun i H' => Same H H' ∧ H' D = some (.lst (((v.behind.take i).map (has bs)).map V.bl))) ⟨Same.upd_new (Same.refl H) hD, upd_same⟩ (fun i H' _ hZ => have s1 := hZ.1; SqL.of (s1 _ _ hcl)) ?_ ?_
    · rintro i y H' hi ⟨s1, hD1⟩
      obtain ⟨j, hj, rfl⟩ := nums_some hi
      have hjl : j < bs.length := by rw [hl]; exact hI.ins _ v hv j (List.mem_of_getElem? hj)
      refine ⟨rfl, _, rfl, _, rfl, _, _, _, _, rfl, rfl, SqL.of (s1 _ _ hb), at_of (j := j) rfl (has_get hjl), _, hD1, ?_, Same.upd_new s1 hD, ?_⟩
      · rw [List.length_map, List.length_map, List.length_take]
        exact small1000 (by have := beh_len hI hv; omega)
      · rw [upd_same, take_snoc' hj, List.map_append, List.map_append]
        rfl
    · rintro H' ⟨s1, hD1⟩
      refine ⟨D, _, rfl, SqL.of hD1, ?_⟩
      rw [nums_len, List.take_length, List.all_map]
      exact k H' s1
noncomputable def spSet (C : Addr) : Sp := fun vs H Q _ => ∃ (a : Addr) (A : Ad) (x : Table) (t : Nat) (b : Addr) (bs : List Bool), vs = [.ref a, .int (t : Nat), .ref b] ∧ TabAt C H a A x ∧ TInv x ∧ t < x.n ∧ (H b = some (.lst (bs.map V.bl)) ∨ H b = some (.tup (bs.map V.bl))) ∧ bs.length = x.wishes.length ∧
  ∀ (H' : Hp) (p : Addr), H p = none → Same H H' → H' p = some (.lst ((settle x.n x.wishes t x.wishes.length bs).map V.bl)) → Q (.ref p) H'
theorem scSet : FnScope ["self", "turned", "fulfilled", "now", "walk", "wish"] ["self", "turned", "fulfilled"] (defScope sSet) := ⟨rfl, rfl, rfl, by decide +kernel, rfl, by decide +kernel, by decide +kernel⟩
theorem canP_wish {n : Nat} {ws : List Wish} {t i : Nat} {X : Nat → Bool} {v : Wish} (h : ws[i]? = some v) : canP n ws t X i = (Uw77.meets n v == t && v.behind.all X) := by
  unfold canP
  rw [h]
  rfl
theorem fold_snoc {n : Nat} {ws : List Wish} {t j : Nat} {bs : List Bool} : (List.range (j + 1)).foldl (pass1 n ws t) bs = pass1 n ws t ((List.range j).foldl (pass1 n ws t) bs) j := by
  rw [List.range_succ, List.foldl_append]
  rfl
theorem pass1_wish {n : Nat} {ws : List Wish} {t j : Nat} {now : List Bool} {v : Wish} (h : ws[j]? = some v) : pass1 n ws t now j = if (Uw77.meets n v == t && v.behind.all (has now)) = true then now.set j true else now := by
  unfold pass1
  rw [canP_wish h]
theorem set_bl (bs : List Bool) (j : Nat) : (bs.map V.bl).set j (V.bl true) = (bs.set j true).map V.bl := by
  rw [List.map_set]
theorem ok_set {f C fS fR : Addr} {fd fdS fdR : FuncData} (F : Fun K "settled" "Table.settled" sSet f fd) (T : Txt K mg C)
    (FS : Fun K "is_served" "Table.is_served" sServ fS fdS) (bS : Binds K fdS ["self", "wish", "turned"] []) (mS : Meth K C "is_served" fS)
    (FR : Fun K "is_free" "Table.is_free" sFree fR fdR) (bR : Binds K fdR ["self", "wish", "fulfilled"] []) (mR : Meth K C "is_free" fR) : FnOk P w K mg base CX0 2 f fd ["self", "turned", "fulfilled"] (spSet C) := by
  have GS : FnOk P w K mg base CX0 1 fS fdS ["self", "wish", "turned"] (spServ C) := ok_serv FS T
  have GR : FnOk P w K mg base CX0 1 fR fdR ["self", "wish", "fulfilled"] (spFree C) := ok_free FR T
  refine F.ok scSet (fun vs H Q E h => ?_) (fun cdv A outer s H vs Q E hr h => ?_)
  · obtain ⟨a, A, x, t, b, bs, rfl, _⟩ := h
    rfl
  · obtain ⟨a, A, x, t, b, bs, rfl, hT, hI, ht, hb, hl, k⟩ := h
    refine ⟨_, pss_cons (ps_set (i := 3) scSet.nd rfl (Or.inl rfl) (pe_callTy call_list_of (by rfl) T.list boot_list' (pa_cons (pv 2) pa_nil)))
      (pss_cons (ps_for PassesOwn.never rfl (pi_range1 rfl T.range (pa_cons (pe_callB call_len_seq (by rfl) T.len PySem.boot_len (pa_cons (pv 3) pa_nil)) pa_nil)) (pg_name (i := 4) scSet.nd rfl (Or.inl rfl))
        (pss_one (ps_for PassesOwn.never rfl (pi_range1 rfl T.range (pa_cons (pe_callB call_len_seq (by rfl) T.len PySem.boot_len (pa_cons (pv 3) pa_nil)) pa_nil)) (pg_name (i := 5) scSet.nd rfl (Or.inl rfl))
          (pss_one (ps_if (pw_and (pt_val (pe_meth (pv 0) T.cl mS GS hr bS .nil pass0 (pa_cons (pv 5) (pa_cons (pv 1) pa_nil)))) (pw_and1 (pt_val (pe_meth (pv 0) T.cl mR GR hr bR .nil pass0 (pa_cons (pv 5) (pa_cons (pv 3) pa_nil)))))).pt
            (pss_one (ps_asg pe_bl (pg_sub (pv 3) (pv 5) set_list))) pss_nil)))))
      (pss_one (ps_ret (pv 3)))), ?_⟩
    have k6 := hI.k6
    refine ⟨_, rfl, _, _, rfl, hb.imp SqL.of SqT.of, fun p hp => ?_⟩
    have s0 : Same H (upd H p (.lst (bs.map V.bl))) := Same.upd_new (Same.refl H) hp
    refine ⟨_, rfl, _, _, rfl, .inl (SqL.of upd_same), _, rfl, (by rw [List.length_map]; omega), (by rw [List.length_map]; omega), ?_⟩
    have en : ((bs.map V.bl).length : Int).toNat = x.wishes.length := by rw [List.length_map, hl]; exact Int.toNat_natCast _
    rw [en]
    refine for_range (fun i σ H' => ∃ v4 v5 : Option V, σ = [some (.ref a), some (.int (t : Nat)), some (.ref b), some (.ref p), v4, v5] ∧ Same H H' ∧ H' p = some (.lst ((settle x.n x.wishes t i bs).map V.bl))) ⟨none, none, rfl, s0, upd_same⟩ ?_ ?_
    · rintro i σ H' hi ⟨v4, v5, rfl, s1, h1⟩
      have len1 : (settle x.n x.wishes t i bs).length = x.wishes.length := by rw [settle_len, hl]
      refine ⟨_, rfl, _, _, rfl, .inl (SqL.of h1), _, rfl, (by rw [List.length_map]; omega), (by rw [List.length_map]; omega), ?_⟩
      have en1 : (((settle x.n x.wishes t i bs).map V.bl).length : Int).toNat = x.wishes.length := by rw [List.length_map, len1]; exact Int.toNat_natCast _
      rw [en1]
      refine for_range (fun j σ H' => ∃ v5 : Option V, σ = [some (.ref a), some (.int (t : Nat)), some (.ref b), some (.ref p), some (.int (0 + (i : Nat))), v5] ∧ Same H H' ∧ H' p = some (.lst (((List.range j).foldl (pass1 x.n x.wishes t) (settle x.n x.wishes t i bs)).map V.bl))) ⟨v5, rfl, s1, h1⟩ ?_ ?_
      · rintro j σ H2 hj ⟨v5, rfl, s2, h2⟩
        have hw : x.wishes[j]? = some x.wishes[j] := List.getElem?_eq_getElem hj
        have T2 := hT.same s2
        have len2 : ((List.range j).foldl (pass1 x.n x.wishes t) (settle x.n x.wishes t i bs)).length = x.wishes.length := by rw [fold_len, len1]
        have enow := fold_snoc (n := x.n) (ws := x.wishes) (t := t) (j := j) (bs := settle x.n x.wishes t i bs)
        rw [pass1_wish hw] at enow
        rw [enow]
        generalize (List.range j).foldl (pass1 x.n x.wishes t) (settle x.n x.wishes t i bs) = now at h2 len2 ⊢
        refine ⟨_, rfl, a, _, _, rfl, T2.obj, rfl, _, rfl, _, rfl, a, A, x, j, t, x.wishes[j], (by rw [Int.zero_add]; rfl), T2, hI, hw, ht, _, rfl, ?_⟩
        cases e1 : Uw77.meets x.n x.wishes[j] == t with
        | false => exact iteF (iteF ⟨_, rfl, s2, (by rw [Bool.false_and]; exact h2)⟩)
        | true =>
          refine iteT ⟨_, rfl, a, _, _, rfl, T2.obj, rfl, _, rfl, _, rfl, a, A, x, j, x.wishes[j], p, now, (by rw [Int.zero_add]; rfl), T2, hI, hw, h2, len2, fun H3 s3 => ⟨_, rfl, ?_⟩⟩
          have h3 := s3 _ _ h2
          cases e2 : x.wishes[j].behind.all (has now) with
          | false => exact iteF ⟨_, rfl, s2.trans s3, (by rw [Bool.and_false]; exact h3)⟩
          | true =>
            refine iteT ⟨_, rfl, _, rfl, p, _, _, j, rfl, rfl, h3, ?_, ⟨_, rfl, Same.upd_new (s2.trans s3) hp, ?_⟩⟩
            · unfold ixN
              rw [Int.zero_add, if_pos (Int.natCast_nonneg j), List.length_map, len2, if_pos (Int.ofNat_lt.mpr hj)]
              rfl
            · rw [upd_same, set_bl]
              rfl
      · rintro σ H2 ⟨v5, rfl, s2, h2⟩
        exact ⟨_, _, rfl, s2, h2⟩
    · rintro σ H' ⟨v4, v5, rfl, s1, h1⟩
      exact ⟨_, rfl, k H' p hp s1 h1⟩
end
end Tt
set_option Elab.async false
set_option compiler.extract_closed false
set_option genSizeOf false
set_option linter.all false
set_option maxRecDepth 100000
set_option maxHeartbeats 2000000
namespace Tt
open PySem PySem.Spec PyProof.Rows L2
open Uw77 (Table Wish numberOf)
open Ma
section
variable {P : Program} {w : World} {K : PySem.W.Frag} {mg : Str → Option Value} {base : Heap}
theorem TabAt.ne {C : Addr} {H : Hp} {a : Addr} {A : Ad} {x : Table} (hT : TabAt C H a A x) : ∀ b ∈ A.all, b ≠ a := by
  intro b hb
  unfold Ad.all at hb
  simp only [List.mem_cons] at hb
  rcases hb with rfl | rfl | rfl | rfl | hb
  · exact ne_of hT.gs hT.obj (by intro q; cases q)
  · exact ne_of hT.ds hT.obj (by intro q; cases q)
  · exact ne_of hT.ah hT.obj (by intro q; cases q)
  · exact ne_of hT.fu hT.obj (by intro q; cases q)
  · obtain ⟨i, hi⟩ := List.getElem?_of_mem hb
    have hl : i < x.wishes.length := by rw [← hT.len]; exact (List.getElem?_eq_some_iff.mp hi).1
    exact ne_of (hT.beh i b _ hi (List.getElem?_eq_getElem hl)) hT.obj (by intro q; cases q)
theorem TabAt.there {C : Addr} {H : Hp} {a : Addr} {A : Ad} {x : Table} (hT : TabAt C H a A x) : ∀ b ∈ A.all, ∃ xs, H b = some (.lst xs) := by
  intro b hb
  unfold Ad.all at hb
  simp only [List.mem_cons] at hb
  rcases hb with rfl | rfl | rfl | rfl | hb
  · exact ⟨_, hT.gs⟩
  · exact ⟨_, hT.ds⟩
  · exact ⟨_, hT.ah⟩
  · exact ⟨_, hT.fu⟩
  · obtain ⟨i, hi⟩ := List.getElem?_of_mem hb
    have hl : i < x.wishes.length := by rw [← hT.len]; exact (List.getElem?_eq_some_iff.mp hi).1
    exact ⟨_, hT.beh i b _ hi (List.getElem?_eq_getElem hl)⟩
theorem Ad.in_g {A : Ad} : A.g ∈ A.all := by simp [Ad.all]
theorem Ad.in_d {A : Ad} : A.d ∈ A.all := by simp [Ad.all]
theorem Ad.in_h {A : Ad} : A.h ∈ A.all := by simp [Ad.all]
theorem Ad.in_f {A : Ad} : A.f ∈ A.all := by simp [Ad.all]
theorem Ad.in_s {A : Ad} {b : Addr} (h : b ∈ A.hs) : b ∈ A.all := by simp [Ad.all, h]
theorem TabAt.wr {C : Addr} {H : Hp} {a : Addr} {A : Ad} {x : Table} (hT : TabAt C H a A x) (t : Nat) : TabAt C (upd H a (.ins C A.dx (tf x.n (t : Nat) A.g A.d A.h A.f))) a A { x with turn := t } :=
  ⟨upd_same, by rw [upd_ne (hT.ne _ Ad.in_g)]; exact hT.gs, by rw [upd_ne (hT.ne _ Ad.in_d)]; exact hT.ds, by rw [upd_ne (hT.ne _ Ad.in_h)]; exact hT.ah, by rw [upd_ne (hT.ne _ Ad.in_f)]; exact hT.fu, hT.len,
    fun i b v h1 h2 => by rw [upd_ne (hT.ne _ (Ad.in_s (List.mem_of_getElem? h1)))]; exact hT.beh i b v h1 h2, hT.nd⟩
theorem TabAt.ful {C : Addr} {H : Hp} {a : Addr} {A : Ad} {x : Table} (hT : TabAt C H a A x) (k6 : x.wishes.length ≤ 6) {p : Addr} {m : Nat} (hm : m < 2 ^ x.wishes.length) (hp : H p = some (.lst ((bits x.wishes.length m).map V.bl))) (np : p ∉ A.all) :
    TabAt C (upd H a (.ins C A.dx (tf x.n x.turn A.g A.d A.h p))) a { A with f := p } { x with done := Uw77.membersOf x.wishes.length m } := by
  refine ⟨upd_same, by rw [upd_ne (hT.ne _ Ad.in_g)]; exact hT.gs, by rw [upd_ne (hT.ne _ Ad.in_d)]; exact hT.ds, by rw [upd_ne (hT.ne _ Ad.in_h)]; exact hT.ah, ?_, hT.len,
    fun i b v h1 h2 => by rw [upd_ne (hT.ne _ (Ad.in_s (List.mem_of_getElem? h1)))]; exact hT.beh i b v h1 h2, ?_⟩
  · show upd H a _ p = some (.lst ((bits x.wishes.length (numberOf (Uw77.membersOf x.wishes.length m))).map V.bl))
    rw [num_members k6 hm, upd_ne (ne_of hp hT.obj (by intro q; cases q))]
    exact hp
  · have nd := hT.nd
    unfold Ad.all at nd np ⊢
    simp only [List.nodup_cons, List.mem_cons, not_or] at nd np ⊢
    obtain ⟨⟨a1, a2, a3, a4⟩, ⟨b1, b2, b3⟩, ⟨c1, c2⟩, d1, e⟩ := nd
    obtain ⟨p1, p2, p3, p4, p5⟩ := np
    exact ⟨⟨a1, a2, fun q => p1 q.symm, a4⟩, ⟨b1, fun q => p2 q.symm, b3⟩, ⟨fun q => p3 q.symm, c2⟩, p5, e⟩
theorem turn_inv {x : Table} (hI : TInv x) {t : Nat} (ht : t < x.n) : TInv { x with turn := t } := ⟨hI.n2, hI.n8, ht, hI.k6, hI.gd, hI.ins, hI.nd, hI.rank, hI.lt, hI.done⟩
noncomputable def spMake (C : Addr) : Sp := fun vs H Q _ => ∃ (a : Addr) (A : Ad) (x : Table) (v : Nat), vs = [.ref a, .int (v : Nat)] ∧ TabAt C H a A x ∧ TInv x ∧
  ∀ (H' : Hp) (A' : Ad), TabAt C H' a A' (Uw77.stepped x v) → (∀ b o, H b = some o → b ≠ a → H' b = some o) → (∀ b ∈ A'.all, b ∈ A.all ∨ H b = none) → Q .non H'
theorem scMake : FnScope ["self", "way"] ["self", "way"] (defScope sMake) := ⟨rfl, rfl, rfl, by decide +kernel, rfl, by decide +kernel, by decide +kernel⟩
theorem ok_make {f C fT fS : Addr} {fd fdT fdS : FuncData} (F : Fun K "make_step" "Table.make_step" sMake f fd) (T : Txt K mg C)
    (GT : FnOk P w K mg base CX0 1 fT fdT ["self", "turned", "way"] (spTurn C)) (bT : Binds K fdT ["self", "turned", "way"] []) (mT : Meth K C "turn_after" fT)
    (GS : FnOk P w K mg base CX0 2 fS fdS ["self", "turned", "fulfilled"] (spSet C)) (bS : Binds K fdS ["self", "turned", "fulfilled"] []) (mS : Meth K C "settled" fS) : FnOk P w K mg base CX0 3 f fd ["self", "way"] (spMake C) := by
  refine F.ok scMake (fun vs H Q E h => ?_) (fun cdv A outer s H vs Q E hr h => ?_)
  · obtain ⟨a, A, x, v, rfl, _⟩ := h
    rfl
  · obtain ⟨a, A, x, v, rfl, hT, hI, k⟩ := h
    have hr1 : Room 1 _ := hr.mono (by decide)
    refine ⟨_, pss_cons (ps_fld (pv 0) (pe_meth (pv 0) T.cl mT GT hr1 bT .nil pass0 (pa_cons (pe_fld (pv 0) (by rfl)) (pa_cons (pv 1) pa_nil))) rfl)
      (pss_one (ps_fld (pv 0) (pe_meth (pv 0) T.cl mS GS hr bS .nil pass0 (pa_cons (pe_fld (pv 0) (by rfl)) (pa_cons (pe_fld (pv 0) (by rfl)) pa_nil))) rfl)), ?_⟩
    have n2 := hI.n2
    have htn : Uw77.turned x.n x.turn v < x.n := turned_lt (by omega)
    refine ⟨_, rfl, a, _, _, rfl, hT.obj, rfl, _, rfl, a, C, _, _, _, rfl, hT.obj, T.cl, T.nT, tf_t, _, rfl, a, A, x, x.turn, v, rfl, hT, hI, hI.t, _, rfl, a, C, _, _, rfl, hT.obj, T.cl, T.nT, (by show 6 < 1000; decide), ?_⟩
    rw [tf_pt]
    have T1 := hT.wr (Uw77.turned x.n x.turn v)
    have I1 := turn_inv hI htn
    refine ⟨_, rfl, a, _, _, rfl, T1.obj, rfl, _, rfl, a, C, _, _, _, rfl, T1.obj, T.cl, T.nT, tf_t, _, rfl, a, C, _, _, _, rfl, T1.obj, T.cl, T.nF, tf_f,
      a, A, _, Uw77.turned x.n x.turn v, A.f, _, rfl, T1, I1, htn, .inl T1.fu, bits_len _ _, fun H2 p hp s2 h2 => ?_⟩
    have T2 := T1.same s2
    have sv := serve_ok (n := x.n) (t := Uw77.turned x.n x.turn v) hI.k6 hI.ins hI.lt
    have h2' : H2 p = some (.lst ((bits x.wishes.length (Uw77.serve x.n x.wishes (Uw77.turned x.n x.turn v) (numberOf x.done))).map V.bl)) := by
      rw [← settle_serve hI.k6 hI.ins hI.lt]
      exact h2
    obtain ⟨npa, hp0⟩ := upd_none hp
    have np : p ∉ A.all := fun hm => by
      obtain ⟨xs, q⟩ := hT.there p hm
      rw [q] at hp0
      cases hp0
    refine ⟨_, rfl, a, C, _, _, rfl, T2.obj, T.cl, T.nF, (by show 6 < 1000; decide), ?_⟩
    rw [tf_pf]
    refine k _ { A with f := p } (T2.ful hI.k6 sv.lt h2' np) (fun b o e hb => ?_) (fun b hb => ?_)
    · rw [upd_ne hb]
      exact s2 _ _ (by rw [upd_ne hb]; exact e)
    · unfold Ad.all at hb ⊢
      simp only [List.mem_cons] at hb ⊢
      rcases hb with h | h | h | h | h
      · exact .inl (.inl h)
      · exact .inl (.inr (.inl h))
      · exact .inl (.inr (.inr (.inl h)))
      · exact .inr (by rw [h]; exact hp0)
      · exact .inl (.inr (.inr (.inr (.inr h))))
noncomputable def spPut (C : Addr) : Sp := fun vs H Q _ => ∃ (a : Addr) (A : Ad) (x : Table) (i j : Nat), vs = [.ref a, .int (i : Nat), .int (j : Nat)] ∧ TabAt C H a A x ∧ TInv x ∧ i < x.wishes.length ∧
  ∀ H' : Hp, TabAt C H' a A (put1 x i j) → (∀ b o, H b = some o → b ∉ A.all → H' b = some o) → Q .non H'
theorem scPut : FnScope ["self", "one", "other"] ["self", "one", "other"] (defScope sPut) := ⟨rfl, rfl, rfl, by decide +kernel, rfl, by decide +kernel, by decide +kernel⟩
theorem map_mod {α : Type} (ws : List Wish) (i : Nat) (h : Wish → Wish) (g : Wish → α) (e : ∀ v, g (h v) = g v) : (ws.modify i h).map g = ws.map g := by
  refine List.ext_getElem? fun k => ?_
  rw [List.getElem?_map, List.getElem?_map, List.getElem?_modify]
  cases q : ws[k]? with
  | none => rfl
  | some v =>
    by_cases c : i = k
    · simp [c, e]
    · simp [c]
theorem ok_put {f C : Addr} {fd : FuncData} (F : Fun K "put_behind" "Table.put_behind" sPut f fd) (T : Txt K mg C) : FnOk P w K mg base CX0 1 f fd ["self", "one", "other"] (spPut C) := by
  refine F.ok scPut (fun vs H Q E h => ?_) (fun cdv A outer s H vs Q E hr h => ?_)
  · obtain ⟨a, A, x, i, j, rfl, _⟩ := h
    rfl
  · obtain ⟨a, A, x, i, j, rfl, hT, hI, hi, k⟩ := h
    have hw : x.wishes[i]? = some x.wishes[i] := List.getElem?_eq_getElem hi
    obtain ⟨c, hc, hcl⟩ := hT.hs_get hw
    refine ⟨_, pss_one (ps_expr (pe_bm PySem.F.plainAttrs_list PySem.F.slot_list_append PySem.F.type_list_append mt_append (pe_ix ix_list (pe_fld (pv 0) (by rfl)) (pv 1) (fun _ _ => rfl)) (pa_cons (pv 2) pa_nil))), ?_⟩
    refine ⟨_, rfl, a, C, _, _, _, rfl, hT.obj, T.cl, T.nA, tf_h, _, rfl, _, _, _, _, rfl, rfl, SqL.of hT.ah, at_of (j := i) rfl (refs_get hc), .inl ⟨rfl, _, SqL.of hcl⟩, _, rfl, c, _, _, rfl, rfl, hcl, ?_, ?_⟩
    · rw [nums_len]
      exact small1000 (by have := beh_len hI hw; omega)
    · have mc : c ∈ A.hs := List.mem_of_getElem? hc
      have nd := hT.nd
      unfold Ad.all at nd
      simp only [List.nodup_cons, List.mem_cons, not_or] at nd
      obtain ⟨⟨a1, a2, a3, a4⟩, ⟨b1, b2, b3⟩, ⟨c1, c2⟩, d1, e⟩ := nd
      have ng : A.g ≠ c := fun q => a4 (q ▸ mc)
      have nd' : A.d ≠ c := fun q => b3 (q ▸ mc)
      have nh : A.h ≠ c := fun q => c2 (q ▸ mc)
      have nf : A.f ≠ c := fun q => d1 (q ▸ mc)
      have na : a ≠ c := (hT.ne c (Ad.in_s mc)).symm
      have len : (put1 x i j).wishes.length = x.wishes.length := List.length_modify _ _ _
      refine k _ ⟨by rw [upd_ne na]; exact hT.obj, ?_, ?_, by rw [upd_ne nh]; exact hT.ah, ?_, by rw [len]; exact hT.len, fun m b v h1 h2 => ?_, hT.nd⟩ (fun b o e hb => by rw [upd_ne (show b ≠ c from fun q => hb (by rw [q]; exact Ad.in_s mc))]; exact e)
      · rw [upd_ne ng]
        show H A.g = some (.lst (nums ((x.wishes.modify i _).map (·.guest))))
        rw [map_mod x.wishes i (fun w => { w with behind := w.behind ++ [j] }) (·.guest) (fun _ => rfl)]
        exact hT.gs
      · rw [upd_ne nd']
        show H A.d = some (.lst (nums ((x.wishes.modify i _).map (·.dish))))
        rw [map_mod x.wishes i (fun w => { w with behind := w.behind ++ [j] }) (·.dish) (fun _ => rfl)]
        exact hT.ds
      · rw [upd_ne nf, len]
        exact hT.fu
      · obtain ⟨u, hu, ev⟩ := mod_get h2
        by_cases q : i = m
        · subst q
          have eb : b = c := Option.some.inj (h1.symm.trans hc)
          rw [if_pos rfl] at ev
          have eu : u = x.wishes[i] := Option.some.inj (hu.symm.trans hw)
          rw [eb, upd_same, ev, eu]
          show _ = some (HO.lst (nums (x.wishes[i].behind ++ [j])))
          rw [nums_app]
          rfl
        · rw [if_neg q] at ev
          have nb : b ≠ c := fun z => q (nd_ix e hc (by rw [← z]; exact h1))
          rw [upd_ne nb, ev]
          exact hT.beh m b u h1 hu
end
end Tt
set_option Elab.async false
set_option compiler.extract_closed false
set_option genSizeOf false
set_option linter.all false
set_option maxRecDepth 100000
set_option maxHeartbeats 2000000
namespace Tt
open PySem PySem.Spec PyProof.Rows L2
open Uw77 (Table Wish numberOf)
open Ma
section
variable {P : Program} {w : World} {K : PySem.W.Frag} {mg : Str → Option Value} {base : Heap}
noncomputable def spBeh (C : Addr) (d : Nat) : Sp := fun vs H Q _ => ∃ (a : Addr) (A : Ad) (x : Table) (i j : Nat) (r : Nat → Nat), vs = [.ref a, .int (i : Nat), .int (j : Nat)] ∧ TabAt C H a A x ∧ TInv x ∧ i < x.wishes.length ∧ Ranked x.wishes r ∧ r i < d ∧
  ∀ H' : Hp, Same H H' → Q (.bl (Uw77.leads x.wishes x.wishes.length i j)) H'
theorem scBeh : FnScope ["self", "one", "other", "wish"] ["self", "one", "other"] (defScope sBeh) := ⟨rfl, rfl, rfl, by decide +kernel, rfl, by decide +kernel, by decide +kernel⟩
theorem ok_beh {f C : Addr} {fd : FuncData} (F : Fun K "is_behind" "Table.is_behind" sBeh f fd) (T : Txt K mg C) (bB : Binds K fd ["self", "one", "other"] []) (mB : Meth K C "is_behind" f) : ∀ d, FnOk P w K mg base CX0 (d + 1) f fd ["self", "one", "other"] (spBeh C d)
  | 0 => by
    refine F.ok scBeh (fun vs H Q E h => ?_) (fun cdv A outer s H vs Q E hr h => ?_)
    · obtain ⟨a, A, x, i, j, r, rfl, _⟩ := h
      rfl
    · obtain ⟨a, A, x, i, j, r, rfl, _, _, _, _, h0, _⟩ := h
      exact absurd h0 (Nat.not_lt_zero _)
  | d + 1 => by
    have GB := ok_beh F T bB mB d
    refine F.ok scBeh (fun vs H Q E h => ?_) (fun cdv A outer s H vs Q E hr h => ?_)
    · obtain ⟨a, A, x, i, j, r, rfl, _⟩ := h
      rfl
    · obtain ⟨a, A, x, i, j, r, rfl, hT, hI, hi, R, hd, k⟩ := h
      have hv : x.wishes[i]? = some x.wishes[i] := List.getElem?_eq_getElem hi
      obtain ⟨c, hc, hcl⟩ := hT.hs_get hv
      refine ⟨_, pss_one (ps_ret (pe_callB (cr_any rfl) (by rfl) T.any boot_any' (pa_cons (pe_lc (own := [("wish", 3)]) rfl scBeh.nd (pi_list (pe_ix ix_list (pe_fld (pv 0) (by rfl)) (pv 1) (fun _ _ => rfl)))
        (blkOk_by (show blkC ["self", "one", "other", "wish"] (defScope sBeh) _ [("wish", 3)] = true by decide +kernel))
        (fun _ _ _ _ _ => pg_name (i := 3) scBeh.nd rfl (Or.inl rfl)) (fun _ _ _ _ _ => pts_nil)
        (fun _ _ _ _ _ => pe_or (pe_cmpR op_eq (pv 3) (pv 2) (nomark _)) (pe_one (pe_meth (pv 0) T.cl mB GB hr bB .nil pass0 (pa_cons (pv 3) (pa_cons (pv 2) pa_nil)))))) pa_nil))), ?_⟩
      refine ⟨_, rfl, a, C, _, _, _, rfl, hT.obj, T.cl, T.nA, tf_h, _, rfl, _, _, _, _, rfl, rfl, SqL.of hT.ah, at_of (j := i) rfl (refs_get hc), c, rfl, ⟨_, SqL.of hcl⟩, fun D hD => ?_⟩
      refine lc_list (K := K) (a := c) (xs := nums x.wishes[i].behind) (fun m H' => Same H H' ∧ H' D = some (.lst (((x.wishes[i].behind.take m).map fun k => k == j || Uw77.leads x.wishes x.wishes.length k j).map V.bl))) ⟨Same.upd_new (Same.refl H) hD, upd_same⟩ (fun i H' _ hZ => have s1 := hZ.1; SqL.of (s1 _ _ hcl)) ?_ ?_
      · rintro m y H' hm ⟨s1, hD1⟩
        obtain ⟨l, hl, rfl⟩ := nums_some hm
        have ml := List.mem_of_getElem? hl
        have fin : ∀ (b : Bool) (H2 : Hp), Same H' H2 → b = (l == j || Uw77.leads x.wishes x.wishes.length l j) → ∃ acc, H2 D = some (.lst acc) ∧ acc.length < sizeLine ∧ Same H (upd H2 D (.lst (acc ++ [V.bl b]))) ∧ (upd H2 D (.lst (acc ++ [V.bl b]))) D = some (.lst (((x.wishes[i].behind.take (m + 1)).map fun k => k == j || Uw77.leads x.wishes x.wishes.length k j).map V.bl)) := fun b H2 s2 e => by
          refine ⟨_, s2 _ _ hD1, ?_, Same.upd_new (s1.trans s2) hD, ?_⟩
          · rw [List.length_map, List.length_map, List.length_take]
            exact small1000 (by have := beh_len hI hv; omega)
          · rw [upd_same, take_snoc' hl, List.map_append, List.map_append, e]
            rfl
        refine ⟨rfl, _, rfl, _, rfl, rfl, _, rfl, ?_⟩
        rw [dec_nat]
        cases e1 : l == j with
        | true => exact iteT (fin true H' (Same.refl _) (by rw [e1]; rfl))
        | false =>
          have T1 := hT.same s1
          refine iteF ⟨_, rfl, a, _, _, rfl, T1.obj, rfl, _, rfl, _, rfl, a, A, x, l, j, r, rfl, T1, hI, hI.ins i _ hv l ml, R, ?_, fun H2 s2 => fin _ H2 s2 (by rw [e1]; rfl)⟩
          have := R i _ hv l ml
          omega
      · rintro H' ⟨s1, hD1⟩
        refine ⟨D, _, rfl, SqL.of hD1, ?_⟩
        rw [nums_len, List.take_length, List.any_map]
        have e := leads_turn hI.ins R (j := j) hv
        rw [show (x.wishes[i].behind.any (id ∘ fun k => k == j || Uw77.leads x.wishes x.wishes.length k j)) = Uw77.leads x.wishes x.wishes.length i j from e.symm]
        exact k H' s1
theorem members_more {k m : Nat} (h : m < 2 ^ k) : Uw77.membersOf (k + 1) m = Uw77.membersOf k m := by
  unfold Uw77.membersOf
  rw [filter_range_succ, bit_out h (Nat.le_refl k)]
  simp
theorem bits_more {k m : Nat} (h : m < 2 ^ k) : bits (k + 1) m = bits k m ++ [false] := by
  unfold bits
  rw [List.range_succ, List.map_append, List.map_singleton, bit_out h (Nat.le_refl k)]
noncomputable def more (x : Table) (g d : Nat) : Table := { x with wishes := x.wishes ++ [⟨g, d, []⟩] }
theorem more_inv' {x : Table} (h : TInv x) {g d : Nat} (hg : g < x.n) (hd : d < x.n) (h6 : ¬ 6 ≤ x.wishes.length) : TInv (more x g d) := by
  have m := (more_inv h hg hd h6).1
  rw [members_more h.lt, ← h.done] at m
  exact m
noncomputable def spAdd (C : Addr) : Sp := fun vs H Q _ => ∃ (a : Addr) (A : Ad) (x : Table) (g d : Nat), vs = [.ref a, .int (g : Nat), .int (d : Nat)] ∧ TabAt C H a A x ∧ TInv x ∧ g < x.n ∧ d < x.n ∧ ¬ 6 ≤ x.wishes.length ∧
  ∀ (H' : Hp) (A' : Ad), TabAt C H' a A' (wished x g d) → (∀ b o, H b = some o → b ≠ a → b ∉ A.all → H' b = some o) → (∀ b ∈ A'.all, b ∈ A.all ∨ H b = none) → (∀ b, H' b = none → H b = none) → Q (.int (x.wishes.length : Nat)) H'
theorem scAdd : FnScope ["self", "guest", "dish"] ["self", "guest", "dish"] (defScope sAdd) := ⟨rfl, rfl, rfl, by decide +kernel, rfl, by decide +kernel, by decide +kernel⟩
theorem ok_add {f C fS : Addr} {fd fdS : FuncData} (F : Fun K "add_wish" "Table.add_wish" sAdd f fd) (T : Txt K mg C)
    (GS : FnOk P w K mg base CX0 2 fS fdS ["self", "turned", "fulfilled"] (spSet C)) (bS : Binds K fdS ["self", "turned", "fulfilled"] []) (mS : Meth K C "settled" fS) : FnOk P w K mg base CX0 3 f fd ["self", "guest", "dish"] (spAdd C) := by
  refine F.ok scAdd (fun vs H Q E h => ?_) (fun cdv A outer s H vs Q E hr h => ?_)
  · obtain ⟨a, A, x, g, d, rfl, _⟩ := h
    rfl
  · obtain ⟨a, A, x, g, d, rfl, hT, hI, hg, hd, h6, k⟩ := h
    refine ⟨_, pss_cons (ps_expr (pe_bm PySem.F.plainAttrs_list PySem.F.slot_list_append PySem.F.type_list_append mt_append (pe_fld (pv 0) (by rfl)) (pa_cons (pv 1) pa_nil)))
      (pss_cons (ps_expr (pe_bm PySem.F.plainAttrs_list PySem.F.slot_list_append PySem.F.type_list_append mt_append (pe_fld (pv 0) (by rfl)) (pa_cons (pv 2) pa_nil)))
      (pss_cons (ps_expr (pe_bm PySem.F.plainAttrs_list PySem.F.slot_list_append PySem.F.type_list_append mt_append (pe_fld (pv 0) (by rfl)) (pa_cons (pe_lst pa_nil) pa_nil)))
      (pss_cons (ps_expr (pe_bm PySem.F.plainAttrs_list PySem.F.slot_list_append PySem.F.type_list_append mt_append (pe_fld (pv 0) (by rfl)) (pa_cons pe_bl pa_nil)))
      (pss_cons (ps_fld (pv 0) (pe_meth (pv 0) T.cl mS GS hr bS .nil pass0 (pa_cons (pe_fld (pv 0) (by rfl)) (pa_cons (pe_fld (pv 0) (by rfl)) pa_nil))) rfl)
      (pss_one (ps_ret (pe_op op_sub (pe_callB call_len_seq (by rfl) T.len PySem.boot_len (pa_cons (pe_fld (pv 0) (by rfl)) pa_nil)) pe_int))))))), ?_⟩
    have k6 := hI.k6
    have nd := hT.nd
    unfold Ad.all at nd
    simp only [List.nodup_cons, List.mem_cons, not_or] at nd
    obtain ⟨⟨a1, a2, a3, a4⟩, ⟨b1, b2, b3⟩, ⟨c1, c2⟩, d1, e1⟩ := nd
    have na := hT.ne
    have ag : a ≠ A.g := (na _ Ad.in_g).symm
    have ad : a ≠ A.d := (na _ Ad.in_d).symm
    have ah : a ≠ A.h := (na _ Ad.in_h).symm
    have af : a ≠ A.f := (na _ Ad.in_f).symm
    have sm : ∀ l : List Nat, l.length ≤ 6 → (nums l).length < sizeLine := fun l hl => by rw [nums_len]; exact small1000 (by omega)
    refine ⟨_, rfl, a, C, _, _, _, rfl, hT.obj, T.cl, T.nG, tf_g, .inl ⟨rfl, _, SqL.of hT.gs⟩, _, rfl, A.g, _, _, rfl, rfl, hT.gs, sm _ (by rw [List.length_map]; exact k6), ?_⟩
    refine ⟨_, rfl, a, C, _, _, _, rfl, (by rw [upd_ne ag]; exact hT.obj), T.cl, T.nD, tf_d, .inl ⟨rfl, _, SqL.of (by rw [upd_ne (Ne.symm a1)]; exact hT.ds)⟩, _, rfl, A.d, _, _, rfl, rfl, (by rw [upd_ne (Ne.symm a1)]; exact hT.ds), sm _ (by rw [List.length_map]; exact k6), ?_⟩
    refine ⟨_, rfl, a, C, _, _, _, rfl, (by rw [upd_ne ad, upd_ne ag]; exact hT.obj), T.cl, T.nA, tf_h, .inl ⟨rfl, _, SqL.of (by rw [upd_ne (Ne.symm b1), upd_ne (Ne.symm a2)]; exact hT.ah)⟩, Nat.zero_le _, fun q hq => ?_⟩
    obtain ⟨qd, hq⟩ := upd_none hq
    obtain ⟨qg, hq⟩ := upd_none hq
    have qn : ∀ b ∈ A.all, b ≠ q := fun b hb z => by
      obtain ⟨xs, hx⟩ := hT.there b hb
      rw [z, hq] at hx
      cases hx
    have qa : a ≠ q := ne_of_none hT.obj hq
    refine ⟨A.h, _, _, rfl, rfl, (by rw [upd_ne (qn _ Ad.in_h), upd_ne (Ne.symm b1), upd_ne (Ne.symm a2)]; exact hT.ah), (by rw [List.length_map, hT.len]; exact small1000 (by omega)), ?_⟩
    have hfu : upd (upd (upd (upd H A.g (HO.lst (nums (x.wishes.map (·.guest)) ++ [V.int (g : Nat)]))) A.d (HO.lst (nums (x.wishes.map (·.dish)) ++ [V.int (d : Nat)]))) q (HO.lst [])) A.h (HO.lst (A.hs.map V.ref ++ [V.ref q])) A.f = some (.lst ((bits x.wishes.length (numberOf x.done)).map V.bl)) := by
      rw [upd_ne (Ne.symm c1), upd_ne (qn _ Ad.in_f), upd_ne (Ne.symm b2), upd_ne (Ne.symm a3)]
      exact hT.fu
    refine ⟨_, rfl, a, C, _, _, _, rfl, (by rw [upd_ne ah, upd_ne qa, upd_ne ad, upd_ne ag]; exact hT.obj), T.cl, T.nF, tf_f, .inl ⟨rfl, _, SqL.of hfu⟩, A.f, _, _, rfl, rfl, hfu, (by rw [List.length_map, bits_len]; exact small1000 (by omega)), ?_⟩
    generalize e5 : upd (upd (upd (upd (upd H A.g (HO.lst (nums (x.wishes.map (·.guest)) ++ [V.int (g : Nat)]))) A.d (HO.lst (nums (x.wishes.map (·.dish)) ++ [V.int (d : Nat)]))) q (HO.lst [])) A.h (HO.lst (A.hs.map V.ref ++ [V.ref q]))) A.f (HO.lst ((bits x.wishes.length (numberOf x.done)).map V.bl ++ [V.bl false])) = H5
    have T5 : TabAt C H5 a { A with hs := A.hs ++ [q] } (more x g d) := by
      rw [← e5]
      refine ⟨by rw [upd_ne af, upd_ne ah, upd_ne qa, upd_ne ad, upd_ne ag]; exact hT.obj, ?_, ?_, ?_, ?_, ?_, fun i b v h1 h2 => ?_, ?_⟩
      · show upd (upd (upd (upd (upd H A.g _) A.d _) q _) A.h _) A.f _ A.g = _
        rw [upd_ne a3, upd_ne a2, upd_ne (qn _ Ad.in_g), upd_ne a1, upd_same]
        show _ = some (HO.lst (nums ((x.wishes ++ [_]).map Wish.guest)))
        rw [List.map_append, nums_app]
        rfl
      · show upd (upd (upd (upd (upd H A.g _) A.d _) q _) A.h _) A.f _ A.d = _
        rw [upd_ne b2, upd_ne b1, upd_ne (qn _ Ad.in_d), upd_same]
        show _ = some (HO.lst (nums ((x.wishes ++ [_]).map Wish.dish)))
        rw [List.map_append, nums_app]
        rfl
      · show upd (upd (upd (upd (upd H A.g _) A.d _) q _) A.h _) A.f _ A.h = _
        rw [upd_ne c1, upd_same, List.map_append]
        rfl
      · show upd (upd (upd (upd (upd H A.g _) A.d _) q _) A.h _) A.f _ A.f = some (.lst ((bits (x.wishes ++ [_]).length (numberOf x.done)).map V.bl))
        rw [upd_same, List.length_append, List.length_singleton, bits_more hI.lt, List.map_append]
        rfl
      · show (A.hs ++ [q]).length = (x.wishes ++ [_]).length
        rw [List.length_append, List.length_append, hT.len]
        rfl
      · have h1 : (A.hs ++ [q])[i]? = some b := h1
        have h2 : (x.wishes ++ [_])[i]? = some v := h2
        rcases get_app h1 with h1 | ⟨ei, eb⟩
        · rcases get_app h2 with h2 | ⟨ei2, _⟩
          · have mb := List.mem_of_getElem? h1
            rw [upd_ne (show b ≠ A.f from fun z => d1 (z ▸ mb)), upd_ne (show b ≠ A.h from fun z => c2 (z ▸ mb)), upd_ne (qn _ (Ad.in_s mb)), upd_ne (show b ≠ A.d from fun z => b3 (z ▸ mb)), upd_ne (show b ≠ A.g from fun z => a4 (z ▸ mb))]
            exact hT.beh i b v h1 h2
          · have := (List.getElem?_eq_some_iff.mp h1).1
            rw [hT.len] at this
            omega
        · rcases get_app h2 with h2 | ⟨_, ev⟩
          · have := (List.getElem?_eq_some_iff.mp h2).1
            rw [← hT.len] at this
            omega
          · rw [eb, upd_ne (qn _ Ad.in_f).symm, upd_ne (qn _ Ad.in_h).symm, upd_same, ev]
            rfl
      · show (A.g :: A.d :: A.h :: A.f :: (A.hs ++ [q])).Nodup
        have q1 := qn _ Ad.in_g
        have q2 := qn _ Ad.in_d
        have q3 := qn _ Ad.in_h
        have q4 := qn _ Ad.in_f
        simp only [List.nodup_cons, List.mem_cons, List.mem_append, List.mem_singleton, not_or, List.nodup_append]
        refine ⟨⟨a1, a2, a3, a4, q1, by simp⟩, ⟨b1, b2, b3, q2, by simp⟩, ⟨c1, c2, q3, by simp⟩, ⟨d1, q4, by simp⟩, e1, by simp, fun y hy z hz => ?_⟩
        simp at hz
        rw [hz]
        exact qn _ (Ad.in_s hy)
    have I5 : TInv (more x g d) := more_inv' hI hg hd h6
    have f5 : ∀ b o, H b = some o → b ∉ A.all → H5 b = some o := fun b o e hb => by
      rw [← e5]
      have z : ∀ c ∈ A.all, b ≠ c := fun c hc z => hb (z ▸ hc)
      rw [upd_ne (z _ Ad.in_f), upd_ne (z _ Ad.in_h), upd_ne (ne_of_none e hq), upd_ne (z _ Ad.in_d), upd_ne (z _ Ad.in_g)]
      exact e
    refine ⟨_, rfl, a, _, _, rfl, T5.obj, rfl, _, rfl, a, C, _, _, _, rfl, T5.obj, T.cl, T.nT, tf_t, _, rfl, a, C, _, _, _, rfl, T5.obj, T.cl, T.nF, tf_f,
      a, _, _, x.turn, A.f, _, rfl, T5, I5, I5.t, .inl T5.fu, bits_len _ _, fun H6 p hp s6 h6' => ?_⟩
    have T6 := T5.same s6
    have sv := serve_ok (n := x.n) (t := x.turn) I5.k6 I5.ins I5.lt
    have np : p ∉ ({ A with hs := A.hs ++ [q] } : Ad).all := fun hm => by
      obtain ⟨xs, z⟩ := T5.there p hm
      rw [z] at hp
      cases hp
    have hp6 : H6 p = some (.lst ((bits (more x g d).wishes.length (Uw77.serve x.n (more x g d).wishes x.turn (numberOf x.done))).map V.bl)) := by
      have e6 := settle_serve (n := x.n) (t := x.turn) I5.k6 I5.ins I5.lt
      exact h6'.trans (congrArg (fun z => some (HO.lst (z.map V.bl))) e6)
    refine ⟨_, rfl, a, C, _, _, rfl, T6.obj, T.cl, T.nF, (by show 6 < 1000; decide), ?_⟩
    rw [tf_pf]
    have T7 := T6.ful I5.k6 sv.lt hp6 np
    refine ⟨_, rfl, a, C, _, _, _, rfl, T7.obj, T.cl, T.nF, tf_f, _, _, rfl, .inl (SqL.of T7.fu), _, _, rfl, rfl, ?_⟩
    have sub5 : ∀ b ∈ A.all, b ∈ ({ A with hs := A.hs ++ [q] } : Ad).all := fun b hm => by
      unfold Ad.all at hm ⊢
      simp only [List.mem_cons, List.mem_append] at hm ⊢
      rcases hm with h | h | h | h | h
      · exact .inl h
      · exact .inr (.inl h)
      · exact .inr (.inr (.inl h))
      · exact .inr (.inr (.inr (.inl h)))
      · exact .inr (.inr (.inr (.inr (.inl h))))
    have g5 : ∀ b, H5 b = none → H b = none := fun b h => by
      cases z : H b with
      | none => rfl
      | some o =>
        by_cases hm : b ∈ A.all
        · obtain ⟨xs, y⟩ := T5.there b (sub5 b hm)
          rw [y] at h
          cases h
        · rw [f5 b o z hm] at h
          cases h
    have fin := k _ _ T7 (fun b o e hb hn => by rw [upd_ne hb]; exact s6 _ _ (f5 b o e hn)) (fun b hb => ?_) (fun b h => g5 b (s6.free (upd_none h).2))
    · have el : (((bits (more x g d).wishes.length (numberOf (Uw77.membersOf (more x g d).wishes.length (Uw77.serve x.n (more x g d).wishes x.turn (numberOf x.done))))).map V.bl).length : Int) - 1 = (x.wishes.length : Nat) := by
        rw [List.length_map, bits_len]
        show (((x.wishes ++ [_]).length : Nat) : Int) - 1 = _
        rw [List.length_append, List.length_singleton]
        omega
      show Q (V.int ((((bits (more x g d).wishes.length (numberOf (Uw77.membersOf (more x g d).wishes.length (Uw77.serve x.n (more x g d).wishes x.turn (numberOf x.done))))).map V.bl).length : Int) - 1)) _
      rw [el]
      exact fin
    · have hb : b ∈ A.g :: A.d :: A.h :: p :: (A.hs ++ [q]) := hb
      simp only [List.mem_cons, List.mem_append, List.mem_singleton, List.not_mem_nil, or_false] at hb
      unfold Ad.all
      simp only [List.mem_cons]
      rcases hb with h | h | h | h | h | h
      · exact .inl (.inl h)
      · exact .inl (.inr (.inl h))
      · exact .inl (.inr (.inr (.inl h)))
      · exact .inr (by rw [h]; exact g5 p hp)
      · exact .inl (.inr (.inr (.inr (.inr h))))
      · exact .inr (by rw [h]; exact hq)
end
end Tt
set_option Elab.async false
set_option compiler.extract_closed false
set_option genSizeOf false
set_option linter.all false
set_option maxRecDepth 100000
set_option maxHeartbeats 2000000
namespace Tt
open PySem PySem.Spec PyProof.Rows L2
open Uw77 (Table Wish numberOf Call)
open Ma
noncomputable abbrev sATab : Stmt := top 38
noncomputable abbrev sAWis : Stmt := top 39
noncomputable abbrev sABeh : Stmt := top 40
noncomputable abbrev sAStp : Stmt := top 41
noncomputable abbrev sASta : Stmt := top 42
noncomputable abbrev sAns : Stmt := top 48
noncomputable abbrev sAll : Stmt := top 49
structure Txt2 (mg : Str → Option Value) : Prop where
  done : ∃ t, mg "DONE" = some (.int 0 t)
  out : ∃ t, mg "OUT_OF_RANGE" = some (.int (-1) t)
  sam : ∃ t, mg "SAME_WISH" = some (.int (-1) t)
  no : ∃ t, mg "NO_SUCH_WISH" = some (.int (-2) t)
  ful : ∃ t, mg "IS_FULFILLED" = some (.int (-3) t)
  alr : ∃ t, mg "THERE_ALREADY" = some (.int (-4) t)
  many : ∃ t, mg "TOO_MANY" = some (.int (-5) t)
  cir : ∃ t, mg "IN_A_CIRCLE" = some (.int (-6) t)
noncomputable def Keep (H H' : Hp) (a : Addr) (A : Ad) : Prop := ∀ b o, H b = some o → b ≠ a → b ∉ A.all → H' b = some o
noncomputable def Post (C : Addr) (H : Hp) (a : Addr) (A : Ad) (r : Table × List Int) (Q : VK) : Prop :=
  ∀ (H' : Hp) (A' : Ad) (p : Addr), TabAt C H' a A' r.1 → Keep H H' a A → (∀ b ∈ A'.all, b ∈ A.all ∨ H b = none) → H p = none → H' p = some (.lst (r.2.map V.int)) → Q (.ref p) H'
theorem Keep.of_same {H H' : Hp} {a : Addr} {A : Ad} (s : Same H H') : Keep H H' a A := fun b o e _ _ => s b o e
theorem Post.new {C : Addr} {H H' : Hp} {a : Addr} {A : Ad} {x : Table} {out : List Int} {Q : VK} (k : Post C H a A (x, out) Q) (hT : TabAt C H a A x) (s : Same H H') {p : Addr} (hp : H' p = none) : Q (.ref p) (upd H' p (.lst (out.map V.int))) :=
  have s' : Same H (upd H' p (.lst (out.map V.int))) := fun b o e => by rw [upd_ne (ne_of_none (s b o e) hp)]; exact s b o e
  k _ A p (hT.same s') (Keep.of_same s') (fun b hb => .inl hb) (s.free hp) upd_same
noncomputable def sp0 (C : Addr) (c : Call) : Sp := fun vs H Q _ => ∃ (a : Addr) (A : Ad) (x : Table), vs = [.ref a] ∧ TabAt C H a A x ∧ TInv x ∧ Post C H a A (Uw77.step x c) Q
noncomputable def sp1 (C : Addr) (c : Nat → Call) : Sp := fun vs H Q _ => ∃ (a : Addr) (A : Ad) (x : Table) (n : Nat), vs = [.ref a, .int (n : Nat)] ∧ TabAt C H a A x ∧ TInv x ∧ Post C H a A (Uw77.step x (c n)) Q
noncomputable def sp2 (C : Addr) (c : Nat → Nat → Call) : Sp := fun vs H Q _ => ∃ (a : Addr) (A : Ad) (x : Table) (m n : Nat), vs = [.ref a, .int (m : Nat), .int (n : Nat)] ∧ TabAt C H a A x ∧ TInv x ∧ Post C H a A (Uw77.step x (c m n)) Q
theorem dT {c : Prop} [Decidable c] (h : c) : decide c = true := decide_eq_true h
theorem dF {c : Prop} [Decidable c] (h : ¬ c) : decide c = false := decide_eq_false h
section
variable {P : Program} {w : World} {K : PySem.W.Frag} {mg : Str → Option Value} {base : Heap}
theorem scATab : FnScope ["table", "places"] ["table", "places"] (defScope sATab) := ⟨rfl, rfl, rfl, by decide +kernel, rfl, by decide +kernel, by decide +kernel⟩
theorem ok_atab {f C fL : Addr} {fd fdL : FuncData} (F : Fun K "answer_table" "answer_table" sATab f fd) (T : Txt K mg C) (T2 : Txt2 mg)
    (GL : FnOk P w K mg base CX0 1 fL fdL ["self", "places"] (spLay C)) (bL : Binds K fdL ["self", "places"] []) (mL : Meth K C "lay" fL) : FnOk P w K mg base CX0 2 f fd ["table", "places"] (sp1 C .table) := by
  refine F.ok scATab (fun vs H Q E h => ?_) (fun cdv A outer s H vs Q E hr h => ?_)
  · obtain ⟨a, A, x, n, rfl, _⟩ := h
    rfl
  · obtain ⟨a, A, x, n, rfl, hT, hI, k⟩ := h
    obtain ⟨t1, g1⟩ := T.few
    obtain ⟨t2, g2⟩ := T.most
    obtain ⟨t3, g3⟩ := T2.out
    obtain ⟨t4, g4⟩ := T2.done
    refine ⟨_, pss_cons (ps_if (pw_or (pt_cmpR op_lt (pv 1) (pe_glob (v := .int 2) (by rfl) g1 ⟨_, rfl⟩) (nomark _)) (pw_or1 (pt_cmpR op_gt (pv 1) (pe_glob (v := .int 8) (by rfl) g2 ⟨_, rfl⟩) (nomark _)))).pt
        (pss_one (ps_ret (pe_lst (pa_cons (pe_glob (v := .int (-1)) (by rfl) g3 ⟨_, rfl⟩) pa_nil)))) pss_nil)
      (pss_cons (ps_expr (pe_meth (pv 0) T.cl mL GL hr bL .nil pass0 (pa_cons (pv 1) pa_nil))) (pss_one (ps_ret (pe_lst (pa_cons (pe_glob (v := .int 0) (by rfl) g4 ⟨_, rfl⟩) pa_nil))))), ?_⟩
    refine ⟨_, rfl, _, _, rfl, rfl, _, rfl, ?_⟩
    rw [st_table] at k
    by_cases h1 : n < 2
    · rw [dT (show ((n : Nat) : Int) < 2 by omega)]
      rw [if_pos (.inl h1)] at k
      exact iteT (iteT ⟨(by show 1 ≤ sizeLine; decide), fun p hp => k.new hT (Same.refl H) hp⟩)
    · rw [dF (show ¬ ((n : Nat) : Int) < 2 by omega)]
      refine iteF ⟨_, rfl, _, _, rfl, rfl, _, rfl, ?_⟩
      by_cases h2 : 8 < n
      · rw [dT (show (8 : Int) < ((n : Nat) : Int) by omega)]
        rw [if_pos (.inr h2)] at k
        exact iteT ⟨(by show 1 ≤ sizeLine; decide), fun p hp => k.new hT (Same.refl H) hp⟩
      · rw [dF (show ¬ (8 : Int) < ((n : Nat) : Int) by omega)]
        rw [if_neg (by omega)] at k
        refine iteF ⟨_, rfl, a, _, _, rfl, hT.obj, rfl, _, rfl, a, _, n, _, rfl, hT.obj, .inr ⟨_, _, _, _, _, _, rfl⟩, fun H' A' T1 kp _ fr => ⟨(by show 1 ≤ sizeLine; decide), fun p hp => ?_⟩⟩
        have s1 : Same H' (upd H' p (.lst [V.int 0])) := fun b o e => by rw [upd_ne (ne_of_none e hp)]; exact e
        have hp0 : H p = none := by
          cases z : H p with
          | none => rfl
          | some o =>
            by_cases q : p = a
            · rw [q, T1.obj] at hp; cases hp
            · rw [kp p o z q] at hp; cases hp
        exact k _ A' p (T1.same s1) (fun b o e hb _ => s1 _ _ (kp b o e hb)) (fun b hb => .inr (fr b hb)) hp0 upd_same
theorem scAWis : FnScope ["table", "guest", "dish", "wish"] ["table", "guest", "dish"] (defScope sAWis) := ⟨rfl, rfl, rfl, by decide +kernel, rfl, by decide +kernel, by decide +kernel⟩
theorem ok_awis {f C fW fA : Addr} {fd fdW fdA : FuncData} (F : Fun K "answer_wish" "answer_wish" sAWis f fd) (T : Txt K mg C) (T2 : Txt2 mg)
    (GW : FnOk P w K mg base CX0 1 fW fdW ["self", "guest", "dish"] (spWan C)) (bW : Binds K fdW ["self", "guest", "dish"] []) (mW : Meth K C "is_wanted" fW)
    (GA : FnOk P w K mg base CX0 3 fA fdA ["self", "guest", "dish"] (spAdd C)) (bA : Binds K fdA ["self", "guest", "dish"] []) (mA : Meth K C "add_wish" fA) : FnOk P w K mg base CX0 4 f fd ["table", "guest", "dish"] (sp2 C .wish) := by
  refine F.ok scAWis (fun vs H Q E h => ?_) (fun cdv A outer s H vs Q E hr h => ?_)
  · obtain ⟨a, A, x, g, d, rfl, _⟩ := h
    rfl
  · obtain ⟨a, A, x, g, d, rfl, hT, hI, k⟩ := h
    obtain ⟨t1, g1⟩ := T.mostW
    obtain ⟨t2, g2⟩ := T2.out
    obtain ⟨t3, g3⟩ := T2.many
    obtain ⟨t4, g4⟩ := T2.alr
    have hr1 : Room 1 _ := hr.mono (by decide)
    refine ⟨_, pss_cons (ps_if (pw_or (pt_cmpR op_ge (pv 1) (pe_fld (pv 0) (by rfl)) (nomark _)) (pw_or1 (pt_cmpR op_ge (pv 2) (pe_fld (pv 0) (by rfl)) (nomark _)))).pt (pss_one (ps_ret (pe_lst (pa_cons (pe_glob (v := .int (-1)) (by rfl) g2 ⟨_, rfl⟩) pa_nil)))) pss_nil)
      (pss_cons (ps_if (pt_cmpR op_ge (pe_callB call_len_seq (by rfl) T.len PySem.boot_len (pa_cons (pe_fld (pv 0) (by rfl)) pa_nil)) (pe_glob (v := .int 6) (by rfl) g1 ⟨_, rfl⟩) (nomark _)) (pss_one (ps_ret (pe_lst (pa_cons (pe_glob (v := .int (-5)) (by rfl) g3 ⟨_, rfl⟩) pa_nil)))) pss_nil)
      (pss_cons (ps_if (pt_val (pe_meth (pv 0) T.cl mW GW hr1 bW .nil pass0 (pa_cons (pv 1) (pa_cons (pv 2) pa_nil)))) (pss_one (ps_ret (pe_lst (pa_cons (pe_glob (v := .int (-4)) (by rfl) g4 ⟨_, rfl⟩) pa_nil)))) pss_nil)
      (pss_cons (ps_set (i := 3) scAWis.nd rfl (Or.inl rfl) (pe_meth (pv 0) T.cl mA GA hr bA .nil pass0 (pa_cons (pv 1) (pa_cons (pv 2) pa_nil))))
      (pss_one (ps_ret (pe_lst (pa_cons (pv 3) (pa_cons (pe_ifExp (pt_val (pe_ix ix_list (pe_fld (pv 0) (by rfl)) (pv 3) (fun _ _ => rfl))) pe_int pe_int) pa_nil)))))))), ?_⟩
    refine ⟨_, rfl, _, rfl, a, C, _, _, _, rfl, hT.obj, T.cl, T.nP, tf_p, _, _, rfl, rfl, _, rfl, ?_⟩
    rw [st_wish] at k
    by_cases h1 : x.n ≤ g
    · rw [dT (show (x.n : Int) ≤ ((g : Nat) : Int) by omega)]
      rw [if_pos (.inl h1)] at k
      exact iteT (iteT ⟨(by show 1 ≤ sizeLine; decide), fun p hp => k.new hT (Same.refl H) hp⟩)
    rw [dF (show ¬ (x.n : Int) ≤ ((g : Nat) : Int) by omega)]
    refine iteF ⟨_, rfl, _, rfl, a, C, _, _, _, rfl, hT.obj, T.cl, T.nP, tf_p, _, _, rfl, rfl, _, rfl, ?_⟩
    by_cases h2 : x.n ≤ d
    · rw [dT (show (x.n : Int) ≤ ((d : Nat) : Int) by omega)]
      rw [if_pos (.inr h2)] at k
      exact iteT ⟨(by show 1 ≤ sizeLine; decide), fun p hp => k.new hT (Same.refl H) hp⟩
    rw [dF (show ¬ (x.n : Int) ≤ ((d : Nat) : Int) by omega)]
    rw [if_neg (by omega)] at k
    refine iteF ⟨_, rfl, a, C, _, _, _, rfl, hT.obj, T.cl, T.nF, tf_f, _, _, rfl, .inl (SqL.of hT.fu), _, _, rfl, rfl, _, rfl, ?_⟩
    rw [List.length_map, bits_len]
    by_cases h3 : 6 ≤ x.wishes.length
    · rw [dT (show (6 : Int) ≤ ((x.wishes.length : Nat) : Int) by omega)]
      rw [if_pos h3] at k
      exact iteT ⟨(by show 1 ≤ sizeLine; decide), fun p hp => k.new hT (Same.refl H) hp⟩
    rw [dF (show ¬ (6 : Int) ≤ ((x.wishes.length : Nat) : Int) by omega)]
    rw [if_neg h3] at k
    refine iteF ⟨_, rfl, a, _, _, rfl, hT.obj, rfl, _, rfl, _, rfl, a, A, x, g, d, rfl, hT, hI, fun H1 s1 => ⟨_, rfl, ?_⟩⟩
    by_cases h4 : (x.wishes.any fun v => v.guest == g && v.dish == d) = true
    · rw [h4]
      rw [if_pos h4] at k
      exact iteT ⟨(by show 1 ≤ sizeLine; decide), fun p hp => k.new hT s1 hp⟩
    rw [Bool.not_eq_true] at h4
    rw [h4]
    rw [if_neg (by rw [h4]; exact Bool.false_ne_true)] at k
    have T1 := hT.same s1
    refine iteF ⟨_, rfl, a, _, _, rfl, T1.obj, rfl, _, rfl, _, rfl, a, A, x, g, d, rfl, T1, hI, by omega, by omega, h3, fun H2 A2 T2' kp fr gr => ?_⟩
    have W := wished_inv hI (show g < x.n by omega) (show d < x.n by omega) h3
    have hlen : x.wishes.length < (wished x g d).wishes.length := by
      show x.wishes.length < (x.wishes ++ [_]).length
      rw [List.length_append, List.length_singleton]
      omega
    refine ⟨_, rfl, _, rfl, a, C, _, _, _, rfl, T2'.obj, T.cl, T.nF, tf_f, _, rfl, _, _, _, _, rfl, rfl, SqL.of T2'.fu, at_of (j := x.wishes.length) rfl (bits_get hlen), _, rfl, ?_⟩
    have em : (wished x g d).done.contains x.wishes.length = Uw77.isIn (numberOf (wished x g d).done) x.wishes.length := by rw [W.mem, dT hlen, Bool.true_and]
    have fin : ∀ z : Nat, z = (if (wished x g d).done.contains x.wishes.length = true then 1 else 0) → 2 ≤ sizeLine ∧ ∀ p, H2 p = none → Q (.ref p) (upd H2 p (.lst [V.int (x.wishes.length : Nat), V.int (z : Nat)])) := fun z ez => by
      refine ⟨by decide, fun p hp => ?_⟩
      have s2 : Same H2 (upd H2 p (.lst [V.int (x.wishes.length : Nat), V.int (z : Nat)])) := fun b o e => by rw [upd_ne (ne_of_none e hp)]; exact e
      refine k _ A2 p (T2'.same s2) (fun b o e hb hm => s2 _ _ (kp b o (s1 _ _ e) hb hm)) (fun b hb => (fr b hb).imp_right s1.free) (s1.free (gr p hp)) ?_
      rw [upd_same, ez]
      rfl
    cases e : Uw77.isIn (numberOf (wished x g d).done) x.wishes.length with
    | true => exact iteT (fin 1 (by rw [em, e]; rfl))
    | false => exact iteF (fin 0 (by rw [em, e]; rfl))
end
end Tt
set_option Elab.async false
set_option compiler.extract_closed false
set_option genSizeOf false
set_option linter.all false
set_option maxRecDepth 100000
set_option maxHeartbeats 2000000
namespace Tt
open PySem PySem.Spec PyProof.Rows L2
open Uw77 (Table Wish numberOf Call)
open Ma
section
variable {P : Program} {w : World} {K : PySem.W.Frag} {mg : Str → Option Value} {base : Heap}
theorem nums_ints (l : List Nat) : nums l = (Uw77.ints l).map V.int := by
  unfold nums Uw77.ints
  rw [List.map_map]
  rfl
theorem nums_flat (l : List Nat) : (nums l).all flatV = true := by
  rw [List.all_eq_true]
  intro v hv
  obtain ⟨j, _, rfl⟩ := List.mem_map.mp hv
  rfl
theorem inV_nums (j : Nat) (l : List Nat) : inV (V.int (j : Nat)) (nums l) = l.contains j := by
  unfold inV nums
  rw [List.any_map, Bool.eq_iff_iff, List.any_eq_true, List.contains_iff_mem]
  constructor
  · rintro ⟨k, hk, h⟩
    have h : (((k : Nat) : Int) == ((j : Nat) : Int)) = true := h
    have : k = j := Int.ofNat_inj.mp (eq_of_beq h)
    rw [← this]
    exact hk
  · intro h
    exact ⟨j, h, by show (((j : Nat) : Int) == ((j : Nat) : Int)) = true; exact beq_self_eq_true _⟩
theorem scABeh : FnScope ["table", "one", "other"] ["table", "one", "other"] (defScope sABeh) := ⟨rfl, rfl, rfl, by decide +kernel, rfl, by decide +kernel, by decide +kernel⟩
theorem ok_abeh {f C fH fB fP : Addr} {fd fdH fdB fdP : FuncData} (F : Fun K "answer_behind" "answer_behind" sABeh f fd) (T : Txt K mg C) (T2 : Txt2 mg)
    (GH : FnOk P w K mg base CX0 1 fH fdH ["self", "wish"] (spHas C)) (bH : Binds K fdH ["self", "wish"] []) (mH : Meth K C "has_wish" fH)
    (GB : FnOk P w K mg base CX0 7 fB fdB ["self", "one", "other"] (spBeh C 6)) (bB : Binds K fdB ["self", "one", "other"] []) (mB : Meth K C "is_behind" fB)
    (GP : FnOk P w K mg base CX0 1 fP fdP ["self", "one", "other"] (spPut C)) (bP : Binds K fdP ["self", "one", "other"] []) (mP : Meth K C "put_behind" fP) : FnOk P w K mg base CX0 8 f fd ["table", "one", "other"] (sp2 C .behind) := by
  refine F.ok scABeh (fun vs H Q E h => ?_) (fun cdv A outer s H vs Q E hr h => ?_)
  · obtain ⟨a, A, x, i, j, rfl, _⟩ := h
    rfl
  · obtain ⟨a, A, x, i, j, rfl, hT, hI, k⟩ := h
    obtain ⟨t1, g1⟩ := T2.no
    obtain ⟨t2, g2⟩ := T2.sam
    obtain ⟨t3, g3⟩ := T2.ful
    obtain ⟨t4, g4⟩ := T2.alr
    obtain ⟨t5, g5⟩ := T2.cir
    obtain ⟨t6, g6⟩ := T2.done
    have hr1 : Room 1 _ := hr.mono (by decide)
    refine ⟨_, pss_cons (ps_if (pw_or (pt_not (pt_val (pe_meth (pv 0) T.cl mH GH hr1 bH .nil pass0 (pa_cons (pv 1) pa_nil)))) (pw_or1 (pt_not (pt_val (pe_meth (pv 0) T.cl mH GH hr1 bH .nil pass0 (pa_cons (pv 2) pa_nil)))))).pt (pss_one (ps_ret (pe_lst (pa_cons (pe_glob (v := .int (-2)) (by rfl) g1 ⟨_, rfl⟩) pa_nil)))) pss_nil)
      (pss_cons (ps_if (pt_cmpR op_eq (pv 1) (pv 2) (nomark _)) (pss_one (ps_ret (pe_lst (pa_cons (pe_glob (v := .int (-1)) (by rfl) g2 ⟨_, rfl⟩) pa_nil)))) pss_nil)
      (pss_cons (ps_if (pt_val (pe_ix ix_list (pe_fld (pv 0) (by rfl)) (pv 1) (fun _ _ => rfl))) (pss_one (ps_ret (pe_lst (pa_cons (pe_glob (v := .int (-3)) (by rfl) g3 ⟨_, rfl⟩) pa_nil)))) pss_nil)
      (pss_cons (ps_if (pt_cmpR op_in_seq (pv 2) (pe_ix ix_list (pe_fld (pv 0) (by rfl)) (pv 1) (fun _ _ => rfl)) (by rfl)) (pss_one (ps_ret (pe_lst (pa_cons (pe_glob (v := .int (-4)) (by rfl) g4 ⟨_, rfl⟩) pa_nil)))) pss_nil)
      (pss_cons (ps_if (pt_val (pe_meth (pv 0) T.cl mB GB hr bB .nil pass0 (pa_cons (pv 2) (pa_cons (pv 1) pa_nil)))) (pss_one (ps_ret (pe_lst (pa_cons (pe_glob (v := .int (-6)) (by rfl) g5 ⟨_, rfl⟩) pa_nil)))) pss_nil)
      (pss_cons (ps_expr (pe_meth (pv 0) T.cl mP GP hr1 bP .nil pass0 (pa_cons (pv 1) (pa_cons (pv 2) pa_nil))))
      (pss_one (ps_ret (pe_lst (pa_cons (pe_glob (v := .int 0) (by rfl) g6 ⟨_, rfl⟩) pa_nil))))))))), ?_⟩
    refine ⟨_, rfl, a, _, _, rfl, hT.obj, rfl, _, rfl, a, A, x, i, rfl, hT, _, rfl, ?_⟩
    rw [st_behind] at k
    by_cases h1 : x.wishes.length ≤ i
    · rw [dF (show ¬ i < x.wishes.length by omega)]
      rw [if_pos (.inl h1)] at k
      exact iteT (iteT ⟨(by show 1 ≤ sizeLine; decide), fun p hp => k.new hT (Same.refl H) hp⟩)
    have hi : i < x.wishes.length := by omega
    rw [dT hi]
    refine iteF ⟨_, rfl, a, _, _, rfl, hT.obj, rfl, _, rfl, a, A, x, j, rfl, hT, _, rfl, ?_⟩
    by_cases h2 : x.wishes.length ≤ j
    · rw [dF (show ¬ j < x.wishes.length by omega)]
      rw [if_pos (.inr h2)] at k
      exact iteT ⟨(by show 1 ≤ sizeLine; decide), fun p hp => k.new hT (Same.refl H) hp⟩
    have hj : j < x.wishes.length := by omega
    rw [dT hj]
    rw [if_neg (by omega)] at k
    refine iteF ⟨_, rfl, _, rfl, rfl, _, rfl, ?_⟩
    rw [dec_nat]
    by_cases h3 : i = j
    · rw [if_pos h3] at k
      rw [h3, beq_self_eq_true]
      exact iteT ⟨(by show 1 ≤ sizeLine; decide), fun p hp => k.new hT (Same.refl H) hp⟩
    rw [if_neg h3] at k
    rw [beq_eq_false_iff_ne.mpr h3]
    refine iteF ⟨_, rfl, a, C, _, _, _, rfl, hT.obj, T.cl, T.nF, tf_f, _, rfl, _, _, _, _, rfl, rfl, SqL.of hT.fu, at_of (j := i) rfl (bits_get hi), _, rfl, ?_⟩
    have em : x.done.contains i = Uw77.isIn (numberOf x.done) i := by rw [hI.mem, dT hi, Bool.true_and]
    cases e4 : Uw77.isIn (numberOf x.done) i with
    | true =>
      rw [if_pos (em.trans e4)] at k
      exact iteT ⟨(by show 1 ≤ sizeLine; decide), fun p hp => k.new hT (Same.refl H) hp⟩
    | false =>
      rw [if_neg (by rw [em, e4]; exact Bool.false_ne_true)] at k
      have hw : x.wishes[i]? = some x.wishes[i] := List.getElem?_eq_getElem hi
      obtain ⟨c, hc, hcl⟩ := hT.hs_get hw
      refine iteF ⟨_, rfl, _, rfl, a, C, _, _, _, rfl, hT.obj, T.cl, T.nA, tf_h, _, rfl, _, _, _, _, rfl, rfl, SqL.of hT.ah, at_of (j := i) rfl (refs_get hc), c, _, rfl, .inl (SqL.of hcl), rfl, nums_flat _, _, rfl, ?_⟩
      show if inV (V.int (j : Nat)) (nums x.wishes[i].behind) = true then _ else _
      rw [inV_nums]
      have e5 : (x.wishes[i]?).any (fun w => w.behind.contains j) = x.wishes[i].behind.contains j := by rw [hw]; rfl
      rw [e5] at k
      cases e6 : x.wishes[i].behind.contains j with
      | true =>
        rw [if_pos e6] at k
        exact iteT ⟨(by show 1 ≤ sizeLine; decide), fun p hp => k.new hT (Same.refl H) hp⟩
      | false =>
        rw [if_neg (by rw [e6]; exact Bool.false_ne_true)] at k
        obtain ⟨r0, R0⟩ := hI.rank
        obtain ⟨r, R, rb⟩ := rank_bound hI.ins R0
        refine iteF ⟨_, rfl, a, _, _, rfl, hT.obj, rfl, _, rfl, _, rfl, a, A, x, j, i, r, rfl, hT, hI, hj, R, Nat.lt_of_lt_of_le (rb j hj) hI.k6, fun H1 s1 => ⟨_, rfl, ?_⟩⟩
        cases e7 : Uw77.leads x.wishes x.wishes.length j i with
        | true =>
          rw [if_pos e7] at k
          exact iteT ⟨(by show 1 ≤ sizeLine; decide), fun p hp => k.new hT s1 hp⟩
        | false =>
          rw [if_neg (by rw [e7]; exact Bool.false_ne_true)] at k
          have T1 := hT.same s1
          refine iteF ⟨_, rfl, a, _, _, rfl, T1.obj, rfl, _, rfl, _, rfl, a, A, x, i, j, rfl, T1, hI, hi, fun H2 T2' kp => ⟨(by show 1 ≤ sizeLine; decide), fun p hp => ?_⟩⟩
          have s2 : Same H2 (upd H2 p (.lst [V.int 0])) := fun b o e => by rw [upd_ne (ne_of_none e hp)]; exact e
          have hp1 : H1 p = none := by
            cases z : H1 p with
            | none => rfl
            | some o =>
              by_cases m : p ∈ A.all
              · obtain ⟨xs, y⟩ := T2'.there p m
                rw [y] at hp; cases hp
              · rw [kp p o z m] at hp; cases hp
          exact k _ A p (T2'.same s2) (fun b o e hb hm => s2 _ _ (kp b o (s1 _ _ e) hm)) (fun b hb => .inl hb) (s1.free hp1) upd_same
theorem scASta : FnScope ["table", "unfulfilled"] ["table"] (defScope sASta) := ⟨rfl, rfl, rfl, by decide +kernel, rfl, by decide +kernel, by decide +kernel⟩
theorem undone_len (x : Table) : (Uw77.undone x).length ≤ x.wishes.length := by
  unfold Uw77.undone
  exact filter_range_len _ _
theorem ok_asta {f C fU : Addr} {fd fdU : FuncData} (F : Fun K "answer_stands" "answer_stands" sASta f fd) (T : Txt K mg C)
    (GU : FnOk P w K mg base CX0 1 fU fdU ["self"] (spUnf C)) (bU : Binds K fdU ["self"] []) (mU : Meth K C "unfulfilled" fU) : FnOk P w K mg base CX0 2 f fd ["table"] (sp0 C .stands) := by
  refine F.ok scASta (fun vs H Q E h => ?_) (fun cdv A outer s H vs Q E hr h => ?_)
  · obtain ⟨a, A, x, rfl, _⟩ := h
    rfl
  · obtain ⟨a, A, x, rfl, hT, hI, k⟩ := h
    refine ⟨_, pss_cons (ps_set (i := 1) scASta.nd rfl (Or.inl rfl) (pe_meth0 (pv 0) T.cl mU GU hr bU .nil pass0))
      (pss_one (ps_ret (pe_op op_cat (pe_lst (pa_cons (pe_fld (pv 0) (by rfl)) (pa_cons (pe_callB call_len_seq (by rfl) T.len PySem.boot_len (pa_cons (pe_fld (pv 0) (by rfl)) pa_nil)) (pa_cons (pe_callB call_len_seq (by rfl) T.len PySem.boot_len (pa_cons (pv 1) pa_nil)) pa_nil)))) (pv 1)))), ?_⟩
    have k6 := hI.k6
    have ul := undone_len x
    refine ⟨_, rfl, a, _, _, rfl, hT.obj, rfl, a, A, x, rfl, hT, hI, fun H1 p hp s1 h1 => ?_⟩
    have T1 := hT.same s1
    refine ⟨_, rfl, a, C, _, _, _, rfl, T1.obj, T.cl, T.nT, tf_t, _, rfl, a, C, _, _, _, rfl, T1.obj, T.cl, T.nF, tf_f, _, _, rfl, .inl (SqL.of T1.fu), _, rfl, _, _, rfl, .inl (SqL.of h1), (by show 3 ≤ sizeLine; decide), fun q hq => ?_⟩
    refine ⟨_, rfl, q, p, _, _, rfl, rfl, upd_same, (by rw [upd_ne (ne_of_none h1 hq)]; exact h1), (by rw [nums_len]; show 3 + _ ≤ sizeLine; exact Nat.le_of_lt (small1000 (by omega))), fun z hz => ?_⟩
    have s2 : Same H (upd H1 q (.lst [V.int (x.turn : Nat), V.int (((bits x.wishes.length (numberOf x.done)).map V.bl).length : Nat), V.int ((nums (Uw77.undone x)).length : Nat)])) := fun b o e => by rw [upd_ne (ne_of_none (s1 _ _ e) hq)]; exact s1 _ _ e
    have e := k.new hT s2 hz
    have e2 : ([V.int (x.turn : Nat), V.int (((bits x.wishes.length (numberOf x.done)).map V.bl).length : Nat), V.int ((nums (Uw77.undone x)).length : Nat)] ++ nums (Uw77.undone x)) = (Uw77.ints [x.turn, x.wishes.length] ++ Uw77.counted (Uw77.undone x)).map V.int := by
      rw [List.length_map, bits_len, nums_len, nums_ints]
      rfl
    rw [e2]
    exact e
theorem scAStp : FnScope ["table", "way", "before", "fulfilled", "wish"] ["table", "way"] (defScope sAStp) := ⟨rfl, rfl, rfl, by decide +kernel, rfl, by decide +kernel, by decide +kernel⟩
theorem stepped_new {x : Table} (hI : TInv x) (v : Nat) : (Uw77.stepped x v).done.filter (fun i => !x.done.contains i) = (Uw77.undone x).filter fun i => Uw77.isIn (numberOf (Uw77.stepped x v).done) i := by
  have e : (Uw77.stepped x v).done = (List.range x.wishes.length).filter (Uw77.isIn (numberOf (Uw77.stepped x v).done)) := (stepped_inv hI v).done
  generalize numberOf (Uw77.stepped x v).done = m at e ⊢
  rw [e]
  unfold Uw77.undone
  rw [List.filter_filter, List.filter_filter]
  refine List.filter_congr fun i _ => ?_
  rw [Bool.and_comm]
theorem and_by {c1 c2 : Bool} {H : Hp} {σ : L2.St} {tt : TT} {Q : Bool → Hp → Prop} (hB : ∀ Q : Bool → Hp → Prop, Q c2 H → tt σ H Q) (h : Q (c1 && c2) H) : if c1 = true then tt σ H Q else Q false H := by
  cases c1 with
  | false => exact iteF h
  | true => exact iteT (hB Q h)
theorem filter_take_snoc {p : Nat → Bool} {l : List Nat} {i j : Nat} (h : l[i]? = some j) : (l.take (i + 1)).filter p = (l.take i).filter p ++ (if p j = true then [j] else []) := by
  rw [take_snoc' h, List.filter_append]
  congr 1
  cases e : p j <;> simp [e]
theorem ok_astp {f C fU fM : Addr} {fd fdU fdM : FuncData} (F : Fun K "answer_step" "answer_step" sAStp f fd) (T : Txt K mg C) (T2 : Txt2 mg)
    (GU : FnOk P w K mg base CX0 1 fU fdU ["self"] (spUnf C)) (bU : Binds K fdU ["self"] []) (mU : Meth K C "unfulfilled" fU)
    (GM : FnOk P w K mg base CX0 3 fM fdM ["self", "way"] (spMake C)) (bM : Binds K fdM ["self", "way"] []) (mM : Meth K C "make_step" fM) : FnOk P w K mg base CX0 4 f fd ["table", "way"] (sp1 C .step) := by
  refine F.ok scAStp (fun vs H Q E h => ?_) (fun cdv A outer s H vs Q E hr h => ?_)
  · obtain ⟨a, A, x, n, rfl, _⟩ := h
    rfl
  · obtain ⟨a, A, x, v, rfl, hT, hI, k⟩ := h
    obtain ⟨t1, g1⟩ := T.rgt
    obtain ⟨t2, g2⟩ := T.lft
    obtain ⟨t3, g3⟩ := T2.out
    have hr1 : Room 1 _ := hr.mono (by decide)
    refine ⟨_, pss_cons (ps_if (pw_and (pt_cmpR op_ne (pv 1) (pe_glob (v := .int 0) (by rfl) g1 ⟨_, rfl⟩) (nomark _)) (pw_and1 (pt_cmpR op_ne (pv 1) (pe_glob (v := .int 1) (by rfl) g2 ⟨_, rfl⟩) (nomark _)))).pt
        (pss_one (ps_ret (pe_lst (pa_cons (pe_glob (v := .int (-1)) (by rfl) g3 ⟨_, rfl⟩) pa_nil)))) pss_nil)
      (pss_cons (ps_set (i := 2) scAStp.nd rfl (Or.inl rfl) (pe_meth0 (pv 0) T.cl mU GU hr1 bU .nil pass0))
      (pss_cons (ps_expr (pe_meth (pv 0) T.cl mM GM hr bM .nil pass0 (pa_cons (pv 1) pa_nil)))
      (pss_cons (ps_setLc (i := 3) (own := [("wish", 4)]) rfl scAStp.nd rfl rfl (sw_true rfl rfl rfl rfl) (pi_list (pv 2)) (blkOk_by (show blkC ["table", "way", "before", "fulfilled", "wish"] (defScope sAStp) _ [("wish", 4)] = true by decide +kernel))
        (fun _ _ _ _ _ => pg_name (i := 4) scAStp.nd rfl (Or.inl rfl)) (fun _ _ _ _ _ => pts_one (pt_val (pe_ix (ix_listK K rfl) (pe_fldK K rfl (pv 0) (by rfl)) (pv 4) (fun _ _ => rfl)))) (fun _ _ _ _ _ => pv 4))
      (pss_one (ps_ret (pe_op op_cat (pe_lst (pa_cons (pe_fld (pv 0) (by rfl)) (pa_cons (pe_callB call_len_seq (by rfl) T.len PySem.boot_len (pa_cons (pv 3) pa_nil)) pa_nil))) (pv 3))))))), ?_⟩
    have k6 := hI.k6
    refine ⟨_, rfl, rfl, _, rfl, ?_⟩
    rw [st_step] at k
    have e0 : decide (V.int (v : Nat) = V.int 0) = (v == 0) := dec_nat v 0
    have e1 : decide (V.int (v : Nat) = V.int 1) = (v == 1) := dec_nat v 1
    have e2 : (!(v == 0) && !(v == 1)) = decide (1 < v) := by
      match v with
      | 0 => rfl
      | 1 => rfl
      | n + 2 => simp
    refine and_by (c1 := !decide (V.int (v : Nat) = V.int 0)) (c2 := !decide (V.int (v : Nat) = V.int 1)) (fun Q q => ⟨_, rfl, rfl, _, rfl, q⟩) ?_
    rw [e0, e1, e2]
    by_cases h1 : 1 < v
    · rw [dT h1]
      rw [if_pos h1] at k
      exact iteT ⟨(by show 1 ≤ sizeLine; decide), fun p hp => k.new hT (Same.refl H) hp⟩
    rw [dF h1]
    rw [if_neg h1] at k
    refine iteF ⟨_, rfl, a, _, _, rfl, hT.obj, rfl, a, A, x, rfl, hT, hI, fun H1 p hp s1 h1 => ?_⟩
    have T1 := hT.same s1
    have I2 := stepped_inv hI v
    refine ⟨_, rfl, a, _, _, rfl, T1.obj, rfl, _, rfl, a, A, x, v, rfl, T1, hI, fun H2 A2 T2' kp fr => ?_⟩
    have pa : p ≠ a := ne_of h1 T1.obj (by intro q; cases q)
    have h2 := kp p _ h1 pa
    refine ⟨_, rfl, p, rfl, ⟨_, SqL.of h2⟩, fun D hD => ?_⟩
    have ul := undone_len x
    refine lc_list (K := K) (a := p) (xs := nums (Uw77.undone x)) (fun i H' => Same H2 H' ∧ H' D = some (.lst (nums (((Uw77.undone x).take i).filter fun i => Uw77.isIn (numberOf (Uw77.stepped x v).done) i)))) ⟨Same.upd_new (Same.refl H2) hD, upd_same⟩ (fun i H' _ hZ => have s3 := hZ.1; SqL.of (s3 _ _ h2)) ?_ ?_
    · rintro i y H3 hi ⟨s3, hD3⟩
      obtain ⟨j, hj, rfl⟩ := nums_some hi
      have T3 := T2'.same s3
      have jl : j < (Uw77.stepped x v).wishes.length := by
        have := List.mem_of_getElem? hj
        unfold Uw77.undone at this
        exact List.mem_range.mp (List.mem_filter.mp this).1
      refine ⟨rfl, _, rfl, a, C, _, _, _, rfl, T3.obj, T.cl, T.nF, tf_f, _, rfl, _, _, _, _, rfl, rfl, SqL.of T3.fu, at_of (j := j) rfl (bits_get jl), _, rfl, ?_⟩
      rw [filter_take_snoc hj]
      cases e : Uw77.isIn (numberOf (Uw77.stepped x v).done) j with
      | false =>
        refine iteF ⟨s3, ?_⟩
        rw [hD3]
        simp
      | true =>
        refine iteT ⟨_, rfl, _, hD3, ?_, Same.upd_new s3 hD, ?_⟩
        · rw [nums_len]
          refine Nat.lt_of_le_of_lt (List.length_filter_le _ _) ?_
          rw [List.length_take]
          exact small1000 (by omega)
        · rw [upd_same, nums_app]
          rfl
    · rintro H3 ⟨s3, hD3⟩
      rw [nums_len, List.take_length, ← stepped_new hI v] at hD3
      have T3 := T2'.same s3
      refine ⟨_, rfl, a, C, _, _, _, rfl, T3.obj, T.cl, T.nT, tf_t, _, rfl, _, _, rfl, .inl (SqL.of hD3), (by show 2 ≤ sizeLine; decide), fun q hq => ?_⟩
      have fl : ((Uw77.stepped x v).done.filter fun i => !x.done.contains i).length ≤ 6 := by
        rw [stepped_new hI v]
        exact Nat.le_trans (List.length_filter_le _ _) (by omega)
      refine ⟨_, rfl, q, D, _, _, rfl, rfl, upd_same, (by rw [upd_ne (ne_of_none hD3 hq)]; exact hD3), (by rw [nums_len]; show 2 + _ ≤ sizeLine; exact Nat.le_of_lt (small1000 (by omega))), fun z hz => ?_⟩
      obtain ⟨zq, hz3⟩ := upd_none hz
      have e2 : ([V.int ((Uw77.stepped x v).turn : Nat), V.int ((nums ((Uw77.stepped x v).done.filter fun i => !x.done.contains i)).length : Nat)] ++ nums ((Uw77.stepped x v).done.filter fun i => !x.done.contains i)) = (((Uw77.stepped x v).turn : Int) :: Uw77.counted ((Uw77.stepped x v).done.filter fun i => !x.done.contains i)).map V.int := by
        rw [nums_len, nums_ints]
        rfl
      rw [e2]
      have s4 : Same H2 (upd (upd H3 q (HO.lst [V.int ((Uw77.stepped x v).turn : Nat), V.int ((nums ((Uw77.stepped x v).done.filter fun i => !x.done.contains i)).length : Nat)])) z (HO.lst ((((Uw77.stepped x v).turn : Int) :: Uw77.counted ((Uw77.stepped x v).done.filter fun i => !x.done.contains i)).map V.int))) := fun b o e => by
        rw [upd_ne (ne_of_none (s3 _ _ e) hz3), upd_ne (ne_of_none (s3 _ _ e) hq)]
        exact s3 _ _ e
      have g2 : ∀ b, H2 b = none → H b = none := fun b hb => by
        refine s1.free ?_
        cases y : H1 b with
        | none => rfl
        | some o =>
          by_cases c : b = a
          · rw [c, T2'.obj] at hb; cases hb
          · rw [kp b o y c] at hb; cases hb
      exact k _ A2 z (T2'.same s4) (fun b o e hb _ => s4 _ _ (kp b o (s1 _ _ e) hb)) (fun b hb => (fr b hb).imp_right s1.free) (g2 z (s3.free hz3)) upd_same
end
end Tt
set_option Elab.async false
set_option compiler.extract_closed false
set_option genSizeOf false
set_option linter.all false
set_option maxRecDepth 100000
set_option maxHeartbeats 2000000
namespace Tt
open PySem PySem.Spec PyProof.Rows L2
open Uw77 (Table Wish numberOf Stand)
open Ma
noncomputable abbrev sRIn : Stmt := inClass (top 8) 0
noncomputable abbrev sNow : Stmt := top 9
noncomputable abbrev sAft : Stmt := top 10
noncomputable abbrev sEnd : Stmt := top 11
noncomputable abbrev sWai : Stmt := top 12
noncomputable abbrev sTog : Stmt := top 13
noncomputable abbrev sWay : Stmt := top 14
noncomputable abbrev sLon : Stmt := top 15
noncomputable abbrev sFew : Stmt := top 16
noncomputable abbrev sLea : Stmt := top 17
structure TxtP (K : PySem.W.Frag) (mg : Str → Option Value) (R : Addr) : Prop where
  cl : Cls K R
  nM : NoAttr K R "many"
  nF : NoAttr K R "first"
  mgR : mg "Rows" = some (.ref R)
  tup : mg "tuple" = none
  sum : mg "sum" = none
  min : mg "min" = none
noncomputable def kst (k : Nat) (u : Stand) : SK.Key2 := ((u.1 : Nat), bits k u.2)
theorem bits_inj {k a b : Nat} (ha : a < 2 ^ k) (hb : b < 2 ^ k) (h : bits k a = bits k b) : a = b :=
  bit_ext ha hb fun i hi => by
    have e : (bits k a)[i]? = (bits k b)[i]? := by rw [h]
    unfold bits at e
    rw [List.getElem?_map, List.getElem?_map, List.getElem?_range hi] at e
    exact Option.some.inj e
theorem kst_inj {n : Nat} {ws : List Wish} {u v : Stand} (hu : Va n ws u) (hv : Va n ws v) (h : kst ws.length u = kst ws.length v) : u = v := by
  injection h with h1 h2
  exact Prod.ext (Int.ofNat_inj.mp h1) (bits_inj hu.m hv.m h2)
theorem _root_.L2.KeyAt.same {H H' : Hp} {k : SK.Key2} {q : Addr} (x : KeyAt H k q) (s : Same H H') : KeyAt H' k q := x.keeps fun b xs e => s b _ e
theorem all_full {n : Nat} {ws : List Wish} (o : Ok n ws) {u : Stand} (v : Va n ws u) : (bits ws.length u.2).all id = (u.2 == Uw77.fullSet ws) := by
  rw [Bool.eq_iff_iff, List.all_eq_true, beq_iff_eq]
  unfold bits
  constructor
  · intro h
    refine (full_iff o v).mpr fun i hi => ?_
    exact h _ (List.mem_map.mpr ⟨i, List.mem_range.mpr hi, rfl⟩)
  · intro h b hb
    obtain ⟨i, hi, rfl⟩ := List.mem_map.mp hb
    exact (full_iff o v).mp h i (List.mem_range.mp hi)
theorem count_wait (ws : List Wish) (m : Nat) : (bits ws.length m).count false = Uw77.waiting ws m := by
  unfold Uw77.waiting Uw77.membersOf bits
  have h : ∀ l : List Nat, (l.map (Uw77.isIn m)).count false + (l.filter (Uw77.isIn m)).length = l.length := by
    intro l
    induction l with
    | nil => rfl
    | cons a l ih =>
      cases e : Uw77.isIn m a with
      | true => simp [e] at ih ⊢; omega
      | false => simp [e] at ih ⊢; omega
  have := h (List.range ws.length)
  rw [List.length_range] at this
  omega
section
variable {P : Program} {w : World} {K : PySem.W.Frag} {mg : Str → Option Value} {base : Heap}
theorem boot_tuple' : bootBuiltins "tuple" = some (.type "tuple") := by decide +kernel
noncomputable def rf (c : Nat) (l : Addr) : List (Str × V) := [("many", .int (c : Nat)), ("first", .ref l)]
theorem rf_m {c : Nat} {l : Addr} : (rf c l).lookup ("many" : Str) = some (.int (c : Nat)) := rfl
theorem rf_f {c : Nat} {l : Addr} : (rf c l).lookup ("first" : Str) = some (.ref l) := rfl
noncomputable def RowsAt (R : Addr) (H : Hp) (r : Addr) (z : Ma.Row) : Prop := ∃ dx l, H r = some (.ins R dx (rf z.1 l)) ∧ H l = some (.lst (nums z.2))
theorem RowsAt.same {R : Addr} {H H' : Hp} {r : Addr} {z : Ma.Row} (x : RowsAt R H r z) (s : Same H H') : RowsAt R H' r z := let ⟨dx, l, h1, h2⟩ := x; ⟨dx, l, s _ _ h1, s _ _ h2⟩
noncomputable def spRIn (R : Addr) : Sp := fun vs H Q _ => ∃ (r dx l : Addr) (c : Nat), vs = [.ref r, .int (c : Nat), .ref l] ∧ H r = some (.ins R dx []) ∧ Q .non (upd H r (.ins R dx (rf c l)))
theorem scRIn : FnScope ["self", "many", "first"] ["self", "many", "first"] (defScope sRIn) := ⟨rfl, rfl, rfl, by decide +kernel, rfl, by decide +kernel, by decide +kernel⟩
theorem ok_rin {f R : Addr} {fd : FuncData} (F : Fun K "__init__" "Rows.__init__" sRIn f fd) (T : TxtP K mg R) : FnOk P w K mg base CX0 1 f fd ["self", "many", "first"] (spRIn R) := by
  refine F.ok scRIn (fun vs H Q E h => ?_) (fun cdv A outer s H vs Q E hr h => ?_)
  · obtain ⟨r, dx, l, c, rfl, _⟩ := h
    rfl
  · obtain ⟨r, dx, l, c, rfl, ha, k⟩ := h
    refine ⟨_, pss_cons (ps_fld (pv 0) (pv 1) rfl) (pss_one (ps_fld (pv 0) (pv 2) rfl)), ?_⟩
    refine ⟨_, rfl, _, rfl, r, R, dx, [], rfl, ha, T.cl, T.nM, (by decide), ?_⟩
    refine ⟨_, rfl, _, rfl, r, R, dx, _, rfl, upd_same, T.cl, T.nF, (by show 1 < 1000; decide), ?_⟩
    rw [upd_upd]
    exact k
noncomputable def spNow (C : Addr) : Sp := fun vs H Q _ => ∃ (a : Addr) (A : Ad) (x : Table), vs = [.ref a] ∧ TabAt C H a A x ∧ ∀ (H' : Hp) (q : Addr), Same H H' → KeyAt H' (kst x.wishes.length (Uw77.standOf x)) q → Q (.ref q) H'
theorem scNow : FnScope ["table"] ["table"] (defScope sNow) := ⟨rfl, rfl, rfl, by decide +kernel, rfl, by decide +kernel, by decide +kernel⟩
theorem ok_now {f C R : Addr} {fd : FuncData} (F : Fun K "state_now" "state_now" sNow f fd) (T : Txt K mg C) (TP : TxtP K mg R) : FnOk P w K mg base CX0 1 f fd ["table"] (spNow C) := by
  refine F.ok scNow (fun vs H Q E h => ?_) (fun cdv A outer s H vs Q E hr h => ?_)
  · obtain ⟨a, A, x, rfl, _⟩ := h
    rfl
  · obtain ⟨a, A, x, rfl, hT, k⟩ := h
    refine ⟨_, pss_one (ps_ret (pe_tup (pa_cons (pe_fld (pv 0) (by rfl)) (pa_cons (pe_callTy call_tuple_of (by rfl) TP.tup boot_tuple' (pa_cons (pe_fld (pv 0) (by rfl)) pa_nil)) pa_nil)))), ?_⟩
    refine ⟨_, rfl, a, C, _, _, _, rfl, hT.obj, T.cl, T.nT, tf_t, _, rfl, a, C, _, _, _, rfl, hT.obj, T.cl, T.nF, tf_f, A.f, _, rfl, .inl ⟨SqL.of hT.fu, fun b hb => ?_⟩⟩
    have s1 : Same H (upd H b (.tup ((bits x.wishes.length (numberOf x.done)).map V.bl))) := Same.upd_new (Same.refl H) hb
    refine ⟨(by show 2 ≤ sizeLine; decide), fun q hq => ?_⟩
    obtain ⟨nqb, hq0⟩ := upd_none hq
    exact k _ q (Same.upd_new s1 hq0) ⟨b, upd_same, by rw [upd_ne nqb.symm]; exact upd_same⟩
noncomputable def spAft (C : Addr) : Sp := fun vs H Q _ => ∃ (a q : Addr) (A : Ad) (x : Table) (u : Stand) (v : Nat), vs = [.ref a, .ref q, .int (v : Nat)] ∧ TabAt C H a A x ∧ TInv x ∧ Va x.n x.wishes u ∧ KeyAt H (kst x.wishes.length u) q ∧
  ∀ (H' : Hp) (q' : Addr), Same H H' → KeyAt H' (kst x.wishes.length (Uw77.after x.n x.wishes u v)) q' → Q (.ref q') H'
theorem scAft : FnScope ["table", "state", "way", "turned"] ["table", "state", "way"] (defScope sAft) := ⟨rfl, rfl, rfl, by decide +kernel, rfl, by decide +kernel, by decide +kernel⟩
theorem ok_aft {f C R fT fS : Addr} {fd fdT fdS : FuncData} (F : Fun K "state_after" "state_after" sAft f fd) (T : Txt K mg C) (TP : TxtP K mg R)
    (GT : FnOk P w K mg base CX0 1 fT fdT ["self", "turned", "way"] (spTurn C)) (bT : Binds K fdT ["self", "turned", "way"] []) (mT : Meth K C "turn_after" fT)
    (GS : FnOk P w K mg base CX0 2 fS fdS ["self", "turned", "fulfilled"] (spSet C)) (bS : Binds K fdS ["self", "turned", "fulfilled"] []) (mS : Meth K C "settled" fS) : FnOk P w K mg base CX0 3 f fd ["table", "state", "way"] (spAft C) := by
  refine F.ok scAft (fun vs H Q E h => ?_) (fun cdv A outer s H vs Q E hr h => ?_)
  · obtain ⟨a, q, A, x, u, v, rfl, _⟩ := h
    rfl
  · obtain ⟨a, q, A, x, u, v, rfl, hT, hI, hu, ⟨b, hq, hb⟩, k⟩ := h
    have hr1 : Room 1 _ := hr.mono (by decide)
    refine ⟨_, pss_cons (ps_set (i := 3) scAft.nd rfl (Or.inl rfl) (pe_meth (pv 0) T.cl mT GT hr1 bT .nil pass0 (pa_cons (pe_ix ix_tup (pv 1) pe_int (fun _ _ => rfl)) (pa_cons (pv 2) pa_nil))))
      (pss_one (ps_ret (pe_tup (pa_cons (pv 3) (pa_cons (pe_callTy call_tuple_of (by rfl) TP.tup boot_tuple' (pa_cons (pe_meth (pv 0) T.cl mS GS hr bS .nil pass0 (pa_cons (pv 3) (pa_cons (pe_ix ix_tup (pv 1) pe_int (fun _ _ => rfl)) pa_nil))) pa_nil)) pa_nil))))), ?_⟩
    have n2 := hI.n2
    have htn : Uw77.turned x.n u.1 v < x.n := turned_lt (by omega)
    refine ⟨_, rfl, a, _, _, rfl, hT.obj, rfl, _, rfl, _, _, _, _, rfl, rfl, SqT.of hq, rfl, _, rfl, a, A, x, u.1, v, rfl, hT, hI, hu.t, ?_⟩
    refine ⟨_, rfl, _, rfl, a, _, _, rfl, hT.obj, rfl, _, rfl, _, rfl, _, _, _, _, rfl, rfl, SqT.of hq, rfl, a, A, x, Uw77.turned x.n u.1 v, b, bits x.wishes.length u.2, rfl, hT, hI, htn, .inr hb, bits_len _ _, fun H2 p hp s2 h2 => ?_⟩
    have h2' : H2 p = some (.lst ((bits x.wishes.length (Uw77.after x.n x.wishes u v).2).map V.bl)) := by
      show _ = some (HO.lst ((bits x.wishes.length (Uw77.serve x.n x.wishes (Uw77.turned x.n u.1 v) u.2)).map V.bl))
      rw [← settle_serve hI.k6 hI.ins hu.m]
      exact h2
    refine ⟨p, _, rfl, .inl ⟨SqL.of h2', fun b' hb' => ?_⟩⟩
    have s3 : Same H (upd H2 b' (.tup ((bits x.wishes.length (Uw77.after x.n x.wishes u v).2).map V.bl))) := Same.upd_new s2 (s2.free hb')
    refine ⟨(by show 2 ≤ sizeLine; decide), fun q' hq' => ?_⟩
    obtain ⟨nqb, hq0⟩ := upd_none hq'
    exact k _ q' (Same.upd_new s3 (s2.free hq0)) ⟨b', upd_same, by rw [upd_ne nqb.symm]; exact upd_same⟩
noncomputable def spEnd : Sp := fun vs H Q _ => ∃ (q : Addr) (k : SK.Key2), vs = [.ref q] ∧ KeyAt H k q ∧ Q (.bl (k.2.all id)) H
theorem scEnd : FnScope ["state"] ["state"] (defScope sEnd) := ⟨rfl, rfl, rfl, by decide +kernel, rfl, by decide +kernel, by decide +kernel⟩
theorem ok_end {f C : Addr} {fd : FuncData} (F : Fun K "is_end" "is_end" sEnd f fd) (T : Txt K mg C) : FnOk P w K mg base CX0 1 f fd ["state"] spEnd := by
  refine F.ok scEnd (fun vs H Q E h => ?_) (fun cdv A outer s H vs Q E hr h => ?_)
  · obtain ⟨q, k, rfl, _⟩ := h
    rfl
  · obtain ⟨q, kk, rfl, ⟨b, hq, hb⟩, k⟩ := h
    refine ⟨_, pss_one (ps_ret (pe_callB (cr_allT rfl) (by rfl) T.all boot_all' (pa_cons (pe_ix ix_tup (pv 0) pe_int (fun _ _ => rfl)) pa_nil))), ?_⟩
    exact ⟨_, rfl, _, _, _, _, rfl, rfl, SqT.of hq, rfl, b, _, rfl, SqT.of hb, k⟩
noncomputable def spWai : Sp := fun vs H Q _ => ∃ (q : Addr) (k : SK.Key2), vs = [.ref q] ∧ KeyAt H k q ∧ Q (.int (k.2.count false : Nat)) H
theorem scWai : FnScope ["state"] ["state"] (defScope sWai) := ⟨rfl, rfl, rfl, by decide +kernel, rfl, by decide +kernel, by decide +kernel⟩
theorem ok_wai {f : Addr} {fd : FuncData} (F : Fun K "how_many_wait" "how_many_wait" sWai f fd) : FnOk P w K mg base CX0 1 f fd ["state"] spWai := by
  refine F.ok scWai (fun vs H Q E h => ?_) (fun cdv A outer s H vs Q E hr h => ?_)
  · obtain ⟨q, k, rfl, _⟩ := h
    rfl
  · obtain ⟨q, kk, rfl, ⟨b, hq, hb⟩, k⟩ := h
    refine ⟨_, pss_one (ps_ret (pe_bm PySem.F.plainAttrs_tuple PySem.F.slot_tuple_count PySem.F.type_tuple_count mt_countT (pe_ix ix_tup (pv 0) pe_int (fun _ _ => rfl)) (pa_cons pe_bl pa_nil))), ?_⟩
    exact ⟨_, rfl, _, _, _, _, rfl, rfl, SqT.of hq, rfl, .inr (.inr (.inr (.inr ⟨rfl, _, hb⟩))), b, _, _, rfl, rfl, SqT.of hb, k⟩
end
end Tt
set_option Elab.async false
set_option compiler.extract_closed false
set_option genSizeOf false
set_option linter.all false
set_option maxRecDepth 100000
set_option maxHeartbeats 2000000
namespace Tt
open PySem PySem.Spec PyProof.Rows L2
open Uw77 (Table Wish numberOf Stand)
open Ma
theorem paired_of {α β : Type} {R : α → β → Prop} {l : List α} {m : List β} (h : l.length = m.length) (f : ∀ (i : Nat) (a : α) (b : β), l[i]? = some a → m[i]? = some b → R a b) : Paired R l m := by
  induction l generalizing m with
  | nil =>
    cases m with
    | nil => exact .nil
    | cons b m => cases h
  | cons a l ih =>
    cases m with
    | nil => cases h
    | cons b m => exact .cons (f 0 a b rfl rfl) (ih (Nat.succ.inj h) fun i x y h1 h2 => f (i + 1) x y h1 h2)
theorem paired_both {α β : Type} {R : α → β → Prop} {l : List α} {m : List β} (h : Paired R l m) {i : Nat} {a : α} {b : β} (ha : l[i]? = some a) (hb : m[i]? = some b) : R a b := by
  obtain ⟨b', h1, h2⟩ := paired_get h ha
  rw [hb] at h1
  cases h1
  exact h2
theorem lex_ints : ∀ p q : List Nat, HT.lexLt (Uw77.ints p) (Uw77.ints q) = lexN p q
  | [], [] => rfl
  | [], _ :: _ => rfl
  | _ :: _, [] => rfl
  | x :: xs, y :: ys => by
    show (if ((x : Nat) : Int) = ((y : Nat) : Int) then HT.lexLt (Uw77.ints xs) (Uw77.ints ys) else decide (((x : Nat) : Int) < ((y : Nat) : Int))) = if x = y then lexN xs ys else decide (x < y)
    by_cases e : x = y
    · subst e
      rw [if_pos rfl, if_pos rfl]
      exact lex_ints xs ys
    · rw [if_neg (fun z => e (Int.ofNat_inj.mp z)), if_neg e, decide_eq_decide.mpr Int.ofNat_lt]
theorem argBest_min {f : Nat → List Nat} {bt : Nat → Nat → Bool} (hb : ∀ i j, bt i j = lexN (f i) (f j)) : ∀ k i, i ≤ k → lexN (f i) (f (argBest bt k)) = false
  | 0, i, h => by
    have : i = 0 := by omega
    rw [this]
    exact lexN_refl _
  | k + 1, i, h => by
    unfold argBest
    by_cases c : bt (k + 1) (argBest bt k) = true
    · rw [if_pos c]
      rw [hb] at c
      by_cases e : i = k + 1
      · rw [e]; exact lexN_refl _
      · exact lexN_trans (lexN_total c) (argBest_min hb k i (by omega))
    · rw [if_neg c]
      by_cases e : i = k + 1
      · rw [e, ← hb]
        cases z : bt (k + 1) (argBest bt k) with
        | true => exact absurd z c
        | false => rfl
      · exact argBest_min hb k i (by omega)
theorem rows_split {R : Addr} {H : Hp} {rs : List Addr} {zs : List Ma.Row} (h : Paired (RowsAt R H) rs zs) : ∃ ls : List Addr, ls.length = zs.length ∧ ∀ (i : Nat) (r : Addr) (z : Ma.Row), rs[i]? = some r → zs[i]? = some z → ∃ dx l, ls[i]? = some l ∧ H r = some (.ins R dx (rf z.1 l)) ∧ H l = some (.lst (nums z.2)) := by
  induction h with
  | nil => exact ⟨[], rfl, fun i r z h => by simp at h⟩
  | @cons r z rs zs h t ih =>
    obtain ⟨dx, l, h1, h2⟩ := h
    obtain ⟨ls, e, f⟩ := ih
    refine ⟨l :: ls, by rw [List.length_cons, List.length_cons, e], fun i r' z' a b => ?_⟩
    cases i with
    | zero =>
      rw [List.getElem?_cons_zero] at a b
      cases a
      cases b
      exact ⟨dx, l, rfl, h1, h2⟩
    | succ i => exact f i r' z' a b
theorem many_sum : ∀ zs : List Ma.Row, (zs.map fun z => ((z.1 : Nat) : Int)).sum = ((many zs : Nat) : Int)
  | [] => rfl
  | z :: zs => by
    have ih := many_sum zs
    unfold many at ih ⊢
    rw [List.map_cons, List.sum_cons, ih, List.map_cons, List.sum_cons]
    omega
section
variable {P : Program} {w : World} {K : PySem.W.Frag} {mg : Str → Option Value} {base : Heap}
noncomputable def spTog (R : Addr) : Sp := fun vs H Q _ => ∃ (s : Addr) (rs : List Addr) (zs : List Ma.Row), vs = [.ref s] ∧ H s = some (.lst (rs.map V.ref)) ∧ Paired (RowsAt R H) rs zs ∧ zs ≠ [] ∧ zs.length ≤ 2000 ∧
  ∀ (H' : Hp) (r : Addr) (m : List Nat), Same H H' → H r = none → IsMin m (zs.map (·.2)) → RowsAt R H' r (many zs, m) → Q (.ref r) H'
theorem scTog : FnScope ["several", "rows"] ["several"] (defScope sTog) := ⟨rfl, rfl, rfl, by decide +kernel, rfl, by decide +kernel, by decide +kernel⟩
theorem ok_tog {f R fI : Addr} {fd fdI : FuncData} (F : Fun K "together" "together" sTog f fd) (TP : TxtP K mg R) (MR : Mk K R fI)
    (GI : FnOk P w K mg base CX0 1 fI fdI ["self", "many", "first"] (spRIn R)) (bI : Binds K fdI ["self", "many", "first"] []) : FnOk P w K mg base CX0 3 f fd ["several"] (spTog R) := by
  refine F.ok scTog (fun vs H Q E h => ?_) (fun cdv A outer s H vs Q E hr h => ?_)
  · obtain ⟨s, rs, zs, rfl, _⟩ := h
    rfl
  · obtain ⟨sv, rs, zs, rfl, hs, hp, hne, hlen, k⟩ := h
    have hl : rs.length = zs.length := Paired.length hp
    obtain ⟨ls, hll, hsp⟩ := rows_split hp
    have hu := hu_of hr
    refine ⟨_, pss_one (ps_ret (pe_make MR GI hr rfl TP.mgR bI .nil pass0
      (pa_cons (pe_callB (cr_sum rfl) (by rfl) TP.sum boot_sum (pa_cons (pe_lc (own := [("rows", 1)]) rfl scTog.nd (pi_list (pv 0))
        (blkOk_by (show blkC ["several", "rows"] (defScope sTog) _ [("rows", 1)] = true by decide +kernel))
        (fun _ _ _ _ _ => pg_name (i := 1) scTog.nd rfl (Or.inl rfl)) (fun _ _ _ _ _ => pts_nil)
        (fun _ _ _ _ _ => pe_fldK K rfl (pv 1) (by rfl))) pa_nil))
      (pa_cons (pe_callB (cr_minL rfl hu) (by rfl) TP.min boot_min (pa_cons (pe_lc (own := [("rows", 1)]) rfl scTog.nd (pi_list (pv 0))
        (blkOk_by (show blkC ["several", "rows"] (defScope sTog) _ [("rows", 1)] = true by decide +kernel))
        (fun _ _ _ _ _ => pg_name (i := 1) scTog.nd rfl (Or.inl rfl)) (fun _ _ _ _ _ => pts_nil)
        (fun _ _ _ _ _ => pe_fldK K rfl (pv 1) (by rfl))) pa_nil)) pa_nil)))), ?_⟩
    have at3 : ∀ {i : Nat} {v : V}, (rs.map V.ref)[i]? = some v → ∃ r z, v = .ref r ∧ rs[i]? = some r ∧ zs[i]? = some z := by
      intro i v hv
      rw [List.getElem?_map] at hv
      obtain ⟨r, h1, rfl⟩ := Option.map_eq_some_iff.mp hv
      have hi : i < zs.length := by rw [← hl]; exact (List.getElem?_eq_some_iff.mp h1).1
      exact ⟨r, zs[i], rfl, h1, List.getElem?_eq_getElem hi⟩
    refine ⟨_, rfl, sv, rfl, ⟨_, SqL.of hs⟩, fun D hD => ?_⟩
    refine lc_list (K := K) (a := sv) (xs := rs.map V.ref) (fun i H' => Same H H' ∧ H' D = some (.lst (((zs.take i).map fun z => ((z.1 : Nat) : Int)).map V.int))) ⟨Same.upd_new (Same.refl H) hD, upd_same⟩ (fun i H' _ hZ => have s1 := hZ.1; SqL.of (s1 _ _ hs)) ?_ ?_
    · rintro i y H' hi ⟨s1, hD1⟩
      obtain ⟨r, z, rfl, h1, h2⟩ := at3 hi
      obtain ⟨dx, l, h3, h4, h5⟩ := hsp i r z h1 h2
      refine ⟨rfl, _, rfl, r, R, dx, _, _, rfl, s1 _ _ h4, TP.cl, TP.nM, rf_m, _, hD1, ?_, Same.upd_new s1 hD, ?_⟩
      · rw [List.length_map, List.length_map, List.length_take, sizeLine_eq]
        omega
      · rw [upd_same, take_snoc' h2, List.map_append, List.map_append]
        rfl
    · rintro H1 ⟨s1, hD1⟩
      rw [List.length_map, hl, List.take_length] at hD1
      refine ⟨D, _, rfl, SqL.of hD1, ?_⟩
      refine ⟨_, rfl, sv, rfl, ⟨_, SqL.of (s1 _ _ hs)⟩, fun D2 hD2 => ?_⟩
      have hD20 := s1.free hD2
      refine lc_list (K := K) (a := sv) (xs := rs.map V.ref) (fun i H' => Same H1 H' ∧ H' D2 = some (.lst ((ls.take i).map V.ref))) ⟨Same.upd_new (Same.refl H1) hD2, upd_same⟩ (fun i H' _ hZ => have s2 := hZ.1; SqL.of (s2 _ _ (s1 _ _ hs))) ?_ ?_
      · rintro i y H' hi ⟨s2, hD3⟩
        obtain ⟨r, z, rfl, h1, h2⟩ := at3 hi
        obtain ⟨dx, l, h3, h4, h5⟩ := hsp i r z h1 h2
        refine ⟨rfl, _, rfl, r, R, dx, _, _, rfl, s2 _ _ (s1 _ _ h4), TP.cl, TP.nF, rf_f, _, hD3, ?_, Same.upd_new s2 hD2, ?_⟩
        · rw [List.length_map, List.length_take, sizeLine_eq]
          omega
        · rw [upd_same, take_snoc' h3, List.map_append]
          rfl
      · rintro H2 ⟨s2, hD3⟩
        rw [List.length_map, hl, ← hll, List.take_length] at hD3
        have s12 := s1.trans s2
        have hpos : 0 < zs.length := List.length_pos_iff.mpr hne
        refine ⟨D2, ls, zs.map (fun z => Uw77.ints z.2), rfl, SqL.of hD3, paired_of (by rw [List.length_map, hll]) (fun i a b ha hb => ?_), (by omega), fun b hb => ?_⟩
        · rw [List.getElem?_map] at hb
          obtain ⟨z, h2, rfl⟩ := Option.map_eq_some_iff.mp hb
          have hi : i < rs.length := by rw [hl]; exact (List.getElem?_eq_some_iff.mp h2).1
          obtain ⟨dx, l, h3, h4, h5⟩ := hsp i rs[i] z (List.getElem?_eq_getElem hi) h2
          rw [ha] at h3
          cases h3
          rw [← nums_ints]
          exact SqL.of (s12 _ _ h5)
        · generalize hj : argBest (fun i j => HT.lexLt ((zs.map (fun z => Uw77.ints z.2)).getD i []) ((zs.map (fun z => Uw77.ints z.2)).getD j [])) (ls.length - 1) = j at hb
          have hjl : j < zs.length := by rw [← hll]; exact (List.getElem?_eq_some_iff.mp hb).1
          have hjr : j < rs.length := by rw [hl]; exact hjl
          obtain ⟨dx, l, h3, h4, h5⟩ := hsp j rs[j] zs[j] (List.getElem?_eq_getElem hjr) (List.getElem?_eq_getElem hjl)
          rw [hb] at h3
          cases h3
          have gd : ∀ i, (zs.map (fun z => Uw77.ints z.2)).getD i [] = Uw77.ints ((zs.map (·.2)).getD i []) := by
            intro i
            rw [List.getD_eq_getElem?_getD, List.getD_eq_getElem?_getD, List.getElem?_map, List.getElem?_map]
            cases zs[i]? <;> rfl
          have mn := argBest_min (f := fun i => (zs.map (·.2)).getD i []) (bt := fun i j => HT.lexLt ((zs.map (fun z => Uw77.ints z.2)).getD i []) ((zs.map (fun z => Uw77.ints z.2)).getD j [])) (fun i j => by rw [gd, gd, lex_ints]) (ls.length - 1)
          rw [hj] at mn
          have ej : (zs.map (·.2)).getD j [] = zs[j].2 := by
            rw [List.getD_eq_getElem?_getD, List.getElem?_map, List.getElem?_eq_getElem hjl]
            rfl
          have isMin : IsMin zs[j].2 (zs.map (·.2)) := by
            refine ⟨List.mem_map.mpr ⟨zs[j], List.getElem_mem hjl, rfl⟩, fun q hq => ?_⟩
            obtain ⟨i, hi⟩ := List.getElem?_of_mem hq
            have hil : i < zs.length := by have := (List.getElem?_eq_some_iff.mp hi).1; rwa [List.length_map] at this
            have := mn i (by omega)
            rw [ej] at this
            rw [List.getD_eq_getElem?_getD, hi] at this
            exact this
          intro r dx' hr1 hdx hdn
          rw [many_sum]
          refine ⟨r, dx', b, many zs, rfl, upd_same, rfl, ?_⟩
          rw [upd_upd]
          have hb2 : H2 b = some (.lst (nums zs[j].2)) := s12 _ _ h5
          refine k _ r zs[j].2 (fun c o e => ?_) (s12.free hr1) isMin ⟨dx', b, upd_same, ?_⟩
          · have e2 := s12 _ _ e
            rw [upd_ne (ne_of_none e2 hr1), upd_ne (ne_of_none e2 hdx)]
            exact e2
          · rw [upd_ne (ne_of_none hb2 hr1), upd_ne (ne_of_none hb2 hdx)]
            exact hb2
end
end Tt
set_option Elab.async false
set_option compiler.extract_closed false
set_option genSizeOf false
set_option linter.all false
set_option maxRecDepth 100000
set_option maxHeartbeats 2000000
namespace Tt
open PySem PySem.Spec PyProof.Rows L2
open Uw77 (Table Wish numberOf Stand)
open Ma
theorem upd_keep {H : Hp} {a b : Addr} {o u v : HO} (h : H b = some o) (h' : H a = some u) (ne : o ≠ u) : upd H a v b = some o := by rw [upd_ne (ne_of h h' ne)]; exact h
noncomputable def Tups (H H' : Hp) : Prop := ∀ b xs, H b = some (.tup xs) → H' b = some (.tup xs)
theorem Tups.refl (H : Hp) : Tups H H := fun _ _ e => e
theorem Tups.trans {H H1 H2 : Hp} (a : Tups H H1) (b : Tups H1 H2) : Tups H H2 := fun c xs e => b c xs (a c xs e)
theorem _root_.L2.Same.tups {H H' : Hp} (s : Same H H') : Tups H H' := fun b xs e => s b _ e
theorem Tups.upd {H : Hp} {a : Addr} {o v : HO} (h : H a = some o) (ne : ∀ xs, o ≠ .tup xs) : Tups H (upd H a v) := fun b xs e => upd_keep e h (fun z => ne xs z.symm)
theorem lst_ne {rs : List Addr} (h : rs ≠ []) (p : List Nat) : HO.lst (nums p) ≠ HO.lst (rs.map V.ref) := by
  intro e
  injection e with e
  cases rs with
  | nil => exact h rfl
  | cons r rs =>
    cases p with
    | nil => cases e
    | cons j p =>
      have e : V.int (j : Nat) :: nums p = V.ref r :: rs.map V.ref := e
      injection e with e _
      cases e
theorem RowsAt.upd_refs {R : Addr} {H : Hp} {r s : Addr} {z : Ma.Row} {rs : List Addr} {v : HO} (x : RowsAt R H r z) (hs : H s = some (.lst (rs.map V.ref))) (hne : rs ≠ []) : RowsAt R (upd H s v) r z :=
  let ⟨dx, l, h1, h2⟩ := x
  ⟨dx, l, upd_keep h1 hs (fun e => nomatch e), upd_keep h2 hs (lst_ne hne _)⟩
theorem RowsAt.upd_dic {R : Addr} {H : Hp} {r d : Addr} {z : Ma.Row} {kvs : List (SK.Key2 × V)} {v : HO} (x : RowsAt R H r z) (hd : H d = some (.dT kvs)) : RowsAt R (upd H d v) r z :=
  let ⟨dx, l, h1, h2⟩ := x
  ⟨dx, l, upd_keep h1 hd (fun e => nomatch e), upd_keep h2 hd (fun e => nomatch e)⟩
theorem Paired.app1 {α β : Type} {R : α → β → Prop} {l : List α} {m : List β} {a : α} {b : β} (h : Paired R l m) (r : R a b) : Paired R (l ++ [a]) (m ++ [b]) := by
  induction h with
  | nil => exact .cons r .nil
  | cons x _ ih => exact .cons x ih
noncomputable def LayAt (R : Addr) (k : Nat) (H : Hp) (d : Addr) (L : List (Stand × Ma.Row)) : Prop := ∃ kvs : List (SK.Key2 × V), H d = some (.dT kvs) ∧ Paired (fun (e : Stand × Ma.Row) (kv : SK.Key2 × V) => kv.1 = kst k e.1 ∧ ∃ r, kv.2 = .ref r ∧ RowsAt R H r e.2) L kvs
noncomputable def SeenAt (k : Nat) (H : Hp) (d : Addr) (S : List Stand) : Prop := ∃ kvs : List (SK.Key2 × V), H d = some (.dT kvs) ∧ kvs.map (·.1) = S.map (kst k)
structure FoundK (R : Addr) (k : Nat) (H0 H : Hp) (d : Addr) (F : List (Stand × List Ma.Row)) (kvs : List (SK.Key2 × V)) (as : List Addr) : Prop where
  dic : H d = some (.dT kvs)
  new : H0 d = none
  vals : kvs.map (·.2) = as.map V.ref
  nd : as.Nodup
  fr : ∀ s ∈ as, H0 s = none
  keys : kvs.map (·.1) = F.map (fun e => kst k e.1)
  ent : ∀ (i : Nat) (e : Stand × List Ma.Row) (s : Addr), F[i]? = some e → as[i]? = some s → ∃ rs : List Addr, rs ≠ [] ∧ H s = some (.lst (rs.map V.ref)) ∧ Paired (RowsAt R H) rs e.2
theorem FoundK.len {R : Addr} {k : Nat} {H0 H : Hp} {d : Addr} {F : List (Stand × List Ma.Row)} {kvs : List (SK.Key2 × V)} {as : List Addr} (x : FoundK R k H0 H d F kvs as) : kvs.length = F.length ∧ as.length = F.length := by
  have h1 := congrArg List.length x.keys
  have h2 := congrArg List.length x.vals
  simp only [List.length_map] at h1 h2
  omega
theorem FoundK.same {R : Addr} {k : Nat} {H0 H H' : Hp} {d : Addr} {F : List (Stand × List Ma.Row)} {kvs : List (SK.Key2 × V)} {as : List Addr} (x : FoundK R k H0 H d F kvs as) (s : Same H H') : FoundK R k H0 H' d F kvs as :=
  ⟨s _ _ x.dic, x.new, x.vals, x.nd, x.fr, x.keys, fun i e a h1 h2 => let ⟨rs, h3, h4, h5⟩ := x.ent i e a h1 h2; ⟨rs, h3, s _ _ h4, Paired.mapP h5 fun _ _ z => z.same s⟩⟩
theorem nd_get {α : Type} {l : List α} (h : l.Nodup) {i j : Nat} {a : α} (h1 : l[i]? = some a) (h2 : l[j]? = some a) : i = j :=
  (List.getElem?_inj (List.getElem?_eq_some_iff.mp h1).1 h).mp (h1.trans h2.symm)
theorem FoundK.old {R : Addr} {k : Nat} {H0 H : Hp} {d : Addr} {F : List (Stand × List Ma.Row)} {kvs : List (SK.Key2 × V)} {as : List Addr} (x : FoundK R k H0 H d F kvs as) (nd : (F.map (·.1)).Nodup)
    {i : Nat} {e : Stand × List Ma.Row} {s : Addr} {rs : List Addr} (he : F[i]? = some e) (hs : as[i]? = some s) (hl : H s = some (.lst (rs.map V.ref))) {r : Addr} {z : Ma.Row} (hr : RowsAt R H r z) :
    FoundK R k H0 (upd H s (.lst (rs.map V.ref ++ [.ref r]))) d (addR F e.1 z) kvs as := by
  obtain ⟨rs', hne, hl', hp⟩ := x.ent i e s he hs
  rw [hl] at hl'
  have ers : rs.map V.ref = rs'.map V.ref := by injection hl' with q; injection q
  rw [ers] at hl ⊢
  have hin : e.1 ∈ F.map (·.1) := List.mem_map.mpr ⟨e, List.mem_of_getElem? he, rfl⟩
  refine ⟨upd_keep x.dic hl (fun q => nomatch q), x.new, x.vals, x.nd, x.fr, ?_, fun j e' s' h1 h2 => ?_⟩
  · rw [x.keys]
    have := congrArg (List.map (kst k)) (addR_keys_old (r := z) hin)
    rw [List.map_map, List.map_map] at this
    exact this.symm
  · unfold addR at h1
    rw [if_pos hin, List.getElem?_map] at h1
    obtain ⟨e0, h3, rfl⟩ := Option.map_eq_some_iff.mp h1
    by_cases c : e0.1 = e.1
    · have eij : j = i := nd_get nd (a := e.1) (by rw [List.getElem?_map, h3, ← c]; rfl) (by rw [List.getElem?_map, he]; rfl)
      subst eij
      rw [hs] at h2
      cases h2
      rw [he] at h3
      cases h3
      rw [if_pos rfl]
      refine ⟨rs' ++ [r], by simp, by rw [upd_same, List.map_append]; rfl, ?_⟩
      exact Paired.app1 (Paired.mapP hp fun _ _ y => y.upd_refs hl hne) (hr.upd_refs hl hne)
    · rw [if_neg c]
      obtain ⟨rs2, n2, l2, p2⟩ := x.ent j e0 s' h3 h2
      have hss : s' ≠ s := fun q => c (by
        have eij : j = i := nd_get x.nd h2 (by rw [q]; exact hs)
        subst eij
        rw [he] at h3
        cases h3
        rfl)
      exact ⟨rs2, n2, by rw [upd_ne hss]; exact l2, Paired.mapP p2 fun _ _ y => y.upd_refs hl hne⟩
theorem FoundK.more {R : Addr} {k : Nat} {H0 H H5 : Hp} {d l : Addr} {F : List (Stand × List Ma.Row)} {kvs : List (SK.Key2 × V)} {as : List Addr} (x : FoundK R k H0 H d F kvs as) {u : Stand} (hu : u ∉ F.map (·.1))
    (keep : ∀ b o, H b = some o → b ≠ d → H5 b = some o) (hd : H5 d = some (.dT (kvs ++ [(kst k u, .ref l)]))) (hl : H5 l = some (.lst [])) (nl : H l = none) (n0 : H0 l = none) {r : Addr} {z : Ma.Row} (hr : RowsAt R H5 r z) (hrl : ∀ dx l', H5 r = some (.ins R dx (rf z.1 l')) → l' ≠ l) :
    FoundK R k H0 (upd H5 l (.lst ([] ++ [.ref r]))) d (addR F u z) (kvs ++ [(kst k u, .ref l)]) (as ++ [l]) := by
  have ea : addR F u z = F ++ [(u, [z])] := by unfold addR; rw [if_neg hu]
  rw [ea]
  have lens := x.len
  have nla : l ∉ as := fun q => by
    obtain ⟨i, hi⟩ := List.getElem?_of_mem q
    have hif : i < F.length := by rw [← lens.2]; exact (List.getElem?_eq_some_iff.mp hi).1
    obtain ⟨rs, _, q2, _⟩ := x.ent i _ l (List.getElem?_eq_getElem hif) hi
    rw [nl] at q2
    cases q2
  have keep2 : ∀ b o, H b = some o → b ≠ d → upd H5 l (.lst ([] ++ [.ref r])) b = some o := fun b o e nb => by rw [upd_ne (ne_of_none e nl)]; exact keep b o e nb
  have rk : ∀ r' z', RowsAt R H r' z' → RowsAt R (upd H5 l (.lst ([] ++ [.ref r]))) r' z' := fun r' z' ⟨dx, l', h1, h2⟩ =>
    ⟨dx, l', keep2 _ _ h1 (ne_of h1 x.dic (fun q => nomatch q)), keep2 _ _ h2 (ne_of h2 x.dic (fun q => nomatch q))⟩
  refine ⟨by rw [upd_ne (ne_of hd hl (fun q => nomatch q))]; exact hd, x.new, by rw [List.map_append, x.vals, List.map_append]; rfl, ?_, fun s hs => ?_, by rw [List.map_append, x.keys, List.map_append]; rfl, fun i e s h1 h2 => ?_⟩
  · exact List.nodup_append.mpr ⟨x.nd, by simp, fun a ha b hb q => nla (by have hb' : b = l := (by simpa using hb); rw [← hb', ← q]; exact ha)⟩
  · rcases List.mem_append.mp hs with q | q
    · exact x.fr s q
    · have : s = l := by simpa using q
      rw [this]; exact n0
  · by_cases c : i < F.length
    · rw [List.getElem?_append_left c] at h1
      rw [List.getElem?_append_left (by rw [lens.2]; exact c)] at h2
      obtain ⟨rs, q1, q2, q3⟩ := x.ent i e s h1 h2
      exact ⟨rs, q1, keep2 _ _ q2 (ne_of q2 x.dic (fun q => nomatch q)), Paired.mapP q3 rk⟩
    · have hi : i = F.length := by
        have := (List.getElem?_eq_some_iff.mp h1).1
        rw [List.length_append] at this
        simp at this
        omega
      subst hi
      rw [List.getElem?_append_right (Nat.le_refl _), Nat.sub_self] at h1
      rw [List.getElem?_append_right (by rw [lens.2]; exact Nat.le_refl _), lens.2, Nat.sub_self] at h2
      cases h1
      cases h2
      refine ⟨[r], by simp, upd_same, .cons ?_ .nil⟩
      obtain ⟨dx, l', q1, q2⟩ := hr
      have q3 := hrl dx l' q1
      exact ⟨dx, l', by rw [upd_ne (ne_of q1 hl (fun q => nomatch q))]; exact q1, by rw [upd_ne q3]; exact q2⟩
theorem valV_at {κ : Type} [DecidableEq κ] {kvs : List (κ × V)} {k : κ} {v : V} (h : valV kvs k = some v) : ∃ i : Nat, kvs[i]? = some (k, v) := by
  unfold valV at h
  obtain ⟨p, hp, rfl⟩ := Option.map_eq_some_iff.mp h
  obtain ⟨i, hi⟩ := List.getElem?_of_mem (List.mem_of_find?_eq_some hp)
  have e : p.1 = k := by simpa using List.find?_some hp
  exact ⟨i, by rw [hi, ← e]⟩
theorem seen_in {n : Nat} {ws : List Wish} {kvs : List (SK.Key2 × V)} {S : List Stand} (h : kvs.map (·.1) = S.map (kst ws.length)) (hS : ∀ u ∈ S, Va n ws u) {u : Stand} (hu : Va n ws u) :
    (u ∈ S → ∃ v, valV kvs (kst ws.length u) = some v) ∧ (u ∉ S → valV kvs (kst ws.length u) = none) := by
  constructor
  · intro hin
    cases e : valV kvs (kst ws.length u) with
    | some v => exact ⟨v, rfl⟩
    | none => exact absurd (by rw [h]; exact List.mem_map.mpr ⟨u, hin, rfl⟩) (valV_not e)
  · intro hno
    cases e : valV kvs (kst ws.length u) with
    | none => rfl
    | some v =>
      have := valV_in e
      rw [h] at this
      obtain ⟨u', h1, h2⟩ := List.mem_map.mp this
      exact absurd (kst_inj (hS u' h1) hu h2 ▸ h1) hno
theorem addR_len {F : List (Stand × List Ma.Row)} {u : Stand} {r : Ma.Row} {b : Nat} (h : ∀ e ∈ F, e.2.length ≤ b) : ∀ e ∈ addR F u r, e.2.length ≤ b + 1 := by
  intro e he
  unfold addR at he
  split at he
  · obtain ⟨f, hf, rfl⟩ := List.mem_map.mp he
    have := h f hf
    split
    · simp only [List.length_append, List.length_singleton]; omega
    · omega
  · rcases List.mem_append.mp he with q | q
    · have := h e q; omega
    · obtain rfl : e = (u, [r]) := by simpa using q
      simp
theorem way1_len {n : Nat} {ws : List Wish} {S : List Stand} {F : List (Stand × List Ma.Row)} {e : Stand × Ma.Row} {w b : Nat} (h : ∀ e ∈ F, e.2.length ≤ b) : ∀ f ∈ way1 n ws S F e w, f.2.length ≤ b + 1 := by
  unfold way1
  split
  · intro f hf
    have := h f hf
    omega
  · exact addR_len h
theorem ways_len {n : Nat} {ws : List Wish} {S : List Stand} : ∀ (L : List (Stand × Ma.Row)) (F : List (Stand × List Ma.Row)) (b : Nat), (∀ e ∈ F, e.2.length ≤ b) → ∀ f ∈ L.foldl (ways2 n ws S) F, f.2.length ≤ b + 2 * L.length
  | [], F, b, h => h
  | e :: L, F, b, h => by
    have := ways_len (n := n) (ws := ws) (S := S) L (ways2 n ws S F e) (b + 2) (way1_len (way1_len h))
    intro f hf
    have := this f hf
    simp only [List.length_cons]
    omega
theorem WInv.ok {n : Nat} {ws : List Wish} {S : List Stand} {D : List ((Stand × Ma.Row) × Nat)} {F : List (Stand × List Ma.Row)} (x : WInv n ws S D F) (o : Ok n ws) (hD : ∀ d ∈ D, Va n ws d.1.1) : (F.map (·.1)).Nodup ∧ ∀ u ∈ F.map (·.1), Va n ws u := by
  obtain ⟨⟨T, G, h1, h2⟩, _⟩ := x
  refine ⟨G.nd, fun u hu => ?_⟩
  obtain ⟨e, he, rfl⟩ := List.mem_map.mp hu
  obtain ⟨t, ht, et⟩ := G.use e he
  obtain ⟨_, d, hd, ed⟩ := h1 t ht
  rw [← et, ed]
  exact after_va o (hD d hd) _
end Tt
set_option Elab.async false
set_option compiler.extract_closed false
set_option genSizeOf false
set_option linter.all false
set_option maxRecDepth 100000
set_option maxHeartbeats 2000000
namespace Tt
open PySem PySem.Spec PyProof.Rows L2
open Uw77 (Table Wish numberOf Stand)
open Ma
theorem set_bothT {H3 : Hp} {a b : Addr} {z : V} {Q : VK} {kvs : List (SK.Key2 × V)} {k : SK.Key2} (h : H3 a = some (.dT kvs)) (hb : KeyAt H3 k b) (hl : kvs.length < sizeLine)
    (key : ∀ v H2, ((valV kvs k = some v ∧ H2 = H3) ∨ (valV kvs k = none ∧ v = z ∧ H2 = upd H3 a (.dT (putK kvs k z)))) → Q v H2) :
    ∃ o H4, DGet H3 a (.ref b) o ∧ DPut H3 a (.ref b) z H4 ∧ (∀ v, o = some v → Q v H3) ∧ (o = none → Q z H4) :=
  ⟨_, _, DGet.t h hb, DPut.t h hb hl, fun v hv => key v _ (.inl ⟨hv, rfl⟩), fun hn => key z _ (.inr ⟨hn, rfl, rfl⟩)⟩
theorem ok_of {x : Table} (hI : TInv x) : Ok x.n x.wishes := ⟨hI.n2, hI.k6, hI.ins⟩
section
variable {P : Program} {w : World} {K : PySem.W.Frag} {mg : Str → Option Value} {base : Heap}
noncomputable def spWay (C R : Addr) : Sp := fun vs H Q _ => ∃ (a dl ds : Addr) (A : Ad) (x : Table) (L : List (Stand × Ma.Row)) (S : List Stand), vs = [.ref a, .ref dl, .ref ds] ∧ TabAt C H a A x ∧ TInv x ∧ ds ≠ dl ∧
  LayAt R x.wishes.length H dl L ∧ SeenAt x.wishes.length H ds S ∧ (∀ e ∈ L, Va x.n x.wishes e.1 ∧ e.2.2.length ≤ 1000) ∧ L.length ≤ 512 ∧ (∀ u ∈ S, Va x.n x.wishes u) ∧
  ∀ (H' : Hp) (d : Addr) (kvs : List (SK.Key2 × V)) (as : List Addr), Same H H' → FoundK R x.wishes.length H H' d (waysOn x.n x.wishes S L) kvs as → Q (.ref d) H'
theorem scWay : FnScope ["table", "layer", "seen", "found", "state", "rows", "way", "reached", "several"] ["table", "layer", "seen"] (defScope sWay) := ⟨rfl, rfl, rfl, by decide +kernel, rfl, by decide +kernel, by decide +kernel⟩
theorem ok_way {f C R fA fI : Addr} {fd fdA fdI : FuncData} (F : Fun K "ways_on" "ways_on" sWay f fd) (T : Txt K mg C) (TP : TxtP K mg R) (MR : Mk K R fI)
    (GI : FnOk P w K mg base CX0 1 fI fdI ["self", "many", "first"] (spRIn R)) (bI : Binds K fdI ["self", "many", "first"] [])
    (GA : FnOk P w K mg base CX0 3 fA fdA ["table", "state", "way"] (spAft C)) (bA : Binds K fdA ["table", "state", "way"] []) (mA : mg "state_after" = some (.ref fA)) (kA : PySem.W.keepIn K (.ref fA) = true) :
    FnOk P w K mg base CX0 4 f fd ["table", "layer", "seen"] (spWay C R) := by
  refine F.ok scWay (fun vs H Q E h => ?_) (fun cdv A outer s H vs Q E hr h => ?_)
  · obtain ⟨a, dl, ds, A, x, L, S, rfl, _⟩ := h
    rfl
  · obtain ⟨a, dl, ds, A, x, L, S, rfl, hT, hI, nsl, ⟨kvsL, hdl, hpL⟩, ⟨kvsS, hds, hkS⟩, hL, hL512, hS, k⟩ := h
    obtain ⟨t0, g0⟩ := T.rgt
    obtain ⟨t1, g1⟩ := T.lft
    have hu := hu_of hr
    have hr2 : Room 2 _ := hr.mono (by decide)
    have o := ok_of hI
    refine ⟨_, pss_cons (ps_set (i := 3) scWay.nd rfl (Or.inl rfl) pe_dnewT)
      (pss_cons (ps_lock (ps_for PassesOwn.never rfl (pi_itemsL (pv 1)) (pg_tup rfl (pgs_cons (pg_name (i := 4) scWay.nd rfl (Or.inl rfl)) (pgs_cons (pg_name (i := 5) scWay.nd rfl (Or.inl rfl)) pgs_nil)))
        (pss_one (ps_for PassesOwn.never rfl (pi_tup (pe_tup (pa_cons (pe_glob (v := .int 0) (by rfl) g0 ⟨_, rfl⟩) (pa_cons (pe_glob (v := .int 1) (by rfl) g1 ⟨_, rfl⟩) pa_nil)))) (pg_name (i := 6) scWay.nd rfl (Or.inl rfl))
          (pss_cons (ps_set (i := 7) scWay.nd rfl (Or.inl rfl) (pe_call GA hr (by rfl) mA kA bA .nil pass0 (pa_cons (pv 0) (pa_cons (pv 4) (pa_cons (pv 6) pa_nil)))))
          (pss_one (ps_if (pt_cmp (pc_dnotin hu (pv 7) (pv 2)))
            (pss_cons (ps_set (i := 8) scWay.nd rfl (Or.inl rfl) (pe_dset hu (pv 3) (pv 7) (pe_lst pa_nil) ⟨rfl, rfl, rfl, rfl⟩))
            (pss_one (ps_expr (pe_bm PySem.F.plainAttrs_list PySem.F.slot_list_append PySem.F.type_list_append mt_append (pv 8)
              (pa_cons (pe_make MR GI hr2 rfl TP.mgR bI .nil pass0 (pa_cons (pe_fld (pv 5) (by rfl)) (pa_cons (pe_op op_cat (pe_fld (pv 5) (by rfl)) (pe_lst (pa_cons (pv 6) pa_nil))) pa_nil))) pa_nil)))))
            pss_nil)))))))
      (pss_one (ps_ret (pv 3)))), ?_⟩
    intro fd0 hfd
    have s0 : Same H (upd H fd0 (.dT [])) := Same.upd_new (Same.refl H) hfd
    have hdl1 : upd H fd0 (.dT []) dl = some (.dT kvsL) := s0 _ _ hdl
    refine ⟨dl, .dT kvsL, hdl1, trivial, fun od => ?_⟩
    have nfd : fd0 ≠ dl := (ne_of_none hdl hfd).symm
    have llen : L.length = kvsL.length := Paired.length hpL
    -- the heap at the loop's start
    generalize hH1 : upd (upd H fd0 (.dT [])) dl (.frz od (.dT kvsL)) = H1
    have h1l : H1 dl = some (.frz od (.dT kvsL)) := by rw [← hH1]; exact upd_same
    have h1f : H1 fd0 = some (.dT []) := by rw [← hH1, upd_ne nfd]; exact upd_same
    have sb : ∀ b o, H b = some o → b ≠ dl → H1 b = some o := fun b o e nb => by rw [← hH1, upd_ne nb]; exact s0 _ _ e
    -- what stays
    let St1 := fun H' : Hp => (∀ b o, H b = some o → b ≠ dl → H' b = some o) ∧ H' dl = some (.frz od (.dT kvsL))
    have tab : ∀ H', St1 H' → TabAt C H' a A x := fun H' hZ => by
      have q := hZ.1
      have nd : ∀ {b : Addr} {u : HO}, H b = some u → (∀ kvs, u ≠ .dT kvs) → H' b = some u := fun e ne => q _ _ e (ne_of e hdl (ne _))
      exact ⟨nd hT.obj (fun _ z => nomatch z), nd hT.gs (fun _ z => nomatch z), nd hT.ds (fun _ z => nomatch z), nd hT.ah (fun _ z => nomatch z), nd hT.fu (fun _ z => nomatch z), hT.len, fun i b v h1 h2 => nd (hT.beh i b v h1 h2) (fun _ z => nomatch z), hT.nd⟩
    have rowk : ∀ H', St1 H' → ∀ {r z}, RowsAt R H r z → RowsAt R H' r z := fun H' hZ r z hY => by
      obtain ⟨dx, l, e1, e2⟩ := hY
      exact ⟨dx, l, hZ.1 _ _ e1 (ne_of e1 hdl (fun z => nomatch z)), hZ.1 _ _ e2 (ne_of e2 hdl (fun z => nomatch z))⟩
    have va : ∀ (i : Nat) (D : List ((Stand × Ma.Row) × Nat)) (d : (Stand × Ma.Row) × Nat), d ∈ pairs (L.take i) → Va x.n x.wishes d.1.1 := fun i D d hd => (hL _ (List.mem_of_mem_take (mem_pairs.mp hd).1)).1
    refine ⟨_, rfl, dl, kvsL, rfl, .inl ⟨od, h1l, ?_⟩⟩
    refine for_items (d := dl) (o := od) (kvs := kvsL) (fun i σ H' => ∃ (v4 v5 v6 v7 v8 : Option V) (kvs : List (SK.Key2 × V)) (as : List Addr), σ = [some (.ref a), some (.ref dl), some (.ref ds), some (.ref fd0), v4, v5, v6, v7, v8] ∧ St1 H' ∧
      FoundK R x.wishes.length H H' fd0 ((L.take i).foldl (ways2 x.n x.wishes S) []) kvs as) ?_ ?_ ?_ ?_
    · exact ⟨_, _, _, _, _, [], [], rfl, ⟨sb, h1l⟩, ⟨h1f, hfd, rfl, List.nodup_nil, fun _ q => (nomatch q), rfl, fun i e s h => by simp at h⟩⟩
    · rintro i σ H' _ ⟨v4, v5, v6, v7, v8, kvs, as, rfl, ⟨_, q⟩, _⟩
      exact q
    · rintro i kk v q Tt σ H' hkv ⟨v4, v5, v6, v7, v8, kvs, as, rfl, st, fk⟩ hq hTt
      -- the entry
      have hi : i < L.length := by rw [llen]; exact (List.getElem?_eq_some_iff.mp hkv).1
      have hLi : L[i]? = some L[i] := List.getElem?_eq_getElem hi
      obtain ⟨ek0, r, ev0, hrow⟩ := paired_both hpL hLi hkv
      have ev : v = .ref r := ev0
      subst ev
      have ek1 : kk = kst x.wishes.length L[i].1 := ek0
      rw [ek1] at hq
      have hmem := List.getElem_mem hi
      have fold1 : (L.take (i + 1)).foldl (ways2 x.n x.wishes S) [] = ways2 x.n x.wishes S ((L.take i).foldl (ways2 x.n x.wishes S) []) L[i] := by
        rw [take_snoc' hLi, List.foldl_append]
        rfl
      have W0 := ways_inv (n := x.n) (ws := x.wishes) (S := S) (L.take i) [] [] WInv.nil
      rw [List.nil_append] at W0
      have LN0 := ways_len (n := x.n) (ws := x.wishes) (S := S) (L.take i) [] 0 (fun _ h => (nomatch h))
      have LT : (L.take i).length ≤ 512 := by rw [List.length_take]; omega
      generalize hF0 : (L.take i).foldl (ways2 x.n x.wishes S) [] = F0 at fk W0 LN0 fold1 ⊢
      have sT : Same H' (upd H' Tt (.tup [.ref q, .ref r])) := Same.upd_new (Same.refl H') hTt
      have stS : ∀ {Ha Hb : Hp}, St1 Ha → Same Ha Hb → St1 Hb := fun hZ sab => ⟨fun b o e nb => sab _ _ (hZ.1 b o e nb), sab _ _ hZ.2⟩
      have st1 := stS st sT
      have fk1 := fk.same sT
      have hq1 : KeyAt (upd H' Tt (.tup [.ref q, .ref r])) (kst x.wishes.length L[i].1) q := hq.same sT
      refine ⟨Tt, [.ref q, .ref r], rfl, SqT.of upd_same, rfl, _, _, rfl, _, _, rfl, rfl, ?_⟩
      generalize upd H' Tt (.tup [.ref q, .ref r]) = H2 at st1 fk1 hq1 ⊢
      clear hq sT
      -- the two ways
      refine ⟨(by show 2 ≤ sizeLine; decide), fun tw htw => ?_⟩
      have s3 : Same H2 (upd H2 tw (.tup [.int 0, .int 1])) := Same.upd_new (Same.refl H2) htw
      have st3 := stS st1 s3
      have fk3 := fk1.same s3
      have hq3 := hq1.same s3
      have htw3 : upd H2 tw (.tup [.int 0, .int 1]) tw = some (.tup [.int 0, .int 1]) := upd_same
      generalize upd H2 tw (.tup [.int 0, .int 1]) = H3 at st3 fk3 hq3 htw3 ⊢
      refine ⟨tw, rfl, ⟨_, SqT.of htw3⟩, ?_⟩
      refine for_tup (K := K) (a := tw) (xs := [.int 0, .int 1]) (fun j σ H' => ∃ (v6 v7 v8 : Option V) (kvs : List (SK.Key2 × V)) (as : List Addr), σ = [some (.ref a), some (.ref dl), some (.ref ds), some (.ref fd0), some (.ref q), some (.ref r), v6, v7, v8] ∧ St1 H' ∧
        KeyAt H' (kst x.wishes.length L[i].1) q ∧ H' tw = some (.tup [.int 0, .int 1]) ∧ FoundK R x.wishes.length H H' fd0 ((([0, 1] : List Nat).take j).foldl (fun F v => way1 x.n x.wishes S F L[i] v) F0) kvs as) ⟨_, _, _, _, _, rfl, st3, hq3, htw3, fk3⟩
        (fun j σ H' _ hZ => by obtain ⟨_, _, _, _, _, _, _, _, q2, _⟩ := hZ; exact SqT.of q2) ?_ ?_
      · rintro j y σ H4 hj ⟨v6, v7, v8, kvs4, as4, rfl, st4, hq4, htw4, fk4⟩
        obtain ⟨v, hv, rfl⟩ : ∃ v : Nat, ([0, 1] : List Nat)[j]? = some v ∧ y = .int (v : Nat) := by
          match j, hj with
          | 0, hj => exact ⟨0, rfl, (Option.some.inj hj).symm⟩
          | 1, hj => exact ⟨1, rfl, (Option.some.inj hj).symm⟩
          | j + 2, hj => simp at hj
        have hj2 : j < 2 := by have := (List.getElem?_eq_some_iff.mp hv).1; simpa using this
        have nextF : (([0, 1] : List Nat).take (j + 1)).foldl (fun F v => way1 x.n x.wishes S F L[i] v) F0 = way1 x.n x.wishes S ((([0, 1] : List Nat).take j).foldl (fun F v => way1 x.n x.wishes S F L[i] v) F0) L[i] v := by
          rw [take_snoc' hv, List.foldl_append]
          rfl
        rw [nextF]
        have W4 : ∃ D, WInv x.n x.wishes S D ((([0, 1] : List Nat).take j).foldl (fun F v => way1 x.n x.wishes S F L[i] v) F0) ∧ ∀ d ∈ D, Va x.n x.wishes d.1.1 := by
          have hv0 : ∀ d ∈ pairs (L.take i), Va x.n x.wishes d.1.1 := va i []
          have hvi : Va x.n x.wishes L[i].1 := (hL _ hmem).1
          match j, hj2 with
          | 0, _ => exact ⟨_, W0, hv0⟩
          | 1, _ => exact ⟨_, W0.step L[i] 0, fun d hd => by
              rcases List.mem_append.mp hd with z | z
              · exact hv0 d z
              · obtain rfl : d = (L[i], 0) := by simpa using z
                exact hvi⟩
        have LN4 : ∀ e ∈ (([0, 1] : List Nat).take j).foldl (fun F v => way1 x.n x.wishes S F L[i] v) F0, e.2.length ≤ 1025 := by
          match j, hj2 with
          | 0, _ => exact fun e he => by have := LN0 e he; omega
          | 1, _ => exact fun e he => by have := way1_len LN0 e he; omega
        generalize (([0, 1] : List Nat).take j).foldl (fun F v => way1 x.n x.wishes S F L[i] v) F0 = F4 at fk4 W4 LN4 ⊢
        obtain ⟨D4, W4, vD4⟩ := W4
        obtain ⟨nd4, va4⟩ := WInv.ok W4 o vD4
        have c4 : F4.length ≤ 512 := by
          have := va_card o hI.n8 nd4 va4
          rwa [List.length_map] at this
        -- the state that is reached
        refine ⟨_, rfl, _, rfl, _, rfl, a, q, A, x, L[i].1, v, rfl, tab _ st4, hI, (hL _ hmem).1, hq4, fun H5 q' s5 hq' => ?_⟩
        have st5 := stS st4 s5
        have fk5 := fk4.same s5
        have hq5 := hq4.same s5
        have htw5 := s5 _ _ htw4
        have vu := after_va o (hL _ hmem).1 v
        have hds5 : H5 ds = some (.dT kvsS) := st5.1 _ _ hds nsl
        obtain ⟨in1, in2⟩ := seen_in hkS hS vu
        unfold way1
        by_cases c : Uw77.after x.n x.wishes L[i].1 v ∈ S
        · obtain ⟨y, hy⟩ := in1 c
          rw [if_pos c]
          have g : DGet H5 ds (.ref q') (some y) := by rw [← hy]; exact DGet.t hds5 hq'
          exact ⟨_, rfl, _, rfl, ds, _, rfl, g, _, rfl, iteF ⟨_, _, _, kvs4, as4, rfl, st5, hq5, htw5, fk5⟩⟩
        · rw [if_neg c]
          have g : DGet H5 ds (.ref q') none := by rw [← in2 c]; exact DGet.t hds5 hq'
          refine ⟨_, rfl, _, rfl, ds, _, rfl, g, _, rfl, iteT ?_⟩
          -- setdefault
          refine ⟨_, rfl, fd0, rfl, .inr ⟨kvs4, .inl fk5.dic⟩, _, rfl, Nat.zero_le _, fun l hl => ?_⟩
          have s6 : Same H5 (upd H5 l (.lst [])) := Same.upd_new (Same.refl H5) hl
          have st6 := stS st5 s6
          have fk6 := fk5.same s6
          have hq6 := hq5.same s6
          have hq'6 := hq'.same s6
          have htw6 := s6 _ _ htw5
          have hl6 : upd H5 l (.lst []) l = some (.lst []) := upd_same
          generalize hH6 : upd H5 l (.lst []) = H6 at st6 fk6 hq6 hq'6 htw6 hl6 s6 ⊢
          have sz : kvs4.length < sizeLine := by rw [fk6.len.1, sizeLine_eq]; omega
          refine set_bothT fk6.dic hq'6 sz ?_
          intro vS H7 hset
          have facts : ∃ (sl : Addr) (rs : List Addr), vS = .ref sl ∧ H7 sl = some (.lst (rs.map V.ref)) ∧ rs.length ≤ 1025 ∧ H sl = none ∧ St1 H7 ∧ Tups H6 H7 ∧
              ∀ (H9 : Hp) (r' : Addr) (z : Ma.Row), Same H7 H9 → RowsAt R H9 r' z → (∀ dx l', H9 r' = some (.ins R dx (rf z.1 l')) → l' ≠ sl) → ∃ kvs as, FoundK R x.wishes.length H (upd H9 sl (.lst (rs.map V.ref ++ [.ref r']))) fd0 (addR F4 (Uw77.after x.n x.wishes L[i].1 v) z) kvs as := by
            rcases hset with ⟨hs', rfl⟩ | ⟨hnone, rfl, rfl⟩
            · -- it was found before
              obtain ⟨i', hi'⟩ := valV_at hs'
              have hiF : i' < F4.length := by rw [← fk6.len.1]; exact (List.getElem?_eq_some_iff.mp hi').1
              have hkk : kst x.wishes.length (Uw77.after x.n x.wishes L[i].1 v) = kst x.wishes.length F4[i'].1 := by
                have := congrArg (fun l => l[i']?) fk6.keys
                simp only [List.getElem?_map, hi', List.getElem?_eq_getElem hiF] at this
                exact Option.some.inj this
              have eu := kst_inj vu (va4 _ (List.mem_map.mpr ⟨_, List.getElem_mem hiF, rfl⟩)) hkk
              have hia : i' < as4.length := by rw [fk6.len.2]; exact hiF
              have es : vS = .ref as4[i'] := by
                have := congrArg (fun l => l[i']?) fk6.vals
                simp only [List.getElem?_map, hi', List.getElem?_eq_getElem hia] at this
                exact Option.some.inj this
              obtain ⟨rs, hne, hls, hpr⟩ := fk6.ent i' _ _ (List.getElem?_eq_getElem hiF) (List.getElem?_eq_getElem hia)
              refine ⟨as4[i'], rs, es, hls, by rw [Paired.length hpr]; exact LN4 _ (List.getElem_mem hiF), fk6.fr _ (List.getElem_mem hia), st6, Tups.refl _, fun H9 r' z s9 hrow9 _ => ⟨kvs4, as4, ?_⟩⟩
              have fkF := (fk6.same s9).old nd4 (List.getElem?_eq_getElem hiF) (List.getElem?_eq_getElem hia) (s9 _ _ hls) hrow9
              rw [← eu] at fkF
              exact fkF
            · -- a new one
              have hnot : Uw77.after x.n x.wishes L[i].1 v ∉ F4.map (·.1) := fun hin => by
                obtain ⟨e, he, ee⟩ := List.mem_map.mp hin
                refine valV_not hnone ?_
                rw [fk6.keys]
                exact List.mem_map.mpr ⟨e, he, by rw [ee]⟩
              rw [putK_new _ hnone]
              have hfl : fd0 ≠ l := ne_of_none fk5.dic hl
              have k7 : ∀ b o, H6 b = some o → b ≠ fd0 → upd H6 fd0 (.dT (kvs4 ++ [(kst x.wishes.length (Uw77.after x.n x.wishes L[i].1 v), .ref l)])) b = some o := fun b o e nb => by rw [upd_ne nb]; exact e
              have n0l : H l = none := by
                cases e : H l with
                | none => rfl
                | some o =>
                  by_cases z : l = dl
                  · rw [z, st5.2] at hl; cases hl
                  · rw [st5.1 l o e z] at hl; cases hl
              refine ⟨l, [], rfl, k7 _ _ hl6 hfl.symm, Nat.zero_le _, n0l, ⟨fun b o e nb => k7 _ _ (st6.1 b o e nb) (ne_of_none e hfd), k7 _ _ st6.2 (ne_of st6.2 fk6.dic (fun z => nomatch z))⟩, Tups.upd fk6.dic (fun xs z => nomatch z), fun H9 r' z s9 hrow9 hrl => ⟨kvs4 ++ [(kst x.wishes.length (Uw77.after x.n x.wishes L[i].1 v), .ref l)], as4 ++ [l], ?_⟩⟩
              exact fk5.more (H5 := H9) hnot (fun b o e nb => s9 _ _ (k7 _ _ (s6 _ _ e) nb)) (s9 _ _ upd_same) (s9 _ _ (k7 _ _ hl6 hfl.symm)) hl n0l hrow9 hrl
          obtain ⟨sl, rs, rfl, hls, hrs, n0s, st7, tp7, fin⟩ := facts
          clear hset
          obtain ⟨dx0, l0, hr1, hr2'⟩ := rowk _ st7 hrow
          refine ⟨_, rfl, .inl ⟨rfl, _, SqL.of hls⟩, _, rfl, r, R, dx0, _, _, rfl, hr1, TP.cl, TP.nM, rf_m, _, rfl, r, R, dx0, _, _, rfl, hr1, TP.cl, TP.nF, rf_f, _, rfl, (by show 1 ≤ sizeLine; decide), fun l1 hl1 => ?_⟩
          have s7 : Same H7 (upd H7 l1 (.lst [.int (v : Nat)])) := Same.upd_new (Same.refl H7) hl1
          refine ⟨l0, l1, _, _, rfl, rfl, s7 _ _ hr2', upd_same, ?_, fun l2 hl2 => ?_⟩
          · rw [nums_len, sizeLine_eq]
            have := (hL _ hmem).2
            show _ + 1 ≤ _
            omega
          have s8 := s7.trans (Same.upd_new (o := .lst (nums L[i].2.2 ++ [.int (v : Nat)])) (Same.refl (upd H7 l1 (.lst [.int (v : Nat)]))) hl2)
          have nl2 : l2 ≠ sl := (ne_of_none (s7 _ _ hls) hl2).symm
          intro r' dx' hr' hdx' hdn
          refine ⟨r', dx', l2, L[i].2.1, rfl, upd_same, rfl, ?_⟩
          rw [upd_upd]
          have s9 : Same H7 (upd (upd (upd (upd H7 l1 (.lst [.int (v : Nat)])) l2 (.lst (nums L[i].2.2 ++ [.int (v : Nat)]))) dx' (.own r')) r' (.ins R dx' (rf L[i].2.1 l2))) := fun b o e => by
            have e2 := s8 _ _ e
            rw [upd_ne (ne_of_none e2 hr'), upd_ne (ne_of_none e2 hdx')]
            exact e2
          have hr9 : upd (upd (upd (upd H7 l1 (.lst [.int (v : Nat)])) l2 (.lst (nums L[i].2.2 ++ [.int (v : Nat)]))) dx' (.own r')) r' (.ins R dx' (rf L[i].2.1 l2)) r' = some (.ins R dx' (rf L[i].2.1 l2)) := upd_same
          have hrow9 : RowsAt R (upd (upd (upd (upd H7 l1 (.lst [.int (v : Nat)])) l2 (.lst (nums L[i].2.2 ++ [.int (v : Nat)]))) dx' (.own r')) r' (.ins R dx' (rf L[i].2.1 l2))) r' (L[i].2.1, L[i].2.2 ++ [v]) := by
            refine ⟨dx', l2, upd_same, ?_⟩
            have e2 : upd (upd H7 l1 (.lst [.int (v : Nat)])) l2 (.lst (nums L[i].2.2 ++ [.int (v : Nat)])) l2 = some (.lst (nums L[i].2.2 ++ [.int (v : Nat)])) := upd_same
            rw [upd_ne (ne_of_none e2 hr'), upd_ne (ne_of_none e2 hdx'), e2, nums_app]
            rfl
          generalize upd (upd (upd (upd H7 l1 (.lst [.int (v : Nat)])) l2 (.lst (nums L[i].2.2 ++ [.int (v : Nat)]))) dx' (.own r')) r' (.ins R dx' (rf L[i].2.1 l2)) = H9 at s9 hrow9 hr9 ⊢
          have st9 := stS st7 s9
          have hls9 := s9 _ _ hls
          refine ⟨sl, _, _, rfl, rfl, hls9, (by rw [List.length_map, sizeLine_eq]; omega), ?_⟩
          obtain ⟨kvs9, as9, fkF⟩ := fin H9 r' (L[i].2.1, L[i].2.2 ++ [v]) s9 hrow9 (fun dx l' e => by
            rw [hr9] at e
            have e : HO.ins R dx' (rf L[i].2.1 l2) = HO.ins R dx (rf L[i].2.1 l') := Option.some.inj e
            injection e with _ _ e
            have e : (rf L[i].2.1 l2).lookup ("first" : Str) = (rf L[i].2.1 l').lookup ("first" : Str) := by rw [e]
            rw [rf_f, rf_f] at e
            injection e with e
            injection e with e
            rw [← e]
            exact nl2)
          have tp : Tups H6 (upd H9 sl (.lst (rs.map V.ref ++ [.ref r']))) := (tp7.trans s9.tups).trans (Tups.upd hls9 (fun xs z => nomatch z))
          refine ⟨_, _, _, kvs9, as9, rfl, ⟨fun b o e nb => ?_, upd_keep st9.2 hls9 (fun z => nomatch z)⟩, hq6.keeps tp, tp _ _ htw6, fkF⟩
          rw [upd_ne (ne_of_none e n0s)]
          exact st9.1 b o e nb
      · rintro σ H4 ⟨v6, v7, v8, kvs4, as4, rfl, st4, hq4, htw4, fk4⟩
        refine ⟨_, _, _, _, _, kvs4, as4, rfl, st4, ?_⟩
        rw [fold1]
        exact fk4
    · rintro σ H' ⟨v4, v5, v6, v7, v8, kvs, as, rfl, st, fk⟩
      refine ⟨st.2, _, rfl, ?_⟩
      rw [← llen, List.take_length] at fk
      have sR : Same H (upd H' dl (.dT kvsL)) := fun b o e => by
        by_cases nb : b = dl
        · rw [nb, upd_same, ← hdl, ← nb]; exact e
        · rw [upd_ne nb]; exact st.1 b o e nb
      refine k _ fd0 kvs as sR ⟨?_, fk.new, fk.vals, fk.nd, fk.fr, fk.keys, fun i e s h1 h2 => ?_⟩
      · rw [upd_ne nfd]; exact fk.dic
      · obtain ⟨rs, q1, q2, q3⟩ := fk.ent i e s h1 h2
        have kk : ∀ b o, H' b = some o → (∀ u, o ≠ .frz od u) → upd H' dl (.dT kvsL) b = some o := fun b o e ne => upd_keep e st.2 (ne _)
        exact ⟨rs, q1, kk _ _ q2 (fun _ z => nomatch z), Paired.mapP q3 fun r z hY => by
          obtain ⟨dx, l, e1, e2⟩ := hY
          exact ⟨dx, l, kk _ _ e1 (fun _ z => nomatch z), kk _ _ e2 (fun _ z => nomatch z)⟩⟩
end
end Tt
set_option Elab.async false
set_option compiler.extract_closed false
set_option genSizeOf false
set_option linter.all false
set_option maxRecDepth 100000
set_option maxHeartbeats 2000000
namespace Tt
open PySem PySem.Spec PyProof.Rows L2
open Uw77 (Table Wish numberOf Stand)
open Ma
section
variable {P : Program} {w : World} {K : PySem.W.Frag} {mg : Str → Option Value} {base : Heap}
noncomputable def spLon (C R : Addr) : Sp := fun vs H Q _ => ∃ (a dl ds : Addr) (A : Ad) (x : Table) (L : List (Stand × Ma.Row)) (S : List Stand), vs = [.ref a, .ref dl, .ref ds] ∧ TabAt C H a A x ∧ TInv x ∧ ds ≠ dl ∧
  LayAt R x.wishes.length H dl L ∧ SeenAt x.wishes.length H ds S ∧ (∀ e ∈ L, Va x.n x.wishes e.1 ∧ e.2.2.length ≤ 1000) ∧ L.length ≤ 512 ∧ (∀ u ∈ S, Va x.n x.wishes u) ∧
  ∀ (H' : Hp) (d : Addr) (L' : List (Stand × Ma.Row)), Same H H' → H d = none → LayAt R x.wishes.length H' d L' → Tog (waysOn x.n x.wishes S L) L' → Q (.ref d) H'
theorem scLon : FnScope ["table", "layer", "seen", "on", "state", "several"] ["table", "layer", "seen"] (defScope sLon) := ⟨rfl, rfl, rfl, by decide +kernel, rfl, by decide +kernel, by decide +kernel⟩
theorem LayAt.same {R : Addr} {k : Nat} {H H' : Hp} {d : Addr} {L : List (Stand × Ma.Row)} (x : LayAt R k H d L) (s : Same H H') : LayAt R k H' d L :=
  let ⟨kvs, h1, h2⟩ := x
  ⟨kvs, s _ _ h1, Paired.mapP h2 fun _ _ ⟨e1, r, e2, e3⟩ => ⟨e1, r, e2, e3.same s⟩⟩
theorem SeenAt.same {k : Nat} {H H' : Hp} {d : Addr} {S : List Stand} (x : SeenAt k H d S) (s : Same H H') : SeenAt k H' d S := let ⟨kvs, h1, h2⟩ := x; ⟨kvs, s _ _ h1, h2⟩
theorem ok_lon {f C R fW fG : Addr} {fd fdW fdG : FuncData} (F : Fun K "layer_on" "layer_on" sLon f fd)
    (GW : FnOk P w K mg base CX0 4 fW fdW ["table", "layer", "seen"] (spWay C R)) (bW : Binds K fdW ["table", "layer", "seen"] []) (mW : mg "ways_on" = some (.ref fW)) (kW : PySem.W.keepIn K (.ref fW) = true)
    (GG : FnOk P w K mg base CX0 3 fG fdG ["several"] (spTog R)) (bG : Binds K fdG ["several"] []) (mG : mg "together" = some (.ref fG)) (kG : PySem.W.keepIn K (.ref fG) = true) :
    FnOk P w K mg base CX0 5 f fd ["table", "layer", "seen"] (spLon C R) := by
  refine F.ok scLon (fun vs H Q E h => ?_) (fun cdv A outer s H vs Q E hr h => ?_)
  · obtain ⟨a, dl, ds, A, x, L, S, rfl, _⟩ := h
    rfl
  · obtain ⟨a, dl, ds, A, x, L, S, rfl, hT, hI, nsl, hlay, hseen, hL, hL512, hS, k⟩ := h
    have hu := hu_of hr
    have hr3 : Room 3 _ := hr.mono (by decide)
    have o := ok_of hI
    refine ⟨_, pss_cons (ps_set (i := 3) scLon.nd rfl (Or.inl rfl) pe_dnewT)
      (pss_cons (ps_for PassesOwn.never rfl (pi_itemsL (pe_call GW hr (by rfl) mW kW bW .nil pass0 (pa_cons (pv 0) (pa_cons (pv 1) (pa_cons (pv 2) pa_nil))))) (pg_tup rfl (pgs_cons (pg_name (i := 4) scLon.nd rfl (Or.inl rfl)) (pgs_cons (pg_name (i := 5) scLon.nd rfl (Or.inl rfl)) pgs_nil)))
        (pss_one (ps_dput hu (pv 3) (pv 4) (pe_call GG hr3 (by rfl) mG kG bG .nil pass0 (pa_cons (pv 5) pa_nil)) rfl)))
      (pss_one (ps_ret (pv 3)))), ?_⟩
    intro on hon
    have s1 : Same H (upd H on (.dT [])) := Same.upd_new (Same.refl H) hon
    refine ⟨_, rfl, _, rfl, _, rfl, a, dl, ds, A, x, L, S, rfl, hT.same s1, hI, nsl, hlay.same s1, hseen.same s1, hL, hL512, hS, fun H2 d kvs as s2 fk => ?_⟩
    obtain ⟨ndo, hd0⟩ := upd_none fk.new
    have hon2 : H2 on = some (.dT []) := s2 _ _ upd_same
    have W := ways_inv (n := x.n) (ws := x.wishes) (S := S) L [] [] WInv.nil
    rw [List.nil_append] at W
    obtain ⟨ndF, vaF⟩ := WInv.ok W o (fun d hd => (hL _ (mem_pairs.mp hd).1).1)
    have LN := ways_len (n := x.n) (ws := x.wishes) (S := S) L [] 0 (fun _ h => (nomatch h))
    have fk : FoundK R x.wishes.length (upd H on (.dT [])) H2 d (L.foldl (ways2 x.n x.wishes S) []) kvs as := fk
    have k : ∀ (H' : Hp) (d : Addr) (L' : List (Stand × Ma.Row)), Same H H' → H d = none → LayAt R x.wishes.length H' d L' → Tog (L.foldl (ways2 x.n x.wishes S) []) L' → Q (.ref d) H' := k
    generalize L.foldl (ways2 x.n x.wishes S) [] = FF at fk k ndF vaF LN
    have c512 : FF.length ≤ 512 := by
      have := va_card o hI.n8 ndF vaF
      rwa [List.length_map] at this
    obtain ⟨lk, la⟩ := fk.len
    refine ⟨d, kvs, rfl, .inr ⟨fk.dic, fun od => ?_⟩⟩
    let St1 := fun H' : Hp => (∀ b o, H2 b = some o → b ≠ on → b ≠ d → H' b = some o) ∧ H' d = some (.frz od (.dT kvs))
    have keepN : ∀ {H' : Hp}, St1 H' → ∀ {b : Addr} {u : HO}, H2 b = some u → (∀ kvs, u ≠ .dT kvs) → H' b = some u := fun st b u e ne => st.1 _ _ e (ne_of e hon2 (ne _)) (ne_of e fk.dic (ne _))
    have stS : ∀ {Ha Hb : Hp}, St1 Ha → Same Ha Hb → St1 Hb := fun hZ sab => ⟨fun b o e nb nc => sab _ _ (hZ.1 b o e nb nc), sab _ _ hZ.2⟩
    refine for_items (d := d) (o := od) (kvs := kvs) (fun i σ H' => ∃ (v4 v5 : Option V) (kvsO : List (SK.Key2 × V)) (Lo : List (Stand × Ma.Row)), σ = [some (.ref a), some (.ref dl), some (.ref ds), some (.ref on), v4, v5] ∧ St1 H' ∧ H' on = some (.dT kvsO) ∧ Lo.length = i ∧
      Paired (fun (e : Stand × Ma.Row) (kv : SK.Key2 × V) => kv.1 = kst x.wishes.length e.1 ∧ ∃ r, kv.2 = .ref r ∧ RowsAt R H' r e.2) Lo kvsO ∧
      ∀ (j : Nat) (f : Stand × List Ma.Row) (e : Stand × Ma.Row), FF[j]? = some f → Lo[j]? = some e → e.1 = f.1 ∧ e.2.1 = many f.2 ∧ IsMin e.2.2 (f.2.map (·.2))) ?_ ?_ ?_ ?_
    · exact ⟨_, _, [], [], rfl, ⟨fun b o e _ nb => by rw [upd_ne nb]; exact e, upd_same⟩, by rw [upd_ne ndo.symm]; exact hon2, rfl, .nil, fun j f e _ h => by simp at h⟩
    · rintro i σ H' _ ⟨_, _, _, _, _, ⟨_, q⟩, _⟩
      exact q
    · rintro i kk v q Tt σ H' hkv ⟨v4, v5, kvsO, Lo, rfl, st, hO, lo, hp, tg⟩ hq hTt
      have hi : i < FF.length := by rw [← lk]; exact (List.getElem?_eq_some_iff.mp hkv).1
      have hia : i < as.length := by rw [la]; exact hi
      have ek : kk = kst x.wishes.length FF[i].1 := by
        have := congrArg (fun l => l[i]?) fk.keys
        simp only [List.getElem?_map, hkv, List.getElem?_eq_getElem hi] at this
        exact Option.some.inj this
      have es : v = .ref as[i] := by
        have := congrArg (fun l => l[i]?) fk.vals
        simp only [List.getElem?_map, hkv, List.getElem?_eq_getElem hia] at this
        exact Option.some.inj this
      subst es
      rw [ek] at hq
      obtain ⟨rs, hne, hls, hpr⟩ := fk.ent i _ _ (List.getElem?_eq_getElem hi) (List.getElem?_eq_getElem hia)
      have sT : Same H' (upd H' Tt (.tup [.ref q, .ref as[i]])) := Same.upd_new (Same.refl H') hTt
      refine ⟨Tt, [.ref q, .ref as[i]], rfl, SqT.of upd_same, rfl, _, _, rfl, _, _, rfl, rfl, ?_⟩
      have st4 := stS st sT
      have hq4 := hq.same sT
      have hO4 := sT _ _ hO
      have hp4 := Paired.mapP hp fun (e : Stand × Ma.Row) (kv : SK.Key2 × V) (z : kv.1 = kst x.wishes.length e.1 ∧ ∃ r, kv.2 = .ref r ∧ RowsAt R H' r e.2) => (⟨z.1, let ⟨r, e2, e3⟩ := z.2; ⟨r, e2, e3.same sT⟩⟩ : kv.1 = kst x.wishes.length e.1 ∧ ∃ r, kv.2 = .ref r ∧ RowsAt R (upd H' Tt (.tup [.ref q, .ref as[i]])) r e.2)
      generalize upd H' Tt (.tup [.ref q, .ref as[i]]) = H4 at st4 hq4 hO4 hp4 ⊢
      have rk4 : Paired (RowsAt R H4) rs FF[i].2 := Paired.mapP hpr fun r z hY => by
        obtain ⟨dx, l, e1, e2⟩ := hY
        exact ⟨dx, l, keepN st4 e1 (fun _ z => nomatch z), keepN st4 e2 (fun _ z => nomatch z)⟩
      have zne : FF[i].2 ≠ [] := fun z => hne (List.length_eq_zero_iff.mp (by rw [Paired.length hpr, z]; rfl))
      have zlen : FF[i].2.length ≤ 2000 := by have := LN _ (List.getElem_mem hi); omega
      refine ⟨_, rfl, as[i], rs, FF[i].2, rfl, keepN st4 hls (fun _ z => nomatch z), rk4, zne, zlen, fun H5 r m s5 hr0 hm hrow => ?_⟩
      have st5 := stS st4 s5
      have hO5 := s5 _ _ hO4
      have hq5 := hq4.same s5
      have kO : kvsO.length = i := by rw [← Paired.length hp, lo]
      have hnone : valV kvsO (kst x.wishes.length FF[i].1) = none := by
        cases e : valV kvsO (kst x.wishes.length FF[i].1) with
        | none => rfl
        | some y =>
          obtain ⟨j, hj⟩ := valV_at e
          have hjl : j < Lo.length := by rw [lo, ← kO]; exact (List.getElem?_eq_some_iff.mp hj).1
          have hjF : j < FF.length := by rw [lo] at hjl; omega
          have q1 : kst x.wishes.length FF[i].1 = kst x.wishes.length Lo[j].1 := (paired_both hp (List.getElem?_eq_getElem hjl) hj).1
          obtain ⟨q2, _⟩ := tg j _ _ (List.getElem?_eq_getElem hjF) (List.getElem?_eq_getElem hjl)
          rw [q2] at q1
          have q3 := kst_inj (vaF _ (List.mem_map.mpr ⟨_, List.getElem_mem hi, rfl⟩)) (vaF _ (List.mem_map.mpr ⟨_, List.getElem_mem hjF, rfl⟩)) q1
          have q4 : i = j := nd_get ndF (a := FF[i].1) (by rw [List.getElem?_map, List.getElem?_eq_getElem hi]; rfl) (by rw [List.getElem?_map, List.getElem?_eq_getElem hjF, q3]; rfl)
          rw [lo] at hjl
          omega
      have dp := DPut.t (v := .ref r) hO5 hq5 (by rw [kO, sizeLine_eq]; omega)
      rw [putK_new _ hnone] at dp
      refine ⟨_, rfl, _, rfl, on, _, rfl, dp, ?_⟩
      refine ⟨_, _, kvsO ++ [(kst x.wishes.length FF[i].1, .ref r)], Lo ++ [(FF[i].1, (many FF[i].2, m))], rfl, ⟨fun b o e nb nc => by rw [upd_ne nb]; exact st5.1 b o e nb nc, by rw [upd_ne ndo]; exact st5.2⟩, upd_same, by rw [List.length_append, lo]; rfl, ?_, fun j f e h1 h2 => ?_⟩
      · refine Paired.app1 (Paired.mapP hp4 fun e kv z => ⟨z.1, ?_⟩) ⟨rfl, r, rfl, hrow.upd_dic hO5⟩
        obtain ⟨r', e2, e3⟩ := z.2
        exact ⟨r', e2, (e3.same s5).upd_dic hO5⟩
      · by_cases c : j < Lo.length
        · rw [List.getElem?_append_left c] at h2
          exact tg j f e h1 h2
        · have hj : j = i := by
            have := (List.getElem?_eq_some_iff.mp h2).1
            rw [List.length_append, lo] at this
            simp at this
            omega
          subst hj
          rw [List.getElem?_append_right (by omega), lo, Nat.sub_self] at h2
          cases h2
          rw [List.getElem?_eq_getElem hi] at h1
          cases h1
          exact ⟨rfl, rfl, hm⟩
    · rintro σ H' ⟨v4, v5, kvsO, Lo, rfl, st, hO, lo, hp, tg⟩
      refine ⟨_, rfl, k H' on Lo (fun b o e => ?_) hon ⟨kvsO, hO, hp⟩ ⟨by rw [lo, lk], tg⟩⟩
      have e2 := s2 _ _ (s1 _ _ e)
      exact st.1 _ _ e2 (ne_of_none e hon) (ne_of_none e hd0)
end
end Tt
set_option Elab.async false
set_option compiler.extract_closed false
set_option genSizeOf false
set_option linter.all false
set_option maxRecDepth 100000
set_option maxHeartbeats 2000000
namespace Tt
open PySem PySem.Spec PyProof.Rows L2
open Uw77 (Table Wish numberOf Stand)
open Ma
theorem dist_le {n : Nat} {ws : List Wish} (o : Ok n ws) (h8 : n ≤ 8) {r : Nat → Nat} (R : Ranked ws r) {s : Stand} (v : Va n ws s) : dist n ws s ≤ 48 := by
  obtain ⟨p, h1, h2⟩ := plan_ex o R ws.length s v (by unfold left_; omega)
  have := (dist_short o h8 R v).le p h2
  have : n * ws.length ≤ 8 * 6 := Nat.mul_le_mul h8 o.k6
  omega
theorem while_true {tb : TS} {D : Ends} {σ : L2.St} {H : Hp} {c : TT} (W : Nat → L2.St → Hp → Prop) (m0 : Nat) (h0 : W m0 σ H) (hc : ∀ σ H (Q : Bool → Hp → Prop), Q true H → c σ H Q)
    (hs : ∀ m σ H, W m σ H → tb { D with nx := fun σ' H' => ∃ m', m' < m ∧ W m' σ' H', ct := fun σ' H' => ∃ m', m' < m ∧ W m' σ' H', bk := D.nx } σ H) : tWhile c tb D σ H :=
  ⟨W, ⟨m0, h0⟩, fun m σ H h => hc σ H _ ⟨_, fun _ _ q => q, hs m σ H h⟩⟩
theorem done_rows {R : Addr} {H : Hp} {n : Nat} {ws : List Wish} (o : Ok n ws) {L : List (Stand × Ma.Row)} {kvs : List (SK.Key2 × V)} (h : Paired (fun (e : Stand × Ma.Row) (kv : SK.Key2 × V) => kv.1 = kst ws.length e.1 ∧ ∃ r, kv.2 = .ref r ∧ RowsAt R H r e.2) L kvs) (hv : ∀ e ∈ L, Va n ws e.1) :
    ∃ rs : List Addr, (kvs.filter fun kv => kv.1.2.all id).map (·.2) = rs.map V.ref ∧ Paired (RowsAt R H) rs ((L.filter fun e => e.1.2 == Uw77.fullSet ws).map (·.2)) := by
  induction h with
  | nil => exact ⟨[], rfl, .nil⟩
  | @cons e kv L kvs h t ih =>
    obtain ⟨rs, h1, h2⟩ := ih fun e he => hv e (List.mem_cons_of_mem _ he)
    obtain ⟨k1, r, k2, k3⟩ := h
    have eq : kv.1.2.all id = (e.1.2 == Uw77.fullSet ws) := by rw [k1]; exact all_full o (hv e (by simp))
    cases c : (e.1.2 == Uw77.fullSet ws) with
    | true =>
      rw [List.filter_cons_of_pos (by rw [eq]; exact c), List.filter_cons_of_pos (by exact c)]
      exact ⟨r :: rs, by rw [List.map_cons, List.map_cons, h1, k2], .cons k3 h2⟩
    | false =>
      rw [List.filter_cons_of_neg (by rw [eq, c]; exact Bool.false_ne_true), List.filter_cons_of_neg (by rw [c]; exact Bool.false_ne_true)]
      exact ⟨rs, h1, h2⟩
theorem pg_tupK {X : Cx} {es : List Expr} {k : Nat} {t : TGs} {pos : Pos} (K : PySem.W.Frag) (hK : X.K = K) (n : Nat) (hc : X.calm = true) (h : PGs X es t)
    (hn : (assignEach es X.env).length = n) (hst : (assignEach es X.env).findIdx? (·.1) = none) : PG X (.Tuple es k pos) (gTup K n t) := hK ▸ pg_tup hc h hn hst
section
variable {P : Program} {w : World} {K : PySem.W.Frag} {mg : Str → Option Value} {base : Heap}
noncomputable def spFew (C R : Addr) : Sp := fun vs H Q _ => ∃ (a : Addr) (A : Ad) (x : Table), vs = [.ref a] ∧ TabAt C H a A x ∧ TInv x ∧
  ∀ (H' : Hp) (r : Addr), Same H H' → RowsAt R H' r (cnt x.n x.wishes (dist x.n x.wishes (Uw77.standOf x)) (Uw77.standOf x), thePlan x.n x.wishes (Uw77.standOf x)) → Q (.ref r) H'
theorem scFew : FnScope ["table", "layer", "seen", "plans", "state", "rows"] ["table"] (defScope sFew) := ⟨rfl, rfl, rfl, by decide +kernel, rfl, by decide +kernel, by decide +kernel⟩
theorem ok_few {f C R fI fN fE fG fO : Addr} {fd fdI fdN fdE fdG fdO : FuncData} (F : Fun K "fewest_steps" "fewest_steps" sFew f fd) (T : Txt K mg C) (TP : TxtP K mg R) (MR : Mk K R fI)
    (GI : FnOk P w K mg base CX0 1 fI fdI ["self", "many", "first"] (spRIn R)) (bI : Binds K fdI ["self", "many", "first"] [])
    (GN : FnOk P w K mg base CX0 1 fN fdN ["table"] (spNow C)) (bN : Binds K fdN ["table"] []) (mN : mg "state_now" = some (.ref fN)) (kN : PySem.W.keepIn K (.ref fN) = true)
    (GE : FnOk P w K mg base CX0 1 fE fdE ["state"] spEnd) (bE : Binds K fdE ["state"] []) (mE : mg "is_end" = some (.ref fE)) (kE : PySem.W.keepIn K (.ref fE) = true)
    (GG : FnOk P w K mg base CX0 3 fG fdG ["several"] (spTog R)) (bG : Binds K fdG ["several"] []) (mG : mg "together" = some (.ref fG)) (kG : PySem.W.keepIn K (.ref fG) = true)
    (GO : FnOk P w K mg base CX0 5 fO fdO ["table", "layer", "seen"] (spLon C R)) (bO : Binds K fdO ["table", "layer", "seen"] []) (mO : mg "layer_on" = some (.ref fO)) (kO : PySem.W.keepIn K (.ref fO) = true) :
    FnOk P w K mg base CX0 6 f fd ["table"] (spFew C R) := by
  refine F.ok scFew (fun vs H Q E h => ?_) (fun cdv A outer s H vs Q E hr h => ?_)
  · obtain ⟨a, A, x, rfl, _⟩ := h
    rfl
  · obtain ⟨a, A, x, rfl, hT, hI, k⟩ := h
    have hu := hu_of hr
    have hr1 : Room 1 _ := hr.mono (by decide)
    have hr2 : Room 2 _ := hr.mono (by decide)
    have hr3 : Room 3 _ := hr.mono (by decide)
    have o := ok_of hI
    have v0 : Va x.n x.wishes (Uw77.standOf x) := ⟨hI.t, hI.lt⟩
    obtain ⟨rk, RK⟩ := hI.rank
    have dl48 := dist_le o hI.n8 RK v0
    refine ⟨_, pss_cons (ps_set (i := 1) scFew.nd rfl (Or.inl rfl) (pe_disp1 hu (pe_call GN hr1 (by rfl) mN kN bN .nil pass0 (pa_cons (pv 0) pa_nil)) (pe_make MR GI hr2 rfl TP.mgR bI .nil pass0 (pa_cons pe_int (pa_cons (pe_lst pa_nil) pa_nil)))))
      (pss_cons (ps_set (i := 2) scFew.nd rfl (Or.inl rfl) pe_dnewT)
      (pss_one (ps_while PassesOwn.never (pt_val pe_bl)
        (pss_cons (ps_lock (ps_setLc (i := 3) (own := [("state", 4), ("rows", 5)]) rfl scFew.nd rfl rfl (sw_true rfl rfl rfl rfl) (pi_itemsL (pv 1))
          (blkOk_by (show blkC ["table", "layer", "seen", "plans", "state", "rows"] (defScope sFew) _ [("state", 4), ("rows", 5)] = true by decide +kernel))
          (fun _ _ _ _ _ => pg_tupK K rfl 2 rfl (pgs_cons (pg_name (i := 4) scFew.nd rfl (Or.inl rfl)) (pgs_cons (pg_name (i := 5) scFew.nd rfl (Or.inl rfl)) pgs_nil)) (by rfl) (by rfl))
          (fun _ _ _ _ _ => pts_one (pt_val (pe_call GE hr1 (by rfl) mE kE bE .nil pass0 (pa_cons (pv 4) pa_nil))))
          (fun _ _ _ _ _ => pv 5)))
        (pss_cons (ps_if (pt_cmpR op_gt (pe_callB call_len_seq (by rfl) T.len PySem.boot_len (pa_cons (pv 3) pa_nil)) pe_int (nomark _)) (pss_one (ps_ret (pe_call GG hr3 (by rfl) mG kG bG .nil pass0 (pa_cons (pv 3) pa_nil)))) pss_nil)
        (pss_cons (ps_lock (ps_for PassesOwn.never rfl (pi_keys (pv 1)) (pg_name (i := 4) scFew.nd rfl (Or.inl rfl)) (pss_one (ps_dput hu (pv 2) (pv 4) pe_bl rfl))))
        (pss_one (ps_set (i := 1) scFew.nd rfl (Or.inl rfl) (pe_call GO hr (by rfl) mO kO bO .nil pass0 (pa_cons (pv 0) (pa_cons (pv 1) (pa_cons (pv 2) pa_nil)))))))))))), ?_⟩
    intro d0 hd0
    have s1 : Same H (upd H d0 (.dT [])) := Same.upd_new (Same.refl H) hd0
    refine ⟨_, rfl, a, A, x, rfl, hT.same s1, fun H2 q s2 hq => ⟨Nat.zero_le _, fun l hl => ?_⟩⟩
    have hd2 : H2 d0 = some (.dT []) := s2 _ _ upd_same
    have s3 : Same H2 (upd H2 l (.lst [])) := Same.upd_new (Same.refl H2) hl
    intro r dx hr0 hdx hdn
    refine ⟨r, dx, l, 1, rfl, upd_same, rfl, ?_⟩
    rw [upd_upd]
    have s4 : Same H2 (upd (upd (upd H2 l (.lst [])) dx (.own r)) r (.ins R dx (rf 1 l))) := fun b o e => by
      have e2 := s3 _ _ e
      rw [upd_ne (ne_of_none e2 hr0), upd_ne (ne_of_none e2 hdx)]
      exact e2
    have hrow4 : RowsAt R (upd (upd (upd H2 l (.lst [])) dx (.own r)) r (.ins R dx (rf 1 l))) r (1, []) := by
      refine ⟨dx, l, upd_same, ?_⟩
      have e2 : upd H2 l (.lst []) l = some (.lst []) := upd_same
      rw [upd_ne (ne_of_none e2 hr0), upd_ne (ne_of_none e2 hdx), e2]
      rfl
    generalize upd (upd (upd H2 l (.lst [])) dx (.own r)) r (.ins R dx (rf 1 l)) = H4 at s4 hrow4 ⊢
    have hd4 := s4 _ _ hd2
    refine ⟨hd4, q, _, rfl, hq.same s4, ?_⟩
    have sH5 : Same H (upd H4 d0 (.dT [(kst x.wishes.length (Uw77.standOf x), .ref r)])) := fun b o e => by
      rw [upd_ne (ne_of_none e hd0)]
      exact s4 _ _ (s2 _ _ (s1 _ _ e))
    have lay5 : LayAt R x.wishes.length (upd H4 d0 (.dT [(kst x.wishes.length (Uw77.standOf x), .ref r)])) d0 [(Uw77.standOf x, (1, []))] := ⟨_, upd_same, .cons ⟨rfl, r, rfl, hrow4.upd_dic hd4⟩ .nil⟩
    have hd5 : upd H4 d0 (.dT [(kst x.wishes.length (Uw77.standOf x), .ref r)]) d0 = some (.dT [(kst x.wishes.length (Uw77.standOf x), .ref r)]) := upd_same
    generalize upd H4 d0 (.dT [(kst x.wishes.length (Uw77.standOf x), .ref r)]) = H5 at sH5 lay5 hd5 ⊢
    intro ds0 hds0
    have s6 : Same H5 (upd H5 ds0 (.dT [])) := Same.upd_new (Same.refl H5) hds0
    refine while_true (fun m σ H' => ∃ (k : Nat) (L : List (Stand × Ma.Row)) (S : List Stand) (dl ds : Addr) (v3 v4 v5 : Option V), m = dist x.n x.wishes (Uw77.standOf x) - k ∧ σ = [some (.ref a), some (.ref dl), some (.ref ds), v3, v4, v5] ∧ Same H H' ∧ H ds = none ∧ ds ≠ dl ∧
      LayAt R x.wishes.length H' dl L ∧ SeenAt x.wishes.length H' ds S ∧ BF x.n x.wishes (Uw77.standOf x) k L S) _ ⟨0, _, [], d0, ds0, _, _, _, rfl, rfl, sH5.trans s6, sH5.free hds0, (ne_of_none hd5 hds0).symm, lay5.same s6, ⟨[], upd_same, rfl⟩, BF.init v0⟩ (fun σ H Q q => ⟨true, rfl, q⟩) ?_
    rintro m σ H' ⟨kk, L, S, dl, ds, v3, v4, v5, rfl, rfl, sH, nds, nsl, ⟨kvs, hdl, hp⟩, ⟨kvsS, hds, hkS⟩, bf⟩
    have vaL : ∀ e ∈ L, Va x.n x.wishes e.1 := fun e he => bf.va _ (List.mem_map.mpr ⟨e, he, rfl⟩)
    have llen : L.length = kvs.length := Paired.length hp
    have L512 : L.length ≤ 512 := by
      have := va_card o hI.n8 bf.nd bf.va
      rwa [List.length_map] at this
    have S512 : S.length ≤ 512 := va_card o hI.n8 bf.snd bf.sva
    -- the plans that are done
    refine ⟨dl, .dT kvs, hdl, trivial, fun od => ?_⟩
    have h1l : upd H' dl (.frz od (.dT kvs)) dl = some (.frz od (.dT kvs)) := upd_same
    refine ⟨_, rfl, dl, kvs, rfl, .inl ⟨od, h1l, fun D hD => ?_⟩⟩
    have nDl : D ≠ dl := fun z => by rw [z, h1l] at hD; cases hD
    have hD0 : H' D = none := by rw [upd_ne nDl] at hD; exact hD
    refine lc_items (d := dl) (o := od) (kvs := kvs) (fun i H'' => Same (upd H' dl (.frz od (.dT kvs))) H'' ∧ H'' D = some (.lst (((kvs.take i).filter fun kv => kv.1.2.all id).map (·.2)))) ⟨Same.upd_new (Same.refl _) hD, upd_same⟩ (fun i H'' _ hZ => hZ.1 _ _ h1l) ?_ ?_
    · rintro i kc v q2 T2 H'' hkv ⟨q1, hD1⟩ hq2 hT2
      have sT : Same H'' (upd H'' T2 (.tup [.ref q2, v])) := Same.upd_new (Same.refl H'') hT2
      refine ⟨T2, [.ref q2, v], rfl, SqT.of upd_same, rfl, _, _, rfl, _, _, rfl, rfl, rfl, _, rfl, q2, kc, rfl, hq2.same sT, _, rfl, ?_⟩
      have hlen : (((kvs.take i).filter fun kv => kv.1.2.all id).map (·.2)).length < sizeLine := by
        have h1 := List.length_filter_le (fun kv : SK.Key2 × V => kv.1.2.all id) (kvs.take i)
        rw [List.length_take] at h1
        rw [List.length_map, sizeLine_eq]
        omega
      cases c : kc.2.all id with
      | true =>
        refine iteT ⟨_, rfl, _, sT _ _ hD1, hlen, Same.upd_new (q1.trans sT) hD, ?_⟩
        rw [upd_same, take_snoc' hkv, List.filter_append, List.map_append, List.filter_cons_of_pos (by exact c)]
        rfl
      | false =>
        refine iteF ⟨q1.trans sT, ?_⟩
        rw [take_snoc' hkv, List.filter_append, List.map_append, List.filter_cons_of_neg (by rw [c]; exact Bool.false_ne_true)]
        rw [sT _ _ hD1]
        simp
    rintro H'' ⟨q1, hD1⟩
    refine ⟨q1 _ _ h1l, ?_⟩
    rw [List.take_length] at hD1
    have s3' : Same H' (upd H'' dl (.dT kvs)) := fun b o e => by
      by_cases z : b = dl
      · rw [z, upd_same, ← hdl, ← z]; exact e
      · rw [upd_ne z]
        exact q1 _ _ (by rw [upd_ne z]; exact e)
    have hD3 : upd H'' dl (.dT kvs) D = some (.lst ((kvs.filter fun kv => kv.1.2.all id).map (·.2))) := by rw [upd_ne nDl]; exact hD1
    generalize upd H'' dl (.dT kvs) = H3 at s3' hD3 ⊢
    have hdl3 := s3' _ _ hdl
    have hds3 := s3' _ _ hds
    have hp3 := Paired.mapP hp fun (e : Stand × Ma.Row) (kv : SK.Key2 × V) (z : kv.1 = kst x.wishes.length e.1 ∧ ∃ r, kv.2 = .ref r ∧ RowsAt R H' r e.2) => (⟨z.1, let ⟨r, e2, e3⟩ := z.2; ⟨r, e2, e3.same s3'⟩⟩ : kv.1 = kst x.wishes.length e.1 ∧ ∃ r, kv.2 = .ref r ∧ RowsAt R H3 r e.2)
    obtain ⟨rs, er, pr⟩ := done_rows o hp3 vaL
    rw [er] at hD3
    refine ⟨_, rfl, _, _, rfl, .inl (SqL.of hD3), _, _, rfl, rfl, _, rfl, ?_⟩
    rw [List.length_map]
    have rl : rs.length = (L.filter fun e => e.1.2 == Uw77.fullSet x.wishes).length := by rw [Paired.length pr, List.length_map]
    by_cases c : 0 < rs.length
    · rw [dT (show ((rs.length : Nat) : Int) > 0 by omega)]
      have zne : (L.filter fun e => e.1.2 == Uw77.fullSet x.wishes).map (·.2) ≠ [] := fun z => by
        have := congrArg List.length z
        rw [List.length_map] at this
        simp only [List.length_nil] at this
        omega
      have zl : ((L.filter fun e => e.1.2 == Uw77.fullSet x.wishes).map (·.2)).length ≤ 2000 := by
        rw [List.length_map]
        have := List.length_filter_le (fun e : Stand × Ma.Row => e.1.2 == Uw77.fullSet x.wishes) L
        omega
      refine iteT ⟨_, rfl, D, rs, _, rfl, hD3, pr, zne, zl, fun H6 r m s6 _ hm hrow => ?_⟩
      rw [List.map_map] at hm
      obtain ⟨f1, f2⟩ := bf.fin o hI.n8 RK v0 hm
      rw [f1, f2] at hrow
      exact k H6 r ((sH.trans s3').trans s6) hrow
    · rw [dF (show ¬ ((rs.length : Nat) : Int) > 0 by omega)]
      have nf : ∀ e ∈ L, ¬ Full x.wishes e.1 := fun e he f => by
        have : e ∈ L.filter fun e => e.1.2 == Uw77.fullSet x.wishes := List.mem_filter.mpr ⟨he, beq_iff_eq.mpr f⟩
        have := List.length_pos_of_mem this
        omega
      refine iteF ?_
      -- they are seen now
      refine ⟨dl, .dT kvs, hdl3, trivial, fun od2 => ?_⟩
      have h4l : upd H3 dl (.frz od2 (.dT kvs)) dl = some (.frz od2 (.dT kvs)) := upd_same
      refine ⟨_, rfl, dl, od2, rfl, .inr ⟨kvs, h4l, ?_⟩⟩
      refine for_keysT (d := dl) (o := od2) (kvs := kvs) (fun i σ H'' => ∃ (v4 : Option V) (kvsT : List (SK.Key2 × V)), σ = [some (.ref a), some (.ref dl), some (.ref ds), some (.ref D), v4, v5] ∧ (∀ b o, H3 b = some o → b ≠ dl → b ≠ ds → H'' b = some o) ∧ H'' dl = some (.frz od2 (.dT kvs)) ∧
        H'' ds = some (.dT kvsT) ∧ kvsT.map (·.1) = (S ++ (L.take i).map (·.1)).map (kst x.wishes.length)) ?_ ?_ ?_ ?_
      · exact ⟨_, kvsS, rfl, fun b o e nb _ => by rw [upd_ne nb]; exact e, h4l, by rw [upd_ne nsl]; exact hds3, by simpa using hkS⟩
      · rintro i σ H'' _ ⟨_, _, _, _, q, _⟩
        exact q
      · rintro i kc v q2 σ H'' hkv ⟨v4, kvsT, rfl, kp, hl4, hs4, hk4⟩ hq2
        have hi : i < L.length := by rw [llen]; exact (List.getElem?_eq_some_iff.mp hkv).1
        have ek : kc = kst x.wishes.length L[i].1 := (paired_both hp (List.getElem?_eq_getElem hi) hkv).1
        rw [ek] at hq2
        have hSv : ∀ u ∈ S ++ (L.take i).map (·.1), Va x.n x.wishes u := fun u hu => by
          rcases List.mem_append.mp hu with z | z
          · exact bf.sva u z
          · obtain ⟨e, he, rfl⟩ := List.mem_map.mp z
            exact vaL e (List.mem_of_mem_take he)
        have hno : L[i].1 ∉ S ++ (L.take i).map (·.1) := fun hu => by
          rcases List.mem_append.mp hu with z | z
          · exact bf.dj _ (List.mem_map.mpr ⟨_, List.getElem_mem hi, rfl⟩) z
          · obtain ⟨j, hj⟩ := List.getElem?_of_mem z
            rw [List.map_take, List.getElem?_take] at hj
            by_cases c2 : j < i
            · rw [if_pos c2] at hj
              have := nd_get bf.nd hj (by rw [List.getElem?_map, List.getElem?_eq_getElem hi]; rfl)
              omega
            · rw [if_neg c2] at hj; cases hj
        have hnone := (seen_in hk4 hSv (vaL _ (List.getElem_mem hi))).2 hno
        have tl : kvsT.length ≤ 1024 := by
          have := congrArg List.length hk4
          simp only [List.length_map, List.length_append, List.length_take] at this
          omega
        have dp := DPut.t (v := .bl true) hs4 hq2 (by rw [sizeLine_eq]; omega)
        rw [putK_new _ hnone] at dp
        refine ⟨_, rfl, _, rfl, ds, _, rfl, dp, ⟨_, kvsT ++ [(kst x.wishes.length L[i].1, .bl true)], rfl, fun b o e nb nc => by rw [upd_ne nc]; exact kp b o e nb nc, by rw [upd_ne nsl.symm]; exact hl4, upd_same, ?_⟩⟩
        have et : (L.take (i + 1)).map (·.1) = (L.take i).map (·.1) ++ [L[i].1] := by rw [take_snoc' (List.getElem?_eq_getElem hi), List.map_append]; rfl
        rw [List.map_append, hk4, et]
        simp
      rintro σ H'' ⟨v4', kvsT, rfl, kp, hl4, hs4, hk4⟩
      refine ⟨hl4, ?_⟩
      rw [← llen, List.take_length] at hk4
      have kp5 : ∀ b o, H3 b = some o → b ≠ ds → upd H'' dl (.dT kvs) b = some o := fun b o e nc => by
        by_cases z : b = dl
        · rw [z, upd_same, ← hdl3, ← z]; exact e
        · rw [upd_ne z]; exact kp b o e z nc
      have hs5 : upd H'' dl (.dT kvs) ds = some (.dT kvsT) := by rw [upd_ne nsl]; exact hs4
      generalize upd H'' dl (.dT kvs) = H6 at kp5 hs5 ⊢
      have sH6 : Same H H6 := fun b o e => kp5 _ _ (s3' _ _ (sH _ _ e)) (ne_of_none e nds)
      have lay6 : LayAt R x.wishes.length H6 dl L := by
        refine ⟨kvs, kp5 _ _ hdl3 nsl.symm, Paired.mapP hp3 fun e kv z => ⟨z.1, ?_⟩⟩
        obtain ⟨r', e2, dx', l', e3, e4⟩ := z.2
        exact ⟨r', e2, dx', l', kp5 _ _ e3 (ne_of e3 hds3 (fun z => nomatch z)), kp5 _ _ e4 (ne_of e4 hds3 (fun z => nomatch z))⟩
      have hLr : ∀ e ∈ L, Va x.n x.wishes e.1 ∧ e.2.2.length ≤ 1000 := fun e he => ⟨vaL e he, by
        have h1 := (bf.row e he).1
        have h2 := bf.le
        omega⟩
      have hSv : ∀ u ∈ S ++ L.map (·.1), Va x.n x.wishes u := fun u hu => by
        rcases List.mem_append.mp hu with z | z
        · exact bf.sva u z
        · exact bf.va u z
      refine ⟨_, rfl, _, rfl, _, rfl, a, dl, ds, A, x, L, S ++ L.map (·.1), rfl, hT.same sH6, hI, nsl, lay6, ⟨kvsT, hs5, hk4⟩, hLr, L512, hSv, fun H7 d L' s7 hd7 lay7 tog => ?_⟩
      have hk := bf.more o hI.n8 RK v0 nf
      exact ⟨dist x.n x.wishes (Uw77.standOf x) - (kk + 1), by omega, kk + 1, L', S ++ L.map (·.1), d, ds, _, _, _, rfl, rfl, sH6.trans s7, nds, ne_of_none hs5 hd7, lay7, ⟨kvsT, s7 _ _ hs5, hk4⟩, bf.next o hI.n8 RK v0 nf tog⟩
end
end Tt
set_option Elab.async false
set_option compiler.extract_closed false
set_option genSizeOf false
set_option linter.all false
set_option maxRecDepth 100000
set_option maxHeartbeats 2000000
namespace Tt
open PySem PySem.Spec PyProof.Rows L2
open Uw77 (Table Wish numberOf Stand)
open Ma
theorem valV_drop {κ : Type} [DecidableEq κ] (k j : κ) : ∀ kvs : List (κ × V), valV (dropK kvs k) j = if j = k then none else valV kvs j
  | [] => by rw [show dropK ([] : List (κ × V)) k = [] from rfl, valV_nil]; split <;> rfl
  | p :: r => by
    have ih := valV_drop k j r
    by_cases e : p.1 = k
    · rw [dropK_pos e, ih]
      by_cases q : j = k
      · rw [if_pos q, if_pos q]
      · rw [if_neg q, if_neg q, valV_neg (fun z => q (z.symm.trans e))]
    · rw [dropK_neg e]
      by_cases q : p.1 = j
      · rw [valV_pos q, valV_pos q, if_neg (fun z => e (q.trans z))]
      · rw [valV_neg q, valV_neg q, ih]
noncomputable abbrev ik (c : Nat) : Key := Sum.inl ((c : Nat) : Int)
theorem ik_inj {c d : Nat} (h : ik c = ik d) : c = d := Int.ofNat_inj.mp (Sum.inl.inj h)
structure BkK (k : Nat) (H0 H : Hp) (d : Addr) (B : Heaps) (kvs : List (Key × V)) : Prop where
  dic : H d = some (.dK kvs)
  new : H0 d = none
  has : ∀ c us, B c = some us → ∃ l as, valV kvs (ik c) = some (.ref l) ∧ H l = some (.lst (as.map V.ref)) ∧ Paired (fun u q => KeyAt H (kst k u) q) us as
  no : ∀ c, B c = none → valV kvs (ik c) = none
  inj : ∀ c c' l, valV kvs (ik c) = some (.ref l) → valV kvs (ik c') = some (.ref l) → c = c'
  fr : ∀ c l, valV kvs (ik c) = some (.ref l) → H0 l = none
section
variable {k : Nat} {H0 H H' : Hp} {d : Addr} {B : Heaps} {kvs : List (Key × V)}
theorem BkK.keep (x : BkK k H0 H d B kvs) (hd : H' d = some (.dK kvs)) (hl : ∀ l xs, H l = some (.lst xs) → H' l = some (.lst xs)) (ht : Tups H H') : BkK k H0 H' d B kvs :=
  ⟨hd, x.new, fun c us h => let ⟨l, as, h1, h2, h3⟩ := x.has c us h; ⟨l, as, h1, hl _ _ h2, Paired.mapP h3 fun _ _ z => z.keeps ht⟩, x.no, x.inj, x.fr⟩
theorem BkK.same (x : BkK k H0 H d B kvs) (s : Same H H') : BkK k H0 H' d B kvs := x.keep (s _ _ x.dic) (fun l xs e => s _ _ e) s.tups
theorem BkK.updT (x : BkK k H0 H d B kvs) {ds : Addr} {kv : List (SK.Key2 × V)} (h : H ds = some (.dT kv)) (o : HO) : BkK k H0 (upd H ds o) d B kvs :=
  x.keep (upd_keep x.dic h (fun z => nomatch z)) (fun l xs e => upd_keep e h (fun z => nomatch z)) (Tups.upd h (fun xs z => nomatch z))
theorem BkK.pop (x : BkK k H0 H d B kvs) (w : Nat) : BkK k H0 (upd H d (.dK (dropK kvs (ik w)))) d (cutH B w) (dropK kvs (ik w)) := by
  refine ⟨upd_same, x.new, fun c us h => ?_, fun c h => ?_, fun c c' l h1 h2 => ?_, fun c l h => ?_⟩
  · obtain ⟨hc, h⟩ := cut_some h
    obtain ⟨l, as, h1, h2, h3⟩ := x.has c us h
    refine ⟨l, as, by rw [valV_drop, if_neg (fun z => hc (ik_inj z))]; exact h1, upd_keep h2 x.dic (fun z => nomatch z), Paired.mapP h3 fun _ _ z => z.keeps (Tups.upd x.dic (fun xs z => nomatch z))⟩
  · rw [valV_drop]
    by_cases e : c = w
    · rw [if_pos (by rw [e])]
    · rw [if_neg (fun z => e (ik_inj z))]
      refine x.no c ?_
      unfold cutH at h
      rw [if_neg e] at h
      exact h
  · rw [valV_drop] at h1 h2
    split at h1
    · cases h1
    · split at h2
      · cases h2
      · exact x.inj c c' l h1 h2
  · rw [valV_drop] at h
    split at h
    · cases h
    · exact x.fr c l h
theorem cut_none {B : Heaps} {w : Nat} (h : B w = none) : cutH B w = B := by
  funext c
  unfold cutH
  by_cases e : c = w
  · rw [if_pos e, e, h]
  · rw [if_neg e]
theorem BkK.mk' (x : BkK k H0 H d B kvs) {c : Nat} (hc : B c = none) {l : Addr} (hl : H l = some (.lst [])) (n0 : H0 l = none) (nl : ∀ c', valV kvs (ik c') ≠ some (.ref l)) :
    BkK k H0 (upd H d (.dK (putK kvs (ik c) (.ref l)))) d (fun e => if e = c then some [] else B e) (putK kvs (ik c) (.ref l)) := by
  refine ⟨upd_same, x.new, fun e us h => ?_, fun e h => ?_, fun e e' l' h1 h2 => ?_, fun e l' h => ?_⟩
  · rw [valV_put]
    by_cases q : e = c
    · subst q
      have h : (if e = e then some [] else B e) = some us := h
      rw [if_pos rfl] at h
      cases h
      exact ⟨l, [], if_pos rfl, upd_keep hl x.dic (fun z => nomatch z), .nil⟩
    · have h : (if e = c then some [] else B e) = some us := h
      rw [if_neg q] at h
      obtain ⟨l', as, h1, h2, h3⟩ := x.has e us h
      exact ⟨l', as, by rw [if_neg (fun z => q (ik_inj z))]; exact h1, upd_keep h2 x.dic (fun z => nomatch z), Paired.mapP h3 fun _ _ z => z.keeps (Tups.upd x.dic (fun xs z => nomatch z))⟩
  · rw [valV_put]
    have h : (if e = c then some [] else B e) = none := h
    by_cases q : e = c
    · rw [if_pos q] at h; cases h
    · rw [if_neg q] at h
      rw [if_neg (fun z => q (ik_inj z))]
      exact x.no e h
  · rw [valV_put] at h1 h2
    by_cases q : e = c <;> by_cases q' : e' = c
    · rw [q, q']
    · rw [if_pos (by rw [q])] at h1
      rw [if_neg (fun z => q' (ik_inj z))] at h2
      have e1 : V.ref l = V.ref l' := Option.some.inj h1
      rw [← e1] at h2
      exact absurd h2 (nl e')
    · rw [if_pos (by rw [q'])] at h2
      rw [if_neg (fun z => q (ik_inj z))] at h1
      have e1 : V.ref l = V.ref l' := Option.some.inj h2
      rw [← e1] at h1
      exact absurd h1 (nl e)
    · rw [if_neg (fun z => q (ik_inj z))] at h1
      rw [if_neg (fun z => q' (ik_inj z))] at h2
      exact x.inj e e' l' h1 h2
  · rw [valV_put] at h
    by_cases q : e = c
    · rw [if_pos (by rw [q])] at h
      have e1 : V.ref l = V.ref l' := Option.some.inj h
      injection e1 with e1
      rw [← e1]; exact n0
    · rw [if_neg (fun z => q (ik_inj z))] at h
      exact x.fr e l' h
theorem BkK.app (x : BkK k H0 H d B kvs) {c : Nat} {us : List Stand} (hc : B c = some us) {l : Addr} (hv : valV kvs (ik c) = some (.ref l)) {as : List Addr} (hl : H l = some (.lst (as.map V.ref))) {u : Stand} {q : Addr} (hq : KeyAt H (kst k u) q) :
    BkK k H0 (upd H l (.lst (as.map V.ref ++ [.ref q]))) d (fun e => if e = c then some (us ++ [u]) else B e) kvs := by
  have tp : Tups H (upd H l (.lst (as.map V.ref ++ [.ref q]))) := Tups.upd hl (fun xs z => nomatch z)
  refine ⟨upd_keep x.dic hl (fun z => nomatch z), x.new, fun e vs h => ?_, fun e h => ?_, x.inj, x.fr⟩
  · have h : (if e = c then some (us ++ [u]) else B e) = some vs := h
    by_cases z : e = c
    · subst z
      rw [if_pos rfl] at h
      cases h
      obtain ⟨l', as', h1, h2, h3⟩ := x.has e us hc
      rw [hv] at h1
      have e1 : V.ref l = V.ref l' := Option.some.inj h1
      injection e1 with e1
      subst e1
      rw [hl] at h2
      have ea : as.map V.ref = as'.map V.ref := by injection h2 with z; injection z
      refine ⟨l, as' ++ [q], hv, by rw [upd_same, ea, List.map_append]; rfl, Paired.app1 (Paired.mapP h3 fun _ _ z => z.keeps tp) (hq.keeps tp)⟩
    · rw [if_neg z] at h
      obtain ⟨l', as', h1, h2, h3⟩ := x.has e vs h
      have nl : l' ≠ l := fun y => z (x.inj e c l (by rw [← y]; exact h1) hv)
      exact ⟨l', as', h1, by rw [upd_ne nl]; exact h2, Paired.mapP h3 fun _ _ z => z.keeps tp⟩
  · have h : (if e = c then some (us ++ [u]) else B e) = none := h
    by_cases z : e = c
    · rw [if_pos z] at h; cases h
    · rw [if_neg z] at h
      exact x.no e h
end
theorem pop_both {H3 : Hp} {a : Addr} {y z : V} {Q : VK} {kvs : List (Key × V)} {k : Key} (h : H3 a = some (.dK kvs)) (hy : y = kV k)
    (key : ∀ v H2, ((valV kvs k = some v ∧ H2 = upd H3 a (.dK (dropK kvs k))) ∨ (valV kvs k = none ∧ v = z ∧ H2 = H3)) → Q v H2) :
    ∃ kvs k, H3 a = some (.dK kvs) ∧ y = kV k ∧ (∀ v, valV kvs k = some v → Q v (upd H3 a (.dK (dropK kvs k)))) ∧ (valV kvs k = none → Q z H3) :=
  ⟨kvs, k, h, hy, fun v hv => key v _ (.inl ⟨hv, rfl⟩), fun hn => key z _ (.inr ⟨hn, rfl, rfl⟩)⟩
theorem set_both {H3 : Hp} {a : Addr} {y z : V} {Q : VK} {kvs : List (Key × V)} {k : Key} (h : H3 a = some (.dK kvs)) (hy : y = kV k) (hl : kvs.length < sizeLine)
    (key : ∀ v H2, ((valV kvs k = some v ∧ H2 = H3) ∨ (valV kvs k = none ∧ v = z ∧ H2 = upd H3 a (.dK (putK kvs k z)))) → Q v H2) :
    ∃ o H4, DGet H3 a y o ∧ DPut H3 a y z H4 ∧ (∀ v, o = some v → Q v H3) ∧ (o = none → Q z H4) :=
  hy ▸ ⟨_, _, DGet.k h, DPut.k h hl, fun v hv => key v _ (.inl ⟨hv, rfl⟩), fun hn => key z _ (.inr ⟨hn, rfl, rfl⟩)⟩
section
variable {P : Program} {w : World} {K : PySem.W.Frag} {mg : Str → Option Value} {base : Heap}
noncomputable def spLea (C : Addr) : Sp := fun vs H Q _ => ∃ (a : Addr) (A : Ad) (x : Table), vs = [.ref a] ∧ TabAt C H a A x ∧ TInv x ∧ ∀ (H' : Hp), Same H H' → Q (.int (wait x.n x.wishes (Uw77.standOf x) : Nat)) H'
theorem scLea : FnScope ["table", "by_waiting", "seen", "waited", "states", "state", "later"] ["table"] (defScope sLea) := ⟨rfl, rfl, rfl, by decide +kernel, rfl, by decide +kernel, by decide +kernel⟩
theorem ok_lea {f C R fN fE fW fA : Addr} {fd fdN fdE fdW fdA : FuncData} (F : Fun K "least_waiting" "least_waiting" sLea f fd) (T : Txt K mg C)
    (GN : FnOk P w K mg base CX0 1 fN fdN ["table"] (spNow C)) (bN : Binds K fdN ["table"] []) (mN : mg "state_now" = some (.ref fN)) (kN : PySem.W.keepIn K (.ref fN) = true)
    (GE : FnOk P w K mg base CX0 1 fE fdE ["state"] spEnd) (bE : Binds K fdE ["state"] []) (mE : mg "is_end" = some (.ref fE)) (kE : PySem.W.keepIn K (.ref fE) = true)
    (GW : FnOk P w K mg base CX0 1 fW fdW ["state"] spWai) (bW : Binds K fdW ["state"] []) (mW : mg "how_many_wait" = some (.ref fW)) (kW : PySem.W.keepIn K (.ref fW) = true)
    (GA : FnOk P w K mg base CX0 3 fA fdA ["table", "state", "way"] (spAft C)) (bA : Binds K fdA ["table", "state", "way"] []) (mA : mg "state_after" = some (.ref fA)) (kA : PySem.W.keepIn K (.ref fA) = true) :
    FnOk P w K mg base CX0 4 f fd ["table"] (spLea C) := by
  refine F.ok scLea (fun vs H Q E h => ?_) (fun cdv A outer s H vs Q E hr h => ?_)
  · obtain ⟨a, A, x, rfl, _⟩ := h
    rfl
  · obtain ⟨a, A, x, rfl, hT, hI, k⟩ := h
    have hu := hu_of hr
    have hr1 : Room 1 _ := hr.mono (by decide)
    have o := ok_of hI
    have v0 : Va x.n x.wishes (Uw77.standOf x) := ⟨hI.t, hI.lt⟩
    obtain ⟨rk, RK⟩ := hI.rank
    obtain ⟨t0, g0⟩ := T.rgt
    obtain ⟨t1, g1⟩ := T.lft
    refine ⟨_, pss_cons (ps_set (i := 1) scLea.nd rfl (Or.inl rfl) (pe_disp (pps_cons pe_int (pe_lst (pa_cons (pe_call GN hr1 (by rfl) mN kN bN .nil pass0 (pa_cons (pv 0) pa_nil)) pa_nil)) pps_nil) rfl rfl (by simp) (by decide)))
      (pss_cons (ps_set (i := 2) scLea.nd rfl (Or.inl rfl) pe_dnewT)
      (pss_cons (ps_set (i := 3) scLea.nd rfl (Or.inl rfl) pe_int)
      (pss_one (ps_while PassesOwn.never (pt_val pe_bl)
        (pss_cons (ps_set (i := 4) scLea.nd rfl (Or.inl rfl) (pe_dpop2 (pv 1) (pv 3) (pe_lst pa_nil) ⟨rfl, rfl, rfl, rfl⟩))
        (pss_cons (ps_if (pt_val (pe_callB (cr_any rfl) (by rfl) T.any boot_any' (pa_cons (pe_lc (own := [("state", 5)]) rfl scLea.nd (pi_list (pv 4))
            (blkOk_by (show blkC ["table", "by_waiting", "seen", "waited", "states", "state", "later"] (defScope sLea) _ [("state", 5)] = true by decide +kernel))
            (fun _ _ _ _ _ => pg_name (i := 5) scLea.nd rfl (Or.inl rfl)) (fun _ _ _ _ _ => pts_nil)
            (fun _ _ _ _ _ => pe_call GE hr1 (by rfl) mE kE bE .nil pass0 (pa_cons (pv 5) pa_nil))) pa_nil))) (pss_one (ps_ret (pv 3))) pss_nil)
        (pss_cons (ps_for PassesOwn.never rfl (pi_list (pv 4)) (pg_name (i := 5) scLea.nd rfl (Or.inl rfl))
          (pss_one (ps_if (pt_cmp (pc_dnotin hu (pv 5) (pv 2)))
            (pss_cons (ps_dput hu (pv 2) (pv 5) pe_bl rfl)
            (pss_cons (ps_set (i := 6) scLea.nd rfl (Or.inl rfl) (pe_dset hu (pv 1) (pe_op op_add (pv 3) (pe_call GW hr1 (by rfl) mW kW bW .nil pass0 (pa_cons (pv 5) pa_nil))) (pe_lst pa_nil) ⟨rfl, rfl, rfl, rfl⟩))
            (pss_cons (ps_expr (pe_bm PySem.F.plainAttrs_list PySem.F.slot_list_append PySem.F.type_list_append mt_append (pv 6) (pa_cons (pe_call GA hr (by rfl) mA kA bA .nil pass0 (pa_cons (pv 0) (pa_cons (pv 5) (pa_cons (pe_glob (v := .int 0) (by rfl) g0 ⟨_, rfl⟩) pa_nil)))) pa_nil)))
            (pss_one (ps_expr (pe_bm PySem.F.plainAttrs_list PySem.F.slot_list_append PySem.F.type_list_append mt_append (pv 6) (pa_cons (pe_call GA hr (by rfl) mA kA bA .nil pass0 (pa_cons (pv 0) (pa_cons (pv 5) (pa_cons (pe_glob (v := .int 1) (by rfl) g1 ⟨_, rfl⟩) pa_nil)))) pa_nil)))))))
            pss_nil)))
        (pss_one (ps_set (i := 3) scLea.nd rfl (Or.inl rfl) (pe_op op_add (pv 3) pe_int)))))))))), ?_⟩
    intro db hdb
    have s1 : Same H (upd H db (.dK [])) := Same.upd_new (Same.refl H) hdb
    refine ⟨_, rfl, a, A, x, rfl, hT.same s1, fun H2 q s2 hq => ?_⟩
    have hd2 : H2 db = some (.dK []) := s2 _ _ upd_same
    refine ⟨(by show 1 ≤ sizeLine; decide), fun l0 hl0 => ?_⟩
    have s3 : Same H2 (upd H2 l0 (.lst [.ref q])) := Same.upd_new (Same.refl H2) hl0
    have hd3 := s3 _ _ hd2
    refine ⟨hd3, [(ik 0, .ref l0)], rfl, (by show 1 ≤ 15; decide), ?_⟩
    have sH4 : Same H (upd (upd H2 l0 (.lst [.ref q])) db (.dK (mergeK [] [(ik 0, .ref l0)]))) := fun b o e => by
      rw [upd_ne (ne_of_none e hdb)]
      exact s3 _ _ (s2 _ _ (s1 _ _ e))
    have bk4 : BkK x.wishes.length H (upd (upd H2 l0 (.lst [.ref q])) db (.dK (mergeK [] [(ik 0, .ref l0)]))) db (fun d => if d = 0 then some [Uw77.standOf x] else none) [(ik 0, .ref l0)] := by
      have vv : ∀ c : Nat, valV [(ik 0, V.ref l0)] (ik c) = if c = 0 then some (.ref l0) else none := fun c => by
        by_cases e : c = 0
        · rw [if_pos e, e]; exact valV_pos rfl
        · rw [if_neg e, valV_neg (fun z => e (ik_inj z).symm)]; rfl
      have n0 : H l0 = none := s1.free (s2.free hl0)
      refine ⟨upd_same, hdb, fun c us h => ?_, fun c h => ?_, fun c c' l h1 h2 => ?_, fun c l h => ?_⟩
      · have h : (if c = 0 then some [Uw77.standOf x] else none) = some us := h
        by_cases e : c = 0
        · rw [if_pos e] at h
          cases h
          refine ⟨l0, [q], by rw [vv, if_pos e], upd_keep upd_same hd3 (fun z => nomatch z), .cons ?_ .nil⟩
          exact (hq.same s3).keeps (Tups.upd hd3 (fun xs z => nomatch z))
        · rw [if_neg e] at h; cases h
      · have h : (if c = 0 then some [Uw77.standOf x] else none) = none := h
        by_cases e : c = 0
        · rw [if_pos e] at h; cases h
        · rw [vv, if_neg e]
      · rw [vv] at h1 h2
        by_cases e : c = 0
        · by_cases e' : c' = 0
          · rw [e, e']
          · rw [if_neg e'] at h2; cases h2
        · rw [if_neg e] at h1; cases h1
      · rw [vv] at h
        by_cases e : c = 0
        · rw [if_pos e] at h
          have e1 : V.ref l0 = V.ref l := Option.some.inj h
          injection e1 with e1
          rw [← e1]; exact n0
        · rw [if_neg e] at h; cases h
    generalize upd (upd H2 l0 (.lst [.ref q])) db (.dK (mergeK [] [(ik 0, .ref l0)])) = H4 at sH4 bk4 ⊢
    intro ds hds
    have s5 : Same H4 (upd H4 ds (.dT [])) := Same.upd_new (Same.refl H4) hds
    have nds := sH4.free hds
    generalize hom : wait x.n x.wishes (Uw77.standOf x) = om at k
    refine while_true (fun m σ H' => ∃ (wt : Nat) (B : Heaps) (S : List Stand) (kvs : List (Key × V)) (v4 v5 v6 : Option V), m = om - wt ∧ σ = [some (.ref a), some (.ref db), some (.ref ds), some (.int (wt : Nat)), v4, v5, v6] ∧ Same H H' ∧
      BkK x.wishes.length H H' db B kvs ∧ kvs.length ≤ 1 + S.length ∧ SeenAt x.wishes.length H' ds S ∧ LW x.n x.wishes om wt B S) _ ⟨0, _, [], _, _, _, _, rfl, rfl, sH4.trans s5, bk4.same s5, (by show 1 ≤ 1 + 0; decide), ⟨[], upd_same, rfl⟩, hom ▸ LW.init v0⟩ (fun σ H Q q => ⟨true, rfl, q⟩) ?_
    rintro m σ H' ⟨wt, B, S, kvs, v4, v5, v6, rfl, rfl, sH, bk, kl, ⟨kvsS, hsS, hkS⟩, lw⟩
    have S512 : S.length ≤ 512 := va_card o hI.n8 lw.snd lw.sva
    -- pop
    refine ⟨_, rfl, db, rfl, .inl ⟨kvs, .inl bk.dic⟩, _, rfl, Nat.zero_le _, fun z hz => ?_⟩
    have s6 : Same H' (upd H' z (.lst [])) := Same.upd_new (Same.refl H') hz
    have bk6 := bk.same s6
    refine pop_both (k := ik wt) bk6.dic rfl ?_
    intro v H6 hpop
    have facts : ∃ (l : Addr) (as : List Addr) (kvs2 : List (Key × V)), v = .ref l ∧ H6 l = some (.lst (as.map V.ref)) ∧ Paired (fun u q => KeyAt H6 (kst x.wishes.length u) q) ((B wt).getD []) as ∧ BkK x.wishes.length H H6 db (cutH B wt) kvs2 ∧ kvs2.length ≤ 1 + S.length ∧ H6 ds = some (.dT kvsS) ∧ Same H H6 ∧ ∀ c, valV kvs2 (ik c) ≠ some (.ref l) := by
      rcases hpop with ⟨hv, rfl⟩ | ⟨hv, rfl, rfl⟩
      · cases eb : B wt with
        | none => rw [bk.no wt eb] at hv; cases hv
        | some us =>
          obtain ⟨l, as, h1, h2, h3⟩ := bk6.has wt us eb
          rw [hv] at h1
          have e1 : v = .ref l := Option.some.inj h1
          subst e1
          have bk7 := bk6.pop wt
          refine ⟨l, as, _, rfl, upd_keep h2 bk6.dic (fun z => nomatch z), Paired.mapP h3 fun _ _ z => z.keeps (Tups.upd bk6.dic (fun xs z => nomatch z)), bk7, Nat.le_trans (dropK_le _ _) kl, upd_keep (s6 _ _ hsS) bk6.dic (fun z => nomatch z), fun b o e => ?_, fun c hc => ?_⟩
          · rw [upd_ne (ne_of_none e bk6.new)]
            exact s6 _ _ (sH _ _ e)
          · rw [valV_drop] at hc
            by_cases q2 : c = wt
            · rw [if_pos (by rw [q2])] at hc; cases hc
            · rw [if_neg (fun z => q2 (ik_inj z))] at hc
              exact q2 (bk6.inj c wt l hc hv)
      · have eb : B wt = none := by
          cases e : B wt with
          | none => rfl
          | some us =>
            obtain ⟨l, as, h1, _⟩ := bk6.has wt us e
            rw [hv] at h1; cases h1
        refine ⟨z, [], kvs, rfl, upd_same, by rw [eb]; exact .nil, by rw [cut_none eb]; exact bk6, kl, s6 _ _ hsS, sH.trans s6, fun c hc => ?_⟩
        cases e : B c with
        | none => rw [bk.no c e] at hc; cases hc
        | some us =>
          obtain ⟨l, as, h1, h2, _⟩ := bk.has c us e
          rw [hc] at h1
          have e1 : V.ref z = V.ref l := Option.some.inj h1
          injection e1 with e1
          rw [← e1, hz] at h2
          cases h2
    obtain ⟨l, as, kvs2, rfl, hl, hpu, bk7, kl7, hs7, sH7, nl7⟩ := facts
    clear hpop bk6 s6 hz
    generalize hus : (B wt).getD [] = us at hpu
    have al : us.length = as.length := Paired.length hpu
    have ul : us.length ≤ 1025 := by
      rw [← hus]
      cases eb : B wt with
      | none => exact Nat.zero_le _
      | some us => have := lw.len wt us eb; show us.length ≤ 1025; omega
    have uva : ∀ u ∈ us, Va x.n x.wishes u := fun u hu => by
      rw [← hus] at hu
      cases eb : B wt with
      | none => rw [eb] at hu; exact nomatch hu
      | some us => rw [eb] at hu; exact (lw.va wt us eb u hu).1
    have at2 : ∀ {i : Nat} {y : V}, (as.map V.ref)[i]? = some y → ∃ (q : Addr) (u : Stand), y = .ref q ∧ as[i]? = some q ∧ us[i]? = some u := by
      intro i y hy
      rw [List.getElem?_map] at hy
      obtain ⟨q, h1, rfl⟩ := Option.map_eq_some_iff.mp hy
      have hi : i < us.length := by rw [al]; exact (List.getElem?_eq_some_iff.mp h1).1
      exact ⟨q, us[i], rfl, h1, List.getElem?_eq_getElem hi⟩
    -- is one at the end
    refine ⟨_, rfl, l, rfl, ⟨_, SqL.of hl⟩, fun D hD => ?_⟩
    refine lc_list (K := K) (a := l) (xs := as.map V.ref) (fun i H'' => Same H6 H'' ∧ H'' D = some (.lst (((us.take i).map fun u => u.2 == Uw77.fullSet x.wishes).map V.bl))) ⟨Same.upd_new (Same.refl H6) hD, upd_same⟩ (fun i H'' _ hZ => have q1 := hZ.1; SqL.of (q1 _ _ hl)) ?_ ?_
    · rintro i y H'' hi ⟨q1, hD1⟩
      obtain ⟨q2, u, rfl, h1, h2⟩ := at2 hi
      have hk2 : KeyAt H6 (kst x.wishes.length u) q2 := paired_both hpu h2 h1
      refine ⟨rfl, _, rfl, q2, kst x.wishes.length u, rfl, hk2.same q1, _, hD1, ?_, Same.upd_new q1 hD, ?_⟩
      · rw [List.length_map, List.length_map, List.length_take, sizeLine_eq]
        omega
      · rw [upd_same, take_snoc' h2, List.map_append, List.map_append]
        have := all_full o (uva u (List.mem_of_getElem? h2))
        show _ = some (HO.lst (_ ++ [V.bl (u.2 == Uw77.fullSet x.wishes)]))
        rw [← this]
        rfl
    rintro H8 ⟨q1, hD1⟩
    rw [List.length_map, ← al, List.take_length] at hD1
    refine ⟨D, _, rfl, SqL.of hD1, _, rfl, ?_⟩
    rw [List.any_map]
    cases c : us.any (id ∘ fun u => u.2 == Uw77.fullSet x.wishes) with
    | true =>
      obtain ⟨u, hu, f⟩ := List.any_eq_true.mp c
      have f : Full x.wishes u := eq_of_beq f
      have ew : wt = om := by
        rw [← hus] at hu
        cases eb : B wt with
        | none => rw [eb] at hu; exact nomatch hu
        | some us => rw [eb] at hu; exact lw.fin eb hu f
      refine iteT ⟨_, rfl, ?_⟩
      rw [ew]
      exact k H8 (sH7.trans q1)
    | false =>
      refine iteF ?_
      have nf : ∀ u ∈ (B wt).getD [], ¬ Full x.wishes u := fun u hu f => by
        rw [hus] at hu
        have := List.any_eq_false.mp c u hu
        exact this (beq_iff_eq.mpr f)
      have lm := lw.pop nf
      rw [hus] at lm
      have hl8 := q1 _ _ hl
      refine ⟨_, rfl, l, rfl, ⟨_, SqL.of hl8⟩, ?_⟩
      refine for_list (K := K) (a := l) (xs := as.map V.ref) (fun i σ H'' => ∃ (B' : Heaps) (S' : List Stand) (kvs' : List (Key × V)) (v5 v6 : Option V), σ = [some (.ref a), some (.ref db), some (.ref ds), some (.int (wt : Nat)), some (.ref l), v5, v6] ∧ Same H H'' ∧
        BkK x.wishes.length H H'' db B' kvs' ∧ kvs'.length ≤ 1 + S'.length ∧ SeenAt x.wishes.length H'' ds S' ∧ LM x.n x.wishes om wt us i B' S' ∧ H'' l = some (.lst (as.map V.ref)) ∧ Tups H8 H'' ∧ (∀ c, valV kvs' (ik c) ≠ some (.ref l)))
        ⟨_, S, kvs2, _, _, rfl, sH7.trans q1, bk7.same q1, kl7, ⟨kvsS, q1 _ _ hs7, hkS⟩, lm, hl8, Tups.refl _, nl7⟩ (fun i σ H'' _ hZ => by obtain ⟨_, _, _, _, _, _, _, _, _, _, _, q2, _⟩ := hZ; exact SqL.of q2) ?_ ?_
      · rintro i y σ H9 hi ⟨B', S', kvs', v5, v6, rfl, sH9, bk9, kl9, ⟨kT, hsT, hkT⟩, lm9, hl9, tp9, nl9⟩
        obtain ⟨q2, u, rfl, h1, h2⟩ := at2 hi
        have hkq : KeyAt H9 (kst x.wishes.length u) q2 := ((paired_both hpu h2 h1 : KeyAt H6 (kst x.wishes.length u) q2).same q1).keeps tp9
        have vu := uva u (List.mem_of_getElem? h2)
        have S512' : S'.length ≤ 512 := va_card o hI.n8 lm9.snd lm9.sva
        obtain ⟨in1, in2⟩ := seen_in hkT lm9.sva vu
        by_cases cS : u ∈ S'
        · obtain ⟨y2, hy2⟩ := in1 cS
          have g : DGet H9 ds (.ref q2) (some y2) := by rw [← hy2]; exact DGet.t hsT hkq
          exact ⟨_, rfl, _, rfl, ds, _, rfl, g, _, rfl, iteF ⟨B', S', kvs', _, _, rfl, sH9, bk9, kl9, ⟨kT, hsT, hkT⟩, lm9.skip h2 cS, hl9, tp9, nl9⟩⟩
        · have g : DGet H9 ds (.ref q2) none := by rw [← in2 cS]; exact DGet.t hsT hkq
          refine ⟨_, rfl, _, rfl, ds, _, rfl, g, _, rfl, iteT ?_⟩
          have tl : kT.length ≤ 512 := by
            have := congrArg List.length hkT
            simp only [List.length_map] at this
            omega
          have dp := DPut.t (v := .bl true) hsT hkq (by rw [sizeLine_eq]; omega)
          rw [putK_new _ (in2 cS)] at dp
          refine ⟨_, rfl, _, rfl, ds, _, rfl, dp, ?_⟩
          have bk10 := bk9.updT hsT (.dT (kT ++ [(kst x.wishes.length u, .bl true)]))
          have tp10 : Tups H9 (upd H9 ds (.dT (kT ++ [(kst x.wishes.length u, .bl true)]))) := Tups.upd hsT (fun xs z => nomatch z)
          have sH10 : Same H (upd H9 ds (.dT (kT ++ [(kst x.wishes.length u, .bl true)]))) := fun b o e => by rw [upd_ne (ne_of_none e nds)]; exact sH9 _ _ e
          have hl10 : upd H9 ds (.dT (kT ++ [(kst x.wishes.length u, .bl true)])) l = some (.lst (as.map V.ref)) := upd_keep hl9 hsT (fun z => nomatch z)
          have hs10 : upd H9 ds (.dT (kT ++ [(kst x.wishes.length u, .bl true)])) ds = some (.dT (kT ++ [(kst x.wishes.length u, .bl true)])) := upd_same
          generalize upd H9 ds (.dT (kT ++ [(kst x.wishes.length u, .bl true)])) = H10 at bk10 tp10 sH10 hl10 hs10 ⊢
          have hkq10 := hkq.keeps tp10
          -- the heap for later
          refine ⟨_, rfl, db, rfl, .inl ⟨kvs', .inl bk10.dic⟩, _, rfl, _, rfl, q2, kst x.wishes.length u, rfl, hkq10, _, _, rfl, rfl, Nat.zero_le _, fun z hz => ?_⟩
          have s11 : Same H10 (upd H10 z (.lst [])) := Same.upd_new (Same.refl H10) hz
          have bk11 := bk10.same s11
          have ec : ((wt : Nat) : Int) + (((kst x.wishes.length u).2.count false : Nat) : Int) = ((wt + Uw77.waiting x.wishes u.2 : Nat) : Int) := by
            show ((wt : Nat) : Int) + (((bits x.wishes.length u.2).count false : Nat) : Int) = _
            rw [count_wait]
            omega
          refine set_both (k := ik (wt + Uw77.waiting x.wishes u.2)) bk11.dic (congrArg V.int ec) (by rw [sizeLine_eq]; omega) ?_
          intro v H12 hset
          generalize hcc : wt + Uw77.waiting x.wishes u.2 = cc at hset
          have facts : ∃ (lb : Addr) (asb : List Addr) (kv3 : List (Key × V)), v = .ref lb ∧ H12 lb = some (.lst (asb.map V.ref)) ∧ asb.length ≤ 1025 ∧ valV kv3 (ik cc) = some (.ref lb) ∧ BkK x.wishes.length H H12 db (fun e => if e = cc then some ((B' cc).getD []) else B' e) kv3 ∧ kv3.length ≤ 2 + S'.length ∧
              H12 ds = some (.dT (kT ++ [(kst x.wishes.length u, .bl true)])) ∧ Same H H12 ∧ H12 l = some (.lst (as.map V.ref)) ∧ Tups H10 H12 ∧ (∀ c, valV kv3 (ik c) ≠ some (.ref l)) := by
            rcases hset with ⟨hv, rfl⟩ | ⟨hv, rfl, rfl⟩
            · cases eb : B' cc with
              | none => rw [bk10.no cc eb] at hv; cases hv
              | some vs =>
                obtain ⟨lb, asb, h3, h4, h5⟩ := bk11.has cc vs eb
                rw [hv] at h3
                have e1 : v = .ref lb := Option.some.inj h3
                subst e1
                have eB : (fun e => if e = cc then some ((some vs).getD []) else B' e) = B' := by
                  funext e
                  by_cases z : e = cc
                  · rw [if_pos z, z, eb]; rfl
                  · rw [if_neg z]
                refine ⟨lb, asb, kvs', rfl, h4, ?_, hv, by rw [eB]; exact bk11, by omega, s11 _ _ hs10, sH10.trans s11, s11 _ _ hl10, s11.tups, nl9⟩
                rw [← Paired.length h5]
                have := lm9.len cc vs eb
                omega
            · have eb : B' cc = none := by
                cases e : B' cc with
                | none => rfl
                | some vs =>
                  obtain ⟨lb, asb, h3, _⟩ := bk10.has cc vs e
                  rw [hv] at h3; cases h3
              have n0 : H z = none := sH10.free hz
              have nz : ∀ c', valV kvs' (ik c') ≠ some (.ref z) := fun c' hc' => by
                cases e : B' c' with
                | none => rw [bk10.no c' e] at hc'; cases hc'
                | some vs =>
                  obtain ⟨lb, asb, h3, h4, _⟩ := bk10.has c' vs e
                  rw [hc'] at h3
                  have e1 : V.ref z = V.ref lb := Option.some.inj h3
                  injection e1 with e1
                  rw [← e1, hz] at h4
                  cases h4
              have bk12 := bk11.mk' eb upd_same n0 nz
              have nlz : l ≠ z := ne_of_none hl10 hz
              refine ⟨z, [], putK kvs' (ik cc) (.ref z), rfl, upd_keep upd_same bk11.dic (fun z => nomatch z), by decide, by rw [valV_put, if_pos rfl], by rw [eb]; exact bk12, ?_, upd_keep (s11 _ _ hs10) bk11.dic (fun z => nomatch z), fun b o e => ?_, upd_keep (s11 _ _ hl10) bk11.dic (fun z => nomatch z), s11.tups.trans (Tups.upd bk11.dic (fun xs z => nomatch z)), fun c hc => ?_⟩
              · have := length_putK kvs' (ik cc) (.ref z)
                omega
              · rw [upd_ne (ne_of_none e bk11.new)]
                exact s11 _ _ (sH10 _ _ e)
              · rw [valV_put] at hc
                split at hc
                · have e1 : V.ref z = V.ref l := Option.some.inj hc
                  injection e1 with e1
                  exact nlz e1.symm
                · exact nl9 c hc
          obtain ⟨lb, asb, kv3, rfl, hlb, hal, hvb, bk12, kl12, hs12, sH12, hl12, tp12, nl12⟩ := facts
          clear hset bk11 s11 hz
          have hkq12 := hkq10.keeps tp12
          have nlb : l ≠ lb := fun z => nl12 cc (by rw [hvb, z])
          have bEq : (if cc = cc then some ((B' cc).getD []) else B' cc) = some ((B' cc).getD []) := if_pos rfl
          -- to the right
          refine ⟨_, rfl, .inl ⟨rfl, _, SqL.of hlb⟩, _, rfl, _, rfl, a, q2, A, x, u, 0, rfl, hT.same sH12, hI, vu, hkq12, fun H13 q3 s13 hq3 => ?_⟩
          have bk13 := bk12.same s13
          have hlb13 := s13 _ _ hlb
          refine ⟨lb, _, _, rfl, rfl, hlb13, (by rw [List.length_map, sizeLine_eq]; omega), ?_⟩
          have bk14 := bk13.app bEq hvb hlb13 hq3
          have tp14 : Tups H13 (upd H13 lb (.lst (asb.map V.ref ++ [.ref q3]))) := Tups.upd hlb13 (fun xs z => nomatch z)
          have nlb0 := bk12.fr cc lb hvb
          have sH14 : Same H (upd H13 lb (.lst (asb.map V.ref ++ [.ref q3]))) := fun b o e => by rw [upd_ne (ne_of_none e nlb0)]; exact s13 _ _ (sH12 _ _ e)
          have hs14 : upd H13 lb (.lst (asb.map V.ref ++ [.ref q3])) ds = some (.dT (kT ++ [(kst x.wishes.length u, .bl true)])) := upd_keep (s13 _ _ hs12) hlb13 (fun z => nomatch z)
          have hl14 : upd H13 lb (.lst (asb.map V.ref ++ [.ref q3])) l = some (.lst (as.map V.ref)) := by rw [upd_ne nlb]; exact s13 _ _ hl12
          have hlb14 : upd H13 lb (.lst (asb.map V.ref ++ [.ref q3])) lb = some (.lst ((asb ++ [q3]).map V.ref)) := by rw [upd_same, List.map_append]; rfl
          generalize upd H13 lb (.lst (asb.map V.ref ++ [.ref q3])) = H14 at bk14 tp14 sH14 hs14 hl14 hlb14 ⊢
          -- to the left
          refine ⟨_, rfl, .inl ⟨rfl, _, SqL.of hlb14⟩, _, rfl, _, rfl, a, q2, A, x, u, 1, rfl, hT.same sH14, hI, vu, (hkq12.same s13).keeps tp14, fun H15 q4 s15 hq4 => ?_⟩
          have bk15 := bk14.same s15
          have hlb15 := s15 _ _ hlb14
          refine ⟨lb, _, _, rfl, rfl, hlb15, (by rw [List.length_map, List.length_append, sizeLine_eq]; show asb.length + 1 < _; omega), ?_⟩
          have bk16 := bk15.app (c := cc) (if_pos rfl) hvb hlb15 hq4
          have tp16 : Tups H15 (upd H15 lb (.lst ((asb ++ [q3]).map V.ref ++ [.ref q4]))) := Tups.upd hlb15 (fun xs z => nomatch z)
          have eB : (fun e => if e = cc then some ((B' cc).getD [] ++ [Uw77.after x.n x.wishes u 0] ++ [Uw77.after x.n x.wishes u 1]) else (fun e => if e = cc then some ((B' cc).getD [] ++ [Uw77.after x.n x.wishes u 0]) else (fun e => if e = cc then some ((B' cc).getD []) else B' e) e) e) = putH B' cc [Uw77.after x.n x.wishes u 0, Uw77.after x.n x.wishes u 1] := by
            funext e
            unfold putH
            by_cases z : e = cc
            · simp [z]
            · simp [z]
          rw [eB] at bk16
          have lg := lm9.grow o hI.n8 RK h2 cS
          rw [hcc] at lg
          refine ⟨_, S' ++ [u], kv3, _, _, rfl, fun b o e => ?_, bk16, by rw [List.length_append]; show _ ≤ 1 + (S'.length + 1); omega, ⟨_, upd_keep (s15 _ _ hs14) hlb15 (fun z => nomatch z), ?_⟩, lg, ?_, ((((tp9.trans tp10).trans tp12).trans (s13.tups.trans tp14)).trans s15.tups).trans tp16, nl12⟩
          · rw [upd_ne (ne_of_none e nlb0)]
            exact s15 _ _ (sH14 _ _ e)
          · rw [List.map_append, hkT, List.map_append]
            rfl
          · rw [upd_ne nlb]
            exact s15 _ _ hl14
      · rintro σ H9 ⟨B', S', kvs', v5, v6, rfl, sH9, bk9, kl9, hsn, lm9, _⟩
        rw [List.length_map, ← al] at lm9
        have lw9 := lm9.fin
        have := lw9.le
        exact ⟨_, rfl, _, _, rfl, rfl, ⟨om - (wt + 1), by omega, wt + 1, B', S', kvs', _, _, _, rfl, rfl, sH9, bk9, kl9, hsn, lw9⟩⟩
end
end Tt
set_option Elab.async false
set_option compiler.extract_closed false
set_option genSizeOf false
set_option linter.all false
set_option maxRecDepth 100000
set_option maxHeartbeats 2000000
namespace Tt
open PySem PySem.Spec PyProof.Rows L2
open Uw77 (Table Wish numberOf Call Stand)
open Ma
noncomputable abbrev sAOpe : Stmt := top 43
noncomputable abbrev sASoo : Stmt := top 44
noncomputable abbrev sAFew : Stmt := top 45
noncomputable abbrev sALea : Stmt := top 46
noncomputable abbrev sAFol : Stmt := top 47
theorem soon_val {n g d t : Nat} (hg : g < n) (hd : d < n) (ht : t < n) : ((g : Int) - d - t) % (n : Int) = ((((g + n - d % n) % n + n - t) % n : Nat) : Int) := by
  have hdn : d % n = d := Nat.mod_eq_of_lt hd
  have hm := Nat.mod_lt (g + n - d) (show 0 < n by omega)
  rw [hdn, Int.natCast_emod]
  have e1 : (((g + n - d) % n + n - t : Nat) : Int) = ((g + n - d : Nat) : Int) % n + ((n : Int) - t) := by
    rw [← Int.natCast_emod]
    omega
  rw [e1, Int.emod_add_emod, show ((g + n - d : Nat) : Int) + ((n : Int) - t) = ((g : Int) - d - t) + n * 2 by omega, Int.add_mul_emod_self_left]
section
variable {P : Program} {w : World} {K : PySem.W.Frag} {mg : Str → Option Value} {base : Heap}
noncomputable def spTill (C : Addr) : Sp := fun vs H Q _ => ∃ (a : Addr) (A : Ad) (x : Table) (i : Nat) (v : Wish), vs = [.ref a, .int (i : Nat)] ∧ TabAt C H a A x ∧ TInv x ∧ x.wishes[i]? = some v ∧
  Q (.int (min ((Uw77.meets x.n v + x.n - x.turn) % x.n) (x.n - (Uw77.meets x.n v + x.n - x.turn) % x.n) : Nat)) H
theorem scTill : FnScope ["self", "wish", "to_the_right"] ["self", "wish"] (defScope sTill) := ⟨rfl, rfl, rfl, by decide +kernel, rfl, by decide +kernel, by decide +kernel⟩
theorem ok_till {f C R : Addr} {fd : FuncData} (F : Fun K "steps_till_served" "Table.steps_till_served" sTill f fd) (T : Txt K mg C) (TP : TxtP K mg R) : FnOk P w K mg base CX0 1 f fd ["self", "wish"] (spTill C) := by
  refine F.ok scTill (fun vs H Q E h => ?_) (fun cdv A outer s H vs Q E hr h => ?_)
  · obtain ⟨a, A, x, i, v, rfl, _⟩ := h
    rfl
  · obtain ⟨a, A, x, i, v, rfl, hT, hI, hv, k⟩ := h
    have n2 := hI.n2
    have gd := hI.gd v (List.mem_of_getElem? hv)
    refine ⟨_, pss_cons (ps_set (i := 2) scTill.nd rfl (Or.inl rfl) (pe_op op_mod (pe_op op_sub (pe_op op_sub (pe_ix ix_list (pe_fld (pv 0) (by rfl)) (pv 1) (fun _ _ => rfl)) (pe_ix ix_list (pe_fld (pv 0) (by rfl)) (pv 1) (fun _ _ => rfl))) (pe_fld (pv 0) (by rfl))) (pe_fld (pv 0) (by rfl))))
      (pss_one (ps_ret (pe_callB (call_min2 rfl) (by rfl) TP.min boot_min (pa_cons (pv 2) (pa_cons (pe_op op_sub (pe_fld (pv 0) (by rfl)) (pv 2)) pa_nil))))), ?_⟩
    refine ⟨_, rfl, a, C, _, _, _, rfl, hT.obj, T.cl, T.nG, tf_g, _, rfl, _, _, _, _, rfl, rfl, SqL.of hT.gs, at_of (j := i) rfl (nums_get (map_wish (·.guest) hv)), _, rfl, a, C, _, _, _, rfl, hT.obj, T.cl, T.nD, tf_d, _, rfl, _, _, _, _, rfl, rfl, SqL.of hT.ds, at_of (j := i) rfl (nums_get (map_wish (·.dish) hv)), _, _, rfl, rfl,
      _, rfl, a, C, _, _, _, rfl, hT.obj, T.cl, T.nT, tf_t, _, _, rfl, rfl, _, rfl, a, C, _, _, _, rfl, hT.obj, T.cl, T.nP, tf_p, _, _, rfl, rfl, (by show (0 : Int) < x.n; omega), ?_⟩
    refine ⟨_, rfl, _, rfl, a, C, _, _, _, rfl, hT.obj, T.cl, T.nP, tf_p, _, rfl, _, _, rfl, rfl, _, _, rfl, ?_⟩
    show Q (V.int (if (x.n : Int) - ((v.guest : Int) - v.dish - x.turn) % x.n < ((v.guest : Int) - v.dish - x.turn) % x.n then (x.n : Int) - ((v.guest : Int) - v.dish - x.turn) % x.n else ((v.guest : Int) - v.dish - x.turn) % x.n)) H
    have em : Uw77.meets x.n v = (v.guest + x.n - v.dish % x.n) % x.n := rfl
    rw [soon_val gd.1 gd.2 hI.t, ← em]
    have lt := Nat.mod_lt (Uw77.meets x.n v + x.n - x.turn) (show 0 < x.n by omega)
    generalize (Uw77.meets x.n v + x.n - x.turn) % x.n = r at k lt ⊢
    have ev : (if (x.n : Int) - (r : Nat) < (r : Nat) then (x.n : Int) - (r : Nat) else (r : Nat)) = ((min r (x.n - r) : Nat) : Int) := by
      split <;> omega
    rw [ev]
    exact k
theorem scASoo : FnScope ["table", "wish"] ["table", "wish"] (defScope sASoo) := ⟨rfl, rfl, rfl, by decide +kernel, rfl, by decide +kernel, by decide +kernel⟩
theorem ok_asoo {f C fH fT : Addr} {fd fdH fdT : FuncData} (F : Fun K "answer_soon" "answer_soon" sASoo f fd) (T : Txt K mg C) (T2 : Txt2 mg)
    (GH : FnOk P w K mg base CX0 1 fH fdH ["self", "wish"] (spHas C)) (bH : Binds K fdH ["self", "wish"] []) (mH : Meth K C "has_wish" fH)
    (GT : FnOk P w K mg base CX0 1 fT fdT ["self", "wish"] (spTill C)) (bT : Binds K fdT ["self", "wish"] []) (mT : Meth K C "steps_till_served" fT) : FnOk P w K mg base CX0 2 f fd ["table", "wish"] (sp1 C .soon) := by
  refine F.ok scASoo (fun vs H Q E h => ?_) (fun cdv A outer s H vs Q E hr h => ?_)
  · obtain ⟨a, A, x, n, rfl, _⟩ := h
    rfl
  · obtain ⟨a, A, x, i, rfl, hT, hI, k⟩ := h
    obtain ⟨t1, g1⟩ := T2.no
    obtain ⟨t3, g3⟩ := T2.ful
    refine ⟨_, pss_cons (ps_if (pt_not (pt_val (pe_meth (pv 0) T.cl mH GH hr bH .nil pass0 (pa_cons (pv 1) pa_nil)))) (pss_one (ps_ret (pe_lst (pa_cons (pe_glob (v := .int (-2)) (by rfl) g1 ⟨_, rfl⟩) pa_nil)))) pss_nil)
      (pss_cons (ps_if (pt_val (pe_ix ix_list (pe_fld (pv 0) (by rfl)) (pv 1) (fun _ _ => rfl))) (pss_one (ps_ret (pe_lst (pa_cons (pe_glob (v := .int (-3)) (by rfl) g3 ⟨_, rfl⟩) pa_nil)))) pss_nil)
      (pss_one (ps_ret (pe_lst (pa_cons (pe_meth (pv 0) T.cl mT GT hr bT .nil pass0 (pa_cons (pv 1) pa_nil)) pa_nil))))), ?_⟩
    refine ⟨_, rfl, a, _, _, rfl, hT.obj, rfl, _, rfl, a, A, x, i, rfl, hT, _, rfl, ?_⟩
    by_cases h1 : x.wishes.length ≤ i
    · rw [dF (show ¬ i < x.wishes.length by omega)]
      have e : Uw77.step x (.soon i) = (x, [-2]) := by
        show (x, match x.wishes[i]? with | none => [-2] | some w => _) = _
        rw [List.getElem?_eq_none h1]
      rw [e] at k
      exact iteT ⟨(by show 1 ≤ sizeLine; decide), fun p hp => k.new hT (Same.refl H) hp⟩
    have hi : i < x.wishes.length := by omega
    have hv : x.wishes[i]? = some x.wishes[i] := List.getElem?_eq_getElem hi
    rw [dT hi]
    have e : Uw77.step x (.soon i) = (x, if x.done.contains i = true then [-3] else [((min ((Uw77.meets x.n x.wishes[i] + x.n - x.turn) % x.n) (x.n - (Uw77.meets x.n x.wishes[i] + x.n - x.turn) % x.n) : Nat) : Int)]) := by
      show (x, match x.wishes[i]? with | none => [-2] | some w => _) = _
      rw [hv]
    rw [e] at k
    refine iteF ⟨_, rfl, a, C, _, _, _, rfl, hT.obj, T.cl, T.nF, tf_f, _, rfl, _, _, _, _, rfl, rfl, SqL.of hT.fu, at_of (j := i) rfl (bits_get hi), _, rfl, ?_⟩
    have em : x.done.contains i = Uw77.isIn (numberOf x.done) i := by rw [hI.mem, dT hi, Bool.true_and]
    cases e4 : Uw77.isIn (numberOf x.done) i with
    | true =>
      rw [if_pos (em.trans e4)] at k
      exact iteT ⟨(by show 1 ≤ sizeLine; decide), fun p hp => k.new hT (Same.refl H) hp⟩
    | false =>
      rw [if_neg (by rw [em, e4]; exact Bool.false_ne_true)] at k
      exact iteF ⟨_, rfl, a, _, _, rfl, hT.obj, rfl, _, rfl, a, A, x, i, x.wishes[i], rfl, hT, hI, hv, (by show 1 ≤ sizeLine; decide), fun p hp => k.new hT (Same.refl H) hp⟩
theorem scAOpe : FnScope ["table", "free", "wish"] ["table"] (defScope sAOpe) := ⟨rfl, rfl, rfl, by decide +kernel, rfl, by decide +kernel, by decide +kernel⟩
theorem ok_aope {f C fU fR : Addr} {fd fdU fdR : FuncData} (F : Fun K "answer_open_wishes" "answer_open_wishes" sAOpe f fd) (T : Txt K mg C)
    (GU : FnOk P w K mg base CX0 1 fU fdU ["self"] (spUnf C)) (bU : Binds K fdU ["self"] []) (mU : Meth K C "unfulfilled" fU)
    (GR : FnOk P w K mg base CX0 1 fR fdR ["self", "wish", "fulfilled"] (spFree C)) (bR : Binds K fdR ["self", "wish", "fulfilled"] []) (mR : Meth K C "is_free" fR) : FnOk P w K mg base CX0 2 f fd ["table"] (sp0 C .open_) := by
  refine F.ok scAOpe (fun vs H Q E h => ?_) (fun cdv A outer s H vs Q E hr h => ?_)
  · obtain ⟨a, A, x, rfl, _⟩ := h
    rfl
  · obtain ⟨a, A, x, rfl, hT, hI, k⟩ := h
    refine ⟨_, pss_cons (ps_setLc (i := 1) (own := [("wish", 2)]) rfl scAOpe.nd rfl rfl (sw_true rfl rfl rfl rfl) (pi_list (pe_meth0 (pv 0) T.cl mU GU hr bU .nil pass0)) (blkOk_by (show blkC ["table", "free", "wish"] (defScope sAOpe) _ [("wish", 2)] = true by decide +kernel))
        (fun _ _ _ _ _ => pg_name (i := 2) scAOpe.nd rfl (Or.inl rfl)) (fun _ _ _ _ _ => pts_one (pt_val (pe_meth (pv 0) T.cl mR GR hr bR .nil pass0 (pa_cons (pv 2) (pa_cons (pe_fldK K rfl (pv 0) (by rfl)) pa_nil))))) (fun _ _ _ _ _ => pv 2))
      (pss_one (ps_ret (pe_op op_cat (pe_lst (pa_cons (pe_callB call_len_seq (by rfl) T.len PySem.boot_len (pa_cons (pv 1) pa_nil)) pa_nil)) (pv 1)))), ?_⟩
    have k6 := hI.k6
    have ul := undone_len x
    let pr : Nat → Bool := fun i => (x.wishes[i]?).any fun w => w.behind.all fun j => x.done.contains j
    have hpr : ∀ (j : Nat) (v : Wish), x.wishes[j]? = some v → pr j = v.behind.all (has (bits x.wishes.length (numberOf x.done))) := fun j v hv => by
      show (x.wishes[j]?).any _ = _
      rw [hv]
      show v.behind.all (fun j => x.done.contains j) = _
      rw [Bool.eq_iff_iff, List.all_eq_true, List.all_eq_true]
      have key : ∀ i ∈ v.behind, x.done.contains i = has (bits x.wishes.length (numberOf x.done)) i := fun i hi => by
        have hl : i < x.wishes.length := hI.ins j v hv i hi
        rw [has_bits hl, hI.mem, dT hl, Bool.true_and]
      exact ⟨fun q i hi => by rw [← key i hi]; exact q i hi, fun q i hi => by rw [key i hi]; exact q i hi⟩
    refine ⟨_, rfl, a, _, _, rfl, hT.obj, rfl, a, A, x, rfl, hT, hI, fun H1 p hp s1 h1 => ?_⟩
    refine ⟨p, rfl, ⟨_, SqL.of h1⟩, fun D hD => ?_⟩
    refine lc_list (K := K) (a := p) (xs := nums (Uw77.undone x)) (fun i H' => Same H1 H' ∧ H' D = some (.lst (nums (((Uw77.undone x).take i).filter pr)))) ⟨Same.upd_new (Same.refl H1) hD, upd_same⟩ (fun i H' _ hZ => have s3 := hZ.1; SqL.of (s3 _ _ h1)) ?_ ?_
    · rintro i y H3 hi ⟨s3, hD3⟩
      obtain ⟨j, hj, rfl⟩ := nums_some hi
      have T3 := hT.same (s1.trans s3)
      have jl : j < x.wishes.length := by
        have := List.mem_of_getElem? hj
        unfold Uw77.undone at this
        exact List.mem_range.mp (List.mem_filter.mp this).1
      have hv : x.wishes[j]? = some x.wishes[j] := List.getElem?_eq_getElem jl
      refine ⟨rfl, _, rfl, a, _, _, rfl, T3.obj, rfl, _, rfl, _, rfl, a, C, _, _, _, rfl, T3.obj, T.cl, T.nF, tf_f, a, A, x, j, x.wishes[j], A.f, _, rfl, T3, hI, hv, T3.fu, bits_len _ _, fun H4 s4 => ⟨_, rfl, ?_⟩⟩
      rw [filter_take_snoc hj, ← hpr j _ hv]
      cases e : pr j with
      | false =>
        refine iteF ⟨s3.trans s4, ?_⟩
        rw [s4 _ _ hD3]
        simp
      | true =>
        refine iteT ⟨_, rfl, _, s4 _ _ hD3, ?_, Same.upd_new (s3.trans s4) hD, ?_⟩
        · rw [nums_len]
          refine Nat.lt_of_le_of_lt (List.length_filter_le _ _) ?_
          rw [List.length_take]
          exact small1000 (by omega)
        · rw [upd_same, nums_app]
          rfl
    · rintro H3 ⟨s3, hD3⟩
      rw [nums_len, List.take_length] at hD3
      have fl : ((Uw77.undone x).filter pr).length ≤ 6 := Nat.le_trans (List.length_filter_le _ _) (by omega)
      refine ⟨_, rfl, _, _, rfl, .inl (SqL.of hD3), (by show 1 ≤ sizeLine; decide), fun q hq => ?_⟩
      refine ⟨_, rfl, q, D, _, _, rfl, rfl, upd_same, (by rw [upd_ne (ne_of_none hD3 hq)]; exact hD3), (by rw [nums_len]; show 1 + _ ≤ sizeLine; exact Nat.le_of_lt (small1000 (by omega))), fun z hz => ?_⟩
      have s2 : Same H (upd H3 q (.lst [V.int ((nums ((Uw77.undone x).filter pr)).length : Nat)])) := fun b o e => by
        have e3 := s3 _ _ (s1 _ _ e)
        rw [upd_ne (ne_of_none e3 hq)]
        exact e3
      have e := k.new hT s2 hz
      have e2 : ([V.int ((nums ((Uw77.undone x).filter pr)).length : Nat)] ++ nums ((Uw77.undone x).filter pr)) = (Uw77.counted ((Uw77.undone x).filter pr)).map V.int := by
        rw [nums_len, nums_ints]
        rfl
      rw [e2]
      exact e
theorem few_eq {x : Table} (hI : TInv x) : Uw77.fewest x = (dist x.n x.wishes (Uw77.standOf x), cnt x.n x.wishes (dist x.n x.wishes (Uw77.standOf x)) (Uw77.standOf x), thePlan x.n x.wishes (Uw77.standOf x)) ∧ (thePlan x.n x.wishes (Uw77.standOf x)).length = dist x.n x.wishes (Uw77.standOf x) ∧ dist x.n x.wishes (Uw77.standOf x) ≤ 48 := by
  have o := ok_of hI
  have v0 : Va x.n x.wishes (Uw77.standOf x) := ⟨hI.t, hI.lt⟩
  obtain ⟨rk, RK⟩ := hI.rank
  exact ⟨fewest_eq o hI.n8 RK v0, thePlan_len o hI.n8 RK _ _ v0 rfl, dist_le o hI.n8 RK v0⟩
theorem scAFew : FnScope ["table", "plans"] ["table"] (defScope sAFew) := ⟨rfl, rfl, rfl, by decide +kernel, rfl, by decide +kernel, by decide +kernel⟩
theorem ok_afew {f C R fF : Addr} {fd fdF : FuncData} (F : Fun K "answer_fewest" "answer_fewest" sAFew f fd) (T : Txt K mg C) (TP : TxtP K mg R)
    (GF : FnOk P w K mg base CX0 6 fF fdF ["table"] (spFew C R)) (bF : Binds K fdF ["table"] []) (mF : mg "fewest_steps" = some (.ref fF)) (kF : PySem.W.keepIn K (.ref fF) = true) : FnOk P w K mg base CX0 7 f fd ["table"] (sp0 C .fewest) := by
  refine F.ok scAFew (fun vs H Q E h => ?_) (fun cdv A outer s H vs Q E hr h => ?_)
  · obtain ⟨a, A, x, rfl, _⟩ := h
    rfl
  · obtain ⟨a, A, x, rfl, hT, hI, k⟩ := h
    obtain ⟨e1, e2, e3⟩ := few_eq hI
    refine ⟨_, pss_cons (ps_set (i := 1) scAFew.nd rfl (Or.inl rfl) (pe_call GF hr (by rfl) mF kF bF .nil pass0 (pa_cons (pv 0) pa_nil)))
      (pss_one (ps_ret (pe_op op_cat (pe_lst (pa_cons (pe_callB call_len_seq (by rfl) T.len PySem.boot_len (pa_cons (pe_fld (pv 1) (by rfl)) pa_nil)) (pa_cons (pe_fld (pv 1) (by rfl)) pa_nil))) (pe_fld (pv 1) (by rfl))))), ?_⟩
    have k : Post C H a A (x, Uw77.ints ((Uw77.fewest x).1 :: (Uw77.fewest x).2.1 :: (Uw77.fewest x).2.2)) Q := k
    rw [e1] at k
    refine ⟨_, rfl, a, A, x, rfl, hT, hI, fun H1 r s1 hZ => ?_⟩
    obtain ⟨dx, l, hr1, hl1⟩ := hZ
    generalize hp : thePlan x.n x.wishes (Uw77.standOf x) = pl at k e2 hl1
    have hl1 : H1 l = some (.lst (nums pl)) := hl1
    have hr1 : H1 r = some (.ins R dx (rf (cnt x.n x.wishes (dist x.n x.wishes (Uw77.standOf x)) (Uw77.standOf x)) l)) := hr1
    generalize cnt x.n x.wishes (dist x.n x.wishes (Uw77.standOf x)) (Uw77.standOf x) = ct at k hr1
    refine ⟨_, rfl, r, R, dx, _, _, rfl, hr1, TP.cl, TP.nF, rf_f, _, _, rfl, .inl (SqL.of hl1), _, rfl, r, R, dx, _, _, rfl, hr1, TP.cl, TP.nM, rf_m, (by show 2 ≤ sizeLine; decide), fun q hq => ?_⟩
    have hrq := ne_of_none hr1 hq
    have hlq := ne_of_none hl1 hq
    refine ⟨_, rfl, r, R, dx, _, _, rfl, (by rw [upd_ne hrq]; exact hr1), TP.cl, TP.nF, rf_f, q, l, _, _, rfl, rfl, upd_same, (by rw [upd_ne hlq]; exact hl1), (by rw [nums_len]; show 2 + _ ≤ sizeLine; exact Nat.le_of_lt (small1000 (by omega))), fun z hz => ?_⟩
    have s2 : Same H (upd H1 q (.lst [V.int ((nums pl).length : Nat), V.int (ct : Nat)])) := fun b o e => by rw [upd_ne (ne_of_none (s1 _ _ e) hq)]; exact s1 _ _ e
    have e := k.new hT s2 hz
    have e4 : ([V.int ((nums pl).length : Nat), V.int (ct : Nat)] ++ nums pl) = (Uw77.ints (dist x.n x.wishes (Uw77.standOf x) :: ct :: pl)).map V.int := by
      rw [nums_len, nums_ints, e2]
      rfl
    rw [e4]
    exact e
theorem scALea : FnScope ["table"] ["table"] (defScope sALea) := ⟨rfl, rfl, rfl, by decide +kernel, rfl, by decide +kernel, by decide +kernel⟩
theorem ok_alea {f C fL : Addr} {fd fdL : FuncData} (F : Fun K "answer_least" "answer_least" sALea f fd)
    (GL : FnOk P w K mg base CX0 4 fL fdL ["table"] (spLea C)) (bL : Binds K fdL ["table"] []) (mL : mg "least_waiting" = some (.ref fL)) (kL : PySem.W.keepIn K (.ref fL) = true) : FnOk P w K mg base CX0 5 f fd ["table"] (sp0 C .least) := by
  refine F.ok scALea (fun vs H Q E h => ?_) (fun cdv A outer s H vs Q E hr h => ?_)
  · obtain ⟨a, A, x, rfl, _⟩ := h
    rfl
  · obtain ⟨a, A, x, rfl, hT, hI, k⟩ := h
    refine ⟨_, pss_one (ps_ret (pe_lst (pa_cons (pe_call GL hr (by rfl) mL kL bL .nil pass0 (pa_cons (pv 0) pa_nil)) pa_nil))), ?_⟩
    have k : Post C H a A (x, [(Uw77.least x : Int)]) Q := k
    rw [least_val (ok_of hI) ⟨hI.t, hI.lt⟩] at k
    exact ⟨_, rfl, a, A, x, rfl, hT, hI, fun H1 s1 => ⟨(by show 1 ≤ sizeLine; decide), fun p hp => k.new hT s1 hp⟩⟩
theorem cut_to (xs : List V) (n : Nat) : cutV xs none (some (n : Int)) = xs.take n := by
  unfold cutV
  rw [HT.sIx_none, HT.sIx_nat, List.drop_zero, Nat.sub_zero]
  rcases Nat.le_total n xs.length with h | h
  · rw [Nat.min_eq_left h]
  · rw [Nat.min_eq_right h, List.take_of_length_le (Nat.le_refl _), List.take_of_length_le h]
theorem scAFol : FnScope ["table", "most", "steps", "way"] ["table", "most"] (defScope sAFol) := ⟨rfl, rfl, rfl, by decide +kernel, rfl, by decide +kernel, by decide +kernel⟩
theorem ok_afol {f C R fF fM fU : Addr} {fd fdF fdM fdU : FuncData} (F : Fun K "answer_follow" "answer_follow" sAFol f fd) (T : Txt K mg C) (T2 : Txt2 mg) (TP : TxtP K mg R) (m100 : ∃ t, mg "MOST_FOLLOWED" = some (.int 100 t))
    (GF : FnOk P w K mg base CX0 6 fF fdF ["table"] (spFew C R)) (bF : Binds K fdF ["table"] []) (mF : mg "fewest_steps" = some (.ref fF)) (kF : PySem.W.keepIn K (.ref fF) = true)
    (GM : FnOk P w K mg base CX0 3 fM fdM ["self", "way"] (spMake C)) (bM : Binds K fdM ["self", "way"] []) (mM : Meth K C "make_step" fM)
    (GU : FnOk P w K mg base CX0 1 fU fdU ["self"] (spUnf C)) (bU : Binds K fdU ["self"] []) (mU : Meth K C "unfulfilled" fU) : FnOk P w K mg base CX0 7 f fd ["table", "most"] (sp1 C .follow) := by
  refine F.ok scAFol (fun vs H Q E h => ?_) (fun cdv A outer s H vs Q E hr h => ?_)
  · obtain ⟨a, A, x, n, rfl, _⟩ := h
    rfl
  · obtain ⟨a, A, x, n, rfl, hT, hI, k⟩ := h
    obtain ⟨t1, g1⟩ := m100
    obtain ⟨t3, g3⟩ := T2.out
    obtain ⟨e1, e2, e3⟩ := few_eq hI
    have hr3 : Room 3 _ := hr.mono (by decide)
    have hr1 : Room 1 _ := hr.mono (by decide)
    refine ⟨_, pss_cons (ps_if (pt_cmpR op_gt (pv 1) (pe_glob (v := .int 100) (by rfl) g1 ⟨_, rfl⟩) (nomark _)) (pss_one (ps_ret (pe_lst (pa_cons (pe_glob (v := .int (-1)) (by rfl) g3 ⟨_, rfl⟩) pa_nil)))) pss_nil)
      (pss_cons (ps_set (i := 2) scAFol.nd rfl (Or.inl rfl) (pe_slice sl_list (pe_fld (pe_call GF hr (by rfl) mF kF bF .nil pass0 (pa_cons (pv 0) pa_nil)) (by rfl)) po_none (po_some (pv 1))))
      (pss_cons (ps_for PassesOwn.never rfl (pi_list (pv 2)) (pg_name (i := 3) scAFol.nd rfl (Or.inl rfl)) (pss_one (ps_expr (pe_meth (pv 0) T.cl mM GM hr3 bM .nil pass0 (pa_cons (pv 3) pa_nil)))))
      (pss_one (ps_ret (pe_lst (pa_cons (pe_callB call_len_seq (by rfl) T.len PySem.boot_len (pa_cons (pv 2) pa_nil)) (pa_cons (pe_callB call_len_seq (by rfl) T.len PySem.boot_len (pa_cons (pe_meth0 (pv 0) T.cl mU GU hr1 bU .nil pass0) pa_nil)) pa_nil))))))), ?_⟩
    rw [st_follow, e1] at k
    refine ⟨_, rfl, _, _, rfl, rfl, _, rfl, ?_⟩
    by_cases h1 : 100 < n
    · rw [dT (show ((n : Nat) : Int) > 100 by omega)]
      rw [if_pos h1] at k
      exact iteT ⟨(by show 1 ≤ sizeLine; decide), fun p hp => k.new hT (Same.refl H) hp⟩
    rw [dF (show ¬ ((n : Nat) : Int) > 100 by omega)]
    rw [if_neg h1] at k
    refine iteF ⟨_, rfl, a, A, x, rfl, hT, hI, fun H1 r s1 hZ => ?_⟩
    obtain ⟨dx, l, hr1', hl1⟩ := hZ
    refine ⟨r, R, dx, _, _, rfl, hr1', TP.cl, TP.nF, rf_f, _, rfl, _, rfl, l, _, rfl, SqL.of hl1, fun st hst => ?_⟩
    have k : Post C H a A (((thePlan x.n x.wishes (Uw77.standOf x)).take n).foldl Uw77.stepped x, Uw77.ints [((thePlan x.n x.wishes (Uw77.standOf x)).take n).length, (Uw77.undone (((thePlan x.n x.wishes (Uw77.standOf x)).take n).foldl Uw77.stepped x)).length]) Q := k
    rw [cut_to, show (nums (thePlan x.n x.wishes (Uw77.standOf x))).take n = nums ((thePlan x.n x.wishes (Uw77.standOf x)).take n) from List.map_take.symm]
    generalize (thePlan x.n x.wishes (Uw77.standOf x)).take n = p at k ⊢
    have s2 : Same H (upd H1 st (.lst (nums p))) := fun b o e => by rw [upd_ne (ne_of_none (s1 _ _ e) hst)]; exact s1 _ _ e
    have hst2 : upd H1 st (.lst (nums p)) st = some (.lst (nums p)) := upd_same
    have nst : H st = none := s1.free hst
    generalize upd H1 st (.lst (nums p)) = H2 at s2 hst2 ⊢
    have T2' := hT.same s2
    have nsta : st ≠ a := ne_of hst2 T2'.obj (fun z => nomatch z)
    have nstA : st ∉ A.all := fun hm => by
      obtain ⟨xs, q⟩ := hT.there st hm
      rw [nst] at q
      cases q
    refine ⟨_, rfl, st, rfl, ⟨_, SqL.of hst2⟩, ?_⟩
    refine for_list (K := K) (a := st) (xs := nums p) (fun i σ H' => ∃ (v3 : Option V) (A' : Ad), σ = [some (.ref a), some (.int (n : Nat)), some (.ref st), v3] ∧ TabAt C H' a A' ((p.take i).foldl Uw77.stepped x) ∧ (∀ b o, H2 b = some o → b ≠ a → H' b = some o) ∧ (∀ b ∈ A'.all, b ∈ A.all ∨ H2 b = none))
      ⟨_, A, rfl, T2', fun b o e _ => e, fun b hb => .inl hb⟩ (fun i σ H' _ hZ => by obtain ⟨_, _, _, _, q, _⟩ := hZ; exact SqL.of (q _ _ hst2 nsta)) ?_ ?_
    · rintro i y σ H' hi ⟨v3, A', rfl, hT', kp, fr⟩
      obtain ⟨j, hj, rfl⟩ := nums_some hi
      have hI' := stepped_all_inv (p.take i) hI
      refine ⟨_, rfl, a, _, _, rfl, hT'.obj, rfl, _, rfl, a, A', _, j, rfl, hT', hI', fun H3 A3 T3 kp3 fr3 => ?_⟩
      refine ⟨_, A3, rfl, ?_, fun b o e nb => kp3 _ _ (kp b o e nb) nb, fun b hb => ?_⟩
      · rw [take_snoc' hj, List.foldl_append]
        exact T3
      · rcases fr3 b hb with m | m
        · exact fr b m
        · refine .inr ?_
          cases e : H2 b with
          | none => rfl
          | some o =>
            by_cases c : b = a
            · rw [c, hT'.obj] at m; cases m
            · rw [kp b o e c] at m; cases m
    · rintro σ H' ⟨v3, A', rfl, hT', kp, fr⟩
      rw [nums_len, List.take_length] at hT'
      have hI' := stepped_all_inv p hI
      have hst' := kp _ _ hst2 nsta
      refine ⟨_, rfl, _, _, rfl, .inl (SqL.of hst'), _, rfl, a, _, _, rfl, hT'.obj, rfl, a, A', _, rfl, hT', hI', fun H3 u hu s3 h3 => ?_⟩
      refine ⟨u, _, rfl, .inl (SqL.of h3), (by show 2 ≤ sizeLine; decide), fun z hz => ?_⟩
      have s4 : Same H' (upd H3 z (.lst [V.int ((nums p).length : Nat), V.int ((nums (Uw77.undone (p.foldl Uw77.stepped x))).length : Nat)])) := fun b o e => by rw [upd_ne (ne_of_none (s3 _ _ e) hz)]; exact s3 _ _ e
      have g2 : ∀ b, H' b = none → H b = none := fun b hb => by
        refine s2.free ?_
        cases y : H2 b with
        | none => rfl
        | some o =>
          by_cases c : b = a
          · rw [c, hT'.obj] at hb; cases hb
          · rw [kp b o y c] at hb; cases hb
      refine k _ A' z (hT'.same s4) (fun b o e hb _ => s4 _ _ (kp b o (s2 _ _ e) hb)) (fun b hb => (fr b hb).imp_right s2.free) (g2 z (s3.free hz)) ?_
      rw [upd_same, nums_len, nums_len]
      rfl
end
end Tt
set_option Elab.async false
set_option compiler.extract_closed false
set_option genSizeOf false
set_option linter.all false
set_option maxRecDepth 100000
set_option maxHeartbeats 2000000
namespace Tt
open PySem PySem.Spec PyProof.Rows L2
open PySem.W (Codec)
open Uw77 (Table Wish numberOf Call)
open Ma
structure Txt3 (K : PySem.W.Frag) (mg : Str → Option Value) : Prop where
  tab : ∃ t, mg "TABLE" = some (.int 0 t)
  wis : ∃ t, mg "WISH" = some (.int 1 t)
  beh : ∃ t, mg "BEHIND" = some (.int 2 t)
  stp : ∃ t, mg "STEP" = some (.int 3 t)
  sta : ∃ t, mg "STANDS" = some (.int 4 t)
  ope : ∃ t, mg "OPEN_WISHES" = some (.int 5 t)
  soo : ∃ t, mg "SOON" = some (.int 6 t)
  few : ∃ t, mg "FEWEST" = some (.int 7 t)
  lea : ∃ t, mg "LEAST" = some (.int 8 t)
section
variable {P : Program} {w : World} {K : PySem.W.Frag} {mg : Str → Option Value} {base : Heap}
noncomputable def inRange (ys : List Int) : Prop := ∀ y ∈ ys, 0 ≤ y ∧ y ≤ 4294967295
noncomputable def spAns (C : Addr) (lim : Int) : Sp := fun vs H Q _ => ∃ (a q : Addr) (A : Ad) (x : Table) (p : Int) (ys : List Int), vs = [.ref a, .int p, .ref q] ∧ TabAt C H a A x ∧ TInv x ∧ 0 ≤ p ∧ p ≤ lim ∧ ys.length = arity p ∧ inRange ys ∧ H q = some (.lst (ys.map V.int)) ∧ Post C H a A (Uw77Neutral.step x (p :: ys)) Q
theorem scAns : FnScope ["table", "number", "given"] ["table", "number", "given"] (defScope sAns) := ⟨rfl, rfl, rfl, by decide +kernel, rfl, by decide +kernel, by decide +kernel⟩
theorem nat_of {y : Int} (h : 0 ≤ y) : y = ((y.toNat : Nat) : Int) := (Int.toNat_of_nonneg h).symm
theorem int_ne {a b : Int} (h : ¬ a = b) : decide (V.int a = V.int b) = false := by
  rw [dec_int]
  exact beq_eq_false_iff_ne.mpr h
theorem int_eq {a : Int} : decide (V.int a = V.int a) = true := by
  rw [dec_int]
  exact beq_self_eq_true a
theorem range_cons {p y : Int} {ys : List Int} (hp : 0 ≤ p) (hp9 : p ≤ 9) (h : inRange ys) : ∀ z ∈ p :: ys, 0 ≤ z ∧ z ≤ 4294967295 := fun z hz => by
  rcases List.mem_cons.mp hz with e | e
  · rw [e]; exact ⟨hp, by omega⟩
  · exact h z e
theorem len0I {ys : List Int} (h : ys.length = 0) : ys = [] := List.length_eq_zero_iff.mp h
theorem len1I {ys : List Int} (h : ys.length = 1) : ∃ y, ys = [y] := List.length_eq_one_iff.mp h
theorem len2I : ∀ {ys : List Int}, ys.length = 2 → ∃ y z, ys = [y, z]
  | [y, z], _ => ⟨y, z, rfl⟩
theorem ten {p : Int} (h0 : 0 ≤ p) (h9 : p ≤ 9) : p = 0 ∨ p = 1 ∨ p = 2 ∨ p = 3 ∨ p = 4 ∨ p = 5 ∨ p = 6 ∨ p = 7 ∨ p = 8 ∨ p = 9 := by
  have key : ∀ n, n < 10 → n = 0 ∨ n = 1 ∨ n = 2 ∨ n = 3 ∨ n = 4 ∨ n = 5 ∨ n = 6 ∨ n = 7 ∨ n = 8 ∨ n = 9 := by decide
  obtain ⟨n, rfl⟩ := Int.eq_ofNat_of_zero_le h0
  rcases key n (Nat.lt_succ_of_le (Int.ofNat_le.mp h9)) with rfl | rfl | rfl | rfl | rfl | rfl | rfl | rfl | rfl | rfl <;> simp
theorem iteNe {a b : Int} {A B : Prop} (h : ¬ a = b) (x : B) : if decide (V.int a = V.int b) = true then A else B := by rw [int_ne h]; exact iteF x
theorem iteEq {a : Int} {A B : Prop} (x : A) : if decide (V.int a = V.int a) = true then A else B := by rw [int_eq]; exact iteT x
theorem ok_ans {f C f1 f2 f3 f4 f5 f6 f7 f8 f9 f10 : Addr} {fd fd1 fd2 fd3 fd4 fd5 fd6 fd7 fd8 fd9 fd10 : FuncData} (F : Fun K "answer" "answer" sAns f fd) (T3 : Txt3 K mg)
    (G1 : FnOk P w K mg base CX0 2 f1 fd1 ["table", "places"] (sp1 C .table)) (b1 : Binds K fd1 ["table", "places"] []) (m1 : mg "answer_table" = some (.ref f1)) (k1 : PySem.W.keepIn K (.ref f1) = true)
    (G2 : FnOk P w K mg base CX0 4 f2 fd2 ["table", "guest", "dish"] (sp2 C .wish)) (b2 : Binds K fd2 ["table", "guest", "dish"] []) (m2 : mg "answer_wish" = some (.ref f2)) (k2 : PySem.W.keepIn K (.ref f2) = true)
    (G3 : FnOk P w K mg base CX0 8 f3 fd3 ["table", "one", "other"] (sp2 C .behind)) (b3 : Binds K fd3 ["table", "one", "other"] []) (m3 : mg "answer_behind" = some (.ref f3)) (k3 : PySem.W.keepIn K (.ref f3) = true)
    (G4 : FnOk P w K mg base CX0 4 f4 fd4 ["table", "way"] (sp1 C .step)) (b4 : Binds K fd4 ["table", "way"] []) (m4 : mg "answer_step" = some (.ref f4)) (k4 : PySem.W.keepIn K (.ref f4) = true)
    (G5 : FnOk P w K mg base CX0 2 f5 fd5 ["table"] (sp0 C .stands)) (b5 : Binds K fd5 ["table"] []) (m5 : mg "answer_stands" = some (.ref f5)) (k5 : PySem.W.keepIn K (.ref f5) = true)
    (G6 : FnOk P w K mg base CX0 2 f6 fd6 ["table"] (sp0 C .open_)) (b6 : Binds K fd6 ["table"] []) (m6 : mg "answer_open_wishes" = some (.ref f6)) (k6 : PySem.W.keepIn K (.ref f6) = true)
    (G7 : FnOk P w K mg base CX0 2 f7 fd7 ["table", "wish"] (sp1 C .soon)) (b7 : Binds K fd7 ["table", "wish"] []) (m7 : mg "answer_soon" = some (.ref f7)) (k7 : PySem.W.keepIn K (.ref f7) = true)
    (G8 : FnOk P w K mg base CX0 7 f8 fd8 ["table"] (sp0 C .fewest)) (b8 : Binds K fd8 ["table"] []) (m8 : mg "answer_fewest" = some (.ref f8)) (k8 : PySem.W.keepIn K (.ref f8) = true)
    (G9 : FnOk P w K mg base CX0 5 f9 fd9 ["table"] (sp0 C .least)) (b9 : Binds K fd9 ["table"] []) (m9 : mg "answer_least" = some (.ref f9)) (k9 : PySem.W.keepIn K (.ref f9) = true)
    (G10 : FnOk P w K mg base CX0 7 f10 fd10 ["table", "most"] (sp1 C .follow)) (b10 : Binds K fd10 ["table", "most"] []) (m10 : mg "answer_follow" = some (.ref f10)) (k10 : PySem.W.keepIn K (.ref f10) = true) : FnOk P w K mg base CX0 9 f fd ["table", "number", "given"] (spAns C 9) := by
  refine F.ok scAns (fun vs H Q E h => ?_) (fun cdv A outer s H vs Q E hr h => ?_)
  · obtain ⟨a, q, A, x, p, ys, rfl, _⟩ := h
    rfl
  · obtain ⟨a, q, A, x, p, ys, rfl, hT, hI, h0, h4, hl, hy, hq, k⟩ := h
    obtain ⟨t1, g1⟩ := T3.tab
    obtain ⟨t2, g2⟩ := T3.wis
    obtain ⟨t3, g3⟩ := T3.beh
    obtain ⟨t4, g4⟩ := T3.stp
    obtain ⟨t5, g5⟩ := T3.sta
    obtain ⟨t6, g6⟩ := T3.ope
    obtain ⟨t7, g7⟩ := T3.soo
    obtain ⟨t8, g8⟩ := T3.few
    obtain ⟨t9, g9⟩ := T3.lea
    have hr2 : Room 2 _ := hr.mono (by decide)
    have hr4 : Room 4 _ := hr.mono (by decide)
    have hr5 : Room 5 _ := hr.mono (by decide)
    have hr7 : Room 7 _ := hr.mono (by decide)
    have hr8 : Room 8 _ := hr.mono (by decide)
    refine ⟨_, pss_cons (ps_if (pt_cmpR op_eq (pv 1) (pe_glob (v := .int 0) (by rfl) g1 ⟨_, rfl⟩) (nomark _)) (pss_one (ps_ret (pe_call G1 hr2 (by rfl) m1 k1 b1 .nil pass0 (pa_cons (pv 0) (pa_cons (pe_ix ix_list (pv 2) pe_int (fun _ _ => rfl)) pa_nil))))) pss_nil)
      (pss_cons (ps_if (pt_cmpR op_eq (pv 1) (pe_glob (v := .int 1) (by rfl) g2 ⟨_, rfl⟩) (nomark _)) (pss_one (ps_ret (pe_call G2 hr4 (by rfl) m2 k2 b2 .nil pass0 (pa_cons (pv 0) (pa_cons (pe_ix ix_list (pv 2) pe_int (fun _ _ => rfl)) (pa_cons (pe_ix ix_list (pv 2) pe_int (fun _ _ => rfl)) pa_nil)))))) pss_nil)
      (pss_cons (ps_if (pt_cmpR op_eq (pv 1) (pe_glob (v := .int 2) (by rfl) g3 ⟨_, rfl⟩) (nomark _)) (pss_one (ps_ret (pe_call G3 hr8 (by rfl) m3 k3 b3 .nil pass0 (pa_cons (pv 0) (pa_cons (pe_ix ix_list (pv 2) pe_int (fun _ _ => rfl)) (pa_cons (pe_ix ix_list (pv 2) pe_int (fun _ _ => rfl)) pa_nil)))))) pss_nil)
      (pss_cons (ps_if (pt_cmpR op_eq (pv 1) (pe_glob (v := .int 3) (by rfl) g4 ⟨_, rfl⟩) (nomark _)) (pss_one (ps_ret (pe_call G4 hr4 (by rfl) m4 k4 b4 .nil pass0 (pa_cons (pv 0) (pa_cons (pe_ix ix_list (pv 2) pe_int (fun _ _ => rfl)) pa_nil))))) pss_nil)
      (pss_cons (ps_if (pt_cmpR op_eq (pv 1) (pe_glob (v := .int 4) (by rfl) g5 ⟨_, rfl⟩) (nomark _)) (pss_one (ps_ret (pe_call G5 hr2 (by rfl) m5 k5 b5 .nil pass0 (pa_cons (pv 0) pa_nil)))) pss_nil)
      (pss_cons (ps_if (pt_cmpR op_eq (pv 1) (pe_glob (v := .int 5) (by rfl) g6 ⟨_, rfl⟩) (nomark _)) (pss_one (ps_ret (pe_call G6 hr2 (by rfl) m6 k6 b6 .nil pass0 (pa_cons (pv 0) pa_nil)))) pss_nil)
      (pss_cons (ps_if (pt_cmpR op_eq (pv 1) (pe_glob (v := .int 6) (by rfl) g7 ⟨_, rfl⟩) (nomark _)) (pss_one (ps_ret (pe_call G7 hr2 (by rfl) m7 k7 b7 .nil pass0 (pa_cons (pv 0) (pa_cons (pe_ix ix_list (pv 2) pe_int (fun _ _ => rfl)) pa_nil))))) pss_nil)
      (pss_cons (ps_if (pt_cmpR op_eq (pv 1) (pe_glob (v := .int 7) (by rfl) g8 ⟨_, rfl⟩) (nomark _)) (pss_one (ps_ret (pe_call G8 hr7 (by rfl) m8 k8 b8 .nil pass0 (pa_cons (pv 0) pa_nil)))) pss_nil)
      (pss_cons (ps_if (pt_cmpR op_eq (pv 1) (pe_glob (v := .int 8) (by rfl) g9 ⟨_, rfl⟩) (nomark _)) (pss_one (ps_ret (pe_call G9 hr5 (by rfl) m9 k9 b9 .nil pass0 (pa_cons (pv 0) pa_nil)))) pss_nil)
      (pss_one (ps_ret (pe_call G10 hr7 (by rfl) m10 k10 b10 .nil pass0 (pa_cons (pv 0) (pa_cons (pe_ix ix_list (pv 2) pe_int (fun _ _ => rfl)) pa_nil))))))))))))), ?_⟩
    refine ⟨_, rfl, rfl, _, rfl, ?_⟩
    rcases ten h0 h4 with rfl | rfl | rfl | rfl | rfl | rfl | rfl | rfl | rfl | rfl
    · obtain ⟨y, rfl⟩ := len1I hl
      have e0 := nat_of (hy y (by simp)).1
      rw [e0] at hq k
      rw [step_of (k := .table y.toNat) (range_cons (y := y) (by decide) (by decide) (by rw [← e0]; exact hy)) rfl] at k
      exact iteEq ⟨_, rfl, _, rfl, _, _, _, _, rfl, rfl, SqL.of hq, rfl, a, A, x, y.toNat, rfl, hT, hI, k⟩
    · obtain ⟨y, z, rfl⟩ := len2I hl
      have e0 := nat_of (hy y (by simp)).1
      have e1 := nat_of (hy z (by simp)).1
      rw [e0, e1] at hq k
      rw [step_of (k := .wish y.toNat z.toNat) (range_cons (y := y) (by decide) (by decide) (by rw [← e0, ← e1]; exact hy)) rfl] at k
      refine iteNe (by decide) ⟨_, rfl, rfl, _, rfl, ?_⟩
      exact iteEq ⟨_, rfl, _, rfl, _, _, _, _, rfl, rfl, SqL.of hq, rfl, _, rfl, _, _, _, _, rfl, rfl, SqL.of hq, rfl, a, A, x, y.toNat, z.toNat, rfl, hT, hI, k⟩
    · obtain ⟨y, z, rfl⟩ := len2I hl
      have e0 := nat_of (hy y (by simp)).1
      have e1 := nat_of (hy z (by simp)).1
      rw [e0, e1] at hq k
      rw [step_of (k := .behind y.toNat z.toNat) (range_cons (y := y) (by decide) (by decide) (by rw [← e0, ← e1]; exact hy)) rfl] at k
      refine iteNe (by decide) ⟨_, rfl, rfl, _, rfl, ?_⟩
      refine iteNe (by decide) ⟨_, rfl, rfl, _, rfl, ?_⟩
      exact iteEq ⟨_, rfl, _, rfl, _, _, _, _, rfl, rfl, SqL.of hq, rfl, _, rfl, _, _, _, _, rfl, rfl, SqL.of hq, rfl, a, A, x, y.toNat, z.toNat, rfl, hT, hI, k⟩
    · obtain ⟨y, rfl⟩ := len1I hl
      have e0 := nat_of (hy y (by simp)).1
      rw [e0] at hq k
      rw [step_of (k := .step y.toNat) (range_cons (y := y) (by decide) (by decide) (by rw [← e0]; exact hy)) rfl] at k
      refine iteNe (by decide) ⟨_, rfl, rfl, _, rfl, ?_⟩
      refine iteNe (by decide) ⟨_, rfl, rfl, _, rfl, ?_⟩
      refine iteNe (by decide) ⟨_, rfl, rfl, _, rfl, ?_⟩
      exact iteEq ⟨_, rfl, _, rfl, _, _, _, _, rfl, rfl, SqL.of hq, rfl, a, A, x, y.toNat, rfl, hT, hI, k⟩
    · obtain rfl := len0I hl
      rw [step_of (k := .stands) (range_cons (y := 0) (by decide) (by decide) hy) rfl] at k
      refine iteNe (by decide) ⟨_, rfl, rfl, _, rfl, ?_⟩
      refine iteNe (by decide) ⟨_, rfl, rfl, _, rfl, ?_⟩
      refine iteNe (by decide) ⟨_, rfl, rfl, _, rfl, ?_⟩
      refine iteNe (by decide) ⟨_, rfl, rfl, _, rfl, ?_⟩
      exact iteEq ⟨_, rfl, a, A, x, rfl, hT, hI, k⟩
    · obtain rfl := len0I hl
      rw [step_of (k := .open_) (range_cons (y := 0) (by decide) (by decide) hy) rfl] at k
      refine iteNe (by decide) ⟨_, rfl, rfl, _, rfl, ?_⟩
      refine iteNe (by decide) ⟨_, rfl, rfl, _, rfl, ?_⟩
      refine iteNe (by decide) ⟨_, rfl, rfl, _, rfl, ?_⟩
      refine iteNe (by decide) ⟨_, rfl, rfl, _, rfl, ?_⟩
      refine iteNe (by decide) ⟨_, rfl, rfl, _, rfl, ?_⟩
      exact iteEq ⟨_, rfl, a, A, x, rfl, hT, hI, k⟩
    · obtain ⟨y, rfl⟩ := len1I hl
      have e0 := nat_of (hy y (by simp)).1
      rw [e0] at hq k
      rw [step_of (k := .soon y.toNat) (range_cons (y := y) (by decide) (by decide) (by rw [← e0]; exact hy)) rfl] at k
      refine iteNe (by decide) ⟨_, rfl, rfl, _, rfl, ?_⟩
      refine iteNe (by decide) ⟨_, rfl, rfl, _, rfl, ?_⟩
      refine iteNe (by decide) ⟨_, rfl, rfl, _, rfl, ?_⟩
      refine iteNe (by decide) ⟨_, rfl, rfl, _, rfl, ?_⟩
      refine iteNe (by decide) ⟨_, rfl, rfl, _, rfl, ?_⟩
      refine iteNe (by decide) ⟨_, rfl, rfl, _, rfl, ?_⟩
      exact iteEq ⟨_, rfl, _, rfl, _, _, _, _, rfl, rfl, SqL.of hq, rfl, a, A, x, y.toNat, rfl, hT, hI, k⟩
    · obtain rfl := len0I hl
      rw [step_of (k := .fewest) (range_cons (y := 0) (by decide) (by decide) hy) rfl] at k
      refine iteNe (by decide) ⟨_, rfl, rfl, _, rfl, ?_⟩
      refine iteNe (by decide) ⟨_, rfl, rfl, _, rfl, ?_⟩
      refine iteNe (by decide) ⟨_, rfl, rfl, _, rfl, ?_⟩
      refine iteNe (by decide) ⟨_, rfl, rfl, _, rfl, ?_⟩
      refine iteNe (by decide) ⟨_, rfl, rfl, _, rfl, ?_⟩
      refine iteNe (by decide) ⟨_, rfl, rfl, _, rfl, ?_⟩
      refine iteNe (by decide) ⟨_, rfl, rfl, _, rfl, ?_⟩
      exact iteEq ⟨_, rfl, a, A, x, rfl, hT, hI, k⟩
    · obtain rfl := len0I hl
      rw [step_of (k := .least) (range_cons (y := 0) (by decide) (by decide) hy) rfl] at k
      refine iteNe (by decide) ⟨_, rfl, rfl, _, rfl, ?_⟩
      refine iteNe (by decide) ⟨_, rfl, rfl, _, rfl, ?_⟩
      refine iteNe (by decide) ⟨_, rfl, rfl, _, rfl, ?_⟩
      refine iteNe (by decide) ⟨_, rfl, rfl, _, rfl, ?_⟩
      refine iteNe (by decide) ⟨_, rfl, rfl, _, rfl, ?_⟩
      refine iteNe (by decide) ⟨_, rfl, rfl, _, rfl, ?_⟩
      refine iteNe (by decide) ⟨_, rfl, rfl, _, rfl, ?_⟩
      refine iteNe (by decide) ⟨_, rfl, rfl, _, rfl, ?_⟩
      exact iteEq ⟨_, rfl, a, A, x, rfl, hT, hI, k⟩
    · obtain ⟨y, rfl⟩ := len1I hl
      have e0 := nat_of (hy y (by simp)).1
      rw [e0] at hq k
      rw [step_of (k := .follow y.toNat) (range_cons (y := y) (by decide) (by decide) (by rw [← e0]; exact hy)) rfl] at k
      refine iteNe (by decide) ⟨_, rfl, rfl, _, rfl, ?_⟩
      refine iteNe (by decide) ⟨_, rfl, rfl, _, rfl, ?_⟩
      refine iteNe (by decide) ⟨_, rfl, rfl, _, rfl, ?_⟩
      refine iteNe (by decide) ⟨_, rfl, rfl, _, rfl, ?_⟩
      refine iteNe (by decide) ⟨_, rfl, rfl, _, rfl, ?_⟩
      refine iteNe (by decide) ⟨_, rfl, rfl, _, rfl, ?_⟩
      refine iteNe (by decide) ⟨_, rfl, rfl, _, rfl, ?_⟩
      refine iteNe (by decide) ⟨_, rfl, rfl, _, rfl, ?_⟩
      exact iteNe (by decide) ⟨_, rfl, _, rfl, _, _, _, _, rfl, rfl, SqL.of hq, rfl, a, A, x, y.toNat, rfl, hT, hI, k⟩
end
end Tt
set_option Elab.async false
set_option compiler.extract_closed false
set_option genSizeOf false
set_option linter.all false
set_option maxRecDepth 100000
set_option maxHeartbeats 2000000
namespace Tt
open PySem PySem.Spec PyProof.Rows L2
open PySem.W (Codec)
open Uw77 (Table Wish numberOf Call)
open Ma
section
variable {P : Program} {w : World} {K : PySem.W.Frag} {mg : Str → Option Value} {base : Heap}
noncomputable def spAll (K : PySem.W.Frag) (lim : Int) : Sp := fun vs H Q _ => ∃ (c : Addr) (ns : List Int) (cs : List (List Int)), vs = [.ref c] ∧ SqL K H c (ns.map V.int) ∧ ns.length ≤ 120 ∧ inRange ns ∧ Calls ns cs ∧ (∀ p ys, (p :: ys) ∈ cs → p ≤ lim) ∧ (outp Uw77.init cs).length ≤ 10000000 ∧
  ∀ (H' : Hp) (p : Addr), H' p = some (.lst ((outp Uw77.init cs).map V.int)) → Q (.ref p) H'
theorem scAll : FnScope ["calls", "table", "told", "place", "number", "behind", "answered"] ["calls"] (defScope sAll) := ⟨rfl, rfl, rfl, by decide +kernel, rfl, by decide +kernel, by decide +kernel⟩
theorem cut_nat (xs : List V) (lo hi : Nat) (h1 : lo ≤ hi) (h2 : hi ≤ xs.length) : cutV xs (some (lo : Int)) (some (hi : Int)) = (xs.drop lo).take (hi - lo) := by
  unfold cutV
  rw [HT.sIx_nat, HT.sIx_nat, Nat.min_eq_left h2, Nat.min_eq_left (by omega)]
theorem how_get {p : Int} (h0 : 0 ≤ p) (h4 : p ≤ 9) : atI [V.int 1, V.int 2, V.int 2, V.int 1, V.int 0, V.int 0, V.int 1, V.int 0, V.int 0, V.int 1] p = some (V.int ((arity p : Nat) : Int)) := by
  rcases ten h0 h4 with rfl | rfl | rfl | rfl | rfl | rfl | rfl | rfl | rfl | rfl <;> rfl
noncomputable def placeOf (n : Nat) (σ : L2.St) : Nat := match σ[3]? with
  | some (some (V.int z)) => n - z.toNat
  | _ => 0
theorem ok_all {f C fI fA : Addr} {fd fdI fdA : FuncData} (F : Fun K "answers" "answers" sAll f fd) (T : Txt K mg C) (how : ∃ q, mg "HOW_MANY_GIVEN" = some (.ref q) ∧ ∀ H, SqT K H q [V.int 1, V.int 2, V.int 2, V.int 1, V.int 0, V.int 0, V.int 1, V.int 0, V.int 0, V.int 1]) (M : Mk K C fI)
    (GI : FnOk P w K mg base CX0 2 fI fdI ["self"] (spInit C)) (bI : Binds K fdI ["self"] [])
    (GA : FnOk P w K mg base CX0 9 fA fdA ["table", "number", "given"] (spAns C 9)) (bA : Binds K fdA ["table", "number", "given"] []) (mA : mg "answer" = some (.ref fA)) (kA : PySem.W.keepIn K (.ref fA) = true) : FnOk P w K mg base CX0 10 f fd ["calls"] (spAll K 9) := by
  refine F.ok scAll (fun vs H Q E h => ?_) (fun cdv A outer s H vs Q E hr h => ?_)
  · obtain ⟨c, ns, cs, rfl, _⟩ := h
    rfl
  · obtain ⟨c, ns, cs, rfl, hS, hl, hR, hC, h4, hL, k⟩ := h
    obtain ⟨qh, gh, hh⟩ := how
    have hr3 : Room 3 _ := hr.mono (by decide)
    refine ⟨_, pss_cons (ps_set (i := 1) scAll.nd rfl (Or.inl rfl) (pe_make0 M GI hr3 rfl T.mgC bI .nil pass0))
      (pss_cons (ps_set (i := 2) scAll.nd rfl (Or.inl rfl) (pe_lst pa_nil))
      (pss_cons (ps_set (i := 3) scAll.nd rfl (Or.inl rfl) pe_int)
      (pss_cons (ps_while PassesOwn.never (pt_cmpR op_lt (pv 3) (pe_callB call_len_seq (by rfl) T.len PySem.boot_len (pa_cons (pv 0) pa_nil)) (nomark _))
        (pss_cons (ps_set (i := 4) scAll.nd rfl (Or.inl rfl) (pe_ix ix_list (pv 0) (pv 3) (fun _ _ => rfl)))
        (pss_cons (ps_set (i := 5) scAll.nd rfl (Or.inl rfl) (pe_op op_add (pe_op op_add (pv 3) pe_int) (pe_ix ix_tup (pe_glob (v := .ref qh) (by rfl) gh rfl) (pv 4) (fun _ _ => rfl))))
        (pss_cons (ps_set (i := 6) scAll.nd rfl (Or.inl rfl) (pe_call GA hr (by rfl) mA kA bA .nil pass0 (pa_cons (pv 1) (pa_cons (pv 4) (pa_cons (pe_slice sl_list (pv 0) (po_some (pe_op op_add (pv 3) pe_int)) (po_some (pv 5))) pa_nil)))))
        (pss_cons (ps_expr (pe_bm PySem.F.plainAttrs_list PySem.F.slot_list_append PySem.F.type_list_append mt_append (pv 2) (pa_cons (pe_callB call_len_seq (by rfl) T.len PySem.boot_len (pa_cons (pv 6) pa_nil)) pa_nil)))
        (pss_cons (ps_expr (pe_bm PySem.F.plainAttrs_list PySem.F.slot_list_extend PySem.F.type_list_extend mt_extend (pv 2) (pa_cons (pv 6) pa_nil)))
        (pss_one (ps_set (i := 3) scAll.nd rfl (Or.inl rfl) (pv 5)))))))))
      (pss_one (ps_ret (pv 2)))))), ?_⟩
    intro a dx ha hdx hne
    refine ⟨a, dx, rfl, upd_same, fun H1 A1 T1 kp1 _ fr1 => ⟨rfl, ?_⟩⟩
    have s1 : Same H H1 := Same.made ha hdx kp1
    refine ⟨Nat.zero_le _, fun l hl1 => ?_⟩
    have fr0 : ∀ b ∈ A1.all, H b = none := fun b hb => (upd_none (upd_none (fr1 b hb)).2).2
    have s2 : Same H1 (upd H1 l (.lst [])) := fun b o e => by rw [upd_ne (ne_of_none e hl1)]; exact e
    refine while_by (fun σ H' => ∃ (pos : Nat) (x : Table) (A : Ad) (cs' : List (List Int)) (out : List Int) (v4 v5 v6 : Option V), σ = [some (.ref c), some (.ref a), some (.ref l), some (.int (pos : Nat)), v4, v5, v6] ∧ pos ≤ ns.length ∧ Calls (ns.drop pos) cs' ∧ (∀ p ys, (p :: ys) ∈ cs' → p ≤ 9) ∧
        TabAt C H' a A x ∧ TInv x ∧ H' l = some (.lst (out.map V.int)) ∧ l ∉ A.all ∧ outp Uw77.init cs = out ++ outp x cs' ∧ Same H H' ∧ ∀ b ∈ A.all, H b = none) (fun σ _ => placeOf ns.length σ) ?_ ?_ ?_
    · refine ⟨0, Uw77.init, A1, cs, [], none, none, none, rfl, Nat.zero_le _, hC, h4, T1.same s2, init_inv, upd_same, fun hm => ?_, rfl, s1.trans s2, fr0⟩
      obtain ⟨xs, q⟩ := T1.there l hm
      rw [q] at hl1
      cases hl1
    · rintro σ H2 ⟨pos, x, A, cs', out, v4, v5, v6, rfl, hpos, hC', h4', hT, hI, hout, hlA, heq, sH, fr⟩
      refine ⟨_, rfl, _, rfl, _, _, rfl, .inl (sH.seq hS), _, _, rfl, rfl, _, rfl, ?_⟩
      rw [List.length_map]
      by_cases hend : pos < ns.length
      · rw [dT (show ((pos : Nat) : Int) < ((ns.length : Nat) : Int) by omega)]
        refine iteT ?_
        cases ed : ns.drop pos with
        | nil =>
          have := List.drop_eq_nil_iff.mp ed
          omega
        | cons p r =>
          rw [ed] at hC'
          cases hC' with
          | cons h0 h9 hlr t =>
            rename_i cs1
            have hp4 : p ≤ 9 := h4' p (r.take (arity p)) (by simp)
            have hget : ns[pos]? = some p := by
              have := List.getElem?_drop (xs := ns) (i := pos) (j := 0)
              rw [ed, Nat.add_zero] at this
              exact this.symm
            have hr1 : ns.drop (pos + 1) = r := by
              rw [← List.drop_drop, ed]
              rfl
            have rl : r.length = ns.length - (pos + 1) := by rw [← hr1, List.length_drop]
            have hgv : (ns.map V.int)[pos]? = some (V.int p) := by rw [List.getElem?_map, hget]; rfl
            refine ⟨_, rfl, _, rfl, _, _, _, _, rfl, rfl, sH.seq hS, at_of (j := pos) rfl hgv, ?_⟩
            refine ⟨_, rfl, _, _, rfl, rfl, _, rfl, _, _, _, _, rfl, rfl, hh _, how_get h0 hp4, _, _, rfl, rfl, ?_⟩
            have eb : ((pos : Nat) : Int) + 1 + ((arity p : Nat) : Int) = ((pos + 1 + arity p : Nat) : Int) := by omega
            refine ⟨_, rfl, _, rfl, _, rfl, _, rfl, _, _, rfl, rfl, _, rfl, _, rfl, _, rfl, _, _, rfl, sH.seq hS, fun q hq => ?_⟩
            rw [eb, show ((pos : Nat) : Int) + 1 = ((pos + 1 : Nat) : Int) by omega, cut_nat _ _ _ (by omega) (by rw [List.length_map]; omega), ← List.map_drop, ← List.map_take, hr1, show pos + 1 + arity p - (pos + 1) = arity p by omega]
            have sq : Same H2 (upd H2 q (.lst ((r.take (arity p)).map V.int))) := fun b o e => by rw [upd_ne (ne_of_none e hq)]; exact e
            have mem : ∀ z ∈ r.take (arity p), z ∈ ns := fun z hz => List.mem_of_mem_drop (i := pos + 1) (by rw [hr1]; exact List.mem_of_mem_take hz)
            refine ⟨a, q, A, x, p, r.take (arity p), rfl, hT.same sq, hI, h0, hp4, (by rw [List.length_take]; omega), fun z hz => hR z (mem z hz), upd_same, fun H3 A3 v T3 kp3 fr3 hv3 hv => ?_⟩
            have hla : l ≠ a := ne_of hout hT.obj (by intro z; cases z)
            have hlq : l ≠ q := ne_of_none hout hq
            have hout3 := kp3 l _ (by rw [upd_ne hlq]; exact hout) hla hlA
            have hlv : l ≠ v := ne_of_none (sq _ _ hout) hv3
            have hlen : (out ++ (((Uw77Neutral.step x (p :: r.take (arity p))).2.length : Int) :: ((Uw77Neutral.step x (p :: r.take (arity p))).2))).length ≤ 10000000 := by
              refine Nat.le_trans ?_ hL
              rw [heq]
              show _ ≤ (out ++ (((Uw77Neutral.step x (p :: r.take (arity p))).2.length : Int) :: ((Uw77Neutral.step x (p :: r.take (arity p))).2 ++ outp _ cs1))).length
              simp only [List.length_append, List.length_cons]
              omega
            simp only [List.length_append, List.length_cons] at hlen
            have hsz : (sizeLine : Nat) = 16777216 := sizeLine_eq
            refine ⟨_, rfl, .inl ⟨rfl, _, SqL.of hout3⟩, _, rfl, _, _, rfl, .inl (SqL.of hv), l, _, _, rfl, rfl, hout3, (by rw [List.length_map]; omega), ?_⟩
            refine ⟨_, rfl, .inl ⟨rfl, _, SqL.of upd_same⟩, _, rfl, l, v, _, _, rfl, rfl, upd_same, (by rw [upd_ne hlv.symm]; exact hv), (by simp only [List.length_append, List.length_map, List.length_singleton]; omega), ?_⟩
            rw [upd_upd]
            refine ⟨_, rfl, ⟨pos + 1 + arity p, (Uw77Neutral.step x (p :: r.take (arity p))).1, A3, cs1, out ++ (((Uw77Neutral.step x (p :: r.take (arity p))).2.length : Int) :: (Uw77Neutral.step x (p :: r.take (arity p))).2), _, _, _, (by rw [← eb]; rfl), (by omega), ?_, (fun p' ys' hm => h4' p' ys' (by simp [hm])), ?_, ?_, ?_, ?_, ?_, ?_, ?_⟩, ?_⟩
            · rw [show ns.drop (pos + 1 + arity p) = r.drop (arity p) by rw [← hr1, List.drop_drop]]
              exact t
            · have s3 : ∀ b ∈ A3.all, b ≠ l := fun b hb z => by
                rcases fr3 b hb with m | m
                · exact hlA (by rw [← z]; exact m)
                · rw [z, upd_ne hlq, hout] at m; cases m
              refine ⟨by rw [upd_ne hla.symm]; exact T3.obj, by rw [upd_ne (s3 _ Ad.in_g)]; exact T3.gs, by rw [upd_ne (s3 _ Ad.in_d)]; exact T3.ds, by rw [upd_ne (s3 _ Ad.in_h)]; exact T3.ah, by rw [upd_ne (s3 _ Ad.in_f)]; exact T3.fu, T3.len,
                fun i b v' h1 h2 => by rw [upd_ne (s3 _ (Ad.in_s (List.mem_of_getElem? h1)))]; exact T3.beh i b v' h1 h2, T3.nd⟩
            · cases ec : Uw77Neutral.callOf (p :: r.take (arity p)) with
              | none =>
                unfold Uw77Neutral.step
                rw [ec]
                exact hI
              | some cc =>
                unfold Uw77Neutral.step
                rw [ec]
                exact step_inv hI cc
            · rw [upd_same]
              simp only [List.map_append, List.map_cons, List.append_assoc, List.length_map]
              rfl
            · intro hm
              rcases fr3 l hm with m | m
              · exact hlA m
              · rw [upd_ne hlq, hout] at m; cases m
            · rw [heq, List.append_assoc]
              rfl
            · intro b o e
              have hbl : b ≠ l := fun z => by
                rw [z, s1.free hl1] at e; cases e
              rw [upd_ne hbl]
              refine kp3 b o (sq _ _ (sH _ _ e)) (fun z => ?_) (fun hm => ?_)
              · rw [z, ha] at e; cases e
              · rw [fr b hm] at e; cases e
            · intro b hb
              rcases fr3 b hb with m | m
              · exact fr b m
              · exact sH.free (sq.free m)
            · show ns.length - (((pos : Nat) : Int) + 1 + ((arity p : Nat) : Int)).toNat < ns.length - ((pos : Nat) : Int).toNat
              rw [eb, Int.toNat_natCast, Int.toNat_natCast]
              omega
      · rw [dF (show ¬ ((pos : Nat) : Int) < ((ns.length : Nat) : Int) by omega)]
        refine iteF ⟨_, rfl, ?_⟩
        have ed : ns.drop pos = [] := List.drop_eq_nil_of_le (by omega)
        rw [ed] at hC'
        cases hC'
        have e1 : outp Uw77.init cs = out := by rw [heq]; exact List.append_nil out
        rw [← e1] at hout
        exact k H2 l hout
    · rintro σ H Q Q' hq ⟨v, e, v', e', p, ys, e2, h, i, j, e3, e4, b, e5, q⟩
      exact ⟨v, e, v', e', p, ys, e2, h, i, j, e3, e4, b, e5, hq _ _ q⟩
end
end Tt
set_option Elab.async false
set_option compiler.extract_closed false
set_option genSizeOf false
set_option linter.all false
set_option maxRecDepth 100000
set_option maxHeartbeats 8000000
namespace Tt
open PySem PySem.Spec PyProof.Rows L2
open PySem.W (Codec)
open Uw77 (Table Wish numberOf Call)
open Ma
theorem len1 : ∀ {us : List Value}, us.length = 1 → ∃ a, us = [a]
  | [a], _ => ⟨a, rfl⟩
theorem len2 : ∀ {us : List Value}, us.length = 2 → ∃ a b, us = [a, b]
  | [a, b], _ => ⟨a, b, rfl⟩
theorem len3 : ∀ {us : List Value}, us.length = 3 → ∃ a b c, us = [a, b, c]
  | [a, b, c], _ => ⟨a, b, c, rfl⟩
theorem calls_le {ns : List Int} {cs : List (List Int)} (h : Calls ns cs) : ∀ p ys, (p :: ys) ∈ cs → p ≤ 9 := by
  induction h with
  | nil => intro p ys hm; exact nomatch hm
  | cons h0 h9 hl t ih =>
    intro p ys hm
    rcases List.mem_cons.mp hm with e | e
    · injection e with e1 _
      rw [e1]
      exact h9
    · exact ih p ys e
theorem all_mk {P : Program} {w : World} {K : PySem.W.Frag} {h : Heap} {mg : Str → Option Value} {fa C D f1 f2 f3 f4 f5 f6 f7 f8 f9 f10 f11 f12 f13 f14 f15 f16 f17 f18 f19 f20 f21 f22 f23 f24 f25 f26 f27 f28 f29 f30 f31 f32 f33 f34 f35 f36 q1 : Addr} (X : K.In h) (G : h.Ns mainGlobals mg) (hfa : mg "answers" = some (.ref fa))
    {od1 an1 od2 an2 od3 an3 od4 an4 od5 an5 od6 an6 od7 an7 od8 an8 od9 an9 od10 an10 od11 an11 od12 an12 od13 an13 od14 an14 od15 an15 od16 an16 od17 an17 od18 an18 od19 an19 od20 an20 od21 an21 od22 an22 od23 an23 od24 an24 od25 an25 od26 an26 od27 an27 od28 an28 od29 an29 od30 an30 od31 an31 od32 an32 od33 an33 od34 an34 od35 an35 od36 an36 odT1 : Option Addr} {sl1 sl2 sl3 sl4 sl5 sl6 sl7 sl8 sl9 sl10 sl11 sl12 sl13 sl14 sl15 sl16 sl17 sl18 sl19 sl20 sl21 sl22 sl23 sl24 sl25 sl26 sl27 sl28 sl29 sl30 sl31 sl32 sl33 sl34 sl35 sl36 slT1 : Array (Option Value)} {oc1 kV1 dc1 pm1 cd1 ct1 oc2 kV2 dc2 pm2 cd2 ct2 oc3 kV3 dc3 pm3 cd3 ct3 oc4 kV4 dc4 pm4 cd4 ct4 oc5 kV5 dc5 pm5 cd5 ct5 oc6 kV6 dc6 pm6 cd6 ct6 oc7 kV7 dc7 pm7 cd7 ct7 oc8 kV8 dc8 pm8 cd8 ct8 oc9 kV9 dc9 pm9 cd9 ct9 oc10 kV10 dc10 pm10 cd10 ct10 oc11 kV11 dc11 pm11 cd11 ct11 oc12 kV12 dc12 pm12 cd12 ct12 oc13 kV13 dc13 pm13 cd13 ct13 oc14 kV14 dc14 pm14 cd14 ct14 oc15 kV15 dc15 pm15 cd15 ct15 oc16 kV16 dc16 pm16 cd16 ct16 oc17 kV17 dc17 pm17 cd17 ct17 oc18 kV18 dc18 pm18 cd18 ct18 oc19 kV19 dc19 pm19 cd19 ct19 oc20 kV20 dc20 pm20 cd20 ct20 oc21 kV21 dc21 pm21 cd21 ct21 oc22 kV22 dc22 pm22 cd22 ct22 oc23 kV23 dc23 pm23 cd23 ct23 oc24 kV24 dc24 pm24 cd24 ct24 oc25 kV25 dc25 pm25 cd25 ct25 oc26 kV26 dc26 pm26 cd26 ct26 oc27 kV27 dc27 pm27 cd27 ct27 oc28 kV28 dc28 pm28 cd28 ct28 oc29 kV29 dc29 pm29 cd29 ct29 oc30 kV30 dc30 pm30 cd30 ct30 oc31 kV31 dc31 pm31 cd31 ct31 oc32 kV32 dc32 pm32 cd32 ct32 oc33 kV33 dc33 pm33 cd33 ct33 oc34 kV34 dc34 pm34 cd34 ct34 oc35 kV35 dc35 pm35 cd35 ct35 oc36 kV36 dc36 pm36 cd36 ct36 : Value}
    {t1 t2 t3 t4 t5 t6 t7 t8 t9 t10 t11 t12 t13 t14 t15 t16 t17 t18 t19 t20 t21 t22 t23 u1_0 u1_1 u1_2 u1_3 u1_4 u1_5 u1_6 u1_7 u1_8 u1_9 : Tok} {nT1 : Nat}
    (aC : PySem.W.nsIn K mainGlobals "Table" = some (some (.ref C)))
    (aD : PySem.W.nsIn K mainGlobals "Rows" = some (some (.ref D)))
    (a1 : PySem.W.findIn K (.ref C) "__init__" = some (some (.ref f1))) (i1 : PySem.W.isFn K (.ref f1) = true) (l1 : K.lookup f1 = some ⟨oc1, od1, .func (PySem.W.fnOf "__init__" "Table.__init__" (defArgs sInit) (defBody sInit) (defScope sInit) .none kV1 dc1 pm1 an1 cd1 ct1), sl1⟩) (c1 : PySem.W.codeIn K cd1 "Table.__init__" = true) (k1 : PySem.W.keepIn K (.ref f1) = true)
    (a2 : PySem.W.findIn K (.ref C) "lay" = some (some (.ref f2))) (i2 : PySem.W.isFn K (.ref f2) = true) (l2 : K.lookup f2 = some ⟨oc2, od2, .func (PySem.W.fnOf "lay" "Table.lay" (defArgs sLay) (defBody sLay) (defScope sLay) .none kV2 dc2 pm2 an2 cd2 ct2), sl2⟩) (c2 : PySem.W.codeIn K cd2 "Table.lay" = true) (k2 : PySem.W.keepIn K (.ref f2) = true)
    (a3 : PySem.W.findIn K (.ref C) "has_wish" = some (some (.ref f3))) (i3 : PySem.W.isFn K (.ref f3) = true) (l3 : K.lookup f3 = some ⟨oc3, od3, .func (PySem.W.fnOf "has_wish" "Table.has_wish" (defArgs sHas) (defBody sHas) (defScope sHas) .none kV3 dc3 pm3 an3 cd3 ct3), sl3⟩) (c3 : PySem.W.codeIn K cd3 "Table.has_wish" = true) (k3 : PySem.W.keepIn K (.ref f3) = true)
    (a4 : PySem.W.findIn K (.ref C) "is_wanted" = some (some (.ref f4))) (i4 : PySem.W.isFn K (.ref f4) = true) (l4 : K.lookup f4 = some ⟨oc4, od4, .func (PySem.W.fnOf "is_wanted" "Table.is_wanted" (defArgs sWan) (defBody sWan) (defScope sWan) .none kV4 dc4 pm4 an4 cd4 ct4), sl4⟩) (c4 : PySem.W.codeIn K cd4 "Table.is_wanted" = true) (k4 : PySem.W.keepIn K (.ref f4) = true)
    (a5 : PySem.W.findIn K (.ref C) "unfulfilled" = some (some (.ref f5))) (i5 : PySem.W.isFn K (.ref f5) = true) (l5 : K.lookup f5 = some ⟨oc5, od5, .func (PySem.W.fnOf "unfulfilled" "Table.unfulfilled" (defArgs sUnf) (defBody sUnf) (defScope sUnf) .none kV5 dc5 pm5 an5 cd5 ct5), sl5⟩) (c5 : PySem.W.codeIn K cd5 "Table.unfulfilled" = true) (k5 : PySem.W.keepIn K (.ref f5) = true)
    (a6 : PySem.W.findIn K (.ref C) "add_wish" = some (some (.ref f6))) (i6 : PySem.W.isFn K (.ref f6) = true) (l6 : K.lookup f6 = some ⟨oc6, od6, .func (PySem.W.fnOf "add_wish" "Table.add_wish" (defArgs sAdd) (defBody sAdd) (defScope sAdd) .none kV6 dc6 pm6 an6 cd6 ct6), sl6⟩) (c6 : PySem.W.codeIn K cd6 "Table.add_wish" = true) (k6 : PySem.W.keepIn K (.ref f6) = true)
    (a7 : PySem.W.findIn K (.ref C) "put_behind" = some (some (.ref f7))) (i7 : PySem.W.isFn K (.ref f7) = true) (l7 : K.lookup f7 = some ⟨oc7, od7, .func (PySem.W.fnOf "put_behind" "Table.put_behind" (defArgs sPut) (defBody sPut) (defScope sPut) .none kV7 dc7 pm7 an7 cd7 ct7), sl7⟩) (c7 : PySem.W.codeIn K cd7 "Table.put_behind" = true) (k7 : PySem.W.keepIn K (.ref f7) = true)
    (a8 : PySem.W.findIn K (.ref C) "is_behind" = some (some (.ref f8))) (i8 : PySem.W.isFn K (.ref f8) = true) (l8 : K.lookup f8 = some ⟨oc8, od8, .func (PySem.W.fnOf "is_behind" "Table.is_behind" (defArgs sBeh) (defBody sBeh) (defScope sBeh) .none kV8 dc8 pm8 an8 cd8 ct8), sl8⟩) (c8 : PySem.W.codeIn K cd8 "Table.is_behind" = true) (k8 : PySem.W.keepIn K (.ref f8) = true)
    (a9 : PySem.W.findIn K (.ref C) "turn_after" = some (some (.ref f9))) (i9 : PySem.W.isFn K (.ref f9) = true) (l9 : K.lookup f9 = some ⟨oc9, od9, .func (PySem.W.fnOf "turn_after" "Table.turn_after" (defArgs sTurn) (defBody sTurn) (defScope sTurn) .none kV9 dc9 pm9 an9 cd9 ct9), sl9⟩) (c9 : PySem.W.codeIn K cd9 "Table.turn_after" = true) (k9 : PySem.W.keepIn K (.ref f9) = true)
    (a10 : PySem.W.findIn K (.ref C) "make_step" = some (some (.ref f10))) (i10 : PySem.W.isFn K (.ref f10) = true) (l10 : K.lookup f10 = some ⟨oc10, od10, .func (PySem.W.fnOf "make_step" "Table.make_step" (defArgs sMake) (defBody sMake) (defScope sMake) .none kV10 dc10 pm10 an10 cd10 ct10), sl10⟩) (c10 : PySem.W.codeIn K cd10 "Table.make_step" = true) (k10 : PySem.W.keepIn K (.ref f10) = true)
    (a11 : PySem.W.findIn K (.ref C) "is_served" = some (some (.ref f11))) (i11 : PySem.W.isFn K (.ref f11) = true) (l11 : K.lookup f11 = some ⟨oc11, od11, .func (PySem.W.fnOf "is_served" "Table.is_served" (defArgs sServ) (defBody sServ) (defScope sServ) .none kV11 dc11 pm11 an11 cd11 ct11), sl11⟩) (c11 : PySem.W.codeIn K cd11 "Table.is_served" = true) (k11 : PySem.W.keepIn K (.ref f11) = true)
    (a12 : PySem.W.findIn K (.ref C) "steps_till_served" = some (some (.ref f12))) (i12 : PySem.W.isFn K (.ref f12) = true) (l12 : K.lookup f12 = some ⟨oc12, od12, .func (PySem.W.fnOf "steps_till_served" "Table.steps_till_served" (defArgs sTill) (defBody sTill) (defScope sTill) .none kV12 dc12 pm12 an12 cd12 ct12), sl12⟩) (c12 : PySem.W.codeIn K cd12 "Table.steps_till_served" = true) (k12 : PySem.W.keepIn K (.ref f12) = true)
    (a13 : PySem.W.findIn K (.ref C) "is_free" = some (some (.ref f13))) (i13 : PySem.W.isFn K (.ref f13) = true) (l13 : K.lookup f13 = some ⟨oc13, od13, .func (PySem.W.fnOf "is_free" "Table.is_free" (defArgs sFree) (defBody sFree) (defScope sFree) .none kV13 dc13 pm13 an13 cd13 ct13), sl13⟩) (c13 : PySem.W.codeIn K cd13 "Table.is_free" = true) (k13 : PySem.W.keepIn K (.ref f13) = true)
    (a14 : PySem.W.findIn K (.ref C) "settled" = some (some (.ref f14))) (i14 : PySem.W.isFn K (.ref f14) = true) (l14 : K.lookup f14 = some ⟨oc14, od14, .func (PySem.W.fnOf "settled" "Table.settled" (defArgs sSet) (defBody sSet) (defScope sSet) .none kV14 dc14 pm14 an14 cd14 ct14), sl14⟩) (c14 : PySem.W.codeIn K cd14 "Table.settled" = true) (k14 : PySem.W.keepIn K (.ref f14) = true)
    (a15 : PySem.W.findIn K (.ref D) "__init__" = some (some (.ref f15))) (i15 : PySem.W.isFn K (.ref f15) = true) (l15 : K.lookup f15 = some ⟨oc15, od15, .func (PySem.W.fnOf "__init__" "Rows.__init__" (defArgs sRIn) (defBody sRIn) (defScope sRIn) .none kV15 dc15 pm15 an15 cd15 ct15), sl15⟩) (c15 : PySem.W.codeIn K cd15 "Rows.__init__" = true) (k15 : PySem.W.keepIn K (.ref f15) = true)
    (a16 : PySem.W.nsIn K mainGlobals "state_now" = some (some (.ref f16))) (l16 : K.lookup f16 = some ⟨oc16, od16, .func (PySem.W.fnOf "state_now" "state_now" (defArgs sNow) (defBody sNow) (defScope sNow) .none kV16 dc16 pm16 an16 cd16 ct16), sl16⟩) (c16 : PySem.W.codeIn K cd16 "state_now" = true) (k16 : PySem.W.keepIn K (.ref f16) = true)
    (a17 : PySem.W.nsIn K mainGlobals "state_after" = some (some (.ref f17))) (l17 : K.lookup f17 = some ⟨oc17, od17, .func (PySem.W.fnOf "state_after" "state_after" (defArgs sAft) (defBody sAft) (defScope sAft) .none kV17 dc17 pm17 an17 cd17 ct17), sl17⟩) (c17 : PySem.W.codeIn K cd17 "state_after" = true) (k17 : PySem.W.keepIn K (.ref f17) = true)
    (a18 : PySem.W.nsIn K mainGlobals "is_end" = some (some (.ref f18))) (l18 : K.lookup f18 = some ⟨oc18, od18, .func (PySem.W.fnOf "is_end" "is_end" (defArgs sEnd) (defBody sEnd) (defScope sEnd) .none kV18 dc18 pm18 an18 cd18 ct18), sl18⟩) (c18 : PySem.W.codeIn K cd18 "is_end" = true) (k18 : PySem.W.keepIn K (.ref f18) = true)
    (a19 : PySem.W.nsIn K mainGlobals "how_many_wait" = some (some (.ref f19))) (l19 : K.lookup f19 = some ⟨oc19, od19, .func (PySem.W.fnOf "how_many_wait" "how_many_wait" (defArgs sWai) (defBody sWai) (defScope sWai) .none kV19 dc19 pm19 an19 cd19 ct19), sl19⟩) (c19 : PySem.W.codeIn K cd19 "how_many_wait" = true) (k19 : PySem.W.keepIn K (.ref f19) = true)
    (a20 : PySem.W.nsIn K mainGlobals "together" = some (some (.ref f20))) (l20 : K.lookup f20 = some ⟨oc20, od20, .func (PySem.W.fnOf "together" "together" (defArgs sTog) (defBody sTog) (defScope sTog) .none kV20 dc20 pm20 an20 cd20 ct20), sl20⟩) (c20 : PySem.W.codeIn K cd20 "together" = true) (k20 : PySem.W.keepIn K (.ref f20) = true)
    (a21 : PySem.W.nsIn K mainGlobals "ways_on" = some (some (.ref f21))) (l21 : K.lookup f21 = some ⟨oc21, od21, .func (PySem.W.fnOf "ways_on" "ways_on" (defArgs sWay) (defBody sWay) (defScope sWay) .none kV21 dc21 pm21 an21 cd21 ct21), sl21⟩) (c21 : PySem.W.codeIn K cd21 "ways_on" = true) (k21 : PySem.W.keepIn K (.ref f21) = true)
    (a22 : PySem.W.nsIn K mainGlobals "layer_on" = some (some (.ref f22))) (l22 : K.lookup f22 = some ⟨oc22, od22, .func (PySem.W.fnOf "layer_on" "layer_on" (defArgs sLon) (defBody sLon) (defScope sLon) .none kV22 dc22 pm22 an22 cd22 ct22), sl22⟩) (c22 : PySem.W.codeIn K cd22 "layer_on" = true) (k22 : PySem.W.keepIn K (.ref f22) = true)
    (a23 : PySem.W.nsIn K mainGlobals "fewest_steps" = some (some (.ref f23))) (l23 : K.lookup f23 = some ⟨oc23, od23, .func (PySem.W.fnOf "fewest_steps" "fewest_steps" (defArgs sFew) (defBody sFew) (defScope sFew) .none kV23 dc23 pm23 an23 cd23 ct23), sl23⟩) (c23 : PySem.W.codeIn K cd23 "fewest_steps" = true) (k23 : PySem.W.keepIn K (.ref f23) = true)
    (a24 : PySem.W.nsIn K mainGlobals "least_waiting" = some (some (.ref f24))) (l24 : K.lookup f24 = some ⟨oc24, od24, .func (PySem.W.fnOf "least_waiting" "least_waiting" (defArgs sLea) (defBody sLea) (defScope sLea) .none kV24 dc24 pm24 an24 cd24 ct24), sl24⟩) (c24 : PySem.W.codeIn K cd24 "least_waiting" = true) (k24 : PySem.W.keepIn K (.ref f24) = true)
    (a25 : PySem.W.nsIn K mainGlobals "answer_table" = some (some (.ref f25))) (l25 : K.lookup f25 = some ⟨oc25, od25, .func (PySem.W.fnOf "answer_table" "answer_table" (defArgs sATab) (defBody sATab) (defScope sATab) .none kV25 dc25 pm25 an25 cd25 ct25), sl25⟩) (c25 : PySem.W.codeIn K cd25 "answer_table" = true) (k25 : PySem.W.keepIn K (.ref f25) = true)
    (a26 : PySem.W.nsIn K mainGlobals "answer_wish" = some (some (.ref f26))) (l26 : K.lookup f26 = some ⟨oc26, od26, .func (PySem.W.fnOf "answer_wish" "answer_wish" (defArgs sAWis) (defBody sAWis) (defScope sAWis) .none kV26 dc26 pm26 an26 cd26 ct26), sl26⟩) (c26 : PySem.W.codeIn K cd26 "answer_wish" = true) (k26 : PySem.W.keepIn K (.ref f26) = true)
    (a27 : PySem.W.nsIn K mainGlobals "answer_behind" = some (some (.ref f27))) (l27 : K.lookup f27 = some ⟨oc27, od27, .func (PySem.W.fnOf "answer_behind" "answer_behind" (defArgs sABeh) (defBody sABeh) (defScope sABeh) .none kV27 dc27 pm27 an27 cd27 ct27), sl27⟩) (c27 : PySem.W.codeIn K cd27 "answer_behind" = true) (k27 : PySem.W.keepIn K (.ref f27) = true)
    (a28 : PySem.W.nsIn K mainGlobals "answer_step" = some (some (.ref f28))) (l28 : K.lookup f28 = some ⟨oc28, od28, .func (PySem.W.fnOf "answer_step" "answer_step" (defArgs sAStp) (defBody sAStp) (defScope sAStp) .none kV28 dc28 pm28 an28 cd28 ct28), sl28⟩) (c28 : PySem.W.codeIn K cd28 "answer_step" = true) (k28 : PySem.W.keepIn K (.ref f28) = true)
    (a29 : PySem.W.nsIn K mainGlobals "answer_stands" = some (some (.ref f29))) (l29 : K.lookup f29 = some ⟨oc29, od29, .func (PySem.W.fnOf "answer_stands" "answer_stands" (defArgs sASta) (defBody sASta) (defScope sASta) .none kV29 dc29 pm29 an29 cd29 ct29), sl29⟩) (c29 : PySem.W.codeIn K cd29 "answer_stands" = true) (k29 : PySem.W.keepIn K (.ref f29) = true)
    (a30 : PySem.W.nsIn K mainGlobals "answer_open_wishes" = some (some (.ref f30))) (l30 : K.lookup f30 = some ⟨oc30, od30, .func (PySem.W.fnOf "answer_open_wishes" "answer_open_wishes" (defArgs sAOpe) (defBody sAOpe) (defScope sAOpe) .none kV30 dc30 pm30 an30 cd30 ct30), sl30⟩) (c30 : PySem.W.codeIn K cd30 "answer_open_wishes" = true) (k30 : PySem.W.keepIn K (.ref f30) = true)
    (a31 : PySem.W.nsIn K mainGlobals "answer_soon" = some (some (.ref f31))) (l31 : K.lookup f31 = some ⟨oc31, od31, .func (PySem.W.fnOf "answer_soon" "answer_soon" (defArgs sASoo) (defBody sASoo) (defScope sASoo) .none kV31 dc31 pm31 an31 cd31 ct31), sl31⟩) (c31 : PySem.W.codeIn K cd31 "answer_soon" = true) (k31 : PySem.W.keepIn K (.ref f31) = true)
    (a32 : PySem.W.nsIn K mainGlobals "answer_fewest" = some (some (.ref f32))) (l32 : K.lookup f32 = some ⟨oc32, od32, .func (PySem.W.fnOf "answer_fewest" "answer_fewest" (defArgs sAFew) (defBody sAFew) (defScope sAFew) .none kV32 dc32 pm32 an32 cd32 ct32), sl32⟩) (c32 : PySem.W.codeIn K cd32 "answer_fewest" = true) (k32 : PySem.W.keepIn K (.ref f32) = true)
    (a33 : PySem.W.nsIn K mainGlobals "answer_least" = some (some (.ref f33))) (l33 : K.lookup f33 = some ⟨oc33, od33, .func (PySem.W.fnOf "answer_least" "answer_least" (defArgs sALea) (defBody sALea) (defScope sALea) .none kV33 dc33 pm33 an33 cd33 ct33), sl33⟩) (c33 : PySem.W.codeIn K cd33 "answer_least" = true) (k33 : PySem.W.keepIn K (.ref f33) = true)
    (a34 : PySem.W.nsIn K mainGlobals "answer_follow" = some (some (.ref f34))) (l34 : K.lookup f34 = some ⟨oc34, od34, .func (PySem.W.fnOf "answer_follow" "answer_follow" (defArgs sAFol) (defBody sAFol) (defScope sAFol) .none kV34 dc34 pm34 an34 cd34 ct34), sl34⟩) (c34 : PySem.W.codeIn K cd34 "answer_follow" = true) (k34 : PySem.W.keepIn K (.ref f34) = true)
    (a35 : PySem.W.nsIn K mainGlobals "answer" = some (some (.ref f35))) (l35 : K.lookup f35 = some ⟨oc35, od35, .func (PySem.W.fnOf "answer" "answer" (defArgs sAns) (defBody sAns) (defScope sAns) .none kV35 dc35 pm35 an35 cd35 ct35), sl35⟩) (c35 : PySem.W.codeIn K cd35 "answer" = true) (k35 : PySem.W.keepIn K (.ref f35) = true)
    (a36 : PySem.W.nsIn K mainGlobals "answers" = some (some (.ref f36))) (l36 : K.lookup f36 = some ⟨oc36, od36, .func (PySem.W.fnOf "answers" "answers" (defArgs sAll) (defBody sAll) (defScope sAll) .none kV36 dc36 pm36 an36 cd36 ct36), sl36⟩) (c36 : PySem.W.codeIn K cd36 "answers" = true) (k36 : PySem.W.keepIn K (.ref f36) = true)
    (pgC : PySem.W.plainGet K C Str.empty = true) (hdC : PySem.W.hasDictIn K C = true) (poC : PySem.W.plainOver K C = true) (saC : PySem.W.findIn K (.ref C) "__setattr__" = some (some (.builtin "object.__setattr__"))) (mkC : PySem.W.makesIn K C = true) (kcC : PySem.W.keepIn K (.ref C) = true)
    (nC1 : PySem.W.findIn K (.ref C) "places" = some none)
    (nC2 : PySem.W.findIn K (.ref C) "turned" = some none)
    (nC3 : PySem.W.findIn K (.ref C) "guests" = some none)
    (nC4 : PySem.W.findIn K (.ref C) "dishes" = some none)
    (nC5 : PySem.W.findIn K (.ref C) "ahead" = some none)
    (nC6 : PySem.W.findIn K (.ref C) "fulfilled" = some none)
    (pgD : PySem.W.plainGet K D Str.empty = true) (hdD : PySem.W.hasDictIn K D = true) (poD : PySem.W.plainOver K D = true) (saD : PySem.W.findIn K (.ref D) "__setattr__" = some (some (.builtin "object.__setattr__"))) (mkD : PySem.W.makesIn K D = true) (kcD : PySem.W.keepIn K (.ref D) = true)
    (nD1 : PySem.W.findIn K (.ref D) "many" = some none)
    (nD2 : PySem.W.findIn K (.ref D) "first" = some none)
    (g1 : PySem.W.nsIn K mainGlobals "FEWEST_PLACES" = some (some (.int (2) t1)))
    (g2 : PySem.W.nsIn K mainGlobals "MOST_PLACES" = some (some (.int (8) t2)))
    (g3 : PySem.W.nsIn K mainGlobals "MOST_WISHES" = some (some (.int (6) t3)))
    (g4 : PySem.W.nsIn K mainGlobals "TO_THE_RIGHT" = some (some (.int (0) t4)))
    (g5 : PySem.W.nsIn K mainGlobals "TO_THE_LEFT" = some (some (.int (1) t5)))
    (g6 : PySem.W.nsIn K mainGlobals "DONE" = some (some (.int (0) t6)))
    (g7 : PySem.W.nsIn K mainGlobals "OUT_OF_RANGE" = some (some (.int (-1) t7)))
    (g8 : PySem.W.nsIn K mainGlobals "SAME_WISH" = some (some (.int (-1) t8)))
    (g9 : PySem.W.nsIn K mainGlobals "NO_SUCH_WISH" = some (some (.int (-2) t9)))
    (g10 : PySem.W.nsIn K mainGlobals "IS_FULFILLED" = some (some (.int (-3) t10)))
    (g11 : PySem.W.nsIn K mainGlobals "THERE_ALREADY" = some (some (.int (-4) t11)))
    (g12 : PySem.W.nsIn K mainGlobals "TOO_MANY" = some (some (.int (-5) t12)))
    (g13 : PySem.W.nsIn K mainGlobals "IN_A_CIRCLE" = some (some (.int (-6) t13)))
    (g14 : PySem.W.nsIn K mainGlobals "TABLE" = some (some (.int (0) t14)))
    (g15 : PySem.W.nsIn K mainGlobals "WISH" = some (some (.int (1) t15)))
    (g16 : PySem.W.nsIn K mainGlobals "BEHIND" = some (some (.int (2) t16)))
    (g17 : PySem.W.nsIn K mainGlobals "STEP" = some (some (.int (3) t17)))
    (g18 : PySem.W.nsIn K mainGlobals "STANDS" = some (some (.int (4) t18)))
    (g19 : PySem.W.nsIn K mainGlobals "OPEN_WISHES" = some (some (.int (5) t19)))
    (g20 : PySem.W.nsIn K mainGlobals "SOON" = some (some (.int (6) t20)))
    (g21 : PySem.W.nsIn K mainGlobals "FEWEST" = some (some (.int (7) t21)))
    (g22 : PySem.W.nsIn K mainGlobals "LEAST" = some (some (.int (8) t22)))
    (g23 : PySem.W.nsIn K mainGlobals "MOST_FOLLOWED" = some (some (.int (100) t23)))
    (z1 : PySem.W.nsIn K mainGlobals "len" = some none)
    (z2 : PySem.W.nsIn K mainGlobals "range" = some none)
    (z3 : PySem.W.nsIn K mainGlobals "any" = some none)
    (z4 : PySem.W.nsIn K mainGlobals "all" = some none)
    (z5 : PySem.W.nsIn K mainGlobals "list" = some none)
    (z6 : PySem.W.nsIn K mainGlobals "tuple" = some none)
    (z7 : PySem.W.nsIn K mainGlobals "sum" = some none)
    (z8 : PySem.W.nsIn K mainGlobals "min" = some none)
    (aT1 : PySem.W.nsIn K mainGlobals "HOW_MANY_GIVEN" = some (some (.ref q1))) (lT1 : K.lookup q1 = some ⟨.type "tuple", odT1, .seq #[.int (1) u1_0, .int (2) u1_1, .int (2) u1_2, .int (1) u1_3, .int (0) u1_4, .int (0) u1_5, .int (1) u1_6, .int (0) u1_7, .int (0) u1_8, .int (1) u1_9] nT1, slT1⟩)
    : ∃ fd : FuncData, (∀ (s : Shared) (us : List Value), us.length = (["calls"] : List Str).length → BindsTo s fd ⟨us, []⟩ ((["calls"] : List Str).zip us)) ∧ ∀ base : Heap, K.In base → base.Ns mainGlobals mg → FnOk P w K mg base CX0 10 fa fd ["calls"] (spAll K 9) := by
  have e := hfa.symm.trans (PySem.W.mg_of X G a36)
  cases e
  have F1 := fun_mk (st := sInit) l1 c1 k1
  have b1 := F1.binds (ps := ["self"]) fun _ _ _ _ _ _ us hl => by obtain ⟨a, rfl⟩ := len1 hl; rfl
  have F2 := fun_mk (st := sLay) l2 c2 k2
  have b2 := F2.binds (ps := ["self", "places"]) fun _ _ _ _ _ _ us hl => by obtain ⟨a, b, rfl⟩ := len2 hl; rfl
  have F3 := fun_mk (st := sHas) l3 c3 k3
  have b3 := F3.binds (ps := ["self", "wish"]) fun _ _ _ _ _ _ us hl => by obtain ⟨a, b, rfl⟩ := len2 hl; rfl
  have F4 := fun_mk (st := sWan) l4 c4 k4
  have b4 := F4.binds (ps := ["self", "guest", "dish"]) fun _ _ _ _ _ _ us hl => by obtain ⟨a, b, c, rfl⟩ := len3 hl; rfl
  have F5 := fun_mk (st := sUnf) l5 c5 k5
  have b5 := F5.binds (ps := ["self"]) fun _ _ _ _ _ _ us hl => by obtain ⟨a, rfl⟩ := len1 hl; rfl
  have F6 := fun_mk (st := sAdd) l6 c6 k6
  have b6 := F6.binds (ps := ["self", "guest", "dish"]) fun _ _ _ _ _ _ us hl => by obtain ⟨a, b, c, rfl⟩ := len3 hl; rfl
  have F7 := fun_mk (st := sPut) l7 c7 k7
  have b7 := F7.binds (ps := ["self", "one", "other"]) fun _ _ _ _ _ _ us hl => by obtain ⟨a, b, c, rfl⟩ := len3 hl; rfl
  have F8 := fun_mk (st := sBeh) l8 c8 k8
  have b8 := F8.binds (ps := ["self", "one", "other"]) fun _ _ _ _ _ _ us hl => by obtain ⟨a, b, c, rfl⟩ := len3 hl; rfl
  have F9 := fun_mk (st := sTurn) l9 c9 k9
  have b9 := F9.binds (ps := ["self", "turned", "way"]) fun _ _ _ _ _ _ us hl => by obtain ⟨a, b, c, rfl⟩ := len3 hl; rfl
  have F10 := fun_mk (st := sMake) l10 c10 k10
  have b10 := F10.binds (ps := ["self", "way"]) fun _ _ _ _ _ _ us hl => by obtain ⟨a, b, rfl⟩ := len2 hl; rfl
  have F11 := fun_mk (st := sServ) l11 c11 k11
  have b11 := F11.binds (ps := ["self", "wish", "turned"]) fun _ _ _ _ _ _ us hl => by obtain ⟨a, b, c, rfl⟩ := len3 hl; rfl
  have F12 := fun_mk (st := sTill) l12 c12 k12
  have b12 := F12.binds (ps := ["self", "wish"]) fun _ _ _ _ _ _ us hl => by obtain ⟨a, b, rfl⟩ := len2 hl; rfl
  have F13 := fun_mk (st := sFree) l13 c13 k13
  have b13 := F13.binds (ps := ["self", "wish", "fulfilled"]) fun _ _ _ _ _ _ us hl => by obtain ⟨a, b, c, rfl⟩ := len3 hl; rfl
  have F14 := fun_mk (st := sSet) l14 c14 k14
  have b14 := F14.binds (ps := ["self", "turned", "fulfilled"]) fun _ _ _ _ _ _ us hl => by obtain ⟨a, b, c, rfl⟩ := len3 hl; rfl
  have F15 := fun_mk (st := sRIn) l15 c15 k15
  have b15 := F15.binds (ps := ["self", "many", "first"]) fun _ _ _ _ _ _ us hl => by obtain ⟨a, b, c, rfl⟩ := len3 hl; rfl
  have F16 := fun_mk (st := sNow) l16 c16 k16
  have b16 := F16.binds (ps := ["table"]) fun _ _ _ _ _ _ us hl => by obtain ⟨a, rfl⟩ := len1 hl; rfl
  have F17 := fun_mk (st := sAft) l17 c17 k17
  have b17 := F17.binds (ps := ["table", "state", "way"]) fun _ _ _ _ _ _ us hl => by obtain ⟨a, b, c, rfl⟩ := len3 hl; rfl
  have F18 := fun_mk (st := sEnd) l18 c18 k18
  have b18 := F18.binds (ps := ["state"]) fun _ _ _ _ _ _ us hl => by obtain ⟨a, rfl⟩ := len1 hl; rfl
  have F19 := fun_mk (st := sWai) l19 c19 k19
  have b19 := F19.binds (ps := ["state"]) fun _ _ _ _ _ _ us hl => by obtain ⟨a, rfl⟩ := len1 hl; rfl
  have F20 := fun_mk (st := sTog) l20 c20 k20
  have b20 := F20.binds (ps := ["several"]) fun _ _ _ _ _ _ us hl => by obtain ⟨a, rfl⟩ := len1 hl; rfl
  have F21 := fun_mk (st := sWay) l21 c21 k21
  have b21 := F21.binds (ps := ["table", "layer", "seen"]) fun _ _ _ _ _ _ us hl => by obtain ⟨a, b, c, rfl⟩ := len3 hl; rfl
  have F22 := fun_mk (st := sLon) l22 c22 k22
  have b22 := F22.binds (ps := ["table", "layer", "seen"]) fun _ _ _ _ _ _ us hl => by obtain ⟨a, b, c, rfl⟩ := len3 hl; rfl
  have F23 := fun_mk (st := sFew) l23 c23 k23
  have b23 := F23.binds (ps := ["table"]) fun _ _ _ _ _ _ us hl => by obtain ⟨a, rfl⟩ := len1 hl; rfl
  have F24 := fun_mk (st := sLea) l24 c24 k24
  have b24 := F24.binds (ps := ["table"]) fun _ _ _ _ _ _ us hl => by obtain ⟨a, rfl⟩ := len1 hl; rfl
  have F25 := fun_mk (st := sATab) l25 c25 k25
  have b25 := F25.binds (ps := ["table", "places"]) fun _ _ _ _ _ _ us hl => by obtain ⟨a, b, rfl⟩ := len2 hl; rfl
  have F26 := fun_mk (st := sAWis) l26 c26 k26
  have b26 := F26.binds (ps := ["table", "guest", "dish"]) fun _ _ _ _ _ _ us hl => by obtain ⟨a, b, c, rfl⟩ := len3 hl; rfl
  have F27 := fun_mk (st := sABeh) l27 c27 k27
  have b27 := F27.binds (ps := ["table", "one", "other"]) fun _ _ _ _ _ _ us hl => by obtain ⟨a, b, c, rfl⟩ := len3 hl; rfl
  have F28 := fun_mk (st := sAStp) l28 c28 k28
  have b28 := F28.binds (ps := ["table", "way"]) fun _ _ _ _ _ _ us hl => by obtain ⟨a, b, rfl⟩ := len2 hl; rfl
  have F29 := fun_mk (st := sASta) l29 c29 k29
  have b29 := F29.binds (ps := ["table"]) fun _ _ _ _ _ _ us hl => by obtain ⟨a, rfl⟩ := len1 hl; rfl
  have F30 := fun_mk (st := sAOpe) l30 c30 k30
  have b30 := F30.binds (ps := ["table"]) fun _ _ _ _ _ _ us hl => by obtain ⟨a, rfl⟩ := len1 hl; rfl
  have F31 := fun_mk (st := sASoo) l31 c31 k31
  have b31 := F31.binds (ps := ["table", "wish"]) fun _ _ _ _ _ _ us hl => by obtain ⟨a, b, rfl⟩ := len2 hl; rfl
  have F32 := fun_mk (st := sAFew) l32 c32 k32
  have b32 := F32.binds (ps := ["table"]) fun _ _ _ _ _ _ us hl => by obtain ⟨a, rfl⟩ := len1 hl; rfl
  have F33 := fun_mk (st := sALea) l33 c33 k33
  have b33 := F33.binds (ps := ["table"]) fun _ _ _ _ _ _ us hl => by obtain ⟨a, rfl⟩ := len1 hl; rfl
  have F34 := fun_mk (st := sAFol) l34 c34 k34
  have b34 := F34.binds (ps := ["table", "most"]) fun _ _ _ _ _ _ us hl => by obtain ⟨a, b, rfl⟩ := len2 hl; rfl
  have F35 := fun_mk (st := sAns) l35 c35 k35
  have b35 := F35.binds (ps := ["table", "number", "given"]) fun _ _ _ _ _ _ us hl => by obtain ⟨a, b, c, rfl⟩ := len3 hl; rfl
  have F36 := fun_mk (st := sAll) l36 c36 k36
  have b36 := F36.binds (ps := ["calls"]) fun _ _ _ _ _ _ us hl => by obtain ⟨a, rfl⟩ := len1 hl; rfl
  have T : Txt K mg C := ⟨⟨pgC, hdC, poC, saC⟩, nC1, nC2, nC3, nC4, nC5, nC6, PySem.W.mg_of X G aC, ⟨_, PySem.W.mg_of X G g1⟩, ⟨_, PySem.W.mg_of X G g2⟩, ⟨_, PySem.W.mg_of X G g3⟩, ⟨_, PySem.W.mg_of X G g4⟩, ⟨_, PySem.W.mg_of X G g5⟩, PySem.W.mg_none_of X G z1, PySem.W.mg_none_of X G z2, PySem.W.mg_none_of X G z3, PySem.W.mg_none_of X G z4, PySem.W.mg_none_of X G z5⟩
  have TP : TxtP K mg D := ⟨⟨pgD, hdD, poD, saD⟩, nD1, nD2, PySem.W.mg_of X G aD, PySem.W.mg_none_of X G z6, PySem.W.mg_none_of X G z7, PySem.W.mg_none_of X G z8⟩
  have T2 : Txt2 mg := ⟨⟨_, PySem.W.mg_of X G g6⟩, ⟨_, PySem.W.mg_of X G g7⟩, ⟨_, PySem.W.mg_of X G g8⟩, ⟨_, PySem.W.mg_of X G g9⟩, ⟨_, PySem.W.mg_of X G g10⟩, ⟨_, PySem.W.mg_of X G g11⟩, ⟨_, PySem.W.mg_of X G g12⟩, ⟨_, PySem.W.mg_of X G g13⟩⟩
  have T3 : Txt3 K mg := ⟨⟨_, PySem.W.mg_of X G g14⟩, ⟨_, PySem.W.mg_of X G g15⟩, ⟨_, PySem.W.mg_of X G g16⟩, ⟨_, PySem.W.mg_of X G g17⟩, ⟨_, PySem.W.mg_of X G g18⟩, ⟨_, PySem.W.mg_of X G g19⟩, ⟨_, PySem.W.mg_of X G g20⟩, ⟨_, PySem.W.mg_of X G g21⟩, ⟨_, PySem.W.mg_of X G g22⟩⟩
  have how : ∃ q, mg "HOW_MANY_GIVEN" = some (.ref q) ∧ ∀ H, SqT K H q [V.int 1, V.int 2, V.int 2, V.int 1, V.int 0, V.int 0, V.int 1, V.int 0, V.int 0, V.int 1] :=
    ⟨q1, PySem.W.mg_of X G aT1, fun H => .inr ⟨_, _, _, lT1, rfl, rfl, by show 10 ≤ sizeLine; decide, (.cons ⟨_, rfl⟩ (.cons ⟨_, rfl⟩ (.cons ⟨_, rfl⟩ (.cons ⟨_, rfl⟩ (.cons ⟨_, rfl⟩ (.cons ⟨_, rfl⟩ (.cons ⟨_, rfl⟩ (.cons ⟨_, rfl⟩ (.cons ⟨_, rfl⟩ (.cons ⟨_, rfl⟩ .nil))))))))))⟩⟩
  refine ⟨PySem.W.fnOf "answers" "answers" (defArgs sAll) (defBody sAll) (defScope sAll) .none kV36 dc36 pm36 an36 cd36 ct36, fun s us hu => by obtain ⟨a, rfl⟩ := len1 hu; exact .of_eq rfl, fun base _ _ => ?_⟩
  have GL : FnOk P w K mg base CX0 1 _ _ _ _ := ok_lay F2 T
  have GS : FnOk P w K mg base CX0 2 _ _ _ _ := ok_set F14 T F11 (b11) ⟨a11, i11, k11⟩ F13 (b13) ⟨a13, i13, k13⟩
  have GM : FnOk P w K mg base CX0 3 _ _ _ _ := ok_make F10 T (ok_turn F9 T) (b9) ⟨a9, i9, k9⟩ GS (b14) ⟨a14, i14, k14⟩
  have GU : FnOk P w K mg base CX0 1 _ _ _ _ := ok_unf F5 T
  have GA : FnOk P w K mg base CX0 3 _ _ _ _ := ok_add F6 T GS (b14) ⟨a14, i14, k14⟩
  have A1 : FnOk P w K mg base CX0 2 _ _ _ _ := ok_atab F25 T T2 GL (b2) ⟨a2, i2, k2⟩
  have A2 : FnOk P w K mg base CX0 4 _ _ _ _ := ok_awis F26 T T2 (ok_wan F4 T) (b4) ⟨a4, i4, k4⟩ GA (b6) ⟨a6, i6, k6⟩
  have A3 : FnOk P w K mg base CX0 8 _ _ _ _ := ok_abeh F27 T T2 (ok_has F3 T) (b3) ⟨a3, i3, k3⟩ (ok_beh F8 T b8 ⟨a8, i8, k8⟩ 6) (b8) ⟨a8, i8, k8⟩ (ok_put F7 T) (b7) ⟨a7, i7, k7⟩
  have A4 : FnOk P w K mg base CX0 4 _ _ _ _ := ok_astp F28 T T2 GU (b5) ⟨a5, i5, k5⟩ GM (b10) ⟨a10, i10, k10⟩
  have A5 : FnOk P w K mg base CX0 2 _ _ _ _ := ok_asta F29 T GU (b5) ⟨a5, i5, k5⟩
  have MR : Mk K D f15 := ⟨mkD, a15, i15, kcD⟩
  have GRI : FnOk P w K mg base CX0 1 _ _ _ _ := ok_rin F15 TP
  have GN : FnOk P w K mg base CX0 1 _ _ _ _ := ok_now F16 T TP
  have GAf : FnOk P w K mg base CX0 3 _ _ _ _ := ok_aft F17 T TP (ok_turn F9 T) (b9) ⟨a9, i9, k9⟩ GS (b14) ⟨a14, i14, k14⟩
  have GE : FnOk P w K mg base CX0 1 _ _ _ _ := ok_end F18 T
  have GWa : FnOk P w K mg base CX0 1 _ _ _ _ := ok_wai F19
  have GTo : FnOk P w K mg base CX0 3 _ _ _ _ := ok_tog F20 TP MR GRI b15
  have GWy : FnOk P w K mg base CX0 4 _ _ _ _ := ok_way F21 T TP MR GRI b15 GAf b17 (PySem.W.mg_of X G a17) k17
  have GLo : FnOk P w K mg base CX0 5 _ _ _ _ := ok_lon F22 GWy b21 (PySem.W.mg_of X G a21) k21 GTo b20 (PySem.W.mg_of X G a20) k20
  have GFe : FnOk P w K mg base CX0 6 _ _ _ _ := ok_few F23 T TP MR GRI b15 GN b16 (PySem.W.mg_of X G a16) k16 GE b18 (PySem.W.mg_of X G a18) k18 GTo b20 (PySem.W.mg_of X G a20) k20 GLo b22 (PySem.W.mg_of X G a22) k22
  have GLe : FnOk P w K mg base CX0 4 _ _ _ _ := ok_lea (R := D) F24 T GN b16 (PySem.W.mg_of X G a16) k16 GE b18 (PySem.W.mg_of X G a18) k18 GWa b19 (PySem.W.mg_of X G a19) k19 GAf b17 (PySem.W.mg_of X G a17) k17
  have A6 : FnOk P w K mg base CX0 2 _ _ _ _ := ok_aope F30 T GU (b5) ⟨a5, i5, k5⟩ (ok_free F13 T) (b13) ⟨a13, i13, k13⟩
  have A7 : FnOk P w K mg base CX0 2 _ _ _ _ := ok_asoo F31 T T2 (ok_has F3 T) (b3) ⟨a3, i3, k3⟩ (ok_till F12 T TP) (b12) ⟨a12, i12, k12⟩
  have A8 : FnOk P w K mg base CX0 7 _ _ _ _ := ok_afew F32 T TP GFe b23 (PySem.W.mg_of X G a23) k23
  have A9 : FnOk P w K mg base CX0 5 _ _ _ _ := ok_alea F33 GLe b24 (PySem.W.mg_of X G a24) k24
  have A10 : FnOk P w K mg base CX0 7 _ _ _ _ := ok_afol F34 T T2 TP ⟨_, PySem.W.mg_of X G g23⟩ GFe b23 (PySem.W.mg_of X G a23) k23 GM (b10) ⟨a10, i10, k10⟩ GU (b5) ⟨a5, i5, k5⟩
  have AA : FnOk P w K mg base CX0 9 _ _ _ _ := ok_ans F35 T3 A1 b25 (PySem.W.mg_of X G a25) k25 A2 b26 (PySem.W.mg_of X G a26) k26 A3 b27 (PySem.W.mg_of X G a27) k27 A4 b28 (PySem.W.mg_of X G a28) k28 A5 b29 (PySem.W.mg_of X G a29) k29 A6 b30 (PySem.W.mg_of X G a30) k30 A7 b31 (PySem.W.mg_of X G a31) k31 A8 b32 (PySem.W.mg_of X G a32) k32 A9 b33 (PySem.W.mg_of X G a33) k33 A10 b34 (PySem.W.mg_of X G a34) k34
  have GI : FnOk P w K mg base CX0 2 _ _ _ _ := ok_init F1 T F2 b2 ⟨a2, i2, k2⟩
  exact ok_all F36 T how ⟨mkC, a1, i1, kcC⟩ GI b1 AA b35 (PySem.W.mg_of X G a35) k35
end Tt
open PySem PySem.W PyProof.Rows
set_option Elab.async false
set_option compiler.extract_closed false
set_option genSizeOf false
set_option maxRecDepth 100000 in
set_option maxHeartbeats 0 in
theorem PySem.Challenge.cw_turningtray_s01_answers_holds : PySem.Challenge.rw_turningtray_s01_answers.Holds := by
  w_on; k_headS; (case hw => exact ⟨[.list [.int 4]], by decide +kernel, by decide +kernel⟩)
  k_fillS
  refine L2.walk_specK (r := PySem.Challenge.rw_turningtray_s01_answers) (k := 10) (CX := L2.CX0) (ps := ["calls"]) (sp := fun K => Tt.spAll K 9) (by decide +kernel) rfl rfl ⟨rfl, by decide, by decide⟩ (fun w h Y => PySem.W.kIn_of Y) ?F ?S (fun _ _ _ _ z => z)
  case F =>
    intro w mg fa h Y KX G hmg
    refine' Tt.all_mk KX G hmg ?aC ?aD ?a1 ?i1 ?l1 ?c1 ?k1 ?a2 ?i2 ?l2 ?c2 ?k2 ?a3 ?i3 ?l3 ?c3 ?k3 ?a4 ?i4 ?l4 ?c4 ?k4 ?a5 ?i5 ?l5 ?c5 ?k5 ?a6 ?i6 ?l6 ?c6 ?k6 ?a7 ?i7 ?l7 ?c7 ?k7 ?a8 ?i8 ?l8 ?c8 ?k8 ?a9 ?i9 ?l9 ?c9 ?k9 ?a10 ?i10 ?l10 ?c10 ?k10 ?a11 ?i11 ?l11 ?c11 ?k11 ?a12 ?i12 ?l12 ?c12 ?k12 ?a13 ?i13 ?l13 ?c13 ?k13 ?a14 ?i14 ?l14 ?c14 ?k14 ?a15 ?i15 ?l15 ?c15 ?k15 ?a16 ?l16 ?c16 ?k16 ?a17 ?l17 ?c17 ?k17 ?a18 ?l18 ?c18 ?k18 ?a19 ?l19 ?c19 ?k19 ?a20 ?l20 ?c20 ?k20 ?a21 ?l21 ?c21 ?k21 ?a22 ?l22 ?c22 ?k22 ?a23 ?l23 ?c23 ?k23 ?a24 ?l24 ?c24 ?k24 ?a25 ?l25 ?c25 ?k25 ?a26 ?l26 ?c26 ?k26 ?a27 ?l27 ?c27 ?k27 ?a28 ?l28 ?c28 ?k28 ?a29 ?l29 ?c29 ?k29 ?a30 ?l30 ?c30 ?k30 ?a31 ?l31 ?c31 ?k31 ?a32 ?l32 ?c32 ?k32 ?a33 ?l33 ?c33 ?k33 ?a34 ?l34 ?c34 ?k34 ?a35 ?l35 ?c35 ?k35 ?a36 ?l36 ?c36 ?k36 ?pgC ?hdC ?poC ?saC ?mkC ?kcC ?nC1 ?nC2 ?nC3 ?nC4 ?nC5 ?nC6 ?pgD ?hdD ?poD ?saD ?mkD ?kcD ?nD1 ?nD2 ?g1 ?g2 ?g3 ?g4 ?g5 ?g6 ?g7 ?g8 ?g9 ?g10 ?g11 ?g12 ?g13 ?g14 ?g15 ?g16 ?g17 ?g18 ?g19 ?g20 ?g21 ?g22 ?g23 ?z1 ?z2 ?z3 ?z4 ?z5 ?z6 ?z7 ?z8 ?aT1 ?lT1
    (case aC => k_is)
    (case aD => k_is)
    (case a1 => k_is)
    (case i1 => k_is)
    (case l1 => k_is)
    (case c1 => k_is)
    (case k1 => k_is)
    (case a2 => k_is)
    (case i2 => k_is)
    (case l2 => k_is)
    (case c2 => k_is)
    (case k2 => k_is)
    (case a3 => k_is)
    (case i3 => k_is)
    (case l3 => k_is)
    (case c3 => k_is)
    (case k3 => k_is)
    (case a4 => k_is)
    (case i4 => k_is)
    (case l4 => k_is)
    (case c4 => k_is)
    (case k4 => k_is)
    (case a5 => k_is)
    (case i5 => k_is)
    (case l5 => k_is)
    (case c5 => k_is)
    (case k5 => k_is)
    (case a6 => k_is)
    (case i6 => k_is)
    (case l6 => k_is)
    (case c6 => k_is)
    (case k6 => k_is)
    (case a7 => k_is)
    (case i7 => k_is)
    (case l7 => k_is)
    (case c7 => k_is)
    (case k7 => k_is)
    (case a8 => k_is)
    (case i8 => k_is)
    (case l8 => k_is)
    (case c8 => k_is)
    (case k8 => k_is)
    (case a9 => k_is)
    (case i9 => k_is)
    (case l9 => k_is)
    (case c9 => k_is)
    (case k9 => k_is)
    (case a10 => k_is)
    (case i10 => k_is)
    (case l10 => k_is)
    (case c10 => k_is)
    (case k10 => k_is)
    (case a11 => k_is)
    (case i11 => k_is)
    (case l11 => k_is)
    (case c11 => k_is)
    (case k11 => k_is)
    (case a12 => k_is)
    (case i12 => k_is)
    (case l12 => k_is)
    (case c12 => k_is)
    (case k12 => k_is)
    (case a13 => k_is)
    (case i13 => k_is)
    (case l13 => k_is)
    (case c13 => k_is)
    (case k13 => k_is)
    (case a14 => k_is)
    (case i14 => k_is)
    (case l14 => k_is)
    (case c14 => k_is)
    (case k14 => k_is)
    (case a15 => k_is)
    (case i15 => k_is)
    (case l15 => k_is)
    (case c15 => k_is)
    (case k15 => k_is)
    (case a16 => k_is)
    (case l16 => k_is)
    (case c16 => k_is)
    (case k16 => k_is)
    (case a17 => k_is)
    (case l17 => k_is)
    (case c17 => k_is)
    (case k17 => k_is)
    (case a18 => k_is)
    (case l18 => k_is)
    (case c18 => k_is)
    (case k18 => k_is)
    (case a19 => k_is)
    (case l19 => k_is)
    (case c19 => k_is)
    (case k19 => k_is)
    (case a20 => k_is)
    (case l20 => k_is)
    (case c20 => k_is)
    (case k20 => k_is)
    (case a21 => k_is)
    (case l21 => k_is)
    (case c21 => k_is)
    (case k21 => k_is)
    (case a22 => k_is)
    (case l22 => k_is)
    (case c22 => k_is)
    (case k22 => k_is)
    (case a23 => k_is)
    (case l23 => k_is)
    (case c23 => k_is)
    (case k23 => k_is)
    (case a24 => k_is)
    (case l24 => k_is)
    (case c24 => k_is)
    (case k24 => k_is)
    (case a25 => k_is)
    (case l25 => k_is)
    (case c25 => k_is)
    (case k25 => k_is)
    (case a26 => k_is)
    (case l26 => k_is)
    (case c26 => k_is)
    (case k26 => k_is)
    (case a27 => k_is)
    (case l27 => k_is)
    (case c27 => k_is)
    (case k27 => k_is)
    (case a28 => k_is)
    (case l28 => k_is)
    (case c28 => k_is)
    (case k28 => k_is)
    (case a29 => k_is)
    (case l29 => k_is)
    (case c29 => k_is)
    (case k29 => k_is)
    (case a30 => k_is)
    (case l30 => k_is)
    (case c30 => k_is)
    (case k30 => k_is)
    (case a31 => k_is)
    (case l31 => k_is)
    (case c31 => k_is)
    (case k31 => k_is)
    (case a32 => k_is)
    (case l32 => k_is)
    (case c32 => k_is)
    (case k32 => k_is)
    (case a33 => k_is)
    (case l33 => k_is)
    (case c33 => k_is)
    (case k33 => k_is)
    (case a34 => k_is)
    (case l34 => k_is)
    (case c34 => k_is)
    (case k34 => k_is)
    (case a35 => k_is)
    (case l35 => k_is)
    (case c35 => k_is)
    (case k35 => k_is)
    (case a36 => k_is)
    (case l36 => k_is)
    (case c36 => k_is)
    (case k36 => k_is)
    (case pgC => k_is)
    (case hdC => k_is)
    (case poC => k_is)
    (case saC => k_is)
    (case mkC => k_is)
    (case kcC => k_is)
    (case nC1 => k_is)
    (case nC2 => k_is)
    (case nC3 => k_is)
    (case nC4 => k_is)
    (case nC5 => k_is)
    (case nC6 => k_is)
    (case pgD => k_is)
    (case hdD => k_is)
    (case poD => k_is)
    (case saD => k_is)
    (case mkD => k_is)
    (case kcD => k_is)
    (case nD1 => k_is)
    (case nD2 => k_is)
    (case g1 => k_is)
    (case g2 => k_is)
    (case g3 => k_is)
    (case g4 => k_is)
    (case g5 => k_is)
    (case g6 => k_is)
    (case g7 => k_is)
    (case g8 => k_is)
    (case g9 => k_is)
    (case g10 => k_is)
    (case g11 => k_is)
    (case g12 => k_is)
    (case g13 => k_is)
    (case g14 => k_is)
    (case g15 => k_is)
    (case g16 => k_is)
    (case g17 => k_is)
    (case g18 => k_is)
    (case g19 => k_is)
    (case g20 => k_is)
    (case g21 => k_is)
    (case g22 => k_is)
    (case g23 => k_is)
    (case z1 => k_is)
    (case z2 => k_is)
    (case z3 => k_is)
    (case z4 => k_is)
    (case z5 => k_is)
    (case z6 => k_is)
    (case z7 => k_is)
    (case z8 => k_is)
    (case aT1 => k_is)
    (case lT1 => k_is)
  case S =>
    intro K H xs a hO hwi hask hx
    cases hx with
    | cons h1 h2 =>
      cases h2
      cases h1 with
      | lst hs ha =>
        have e := L2.ints_dw a.1 _ ha
        subst e
        have q : ((Codec.inLen 0 120 a.1 && a.1.all (Codec.inInt 0 4294967295)) && true) = true := hwi
        rw [Bool.and_eq_true, Bool.and_eq_true] at q
        have hask : PyUw77.answers_asked a.1 = true := hask
        obtain ⟨cs, hC, eo, hL⟩ := Ma.asked_calls hask
        refine ⟨_, a.1, cs, rfl, hs, (Codec.inNat_iff.mp q.1.1).2, fun y hy => ?_, hC, Tt.calls_le hC, hL, fun H' p hp => ?_⟩
        · have := List.all_eq_true.mp q.1.2 y hy
          exact Codec.inInt_iff.mp this
        · rw [← eo] at hp
          exact .lst (L2.SqL.of hp) (L2.dw_ints _)
#print axioms PySem.Challenge.cw_turningtray_s01_answers_holds
