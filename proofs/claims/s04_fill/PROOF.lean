import PyProof.Rows.All
import Wide.All
import OpenK.AllK
import Wide.FinOn
import PyProof.EqAt
import PyProof.EqKinds
import PyProof.TupleCall
import KE.BitLaws
import Open.SpecLaws
import KE.OsHead
import KE.OsGo
import KE.KTryMore
import KE.KMinBuiltin
import KE.KDictList
import Sa63Spec
import PySa63
import PySem.Challenge.RW_solidlayers_s04_fill
import KE.KDictSum
import KE.KDictLaws
import KE.KSortTupG
import PyProof.Rows.SortShellAny
import KE.RegKTryMore
section
-- CHANGE: your row's module here, as the last of these rows
set_option Elab.async false
set_option linter.all false
set_option maxRecDepth 100000
namespace L2
open PySem PySem.Spec PyProof.Rows

/-- a key: an int or a str -/
abbrev Key := Sum Int Str
def keyIs : Key → Value → Bool
  | .inl k, v => Value.isInt k v
  | .inr x, v => Value.isStrOf x v
def keyH (w : World) : Key → Int
  | .inl k => hashInt k
  | .inr x => hashStr w x
theorem keyIs_shape : ∀ {k : Key} {v : Value}, keyIs k v = true → (∃ i t, k = Sum.inl i ∧ v = Value.int i t) ∨ (∃ x t, k = Sum.inr x ∧ v = Value.str x t)
  | .inl i, v, h => by
    obtain ⟨t, e⟩ := Value.isInt_shape (k := i) (v := v) h
    exact .inl ⟨i, t, rfl, e⟩
  | .inr x, v, h => by
    obtain ⟨t, e⟩ := Value.isStrOf_shape (x := x) (v := v) h
    exact .inr ⟨x, t, rfl, e⟩
theorem keyIs_int (i : Int) (t : Tok) : keyIs (.inl i) (.int i t) = true := by simp [keyIs, Value.isInt]
theorem keyIs_str (x : Str) (t : Tok) : keyIs (.inr x) (.str x t) = true := by simp [keyIs, Value.isStrOf]
theorem key_ll (a b : Int) : decide ((Sum.inl a : Key) = Sum.inl b) = (a == b) := by
  by_cases e : a = b
  · subst e; simp
  · have h : ¬ (Sum.inl a : Key) = Sum.inl b := fun q => e (Sum.inl.inj q)
    rw [decide_eq_false h]
    exact (beq_eq_false_iff_ne.mpr e).symm
theorem key_rr (a b : Str) : decide ((Sum.inr a : Key) = Sum.inr b) = decide (a = b) := by
  by_cases e : a = b
  · subst e; simp
  · have h : ¬ (Sum.inr a : Key) = Sum.inr b := fun q => e (Sum.inr.inj q)
    rw [decide_eq_false h, decide_eq_false e]
theorem key_lr (a : Int) (b : Str) : decide ((Sum.inl a : Key) = Sum.inr b) = false := decide_eq_false (fun q => nomatch q)
theorem key_rl (a : Str) (b : Int) : decide ((Sum.inr a : Key) = Sum.inl b) = false := decide_eq_false (fun q => nomatch q)

def mixKind (prog : Program) (w : World) : PySem.KeyKind prog w Key where
  is := keyIs
  hash := keyH w
  inj := fun v a b ha hb => by
    rcases keyIs_shape ha with ⟨i, t, rfl, rfl⟩ | ⟨x, t, rfl, rfl⟩
    · rcases keyIs_shape hb with ⟨j, u, rfl, e⟩ | ⟨y, u, rfl, e⟩
      · injection e with e1 _; rw [e1]
      · exact nomatch e
    · rcases keyIs_shape hb with ⟨j, u, rfl, e⟩ | ⟨y, u, rfl, e⟩
      · exact nomatch e
      · injection e with e1 _; rw [e1]
  byValue := fun k v h => by
    rcases keyIs_shape h with ⟨i, t, rfl, rfl⟩ | ⟨x, t, rfl, rfl⟩ <;> rfl
  pyHash := fun hv h => by
    rcases keyIs_shape hv with ⟨i, t, rfl, rfl⟩ | ⟨x, t, rfl, rfl⟩
    · exact wpAny_pyHash_int h
    · exact wpAny_pyHash_str h
  eqBool := fun hu hv h => by
    rcases keyIs_shape hu with ⟨i, t, rfl, rfl⟩ | ⟨x, t, rfl, rfl⟩
    · rcases keyIs_shape hv with ⟨j, u, rfl, rfl⟩ | ⟨y, u, rfl, rfl⟩
      · rw [key_ll] at h; exact wpAny_eqBool_int h
      · rw [key_lr] at h; exact SeqAt.EqAt.int_str i t y u _ _ _ _ h
    · rcases keyIs_shape hv with ⟨j, u, rfl, rfl⟩ | ⟨y, u, rfl, rfl⟩
      · rw [key_rl] at h; exact SeqAt.EqAt.str_int x t j u _ _ _ _ h
      · rw [key_rr] at h; exact wpAny_eqBool_str h
  «strs» := fun k x t v h => by
    rcases keyIs_shape h with ⟨i, u, rfl, e⟩ | ⟨y, u, rfl, e⟩
    · exact nomatch e
    · injection e with e1 _
      subst e1
      cases v <;> rfl

theorem mixKind_int (prog : Program) (w : World) (i : Int) (t : Tok) : (mixKind prog w).is (.inl i) (.int i t) = true := keyIs_int i t
theorem mixKind_str (prog : Program) (w : World) (x : Str) (t : Tok) : (mixKind prog w).is (.inr x) (.str x t) = true := keyIs_str x t
section
variable {prog : Program} {w : World} {K : Type} [DecidableEq K]
inductive NestItems (knd : KeyKind prog w K) (h : Heap) : List (List K) → List Value → Prop
  | nil : NestItems knd h [] []
  | cons {ks : List K} {b : Addr} {kss : List (List K)} {vs : List Value} : IsTupleKey knd h ks b → NestItems knd h kss vs → NestItems knd h (ks :: kss) (.ref b :: vs)
def IsNestKey (knd : KeyKind prog w K) (h : Heap) (kss : List (List K)) (a : Addr) : Prop := ∃ o items n, h.get? a = some o ∧ o.cls = .type "tuple" ∧ o.data = .seq items n ∧ NestItems knd h kss items.toList
variable {knd : KeyKind prog w K}
theorem NestItems.inj {h : Heap} {x y : List (List K)} {vs : List Value} (hx : NestItems knd h x vs) (hy : NestItems knd h y vs) : x = y := by
  induction hx generalizing y with
  | nil => cases hy; rfl
  | cons h1 _ ih =>
    cases hy with
    | cons h2 t2 => rw [h1.inj h2, ih t2]
theorem IsNestKey.typeIs {s : Shared} {kss : List (List K)} {a : Addr} (x : IsNestKey knd s.heap kss a) : s.TypeIs (.ref a) "tuple" := let ⟨o, _, _, ho, hc, _⟩ := x; ⟨o, ho, hc⟩
theorem IsNestKey.inj {h : Heap} {a : Addr} {x y : List (List K)} (hx : IsNestKey knd h x a) (hy : IsNestKey knd h y a) : x = y := by
  obtain ⟨o, items, n, ho, _, hd, hi⟩ := hx
  obtain ⟨o', items', n', ho', _, hd', hi'⟩ := hy
  obtain rfl : o = o' := Option.some.inj (ho.symm.trans ho')
  rw [hd] at hd'
  injection hd' with h1 _
  subst h1
  exact hi.inj hi'
theorem IsNestKey.keeps {h h' : Heap} {kss : List (List K)} {a d : Addr} {o : Obj} {es ep} (x : IsNestKey knd h kss a) (ho : h.get? d = some o) (hd : o.data = .dict es ep) (hs : Heap.SameBut d h h') :
    IsNestKey knd h' kss a := by
  obtain ⟨o', items, n, ho', hc, hd', hi⟩ := x
  have hne : a ≠ d := by
    rintro rfl
    obtain rfl : o' = o := Option.some.inj (ho'.symm.trans ho)
    rw [hd] at hd'; exact nomatch hd'
  refine ⟨o', items, n, (hs.2 a hne).trans ho', hc, hd', ?_⟩
  clear hd' ho'
  generalize items.toList = l at hi
  induction hi with
  | nil => exact .nil
  | cons h1 _ ih => exact .cons (h1.keeps ho hd hs) ih
def nestHash (knd : KeyKind prog w K) (kss : List (List K)) : Int := reduceHash (Builtin.Tuple.tupleHashOf (kss.map (tupleKeyHash knd)))
def nestDraws (kss : List (List K)) : Nat := (kss.map fun ks => ks.length + 1).sum
variable {A : Around} {E : Value → Shared → Prop} {s : Shared}
theorem pyHash_nest {kss : List (List K)} {a : Addr} {Q : Int → Shared → Prop} (hu : A.units + 2 < cLine) (hk : IsNestKey knd s.heap kss a) (h : Q (nestHash knd kss) { s with toks := s.toks + (nestDraws kss + 1) }) :
    wpAny (model prog w) A (pyHash (.ref a)) Q E s := by
  have hT := hk.typeIs
  obtain ⟨o, items, n, ho, _, hd, hi⟩ := hk
  unfold pyHash
  first | unfold pyHashByItsType | skip
  first | refine wpAny_bind (wpAny_cRoomFor_or (.inr (by omega)) ?_) | skip
  refine wpAny_bind (wpAny_specialOf hT F.slot_tuple_hash.lookup ?_)
  show wpAny _ _ (if (some (Value.builtin "tuple.__hash__") == some Value.none) = true then _ else _) Q E s
  rw [if_neg (by rw [beq_builtin_none]; exact Bool.false_ne_true)]
  refine wpAny_bind (wpAny_specialOf hT F.slot_tuple_hash.lookup ?_)
  show wpAny _ _ (callSpecialIfBoundUnlessNone? (.ref a) "__hash__" _ >>= _) Q E s
  refine wpAny_bind (wpAny_callSpecialIfBoundUnlessNone?_slot hT F.slot_tuple_hash (wpAny_call_entry F.slot_tuple_hash hT F.entry_tuple_hash ?_ (F.args_tuple_hash_1 _)))
  show wpAny _ _ (Builtin.Tuple.tupleItemsOf (.ref a) >>= _) _ _ s
  refine wpAny_bind (wpAny_tupleItemsOf ho hd ?_)
  refine wpAny_bind ?_
  rw [← Array.forIn_toList]
  refine wpAny_forIn_list _
    (fun rest (b : Array Int) s' => ∃ done left, kss = done ++ left ∧ NestItems knd s.heap left rest ∧ b.toList = done.map (tupleKeyHash knd) ∧ s' = { s with toks := s.toks + nestDraws done })
    _ ?_ ?_ _ _ ⟨[], kss, rfl, hi, rfl, rfl⟩
  · rintro x rest b s' ⟨done, left, rfl, hl, hb, rfl⟩
    cases hl with
    | @cons k _ ks' _ h1 hl' =>
      refine wpAny_bind (wpAny_pyHash_tuple (knd := knd) (by show A.units + 1 < cLine; omega) h1 ?_)
      have e : nestDraws (done ++ [k]) = nestDraws done + (k.length + 1) := by unfold nestDraws; simp
      first
        | exact wpAny_pure ⟨done ++ [k], ks', by simp, hl', by simp [hb], by simp [e, Nat.add_assoc]⟩
        | exact wpAny_bind (wpAny_pure (wpAny_pure ⟨done ++ [k], ks', by simp, hl', by simp [hb], by simp [e, Nat.add_assoc]⟩))
  · rintro b s' ⟨done, left, rfl, hl, hb, rfl⟩
    cases hl
    rw [List.append_nil] at h
    show wpAny _ _ (retInt (Builtin.Tuple.tupleHashOf b.toList)) _ _ _
    rw [hb]
    refine wpAny_ret_mkInt ?_
    show wpAny _ _ (if (decide (-(2 : Int) ^ 63 ≤ Builtin.Tuple.tupleHashOf (done.map (tupleKeyHash knd))) && decide (Builtin.Tuple.tupleHashOf (done.map (tupleKeyHash knd)) < 2 ^ 63)) = true then _ else _) Q E _
    unfold nestHash reduceHash at h
    by_cases hr : (decide (-(2 : Int) ^ 63 ≤ Builtin.Tuple.tupleHashOf (done.map (tupleKeyHash knd))) && decide (Builtin.Tuple.tupleHashOf (done.map (tupleKeyHash knd)) < 2 ^ 63)) = true
    · rw [if_pos hr]
      rw [if_pos hr] at h
      exact wpAny_pure (by simpa [Nat.add_assoc] using h)
    · rw [if_neg hr]
      rw [if_neg hr] at h
      exact wpAny_bind (wpAny_rule (wpAny_pure (by simpa [Nat.add_assoc] using h)))
theorem nest_eq_tree {x y : List (List K)} {a b : Addr} {P : Fin → Shared → Prop} (hu : A.units < cLine) (hx : IsNestKey knd s.heap x a) (hy : IsNestKey knd s.heap y b) (h : P (.done (.ret (.bool (decide (x = y))))) s) :
    wpAny (model prog w) A (Builtin.«tuple.__eq__» ⟨[.ref a, .ref b], []⟩) P E s := by
  have hTb := hy.typeIs
  obtain ⟨oa, xs, na, hoa, _, hda, hia⟩ := hx
  obtain ⟨ob, ys, nb, hob, _, hdb, hib⟩ := hy
  show wpAny _ _ (isInstance (.ref b) (.type "tuple") >>= _) _ _ s
  refine wpAny_bind (wpAny_isInstance hTb isSubtype_tuple_tuple ?_)
  simp only [Bool.not_true, Bool.false_eq_true, if_false]
  refine wpAny_bind (wpAny_tupleItemsOf hoa hda ?_)
  refine wpAny_bind (wpAny_tupleItemsOf hob hdb ?_)
  refine wpAny_bind ?_
  refine wpAny_forIn_list _
    (fun rest r s' => r.1 = none ∧ s' = s ∧ ∃ x' y' xs' ys', rest = List.zip xs' ys' ∧ NestItems knd s.heap x' xs' ∧ NestItems knd s.heap y' ys' ∧ decide (x' = y') = decide (x = y) ∧ (xs'.length == ys'.length) = (xs.size == ys.size))
    _ ?_ ?_ _ _ ⟨rfl, rfl, x, y, xs.toList, ys.toList, rfl, hia, hib, rfl, by simp⟩
  · rintro ⟨u, v⟩ rest r s' ⟨hr, rfl, x', y', xs', ys', hz, hx', hy', hdec, hlen⟩
    cases hx' with
    | nil => simp at hz
    | @cons k1 u' x'' xs'' h1 hx'' =>
      cases hy' with
      | nil => simp at hz
      | @cons k2 v' y'' ys'' h2 hy'' =>
        simp only [List.zip_cons_cons, List.cons.injEq, Prod.mk.injEq] at hz
        obtain ⟨⟨rfl, rfl⟩, rfl⟩ := hz
        refine wpAny_bind (wpAny_eqBool_tuple (knd := knd) (x := k1) (y := k2) hu h1 h2 ?_)
        by_cases hk : k1 = k2
        · subst hk
          rw [decide_eq_true rfl]
          simp only [Bool.not_true, Bool.false_eq_true, if_false]
          refine wpAny_pure ⟨rfl, rfl, x'', y'', xs'', ys'', rfl, hx'', hy'', ?_, by simpa using hlen⟩
          rw [← hdec]
          by_cases hxy : x'' = y''
          · simp [hxy]
          · simp [hxy]
        · rw [decide_eq_false hk]
          simp only [Bool.not_false, if_true]
          have hf : decide (x = y) = false := by rw [← hdec]; simp [hk]
          rw [hf] at h
          exact wpAny_bind (wpAny_pure (wpAny_pure (wpAny_pure h)))
  · rintro ⟨r1, r2⟩ s' ⟨hr, rfl, x', y', xs', ys', hz, hx', hy', hdec, hlen⟩
    simp only at hr
    subst hr
    refine wpAny_pure ?_
    have hfin : (xs.size == ys.size) = decide (x = y) := by
      rw [← hdec, ← hlen]
      cases hx' with
      | nil =>
        cases hy' with
        | nil => simp
        | cons _ _ => simp
      | cons _ _ =>
        cases hy' with
        | nil => simp
        | cons _ _ => simp at hz
    show P (.done (.ret (.bool (xs.size == ys.size)))) s'
    rw [hfin]; exact h
theorem eqBool_nest {x y : List (List K)} {a b : Addr} {Q : Bool → Shared → Prop} (hu : A.units + 2 < cLine) (hx : IsNestKey knd s.heap x a) (hy : IsNestKey knd s.heap y b) (h : Q (decide (x = y)) s) :
    wpAny (model prog w) A (eqBool (.ref a) (.ref b)) Q E s := by
  unfold eqBool
  try with_reducible refine wpAny_holding ?_
  show wpAny _ _ (if (Value.ref a == Value.ref b) = true then _ else _) Q E s
  by_cases hab : (Value.ref a == Value.ref b) = true
  · rw [if_pos hab]
    have e : a = b := by have := eq_of_beq hab; injection this
    subst e
    obtain rfl := hx.inj hy
    exact wpAny_bind (wpAny_rule (wpAny_pure (by simpa using h)))
  · rw [if_neg hab]
    exact wpAny_bind (wpAny_richCompare_same_room (op := .Eq) hx.typeIs hy.typeIs F.slot_tuple_eq
      (wpAny_call_entry F.slot_tuple_eq hx.typeIs F.entry_tuple_eq (nest_eq_tree (by first | (show A.units + 1 < cLine; omega) | (show A.units + 2 < cLine; omega) | (show A.units < cLine; omega)) hx hy ⟨_, rfl, (fun e => nomatch e), wpAny_truthy_bool h⟩) (F.args_tuple_eq_2 _ _)) (by omega))
theorem quiet_tup (n : Nat) {ks : List K} {a : Addr} {Q : Bool → Shared → Prop} (hk : IsTupleKey knd s.heap ks a) (h : Q true s) : wpAny (model prog w) A (eqIsQuiet (n + 1) (.ref a)) Q E s := by
  have hT := hk.typeIs
  obtain ⟨o, items, m, ho, _, hd, hi⟩ := hk
  unfold eqIsQuiet
  refine wpAny_bind (wpAny_specialOf hT F.slot_tuple_eq.lookup ?_)
  show wpAny _ _ (isInstance (.ref a) (.type "tuple") >>= _) _ _ s
  refine wpAny_bind (wpAny_isInstance hT isSubtype_tuple_tuple ?_)
  simp only [Bool.not_true, Bool.false_eq_true, if_false]
  refine wpAny_bind (wpAny_seqItems ho hd ?_)
  refine wpAny_bind ?_
  show wpAny _ _ (forIn items _ _) _ _ s
  rw [← Array.forIn_toList]
  refine wpAny_forIn_list _ (fun rest r s' => r.1 = none ∧ s' = s ∧ ∀ v ∈ rest, carriedByValue v = true) _ ?_ ?_ _ _ ⟨rfl, rfl, hi.byValue⟩
  · rintro v rest r s' ⟨hr, rfl, hall⟩
    rw [eqIsQuiet_byValue _ (hall v List.mem_cons_self)]
    refine wpAny_bind (wpAny_pure ?_)
    simp only [Bool.not_true, Bool.false_eq_true, if_false]
    exact wpAny_pure ⟨rfl, rfl, fun u hu' => hall u (List.mem_cons_of_mem _ hu')⟩
  · rintro ⟨r1, r2⟩ s' ⟨hr, rfl, _⟩
    simp only at hr
    subst hr
    exact wpAny_pure h
theorem quiet_nest {kss : List (List K)} {a : Addr} {Q : Bool → Shared → Prop} (hk : IsNestKey knd s.heap kss a) (h : Q true s) : wpAny (model prog w) A (eqIsQuiet 8 (.ref a)) Q E s := by
  have hT := hk.typeIs
  obtain ⟨o, items, m, ho, _, hd, hi⟩ := hk
  unfold eqIsQuiet
  refine wpAny_bind (wpAny_specialOf hT F.slot_tuple_eq.lookup ?_)
  show wpAny _ _ (isInstance (.ref a) (.type "tuple") >>= _) _ _ s
  refine wpAny_bind (wpAny_isInstance hT isSubtype_tuple_tuple ?_)
  simp only [Bool.not_true, Bool.false_eq_true, if_false]
  refine wpAny_bind (wpAny_seqItems ho hd ?_)
  refine wpAny_bind ?_
  show wpAny _ _ (forIn items _ _) _ _ s
  rw [← Array.forIn_toList]
  refine wpAny_forIn_list _ (fun rest r s' => r.1 = none ∧ s' = s ∧ ∃ left, NestItems knd s.heap left rest) _ ?_ ?_ _ _ ⟨rfl, rfl, _, hi⟩
  · rintro v rest r s' ⟨hr, rfl, left, hl⟩
    cases hl with
    | cons h1 hl' =>
      refine wpAny_bind (quiet_tup 6 h1 ?_)
      simp only [Bool.not_true, Bool.false_eq_true, if_false]
      exact wpAny_pure ⟨rfl, rfl, _, hl'⟩
  · rintro ⟨r1, r2⟩ s' ⟨hr, rfl, _⟩
    simp only at hr
    subst hr
    exact wpAny_pure h
end
def nestKind {prog : Program} {w : World} {K : Type} [DecidableEq K] (knd : KeyKind prog w K) : HeapKind prog w (List (List K)) where
  is := IsNestKey knd
  hash := nestHash knd
  draws := fun kss => nestDraws kss + 1
  room := fun A => A.units + 2 < cLine
  inj := fun hx hy => hx.inj hy
  keeps := fun x ho hd hs => x.keeps ho hd hs
  pyHash := fun hu hk h => pyHash_nest hu hk h
  eqBool := fun hu hx hy h => eqBool_nest hu hx hy h
  quiet := fun hk h => quiet_nest hk h
end L2

namespace L2
open PySem PySem.Spec PyProof.Rows

/-- a value, without the heap -/
inductive V where
  | non | bl (b : Bool) | int (i : Int) | str (x : Str) | byt (b : Array UInt8) | flt (b : UInt64) | ref (a : Addr) | ty (n : String)
  deriving DecidableEq

def RelV : V → Value → Prop
  | .non, u => u = Value.none
  | .bl b, u => u = Value.bool b
  | .int i, u => ∃ t, u = Value.int i t
  | .str x, u => ∃ t, u = Value.str x t
  | .byt b, u => ∃ t, u = Value.bytes b t
  | .flt b, u => ∃ t, u = Value.float b t
  | .ref a, u => u = Value.ref a
  | .ty n, u => u = Value.type n

abbrev Vals : List V → List Value → Prop := Paired RelV
theorem Vals.length {xs : List V} {us : List Value} (r : Vals xs us) : xs.length = us.length := Paired.length r
theorem Vals.get : ∀ {xs : List V} {us : List Value} {i : Nat} {x : V}, Vals xs us → xs[i]? = some x → ∃ u, us[i]? = some u ∧ RelV x u
  | _, _, _, _, .nil, e => by simp at e
  | _, _, 0, _, .cons r _, e => by simp at e; subst e; exact ⟨_, rfl, r⟩
  | _, _, i + 1, x, .cons _ t, e => by
    obtain ⟨u, h1, h2⟩ := Vals.get (i := i) (x := x) t (by simpa using e)
    exact ⟨u, by simpa using h1, h2⟩
theorem Vals.append : ∀ {xs ys : List V} {us ws : List Value}, Vals xs us → Vals ys ws → Vals (xs ++ ys) (us ++ ws)
  | _, _, _, _, .nil, s => s
  | _, _, _, _, .cons r t, s => .cons r (Vals.append t s)
def RelO : Option V → Option Value → Prop
  | some v, some u => RelV v u
  | none, none => True
  | _, _ => False
def KV {κ : Type} : List (κ × V) → List (κ × Value) → Prop := Paired fun (p : κ × V) (q : κ × Value) => p.1 = q.1 ∧ RelV p.2 q.2

/-- a key of a dict (00_mix): an int or a text -/
def kV : Key → V
  | .inl i => .int i
  | .inr x => .str x

/-- what stands at a tracked address -/
inductive HO where
  /-- a list -/
  | lst (xs : List V)
  /-- a tuple (never changes) -/
  | tup (xs : List V)
  /-- a dict whose keys are ints and texts; one whose keys are tuples of ints and texts (the empty one is both) -/
  | dK (kvs : List (Key × V)) | dT (kvs : List (List Key × V))
  /-- a dict whose keys are tuples of such tuples -/
  | dN (kvs : List (List (List Key) × V))
  /-- a set of ints: its members, its size -/
  | set (S : Int → Bool) (n : Nat)
  /-- an instance of the class at C, its dict at dx, its attributes -/
  | ins (C dx : Addr) (fs : List (Str × V))
  /-- the dict of the instance at x -/
  | own (x : Addr)
  /-- the dict of an exception -/
  | xd (fs : List (Str × V))
  /-- a bound method, f of x -/
  | met (f x : Addr)
  /-- a range object lo, lo + 1, .. below hi -/
  | rng (lo hi : Int)
  /-- a thing that is known to the object (the script; a dict while a loop walks it): read, never written while it is so -/
  | frz (o : Obj) (u : HO)
  /-- a code object's table -/
  | tbl (ps : Array Value)
  /-- any other thing, by what is true of its one object (a def of one's own: SetO a S n := HO.ext fun h => ..) -/
  | ext (φ : Heap → Prop)

abbrev Hp := Addr → Option HO
/-- a tuple of tuples of ints and texts -/
def NKey (H : Hp) (kss : List (List Key)) (a : Addr) : Prop := ∃ as : List Addr, H a = some (.tup (as.map V.ref)) ∧ Paired (fun (b : Addr) (ks : List Key) => H b = some (.tup (ks.map kV))) as kss
theorem NKey.keeps {H H' : Hp} {kss : List (List Key)} {a : Addr} (h : NKey H kss a) (ht : ∀ b xs, H b = some (.tup xs) → H' b = some (.tup xs)) : NKey H' kss a := by
  obtain ⟨as, h1, h2⟩ := h
  refine ⟨as, ht _ _ h1, ?_⟩
  clear h1
  induction h2 with
  | nil => exact .nil
  | cons r _ ih => exact .cons (ht _ _ r) ih
def upd (H : Hp) (a : Addr) (o : HO) : Hp := fun b => if b = a then some o else H b
theorem upd_same {H : Hp} {a : Addr} {o : HO} : upd H a o a = some o := by unfold upd; rw [if_pos rfl]
theorem upd_ne {H : Hp} {a b : Addr} {o : HO} (h : b ≠ a) : upd H a o b = H b := by unfold upd; rw [if_neg h]
/-- two objects of different content stand apart -/
theorem ne_of {H : Hp} {a b : Addr} {o u : HO} (h : H a = some o) (h' : H b = some u) (d : o ≠ u) : a ≠ b := by
  intro e; subst e; rw [h] at h'; exact d (Option.some.inj h')
theorem ne_of_none {H : Hp} {a b : Addr} {o : HO} (h : H a = some o) (h' : H b = none) : a ≠ b := by
  intro e; subst e; rw [h] at h'; cases h'

section
variable (P : Program) (w : World)
def ObjOk (H : Hp) (h : Heap) (a : Addr) : HO → Prop
  | .lst xs => xs.length ≤ sizeLine ∧ ∃ (its : List Value) (n : Nat), Vals xs its ∧ h.get? a = some { cls := .type "list", data := .seq its.toArray n }
  | .tup xs => xs.length ≤ sizeLine ∧ ∃ its : List Value, Vals xs its ∧ IsTup h a its.toArray
  | .dK kvs => kvs.length ≤ sizeLine ∧ (a == sysModules) = false ∧ ∃ vs, KV kvs vs ∧ h.DictOf (mixKind P w) a vs
  | .dT kvs => kvs.length ≤ sizeLine ∧ (a == sysModules) = false ∧ ∃ xs : List (List Key × Addr × Value),
      Paired (fun (p : List Key × V) (q : List Key × Addr × Value) => p.1 = q.1 ∧ H q.2.1 = some (.tup (p.1.map kV)) ∧ RelV p.2 q.2.2) kvs xs ∧
      ∃ o es ep, h.get? a = some o ∧ o.ExactDict ∧ o.data = .dict es ep ∧ es.toList = xs.map (entryOfKey (tupleKind (mixKind P w))) ∧ (xs.map (·.1)).Nodup
  | .dN kvs => kvs.length ≤ sizeLine ∧ (a == sysModules) = false ∧ ∃ xs : List (List (List Key) × Addr × Value),
      Paired (fun (p : List (List Key) × V) (q : List (List Key) × Addr × Value) => p.1 = q.1 ∧ NKey H p.1 q.2.1 ∧ RelV p.2 q.2.2) kvs xs ∧
      ∃ o es ep, h.get? a = some o ∧ o.ExactDict ∧ o.data = .dict es ep ∧ es.toList = xs.map (entryOfKey (nestKind (mixKind P w))) ∧ (xs.map (·.1)).Nodup
  | .set S n => h.SetOf (intKind P w) a S n
  | .ins C dx fs => H dx = some (.own a) ∧ fs.length ≤ 1000 ∧ dx ≠ a ∧ h.get? a = some (PySem.W.instObj C dx) ∧
      ∃ mA, h.Ns1 dx mA ∧ (∀ f, RelO (fs.lookup f) (mA f)) ∧ PySem.Within mA (fs.map (·.1))
  | .own _ => ∃ o, h.get? a = some o
  | .xd fs => ∃ mA, h.Ns1 a mA ∧ ∀ f, RelO (fs.lookup f) (mA f)
  | .rng lo hi => ∃ t u v, h.get? a = some { cls := .type "range", data := .fields #[.int lo t, .int hi u, .int 1 v] }
  | .frz o u => h.get? a = some o ∧ ObjOk H h a u
  | .tbl ps => h.get? a = some { cls := .none, data := .fields ps }
  | .met f x => h.get? a = some (PySem.W.methodObj (.ref f) (.ref x))
  | .ext φ => φ h ∧ (∃ o, h.get? a = some o) ∧ ∀ h1 h2 : Heap, φ h1 → (∀ o, h1.get? a = some o → h2.get? a = some o) → φ h2
/-- the abstract heap is held -/
def HOk (H : Hp) (h : Heap) : Prop := ∀ a o, H a = some o → ObjOk P w H h a o
end

section
variable {P : Program} {w : World} {H H' : Hp} {h h' : Heap} {a : Addr} {o : HO}
theorem ObjOk.lt (x : ObjOk P w H h a o) : a < h.objs.size := by
  cases o with
  | lst xs => obtain ⟨_, _, _, _, e⟩ := x; exact Heap.lt_size e
  | tup xs => obtain ⟨_, _, _, p⟩ := x; exact p.lt
  | dK kvs => obtain ⟨_, _, _, _, o, _, _, e, _⟩ := x; exact Heap.lt_size e
  | dT kvs => obtain ⟨_, _, _, _, o, _, _, e, _⟩ := x; exact Heap.lt_size e
  | dN kvs => obtain ⟨_, _, _, _, o, _, _, e, _⟩ := x; exact Heap.lt_size e
  | set S n => obtain ⟨o, _, _, _, e, _⟩ := x; exact Heap.lt_size e
  | ins C dx fs => obtain ⟨_, _, _, e, _⟩ := x; exact Heap.lt_size e
  | own y => obtain ⟨_, e⟩ := x; exact Heap.lt_size e
  | xd fs => obtain ⟨_, ⟨_, _, _, e, _⟩, _⟩ := x; exact Heap.lt_size e
  | rng lo hi => obtain ⟨_, _, _, e⟩ := x; exact Heap.lt_size e
  | frz ob u => obtain ⟨e, _⟩ := x; exact Heap.lt_size e
  | tbl ps => exact Heap.lt_size (show h.get? a = some _ from x)
  | met f y => exact Heap.lt_size (show h.get? a = some _ from x)
  | ext φ => obtain ⟨_, ⟨_, e⟩, _⟩ := x; exact Heap.lt_size e
theorem Paired.mapP {α β : Type} {F G : α → β → Prop} : ∀ {l₁ : List α} {l₂ : List β}, Paired F l₁ l₂ → (∀ a b, F a b → G a b) → Paired G l₁ l₂
  | _, _, .nil, _ => .nil
  | _, _, .cons r t, f => .cons (f _ _ r) (Paired.mapP t f)
/-- what an object's description leans on: its own object, its own dict, the tuples -/
theorem ObjOk.stay (x : ObjOk P w H h a o) (k : ∀ b u, (b = a ∨ H b = some (.own a)) → h.get? b = some u → h'.get? b = some u)
    (ho : ∀ b, H b = some (.own a) → H' b = some (.own a)) (ht : ∀ b xs, H b = some (.tup xs) → H' b = some (.tup xs)) : ObjOk P w H' h' a o := by
  induction o with
  | lst xs => obtain ⟨z, its, n, r, e⟩ := x; exact ⟨z, its, n, r, k _ _ (.inl rfl) e⟩
  | tup xs => obtain ⟨z, its, r, ob, e, c⟩ := x; exact ⟨z, its, r, ob, k _ _ (.inl rfl) e, c⟩
  | dK kvs => obtain ⟨z, y, vs, r, ob, es, ep, e, c⟩ := x; exact ⟨z, y, vs, r, ob, es, ep, k _ _ (.inl rfl) e, c⟩
  | dT kvs =>
    obtain ⟨z, y, xs, r, ob, es, ep, e, c⟩ := x
    exact ⟨z, y, xs, Paired.mapP r fun p q z => ⟨z.1, ht _ _ z.2.1, z.2.2⟩, ob, es, ep, k _ _ (.inl rfl) e, c⟩
  | dN kvs =>
    obtain ⟨z, y, xs, r, ob, es, ep, e, c⟩ := x
    exact ⟨z, y, xs, Paired.mapP r fun p q z => ⟨z.1, z.2.1.keeps ht, z.2.2⟩, ob, es, ep, k _ _ (.inl rfl) e, c⟩
  | set S n => obtain ⟨ob, es, ep, t, e, c⟩ := x; exact ⟨ob, es, ep, t, k _ _ (.inl rfl) e, c⟩
  | ins C dx fs =>
    obtain ⟨d, z, ne, e, mA, ⟨od, es, ep, e2, c⟩, r⟩ := x
    exact ⟨ho _ d, z, ne, k _ _ (.inl rfl) e, mA, ⟨od, es, ep, k _ _ (.inr d) e2, c⟩, r⟩
  | own y => obtain ⟨ob, e⟩ := x; exact ⟨ob, k _ _ (.inl rfl) e⟩
  | xd fs => obtain ⟨mA, ⟨od, es, ep, e, c⟩, r⟩ := x; exact ⟨mA, ⟨od, es, ep, k _ _ (.inl rfl) e, c⟩, r⟩
  | rng lo hi => obtain ⟨t, u, v, e⟩ := x; exact ⟨t, u, v, k _ _ (.inl rfl) e⟩
  | frz ob u ih => obtain ⟨e, q⟩ := x; exact ⟨k _ _ (.inl rfl) e, ih q⟩
  | tbl ps =>
    have e : h.get? a = some { cls := .none, data := .fields ps } := x
    show h'.get? a = some { cls := .none, data := .fields ps }
    exact k a _ (.inl rfl) e
  | met f y =>
    have e : h.get? a = some (PySem.W.methodObj (.ref f) (.ref y)) := x
    show h'.get? a = some (PySem.W.methodObj (.ref f) (.ref y))
    exact k a _ (.inl rfl) e
  | ext φ => obtain ⟨p, ⟨o, e⟩, st⟩ := x; exact ⟨st _ _ p fun o q => k _ _ (.inl rfl) q, ⟨o, k _ _ (.inl rfl) e⟩, st⟩
theorem HOk.lt (x : HOk P w H h) (e : H a = some o) : a < h.objs.size := (x a o e).lt
theorem HOk.fresh (x : HOk P w H h) (e : h.objs.size ≤ a) : H a = none := by
  cases q : H a with
  | none => rfl
  | some u => exact absurd (Nat.lt_of_lt_of_le (x.lt q) e) (Nat.lt_irrefl _)
/-- every object of the heap is kept -/
theorem HOk.kept (x : HOk P w H h) (k : ∀ b u, h.get? b = some u → h'.get? b = some u) : HOk P w H h' := fun a o e =>
  (x a o e).stay (fun b u _ q => k b u q) (fun _ q => q) fun _ _ q => q
/-- a new object is laid and tracked -/
theorem HOk.laid (x : HOk P w H h) (k : ∀ b u, h.get? b = some u → h'.get? b = some u) (hp : h.objs.size ≤ a) (new : ObjOk P w (upd H a o) h' a o) : HOk P w (upd H a o) h' := fun b u e => by
  have hn := x.fresh hp
  by_cases hb : b = a
  · subst hb; rw [upd_same] at e; cases e; exact new
  · rw [upd_ne hb] at e
    exact (x b u e).stay (fun c v _ q => k c v q) (fun c q => by rw [upd_ne (ne_of_none q hn)]; exact q) fun c xs q => by rw [upd_ne (ne_of_none q hn)]; exact q
end

/-- what may be read as u: it is u, or a known u -/
def Rd (H : Hp) (a : Addr) (u : HO) : Prop := H a = some u ∨ ∃ o, H a = some (.frz o u)
theorem Rd.ok {P : Program} {w : World} {H : Hp} {h : Heap} {a : Addr} {u : HO} (r : Rd H a u) (x : HOk P w H h) : ObjOk P w H h a u := by
  rcases r with r | ⟨o, r⟩
  · exact x a u r
  · obtain ⟨_, q⟩ := x a _ r
    exact q
/-- what may be written -/
def Mut : Option HO → Prop
  | some (.lst _) => True
  | some (.dK _) => True
  | some (.dT _) => True
  | some (.dN _) => True
  | some (.set _ _) => True
  | some (.ins _ _ _) => True
  | some (.ext _) => True
  | _ => False
section
variable {P : Program} {w : World} {H : Hp} {h h' : Heap} {x e : Addr} {o' : HO}
/-- the object at e is changed: x itself, or the dict of the instance x -/
theorem HOk.write (ok : HOk P w H h) (mu : Mut (H x)) (he : e = x ∨ H e = some (.own x)) (k : ∀ b u, b ≠ e → h.get? b = some u → h'.get? b = some u) (heo : ∃ u, h'.get? e = some u)
    (new : ObjOk P w (upd H x o') h' x o') : HOk P w (upd H x o') h' := fun b u q => by
  have nown : ∀ c y, H c = some (.own y) → c ≠ x := fun c y r z => by subst z; rw [r] at mu; exact mu
  have ntup : ∀ c xs, H c = some (.tup xs) → c ≠ x := fun c xs r z => by subst z; rw [r] at mu; exact mu
  by_cases hb : b = x
  · subst hb; rw [upd_same] at q; cases q; exact new
  · rw [upd_ne hb] at q
    by_cases hbe : b = e
    · have q' : H b = some (.own x) := by
        rcases he with z | z
        · exact absurd (hbe.trans z) hb
        · rw [hbe]; exact z
      rw [q] at q'; cases q'
      obtain ⟨v, hv⟩ := heo
      exact ⟨v, by rw [hbe]; exact hv⟩
    · refine (ok b u q).stay (fun c v hc r => k c v ?_ r) (fun c r => by rw [upd_ne (nown c b r)]; exact r) fun c xs r => by rw [upd_ne (ntup c xs r)]; exact r
      rcases hc with rfl | hc
      · exact hbe
      · rintro rfl
        rcases he with z | z
        · exact nown c b hc z
        · rw [hc] at z; cases z; exact hb rfl
end

structure Un (fs ex : List Addr) (H H' : Hp) (h h' : Heap) : Prop where
  keep : ∀ b o, h.get? b = some o → H b = none → b ∉ fs → b ∉ ex → h'.get? b = some o
  slot : ∀ b o, h.get? b = some o → H b = none → b ∈ fs → b ∉ ex → ∃ sl, h'.get? b = some { o with slots := sl }
  free : ∀ b o, h.get? b = some o → H b = none → b ∉ ex → H' b = none
  there : ∀ b o, h.get? b = some o → b ∉ ex → ∃ o', h'.get? b = some o'
  tups : ∀ b xs, H b = some (.tup xs) → H' b = some (.tup xs)
  frzs : ∀ b o u, H b = some (.frz o u) → H' b = some (.frz o u)
  tbls : ∀ b ps, H b = some (.tbl ps) → ∃ more, H' b = some (.tbl (ps ++ more))
section
variable {fs fs' ex ex' : List Addr} {H H1 H2 : Hp} {h h1 h2 h' : Heap} {a x e : Addr} {o : HO}
theorem Un.any (u : Un fs ex H H1 h h1) {b : Addr} {ob : Obj} (q : h.get? b = some ob) (n : H b = none) (hx : b ∉ ex) : ∃ sl, h1.get? b = some { ob with slots := sl } := by
  by_cases hb : b ∈ fs
  · exact u.slot b ob q n hb hx
  · exact ⟨ob.slots, u.keep b ob q n hb hx⟩
theorem Un.kept (k : ∀ b u, h.get? b = some u → h'.get? b = some u) : Un fs ex H H h h' :=
  ⟨fun b ob q _ _ _ => k b ob q, fun b ob q _ _ _ => ⟨ob.slots, k b ob q⟩, fun _ _ _ n _ => n, fun b ob q _ => ⟨ob, k b ob q⟩, fun _ _ q => q, fun _ _ _ q => q, fun _ ps q => ⟨#[], by rw [q]; simp⟩⟩
theorem Un.refl : Un fs ex H H h h := Un.kept fun _ _ q => q
theorem Un.laid (k : ∀ b u, h.get? b = some u → h'.get? b = some u) (hp : h.objs.size ≤ a) (hn : H a = none) : Un fs ex H (upd H a o) h h' where
  keep := fun b u q _ _ _ => k b u q
  slot := fun b u q _ _ _ => ⟨u.slots, k b u q⟩
  free := fun b u q n _ => by rw [upd_ne (Nat.ne_of_lt (Nat.lt_of_lt_of_le (Heap.lt_size q) hp))]; exact n
  there := fun b u q _ => ⟨u, k b u q⟩
  tups := fun b xs q => by rw [upd_ne (ne_of_none q hn)]; exact q
  frzs := fun b u xs q => by rw [upd_ne (ne_of_none q hn)]; exact q
  tbls := fun b ps q => ⟨#[], by rw [upd_ne (ne_of_none q hn), q]; simp⟩
theorem Un.write (mu : Mut (H x)) (he : e = x ∨ H e = some (.own x)) (k : ∀ b u, b ≠ e → h.get? b = some u → h'.get? b = some u) (heo : ∃ u, h'.get? e = some u) : Un fs ex H (upd H x o) h h' := by
  have hx : ∀ b, H b = none → b ≠ x := fun b n z => by subst z; rw [n] at mu; exact mu
  have hb : ∀ b, H b = none → b ≠ e := fun b n z => by
    subst z
    rcases he with r | r
    · exact hx b n r
    · rw [n] at r; cases r
  have hm : ∀ b u, H b = some u → ¬ Mut (some u) → b ≠ x := fun b u q nm z => by subst z; rw [q] at mu; exact nm mu
  refine ⟨fun b u q n _ _ => k b u (hb b n) q, fun b u q n _ _ => ⟨u.slots, k b u (hb b n) q⟩, fun b u q n _ => by rw [upd_ne (hx b n)]; exact n, fun b u q _ => ?_,
    fun b xs q => by rw [upd_ne (hm b _ q fun z => z)]; exact q, fun b u xs q => by rw [upd_ne (hm b _ q fun z => z)]; exact q, fun b ps q => ⟨#[], by rw [upd_ne (hm b _ q fun z => z), q]; simp⟩⟩
  by_cases hbe : b = e
  · subst hbe; exact heo
  · exact ⟨u, k b u hbe q⟩
end

def trk (h : Heap) (H : Hp) : List Addr := (List.range h.objs.size).filter fun a => (H a).isSome
def hidT (h : Heap) (H : Hp) : Heap := PySem.W.hideAll h (trk h H)
theorem hidT_size (h : Heap) (H : Hp) : (hidT h H).objs.size = h.objs.size := PySem.W.hideAll_size _ _
theorem hidT_get {h : Heap} {H : Hp} {b : Addr} {o : Obj} (e : h.get? b = some o) (n : H b = none) : (hidT h H).get? b = some o :=
  PySem.W.hideAll_get _ e fun hm => by
    have q : (H b).isSome = true := (List.mem_filter.mp hm).2
    rw [n] at q; simp at q
theorem of_hidT {h : Heap} {H : Hp} {b : Addr} {o : Obj} (e : (hidT h H).get? b = some o) : h.get? b = some o ∧ H b = none := by
  have e' : h.get? b = some o := PySem.W.of_hideAll (trk h H) e
  refine ⟨e', ?_⟩
  cases q : H b with
  | none => rfl
  | some x =>
    have hm : b ∈ trk h H := List.mem_filter.mpr ⟨List.mem_range.mpr (Heap.lt_size e'), by simp [q]⟩
    have z : (hidT h H).get? b = none := PySem.W.hideAll_none (trk h H) hm
    rw [z] at e; cases e

end L2

namespace L2
open PySem PySem.Spec PyProof.Rows

/-- the module's facts, over the base: the heap at the law's entry without what is tracked there -/
structure Mod (K : PySem.W.Frag) (mg : Str → Option Value) (base : Heap) : Prop where
  kin : K.In base
  glob : base.Ns mainGlobals mg
  blt : ∃ mb, base.Ns builtinsNs mb ∧ ∀ x : Str, x ≠ "__name__" → mb x = bootBuiltins x
  nolimit : base.NoLimit

/-- the context: a def's body (or a comprehension's block) running. base: fixed through the whole law; s₀, H₀: the entry; outer: the frames whose slots others may change (a def's callers); stack: all frames that run;
   ex: iterators that were made ahead of the entry and are walked here (a comprehension's); fn: the names whose cells were made at the entry (a def: all; a comprehension's block: its own); calm: not within an except suite; pn: pins that every state bears; xe: what is wanted of an exception that leaves the code -/
structure Cx where
  prog : Program
  w : World
  K : PySem.W.Frag
  mg : Str → Option Value
  base : Heap
  A : Around
  N : List Str
  s_0 : Shared
  H_0 : Hp
  env : Env
  outer : List Env
  stack : List Env
  ex : List Addr
  fn : Str → Bool
  calm : Bool
  pn : List (Addr × Obj)
  xe : Value → Shared → Prop
/-- the callers' frames -/
def frs (l : List Env) : List Addr := l.filterMap (·.frame)
abbrev Cx.fs (X : Cx) : List Addr := frs X.outer

def Vis (sc : Scope) (x : Str) : Prop := sc.names.lookup x = some .local ∨ sc.names.lookup x = some .cell ∨ sc.names.lookup x = some .free
def Loc (sc : Scope) (x : Str) : Prop := sc.names.lookup x = some .local ∨ sc.names.lookup x = some .cell
def Look (env : Env) (h : Heap) (m : Str → Option Value) (x : Str) (u : Value) : Prop :=
  (env.kindOf x = some .local ∧ m x = some u) ∨ ((env.kindOf x = some .cell ∨ env.kindOf x = some .free) ∧ ∃ c, env.cells.lookup x = some c ∧ h.IsCell c (some u))

structure Cx.Ok (X : Cx) : Prop where
  mod : Mod X.K X.mg X.base
  kind : X.env.scope.kind = .function
  glob : X.env.globals = mainGlobals
  blt : X.env.builtins = builtinsNs
  above : X.s_0.heap.objs.size ≤ X.env.locals
  inj : ∀ x y c, X.env.cells.lookup x = some c → X.env.cells.lookup y = some c → x = y
  has : ∀ x, (X.env.kindOf x = some .cell ∨ X.env.kindOf x = some .free) → ∃ c, X.env.cells.lookup x = some c
  cab : ∀ x c, X.fn x = true → X.env.cells.lookup x = some c → X.s_0.heap.objs.size ≤ c
  hd : X.calm = true → X.A.handled = none
  frames : X.A.frames = some X.stack
  stk : X.stack = X.outer ∨ (X.stack = X.env :: X.outer ∧ X.env.frame = some X.env.locals)
  exf : ∀ b ∈ X.ex, b ≠ X.env.locals ∧ ∀ x c, X.env.cells.lookup x = some c → c ≠ b
  bs : ∀ b o, X.base.get? b = some o → X.s_0.heap.get? b = some o ∧ X.H_0 b = none
  bsz : X.base.objs.size ≤ X.s_0.heap.objs.size
  noex : ∀ b o, X.base.get? b = some o → b ∉ X.ex
  exfs : ∀ b ∈ X.ex, b ∉ X.fs
  funs : X.s_0.heap.FunFrames X.base X.outer
  frf : ∀ b ∈ X.fs, X.H_0 b = none

structure Inv (X : Cx) (pins : List (Addr × Obj)) (σ : List (Option V)) (H : Hp) (s : Shared) : Prop where
  ok : X.Ok
  os : s.os = X.s_0.os
  bare : AllBare s.gens
  base : Un X.fs X.ex X.H_0 H X.s_0.heap s.heap
  loc : ∃ m, s.heap.Ns X.env.locals m ∧ ∀ (i : Nat) (x : Str) (v : V), X.N[i]? = some x → σ[i]? = some (some v) → Vis X.env.scope x → ∃ u, RelV v u ∧ Look X.env s.heap m x u
  cell : ∀ x c, X.env.cells.lookup x = some c → ∃ v, s.heap.IsCell c v
  free : H X.env.locals = none
  freeC : ∀ x c, X.env.cells.lookup x = some c → H c = none
  pin : ∀ p ∈ X.pn ++ pins, s.heap.get? p.1 = some p.2 ∧ H p.1 = none ∧ p.1 ≠ X.env.locals ∧ p.1 ∉ X.fs ∧ ∀ v, p.2.data ≠ .cell v
  hok : HOk X.prog X.w H s.heap
  len : σ.length = X.N.length

section
variable {X : Cx} {pins : List (Addr × Obj)} {σ : List (Option V)} {H H' : Hp} {s : Shared} {h' : Heap}

theorem Cx.Ok.nofr (ok : X.Ok) {b : Addr} {o : Obj} (e : X.base.get? b = some o) : b ∉ X.fs := fun hb => by
  have := (ok.funs.mem hb).1
  rw [e] at this; cases this
theorem Inv.bs (I : Inv X pins σ H s) : ∀ b o, X.base.get? b = some o → s.heap.get? b = some o ∧ H b = none := fun b o e =>
  ⟨I.base.keep b o (I.ok.bs b o e).1 (I.ok.bs b o e).2 (I.ok.nofr e) (I.ok.noex b o e), I.base.free b o (I.ok.bs b o e).1 (I.ok.bs b o e).2 (I.ok.noex b o e)⟩
theorem Inv.bk (I : Inv X pins σ H s) : ∀ b o, X.base.get? b = some o → s.heap.get? b = some o := fun b o e => (I.bs b o e).1
theorem Inv.mod (I : Inv X pins σ H s) : Mod X.K X.mg X.base := I.ok.mod
theorem Inv.kIn (I : Inv X pins σ H s) : X.K.In s.heap := I.ok.mod.kin.keeps I.bk
theorem Inv.lt (I : Inv X pins σ H s) : X.env.locals < s.heap.objs.size := let ⟨_, hn, _⟩ := I.loc; hn.lt
theorem Inv.sz (I : Inv X pins σ H s) : X.s_0.heap.objs.size ≤ s.heap.objs.size := Nat.le_trans I.ok.above (Nat.le_of_lt I.lt)
theorem Inv.nofs (I : Inv X pins σ H s) {a : Addr} (h : s.heap.objs.size ≤ a) : a ∉ X.fs := fun hb => by
  obtain ⟨_, o, ho, _⟩ := I.ok.funs.mem hb
  exact absurd (Nat.lt_of_lt_of_le (Heap.lt_size ho) (Nat.le_trans I.sz h)) (Nat.lt_irrefl _)
theorem Inv.cne (I : Inv X pins σ H s) : ∀ x c, X.env.cells.lookup x = some c → c ≠ X.env.locals := fun x c e z => by
  obtain ⟨v, o, ho, hd⟩ := I.cell x c e
  obtain ⟨m, ⟨o', es, ep, ho', hd', _⟩, _⟩ := I.loc
  rw [z, ho'] at ho; cases ho; rw [hd'] at hd; cases hd
theorem Inv.funs (I : Inv X pins σ H s) : s.heap.FunFrames X.base X.outer := by
  have all : ∀ (l : List Env), (∀ b ∈ frs l, b ∈ X.fs) → X.s_0.heap.FunFrames X.base l → s.heap.FunFrames X.base l := by
    intro l
    induction l with
    | nil => intro _ _; trivial
    | cons env r ih =>
      intro hs hl
      obtain ⟨hk, ⟨L, o, hf, hn, ho, hd⟩, hr⟩ := hl
      have hL : L ∈ X.fs := hs L (by unfold frs; rw [List.filterMap_cons, hf]; exact List.mem_cons_self)
      obtain ⟨sl, e⟩ := I.base.slot L o ho (I.ok.frf L hL) hL fun z => I.ok.exfs L z hL
      exact ⟨hk, ⟨L, _, hf, hn, e, hd⟩, ih (fun b hb => hs b (by unfold frs; rw [List.filterMap_cons, hf]; exact List.mem_cons_of_mem _ hb)) hr⟩
  exact all X.outer (fun _ hb => hb) I.ok.funs

/-- the frames that run, for a call -/
theorem Inv.stack (I : Inv X pins σ H s) : s.heap.FunFrames X.base X.stack := by
  rcases I.ok.stk with e | ⟨e, hf⟩
  · rw [e]; exact I.funs
  · rw [e]
    obtain ⟨m, hn, _⟩ := I.loc
    refine .cons (by rw [I.ok.kind]; decide) hf hn ?_ I.funs
    exact Heap.get?_none_of_le (Nat.le_trans I.ok.bsz I.ok.above)
theorem Inv.stkSub (I : Inv X pins σ H s) : ∀ b ∈ frs X.stack, b ∈ X.env.locals :: X.fs := fun b hb => by
  rcases I.ok.stk with e | ⟨e, hf⟩
  · rw [e] at hb; exact List.mem_cons_of_mem _ hb
  · rw [e] at hb
    unfold frs at hb
    rw [List.filterMap_cons, hf] at hb
    exact hb
theorem Inv.stkFree (I : Inv X pins σ H s) : ∀ b ∈ frs X.stack, H b = none := fun b hb => by
  rcases List.mem_cons.mp (I.stkSub b hb) with e | hb
  · rw [e]; exact I.free
  · obtain ⟨_, o, ho, _⟩ := I.ok.funs.mem hb
    exact I.base.free b o ho (I.ok.frf b hb) fun z => I.ok.exfs b z hb

/-- THE STEP: the untracked objects but the frame and the records at ch are kept (the callers' frames up to slots), the frame's map is kept, the new abstract heap is held -/
theorem Inv.step {g' : Array GenState} {t' : Nat} {d' : Drawn} {ch : List Addr} (I : Inv X pins σ H s)
    (hch : ∀ b ∈ ch, (b ∈ X.ex ∨ X.s_0.heap.get? b = none) ∧ b ≠ X.env.locals ∧ (∀ x c, X.env.cells.lookup x = some c → c ≠ b) ∧ ∀ p ∈ X.pn ++ pins, p.1 ≠ b)
    (keep : ∀ b o, b ≠ X.env.locals → b ∉ X.fs → b ∉ ch → s.heap.get? b = some o → H b = none → h'.get? b = some o)
    (slot : ∀ b o, b ≠ X.env.locals → b ∈ X.fs → b ∉ ch → s.heap.get? b = some o → H b = none → ∃ sl, h'.get? b = some { o with slots := sl }) (free : ∀ b o, b ∉ ch → s.heap.get? b = some o → H b = none → H' b = none)
    (there : ∀ b o, b ∉ ch → s.heap.get? b = some o → ∃ o', h'.get? b = some o')
    (tups : ∀ b xs, H b = some (.tup xs) → H' b = some (.tup xs)) (frzs : ∀ b o u, H b = some (.frz o u) → H' b = some (.frz o u)) (tbls : ∀ b ps, H b = some (.tbl ps) → ∃ more, H' b = some (.tbl (ps ++ more)))
    (ns : ∀ m, s.heap.Ns X.env.locals m → h'.Ns X.env.locals m) (hok : HOk X.prog X.w H' h') (hg : AllBare g') :
    Inv X pins σ H' { s with heap := h', gens := g', drawn := d', toks := t' } := by
  have neL : ∀ b o, X.s_0.heap.get? b = some o → b ≠ X.env.locals := fun b o e => Nat.ne_of_lt (Nat.lt_of_lt_of_le (Heap.lt_size e) I.ok.above)
  have neC : ∀ b o, X.s_0.heap.get? b = some o → b ∉ X.ex → b ∉ ch := fun b o e hx hb => by
    rcases (hch b hb).1 with z | z
    · exact hx z
    · rw [z] at e; cases e
  have cellK : ∀ x c, X.env.cells.lookup x = some c → ∀ v, s.heap.IsCell c v → h'.IsCell c v := fun x c e v ⟨o, ho, hd⟩ => by
    have nch : c ∉ ch := fun z => (hch c z).2.2.1 x c e rfl
    by_cases hc : c ∈ X.fs
    · obtain ⟨sl, q⟩ := slot c o (I.cne x c e) hc nch ho (I.freeC x c e)
      exact ⟨_, q, hd⟩
    · exact ⟨o, keep c o (I.cne x c e) hc nch ho (I.freeC x c e), hd⟩
  refine ⟨I.ok, I.os, hg, ⟨fun b o e n hb hx => ?_, fun b o e n hb hx => ?_, fun b o e n hx => ?_, fun b o e hx => ?_, fun b xs e => tups b xs (I.base.tups b xs e), fun b o xs e => frzs b o xs (I.base.frzs b o xs e), fun b ps e => ?_⟩, ?_, fun x c e => ?_, ?_, fun x c e => ?_, fun p hp => ?_, hok, I.len⟩
  · exact keep b o (neL b o e) hb (neC b o e hx) (I.base.keep b o e n hb hx) (I.base.free b o e n hx)
  · obtain ⟨sl, e1⟩ := I.base.slot b o e n hb hx
    obtain ⟨sl', e2⟩ := slot b _ (neL b o e) hb (neC b o e hx) e1 (I.base.free b o e n hx)
    exact ⟨sl', e2⟩
  · obtain ⟨o', e1⟩ := I.base.there b o e hx
    exact free b o' (neC b o e hx) e1 (I.base.free b o e n hx)
  · obtain ⟨o', e1⟩ := I.base.there b o e hx
    exact there b o' (neC b o e hx) e1
  · obtain ⟨m1, e1⟩ := I.base.tbls b ps e
    obtain ⟨m2, e2⟩ := tbls b _ e1
    exact ⟨m1 ++ m2, by rw [e2, Array.append_assoc]⟩
  · obtain ⟨m, hn, hl⟩ := I.loc
    refine ⟨m, ns m hn, fun i x v e1 e2 e3 => ?_⟩
    obtain ⟨u, r, l⟩ := hl i x v e1 e2 e3
    refine ⟨u, r, ?_⟩
    rcases l with l | ⟨k, c, e, z⟩
    · exact .inl l
    · exact .inr ⟨k, c, e, cellK x c e _ z⟩
  · obtain ⟨v, z⟩ := I.cell x c e
    exact ⟨v, cellK x c e v z⟩
  · obtain ⟨m, ⟨o, _, _, ho, _⟩, _⟩ := I.loc
    exact free _ o (fun z => (hch _ z).2.1 rfl) ho I.free
  · obtain ⟨v, o, ho, hd⟩ := I.cell x c e
    exact free c o (fun z => (hch c z).2.2.1 x c e rfl) ho (I.freeC x c e)
  · obtain ⟨e, n, ne, nf, d⟩ := I.pin p hp
    have nch : p.1 ∉ ch := fun z => (hch p.1 z).2.2.2 p hp rfl
    exact ⟨keep p.1 p.2 ne nf nch e n, free p.1 p.2 nch e n, ne, nf, d⟩
/-- .. where the frame's own object is kept too -/
theorem Inv.un {t' : Nat} (I : Inv X pins σ H s) (u : Un X.fs [] H H' s.heap h') (hok : HOk X.prog X.w H' h') : Inv X pins σ H' { s with heap := h', toks := t' } := by
  obtain ⟨m, ⟨o, es, ep, ho, r⟩, _⟩ := id I.loc
  obtain ⟨sl, hL⟩ := u.any ho I.free (by simp)
  exact I.step (g' := s.gens) (d' := s.drawn) (ch := []) (fun _ z => nomatch z) (fun b o _ hb _ e n => u.keep b o e n hb (by simp)) (fun b o _ hb _ e n => u.slot b o e n hb (by simp)) (fun b o _ e n => u.free b o e n (by simp)) (fun b o _ e => u.there b o e (by simp)) u.tups u.frzs u.tbls (fun m' hm => by
    obtain ⟨o', es', ep', ho', r'⟩ := hm
    rw [ho] at ho'; cases ho'
    exact ⟨_, es', ep', hL, r'⟩) hok I.bare
/-- behind a call (or a comprehension's block): the slots of this frame may have changed too, the records at ch may have turned -/
theorem Inv.call {g' : Array GenState} {t' : Nat} {d' : Drawn} {ch : List Addr} (I : Inv X pins σ H s) (u : Un (frs X.stack) ch H H' s.heap h') (hok : HOk X.prog X.w H' h') (hg : AllBare g')
    (hch : ∀ b ∈ ch, (b ∈ X.ex ∨ X.s_0.heap.get? b = none) ∧ b ≠ X.env.locals ∧ (∀ x c, X.env.cells.lookup x = some c → c ≠ b) ∧ ∀ p ∈ X.pn ++ pins, p.1 ≠ b) :
    Inv X pins σ H' { s with heap := h', gens := g', drawn := d', toks := t' } := by
  obtain ⟨m, ⟨o, es, ep, ho, r⟩, _⟩ := id I.loc
  obtain ⟨sl, hL⟩ := u.any ho I.free fun z => (hch _ z).2.1 rfl
  exact I.step (ch := ch) hch (fun b o hL hb hc e n => u.keep b o e n (fun z => (List.mem_cons.mp (I.stkSub b z)).elim hL hb) hc) (fun b o _ _ hc e n => u.any e n hc) (fun b o hc e n => u.free b o e n hc) (fun b o hc e => u.there b o e hc) u.tups u.frzs u.tbls (fun m' hm => by
    obtain ⟨o', es', ep', ho', r'⟩ := hm
    rw [ho] at ho'; cases ho'
    exact ⟨_, es', ep', hL, r'⟩) hok hg
/-- an untracked record of ours (an iterator) has turned -/
theorem Inv.turned {t' : Nat} {it : Addr} (I : Inv X pins σ H s) (k : ∀ b o, b ≠ it → s.heap.get? b = some o → h'.get? b = some o) (hn : H it = none) (hL : it ≠ X.env.locals)
    (h1 : it ∈ X.ex ∨ X.s_0.heap.get? it = none) (h2 : ∀ x c, X.env.cells.lookup x = some c → c ≠ it) (h3 : ∀ p ∈ X.pn ++ pins, p.1 ≠ it) : Inv X pins σ H { s with heap := h', toks := t' } := by
  have nit : ∀ b u, H b = some u → b ≠ it := fun b u e z => by rw [z, hn] at e; cases e
  refine I.step (g' := s.gens) (d' := s.drawn) (ch := [it]) (fun b hb => ?_) (fun b o _ _ hc e _ => k b o (fun z => hc (by simp [z])) e) (fun b o _ _ hc e _ => ⟨o.slots, k b o (fun z => hc (by simp [z])) e⟩) (fun _ _ _ _ n => n)
    (fun b o hc e => ⟨o, k b o (fun z => hc (by simp [z])) e⟩) (fun _ _ e => e) (fun _ _ _ e => e) (fun b ps e => ⟨#[], by rw [e]; simp⟩) (fun m hm => ?_) (fun b u e => ?_) I.bare
  · have e : b = it := by simpa using hb
    subst e
    exact ⟨h1, hL, h2, h3⟩
  · obtain ⟨o, es, ep, ho, r⟩ := hm
    exact ⟨o, es, ep, k _ o (Ne.symm hL) ho, r⟩
  · refine (I.hok b u e).stay (fun c v hc q => k c v ?_ q) (fun _ q => q) fun _ _ q => q
    rcases hc with z | z
    · rw [z]; exact nit b u e
    · exact nit c _ z
theorem Inv.tok (I : Inv X pins σ H s) (t : Nat) : Inv X pins σ H { s with toks := t } := I.un (h' := s.heap) (t' := t) Un.refl I.hok
/-- all objects kept -/
theorem Inv.kept {t' : Nat} (I : Inv X pins σ H s) (k : ∀ b u, s.heap.get? b = some u → h'.get? b = some u) : Inv X pins σ H { s with heap := h', toks := t' } := I.un (Un.kept k) (I.hok.kept k)
/-- a new object laid and tracked -/
theorem Inv.laid {a : Addr} {o : HO} {t' : Nat} (I : Inv X pins σ H s) (k : ∀ b u, s.heap.get? b = some u → h'.get? b = some u) (hp : s.heap.objs.size ≤ a) (new : ObjOk X.prog X.w (upd H a o) h' a o) :
    Inv X pins σ (upd H a o) { s with heap := h', toks := t' } := I.un (Un.laid k hp (I.hok.fresh hp)) (I.hok.laid k hp new)
/-- an object written -/
theorem Inv.write {x e : Addr} {o : HO} {t' : Nat} (I : Inv X pins σ H s) (mu : Mut (H x)) (he : e = x ∨ H e = some (.own x)) (k : ∀ b u, b ≠ e → s.heap.get? b = some u → h'.get? b = some u) (heo : ∃ u, h'.get? e = some u)
    (new : ObjOk X.prog X.w (upd H x o) h' x o) : Inv X pins σ (upd H x o) { s with heap := h', toks := t' } := I.un (Un.write mu he k heo) (I.hok.write mu he k heo new)
/-- forgetting slots, pins -/
theorem Inv.weak {σ' : List (Option V)} (I : Inv X pins σ H s) (hl : σ'.length = σ.length) (w : ∀ (i : Nat) v, σ'[i]? = some (some v) → σ[i]? = some (some v)) : Inv X pins σ' H s :=
  ⟨I.ok, I.os, I.bare, I.base, let ⟨m, hn, hl'⟩ := I.loc; ⟨m, hn, fun i x v e1 e2 e3 => hl' i x v e1 (w i v e2) e3⟩, I.cell, I.free, I.freeC, I.pin, I.hok, hl.trans I.len⟩
theorem Inv.pins_of {pins' : List (Addr × Obj)} (I : Inv X pins σ H s) (h : ∀ p ∈ pins', s.heap.get? p.1 = some p.2 ∧ H p.1 = none ∧ p.1 ≠ X.env.locals ∧ p.1 ∉ X.fs ∧ ∀ v, p.2.data ≠ .cell v) : Inv X pins' σ H s :=
  ⟨I.ok, I.os, I.bare, I.base, I.loc, I.cell, I.free, I.freeC, fun p hp => (List.mem_append.mp hp).elim (fun z => I.pin p (List.mem_append_left _ z)) (h p), I.hok, I.len⟩

theorem nodup_ix {N : List Str} (hN : N.Nodup) {i j : Nat} {x : Str} (a : N[i]? = some x) (b : N[j]? = some x) : i = j := by
  obtain ⟨h1, e1⟩ := List.getElem?_eq_some_iff.mp a
  obtain ⟨h2, e2⟩ := List.getElem?_eq_some_iff.mp b
  exact (List.getElem_inj hN).mp (e1.trans e2.symm)

/-- a name is stored; what changed -/
theorem store_ok2 {M : Model} {A : Around} {E : Value → Shared → Prop} {i : Nat} {x : Str} {v : V} {u : Value} {Q : Unit → Shared → Prop} (I : Inv X pins σ H s) (hN : X.N.Nodup) (hi : X.N[i]? = some x) (hx : Loc X.env.scope x) (r : RelV v u)
    (h : ∀ s', Inv X pins (σ.set i (some v)) H s' → (∃ a, Heap.SameBut a s.heap s'.heap ∧ (a = X.env.locals ∨ X.env.cells.lookup x = some a)) → Q () s') (hf : X.fn x = true ∨ X.env.scope.names.lookup x = some .local := by first | exact .inl rfl | exact .inr rfl | assumption) : wpAny M A (storeName X.env x u) Q E s := by
  obtain ⟨m, hn, hl⟩ := id I.loc
  have hcls : (X.env.scope.kind == .class || (X.env.scope.kind == .module && X.env.locals != X.env.globals)) = false := by rw [I.ok.kind]; rfl
  have hiσ : i < σ.length := by rw [I.len]; exact (List.getElem?_eq_some_iff.mp hi).1
  have cne := I.cne
  have tracked : ∀ {a : Addr} {h' : Heap}, (∃ o, s.heap.get? a = some o ∧ H a = none) → Heap.SameBut a s.heap h' → HOk X.prog X.w H h' := fun {a h'} ha hs b ob e => by
    obtain ⟨_, _, hfree⟩ := ha
    refine (I.hok b ob e).stay (fun c w' hc q => (hs.2 c ?_).trans q) (fun _ q => q) fun _ _ q => q
    rintro rfl
    rcases hc with rfl | hc
    · rw [hfree] at e; cases e
    · rw [hfree] at hc; cases hc
  rcases hx with hk | hk
  · refine wpAny_storeName_local hk hn (fun h' hn' hs => ?_) hcls
    obtain ⟨oL, _, _, hoL, _⟩ := id hn
    refine h _ ⟨I.ok, I.os, I.bare, ⟨fun b o e n hb hx => ?_, fun b o e n hb hx => ?_, I.base.free, fun b o e hx => ?_, I.base.tups, I.base.frzs, I.base.tbls⟩, ⟨_, hn', fun j y v' e1 e2 e3 => ?_⟩, fun y c e => ?_, I.free, I.freeC, fun p hp => ?_, tracked ⟨oL, hoL, I.free⟩ hs, by simpa using I.len⟩ ⟨_, hs, .inl rfl⟩
    · exact (hs.2 b (Nat.ne_of_lt (Nat.lt_of_lt_of_le (Heap.lt_size e) I.ok.above))).trans (I.base.keep b o e n hb hx)
    · obtain ⟨sl, e1⟩ := I.base.slot b o e n hb hx
      exact ⟨sl, (hs.2 b (Nat.ne_of_lt (Nat.lt_of_lt_of_le (Heap.lt_size e) I.ok.above))).trans e1⟩
    · obtain ⟨o', e1⟩ := I.base.there b o e hx
      exact ⟨o', (hs.2 b (Nat.ne_of_lt (Nat.lt_of_lt_of_le (Heap.lt_size e) I.ok.above))).trans e1⟩
    · by_cases hj : j = i
      · subst hj
        rw [hi] at e1; cases e1
        rw [List.getElem?_set_self hiσ] at e2
        cases e2
        exact ⟨u, r, .inl ⟨hk, by simp⟩⟩
      · rw [List.getElem?_set_ne (Ne.symm hj)] at e2
        obtain ⟨u', r', q⟩ := hl j y v' e1 e2 e3
        refine ⟨u', r', ?_⟩
        rcases q with ⟨k, e⟩ | ⟨k, c, e, z⟩
        · refine .inl ⟨k, ?_⟩
          have : y ≠ x := fun e => hj (nodup_ix hN e1 (e ▸ hi))
          simp [this, e]
        · exact .inr ⟨k, c, e, z.sameBut hs (cne y c e)⟩
    · obtain ⟨w', z⟩ := I.cell y c e
      exact ⟨w', z.sameBut hs (cne y c e)⟩
    · obtain ⟨e, n, ne, nf, d⟩ := I.pin p hp
      exact ⟨(hs.2 p.1 ne).trans e, n, ne, nf, d⟩
  · have hfn : X.fn x = true := by
      rcases hf with z | z
      · exact z
      · rw [z] at hk; cases hk
    obtain ⟨c, hc⟩ := I.ok.has x (.inl hk)
    obtain ⟨w', z⟩ := I.cell x c hc
    refine wpAny_storeName_cell I.ok.kind hk hc z (fun h' hc' hs => ?_)
    obtain ⟨oc, hoc, hocd⟩ := id z
    refine h { s with heap := h' } ⟨I.ok, I.os, I.bare, ⟨fun b o e n hb hx => ?_, fun b o e n hb hx => ?_, I.base.free, fun b o e hx => ?_, I.base.tups, I.base.frzs, I.base.tbls⟩, ⟨m, hn.sameBut hs (Ne.symm (cne x c hc)), fun j y v' e1 e2 e3 => ?_⟩, fun y c' e => ?_, I.free, I.freeC, fun p hp => ?_, tracked ⟨oc, hoc, I.freeC x c hc⟩ hs, by simpa using I.len⟩ ⟨c, hs, .inr hc⟩
    · exact (hs.2 b (Nat.ne_of_lt (Nat.lt_of_lt_of_le (Heap.lt_size e) (I.ok.cab x c hfn hc)))).trans (I.base.keep b o e n hb hx)
    · obtain ⟨sl, e1⟩ := I.base.slot b o e n hb hx
      exact ⟨sl, (hs.2 b (Nat.ne_of_lt (Nat.lt_of_lt_of_le (Heap.lt_size e) (I.ok.cab x c hfn hc)))).trans e1⟩
    · obtain ⟨o', e1⟩ := I.base.there b o e hx
      exact ⟨o', (hs.2 b (Nat.ne_of_lt (Nat.lt_of_lt_of_le (Heap.lt_size e) (I.ok.cab x c hfn hc)))).trans e1⟩
    · by_cases hj : j = i
      · subst hj
        rw [hi] at e1; cases e1
        rw [List.getElem?_set_self hiσ] at e2
        cases e2
        exact ⟨u, r, .inr ⟨.inl hk, c, hc, hc'⟩⟩
      · rw [List.getElem?_set_ne (Ne.symm hj)] at e2
        obtain ⟨u', r', q⟩ := hl j y v' e1 e2 e3
        refine ⟨u', r', ?_⟩
        rcases q with q | ⟨k, c', e, z'⟩
        · exact .inl q
        · refine .inr ⟨k, c', e, z'.sameBut hs ?_⟩
          rintro rfl
          exact hj (nodup_ix hN e1 (I.ok.inj _ _ _ e hc ▸ hi))
    · by_cases hcc : c' = c
      · subst hcc; exact ⟨_, hc'⟩
      · obtain ⟨w2, z2⟩ := I.cell y c' e
        exact ⟨w2, z2.sameBut hs hcc⟩
    · obtain ⟨e, n, ne, nf, d⟩ := I.pin p hp
      refine ⟨(hs.2 p.1 ?_).trans e, n, ne, nf, d⟩
      intro q
      rw [q, hoc] at e
      have q' : oc = p.2 := Option.some.inj e
      exact d w' (by rw [← q']; exact hocd)
theorem store_ok {M : Model} {A : Around} {E : Value → Shared → Prop} {i : Nat} {x : Str} {v : V} {u : Value} {Q : Unit → Shared → Prop} (I : Inv X pins σ H s) (hN : X.N.Nodup) (hi : X.N[i]? = some x) (hx : Loc X.env.scope x) (r : RelV v u)
    (h : ∀ s', Inv X pins (σ.set i (some v)) H s' → Q () s') (hf : X.fn x = true ∨ X.env.scope.names.lookup x = some .local := by first | exact .inl rfl | exact .inr rfl | assumption) : wpAny M A (storeName X.env x u) Q E s :=
  store_ok2 I hN hi hx r (fun s' I' _ => h s' I') hf
/-- behind a call or a block, the state as it is -/
theorem Inv.call' {s' : Shared} {ch : List Addr} (I : Inv X pins σ H s) (ho : s'.os = s.os) (u : Un (frs X.stack) ch H H' s.heap s'.heap) (hok : HOk X.prog X.w H' s'.heap) (hg : AllBare s'.gens)
    (hch : ∀ b ∈ ch, (b ∈ X.ex ∨ X.s_0.heap.get? b = none) ∧ b ≠ X.env.locals ∧ (∀ x c, X.env.cells.lookup x = some c → c ≠ b) ∧ ∀ p ∈ X.pn ++ pins, p.1 ≠ b) : Inv X pins σ H' s' := by
  obtain ⟨h', g', d', t', o'⟩ := s'
  have e : o' = s.os := ho
  subst e
  exact I.call (g' := g') (t' := t') (d' := d') u hok hg hch
end

/-- an exception: its class, its own dict's address (where it has one), the abstract heap behind it -/
abbrev XK := Value → Option Addr → Hp → Prop
abbrev St := List (Option V)
abbrev VK := V → Hp → Prop
/-- an expression's reading; a test's; an argument list's -/
abbrev TE := St → Hp → VK → Prop
abbrev TT := St → Hp → (Bool → Hp → Prop) → Prop
abbrev TA := St → Hp → (List V → Hp → Prop) → Prop
/-- what is wanted behind a statement -/
structure Ends where
  nx : St → Hp → Prop
  rt : VK
  bk : St → Hp → Prop := fun _ _ => False
  ct : St → Hp → Prop := fun _ _ => False
abbrev TS := Ends → St → Hp → Prop

def EP (X : Cx) (pins : List (Addr × Obj)) (σ : St) (Q : VK) (u : Value) (s' : Shared) : Prop := ∃ v H', Inv X pins σ H' s' ∧ RelV v u ∧ Q v H'
def TP (X : Cx) (pins : List (Addr × Obj)) (σ : St) (Q : Bool → Hp → Prop) (b : Bool) (s' : Shared) : Prop := ∃ H', Inv X pins σ H' s' ∧ Q b H'
def AP (X : Cx) (pins : List (Addr × Obj)) (σ : St) (Q : List V → Hp → Prop) (us : List Value) (s' : Shared) : Prop := ∃ vs H', Inv X pins σ H' s' ∧ Vals vs us ∧ Q vs H'
def SP (X : Cx) (pins : List (Addr × Obj)) (D : Ends) (f : Flow) (s' : Shared) : Prop :=
  match f with
  | .next => ∃ σ' H', Inv X pins σ' H' s' ∧ D.nx σ' H'
  | .brk => ∃ σ' H', Inv X pins σ' H' s' ∧ D.bk σ' H'
  | .cont => ∃ σ' H', Inv X pins σ' H' s' ∧ D.ct σ' H'
  | .ret u => ∃ v σ' H', Inv X pins σ' H' s' ∧ RelV v u ∧ D.rt v H'

def PE (X : Cx) (e : Expr) (t : TE) : Prop :=
  ∀ (pins : List (Addr × Obj)) (s : Shared) (σ : St) (H : Hp) (Q : VK), Inv X pins σ H s → t σ H Q → wpAny (model X.prog X.w) X.A (eval e X.env) (EP X pins σ Q) X.xe s
def PT (X : Cx) (e : Expr) (t : TT) : Prop :=
  ∀ (pins : List (Addr × Obj)) (s : Shared) (σ : St) (H : Hp) (Q : Bool → Hp → Prop), Inv X pins σ H s → t σ H Q → wpAny (model X.prog X.w) X.A (isTrue e X.env (eval e X.env)) (TP X pins σ Q) X.xe s
/-- a test whatever its 'whole' is (and, or) -/
def PW (X : Cx) (e : Expr) (t : TT) : Prop :=
  ∀ (whole : Sem Value) (pins : List (Addr × Obj)) (s : Shared) (σ : St) (H : Hp) (Q : Bool → Hp → Prop), Inv X pins σ H s → t σ H Q → wpAny (model X.prog X.w) X.A (isTrue e X.env whole) (TP X pins σ Q) X.xe s
theorem PW.pt {X : Cx} {e : Expr} {t : TT} (h : PW X e t) : PT X e t := h _
/-- an argument list (no star), from the left -/
def PA (X : Cx) (es : List Expr) (t : TA) : Prop :=
  ∀ (pos : Pos) (pins : List (Addr × Obj)) (s : Shared) (σ : St) (H : Hp) (Q : List V → Hp → Prop), Inv X pins σ H s → t σ H Q → wpAny (model X.prog X.w) X.A (spliced (backTo pos (starEach es X.env))) (AP X pins σ Q) X.xe s
def PS (X : Cx) (st : Stmt) (t : TS) : Prop :=
  ∀ (pins : List (Addr × Obj)) (s : Shared) (σ : St) (H : Hp) (D : Ends), Inv X pins σ H s → t D σ H → wpAny (model X.prog X.w) X.A (exec st X.env) (SP X pins D) X.xe s
def PSs (X : Cx) (st : List Stmt) (t : TS) : Prop :=
  ∀ (pins : List (Addr × Obj)) (s : Shared) (σ : St) (H : Hp) (D : Ends), Inv X pins σ H s → t D σ H → wpAny (model X.prog X.w) X.A (execs st X.env) (SP X pins D) X.xe s
/-- weaken the end -/
theorem thn {α : Type} {t : Sem α} {Q Q' : α → Shared → Prop} {M : Model} {A : Around} {E : Value → Shared → Prop} {s : Shared} (h : wpAny M A t Q E s) (hQ : ∀ a s, Q a s → Q' a s) : wpAny M A t Q' E s := wpAny_mono h hQ fun _ _ x => x
end L2

namespace L2
open PySem PySem.Spec PyProof.Rows
section
variable {X : Cx}

def tVar (i : Nat) : TE := fun σ H Q => ∃ v, σ[i]? = some (some v) ∧ Q v H
def tC (v : V) : TE := fun _ H Q => Q v H
theorem pe_var {i : Nat} {x : Str} {pos : Pos} (hN : X.N[i]? = some x) (hv : Vis X.env.scope x) (hd : (x == ("__debug__" : Str)) = false := by decide) (hcd : (x == ("__classdict__" : Str)) = false := by decide) : PE X (.Name x pos) (tVar i) := by
  intro pins s σ H Q I h
  obtain ⟨v, e, h⟩ := h
  obtain ⟨m, hn, hl⟩ := I.loc
  obtain ⟨u, r, l⟩ := hl i x v hN e hv
  have fin : EP X pins σ Q u s := ⟨v, H, I, r, h⟩
  rcases l with ⟨hk, hm⟩ | ⟨hk, c, hc, hcell⟩
  · exact wpAny_Name (wpAny_loadName_local I.ok.kind hk hn hm fin) hd
  · rcases hk with hk | hk
    · exact wpAny_Name (wpAny_loadName_cell I.ok.kind hk hc hcell fin) hd
    · exact wpAny_Name (wpAny_loadName_free I.ok.kind hk hc hcell fin hcd) hd
theorem pe_int {i j pos} : PE X (.Constant (.int i) j pos) (tC (.int i)) := fun _ _ _ H _ I h => wpAny_Constant_int ⟨.int i, H, I.tok _, ⟨_, rfl⟩, h⟩
theorem pe_bl {b j pos} : PE X (.Constant (.bool b) j pos) (tC (.bl b)) := fun _ _ _ H _ I h => Constant_bool ⟨.bl b, H, I, rfl, h⟩
/-- a global name of the def -/
def Gl (X : Cx) (x : Str) : Prop := X.env.kindOf x = some .globalImplicit
theorem ld_glob {E : Value → Shared → Prop} {pins : List (Addr × Obj)} {s : Shared} {σ : St} {H : Hp} {x : Str} {u : Value} {pos : Pos} {Q : Value → Shared → Prop} (I : Inv X pins σ H s) (hg : Gl X x) (hm : X.mg x = some u) (h : Q u s)
    (hd : (x == ("__debug__" : Str)) = false := by decide) : wpAny (model X.prog X.w) X.A (eval (.Name x pos) X.env) Q E s :=
  Calls.Name_function_global I.ok.kind hg (Calls.loadGlobal_global (by rw [I.ok.glob]; exact I.mod.glob.keeps I.bk) hm h) hd
theorem ld_blt {E : Value → Shared → Prop} {pins : List (Addr × Obj)} {s : Shared} {σ : St} {H : Hp} {x : Str} {u : Value} {pos : Pos} {Q : Value → Shared → Prop} (I : Inv X pins σ H s) (hg : Gl X x) (hm : X.mg x = none) (hv : bootBuiltins x = some u) (h : Q u s)
    (hn : x ≠ "__name__" := by decide) (hd : (x == ("__debug__" : Str)) = false := by decide) : wpAny (model X.prog X.w) X.A (eval (.Name x pos) X.env) Q E s := by
  obtain ⟨mb, h1, h2⟩ := I.mod.blt
  exact Calls.Name_function_global I.ok.kind hg (Calls.loadGlobal_builtin (by rw [I.ok.glob]; exact I.mod.glob.keeps I.bk) hm (by rw [I.ok.blt]; exact h1.keeps I.bk) ((h2 x hn).trans hv) h) hd
/-- a module's constant, a class, a function, as a value -/
theorem pe_glob {x : Str} {v : V} {u : Value} {pos : Pos} (hg : Gl X x) (hm : X.mg x = some u) (r : RelV v u) (hd : (x == ("__debug__" : Str)) = false := by decide) : PE X (.Name x pos) (tC v) :=
  fun _ _ _ H _ I h => ld_glob I hg hm ⟨v, H, I, r, h⟩ hd
variable {a b : Expr} {ta tb : TE} {pos : Pos}
def PC (X : Cx) (op : CmpOp) (a b : Expr) (t : TE) : Prop :=
  ∀ (pins : List (Addr × Obj)) (s : Shared) (σ : St) (H : Hp) (Q : VK), Inv X pins σ H s → t σ H Q →
    wpAny (model X.prog X.w) X.A (eval a X.env) (fun v s₁ => wpAny (model X.prog X.w) X.A (eval b X.env) (fun u s₂ => wpAny (model X.prog X.w) X.A (compareOp op v u) (EP X pins σ Q) X.xe s₂) X.xe s₁) X.xe s
/-- a comparison as a value, as a test -/
def tB (t : TE) : TT := fun σ H Q => t σ H fun x H1 => ∃ c, x = .bl c ∧ Q c H1
theorem pe_cmp {op : CmpOp} {t : TE} (h : PC X op a b t) (h1 : behindInMarks op b = false := by first | exact nobehind _ (by decide) (by decide) | rfl) : PE X (.Compare a [op] [b] pos) t := fun pins s σ H Q I hw => wpAny_Compare1 (h pins s σ H Q I hw) h1
theorem pt_cmp {op : CmpOp} {t : TE} (h : PC X op a b t) (h1 : behindInMarks op b = false := by first | exact nobehind _ (by decide) (by decide) | rfl) : PT X (.Compare a [op] [b] pos) (tB t) := by
  intro pins s σ H Q I hw
  refine wpAny_isTrue_Compare1 (thn (h pins s σ H _ I hw) fun v s1 h1 => thn h1 fun u s2 h2 => thn h2 fun c s3 ⟨x, H1, I1, r1, q1⟩ => ?_) h1
  obtain ⟨d, rfl, q⟩ := q1
  cases r1
  exact wpAny_truthy_bool ⟨H1, I1, q⟩
/-- an expression whose value is a bool, as a test -/
theorem pt_val {e : Expr} {t : TE} (h : PE X e t) (he : ∀ whole, isTrue e X.env whole = (do let v ← whole; standAt e.pos; holding [v] (truthy v)) := by intro _; rfl) : PT X e (tB t) := by
  intro pins s σ H Q I hw
  refine isTrue_plain (thn (h pins s σ H _ I hw) fun v s1 ⟨x, H1, I1, r1, q1⟩ => ?_) (he _)
  obtain ⟨d, rfl, q⟩ := q1
  cases r1
  exact wpAny_truthy_bool ⟨H1, I1, q⟩

variable {tA tB' : TT} {rest : List Expr}
def tAnd (t u : TT) : TT := fun σ H Q => t σ H fun c H1 => if c = true then u σ H1 Q else Q false H1
def tOr (t u : TT) : TT := fun σ H Q => t σ H fun c H1 => if c = true then Q true H1 else u σ H1 Q
def tNot (t : TT) : TT := fun σ H Q => t σ H fun c H1 => Q (!c) H1
theorem pw_and1 (ha : PT X a tA) : PW X (.BoolOp .And [a] pos) tA := by
  intro wh pins s σ H Q I h
  refine isTrue_and (thn (ha pins s σ H Q I h) fun c s1 e => ?_)
  cases c with
  | true => exact isTrue_and_nil e
  | false => exact e
theorem pw_or1 (ha : PT X a tA) : PW X (.BoolOp .Or [a] pos) tA := by
  intro wh pins s σ H Q I h
  refine isTrue_or (thn (ha pins s σ H Q I h) fun c s1 e => ?_)
  cases c with
  | false => exact isTrue_or_nil e
  | true => exact e
theorem pw_and (ha : PT X a tA) (hb : PW X (.BoolOp .And (b :: rest) pos) tB') : PW X (.BoolOp .And (a :: b :: rest) pos) (tAnd tA tB') := by
  intro wh pins s σ H Q I h
  refine isTrue_and (thn (ha pins s σ H _ I h) fun c s1 ⟨H1, I1, q1⟩ => ?_)
  cases c with
  | true => exact hb wh pins s1 σ H1 Q I1 q1
  | false => exact ⟨H1, I1, q1⟩
theorem pw_or (ha : PT X a tA) (hb : PW X (.BoolOp .Or (b :: rest) pos) tB') : PW X (.BoolOp .Or (a :: b :: rest) pos) (tOr tA tB') := by
  intro wh pins s σ H Q I h
  refine isTrue_or (thn (ha pins s σ H _ I h) fun c s1 ⟨H1, I1, q1⟩ => ?_)
  cases c with
  | true => exact ⟨H1, I1, q1⟩
  | false => exact hb wh pins s1 σ H1 Q I1 q1
theorem pt_not (ha : PT X a tA) : PT X (.UnaryOp .Not a pos) (tNot tA) := by
  intro pins s σ H Q I h
  exact isTrue_not (ha pins s σ H (fun c H1 => Q (!c) H1) I h)
/-- .. as values (bools) -/
def tAndV (ta tb : TE) : TE := fun σ H Q => ta σ H fun x H1 => ∃ c, x = .bl c ∧ if c = true then tb σ H1 Q else Q (.bl false) H1
theorem pe_one {op} {t : TE} (h : PE X a t) : PE X (.BoolOp op [a] pos) t := fun pins s σ H Q I hw => BoolOp_one (h pins s σ H Q I hw)
theorem pe_and (ha : PE X a ta) (hb : PE X (.BoolOp .And (b :: rest) pos) tb) : PE X (.BoolOp .And (a :: b :: rest) pos) (tAndV ta tb) := by
  intro pins s σ H Q I h
  refine BoolOp_and (thn (ha pins s σ H _ I h) fun v s1 ⟨x, H1, I1, r1, q1⟩ => ?_)
  obtain ⟨c, rfl, q1⟩ := q1
  cases r1
  refine wpAny_truthy_bool ?_
  cases c with
  | true => exact hb pins s1 σ H1 Q I1 q1
  | false => exact ⟨.bl false, H1, I1, rfl, q1⟩
/-- a if t else b -/
def tIf (t : TT) (ta tb : TE) : TE := fun σ H Q => t σ H fun c H1 => if c = true then ta σ H1 Q else tb σ H1 Q
theorem pe_ifExp {c : Expr} (hc : PT X c tA) (ha : PE X a ta) (hb : PE X b tb) : PE X (.IfExp c a b pos) (tIf tA ta tb) := by
  intro pins s σ H Q I h
  refine wpAny_IfExp (thn (hc pins s σ H _ I h) fun d s1 ⟨H1, I1, q1⟩ => ?_)
  cases d with
  | true => exact ha pins s1 σ H1 Q I1 q1
  | false => exact hb pins s1 σ H1 Q I1 q1
end
end L2

namespace L2
open PySem PySem.Spec PyProof.Rows

def SqL (K : PySem.W.Frag) (H : Hp) (a : Addr) (xs : List V) : Prop :=
  Rd H a (.lst xs) ∨
    ∃ (o : Obj) (its : Array Value) (n : Nat), K.lookup a = some o ∧ o.cls = .type "list" ∧ o.dict = none ∧ o.data = .seq its n ∧ its.size ≤ sizeLine ∧ Vals xs its.toList
def SqT (K : PySem.W.Frag) (H : Hp) (a : Addr) (xs : List V) : Prop :=
  Rd H a (.tup xs) ∨
    ∃ (o : Obj) (its : Array Value) (n : Nat), K.lookup a = some o ∧ o.cls = .type "tuple" ∧ o.data = .seq its n ∧ its.size ≤ sizeLine ∧ Vals xs its.toList
def absV : Value → Option V
  | .none => some .non
  | .bool b => some (.bl b)
  | .int i _ => some (.int i)
  | .str x _ => some (.str x)
  | .bytes b _ => some (.byt b)
  | .float b _ => some (.flt b)
  | .ref a => some (.ref a)
  | .type n => some (.ty n)
  | _ => none
theorem RelV.abs {x : V} {u : Value} (r : RelV x u) : absV u = some x := by
  cases x with
  | non => cases r; rfl
  | bl _ => cases r; rfl
  | int _ => obtain ⟨t, rfl⟩ := r; rfl
  | str _ => obtain ⟨t, rfl⟩ := r; rfl
  | byt _ => obtain ⟨t, rfl⟩ := r; rfl
  | flt _ => obtain ⟨t, rfl⟩ := r; rfl
  | ref _ => cases r; rfl
  | ty _ => cases r; rfl
theorem RelV.inj {x y : V} {u : Value} (r : RelV x u) (q : RelV y u) : x = y := Option.some.inj (r.abs.symm.trans q.abs)
theorem Vals.inj : ∀ {xs ys : List V} {us : List Value}, Vals xs us → Vals ys us → xs = ys
  | _, _, _, .nil, .nil => rfl
  | _, _, _, .cons r t, .cons r' t' => by rw [r.inj r', Vals.inj t t']
section
variable {X : Cx} {pins : List (Addr × Obj)} {σ : St} {H : Hp} {s : Shared} {a : Addr} {xs ys : List V}
theorem SqL.of {K : PySem.W.Frag} (h : H a = some (.lst xs)) : SqL K H a xs := .inl (.inl h)
theorem SqT.of {K : PySem.W.Frag} (h : H a = some (.tup xs)) : SqT K H a xs := .inl (.inl h)
theorem Inv.list (I : Inv X pins σ H s) (h : SqL X.K H a xs) : ∃ its : List Value, Vals xs its ∧ PlainL s.heap a its.toArray ∧ xs.length ≤ sizeLine := by
  rcases h with h | ⟨o, its, n, hk, hc, hd, hs, hz, r⟩
  · obtain ⟨z, its, n, r, e⟩ := h.ok I.hok
    exact ⟨its, r, ⟨_, n, e, rfl, rfl, rfl⟩, z⟩
  · refine ⟨its.toList, r, ⟨o, n, I.kIn a o hk, hc, hd, by simpa using hs⟩, ?_⟩
    have e := r.length
    simp only [Array.length_toList] at e
    omega
theorem Inv.tuple (I : Inv X pins σ H s) (h : SqT X.K H a xs) : ∃ its : List Value, Vals xs its ∧ IsTup s.heap a its.toArray ∧ xs.length ≤ sizeLine := by
  rcases h with h | ⟨o, its, n, hk, hc, hs, hz, r⟩
  · obtain ⟨z, its, r, p⟩ := h.ok I.hok
    exact ⟨its, r, p, z⟩
  · refine ⟨its.toList, r, ⟨o, I.kIn a o hk, hc, n, by simpa using hs⟩, ?_⟩
    have e := r.length
    simp only [Array.length_toList] at e
    omega
theorem Inv.list_inj (I : Inv X pins σ H s) (h : SqL X.K H a xs) (h' : SqL X.K H a ys) : xs = ys := by
  obtain ⟨its, r, ⟨o, n, e, _, _, d⟩, _⟩ := I.list h
  obtain ⟨its', r', ⟨o', n', e', _, _, d'⟩, _⟩ := I.list h'
  rw [e] at e'; cases e'
  rw [d] at d'
  injection d' with d1 _
  have : its = its' := by simpa using congrArg Array.toList d1
  subst this
  exact r.inj r'
end

abbrev Cx.wish (X : Cx) (E : Value → Shared → Prop) : Cx := { X with xe := E }
/-- no exception leaves -/
abbrev Cx.nox (X : Cx) : Cx := X.wish fun _ _ => False
theorem Cx.Ok.wish {X : Cx} (ok : X.Ok) (E : Value → Shared → Prop) : (X.wish E).Ok :=
  ⟨ok.mod, ok.kind, ok.glob, ok.blt, ok.above, ok.inj, ok.has, ok.cab, ok.hd, ok.frames, ok.stk, ok.exf, ok.bs, ok.bsz, ok.noex, ok.exfs, ok.funs, ok.frf⟩
theorem Cx.Ok.unwish {X : Cx} {E : Value → Shared → Prop} (ok : (X.wish E).Ok) : X.Ok :=
  ⟨ok.mod, ok.kind, ok.glob, ok.blt, ok.above, ok.inj, ok.has, ok.cab, ok.hd, ok.frames, ok.stk, ok.exf, ok.bs, ok.bsz, ok.noex, ok.exfs, ok.funs, ok.frf⟩
section
variable {X : Cx} {pins : List (Addr × Obj)} {σ : St} {H : Hp} {s : Shared} {E : Value → Shared → Prop}
theorem Inv.wish (I : Inv X pins σ H s) (E : Value → Shared → Prop) : Inv (X.wish E) pins σ H s := ⟨I.ok.wish E, I.os, I.bare, I.base, I.loc, I.cell, I.free, I.freeC, I.pin, I.hok, I.len⟩
theorem Inv.unwish (I : Inv (X.wish E) pins σ H s) : Inv X pins σ H s := ⟨I.ok.unwish, I.os, I.bare, I.base, I.loc, I.cell, I.free, I.freeC, I.pin, I.hok, I.len⟩
theorem SP.unwish {D : Ends} {f : Flow} {s' : Shared} (h : SP (X.wish E) pins D f s') : SP X pins D f s' := by
  cases f with
  | next => obtain ⟨σ', H', I, q⟩ := h; exact ⟨σ', H', I.unwish, q⟩
  | brk => obtain ⟨σ', H', I, q⟩ := h; exact ⟨σ', H', I.unwish, q⟩
  | cont => obtain ⟨σ', H', I, q⟩ := h; exact ⟨σ', H', I.unwish, q⟩
  | ret u => obtain ⟨v, σ', H', I, r, q⟩ := h; exact ⟨v, σ', H', I.unwish, r, q⟩
theorem PSs.nox {st : List Stmt} {t : TS} (h : PSs X.nox st t) : PSs X st t := fun pins s σ H D I hw =>
  wpAny_mono (h pins s σ H D (I.wish _) hw) (fun _ _ q => q.unwish) fun _ _ z => False.elim z
end

section
variable {X : Cx} {st : Stmt} {rest : List Stmt} {t u : TS} {e : Expr} {te : TE} {pos : Pos}
def tNext : TS := fun D σ H => D.nx σ H
def tSeq (t u : TS) : TS := fun D σ H => t { D with nx := u D } σ H
theorem pss_nil : PSs X [] tNext := fun _ _ σ H _ I h => wpAny_execs_nil ⟨σ, H, I, h⟩
theorem pss_cons (h1 : PS X st t) (h2 : PSs X rest u) : PSs X (st :: rest) (tSeq t u) := by
  intro pins s σ H D I h
  refine wpAny_execs_cons (thn (h1 pins s σ H { D with nx := u D } I h) fun f s1 q => ?_)
  cases f with
  | next =>
    obtain ⟨σ', H', I', q⟩ := q
    exact h2 pins s1 σ' H' D I' q
  | ret v => exact q
  | brk => exact q
  | cont => exact q
theorem pss_one (h1 : PS X st t) : PSs X [st] t := by
  intro pins s σ H D I h
  refine wpAny_execs_cons (thn (h1 pins s σ H D I h) fun f s1 q => ?_)
  cases f with
  | next => exact wpAny_execs_nil q
  | ret v => exact q
  | brk => exact q
  | cont => exact q
/-- in a def's body nothing is shown -/
theorem Inv.quiet {pins : List (Addr × Obj)} {σ : St} {H : Hp} {s : Shared} (I : Inv X pins σ H s) : interactive X.env = false := by simp [interactive, I.ok.kind]
/-- an expression whose value is dropped -/
def tDrop (te : TE) : TS := fun D σ H => te σ H fun _ H1 => D.nx σ H1
theorem ps_expr (he : PE X e te) (hs : swapsWith e none pos.line X.env = pure false := by rfl) : PS X (.Expr e pos) (tDrop te) := by
  intro pins s σ H D I h
  exact wpAny_Expr_any (thn (he pins s σ H _ I h) fun v s1 ⟨x, H1, I1, r1, q1⟩ => ⟨σ, H1, I1, q1⟩) I.quiet hs
def tRet (te : TE) : TS := fun D σ H => te σ H D.rt
theorem ps_ret (he : PE X e te) : PS X (.Return (some e) pos) (tRet te) := by
  intro pins s σ H D I h
  exact wpAny_Return_some (thn (he pins s σ H _ I h) fun v s1 ⟨x, H1, I1, r1, q1⟩ => ⟨x, σ, H1, I1, r1, q1⟩)
def tIfS (c : TT) (t u : TS) : TS := fun D σ H => c σ H fun b H1 => if b = true then t D σ H1 else u D σ H1
theorem ps_if {c : Expr} {a b : List Stmt} {tc : TT} (hc : PT X c tc) (ha : PSs X a t) (hb : PSs X b u) : PS X (.If c a b pos) (tIfS tc t u) := by
  intro pins s σ H D I h
  refine wpAny_If (thn (hc pins s σ H _ I h) fun d s1 ⟨H1, I1, q1⟩ => ?_)
  cases d with
  | true => exact ha pins s1 σ H1 D I1 q1
  | false => exact hb pins s1 σ H1 D I1 q1
end

abbrev TG := V → St → Hp → (St → Hp → Prop) → Prop
abbrev TGs := List V → St → Hp → (St → Hp → Prop) → Prop
def PG (X : Cx) (target : Expr) (t : TG) : Prop :=
  ∀ (pins : List (Addr × Obj)) (s : Shared) (σ : St) (H : Hp) (v : V) (u : Value) (Q : St → Hp → Prop), Inv X pins σ H s → RelV v u → t v σ H Q →
    wpAny (model X.prog X.w) X.A (assign target X.env u) (fun _ s' => ∃ σ' H', Inv X pins σ' H' s' ∧ Q σ' H') X.xe s
/-- several targets, one after another -/
def PGs (X : Cx) (ts : List Expr) (t : TGs) : Prop :=
  ∀ (pins : List (Addr × Obj)) (s : Shared) (σ : St) (H : Hp) (vs : List V) (us : List Value) (Q : St → Hp → Prop), Inv X pins σ H s → Vals vs us → t vs σ H Q →
    wpAny (model X.prog X.w) X.A (assignInOrder ((assignEach ts X.env).map (·.2)) us) (fun _ s' => ∃ σ' H', Inv X pins σ' H' s' ∧ Q σ' H') X.xe s
/-- a op= b, by values -/
abbrev TIp := V → V → Hp → VK → Prop
def PIp (X : Cx) (op : Operator) (t : TIp) : Prop :=
  ∀ (pins : List (Addr × Obj)) (s : Shared) (σ : St) (H : Hp) (x y : V) (v u : Value) (Q : VK), Inv X pins σ H s → RelV x v → RelV y u → t x y H Q →
    wpAny (model X.prog X.w) X.A (inplaceOp op v u) (EP X pins σ Q) X.xe s
section
variable {X : Cx} {pos : Pos}
def gName (i : Nat) : TG := fun v σ H Q => Q (σ.set i (some v)) H
theorem pg_name {i : Nat} {x : Str} (hN : X.N.Nodup) (hi : X.N[i]? = some x) (hx : Loc X.env.scope x) (hf : X.fn x = true ∨ X.env.scope.names.lookup x = some .local := by first | exact .inl rfl | exact .inr rfl | assumption) : PG X (.Name x pos) (gName i) := by
  intro pins s σ H v u Q I r h
  exact wpAny_assign_Name (store_ok I hN hi hx r (fun s' I' => ⟨_, H, I', h⟩) hf)
def gNil : TGs := fun vs σ H Q => vs = [] ∧ Q σ H
def gCons (t : TG) (u : TGs) : TGs := fun vs σ H Q => ∃ v r, vs = v :: r ∧ t v σ H fun σ' H' => u r σ' H' Q
theorem pgs_nil : PGs X [] gNil := by
  intro pins s σ H vs us Q I r h
  obtain ⟨e, h⟩ := h
  subst e
  cases r
  exact assignInOrder_nil ⟨σ, H, I, h⟩
theorem pgs_cons {e : Expr} {es : List Expr} {t : TG} {u : TGs} (h1 : PG X e t) (h2 : PGs X es u)
    (hs : (assignEach (e :: es) X.env).map (·.2) = assign e X.env :: (assignEach es X.env).map (·.2) := by rfl) : PGs X (e :: es) (gCons t u) := by
  intro pins s σ H vs us Q I r h
  obtain ⟨v, vr, e1, h⟩ := h
  subst e1
  cases r with
  | cons r rr =>
    rw [hs]
    refine assignInOrder_cons (thn (h1 pins s σ H _ _ _ I r h) fun _ s1 ⟨σ1, H1, I1, q1⟩ => ?_)
    exact h2 pins s1 σ1 H1 _ _ Q I1 rr q1
/-- (a, b, ..) = a tuple of that length -/
def gTup (K : PySem.W.Frag) (n : Nat) (t : TGs) : TG := fun v σ H Q => ∃ a xs, v = .ref a ∧ SqT K H a xs ∧ xs.length = n ∧ t xs σ H Q
theorem pg_tup {es : List Expr} {k : Nat} {t : TGs} {n : Nat} (hc : X.calm = true) (h : PGs X es t)
    (hn : (assignEach es X.env).length = n := by rfl) (hst : (assignEach es X.env).findIdx? (·.1) = none := by rfl) : PG X (.Tuple es k pos) (gTup X.K n t) := by
  intro pins s σ H v u Q I r hw
  obtain ⟨a, xs, e1, hq, hl, hw⟩ := hw
  subst e1
  cases r
  obtain ⟨its, rv, ht, hz⟩ := I.tuple hq
  refine assign_Tuple_tuple (I.ok.hd hc) ht (by simp [hn, ← hl, rv.length]) hst fun h' hx => ?_
  have I1 : Inv X pins σ H { s with heap := h' } := I.kept (t' := s.toks) fun b o e => hx b o (Nat.ne_of_lt (Heap.lt_size e)) e
  exact h pins _ σ H xs _ Q I1 (by simpa using rv) hw
/-- target = value -/
def tAsg (te : TE) (g : TG) : TS := fun D σ H => te σ H fun x H1 => g x σ H1 D.nx
/-- name = value -/
theorem ps_set {i : Nat} {x : Str} {e : Expr} {te : TE} {pos' : Pos} (hN : X.N.Nodup) (hi : X.N[i]? = some x) (hx : Loc X.env.scope x) (he : PE X e te) (hs : swapsWith e (some (.Name x pos')) pos.line X.env = pure false := by rfl) (hf : X.fn x = true ∨ X.env.scope.names.lookup x = some .local := by first | exact .inl rfl | exact .inr rfl | assumption) :
    PS X (.Assign [.Name x pos'] e pos) (tAsg te (gName i)) := by
  intro pins s σ H D I h
  refine wpAny_Assign_Name (thn (he pins s σ H _ I h) fun v s1 ⟨y, H1, I1, r1, q1⟩ => ?_) hs
  exact store_ok I1 hN hi hx r1 (fun s2 I2 => ⟨_, H1, I2, q1⟩) hf
/-- name op= e -/
def tAug (i : Nat) (te : TE) (ti : TIp) : TS := fun D σ H => ∃ x, σ[i]? = some (some x) ∧ te σ H fun y H1 => ti x y H1 fun z H2 => D.nx (σ.set i (some z)) H2
theorem ps_aug {i : Nat} {x : Str} {e : Expr} {te : TE} {op : Operator} {ti : TIp} {pos' : Pos} (hN : X.N.Nodup) (hi : X.N[i]? = some x) (hx : Loc X.env.scope x) (he : PE X e te) (ho : PIp X op ti) (hf : X.fn x = true ∨ X.env.scope.names.lookup x = some .local := by first | exact .inl rfl | exact .inr rfl | assumption) :
    PS X (.AugAssign (.Name x pos') op e pos) (tAug i te ti) := by
  intro pins s σ H D I h
  obtain ⟨v, e1, h⟩ := h
  obtain ⟨m, hn, hl⟩ := I.loc
  have vis : Vis X.env.scope x := by rcases hx with k | k; exact .inl k; exact .inr (.inl k)
  obtain ⟨u, r, l⟩ := hl i x v hi e1 vis
  refine wpAny_AugAssign_Name ?_
  have go : wpAny (model X.prog X.w) X.A (eval e X.env) (fun w s₂ => wpAny (model X.prog X.w) X.A (inplaceOp op u w) (fun r s₃ => wpAny (model X.prog X.w) X.A (storeName X.env x r) (fun _ => SP X pins D .next) X.xe s₃) X.xe s₂) X.xe s := by
    refine thn (he pins s σ H _ I h) fun w s1 ⟨y, H1, I1, r1, q1⟩ => ?_
    refine thn (ho pins s1 σ H1 v y u w _ I1 r r1 q1) fun z s2 ⟨zv, H2, I2, r2, q2⟩ => ?_
    exact store_ok I2 hN hi hx r2 (fun s3 I3 => ⟨_, H2, I3, q2⟩) hf
  rcases l with ⟨hk, hm⟩ | ⟨hk, c, hc, hcell⟩
  · exact wpAny_loadName_local I.ok.kind hk hn hm go
  · rcases hk with hk | hk
    · exact wpAny_loadName_cell I.ok.kind hk hc hcell go
    · rcases hx with k | k
      · have : X.env.scope.names.lookup x = some .free := hk
        rw [k] at this; cases this
      · have : X.env.scope.names.lookup x = some .free := hk
        rw [k] at this; cases this
/-- ints -/
def ipI (f : Int → Int → Int) : TIp := fun x y H Q => ∃ i j, x = .int i ∧ y = .int j ∧ Q (.int (f i j)) H
theorem ip_add : PIp X .Add (ipI fun i j => i + j) := by
  intro pins s σ H x y v u Q I r1 r2 h
  obtain ⟨i, j, e1, e2, q⟩ := h
  subst e1; subst e2
  obtain ⟨t, rfl⟩ := r1
  obtain ⟨t', rfl⟩ := r2
  exact iadd_int ⟨.int _, H, I.tok _, ⟨_, rfl⟩, q⟩
end

section
variable {X : Cx} {pos : Pos}
/-- the invariant W with its measure -/
def tWhile (c : TT) (tb : TS) : TS := fun D σ H => ∃ W : Nat → St → Hp → Prop, (∃ m, W m σ H) ∧ ∀ m σ H, W m σ H →
  c σ H fun b H1 => if b = true then ∃ N : St → Hp → Prop, (∀ σ' H', N σ' H' → ∃ m', m' < m ∧ W m' σ' H') ∧ tb { D with nx := N, ct := N, bk := D.nx } σ H1 else D.nx σ H1
theorem ps_while {c : Expr} {body : List Stmt} {tc : TT} {tb : TS} (hp : PassesOwn (model X.prog X.w) X.A X.env X.xe) (hc : PT X c tc) (hb : PSs X body tb) : PS X (.While c body [] pos) (tWhile tc tb) := by
  intro pins s σ H D I h
  obtain ⟨W, ⟨m0, w0⟩, turn⟩ := h
  refine wpAny_While (codeAny_whileLoop (fun n s' => ∃ σ' H', Inv X pins σ' H' s' ∧ W n σ' H') ?_ m0 ⟨σ, H, I, w0⟩)
  rintro n s1 ⟨σ1, H1, I1, w1⟩
  refine wpAny_passesOwn hp (thn (hc pins s1 σ1 H1 _ I1 (turn n σ1 H1 w1)) fun b s2 ⟨H2, I2, q2⟩ => ?_)
  cases b with
  | true =>
    obtain ⟨N, hN, q2⟩ := q2
    rw [if_pos rfl]
    refine wpAny_passesOwn hp (thn (hb pins s2 σ1 H2 _ I2 q2) fun f s3 q3 => ?_)
    cases f with
    | next =>
      obtain ⟨σ3, H3, I3, n3⟩ := q3
      obtain ⟨m', hm, w3⟩ := hN σ3 H3 n3
      exact ⟨m', hm, σ3, H3, I3, w3⟩
    | cont =>
      obtain ⟨σ3, H3, I3, n3⟩ := q3
      obtain ⟨m', hm, w3⟩ := hN σ3 H3 n3
      exact ⟨m', hm, σ3, H3, I3, w3⟩
    | brk => exact q3
    | ret v => exact q3
  | false =>
    rw [if_neg Bool.false_ne_true]
    exact wpAny_execs_nil ⟨σ1, H2, I2, q2⟩
end

/-- at turn i: it yields x (the heap may grow), or it stops -/
structure It where
  go : Nat → Hp → Prop
  yld : Nat → Hp → V → Hp → Prop
  stop : Nat → Hp → Prop
/-- the iterator's own objects may turn: they are not the frame's, not pinned, younger than the entry (or a comprehension's own) -/
def FpOk (X : Cx) (pins : List (Addr × Obj)) (H : Hp) (b : Addr) : Prop :=
  H b = none ∧ b ≠ X.env.locals ∧ b ∉ X.fs ∧ (b ∈ X.ex ∨ X.s_0.heap.get? b = none) ∧ (∀ x c, X.env.cells.lookup x = some c → c ≠ b) ∧ ∀ p ∈ X.pn ++ pins, p.1 ≠ b
theorem Inv.fpOk {X : Cx} {pins : List (Addr × Obj)} {σ : St} {H H' : Hp} {s : Shared} {b : Addr} (I : Inv X pins σ H s) (hb : s.heap.objs.size ≤ b) (hn : H' b = none) : FpOk X pins H' b := by
  refine ⟨hn, Nat.ne_of_gt (Nat.lt_of_lt_of_le I.lt hb), I.nofs hb, .inr (Heap.get?_none_of_le (Nat.le_trans I.sz hb)), fun x c e z => ?_, fun p hp z => ?_⟩
  · obtain ⟨v, q⟩ := I.cell x c e
    exact absurd (Nat.lt_of_lt_of_le q.lt (by rw [z]; exact hb)) (Nat.lt_irrefl _)
  · exact absurd (Nat.lt_of_lt_of_le (Heap.lt_size (I.pin p hp).1) (by rw [z]; exact hb)) (Nat.lt_irrefl _)
structure Turn (P : Program) (w : World) (K : PySem.W.Frag) (tg : Expr) (J : It) (fp : List Addr) (it : Addr) (tn : Nat → Heap → Prop) : Prop where
  mem : it ∈ fp
  obj : ∀ i h, tn i h → ∀ b ∈ fp, ∃ o, h.get? b = some o ∧ ∀ v, o.data ≠ .cell v
  keep : ∀ i h h', tn i h → (∀ b ∈ fp, ∀ o, h.get? b = some o → h'.get? b = some o) → tn i h'
  item : ∀ (X : Cx), X.prog = P → X.w = w → X.K = K → X.calm = true → ∀ (i : Nat) (pins : List (Addr × Obj)) (s : Shared) (σ : St) (H : Hp) (E : Value → Shared → Prop), Inv X pins σ H s → (∀ b ∈ fp, FpOk X pins H b) → tn i s.heap → J.go i H →
    wpAny (model P w) X.A (pyNext (.ref it)) (fun r s1 => ∃ u, r = some u ∧
      wpAny (model P w) X.A (letOwnedTupleGo tg (.ref it) u) (fun _ s2 => ∃ x H', Inv X pins σ H' s2 ∧ RelV x u ∧ J.yld i H x H' ∧ tn (i + 1) s2.heap ∧ ∀ b ∈ fp, H' b = none) E s1) E s
  done : ∀ (X : Cx), X.prog = P → X.w = w → X.K = K → X.calm = true → ∀ (i : Nat) (pins : List (Addr × Obj)) (s : Shared) (σ : St) (H : Hp) (E : Value → Shared → Prop), Inv X pins σ H s → (∀ b ∈ fp, FpOk X pins H b) → tn i s.heap → J.stop i H →
    wpAny (model P w) X.A (pyNext (.ref it)) (fun r s1 => r = none ∧ Inv X pins σ H s1) E s
  self : ∀ (A : Around) (i : Nat) (s : Shared) (Q : Value → Shared → Prop) (E : Value → Shared → Prop), tn i s.heap → Q (.ref it) s → wpAny (model P w) A (pyIter (.ref it)) Q E s
abbrev TI := St → Hp → (It → Hp → Prop) → Prop
/-- an iterator has come -/
def PIE (X : Cx) (pins : List (Addr × Obj)) (σ : St) (tg : Expr) (R : It → Hp → Prop) (itv : Value) (s2 : Shared) : Prop :=
  ∃ (it : Addr) (fp : List Addr) (tn : Nat → Heap → Prop) (J : It) (H' : Hp), itv = .ref it ∧ Inv X pins σ H' s2 ∧ Turn X.prog X.w X.K tg J fp it tn ∧ tn 0 s2.heap ∧ (∀ b ∈ fp, FpOk X pins H' b) ∧ R J H'
def PI (X : Cx) (tg iter : Expr) (wi : TI) : Prop :=
  ∀ (pins : List (Addr × Obj)) (s : Shared) (σ : St) (H : Hp) (R : It → Hp → Prop), Inv X pins σ H s → wi σ H R →
    wpAny (model X.prog X.w) X.A (eval iter X.env) (fun v s1 => wpAny (model X.prog X.w) X.A (pyIter v) (PIE X pins σ tg R) X.xe s1) X.xe s

/-- the step ahead of the store is nothing for an iterator that keeps no tuple -/
theorem go_of {M : Model} {A : Around} {E : Value → Shared → Prop} {s : Shared} {tg : Expr} {it : Addr} {u : Value} {o : Obj} {n : String} {vs : Array Value} {Q : Unit → Shared → Prop} (ho : s.heap.get? it = some o) (hc : o.cls = .type n) (hd : o.data = .fields vs)
    (hn : ["enumerate", "zip", "dict_itemiterator", "dict_reverseitemiterator", "odict_iterator", "itertools.zip_longest", "itertools.pairwise"].contains n = false) (hQ : Q () s) : wpAny M A (letOwnedTupleGo tg (.ref it) u) Q E s := by
  unfold letOwnedTupleGo
  cases tg <;> first
    | exact wpAny_pure hQ
    | (cases u <;> first
        | exact wpAny_pure hQ
        | (refine wpAny_bind (wpAny_load ho ?_)
           rw [hc, hd]
           show wpAny M A (if (["enumerate", "zip", "dict_itemiterator", "dict_reverseitemiterator", "odict_iterator", "itertools.zip_longest", "itertools.pairwise"].contains n && vs[0]? == some (rawInt _)) = true then _ else _) Q E s
           rw [if_neg (by intro h; rw [hn, Bool.false_and] at h; cases h)]
           exact wpAny_pure hQ))

/-- the list at a, as it stands at each turn (a loop may append to it) -/
def Itl (K : PySem.W.Frag) (a : Addr) : It :=
  ⟨fun i H => ∃ xs x, SqL K H a xs ∧ xs[i]? = some x, fun i H x H' => H' = H ∧ ∀ xs, SqL K H a xs → xs[i]? = some x, fun i H => ∃ xs, SqL K H a xs ∧ xs.length ≤ i⟩
/-- lo, lo + 1, .. (n of them) -/
def Itr (lo : Int) (n : Nat) : It := ⟨fun i _ => i < n, fun i H x H' => H' = H ∧ x = .int (lo + i), fun i _ => n ≤ i⟩
theorem turn_list {P : Program} {w : World} {K : PySem.W.Frag} {tg : Expr} (a it : Addr) : Turn P w K tg (Itl K a) [it] it (fun i h => h.IsListIter it a i) where
  mem := by simp
  obj := fun i h st b hb => by
    have e : b = it := by simpa using hb
    subst e
    obtain ⟨o, e, c, d⟩ := st
    exact ⟨o, e, fun v z => by rw [d] at z; cases z⟩
  keep := fun i h h' st k => st.at fun o e => k it (by simp) o e
  item := by
    intro X hP hw hK hc i pins s σ H E I hf st hg
    subst hP hw hK
    obtain ⟨xs, x, hq, hx⟩ := hg
    obtain ⟨its, rv, p, hz⟩ := I.list hq
    obtain ⟨u, hu, ru⟩ := rv.get hx
    obtain ⟨f0, f1, f2, f3, f4, f5⟩ := hf it (by simp)
    refine wpAny_pyNext_list_item st p.isList (x := u) (by simpa using hu) fun h' st' sb => ?_
    have I1 : Inv X pins σ H { s with heap := h' } := I.turned (t' := s.toks) (fun b o hb e => (sb.2 b hb).trans e) f0 f1 f3 f4 f5
    obtain ⟨o, e, c, d⟩ := id st'
    exact ⟨u, rfl, go_of (s := { s with heap := h' }) e c d (by decide) ⟨x, H, I1, ru, ⟨rfl, fun ys hy => by rw [I.list_inj hy hq]; exact hx⟩, st', fun b hb => (hf b hb).1⟩⟩
  done := by
    intro X hP hw hK hc i pins s σ H E I hf st hg
    subst hP hw hK
    obtain ⟨xs, hq, hx⟩ := hg
    obtain ⟨its, rv, p, hz⟩ := I.list hq
    obtain ⟨f0, f1, f2, f3, f4, f5⟩ := hf it (by simp)
    have hl := rv.length
    exact wpAny_pyNext_list_end (I.ok.hd hc) st p.isList (by simp; omega) fun h' eb => ⟨rfl, I.turned (t' := s.toks) (fun b o hb e => eb b o hb e) f0 f1 f3 f4 f5⟩
  self := fun _ _ _ _ _ st h => wpAny_pyIter_listiter st h
theorem turn_range {P : Program} {w : World} {K : PySem.W.Frag} {tg : Expr} (it : Addr) (lo : Int) (n : Nat) : Turn P w K tg (Itr lo n) [it] it (fun i h => IsRangeIter h it (lo + (i : Nat) * 1) ((n : Int) - (i : Nat)) 1) where
  mem := by simp
  obj := fun i h st b hb => by
    have e : b = it := by simpa using hb
    subst e
    exact ⟨_, st, fun v z => by
      have z' : Data.fields _ = Data.cell v := z
      cases z'⟩
  keep := fun i h h' st k => k it (by simp) _ st
  item := by
    intro X hP hw hK hc i pins s σ H E I hf st hg
    subst hP hw hK
    obtain ⟨f0, f1, f2, f3, f4, f5⟩ := hf it (by simp)
    have W := Walks.range (prog := X.prog) (w := X.w) (I.ok.hd hc) it lo 1 n
    refine W.item i s _ _ hg st fun v h' tk hv st' kk => ?_
    obtain ⟨t, rfl⟩ := hv
    have I1 : Inv X pins σ H { s with heap := h', toks := tk } := I.turned (fun b o hb e => kk b o (by simpa using hb) e) f0 f1 f3 f4 f5
    refine ⟨_, rfl, go_of (s := { s with heap := h', toks := tk }) (n := "range_iterator") st' rfl rfl (by decide) ⟨.int (lo + i), H, I1, ⟨t, ?_⟩, ⟨rfl, rfl⟩, st', fun b hb => (hf b hb).1⟩⟩
    rw [Int.mul_one]
  done := by
    intro X hP hw hK hc i pins s σ H E I hf st hg
    subst hP hw hK
    obtain ⟨f0, f1, f2, f3, f4, f5⟩ := hf it (by simp)
    exact wpAny_pyNext_range_end (I.ok.hd hc) st (by have : n ≤ i := hg; omega) fun h' eb => ⟨rfl, I.turned (t' := s.toks) (fun b o hb e => eb b o hb e) f0 f1 f3 f4 f5⟩
  self := fun _ _ _ _ _ st h => wpAny_pyIter_rangeiter st h
end L2

namespace L2
open PySem PySem.Spec PyProof.Rows
section
variable {X : Cx} {tg : Expr}
def iList (K : PySem.W.Frag) (tl : TE) : TI := fun σ H R => tl σ H fun x H1 => ∃ a, x = .ref a ∧ (∃ xs, SqL K H1 a xs) ∧ R (Itl K a) H1
theorem pi_list {l : Expr} {tl : TE} (hl : PE X l tl) : PI X tg l (iList X.K tl) := by
  intro pins s σ H R I h
  refine thn (hl pins s σ H _ I h) fun v s1 ⟨x, H1, I1, r1, q1⟩ => ?_
  obtain ⟨a, e, ⟨xs, hq⟩, q⟩ := q1
  subst e
  cases r1
  obtain ⟨its, rv, p, hz⟩ := I1.list hq
  refine wpAny_pyIter_list p.isList ?_
  refine ⟨s1.heap.objs.size, [s1.heap.objs.size], _, _, H1, rfl, I1.kept (t' := s1.toks) fun b o e => Heap.get?_push_of_some _ e, turn_list a _, ⟨_, Heap.get?_push_size _ rfl, rfl, rfl⟩, fun b hb => ?_, q⟩
  have e : b = s1.heap.objs.size := by simpa using hb
  subst e
  exact I1.fpOk (Nat.le_refl _) (I1.hok.fresh (Nat.le_refl _))
/-- a range object just made, walked -/
theorem range_it {pins : List (Addr × Obj)} {σ : St} {H : Hp} {s : Shared} {R : It → Hp → Prop} {E : Value → Shared → Prop} {lo hi : Int} {t u v : Tok} {tk : Nat} (I : Inv X pins σ H s) (h1 : -(2 ^ 62) ≤ lo) (h2 : lo < 2 ^ 62) (h3 : -(2 ^ 62) ≤ hi) (h4 : hi < 2 ^ 62)
    (q : R (Itr lo (hi - lo).toNat) H) : wpAny (model X.prog X.w) X.A (pyIter (.ref s.heap.objs.size)) (PIE X pins σ tg R) E { s with heap := s.heap.push { cls := .type "range", data := .fields #[.int lo t, .int hi u, .int 1 v] }, toks := tk } := by
  refine wpAny_pyIter_range (IsRange.new ..) (small_one h1 h2 h3 h4) ?_
  have I1 : Inv X pins σ H { s with heap := s.heap.push { cls := .type "range", data := .fields #[.int lo t, .int hi u, .int 1 v] }, toks := tk } := I.kept fun b o e => Heap.get?_push_of_some _ e
  refine ⟨(s.heap.push { cls := .type "range", data := .fields #[.int lo t, .int hi u, .int 1 v] }).objs.size, [(s.heap.push { cls := .type "range", data := .fields #[.int lo t, .int hi u, .int 1 v] }).objs.size], _, _, H, rfl,
    I1.kept (t' := tk) fun b o e => Heap.get?_push_of_some _ e, turn_range _ lo (hi - lo).toNat, ?_, fun b hb => ?_, q⟩
  · have e1 : lo + ((0 : Nat) : Int) * 1 = lo := by simp
    have e2 : (((hi - lo).toNat : Nat) : Int) - ((0 : Nat) : Int) = Builtin.Range.rangeSize lo hi 1 := by rw [rangeSize_one]; split <;> omega
    show IsRangeIter _ _ (lo + ((0 : Nat) : Int) * 1) ((((hi - lo).toNat : Nat) : Int) - ((0 : Nat) : Int)) 1
    rw [e1, e2]
    exact Heap.get?_push_size _ rfl
  · have e : b = (s.heap.push { cls := .type "range", data := .fields #[.int lo t, .int hi u, .int 1 v] }).objs.size := by simpa using hb
    subst e
    exact I1.fpOk (Nat.le_refl _) (I1.hok.fresh (Nat.le_refl _))
def iRng1 (ta : TA) : TI := fun σ H R => ta σ H fun vs H1 => ∃ j : Int, vs = [.int j] ∧ -(2 ^ 62) ≤ j ∧ j < 2 ^ 62 ∧ R (Itr 0 j.toNat) H1
theorem pi_range1 {a : Expr} {ta : TA} {p pos : Pos} (hg : Gl X "range") (hm : X.mg "range" = none) (ha : PA X [a] ta) (hs : starEach [a] X.env = [(false, eval a X.env)] := by rfl) : PI X tg (.Call (.Name "range" p) [a] [] pos) (iRng1 ta) := by
  intro pins s σ H R I h
  refine Call_ (ld_blt I hg hm boot_range (PyProof.Rows.callWith_type1 (thn (ha pos pins s σ H _ I h) fun us s1 ⟨vs, H1, I1, r1, q1⟩ => ?_) hs rfl))
  obtain ⟨j, e, q1, q2, q⟩ := q1
  subst e
  cases r1 with
  | cons r rr =>
    cases rr
    obtain ⟨t, rfl⟩ := r
    exact call_range_1 (range_it I1 (by omega) (by omega) q1 q2 (by simpa using q))
/-- W: the invariant by the turn and a measure; N: what the body is to reach -/
def tFor (wi : TI) (g : TG) (tb : TS) : TS := fun D σ H => wi σ H fun J H1 => ∃ W : Nat → Nat → St → Hp → Prop, (∃ m, W 0 m σ H1) ∧ ∀ i m σ H, W i m σ H →
  (J.stop i H ∧ D.nx σ H) ∨ (J.go i H ∧ ∃ N : St → Hp → Prop, (∀ σ' H', N σ' H' → ∃ m', m' < m ∧ W (i + 1) m' σ' H') ∧ ∀ x H', J.yld i H x H' → g x σ H' fun σ2 H2 => tb { D with nx := N, ct := N, bk := D.nx } σ2 H2)
/-- the records at fp as they stand -/
def pinsAt (fp : List Addr) (h : Heap) : List (Addr × Obj) := fp.filterMap fun b => (h.get? b).map fun o => (b, o)
theorem mem_pinsAt {fp : List Addr} {h : Heap} {b : Addr} {o : Obj} (hb : b ∈ fp) (e : h.get? b = some o) : (b, o) ∈ pinsAt fp h := List.mem_filterMap.mpr ⟨b, hb, by rw [e]; rfl⟩
theorem of_pinsAt {fp : List Addr} {h : Heap} {p : Addr × Obj} (hp : p ∈ pinsAt fp h) : p.1 ∈ fp ∧ h.get? p.1 = some p.2 := by
  obtain ⟨b, hb, e⟩ := List.mem_filterMap.mp hp
  cases q : h.get? b with
  | none => rw [q] at e; cases e
  | some o =>
    rw [q] at e
    have e' : (b, o) = p := Option.some.inj e
    subst e'
    exact ⟨hb, q⟩
theorem Inv.pinned {pins : List (Addr × Obj)} {σ : St} {H : Hp} {s : Shared} {fp : List Addr} (I : Inv X pins σ H s) (hf : ∀ b ∈ fp, FpOk X pins H b) (ho : ∀ b ∈ fp, ∃ o, s.heap.get? b = some o ∧ ∀ v, o.data ≠ .cell v) : Inv X (pins ++ pinsAt fp s.heap) σ H s :=
  I.pins_of fun p hp => (List.mem_append.mp hp).elim (fun z => I.pin p (List.mem_append_right _ z)) fun z => by
    obtain ⟨hb, e⟩ := of_pinsAt z
    obtain ⟨f0, f1, f2, _⟩ := hf p.1 hb
    obtain ⟨o, e', d⟩ := ho p.1 hb
    rw [e] at e'; cases e'
    exact ⟨e, f0, f1, f2, d⟩
theorem Inv.unpinned {pins pl : List (Addr × Obj)} {σ : St} {H : Hp} {s : Shared} (I : Inv X (pins ++ pl) σ H s) : Inv X pins σ H s := I.pins_of fun p hp => I.pin p (List.mem_append_right _ (List.mem_append_left _ hp))
theorem ps_for {iter : Expr} {body : List Stmt} {wi : TI} {g : TG} {tb : TS} {pos : Pos} (hp : PassesOwn (model X.prog X.w) X.A X.env X.xe) (hc : X.calm = true) (hi : PI X tg iter wi) (hg : PG X tg g) (hb : PSs X body tb)
    (hs : ∀ x, foldedSetIterable iter X.env x = pure x := by intro _; rfl) : PS X (.For tg iter body [] pos) (tFor wi g tb) := by
  intro pins s σ H D I h
  refine wpAny_For (thn (hi pins s σ H _ I h) fun v s1 h1 => thn h1 fun itv s2 h2 => ?_) hs
  obtain ⟨it, fp, tn, J, H2, e, I2, T, st2, f2, W, ⟨m0, w0⟩, turn⟩ := h2
  subst e
  -- what stays true of the iterator's objects through the loop
  have stat : ∀ {H' : Hp}, (∀ b ∈ fp, H' b = none) → ∀ b ∈ fp, FpOk X pins H' b := fun hn b hb => ⟨hn b hb, (f2 b hb).2⟩
  refine codeAny_forLoop_any (fun n s' => ∃ i σ' H', Inv X pins σ' H' s' ∧ tn i s'.heap ∧ (∀ b ∈ fp, H' b = none) ∧ W i n σ' H') ?_ m0 ⟨0, σ, H2, I2, st2, fun b hb => (f2 b hb).1, w0⟩
  rintro n s3 ⟨i, σ3, H3, I3, st3, fr3, w3⟩
  rcases turn i n σ3 H3 w3 with ⟨stop, qn⟩ | ⟨go, N, hN, step⟩
  · refine wpAny_passesOwn hp (thn (T.done X rfl rfl rfl hc i pins s3 σ3 H3 X.xe I3 (stat fr3) st3 stop) fun r s4 ⟨hr, I4⟩ => ?_)
    subst hr
    exact wpAny_execs_nil ⟨σ3, H3, I4, qn⟩
  · refine wpAny_passesOwn hp (thn (T.item X rfl rfl rfl hc i pins s3 σ3 H3 X.xe I3 (stat fr3) st3 go) fun r s4 ⟨u, hr, h4⟩ => ?_)
    subst hr
    refine wpAny_passesOwn hp (thn h4 fun _ s5 ⟨x, H5, I5, r5, y5, st5, fr5⟩ => ?_)
    have I5' := I5.pinned (stat fr5) (T.obj _ _ st5)
    refine wpAny_passesOwn hp (thn (hg _ s5 σ3 H5 x u _ I5' r5 (step x H5 y5)) fun _ s6 ⟨σ6, H6, I6, q6⟩ => ?_)
    refine wpAny_passesOwn hp (thn (hb _ s6 σ6 H6 _ I6 q6) fun f s7 q7 => ?_)
    have again : ∀ {σ7 : St} {H7 : Hp}, Inv X (pins ++ pinsAt fp s5.heap) σ7 H7 s7 → N σ7 H7 → ∃ m, m < n ∧ ∃ i σ' H', Inv X pins σ' H' s7 ∧ tn i s7.heap ∧ (∀ b ∈ fp, H' b = none) ∧ W i m σ' H' := fun {σ7 H7} I7 n7 => by
      obtain ⟨m', hm, w7⟩ := hN σ7 H7 n7
      refine ⟨m', hm, i + 1, σ7, H7, I7.unpinned, T.keep _ _ _ st5 fun b hb o e => (I7.pin (b, o) (List.mem_append_right _ (List.mem_append_right _ (mem_pinsAt hb e)))).1, fun b hb => ?_, w7⟩
      obtain ⟨o, e, d⟩ := T.obj _ _ st5 b hb
      exact (I7.pin (b, o) (List.mem_append_right _ (List.mem_append_right _ (mem_pinsAt hb e)))).2.1
    cases f with
    | next => obtain ⟨σ7, H7, I7, n7⟩ := q7; exact again I7 n7
    | cont => obtain ⟨σ7, H7, I7, n7⟩ := q7; exact again I7 n7
    | brk => obtain ⟨σ7, H7, I7, q7⟩ := q7; exact ⟨σ7, H7, I7.unpinned, q7⟩
    | ret v => obtain ⟨x7, σ7, H7, I7, r7, q7⟩ := q7; exact ⟨x7, σ7, H7, I7.unpinned, r7, q7⟩
end

/-- over a list that the body leaves as it is -/
theorem for_list {K : PySem.W.Frag} {a : Addr} {xs : List V} {g : TG} {tb : TS} {D : Ends} {σ : St} {H : Hp} (Pv : Nat → St → Hp → Prop) (h0 : Pv 0 σ H) (hl : ∀ i σ H, i ≤ xs.length → Pv i σ H → SqL K H a xs)
    (hs : ∀ i x σ H, xs[i]? = some x → Pv i σ H → g x σ H fun σ2 H2 => tb { D with nx := Pv (i + 1), ct := Pv (i + 1), bk := D.nx } σ2 H2) (hd : ∀ σ H, Pv xs.length σ H → D.nx σ H) :
    ∃ W : Nat → Nat → St → Hp → Prop, (∃ m, W 0 m σ H) ∧ ∀ i m σ H, W i m σ H →
      ((Itl K a).stop i H ∧ D.nx σ H) ∨ ((Itl K a).go i H ∧ ∃ N : St → Hp → Prop, (∀ σ' H', N σ' H' → ∃ m', m' < m ∧ W (i + 1) m' σ' H') ∧ ∀ x H', (Itl K a).yld i H x H' → g x σ H' fun σ2 H2 => tb { D with nx := N, ct := N, bk := D.nx } σ2 H2) := by
  refine ⟨fun i m σ H => m = xs.length - i ∧ i ≤ xs.length ∧ Pv i σ H, ⟨xs.length, by simp, Nat.zero_le _, h0⟩, ?_⟩
  rintro i m σ H ⟨rfl, hi, p⟩
  have q := hl i σ H hi p
  by_cases hlt : i < xs.length
  · refine .inr ⟨⟨xs, xs[i], q, by simp [hlt]⟩, Pv (i + 1), fun σ' H' p' => ⟨xs.length - (i + 1), by omega, rfl, hlt, p'⟩, fun x H' y => ?_⟩
    obtain ⟨e, y⟩ := y
    subst e
    exact hs i x σ _ (y xs q) p
  · have e : i = xs.length := by omega
    subst e
    exact .inl ⟨⟨xs, q, Nat.le_refl _⟩, hd σ H p⟩
theorem for_range {lo : Int} {n : Nat} {g : TG} {tb : TS} {D : Ends} {σ : St} {H : Hp} (Pv : Nat → St → Hp → Prop) (h0 : Pv 0 σ H)
    (hs : ∀ i σ H, i < n → Pv i σ H → g (.int (lo + i)) σ H fun σ2 H2 => tb { D with nx := Pv (i + 1), ct := Pv (i + 1), bk := D.nx } σ2 H2) (hd : ∀ σ H, Pv n σ H → D.nx σ H) :
    ∃ W : Nat → Nat → St → Hp → Prop, (∃ m, W 0 m σ H) ∧ ∀ i m σ H, W i m σ H →
      ((Itr lo n).stop i H ∧ D.nx σ H) ∨ ((Itr lo n).go i H ∧ ∃ N : St → Hp → Prop, (∀ σ' H', N σ' H' → ∃ m', m' < m ∧ W (i + 1) m' σ' H') ∧ ∀ x H', (Itr lo n).yld i H x H' → g x σ H' fun σ2 H2 => tb { D with nx := N, ct := N, bk := D.nx } σ2 H2) := by
  refine ⟨fun i m σ H => m = n - i ∧ i ≤ n ∧ Pv i σ H, ⟨n, by simp, Nat.zero_le _, h0⟩, ?_⟩
  rintro i m σ H ⟨rfl, hi, p⟩
  by_cases hlt : i < n
  · refine .inr ⟨hlt, Pv (i + 1), fun σ' H' p' => ⟨n - (i + 1), by omega, rfl, hlt, p'⟩, fun x H' y => ?_⟩
    obtain ⟨e, y⟩ := y
    subst e y
    exact hs i σ _ hlt p
  · have e : i = n := by omega
    subst e
    exact .inl ⟨Nat.le_refl _, hd σ H p⟩
end L2

namespace L2
open PySem PySem.Spec PyProof.Rows

abbrev R2 := V → V → Hp → VK → Prop
/-- a two-place operation on values: f is binaryOp op, inplaceOp op or compareOp op -/
def OpR (X : Cx) (f : Value → Value → Sem Value) (r : R2) : Prop :=
  ∀ (pins : List (Addr × Obj)) (s : Shared) (σ : St) (H : Hp) (x y : V) (v u : Value) (Q : VK), Inv X pins σ H s → RelV x v → RelV y u → r x y H Q →
    wpAny (model X.prog X.w) X.A (f v u) (EP X pins σ Q) X.xe s
/-- a one-place operation -/
def UnR (X : Cx) (f : Value → Sem Value) (r : V → Hp → VK → Prop) : Prop :=
  ∀ (pins : List (Addr × Obj)) (s : Shared) (σ : St) (H : Hp) (x : V) (v : Value) (Q : VK), Inv X pins σ H s → RelV x v → r x H Q →
    wpAny (model X.prog X.w) X.A (f v) (EP X pins σ Q) X.xe s
/-- a call of a value that is known (a builtin, a type) with values -/
def CallR (X : Cx) (f : Value) (r : List V → Hp → VK → Prop) : Prop :=
  ∀ (pins : List (Addr × Obj)) (s : Shared) (σ : St) (H : Hp) (xs : List V) (us : List Value) (Q : VK), Inv X pins σ H s → Vals xs us → r xs H Q →
    wpAny (model X.prog X.w) X.A (call f us) (EP X pins σ Q) X.xe s
/-- a value's truth -/
def TruR (X : Cx) (r : V → Hp → (Bool → Hp → Prop) → Prop) : Prop :=
  ∀ (pins : List (Addr × Obj)) (s : Shared) (σ : St) (H : Hp) (x : V) (v : Value) (Q : Bool → Hp → Prop), Inv X pins σ H s → RelV x v → r x H Q →
    wpAny (model X.prog X.w) X.A (truthy v) (TP X pins σ Q) X.xe s

def tOp (r : R2) (ta tb : TE) : TE := fun σ H Q => ta σ H fun x H1 => tb σ H1 fun y H2 => r x y H2 Q
def tUn (r : V → Hp → VK → Prop) (ta : TE) : TE := fun σ H Q => ta σ H fun x H1 => r x H1 Q
/-- ints in, under C, and a value out -/
def rI (C : Int → Int → Prop) (g : Int → Int → V) : R2 := fun x y H Q => ∃ i j, x = .int i ∧ y = .int j ∧ C i j ∧ Q (g i j) H
def rI0 (g : Int → Int → V) : R2 := fun x y H Q => ∃ i j, x = .int i ∧ y = .int j ∧ Q (g i j) H
def rU (g : Int → V) : V → Hp → VK → Prop := fun x H Q => ∃ i, x = .int i ∧ Q (g i) H

section
variable {X : Cx} {a b c : Expr} {ta tb tc : TE} {pos : Pos}

theorem binT (ha : PE X a ta) (hb : PE X b tb) {pins : List (Addr × Obj)} {s : Shared} {σ : St} {H : Hp} {R : V → V → Hp → Prop} (I : Inv X pins σ H s)
    (h : ta σ H fun x H1 => tb σ H1 fun y H2 => R x y H2) {Q : Value → Shared → Prop} {f : Value → Value → Sem Value}
    (hf : ∀ v u s2 x y H2, Inv X pins σ H2 s2 → RelV x v → RelV y u → R x y H2 → wpAny (model X.prog X.w) X.A (f v u) Q X.xe s2) :
    wpAny (model X.prog X.w) X.A (eval a X.env) (fun v s₁ => wpAny (model X.prog X.w) X.A (eval b X.env) (fun u s₂ => wpAny (model X.prog X.w) X.A (f v u) Q X.xe s₂) X.xe s₁) X.xe s := by
  refine thn (ha pins s σ H _ I h) fun v s1 ⟨x, H1, I1, r1, q1⟩ => ?_
  refine thn (hb pins s1 σ H1 _ I1 q1) fun u s2 ⟨y, H2, I2, r2, q2⟩ => ?_
  exact hf v u s2 x y H2 I2 r1 r2 q2

theorem pe_op {op : Operator} {r : R2} (ho : OpR X (binaryOp op) r) (ha : PE X a ta) (hb : PE X b tb) : PE X (.BinOp a op b pos) (tOp r ta tb) := by
  intro pins s σ H Q I h
  exact wpAny_BinOp (binT ha hb I h fun v u s2 x y H2 I2 rx ry q => ho pins s2 σ H2 x y v u Q I2 rx ry q)
theorem pe_un {op : UnaryOp} {r : V → Hp → VK → Prop} (ho : UnR X (unaryOp op) r) (ha : PE X a ta) : PE X (.UnaryOp op a pos) (tUn r ta) := by
  intro pins s σ H Q I h
  exact UnaryOp_ (thn (ha pins s σ H _ I h) fun v s1 ⟨x, H1, I1, r1, q1⟩ => ho pins s1 σ H1 x v Q I1 r1 q1)
theorem opI {f : Value → Value → Sem Value} {C : Int → Int → Prop} {g : Int → Int → Int}
    (rule : ∀ (i j : Int) (t u : Tok) (s : Shared) (Q : Value → Shared → Prop) (E : Value → Shared → Prop), C i j → Q (.int (g i j) s.toks) { s with toks := s.toks + 1 } → wpAny (model X.prog X.w) X.A (f (.int i t) (.int j u)) Q E s) :
    OpR X f (rI C fun i j => .int (g i j)) := by
  intro pins s σ H x y v u Q I rx ry h
  obtain ⟨i, j, rfl, rfl, hc, q⟩ := h
  obtain ⟨t, rfl⟩ := rx
  obtain ⟨t', rfl⟩ := ry
  exact rule i j t t' s _ _ hc ⟨.int (g i j), H, I.tok _, ⟨_, rfl⟩, q⟩
theorem opI0 {f : Value → Value → Sem Value} {g : Int → Int → Int}
    (rule : ∀ (i j : Int) (t u : Tok) (s : Shared) (Q : Value → Shared → Prop) (E : Value → Shared → Prop), Q (.int (g i j) s.toks) { s with toks := s.toks + 1 } → wpAny (model X.prog X.w) X.A (f (.int i t) (.int j u)) Q E s) :
    OpR X f (rI0 fun i j => .int (g i j)) := by
  intro pins s σ H x y v u Q I rx ry h
  obtain ⟨i, j, rfl, rfl, q⟩ := h
  obtain ⟨t, rfl⟩ := rx
  obtain ⟨t', rfl⟩ := ry
  exact rule i j t t' s _ _ ⟨.int (g i j), H, I.tok _, ⟨_, rfl⟩, q⟩
theorem opB0 {f : Value → Value → Sem Value} {g : Int → Int → Bool}
    (rule : ∀ (i j : Int) (t u : Tok) (s : Shared) (Q : Value → Shared → Prop) (E : Value → Shared → Prop), Q (.bool (g i j)) s → wpAny (model X.prog X.w) X.A (f (.int i t) (.int j u)) Q E s) :
    OpR X f (rI0 fun i j => .bl (g i j)) := by
  intro pins s σ H x y v u Q I rx ry h
  obtain ⟨i, j, rfl, rfl, q⟩ := h
  obtain ⟨t, rfl⟩ := rx
  obtain ⟨t', rfl⟩ := ry
  exact rule i j t t' s _ _ ⟨.bl (g i j), H, I, rfl, q⟩

def CDiv (i j : Int) : Prop := 0 < j ∧ j < 1073741824
def CPow (i j : Int) : Prop := 0 ≤ j ∧ j ≤ 1000000 ∧ i.natAbs < 2 ^ 64
def CMul (i j : Int) : Prop := (-(2 ^ 64) < i ∧ i < 2 ^ 64) ∨ (-(2 ^ 64) < j ∧ j < 2 ^ 64)
theorem CMul.ok {i j : Int} (h : CMul i j) : IntMulOk i j := by
  rcases h with ⟨h1, h2⟩ | ⟨h1, h2⟩
  · exact .of_left (intBits_le_64 h1 h2)
  · exact .of_right (intBits_le_64 h1 h2)
theorem two_pow_nn (k : Nat) : (0 : Int) ≤ 2 ^ k := by
  rw [two_pow_cast]
  exact Int.natCast_nonneg _

theorem op_add : OpR X (binaryOp .Add) (rI0 fun i j => .int (i + j)) := opI0 fun _ _ _ _ _ _ _ q => add_int q
theorem op_sub : OpR X (binaryOp .Sub) (rI0 fun i j => .int (i - j)) := opI0 fun _ _ _ _ _ _ _ q => sub_int q
theorem op_mul : OpR X (binaryOp .Mult) (rI CMul fun i j => .int (i * j)) := opI fun _ _ _ _ _ _ _ hc q => mul_int q hc.ok
/-- // by a positive divisor -/
theorem op_fdiv : OpR X (binaryOp .FloorDiv) (rI CDiv fun i j => .int (i / j)) := opI fun i j _ _ _ _ _ hc q => by
  have h1 : (0 : Int) < j := hc.1
  have h2 : j < 1073741824 := hc.2
  exact floordiv_int (by omega) (by rw [Int.fdiv_eq_ediv_of_nonneg i (by omega)]; exact q) (.inl (PyProof.noPylong_small (by omega)))
/-- % by a positive divisor of any size -/
theorem op_mod : OpR X (binaryOp .Mod) (rI (fun _ j => 0 < j) fun i j => .int (i % j)) := opI fun i j _ _ _ _ _ hc q => by
  have h1 : (0 : Int) < j := hc
  exact mod_int' (by omega) (by rw [Int.fmod_eq_emod_of_nonneg i (by omega)]; exact q)
theorem op_shl : OpR X (binaryOp .LShift) (rI CPow fun i j => .int (i * 2 ^ j.toNat)) := opI fun _ _ _ _ _ _ _ hc q => lshift_int_small hc.1 hc.2.1 hc.2.2 q
theorem op_shr : OpR X (binaryOp .RShift) (rI (fun _ j => 0 ≤ j) fun i j => .int (i / 2 ^ j.toNat)) := opI fun i j _ _ _ _ _ hc q =>
  rshift_int hc (by rw [Int.fdiv_eq_ediv_of_nonneg i (two_pow_nn _)]; exact q)
theorem op_and : OpR X (binaryOp .BitAnd) (rI0 fun i j => .int (Builtin.bitAnd i j)) := opI0 fun _ _ _ _ _ _ _ q => and_int q
theorem unI {f : Value → Sem Value} {g : Int → Int}
    (rule : ∀ (i : Int) (t : Tok) (s : Shared) (Q : Value → Shared → Prop) (E : Value → Shared → Prop), Q (.int (g i) s.toks) { s with toks := s.toks + 1 } → wpAny (model X.prog X.w) X.A (f (.int i t)) Q E s) :
    UnR X f (rU fun i => .int (g i)) := by
  intro pins s σ H x v Q I rx h
  obtain ⟨i, rfl, q⟩ := h
  obtain ⟨t, rfl⟩ := rx
  exact rule i t s _ _ ⟨.int (g i), H, I.tok _, ⟨_, rfl⟩, q⟩
theorem un_neg : UnR X (unaryOp .USub) (rU fun i => .int (-i)) := unI fun _ _ _ _ _ q => neg_int q
end

/-- the scalars that == tells apart as data does -/
def scal : V → V → Bool
  | .non, .non => true | .non, .int _ => true | .int _, .non => true | .non, .bl _ => true | .bl _, .non => true | .non, .str _ => true | .str _, .non => true
  | .int _, .int _ => true | .bl _, .bl _ => true | .str _, .str _ => true | .byt _, .byt _ => true
  | .int _, .str _ => true | .str _, .int _ => true | .bl _, .str _ => true | .str _, .bl _ => true
  | _, _ => false
def rEq : R2 := fun x y H Q => scal x y = true ∧ Q (.bl (decide (x = y))) H
def rNe : R2 := fun x y H Q => scal x y = true ∧ Q (.bl (!decide (x = y))) H

theorem dec_int {i j : Int} : decide (V.int i = V.int j) = (i == j) := by
  rw [Bool.eq_iff_iff]
  simp
theorem dec_bl {i j : Bool} : decide (V.bl i = V.bl j) = (i == j) := by
  rw [Bool.eq_iff_iff]
  simp
theorem dec_str {i j : Str} : decide (V.str i = V.str j) = (i == j) := by
  rw [Bool.eq_iff_iff]
  simp
theorem dec_byt {i j : Array UInt8} : decide (V.byt i = V.byt j) = (i.toList == j.toList) := by
  rw [Bool.eq_iff_iff]
  cases i
  cases j
  simp

section
variable {X : Cx} {a b c : Expr} {ta tb tc : TE} {pos : Pos}
theorem fin_bl {pins : List (Addr × Obj)} {σ : St} {H : Hp} {s : Shared} {Q : VK} {k k' : Bool} (I : Inv X pins σ H s) (q : Q (.bl k) H) (e : k = k') : EP X pins σ Q (.bool k') s := by
  subst e
  exact ⟨.bl k, H, I, rfl, q⟩
theorem op_eq : OpR X (compareOp .Eq) rEq := by
  intro pins s σ H x y v u Q I rx ry h
  obtain ⟨hs, q⟩ := h
  cases x with
  | non =>
    cases rx
    cases y with
    | non => cases ry; exact PySem.EqNone.eq_none_none (fin_bl I q (by simp))
    | bl j => cases ry; exact PySem.EqNone.eq_none_bool (fin_bl I q (by simp))
    | int j => obtain ⟨t', rfl⟩ := ry; exact PySem.EqNone.eq_none_int (fin_bl I q (by simp))
    | str j => obtain ⟨t', rfl⟩ := ry; exact PySem.EqNone.eq_none_str (fin_bl I q (by simp))
    | _ => exact absurd (show false = true from hs) Bool.false_ne_true
  | bl i =>
    cases rx
    cases y with
    | non => cases ry; exact PySem.EqNone.eq_bool_none (fin_bl I q (by simp))
    | bl j => cases ry; exact eq_bool (fin_bl I q dec_bl)
    | str j => obtain ⟨t', rfl⟩ := ry; exact PySem.EqMixed.eq_bool_str (fin_bl I q (by simp))
    | _ => exact absurd (show false = true from hs) Bool.false_ne_true
  | int i =>
    obtain ⟨t, rfl⟩ := rx
    cases y with
    | non => cases ry; exact PySem.EqNone.eq_int_none (fin_bl I q (by simp))
    | int j => obtain ⟨t', rfl⟩ := ry; exact eq_int (fin_bl I q dec_int)
    | str j => obtain ⟨t', rfl⟩ := ry; exact PySem.EqMixed.eq_int_str (fin_bl I q (by simp))
    | _ => exact absurd (show false = true from hs) Bool.false_ne_true
  | str i =>
    obtain ⟨t, rfl⟩ := rx
    cases y with
    | non => cases ry; exact PySem.EqNone.eq_str_none (fin_bl I q (by simp))
    | bl j => cases ry; exact PySem.EqMixed.eq_str_bool (fin_bl I q (by simp))
    | int j => obtain ⟨t', rfl⟩ := ry; exact PySem.EqMixed.eq_str_int (fin_bl I q (by simp))
    | str j => obtain ⟨t', rfl⟩ := ry; exact eq_str (fin_bl I q dec_str)
    | _ => exact absurd (show false = true from hs) Bool.false_ne_true
  | byt i =>
    obtain ⟨t, rfl⟩ := rx
    cases y with
    | byt j => obtain ⟨t', rfl⟩ := ry; exact PySem.W.eq_bytes (fin_bl I q dec_byt)
    | _ => exact absurd (show false = true from hs) Bool.false_ne_true
  | _ => cases y <;> exact absurd (show false = true from hs) Bool.false_ne_true
theorem op_ne : OpR X (compareOp .NotEq) rNe := by
  intro pins s σ H x y v u Q I rx ry h
  obtain ⟨hs, q⟩ := h
  cases x with
  | non =>
    cases rx
    cases y with
    | non => cases ry; exact PySem.EqNone.ne_none_none (fin_bl I q (by simp))
    | bl j => cases ry; exact PySem.EqNone.ne_none_bool (fin_bl I q (by simp))
    | int j => obtain ⟨t', rfl⟩ := ry; exact PySem.EqNone.ne_none_int (fin_bl I q (by simp))
    | str j => obtain ⟨t', rfl⟩ := ry; exact PySem.EqNone.ne_none_str (fin_bl I q (by simp))
    | _ => exact absurd (show false = true from hs) Bool.false_ne_true
  | bl i =>
    cases rx
    cases y with
    | non => cases ry; exact PySem.EqNone.ne_bool_none (fin_bl I q (by simp))
    | bl j => cases ry; exact ne_bool (fin_bl I q (congrArg not dec_bl))
    | str j => obtain ⟨t', rfl⟩ := ry; exact PySem.EqMixed.ne_bool_str (fin_bl I q (by simp))
    | _ => exact absurd (show false = true from hs) Bool.false_ne_true
  | int i =>
    obtain ⟨t, rfl⟩ := rx
    cases y with
    | non => cases ry; exact PySem.EqNone.ne_int_none (fin_bl I q (by simp))
    | int j => obtain ⟨t', rfl⟩ := ry; exact ne_int (fin_bl I q (congrArg not dec_int))
    | str j => obtain ⟨t', rfl⟩ := ry; exact PySem.EqMixed.ne_int_str (fin_bl I q (by simp))
    | _ => exact absurd (show false = true from hs) Bool.false_ne_true
  | str i =>
    obtain ⟨t, rfl⟩ := rx
    cases y with
    | non => cases ry; exact PySem.EqNone.ne_str_none (fin_bl I q (by simp))
    | bl j => cases ry; exact PySem.EqMixed.ne_str_bool (fin_bl I q (by simp))
    | int j => obtain ⟨t', rfl⟩ := ry; exact PySem.EqMixed.ne_str_int (fin_bl I q (by simp))
    | str j => obtain ⟨t', rfl⟩ := ry; exact ne_str (fin_bl I q (congrArg not dec_str))
    | _ => exact absurd (show false = true from hs) Bool.false_ne_true
  | byt i =>
    obtain ⟨t, rfl⟩ := rx
    cases y with
    | byt j => obtain ⟨t', rfl⟩ := ry; exact PySem.W.ne_bytes (fin_bl I q (congrArg not dec_byt))
    | _ => exact absurd (show false = true from hs) Bool.false_ne_true
  | _ => cases y <;> exact absurd (show false = true from hs) Bool.false_ne_true

theorem op_lt : OpR X (compareOp .Lt) (rI0 fun i j => .bl (decide (i < j))) := opB0 fun _ _ _ _ _ _ _ q => lt_int q
theorem op_le : OpR X (compareOp .LtE) (rI0 fun i j => .bl (decide (i ≤ j))) := opB0 fun _ _ _ _ _ _ _ q => le_int q
theorem op_gt : OpR X (compareOp .Gt) (rI0 fun i j => .bl (decide (j < i))) := opB0 fun _ _ _ _ _ _ _ q => gt_int q
theorem op_ge : OpR X (compareOp .GtE) (rI0 fun i j => .bl (decide (j ≤ i))) := opB0 fun _ _ _ _ _ _ _ q => ge_int q
theorem nomark (b : Expr) {op : CmpOp} (h : op ≠ .In := by decide) (h2 : op ≠ .NotIn := by decide) : behindInMarks op b = false := by
  have e1 : (op == CmpOp.In) = false := by cases op <;> first | rfl | exact absurd rfl h
  have e2 : (op == CmpOp.NotIn) = false := by cases op <;> first | rfl | exact absurd rfl h2
  cases b <;> simp [behindInMarks, e1, e2]
/-- a comparison as a value; hm: nomark b, or (for in, not in) by with_unfolding_all rfl -/
theorem pe_cmpR {op : CmpOp} {r : R2} (ho : OpR X (compareOp op) r) (ha : PE X a ta) (hb : PE X b tb) (hm : behindInMarks op b = false) : PE X (.Compare a [op] [b] pos) (tOp r ta tb) := by
  intro pins s σ H Q I h
  exact wpAny_Compare1 (binT ha hb I h fun v u s2 x y H2 I2 rx ry q => ho pins s2 σ H2 x y v u Q I2 rx ry q) hm
/-- a reading of a value as a test -/
def tTest (t : TE) : TT := fun σ H Q => t σ H fun x H' => ∃ k, x = .bl k ∧ Q k H'
theorem pt_cmpR {op : CmpOp} {r : R2} (ho : OpR X (compareOp op) r) (ha : PE X a ta) (hb : PE X b tb) (hm : behindInMarks op b = false) : PT X (.Compare a [op] [b] pos) (tTest (tOp r ta tb)) := by
  intro pins s σ H Q I h
  refine wpAny_isTrue_Compare1 (thn (ha pins s σ H _ I h) fun v s1 ⟨x, H1, I1, r1, q1⟩ => thn (hb pins s1 σ H1 _ I1 q1) fun u s2 ⟨y, H2, I2, r2, q2⟩ =>
    thn (ho pins s2 σ H2 x y v u _ I2 r1 r2 q2) fun c s3 ⟨z, H3, I3, r3, k, e, q3⟩ => ?_) hm
  subst e
  cases r3
  exact wpAny_truthy_bool ⟨H3, I3, q3⟩
/-- a op1 b op2 c -/
def tChain (r r' : R2) (ta tb tc : TE) : TE := fun σ H Q => ta σ H fun x H1 => tb σ H1 fun y H2 => r x y H2 fun z H3 => ∃ k, z = .bl k ∧
  (if k = true then tc σ H3 fun w' H4 => r' y w' H4 Q else Q (.bl false) H3)
theorem pe_chain {op op' : CmpOp} {r r' : R2} (ho : OpR X (compareOp op) r) (ho' : OpR X (compareOp op') r') (ha : PE X a ta) (hb : PE X b tb) (hc : PE X c tc)
    (hm : lastMarks [op, op'] [b, c] = false := by with_unfolding_all rfl) : PE X (.Compare a [op, op'] [b, c] pos) (tChain r r' ta tb tc) := by
  intro pins s σ H Q I h
  refine Compare_chain (thn (ha pins s σ H _ I h) fun v s1 ⟨x, H1, I1, r1, q1⟩ => chain_link (thn (hb pins s1 σ H1 _ I1 q1) fun u s2 ⟨y, H2, I2, r2, q2⟩ =>
    thn (ho pins s2 σ H2 x y v u _ I2 r1 r2 q2) fun d s3 ⟨z, H3, I3, r3, k, e, q3⟩ => ?_)) hm
  subst e
  cases r3
  refine wpAny_truthy_bool ?_
  cases k with
  | false => exact ite_ff ⟨.bl false, H3, I3, rfl, q3⟩
  | true => exact ite_tt (chain_last (thn (hc pins s3 σ H3 _ I3 q3) fun w' s4 ⟨z', H4, I4, r4, q4⟩ => ho' pins s4 σ H4 y z' u w' Q I4 r2 r4 q4))
theorem pt_chain {op op' : CmpOp} {r r' : R2} (ho : OpR X (compareOp op) r) (ho' : OpR X (compareOp op') r') (ha : PE X a ta) (hb : PE X b tb) (hc : PE X c tc)
    (hm : lastMarks [op, op'] [b, c] = false := by with_unfolding_all rfl) : PT X (.Compare a [op, op'] [b, c] pos) (tTest (tChain r r' ta tb tc)) := by
  intro pins s σ H Q I h
  refine isTrue_chain (thn (ha pins s σ H _ I h) fun v s1 ⟨x, H1, I1, r1, q1⟩ => test_link (thn (hb pins s1 σ H1 _ I1 q1) fun u s2 ⟨y, H2, I2, r2, q2⟩ =>
    thn (ho pins s2 σ H2 x y v u _ I2 r1 r2 q2) fun d s3 ⟨z, H3, I3, r3, k, e, q3⟩ => ?_)) hm
  subst e
  cases r3
  refine wpAny_truthy_bool ?_
  cases k with
  | false =>
    obtain ⟨k', e', q'⟩ := q3
    cases e'
    exact ite_ff ⟨H3, I3, q'⟩
  | true =>
    refine ite_tt (test_last (thn (hc pins s3 σ H3 _ I3 q3) fun w' s4 ⟨z', H4, I4, r4, q4⟩ => thn (ho' pins s4 σ H4 y z' u w' _ I4 r2 r4 q4) fun d' s5 ⟨z2, H5, I5, r5, k2, e2, q5⟩ => ?_))
    subst e2
    cases r5
    exact wpAny_truthy_bool ⟨H5, I5, q5⟩

/-- a value's truth by the abstract heap -/
def TruV (K : PySem.W.Frag) (x : V) (H : Hp) (k : Bool) : Prop :=
  match x with
  | .non => k = false
  | .bl b => k = b
  | .int i => k = (i != 0)
  | .str y => y.length ≤ sizeLine ∧ k = ((y.length : Int) != 0)
  | .byt y => y.size ≤ sizeLine ∧ k = ((y.size : Int) != 0)
  | .ref p => (∃ xs, SqL K H p xs ∧ k = !xs.isEmpty) ∨ (∃ xs, SqT K H p xs ∧ k = !xs.isEmpty) ∨ ∃ kvs, H p = some (.dK kvs) ∧ k = !kvs.isEmpty
  | _ => False
theorem isEmpty_kv {κ : Type} {kvs : List (κ × V)} {vs : List (κ × Value)} (r : KV kvs vs) : (!vs.isEmpty) = !kvs.isEmpty := by
  cases r <;> rfl
theorem isEmpty_of {xs : List V} {its : List Value} (r : Vals xs its) : (!its.toArray.isEmpty) = !xs.isEmpty := by
  cases r <;> simp
theorem line63 : (sizeLine : Nat) < 2 ^ 63 := by rw [sizeLine_eq]; decide
theorem tru_ok : TruR X (fun x H Q => ∃ k, TruV X.K x H k ∧ Q k H) := by
  intro pins s σ H x v Q I rx h
  obtain ⟨k, e, q⟩ := h
  have hl := line63
  have hs : sizeLine = 16777216 := sizeLine_eq
  cases x with
  | non =>
    cases rx
    have e' : k = false := e
    subst e'
    exact truthy_none ⟨H, I, q⟩
  | bl b =>
    cases rx
    have e' : k = b := e
    subst e'
    exact wpAny_truthy_bool ⟨H, I, q⟩
  | int i =>
    obtain ⟨t, rfl⟩ := rx
    have e' : k = (i != 0) := e
    subst e'
    exact PySem.P.truthy_int ⟨H, I, q⟩
  | str y =>
    obtain ⟨t, rfl⟩ := rx
    obtain ⟨hy, e'⟩ : y.length ≤ sizeLine ∧ k = ((y.length : Int) != 0) := e
    subst e'
    exact PySem.P.truthy_str (by omega) ⟨H, I.tok _, q⟩
  | byt y =>
    obtain ⟨t, rfl⟩ := rx
    obtain ⟨hy, e'⟩ : y.size ≤ sizeLine ∧ k = ((y.size : Int) != 0) := e
    subst e'
    exact PySem.W.truthy_bytes (by omega) ⟨H, I.tok _, q⟩
  | ref p =>
    cases rx
    have e' : (∃ xs, SqL X.K H p xs ∧ k = !xs.isEmpty) ∨ (∃ xs, SqT X.K H p xs ∧ k = !xs.isEmpty) ∨ ∃ kvs, H p = some (.dK kvs) ∧ k = !kvs.isEmpty := e
    rcases e' with ⟨xs, hx, e'⟩ | ⟨xs, hx, e'⟩ | ⟨kvs, hx, e'⟩
    · subst e'
      obtain ⟨its, r, pl, hz⟩ := I.list hx
      have hlen := r.length
      exact wpAny_truthy_list pl.isList (by simp only [List.size_toArray]; omega) ⟨H, I.tok _, by rw [isEmpty_of r]; exact q⟩
    · subst e'
      obtain ⟨its, r, pl, hz⟩ := I.tuple hx
      have hlen := r.length
      exact truthy_tuple pl (by simp only [List.size_toArray]; omega) ⟨H, I.tok _, by rw [isEmpty_of r]; exact q⟩
    · subst e'
      obtain ⟨hz, hS, vs, r, m⟩ : kvs.length ≤ sizeLine ∧ (p == sysModules) = false ∧ ∃ vs, KV kvs vs ∧ s.heap.DictOf (mixKind X.prog X.w) p vs := I.hok p _ hx
      have hlen : kvs.length = vs.length := Paired.length r
      exact wpAny_truthy_dict hS m (by omega) ⟨H, I.tok _, by rw [isEmpty_kv r]; exact q⟩
  | _ => exact (show False from e).elim
/-- any expression whose test is its value's truth (a name, a call, a subscript, a field ..: he by fun _ => rfl) -/
theorem pt_truth (ha : PE X a ta) (he : ∀ whole, isTrue a X.env whole = (do let v ← whole; standAt a.pos; holding [v] (truthy v))) :
    PT X a (fun σ H Q => ta σ H fun x H' => ∃ k, TruV X.K x H' k ∧ Q k H') := by
  intro pins s σ H Q I h
  exact isTrue_plain (thn (ha pins s σ H _ I h) fun v s1 ⟨x, H1, I1, r1, q1⟩ => tru_ok pins s1 σ H1 x v Q I1 r1 q1) (he _)

theorem vals1 {x : V} {us : List Value} (r : Vals [x] us) : ∃ u, us = [u] ∧ RelV x u := by
  cases r with
  | cons r1 r2 => cases r2; exact ⟨_, rfl, r1⟩
theorem vals2 {x y : V} {us : List Value} (r : Vals [x, y] us) : ∃ u w', us = [u, w'] ∧ RelV x u ∧ RelV y w' := by
  cases r with
  | cons r1 r2 =>
    cases r2 with
    | cons r3 r4 => cases r4; exact ⟨_, _, rfl, r1, r3⟩
theorem call_max2 (hc : X.calm = true) : CallR X (.builtin "max") (fun xs H Q => ∃ i j, xs = [.int i, .int j] ∧ Q (.int (if j > i then j else i)) H) := by
  intro pins s σ H xs us Q I r h
  obtain ⟨i, j, rfl, q⟩ := h
  obtain ⟨u, w', rfl, ⟨t, rfl⟩, ⟨t', rfl⟩⟩ := vals2 r
  refine max_two_ints (I.ok.hd hc) fun h' tk k => ⟨_, H, I.kept k, ?_, q⟩
  by_cases hj : j > i
  · rw [if_pos hj, if_pos hj]; exact ⟨_, rfl⟩
  · rw [if_neg hj, if_neg hj]; exact ⟨_, rfl⟩
end
end L2

namespace L2
open PySem PySem.Spec PyProof.Rows

section
variable {prog : Program} {w : World} {A : Around} {E : Value → Shared → Prop} {s : Shared} {K : PySem.W.Frag} {x dx C f : Addr} {mA : Str → Option Value} {name : Str} {v : Value}

end

theorem RelO.some_of {v : V} {o : Option Value} (r : RelO (some v) o) : ∃ u, o = some u ∧ RelV v u := by
  cases o with
  | none => exact (show False from r).elim
  | some u => exact ⟨u, rfl, r⟩
section
variable {P : Program} {w : World} {H H' : Hp} {h h' : Heap} {a C dx : Addr} {fs fs' : List (Str × V)}
end

section
variable {X : Cx} {pins : List (Addr × Obj)} {σ : St} {H : Hp} {s : Shared} {a C dx : Addr} {fs : List (Str × V)} {f : Str} {v : V} {A : Around} {E : Value → Shared → Prop}

end

section
variable {X : Cx} {o e value : Expr} {f : Str} {pos pos' tpos : Pos} {ta tv : TE}
end

section
variable {X : Cx} {pins : List (Addr × Obj)} {σ : St} {H : Hp} {s : Shared} {A : Around} {E : Value → Shared → Prop} {Q : Value → Shared → Prop} {c : Value} {b : Bool}
end
end L2

namespace L2
open PySem PySem.Spec PyProof.Rows

structure Room (k : Nat) (A : Around) : Prop where
  hd : A.handled = none
  dp : A.depth + 3 * k + 5 < recursionLimit
  un : A.units + 16 * k + 200 < cLine
theorem Room.mono {j k : Nat} {A : Around} (r : Room k A) (h : j ≤ k) : Room j A := ⟨r.hd, by have := r.dp; omega, by have := r.un; omega⟩
theorem Room.deeper {k : Nat} {A : Around} (r : Room (k + 1) A) (env : Env) : Room k (A.deeper env) :=
  ⟨r.hd, by have := r.dp; show A.depth + 1 + 3 * k + 5 < _; omega, by have := r.un; show A.units + 3 + 16 * k + 200 < _; omega⟩
theorem Room.depth {k : Nat} {A : Around} (r : Room k A) : A.depth < recursionLimit := by have := r.dp; omega
theorem Room.units {k : Nat} {A : Around} (r : Room k A) : A.units + 64 < cLine := by have := r.un; omega
def tNil : TA := fun _ H Q => Q [] H
def tCons (ta : TE) (tr : TA) : TA := fun σ H Q => ta σ H fun x H1 => tr σ H1 fun xs H2 => Q (x :: xs) H2
section
variable {X : Cx} {e : Expr} {es : List Expr} {te : TE} {t : TA} {pos : Pos}
theorem pa_nil : PA X [] tNil := fun _ _ _ _ H Q I h => Calls.spliced_nil ⟨[], H, I, .nil, h⟩
theorem pa_cons (ha : PE X e te) (hr : PA X es t) (hs : starEach (e :: es) X.env = (false, eval e X.env) :: starEach es X.env := by rfl) : PA X (e :: es) (tCons te t) := by
  intro pos pins s σ H Q I h
  rw [hs]
  show wpAny _ _ (spliced ((false, eval e X.env) :: backTo pos (starEach es X.env))) _ _ s
  refine Calls.spliced_cons (thn (ha pins s σ H _ I h) fun u s1 ⟨x, H1, I1, r1, q1⟩ => ?_)
  exact thn (hr pos pins s1 σ H1 _ I1 q1) fun us s2 ⟨xs, H2, I2, r2, q2⟩ => ⟨x :: xs, H2, I2, .cons r1 r2, q2⟩

/-- a tuple, a list of written items -/
def tTup (t : TA) : TE := fun σ H Q => t σ H fun xs H1 => xs.length ≤ sizeLine ∧ ∀ p, H1 p = none → Q (.ref p) (upd H1 p (.tup xs))
def tLst (t : TA) : TE := fun σ H Q => t σ H fun xs H1 => xs.length ≤ sizeLine ∧ ∀ p, H1 p = none → Q (.ref p) (upd H1 p (.lst xs))
theorem pe_tup {x1} (h : PA X es t) : PE X (.Tuple es x1 pos) (tTup t) := by
  intro pins s σ H Q I hq
  refine wpAny_Tuple_spliced (thn (h pos pins s σ H _ I hq) fun us s1 ⟨xs, H1, I1, r, z, q⟩ => ⟨by rw [← r.length]; exact z, ?_⟩)
  have hf : H1 s1.heap.objs.size = none := I1.hok.fresh (Nat.le_refl _)
  refine ⟨.ref s1.heap.objs.size, upd H1 s1.heap.objs.size (.tup xs), I1.laid (t' := s1.toks) (fun b u e => Heap.get?_push_of_some _ e) (Nat.le_refl _) ?_, rfl, q _ hf⟩
  exact ⟨z, us, r, ⟨_, Heap.get?_push_size _ rfl, rfl, _, rfl⟩⟩
theorem pe_lst (h : PA X es t) : PE X (.List es pos) (tLst t) := by
  intro pins s σ H Q I hq
  refine wpAny_List_spliced (thn (h pos pins s σ H _ I hq) fun us s1 ⟨xs, H1, I1, r, z, q⟩ => ⟨by rw [← r.length]; exact z, ?_⟩)
  have hf : H1 s1.heap.objs.size = none := I1.hok.fresh (Nat.le_refl _)
  refine ⟨.ref s1.heap.objs.size, upd H1 s1.heap.objs.size (.lst xs), I1.laid (t' := s1.toks) (fun b u e => Heap.get?_push_of_some _ e) (Nat.le_refl _) ?_, rfl, q _ hf⟩
  exact ⟨z, us, 0, r, Heap.get?_push_size _ rfl⟩
end

/-- a def's promise: the bound arguments in the parameters' order, the heap, the wanted end, the wanted exception -/
abbrev Sp := List V → Hp → VK → XK → Prop
/-- how an exception lies behind a call (file 08 gives it): the callers' frames, abstract heap and state ahead of the call, the wish, the exception, the state -/
abbrev CXT := List Env → Hp → Shared → XK → Value → Shared → Prop

/-- the state at a call -/
structure Env0 (P : Program) (w : World) (K : PySem.W.Frag) (mg : Str → Option Value) (base : Heap) (A : Around) (outer : List Env) (s : Shared) (H : Hp) : Prop where
  frames : A.frames = some outer
  mod : Mod K mg base
  bs : ∀ b o, base.get? b = some o → s.heap.get? b = some o ∧ H b = none
  bsz : base.objs.size ≤ s.heap.objs.size
  funs : s.heap.FunFrames base outer
  frf : ∀ b ∈ frs outer, H b = none
  hok : HOk P w H s.heap
  bare : AllBare s.gens
/-- a call's end -/
def CE (outer : List Env) (P : Program) (w : World) (H : Hp) (s : Shared) (Q : VK) (u : Value) (s' : Shared) : Prop :=
  ∃ v H', s'.os = s.os ∧ AllBare s'.gens ∧ Un (frs outer) [] H H' s.heap s'.heap ∧ HOk P w H' s'.heap ∧ RelV v u ∧ Q v H'
def CR (CX : CXT) (outer : List Env) (P : Program) (w : World) (H : Hp) (s : Shared) (Q : VK) (E : XK) (r : Result) (s' : Shared) : Prop :=
  match r with
  | .ok (.ret u) => CE outer P w H s Q u s'
  | .ok _ => False
  | .error e => CX outer H s E e s'
structure FnOk (P : Program) (w : World) (K : PySem.W.Frag) (mg : Str → Option Value) (base : Heap) (CX : CXT) (k : Nat) (f : Addr) (fd : FuncData) (ps : List Str) (sp : Sp) : Prop where
  len : ∀ vs H Q E, sp vs H Q E → vs.length = ps.length
  run : ∀ (A : Around) (outer : List Env) (s : Shared) (H : Hp) (args : Args) (us : List Value) (vs : List V) (Q : VK) (E : XK), Room k A → Env0 P w K mg base A outer s H → BindsTo s fd args (ps.zip us) → Vals vs us → sp vs H Q E →
    codeAny (model P w) A (.call (.ref f) args) (CR CX outer P w H s Q E) s
section
variable {X : Cx} {pins : List (Addr × Obj)} {σ : St} {H : Hp} {s s' : Shared}
/-- from a body: what a callee wants -/
theorem Inv.env0 (I : Inv X pins σ H s) : Env0 X.prog X.w X.K X.mg X.base X.A X.stack s H :=
  ⟨I.ok.frames, I.ok.mod, I.bs, Nat.le_trans I.ok.bsz I.sz, I.stack, I.stkFree, I.hok, I.bare⟩
/-- behind a call -/
theorem Inv.after {Q : VK} {u : Value} (I : Inv X pins σ H s) (h : CE X.stack X.prog X.w H s Q u s') : EP X pins σ Q u s' := by
  obtain ⟨v, H', os, bare, un, hok, r, q⟩ := h
  obtain ⟨hh, g, d, t, os'⟩ := s'
  obtain rfl : os' = s.os := os
  exact ⟨v, H', I.call (h' := hh) (g' := g) (d' := d) (t' := t) (ch := []) un hok bare (fun b z => absurd z (by simp)), r, q⟩
end

/-- f(..): the written arguments, then the defaults dvs; E: what is wanted of an exception -/
def tCall (sp : Sp) (dvs : List V) (E : XK) (t : TA) : TE := fun σ H Q => t σ H fun vs H1 => sp (vs ++ dvs) H1 Q E
/-- how the parameters are bound: us the positional arguments, kw the keywords' values by name, ds the defaults that fill up -/
def Binds (K : PySem.W.Frag) (fd : FuncData) (ps : List Str) (ds : List Value) : Prop :=
  ∀ (s : Shared) (us : List Value), K.In s.heap → (us ++ ds).length = ps.length → BindsTo s fd ⟨us, []⟩ (ps.zip (us ++ ds))
/-- every parameter is given -/
theorem Binds.all {K : PySem.W.Frag} {fd : FuncData} {ps : List Str} (h : ∀ us : List Value, us.length = ps.length → bindArgs fd ⟨us, []⟩ = pure (ps.zip us)) : Binds K fd ps [] := fun s us _ hl => by
  rw [List.append_nil] at hl ⊢
  exact .of_eq (h us hl)

/-- an exception of a callee reaches what this body wants of exceptions -/
def Passes (CX : CXT) (X : Cx) (E : XK) : Prop := ∀ (pins : List (Addr × Obj)) (σ : St) (H : Hp) (s : Shared) (e : Value) (s' : Shared), Inv X pins σ H s → CX X.stack H s E e s' → X.xe e s'

section
variable {X : Cx} {CX : CXT} {k : Nat} {f C : Addr} {fd : FuncData} {ps : List Str} {sp : Sp} {dvs : List V} {ds : List Value} {E : XK} {x m : Str} {p pos apos : Pos} {e o : Expr} {es : List Expr} {ta : TE} {t : TA}

/-- the callee runs -/
theorem run_fn {pins : List (Addr × Obj)} {σ : St} {H : Hp} {s : Shared} {Q : VK} {us : List Value} {vs : List V} (F : FnOk X.prog X.w X.K X.mg X.base CX k f fd ps sp) (hr : Room k X.A) (hb : Binds X.K fd ps ds) (hd : Vals dvs ds) (hx : Passes CX X E)
    (I : Inv X pins σ H s) (r : Vals vs us) (h : sp (vs ++ dvs) H Q E) : wpAny (model X.prog X.w) X.A (call (.ref f) us) (EP X pins σ Q) X.xe s := by
  have r2 : Vals (vs ++ dvs) (us ++ ds) := r.append hd
  have hl : (us ++ ds).length = ps.length := by rw [← r2.length]; exact F.len _ _ _ _ h
  refine wpAny_call (codeAny_mono (F.run X.A X.stack s H ⟨us, []⟩ (us ++ ds) (vs ++ dvs) Q E hr I.env0 (hb s us I.kIn hl) r2 h) fun r s' hq => ?_)
  cases r with
  | error e => exact hx pins σ H s e s' I hq
  | ok fl =>
    cases fl with
    | ret u => exact I.after hq
    | next => exact False.elim hq
    | brk => exact False.elim hq
    | cont => exact False.elim hq

theorem pe_call (F : FnOk X.prog X.w X.K X.mg X.base CX k f fd ps sp) (hr : Room k X.A) (hg : Gl X x) (hm : X.mg x = some (.ref f)) (hk : PySem.W.keepIn X.K (.ref f) = true) (hb : Binds X.K fd ps ds) (hd : Vals dvs ds) (hx : Passes CX X E)
    (ha : PA X (e :: es) t) (hdb : (x == ("__debug__" : Str)) = false := by decide) (he : starEach (e :: es) X.env = (false, eval e X.env) :: starEach es X.env := by rfl) (hpl : (backTo pos (starEach es X.env)).any (·.1) = false := by rfl) :
    PE X (.Call (.Name x p) (e :: es) [] pos) (tCall sp dvs E t) := by
  intro pins s σ H Q I h
  refine wpAny_Call_Name_kw (ld_glob I hg hm ?_ hdb)
  refine PySem.W.callWith_K (h₀ := X.base) I.ok.mod.kin hk (thn (ha pos pins s σ H _ I h) fun us s1 ⟨vs, H1, I1, r, q⟩ => ⟨I1.kIn, ?_⟩) he hpl
  exact run_fn F hr hb hd hx I1 r q
end

section
variable {X : Cx} {CX : CXT} {k : Nat} {f C : Addr} {fd : FuncData} {ps ks : List Str} {sp : Sp} {E : XK} {x m : Str} {p pos apos kpos : Pos} {e o : Expr} {es : List Expr} {kws : List Keyword} {te ta : TE} {t tk : TA} {nm : Option Str}
variable {g : List Value → List Value → List Value} {gV : List V → List V → List V}
end

/-- names: the parameters first -/
structure FnScope (N P : List Str) (sc : Scope) : Prop where
  kind : sc.kind = .function
  co : sc.isCoroutine = false
  gen : sc.isGenerator = false
  nd : N.Nodup
  pre : N.take P.length = P
  par : ∀ x ∈ P, sc.names.lookup x = some .local ∨ sc.names.lookup x = some .cell
  nofree : ∀ y ∈ sc.names, y.2 ≠ .free

theorem bindL_out {kindOf : Str → Option NameKind} {x : Str} : ∀ {binds : List (Str × Value)} {m : Str → Option Value}, (∀ v, (x, v) ∉ binds) → bindL kindOf binds m x = m x
  | [], _, _ => rfl
  | (n, v) :: r, m, h => by
    unfold bindL
    rw [bindL_out fun w hw => h w (List.mem_cons_of_mem _ hw)]
    split
    · have : x ≠ n := by rintro rfl; exact h v List.mem_cons_self
      simp [this]
    · rfl
theorem bindC_out {kindOf : Str → Option NameKind} {x : Str} : ∀ {binds : List (Str × Value)} {m : Str → Option Value}, (∀ v, (x, v) ∉ binds) → bindC kindOf binds m x = m x
  | [], _, _ => rfl
  | (n, v) :: r, m, h => by
    unfold bindC
    rw [bindC_out fun w hw => h w (List.mem_cons_of_mem _ hw)]
    split
    · rfl
    · have : x ≠ n := by rintro rfl; exact h v List.mem_cons_self
      simp [this]
theorem bindL_get {kindOf : Str → Option NameKind} {x : Str} {v : Value} : ∀ {P : List Str} {vs : List Value} {i : Nat} {m : Str → Option Value}, P.Nodup → P[i]? = some x → vs[i]? = some v → kindOf x = some .local →
    bindL kindOf (P.zip vs) m x = some v
  | [], _, _, _, _, h, _, _ => by simp at h
  | _ :: _, [], _, _, _, _, h, _ => by simp at h
  | p :: P, w :: vs, 0, m, nd, h1, h2, hk => by
    simp at h1 h2; subst h1; subst h2
    show bindL kindOf ((p, w) :: P.zip vs) m p = _
    unfold bindL
    rw [bindL_out fun v hv => (List.nodup_cons.mp nd).1 (List.of_mem_zip hv).1, if_pos hk]
    simp
  | p :: P, w :: vs, i + 1, m, nd, h1, h2, hk => by
    show bindL kindOf ((p, w) :: P.zip vs) m x = _
    unfold bindL
    exact bindL_get (i := i) (List.nodup_cons.mp nd).2 (by simpa using h1) (by simpa using h2) hk
theorem bindC_get {kindOf : Str → Option NameKind} {x : Str} {v : Value} : ∀ {P : List Str} {vs : List Value} {i : Nat} {m : Str → Option Value}, P.Nodup → P[i]? = some x → vs[i]? = some v → kindOf x ≠ some .local →
    bindC kindOf (P.zip vs) m x = some v
  | [], _, _, _, _, h, _, _ => by simp at h
  | _ :: _, [], _, _, _, _, h, _ => by simp at h
  | p :: P, w :: vs, 0, m, nd, h1, h2, hk => by
    simp at h1 h2; subst h1; subst h2
    show bindC kindOf ((p, w) :: P.zip vs) m p = _
    unfold bindC
    rw [bindC_out fun v hv => (List.nodup_cons.mp nd).1 (List.of_mem_zip hv).1, if_neg hk]
    simp
  | p :: P, w :: vs, i + 1, m, nd, h1, h2, hk => by
    show bindC kindOf ((p, w) :: P.zip vs) m x = _
    unfold bindC
    exact bindC_get (i := i) (List.nodup_cons.mp nd).2 (by simpa using h1) (by simpa using h2) hk

/-- the names' values at the entry -/
def start (N : List Str) (vs : List V) : St := vs.map some ++ List.replicate (N.length - vs.length) none

/-- the context of a def's body, at its entry; an exception leaves the frame, then lies as CX says -/
def cxOf (CX : CXT) (P : Program) (w : World) (K : PySem.W.Frag) (mg : Str → Option Value) (base : Heap) (N : List Str) (qual : Str) (scope : Scope) (f : Addr) (cd : Value) (A : Around) (outer : List Env) (s : Shared) (H : Hp) (E : XK) : Cx where
  prog := P
  w := w
  K := K
  mg := mg
  base := base
  A := A.deeper (envOfC qual scope s.heap.objs.size f cd)
  N := N
  s_0 := s
  H_0 := H
  env := envOfC qual scope s.heap.objs.size f cd
  outer := outer
  stack := envOfC qual scope s.heap.objs.size f cd :: outer
  ex := []
  calm := true
  fn := fun _ => true
  pn := []
  xe := fun e s' => wpAny (model P w) (A.deeper (envOfC qual scope s.heap.objs.size f cd)) (leaving (envOfC qual scope s.heap.objs.size f cd) e) (fun _ s'' => CX outer H s E e s'') (fun e' s'' => CX outer H s E e' s'') s'

theorem cell_has {sc : Scope} {n : Nat} {x : Str} (h : sc.names.lookup x = some .cell) : ∃ c, (cellsFrom n sc.names []).lookup x = some c := by
  have q := PySem.W.cellsFrom_some sc.names n [] (.inl h)
  exact Option.isSome_iff_exists.mp q

theorem inv_start {CX : CXT} {P : Program} {w : World} {K : PySem.W.Frag} {mg : Str → Option Value} {base : Heap} {N ps : List Str} {qual : Str} {scope : Scope} {f : Addr} {cd : Value} {A : Around} {outer : List Env} {s s1 : Shared} {H : Hp} {E : XK} {us : List Value} {vs : List V}
    (S : FnScope N ps scope) (hd : A.handled = none) (e0 : Env0 P w K mg base A outer s H) (hl : vs.length = ps.length) (r : Vals vs us)
    (x : InCallC s s.heap.objs.size (bindL (envOfC qual scope s.heap.objs.size f cd).kindOf (ps.zip us) fun _ => none) (cellsFrom (s.heap.objs.size + 1) scope.names []) (bindC (envOfC qual scope s.heap.objs.size f cd).kindOf (ps.zip us) fun _ => none) s1) :
    Inv (cxOf CX P w K mg base N qual scope f cd A outer s H E) [] (start N vs) H s1 := by
  have hpl : ps.length ≤ N.length := by have := congrArg List.length S.pre; rw [List.length_take] at this; omega
  obtain ⟨h1, tk, rfl, hk⟩ := x.done
  have noA : ∀ b : Addr, b ∉ (cxOf CX P w K mg base N qual scope f cd A outer s H E).ex := fun b z => absurd (show b ∈ ([] : List Addr) from z) (by simp)
  refine ⟨⟨e0.mod, S.kind, rfl, rfl, Nat.le_refl _, fun y z c h1 h2 => ?_, fun y hy => ?_, fun y c _ h => ?_, fun _ => hd, Around.frames_deeper e0.frames, .inr ⟨rfl, rfl⟩, fun b z => absurd z (noA b), e0.bs, e0.bsz, fun b _ _ => noA b, fun b z => absurd z (noA b), e0.funs, e0.frf⟩,
    rfl, e0.bare, Un.kept hk, ⟨_, x.toInCall.ns, fun i y v h1 h2 h3 => ?_⟩, fun y c h => ⟨_, x.cell y c h⟩, e0.hok.fresh (Nat.le_refl _), fun y c h => ?_, fun p hp => absurd (show p ∈ ([] : List (Addr × Obj)) from hp) (by simp), e0.hok.kept hk, ?_⟩
  · exact name_of_addr x.apart (PySem.mem_of_lookup h1) (PySem.mem_of_lookup h2)
  · have hy : scope.names.lookup y = some .cell ∨ scope.names.lookup y = some .free := hy
    rcases hy with hy | hy
    · exact cell_has hy
    · exact absurd rfl (S.nofree _ (PySem.mem_of_lookup hy))
  · exact Nat.le_of_lt (x.above y c (PySem.mem_of_lookup h))
  · have hi : i < vs.length := by
      unfold start at h2
      by_cases hi : i < vs.length
      · exact hi
      · rw [List.getElem?_append_right (by simpa using hi)] at h2
        rw [List.getElem?_replicate] at h2
        split at h2 <;> cases h2
    have ha : vs[i]? = some v := by
      unfold start at h2
      rw [List.getElem?_append_left (by simpa using hi), List.getElem?_map] at h2
      cases e : vs[i]? with
      | none => rw [e] at h2; cases h2
      | some a => rw [e] at h2; cases h2; rfl
    obtain ⟨u, hu, rv⟩ := r.get ha
    have hp : ps[i]? = some y := by
      rw [← S.pre, List.getElem?_take_of_lt (by omega)]; exact h1
    have ndP : ps.Nodup := by rw [← S.pre]; exact S.nd.sublist (List.take_sublist _ _)
    refine ⟨u, rv, ?_⟩
    rcases S.par y (List.mem_of_getElem? hp) with k | k
    · exact .inl ⟨k, bindL_get ndP hp hu k⟩
    · obtain ⟨c, e⟩ := cell_has (n := s.heap.objs.size + 1) k
      refine .inr ⟨.inl k, c, e, ?_⟩
      have q := x.cell y c e
      rw [bindC_get ndP hp hu (by show scope.names.lookup y ≠ _; rw [k]; decide)] at q
      exact q
  · exact e0.hok.fresh (Nat.le_of_lt (x.above y c (PySem.mem_of_lookup h)))
  · unfold start
    show _ = N.length
    rw [List.length_append, List.length_map, List.length_replicate]
    omega

/-- THE RULE: a def (or a method) of the text, by its body. The body's reading t is chosen for each entry; it is run at the parameters' values -/
theorem fn_of {CX : CXT} {P : Program} {w : World} {K : PySem.W.Frag} {mg : Str → Option Value} {base : Heap} {k : Nat} {f : Addr} {name qual : Str} {params : Arguments} {body : List Stmt} {scope : Scope} {dV kV doc pm cdv ct oc : Value} {an od : Option Addr}
    {osl : Array (Option Value)} {N ps : List Str} {sp : Sp} (lk : K.lookup f = some ⟨oc, od, .func (PySem.W.fnOf name qual params body scope dV kV doc pm an cdv ct), osl⟩) (hcd : PySem.W.codeIn K cdv qual = true) (S : FnScope N ps scope)
    (len : ∀ vs H Q E, sp vs H Q E → vs.length = ps.length)
    (hbody : ∀ (A : Around) (outer : List Env) (s : Shared) (H : Hp) (vs : List V) (Q : VK) (E : XK), Room k (A.deeper (envOfC qual scope s.heap.objs.size f cdv)) → sp vs H Q E →
      ∃ t, PSs (cxOf CX P w K mg base N qual scope f cdv A outer s H E) body t ∧ t { nx := fun _ H' => Q .non H', rt := Q } (start N vs) H) :
    FnOk P w K mg base CX (k + 1) f (PySem.W.fnOf name qual params body scope dV kV doc pm an cdv ct) ps sp := by
  refine ⟨len, fun A outer s H args us vs Q E hr e0 hb r hsp => ?_⟩
  have hl := len _ _ _ _ hsp
  have KX : K.In s.heap := e0.mod.kin.keeps fun b o e => (e0.bs b o e).1
  have lim : s.heap.NoLimit := e0.mod.nolimit.keeps fun b o e => (e0.bs b o e).1
  have hkind : ∀ y ∈ ps.zip us, scope.names.lookup y.1 = some .local ∨ (scope.names.lookup y.1 = some .cell ∧ ((cellsFrom (s.heap.objs.size + 1) scope.names []).lookup y.1).isSome = true) := fun ⟨n, v⟩ hy => by
    rcases S.par n (List.of_mem_zip hy).1 with q | q
    · exact .inl q
    · exact .inr ⟨q, PySem.W.cellsFrom_some _ _ _ (.inl q)⟩
  refine codeAny_call_function hr.depth (KX _ _ lk) rfl S.co S.gen rfl (PySem.W.codeRec_of KX hcd) (hb _ _ _ _ ?_)
  refine wpAny_newFunctionEnv_cells S.kind hkind fun env he s1 x => ?_
  subst he
  refine ⟨lim.keeps x.toInCall.keep, codeAny_func ?_⟩
  obtain ⟨t, ht, hq⟩ := hbody A outer s H vs Q E (hr.deeper _) hsp
  have I : Inv (cxOf CX P w K mg base N qual scope f cdv A outer s H E) [] (start N vs) H s1 := inv_start S hr.hd e0 hl r x
  refine wpAny_mono (ht [] s1 (start N vs) H _ I hq) (fun fl s' hs => ?_) fun e s' hs => hs
  have fin : ∀ {σ' : St} {H' : Hp} {v : V} {u : Value}, Inv (cxOf CX P w K mg base N qual scope f cdv A outer s H E) [] σ' H' s' → RelV v u → Q v H' → CE outer P w H s Q u s' :=
    fun {σ' H' v u} J rv q => ⟨v, H', J.os, J.bare, J.base, J.hok, rv, q⟩
  cases fl with
  | ret u =>
    obtain ⟨v, σ', H', J, rv, q⟩ := hs
    exact fin J rv q
  | next =>
    obtain ⟨σ', H', J, q⟩ := hs
    exact fin (v := V.non) (u := Value.none) J rfl q
  | brk =>
    obtain ⟨_, _, _, q⟩ := hs
    exact False.elim q
  | cont =>
    obtain ⟨_, _, _, q⟩ := hs
    exact False.elim q
end L2

namespace L2
open PySem PySem.Spec PyProof.Rows
section
variable {X : Cx} {x : Str} {p pos : Pos} {e : Expr} {es : List Expr} {t : TA} {id T : String} {r : List V → Hp → VK → Prop}

def tCB (r : List V → Hp → VK → Prop) (t : TA) : TE := fun σ H Q => t σ H fun vs H1 => r vs H1 Q
/-- f(e, ..), f a built-in function -/
theorem pe_callB (hc : CallR X (.builtin id) r) (hg : Gl X x) (hm : X.mg x = none) (hv : bootBuiltins x = some (.builtin id)) (ha : PA X (e :: es) t) (hn : x ≠ "__name__" := by decide) (hdb : (x == ("__debug__" : Str)) = false := by decide)
    (he : starEach (e :: es) X.env = (false, eval e X.env) :: starEach es X.env := by rfl) (hpl : (backTo pos (starEach es X.env)).any (·.1) = false := by rfl) : PE X (.Call (.Name x p) (e :: es) [] pos) (tCB r t) := by
  intro pins s σ H Q I h
  refine wpAny_Call_Name_kw (ld_blt I hg hm hv ?_ hn hdb)
  exact PyProof.Rows.callWith_builtin1 (thn (ha pos pins s σ H _ I h) fun us s1 ⟨vs, H1, I1, r1, q1⟩ => hc pins s1 σ H1 vs us Q I1 r1 q1) he hpl
/-- T(e, ..), T a built-in type -/
theorem pe_callTy (hc : CallR X (.type T) r) (hg : Gl X x) (hm : X.mg x = none) (hv : bootBuiltins x = some (.type T)) (ha : PA X (e :: es) t) (hn : x ≠ "__name__" := by decide) (hdb : (x == ("__debug__" : Str)) = false := by decide)
    (he : starEach (e :: es) X.env = (false, eval e X.env) :: starEach es X.env := by rfl) (hpl : (backTo pos (starEach es X.env)).any (·.1) = false := by rfl) : PE X (.Call (.Name x p) (e :: es) [] pos) (tCB r t) := by
  intro pins s σ H Q I h
  refine wpAny_Call_Name_kw (ld_blt I hg hm hv ?_ hn hdb)
  exact PyProof.Rows.callWith_type1 (thn (ha pos pins s σ H _ I h) fun us s1 ⟨vs, H1, I1, r1, q1⟩ => hc pins s1 σ H1 vs us Q I1 r1 q1) he hpl
end
end L2

namespace HT
open PySem PyProof.Rows

section
open PySem.SeqAt
open PySem.AutoSeq1 (wpAny_loadPart')
open PySem.MeetsSeq PySem.MeetsSeq2 PySem.MeetsSeq3

end

section
variable {prog : Program} {w : World} {A : Around} {E : Value → Shared → Prop} {s : Shared}

end
end HT

namespace L2
open PySem PySem.Spec PyProof.Rows

section
variable {X : Cx} {e : Expr} {te : TE} {lo hi : Option Expr} {tl th : TO} {pos p2 : Pos}

end
end L2

namespace L2
open PySem PySem.Spec PyProof.Rows

/-- the place that an index of any sign means -/
def ixN (n : Nat) (i : Int) : Option Nat := if 0 ≤ i then (if i < n then some i.toNat else none) else if -(n : Int) ≤ i then some (i + n).toNat else none
def atI {α : Type} (xs : List α) (i : Int) : Option α := (ixN xs.length i).bind fun j => xs[j]?
theorem ixN_seq {n : Nat} {i : Int} {j : Nat} (h : ixN n i = some j) : seqIndex? i n = some j ∧ j < n ∧ -(n : Int) ≤ i ∧ i < n := by
  unfold ixN at h
  by_cases h0 : 0 ≤ i
  · rw [if_pos h0] at h
    by_cases h1 : i < n
    · rw [if_pos h1] at h
      have e : i.toNat = j := Option.some.inj h
      exact ⟨by rw [seqIndex_of h0 h1, e], by omega, by omega, h1⟩
    · rw [if_neg h1] at h; cases h
  · rw [if_neg h0] at h
    by_cases h1 : -(n : Int) ≤ i
    · rw [if_pos h1] at h
      have e : (i + n).toNat = j := Option.some.inj h
      exact ⟨by rw [seqIndex_neg (by omega) h1, e], by omega, h1, by omega⟩
    · rw [if_neg h1] at h; cases h
theorem atI_get {α : Type} {xs : List α} {i : Int} {v : α} (h : atI xs i = some v) : ∃ j, seqIndex? i xs.length = some j ∧ xs[j]? = some v ∧ j < xs.length ∧ -(xs.length : Int) ≤ i ∧ i < xs.length := by
  unfold atI at h
  cases e : ixN xs.length i with
  | none => rw [e] at h; cases h
  | some j =>
    rw [e] at h
    obtain ⟨h1, h2, h3, h4⟩ := ixN_seq e
    exact ⟨j, h1, h, h2, h3, h4⟩
theorem atI_nat {α : Type} {xs : List α} {j : Nat} {v : α} (h : xs[j]? = some v) : atI xs (j : Int) = some v := by
  have hj : j < xs.length := (List.getElem?_eq_some_iff.mp h).1
  have e : ixN xs.length (j : Int) = some j := by
    unfold ixN
    rw [if_pos (by omega), if_pos (by omega)]; simp
  unfold atI; rw [e]; exact h
/-- what stands as an index of a plain subscript -/
def PlainIx (b : Expr) : Prop := ∀ o i, subscripted b false o i = operate [o, i] (getItem o i)
/-- a subscript by values -/
def IxR (X : Cx) (r : R2) : Prop :=
  ∀ (value slice : Expr) (pins : List (Addr × Obj)) (s : Shared) (σ : St) (H : Hp) (x y : V) (v u : Value) (Q : VK), Inv X pins σ H s → RelV x v → RelV y u → r x y H Q →
    subscripted slice false v u = operate [v, u] (getItem v u) → wpAny (model X.prog X.w) X.A (subscriptTail value slice v u) (EP X pins σ Q) X.xe s
/-- a call of a builtin's method by values: the receiver, the arguments -/
def MtR (X : Cx) (id : String) (r : V → List V → Hp → VK → Prop) : Prop :=
  ∀ (pins : List (Addr × Obj)) (s : Shared) (σ : St) (H : Hp) (x : V) (xs : List V) (v : Value) (us : List Value) (Q : VK), Inv X pins σ H s → RelV x v → Vals xs us → r x xs H Q →
    wpAny (model X.prog X.w) X.A (call (.builtin id) (v :: us)) (EP X pins σ Q) X.xe s
section
variable {X : Cx} {a b : Expr} {ta tb : TE} {pos : Pos}
/-- a[b] -/
theorem pe_ix {r : R2} (hr : IxR X r) (ha : PE X a ta) (hb : PE X b tb) (hs : PlainIx b) : PE X (.Subscript a b pos) (tOp r ta tb) := by
  intro pins s σ H Q I h
  exact Subscript_ (binT ha hb I h fun v u s2 x y H2 I2 rx ry q => hr a b pins s2 σ H2 x y v u Q I2 rx ry q (hs _ _))

def rIxL (K : PySem.W.Frag) : R2 := fun x y H Q => ∃ p xs i v, x = .ref p ∧ y = .int i ∧ SqL K H p xs ∧ atI xs i = some v ∧ Q v H
def rIxT (K : PySem.W.Frag) : R2 := fun x y H Q => ∃ p xs i v, x = .ref p ∧ y = .int i ∧ SqT K H p xs ∧ atI xs i = some v ∧ Q v H
theorem ix_list : IxR X (rIxL X.K) := by
  intro value slice pins s σ H x y v u Q I rx ry h hs
  obtain ⟨p, xs, i, z, rfl, rfl, hq, he, q⟩ := h
  cases rx
  obtain ⟨t, rfl⟩ := ry
  obtain ⟨its, r, pl, hz⟩ := I.list hq
  obtain ⟨j, h1, h2, h3, h4, h5⟩ := atI_get he
  obtain ⟨w, ew, rw'⟩ := r.get h2
  have hl := r.length
  have hn := line63
  have fin : EP X pins σ Q w s := ⟨z, H, I, rw', q⟩
  by_cases h0 : 0 ≤ i
  · have hj : i.toNat = j := by
      rw [seqIndex_of h0 h5] at h1
      exact Option.some.inj h1
    exact item_listR pl.isList h0 (by omega) (by rw [hj]; simpa using ew) fin hs
  · have hj : (i + (its.toArray.size : Int)).toNat = j := by
      rw [seqIndex_neg (by omega) h4] at h1
      rw [List.size_toArray, ← hl]
      exact Option.some.inj h1
    exact subscriptTail_builtinR (x := w) pl.isList.typeIs slot_list_getitem.lookup
      (wpAny_getItem_list_neg (Q := fun r s' => r = w ∧ EP X pins σ Q r s') pl.isList (by omega) (by rw [List.size_toArray] <;> omega) (by omega) (by rw [hj]; simpa using ew) ⟨rfl, fin⟩) hs
theorem ix_tup : IxR X (rIxT X.K) := by
  intro value slice pins s σ H x y v u Q I rx ry h hs
  obtain ⟨p, xs, i, z, rfl, rfl, hq, he, q⟩ := h
  cases rx
  obtain ⟨t, rfl⟩ := ry
  obtain ⟨its, r, pl, hz⟩ := I.tuple hq
  obtain ⟨j, h1, h2, h3, h4, h5⟩ := atI_get he
  obtain ⟨w, ew, rw'⟩ := r.get h2
  have hl := r.length
  have hn := line63
  have fin : EP X pins σ Q w s := ⟨z, H, I, rw', q⟩
  exact subscriptTail_builtinR (x := w) pl.typeIs slot_tuple_getitem.lookup
    (getItem_tuple (j := j) (Q := fun r s' => r = w ∧ EP X pins σ Q r s') pl (by omega) (by omega) (by rw [List.size_toArray, ← hl]; exact h1) (by simpa using ew) ⟨rfl, fin⟩) hs
theorem call_len_seq : CallR X (.builtin "len") (fun xs H Q => ∃ p ys, xs = [.ref p] ∧ (SqL X.K H p ys ∨ SqT X.K H p ys) ∧ Q (.int ys.length) H) := by
  intro pins s σ H xs us Q I r h
  obtain ⟨p, ys, rfl, hq, q⟩ := h
  obtain ⟨u, rfl, rx⟩ := vals1 r
  cases rx
  have hn := line63
  rcases hq with hq | hq
  · obtain ⟨its, r', pl, hz⟩ := I.list hq
    have hlen := r'.length
    exact Calls.call_len_list pl.isList (by simp only [List.size_toArray] <;> omega) ⟨.int ys.length, H, I.tok _, ⟨s.toks + 1, by rw [List.size_toArray, hlen]⟩, q⟩
  · obtain ⟨its, r', pl, hz⟩ := I.tuple hq
    have hlen := r'.length
    exact len_tuple pl (by simp only [List.size_toArray] <;> omega) ⟨.int ys.length, H, I.tok _, ⟨s.toks + 1, by rw [List.size_toArray, hlen]⟩, q⟩
theorem call_tuple_of : CallR X (.type "tuple") (fun xs H Q => ∃ p ys, xs = [.ref p] ∧ ((SqL X.K H p ys ∧ ∀ l, H l = none → Q (.ref l) (upd H l (.tup ys))) ∨ (SqT X.K H p ys ∧ Q (.ref p) H))) := by
  intro pins s σ H xs us Q I r h
  obtain ⟨p, ys, rfl, h⟩ := h
  obtain ⟨u, rfl, rx⟩ := vals1 r
  cases rx
  rcases h with ⟨hq, q⟩ | ⟨hq, q⟩
  · obtain ⟨its, r', pl, hz⟩ := I.list hq
    have hlen := r'.length
    refine call_tuple_list pl.isList (fun h' kp => ?_) (by simp only [List.size_toArray] <;> omega)
    have I1 : Inv X pins σ H { s with heap := h' } := I.kept (t' := s.toks) kp
    have I2 : Inv X pins σ (upd H h'.objs.size (.tup ys)) { s with heap := h'.push { cls := .type "tuple", data := .seq its.toArray } } :=
      I1.laid (t' := s.toks) (fun b o e => Heap.get?_push_of_some _ e) (Nat.le_refl _) (show ObjOk X.prog X.w _ _ _ (.tup ys) from ⟨hz, its, r', IsTup.new _ _⟩)
    exact ⟨.ref h'.objs.size, _, I2, rfl, q _ (I1.hok.fresh (Nat.le_refl _))⟩
  · obtain ⟨its, r', pl, hz⟩ := I.tuple hq
    exact call_tuple_same pl ⟨.ref p, H, I, rfl, q⟩

/-- the value is of that builtin type -/
def tyV (K : PySem.W.Frag) (T : String) (x : V) (H : Hp) : Prop := match x with
  | .str _ => T = "str"
  | .int _ => T = "int"
  | .ref p => (T = "list" ∧ ∃ xs, SqL K H p xs) ∨ (T = "tuple" ∧ ∃ o, K.lookup p = some o ∧ o.cls = .type "tuple" ∧ o.dict = none) ∨
      (T = "dict" ∧ ((∃ kvs, H p = some (.dK kvs)) ∨ (∃ kvs, H p = some (.dT kvs)) ∨ ∃ kvs, H p = some (.dN kvs))) ∨ (T = "set" ∧ ∃ S n, H p = some (.set S n))
  | _ => False
theorem tyV_is {pins : List (Addr × Obj)} {σ : St} {H : Hp} {s : Shared} {T : String} {x : V} {v : Value} (I : Inv X pins σ H s) (r : RelV x v) (ty : tyV X.K T x H) :
    s.TypeIs v T ∧ ∀ a, v = .ref a → ∃ ob, s.heap.get? a = some ob ∧ ob.dict = none := by
  cases x with
  | str z =>
    obtain ⟨t, rfl⟩ := r
    cases (show T = "str" from ty)
    exact ⟨typeIs_str s z t, fun _ e => nomatch e⟩
  | int i =>
    obtain ⟨t, rfl⟩ := r
    cases (show T = "int" from ty)
    exact ⟨typeIs_int s i t, fun _ e => nomatch e⟩
  | ref p =>
    cases r
    rcases ty with ⟨rfl, xs, hq⟩ | ⟨rfl, o, hk, hc, hd⟩ | ⟨rfl, hk⟩ | ⟨rfl, S, n, hk⟩
    · obtain ⟨its, _, pl, _⟩ := I.list hq
      refine ⟨pl.isList.typeIs, fun a e => ?_⟩
      cases e
      obtain ⟨o, n, e, c, hd, _⟩ := pl
      exact ⟨o, e, hd⟩
    · refine ⟨⟨o, I.kIn p o hk, hc⟩, fun a e => ?_⟩
      cases e
      exact ⟨o, I.kIn _ o hk, hd⟩
    · have z : ∃ o, s.heap.get? p = some o ∧ o.ExactDict := by
        rcases hk with ⟨kvs, hk⟩ | ⟨kvs, hk⟩ | ⟨kvs, hk⟩
        · obtain ⟨_, _, _, _, o, _, _, e, ex, _⟩ := I.hok p _ hk
          exact ⟨o, e, ex⟩
        · obtain ⟨_, _, _, _, o, _, _, e, ex, _⟩ := I.hok p _ hk
          exact ⟨o, e, ex⟩
        · obtain ⟨_, _, _, _, o, _, _, e, ex, _⟩ := I.hok p _ hk
          exact ⟨o, e, ex⟩
      obtain ⟨o, e, ex⟩ := z
      refine ⟨⟨o, e, ex.1⟩, fun a e2 => ?_⟩
      cases e2
      exact ⟨o, e, ex.2.1⟩
    · obtain ⟨o, _, _, _, e, ex, _⟩ := I.hok p _ hk
      refine ⟨⟨o, e, ex.1⟩, fun a e2 => ?_⟩
      cases e2
      exact ⟨o, e, ex.2.1⟩
  | _ => exact False.elim ty
def tBM (K : PySem.W.Frag) (T : String) (r : V → List V → Hp → VK → Prop) (to : TE) (t : TA) : TE := fun σ H Q => to σ H fun x H1 => tyV K T x H1 ∧ t σ H1 fun xs H2 => r x xs H2 Q
variable {o e : Expr} {es : List Expr} {to : TE} {t : TA} {name : Str} {apos cpos : Pos} {T id : String} {r : V → List V → Hp → VK → Prop}
theorem pe_bm (pa : PlainAttrs T) (slot : Slot T name id) (hty : typeOf (.builtin id) = pure (.type "method_descriptor")) (hm : MtR X id r) (ho : PE X o to) (ha : PA X (e :: es) t)
    (hbase : attributeBase o name X.env (eval o X.env) = eval o X.env := by rfl)
    (hfew : ((backTo cpos (starEach (e :: es) X.env)).all (fun x => !x.1) && (backToKw cpos (keywordEach [] X.env)).all (fun x => x.1.isSome)
      && decide ((e :: es).length + ([] : List Keyword).length + (if ([] : List Keyword).isEmpty then 0 else 1) < 30)) = true := by rfl)
    (hline : (apos.endLine == cpos.line) = true := by rfl) (hs : starEach (e :: es) X.env = (false, eval e X.env) :: starEach es X.env := by rfl) (hplain : (backTo cpos (starEach es X.env)).any (·.1) = false := by rfl) :
    PE X (.Call (.Attribute o name apos) (e :: es) [] cpos) (tBM X.K T r to t) := by
  intro pins s σ H Q I h
  refine wpAny_Call_method_late hbase hfew hline rfl (thn (ho pins s σ H _ I h) fun v s1 ⟨x, H1, I1, r1, ty, q1⟩ => ?_)
  obtain ⟨h1, h2⟩ := tyV_is I1 r1 ty
  refine ⟨T, id, pa, slot, hty, h1, h2, ?_⟩
  have hA := ha cpos pins s1 σ H1 _ I1 q1
  rw [hs] at hA ⊢
  refine Calls.callWith_builtin (by show (false || (backTo cpos (starEach es X.env)).any (·.1)) = false; rw [hplain] <;> rfl) (Calls.evalArgs_plain ?_)
  exact thn hA fun us s2 ⟨vs, H2, I2, r2, q2⟩ => hm pins s2 σ H2 x vs v us Q I2 r1 r2 q2
/- xs.append(e), list.index on a module's tuple .. are MtR facts of 06m -/
end
end L2

namespace L2
open PySem PySem.Spec PyProof.Rows

def MtM (X : Cx) (id : String) (r : V → List V → Hp → VK → Prop) : Prop :=
  ∀ (pins : List (Addr × Obj)) (s : Shared) (σ : St) (H : Hp) (x : V) (xs : List V) (v : Value) (us : List Value) (Q : VK), Inv X pins σ H s → RelV x v → Vals xs us → r x xs H Q →
    wpAny (model X.prog X.w) X.A (call (.builtin id) (v :: us)) (EP X pins σ Q) X.xe s

theorem Vals.one : ∀ {x : V} {us : List Value}, Vals [x] us → ∃ u, us = [u] ∧ RelV x u
  | _, _, .cons r .nil => ⟨_, rfl, r⟩
section
variable {X : Cx} {pins : List (Addr × Obj)} {σ : St} {H : Hp} {s : Shared} {l b : Addr} {xs ys zs : List V}

theorem Inv.lset {its its' : List Value} {n : Nat} {f : Array Value → Array Value} {t' : Nat} (I : Inv X pins σ H s) (hH : H l = some (.lst xs))
    (e : s.heap.get? l = some { cls := .type "list", data := .seq its.toArray n }) (hf : f its.toArray = its'.toArray) (hv : Vals ys its') (hz : ys.length ≤ sizeLine) :
    Inv X pins σ (upd H l (.lst ys)) { s with heap := s.heap.update l (Obj.mapSeq f), toks := t' } := by
  have q := PySem.IsL.update e f
  rw [hf] at q
  refine I.write (x := l) (e := l) (by rw [hH]; exact trivial) (.inl rfl) (fun b' u hb hu => (Heap.get?_update_other s.heap (Obj.mapSeq f) (Ne.symm hb)).trans hu) ⟨_, q⟩ ?_
  exact ⟨hz, its', _, hv, q⟩
theorem Inv.lnew {its : List Value} {t' : Nat} (I : Inv X pins σ H s) (hv : Vals ys its) (hz : ys.length ≤ sizeLine) :
    Inv X pins σ (upd H s.heap.objs.size (.lst ys)) { s with heap := s.heap.push { cls := .type "list", data := .seq its.toArray }, toks := t' } :=
  I.laid (fun _ _ q => Heap.get?_push_of_some _ q) (Nat.le_refl _) ⟨hz, its, 0, hv, Heap.get?_push_size _ rfl⟩
theorem Inv.fresh (I : Inv X pins σ H s) : H s.heap.objs.size = none := I.hok.fresh (Nat.le_refl _)
theorem Inv.lstM (I : Inv X pins σ H s) (hH : H l = some (.lst xs)) : xs.length ≤ sizeLine ∧ ∃ (its : List Value) (n : Nat), Vals xs its ∧ xs.length = its.length ∧ s.heap.get? l = some { cls := .type "list", data := .seq its.toArray n } := by
  obtain ⟨z, its, n, r, e⟩ := I.hok l _ hH
  exact ⟨z, its, n, r, r.length, e⟩

theorem notLongL {n : Nat} (h : n ≤ sizeLine) : Builtin.List.listTooLong n = false := by
  unfold Builtin.List.listTooLong
  exact decide_eq_false (by omega)
end

section
variable {X : Cx}

def rAppend : V → List V → Hp → VK → Prop := fun x vs H Q => ∃ l xs y, x = .ref l ∧ vs = [y] ∧ H l = some (.lst xs) ∧ xs.length < sizeLine ∧ Q .non (upd H l (.lst (xs ++ [y])))
theorem mt_append : MtM X "list.append" rAppend := by
  intro pins s σ H x vs v us Q I rx rv h
  obtain ⟨l, xs, y, rfl, rfl, hH, hz, q⟩ := h
  cases rx
  obtain ⟨u, rfl, ru⟩ := rv.one
  obtain ⟨z, its, n, r, hl, e⟩ := I.lstM hH
  refine call_meets F.slot_list_append ⟨_, e, rfl⟩ F.entry_list_append (F.args_list_append_2 _ _) (PySem.list_append l its.toArray n u (by rw [List.size_toArray]; omega)) ⟨e, ?_⟩
  refine ⟨.non, _, I.lset (its' := its ++ [u]) hH e (by simp) (r.append (.cons ru .nil)) ?_, rfl, q⟩
  rw [List.length_append, List.length_singleton]
  omega

def rExtend : V → List V → Hp → VK → Prop := fun x vs H Q => ∃ l b xs zs, x = .ref l ∧ vs = [.ref b] ∧ H l = some (.lst xs) ∧ H b = some (.lst zs) ∧ xs.length + zs.length ≤ sizeLine ∧ Q .non (upd H l (.lst (xs ++ zs)))
theorem mt_extend : MtM X "list.extend" rExtend := by
  intro pins s σ H x vs v us Q I rx rv h
  obtain ⟨l, b, xs, zs, rfl, rfl, hH, hB, hz, q⟩ := h
  cases rx
  obtain ⟨u, rfl, ru⟩ := rv.one
  cases ru
  obtain ⟨z, its, n, r, hl, e⟩ := I.lstM hH
  obtain ⟨z2, its2, n2, r2, hl2, e2⟩ := I.lstM hB
  have hsz : its.toArray.size + its2.toArray.size ≤ sizeLine := by rw [List.size_toArray, List.size_toArray]; omega
  have hlong : ¬ (!its.toArray.isEmpty && Builtin.List.listTooLong (its.toArray.size + its2.toArray.size)) = true := by
    rw [notLongL hsz, Bool.and_false]
    exact Bool.false_ne_true
  refine call_meets F.slot_list_extend ⟨_, e, rfl⟩ F.entry_list_extend (F.args_list_extend_2 _ _)
    (AutoSeq1.list_extend_list_list_0 l its.toArray n b its2.toArray n2 hlong (by rw [List.size_toArray]; omega) (by omega)) ⟨e, e2, ?_⟩
  refine ⟨.non, _, I.lset (its' := its ++ its2) hH e (by simp) (r.append r2) ?_, rfl, q⟩
  rw [List.length_append]
  omega

def rCat : R2 := fun x y H Q => ∃ l b xs zs, x = .ref l ∧ y = .ref b ∧ H l = some (.lst xs) ∧ H b = some (.lst zs) ∧ xs.length + zs.length ≤ sizeLine ∧ ∀ p, H p = none → Q (.ref p) (upd H p (.lst (xs ++ zs)))
theorem op_cat : OpR X (binaryOp .Add) rCat := by
  intro pins s σ H x y v u Q I rx ry h
  obtain ⟨l, b, xs, zs, rfl, rfl, hH, hB, hz, q⟩ := h
  cases rx
  cases ry
  obtain ⟨z, its, n, r, hl, e⟩ := I.lstM hH
  obtain ⟨z2, its2, n2, r2, hl2, e2⟩ := I.lstM hB
  refine PySem.P.add_list e e2 ?_ (by rw [List.size_toArray, List.size_toArray]; omega)
  have ea : its.toArray ++ its2.toArray = (its ++ its2).toArray := by simp
  rw [ea]
  exact ⟨.ref _, _, I.lnew (t' := s.toks) (r.append r2) (by rw [List.length_append]; omega), rfl, q _ I.fresh⟩
end

section
variable {prog : Program} {w : World} {A : Around} {E : Value → Shared → Prop} {s : Shared}
end

section
variable {X : Cx}
end
end L2

namespace L2
open PySem PySem.Spec PyProof.Rows

theorem Vals.ints : ∀ {ns : List Int} {us : List Value}, Vals (ns.map V.int) us → IntsAre us ns
  | [], us, h => by
    rw [List.map_nil] at h
    cases h
    exact IntsAre.nil
  | n :: ns, us, h => by
    rw [List.map_cons] at h
    cases h with
    | cons r t =>
      obtain ⟨k, rfl⟩ := r
      exact IntsAre.cons n k (Vals.ints t)
theorem vals_of_ints : ∀ {us : List Value} {ns : List Int}, IntsAre us ns → Vals (ns.map V.int) us
  | _, _, .nil => by rw [List.map_nil]; exact Paired.nil
  | _, _, .cons n t h => by rw [List.map_cons]; exact Paired.cons (show RelV (V.int n) (Value.int n t) from ⟨t, rfl⟩) (vals_of_ints h)
theorem Vals.bls : ∀ {bs : List Bool} {us : List Value}, Vals (bs.map V.bl) us → us = bs.map Value.bool
  | [], us, h => by
    rw [List.map_nil] at h
    cases h
    rfl
  | b :: bs, us, h => by
    rw [List.map_cons] at h
    cases h with
    | cons r t =>
      cases r
      rw [Vals.bls t, List.map_cons]
theorem Vals.ref1 {a : Addr} {us : List Value} (r : Vals [V.ref a] us) : us = [Value.ref a] := by
  cases r with
  | cons r t =>
    cases t
    cases r
    rfl
theorem Vals.int2 {i j : Int} {us : List Value} (r : Vals [V.int i, V.int j] us) : ∃ t u, us = [Value.int i t, Value.int j u] := by
  cases r with
  | cons r t =>
    cases t with
    | cons r2 t2 =>
      cases t2
      obtain ⟨t, rfl⟩ := r
      obtain ⟨u, rfl⟩ := r2
      exact ⟨t, u, rfl⟩

section
variable {prog : Program} {w : World} {A : Around} {E : Value → Shared → Prop} {s : Shared} {l : Addr} {its : List Value} {ns : List Int} {Q : Value → Shared → Prop}
theorem sum_raw (hh : A.handled = none) (hl : s.heap.IsList l its.toArray) (hi : IntsAre its ns)
    (h : ∀ h' tk t', (∀ b o, s.heap.get? b = some o → h'.get? b = some o) → Q (.int ns.sum t') { s with heap := h', toks := tk }) : wpAny (model prog w) A (call (.builtin "sum") [.ref l]) Q E s := by
  obtain ⟨xs, e⟩ := hi.allInts.items
  have hn : numsOf (intItems xs).toList = ns := by rw [← e]; exact hi.numsOf
  rw [nums_intItems] at hn
  rw [e] at hl
  refine PySem.sum_intListG hh hl fun h' tk t' hk => ?_
  have := h h' tk t' hk
  rw [preSum_eq, List.take_of_length_le (by simp), hn]; exact this
end

section
variable {X : Cx}
/-- sum(xs) of a list of ints -/
def rSum (K : PySem.W.Frag) : List V → Hp → VK → Prop := fun vs H Q => ∃ (a : Addr) (ns : List Int), vs = [V.ref a] ∧ SqL K H a (ns.map V.int) ∧ Q (.int ns.sum) H
theorem cr_sum (hc : X.calm = true) : CallR X (.builtin "sum") (rSum X.K) := by
  intro pins s σ H vs us Q I r h
  obtain ⟨a, ns, rfl, hs, q⟩ := h
  obtain ⟨its, rv, hl, _⟩ := I.list hs
  rw [Vals.ref1 r]
  exact sum_raw (I.ok.hd hc) hl.isList rv.ints fun h' tk t' hk => ⟨.int _, H, I.kept hk, ⟨_, rfl⟩, q⟩
end

section
variable {X : Cx}
end

section
variable {X : Cx}
end

theorem iter_any {prog : Program} {w : World} {A : Around} {E : Value → Shared → Prop} {s : Shared} {l : Addr} {items : Array Value} {Q : Value → Shared → Prop} (hl : s.heap.IsList l items)
    (h : ∀ s₂ : Shared, s₂ = { s with heap := s.heap.push { cls := .type "list_iterator", data := .fields #[.ref l, .int 0 0] } } →
      (s₂.heap.IsListIter s.heap.objs.size l 0 ∧ s₂.heap.IsList l items) → l ≠ s.heap.objs.size → Q (.ref s.heap.objs.size) s₂) : wpAny (model prog w) A (pyIter (.ref l)) Q E s := by
  have hlt : l < s.heap.objs.size := by obtain ⟨_, e, _⟩ := hl; exact Heap.lt_size e
  exact wpAny_pyIter_list hl (h _ rfl ⟨⟨_, Heap.get?_push_size _ rfl, rfl, rfl⟩, hl.push _⟩ (Nat.ne_of_lt hlt))
theorem truth_bools {prog : Program} {w : World} {A : Around} {bs : List Bool} {its : List Value} (e : its = bs.map Value.bool) :
    TruthOf prog w A (fun i v => its.toArray[i]? = some v) (fun i => bs.getD i false) := fun i v s Q E hv hq => by
  have hv' : its[i]? = some v := by simpa using hv
  rw [e, List.getElem?_map] at hv'
  obtain ⟨b, hb, rfl⟩ := Option.map_eq_some_iff.mp hv'
  have hg : bs.getD i false = b := by rw [List.getD_eq_getElem?_getD, hb] <;> rfl
  have hq' : Q (bs.getD i false) s := hq
  rw [hg] at hq'
  exact wpAny_truthy_bool hq'
theorem all_range : ∀ bs : List Bool, (List.range bs.length).all (fun i => bs.getD i false) = bs.all id
  | [] => rfl
  | b :: bs => by
    rw [List.length_cons, List.range_succ_eq_map, List.all_cons, List.all_map, List.all_cons, ← all_range bs]
    all_goals rfl
section
variable {X : Cx}
def rAll (K : PySem.W.Frag) : List V → Hp → VK → Prop := fun vs H Q => ∃ (a : Addr) (bs : List Bool), vs = [V.ref a] ∧ SqL K H a (bs.map V.bl) ∧ Q (.bl (bs.all id)) H
theorem cr_all (hc : X.calm = true) : CallR X (.builtin "all") (rAll X.K) := by
  intro pins s σ H vs us Q I r h
  obtain ⟨a, bs, rfl, hs, q⟩ := h
  obtain ⟨its, rv, hl, _⟩ := I.list hs
  rw [Vals.ref1 r]
  have hb := rv.bls
  refine call_all_walk (iter_any hl.isList fun s₂ e2 st hne => ?_)
  subst e2
  refine ⟨_, _, _, _, _, _, _, rfl, Walks.list (A := X.A.in1) (I.ok.hd hc) _ a hne its.toArray, st, truth_bools hb, fun h' tk hk => ?_⟩
  refine ⟨.bl _, H, I.kept fun b o eo => hk b o (fun hmem => ?_) (Heap.get?_push_of_some _ eo), ?_, q⟩
  · rcases List.mem_cons.mp hmem with e1 | hmem
    · exact absurd (e1 ▸ Heap.lt_size eo) (Nat.lt_irrefl _)
    · cases hmem
  · show Value.bool _ = Value.bool _
    rw [← all_range, hb, List.size_toArray, List.length_map]
end

mutual
inductive Dp (K : PySem.W.Frag) (H : Hp) : V → PyData → Prop
  | non : Dp K H .non .none
  | bl (b : Bool) : Dp K H (.bl b) (.bool b)
  | int (i : Int) : Dp K H (.int i) (.int i)
  | str (x : Str) : Dp K H (.str x) (.str x)
  | lst {a : Addr} {xs : List V} {ds : List PyData} : SqL K H a xs → DpAll K H xs ds → Dp K H (.ref a) (.list ds)
  | tup {a : Addr} {xs : List V} {ds : List PyData} : SqT K H a xs → DpAll K H xs ds → Dp K H (.ref a) (.tuple ds)
inductive DpAll (K : PySem.W.Frag) (H : Hp) : List V → List PyData → Prop
  | nil : DpAll K H [] []
  | cons {v : V} {vs : List V} {d : PyData} {ds : List PyData} : Dp K H v d → DpAll K H vs ds → DpAll K H (v :: vs) (d :: ds)
end
section
variable {X : Cx} {pins : List (Addr × Obj)} {σ : St} {H : Hp} {s : Shared}
mutual
theorem Dp.reads (I : Inv X pins σ H s) : ∀ (d : PyData) (v : V) (u : Value), Dp X.K H v d → RelV v u → ∃ as, Reads s.heap u d as
  | .none, _, _, h, r => by
    cases h
    cases r
    exact ⟨_, Reads.none⟩
  | .bool b, _, _, h, r => by
    cases h
    cases r
    exact ⟨_, Reads.bool b⟩
  | .int i, _, _, h, r => by
    cases h
    obtain ⟨t, rfl⟩ := r
    exact ⟨_, Reads.int i t⟩
  | .str x, _, _, h, r => by
    cases h
    obtain ⟨t, rfl⟩ := r
    exact ⟨_, Reads.str x t⟩
  | .list ds, _, _, h, r => by
    cases h with
    | lst hs ha =>
      cases r
      obtain ⟨its, rv, ⟨o, n, ho, hc, _, hd⟩, _⟩ := I.list hs
      obtain ⟨as, hr⟩ := Dp.readsAll I ds _ its ha rv
      exact ⟨_, Reads.list ho hc hd hr⟩
  | .tuple ds, _, _, h, r => by
    cases h with
    | tup hs ha =>
      cases r
      obtain ⟨its, rv, ⟨o, ho, hc, n, hd⟩, _⟩ := I.tuple hs
      obtain ⟨as, hr⟩ := Dp.readsAll I ds _ its ha rv
      exact ⟨_, Reads.tuple ho hc hd hr⟩
  | .dict _, _, _, h, _ => by cases h
theorem Dp.readsAll (I : Inv X pins σ H s) : ∀ (ds : List PyData) (vs : List V) (us : List Value), DpAll X.K H vs ds → Vals vs us → ∃ as, ReadsAll s.heap us ds as
  | [], _, _, h, r => by
    cases h
    cases r
    exact ⟨_, ReadsAll.nil⟩
  | d :: ds, _, _, h, r => by
    cases h with
    | cons h1 h2 =>
      cases r with
      | cons r1 r2 =>
        obtain ⟨as, q1⟩ := Dp.reads I d _ _ h1 r1
        obtain ⟨bs, q2⟩ := Dp.readsAll I ds _ _ h2 r2
        exact ⟨_, ReadsAll.cons q1 q2⟩
end
end
section
variable {X : Cx}
def rNeD (K : PySem.W.Frag) : R2 := fun x y H Q => ∃ d e, Dp K H x d ∧ Dp K H y e ∧ SeqAt.shaped d = true ∧ SeqAt.shaped e = true ∧ Q (.bl (!PyData.eqv d e)) H
theorem op_neD (hu : X.A.units + 64 < cLine) : OpR X (compareOp .NotEq) (rNeD X.K) := by
  intro pins s σ H x y v u Q I rx ry h
  obtain ⟨d, e, hd, he, sd, se, q⟩ := h
  obtain ⟨as, r1⟩ := Dp.reads I d x v hd rx
  obtain ⟨bs, r2⟩ := Dp.reads I e y u he ry
  exact SeqAt.compareNe_shaped r1 r2 sd se hu ⟨.bl _, H, I, rfl, q⟩
end
end L2

namespace L2
open PySem PySem.Spec PyProof.Rows
abbrev CellAt (h : Heap) (c : Addr) (v : Option Value) : Prop := h.IsCell c v
def relS (scope sc : Scope) : Scope :=
  { scope with names := scope.names.map fun (n, k) => if (k == .free && sc.kind == .function && sc.names.lookup n == some .cell) then (n, .cell) else (n, k) }

def cloFrom (cells : List (Str × Addr)) : List (Str × NameKind) → List (Str × Addr) → List (Str × Addr)
  | [], acc => acc
  | (n, k) :: r, acc => if k == .free then cloFrom cells r ((n, (cells.lookup n).getD 0) :: acc) else cloFrom cells r acc

theorem closure_loop (env : Env) (f : Str × NameKind → List (Str × Addr) → Sem (ForInStep (List (Str × Addr))))
    (hf : ∀ n k c, f (n, k) c = if k == .free then (do let a ← cellOf env n; pure (.yield ((n, a) :: c))) else pure (.yield c)) :
    ∀ (names : List (Str × NameKind)) (acc : List (Str × Addr)), (∀ y ∈ names, y.2 = .free → ∃ c, env.cells.lookup y.1 = some c) → forIn names acc f = pure (cloFrom env.cells names acc)
  | [], acc, _ => by rw [List.forIn_nil]; rfl
  | (n, k) :: r, acc, h => by
    rw [List.forIn_cons, hf]
    have ih := fun acc => closure_loop env f hf r acc fun y hy => h y (List.mem_cons_of_mem _ hy)
    unfold cloFrom
    by_cases hk : (k == NameKind.free) = true
    · rw [if_pos hk, if_pos hk]
      obtain ⟨c, hc⟩ := h (n, k) List.mem_cons_self (by simpa using hk)
      have e : cellOf env n = pure c := by unfold cellOf; rw [hc]
      rw [e]
      have e2 : (env.cells.lookup n).getD 0 = c := by rw [hc]; rfl
      rw [e2]
      exact ih _
    · rw [if_neg hk, if_neg hk]
      exact ih _
theorem closure_ok {scope : Scope} {env : Env} (h : ∀ y ∈ scope.names, y.2 = .free → ∃ c, env.cells.lookup y.1 = some c) : closureFor scope env = pure (cloFrom env.cells scope.names []) := by
  simp only [closureFor]
  rw [closure_loop env _ (fun n k c => rfl) scope.names [] h]
  rfl

theorem mem_lookup {α : Type} : ∀ {l : List (Str × α)} {n : Str} {c : α}, (n, c) ∈ l → ∃ c', l.lookup n = some c'
  | (k, v) :: r, n, c, h => by
    rw [List.lookup_cons]
    cases hb : n == k with
    | true => exact ⟨_, rfl⟩
    | false =>
      rcases List.mem_cons.mp h with e | h
      · cases e; simp at hb
      · exact mem_lookup h

theorem cloFrom_mem {cells : List (Str × Addr)} : ∀ {names : List (Str × NameKind)} {acc : List (Str × Addr)} {n : Str} {c : Addr}, (n, c) ∈ cloFrom cells names acc → (n, c) ∈ acc ∨ ((n, .free) ∈ names ∧ c = (cells.lookup n).getD 0)
  | [], _, _, _, h => .inl h
  | (m, k) :: r, acc, n, c, h => by
    unfold cloFrom at h
    split at h
    · rename_i hk
      have hk : k = .free := by simpa using hk
      rcases cloFrom_mem h with h | ⟨h1, h2⟩
      · rcases List.mem_cons.mp h with e | h
        · cases e; exact .inr ⟨hk ▸ List.mem_cons_self, rfl⟩
        · exact .inl h
      · exact .inr ⟨List.mem_cons_of_mem _ h1, h2⟩
    · rcases cloFrom_mem h with h | ⟨h1, h2⟩
      · exact .inl h
      · exact .inr ⟨List.mem_cons_of_mem _ h1, h2⟩
theorem cloFrom_acc {cells : List (Str × Addr)} : ∀ {names : List (Str × NameKind)} {acc : List (Str × Addr)} {p : Str × Addr}, p ∈ acc → p ∈ cloFrom cells names acc
  | [], _, _, h => h
  | (m, k) :: r, acc, p, h => by
    unfold cloFrom
    split
    · exact cloFrom_acc (List.mem_cons_of_mem _ h)
    · exact cloFrom_acc h
theorem cloFrom_has {cells : List (Str × Addr)} : ∀ {names : List (Str × NameKind)} {acc : List (Str × Addr)} {n : Str}, (n, .free) ∈ names → (n, (cells.lookup n).getD 0) ∈ cloFrom cells names acc
  | (m, k) :: r, acc, n, h => by
    unfold cloFrom
    rcases List.mem_cons.mp h with e | h
    · cases e
      exact cloFrom_acc List.mem_cons_self
    · split
      · exact cloFrom_has h
      · exact cloFrom_has h

theorem cells_mem : ∀ {names : List (Str × NameKind)} {h : Heap} {acc : List (Str × Addr)} {x : Str} {c : Addr}, (x, c) ∈ cellsFrom h.objs.size names acc →
    (x, c) ∈ acc ∨ ((x, .cell) ∈ names ∧ h.objs.size ≤ c ∧ CellAt (pushCells h names) c none)
  | [], _, _, _, _, h => .inl h
  | (n, k) :: r, h, acc, x, c, hm => by
    unfold cellsFrom at hm
    unfold pushCells
    split at hm
    · rename_i hk
      rw [if_pos hk]
      have hk : k = .cell := by simpa using hk
      rw [← Heap.size_push h { cls := .type "cell", data := .cell none }] at hm
      rcases cells_mem hm with hm | ⟨h1, h2, h3⟩
      · rcases List.mem_cons.mp hm with e | hm
        · cases e
          exact .inr ⟨hk ▸ List.mem_cons_self, Nat.le_refl _, _, pushCells_keeps r _ _ _ (Heap.get?_push_size _ rfl), rfl⟩
        · exact .inl hm
      · rw [Heap.size_push] at h2
        exact .inr ⟨List.mem_cons_of_mem _ h1, Nat.le_of_succ_le h2, h3⟩
    · rename_i hk
      rw [if_neg hk]
      rcases cells_mem hm with hm | ⟨h1, h2, h3⟩
      · exact .inl hm
      · exact .inr ⟨List.mem_cons_of_mem _ h1, h2, h3⟩
theorem cells_acc : ∀ {names : List (Str × NameKind)} {n : Nat} {acc : List (Str × Addr)} {p : Str × Addr}, p ∈ acc → p ∈ cellsFrom n names acc
  | [], _, _, _, h => h
  | (m, k) :: r, n, acc, p, h => by
    unfold cellsFrom
    split
    · exact cells_acc (List.mem_cons_of_mem _ h)
    · exact cells_acc h
theorem cells_has : ∀ {names : List (Str × NameKind)} {n : Nat} {acc : List (Str × Addr)} {x : Str}, (x, .cell) ∈ names → ∃ c, (x, c) ∈ cellsFrom n names acc
  | (m, k) :: r, n, acc, x, h => by
    unfold cellsFrom
    rcases List.mem_cons.mp h with e | h
    · cases e
      exact ⟨n, cells_acc List.mem_cons_self⟩
    · split
      · exact cells_has h
      · exact cells_has h
theorem cells_inj : ∀ {names : List (Str × NameKind)} {h : Heap} {acc : List (Str × Addr)} {x y : Str} {c : Addr}, (∀ p ∈ acc, p.2 < h.objs.size) → (∀ x y c, (x, c) ∈ acc → (y, c) ∈ acc → x = y) →
    (x, c) ∈ cellsFrom h.objs.size names acc → (y, c) ∈ cellsFrom h.objs.size names acc → x = y
  | [], _, _, _, _, _, _, hi, h1, h2 => hi _ _ _ h1 h2
  | (n, k) :: r, h, acc, x, y, c, hl, hi, h1, h2 => by
    unfold cellsFrom at h1 h2
    split at h1
    · rename_i hk
      rw [if_pos hk] at h2
      rw [← Heap.size_push h { cls := .type "cell", data := .cell none }] at h1 h2
      refine cells_inj (h := h.push _) (fun p hp => ?_) (fun x y c a b => ?_) h1 h2
      · rw [Heap.size_push]
        rcases List.mem_cons.mp hp with rfl | hp
        · exact Nat.lt_succ_self _
        · exact Nat.lt_succ_of_lt (hl p hp)
      · rcases List.mem_cons.mp a with e | a <;> rcases List.mem_cons.mp b with e' | b
        · cases e; cases e'; rfl
        · cases e; exact absurd (hl _ b) (Nat.lt_irrefl _)
        · cases e'; exact absurd (hl _ a) (Nat.lt_irrefl _)
        · exact hi _ _ _ a b
    · rename_i hk
      rw [if_neg hk] at h2
      exact cells_inj hl hi h1 h2

theorem newEnv_comp {M : Model} {A : Around} {E : Value → Shared → Prop} {s : Shared} {scope : Scope} {globals : Addr} {closure : List (Str × Addr)} {qual : Str} {func : Option Addr} {code : Value} {around : Env} {builtins : Addr} {Q : Env → Shared → Prop}
    (h : Q (newEnv scope s.heap.objs.size globals (cellsFrom (s.heap.objs.size + 1) scope.names closure) qual func code (some around) builtins)
      { s with heap := pushCells (s.heap.push { cls := .type "dict", data := .dict #[] }) scope.names }) :
    wpAny M A (newFunctionEnv scope globals closure [] qual func code (some around) builtins) Q E s := by
  simp only [newFunctionEnv, Option.isSome_some, if_true]
  refine wpAny_bind (wpAny_alloc ?_)
  refine wpAny_bind (wpAny_layCells _ (fun n k c => rfl) scope.names closure _ _ ?_)
  rw [show ({ s with heap := s.heap.push { cls := .type "dict", data := .dict #[] } } : Shared).heap.objs.size = s.heap.objs.size + 1 from Heap.size_push ..]
  rw [List.forIn_nil]
  exact wpAny_bind (wpAny_pure (wpAny_pure h))

/-- every name of the written scope, in the scope that runs -/
theorem lookup_relS {sc : Scope} : ∀ {names : List (Str × NameKind)} {x : Str} {k : NameKind},
    (names.map fun (n, k) => if (k == NameKind.free && sc.kind == .function && sc.names.lookup n == some .cell) then (n, NameKind.cell) else (n, k)).lookup x = some k →
    ∃ k', names.lookup x = some k' ∧ (k = k' ∨ (k' = .free ∧ k = .cell))
  | [], _, _, h => by simp at h
  | (n, k₀) :: r, x, k, h => by
    have ih := @lookup_relS sc r x k
    have h' : List.lookup x ((if (k₀ == NameKind.free && sc.kind == .function && sc.names.lookup n == some .cell) = true then (n, NameKind.cell) else (n, k₀)) :: (r.map _)) = some k := h
    cases hx : x == n with
    | true =>
      simp only [List.lookup_cons, hx]
      by_cases hc : (k₀ == NameKind.free && sc.kind == .function && sc.names.lookup n == some .cell) = true
      · rw [if_pos hc] at h'
        simp only [List.lookup_cons, hx] at h'
        cases h'
        simp only [Bool.and_eq_true, beq_iff_eq] at hc
        exact ⟨k₀, rfl, .inr ⟨hc.1.1, rfl⟩⟩
      · rw [if_neg hc] at h'
        simp only [List.lookup_cons, hx] at h'
        cases h'
        exact ⟨_, rfl, .inl rfl⟩
    | false =>
      simp only [List.lookup_cons, hx]
      by_cases hc : (k₀ == NameKind.free && sc.kind == .function && sc.names.lookup n == some .cell) = true
      · rw [if_pos hc] at h'
        simp only [List.lookup_cons, hx] at h'
        exact ih h'
      · rw [if_neg hc] at h'
        simp only [List.lookup_cons, hx] at h'
        exact ih h'
/-- the names of a comprehension's block: its own (with their places in N), or captured -/
structure BlkOk (N : List Str) (sc scope : Scope) (own : List (Str × Nat)) : Prop where
  kind : scope.kind = .function
  uniq : ∀ y ∈ scope.names, scope.names.lookup y.1 = some y.2
  ix : ∀ p ∈ own, N[p.2]? = some p.1
  free : ∀ y ∈ scope.names, y.2 = .free → sc.names.lookup y.1 = some .cell ∨ sc.names.lookup y.1 = some .free
  own : ∀ y ∈ scope.names, y.2 = .local ∨ y.2 = .cell → y.1 ∈ own.map (·.1) ∨ y.1 ∉ N
/-- the slots of the block's own names forgotten -/
def wipe (σ : St) : List Nat → St
  | [] => σ
  | v :: vs => (wipe σ vs).set v none
theorem wipe_length (σ : St) : ∀ vs : List Nat, (wipe σ vs).length = σ.length
  | [] => rfl
  | v :: vs => by unfold wipe; rw [List.length_set, wipe_length σ vs]
theorem wipe_some {σ : St} {i : Nat} {x : V} : ∀ {vs : List Nat}, (wipe σ vs)[i]? = some (some x) → σ[i]? = some (some x) ∧ i ∉ vs
  | [], h => ⟨h, by simp⟩
  | v :: vs, h => by
    unfold wipe at h
    by_cases hi : v = i
    · subst hi
      by_cases hv : v < (wipe σ vs).length
      · rw [List.getElem?_set_self hv] at h; cases h
      · rw [List.getElem?_eq_none (by simpa using hv)] at h; cases h
    · rw [List.getElem?_set_ne hi] at h
      obtain ⟨h1, h2⟩ := wipe_some h
      exact ⟨h1, by simp only [List.mem_cons, not_or]; exact ⟨fun e => hi e.symm, h2⟩⟩

/-- the context of a block that starts at s, its iterator's objects at fp -/
abbrev Cx.blk (X : Cx) (s : Shared) (H : Hp) (scope : Scope) (cenv : Env) (fp : List Addr) : Cx := { X with s_0 := s, H_0 := H, env := cenv, outer := X.stack, ex := fp, fn := fun x => scope.names.lookup x == some .cell, pn := [], xe := fun _ _ => False }
section
variable {X : Cx} {pins : List (Addr × Obj)} {σ : St} {H : Hp} {s : Shared}
theorem block_start {scope : Scope} {own : List (Str × Nat)} {fp : List Addr} (I : Inv X pins σ H s) (ok : BlkOk X.N X.env.scope scope own) (hN : X.N.Nodup) (hfp : ∀ b ∈ fp, FpOk X pins H b ∧ b < s.heap.objs.size) :
    Inv (X.blk s H scope (compEnvC scope (cellsFrom (s.heap.objs.size + 1) scope.names (cloFrom X.env.cells scope.names [])) s.heap.objs.size X.env) fp) [] (wipe σ (own.map (·.2))) H { s with heap := pushCells (s.heap.push { cls := .type "dict", data := .dict #[] }) scope.names } := by
  have hfree : ∀ y ∈ scope.names, y.2 = .free → ∃ c, X.env.cells.lookup y.1 = some c := fun y hy e => by
    rcases ok.free y hy e with k | k
    · exact I.ok.has _ (.inl k)
    · exact I.ok.has _ (.inr k)
  generalize hcenv : compEnvC scope (cellsFrom (s.heap.objs.size + 1) scope.names (cloFrom X.env.cells scope.names [])) s.heap.objs.size X.env = cenv
  have kp : ∀ b o, s.heap.get? b = some o → (pushCells (s.heap.push { cls := .type "dict", data := .dict #[] }) scope.names).get? b = some o := fun b o e => pushCells_keeps _ _ _ _ (Heap.get?_push_of_some _ e)
  have hL : cenv.locals = s.heap.objs.size := by rw [← hcenv]; rfl
  have hcl : cenv.cells = cellsFrom (s.heap.objs.size + 1) scope.names (cloFrom X.env.cells scope.names []) := by rw [← hcenv]; rfl
  have hsc : cenv.scope = relS scope X.env.scope := by rw [← hcenv]; rfl
  rw [← Heap.size_push s.heap { cls := .type "dict", data := .dict #[] }] at hcl
  have cm : ∀ {y c}, (y, c) ∈ cloFrom X.env.cells scope.names [] → X.env.cells.lookup y = some c ∧ c < s.heap.objs.size := fun {y c} hm => by
    rcases cloFrom_mem hm with hm | ⟨h1, rfl⟩
    · cases hm
    · obtain ⟨c, hc⟩ := hfree _ h1 rfl
      rw [hc]
      obtain ⟨w, z⟩ := I.cell _ _ hc
      exact ⟨rfl, z.lt⟩
  have mem : ∀ {y c}, cenv.cells.lookup y = some c → (X.env.cells.lookup y = some c ∧ c < s.heap.objs.size) ∨ (s.heap.objs.size + 1 ≤ c ∧ CellAt (pushCells (s.heap.push { cls := .type "dict", data := .dict #[] }) scope.names) c none) := fun {y c} e => by
    rw [hcl] at e
    rcases cells_mem (PySem.mem_of_lookup e) with hm | ⟨_, h2, h3⟩
    · exact .inl (cm hm)
    · rw [Heap.size_push] at h2; exact .inr ⟨h2, h3⟩
  have look : ∀ {y}, scope.names.lookup y = some .free → ∃ c, cenv.cells.lookup y = some c ∧ X.env.cells.lookup y = some c := fun {y} hl => by
    have hy : (y, NameKind.free) ∈ scope.names := PySem.mem_of_lookup hl
    obtain ⟨c', e'⟩ := mem_lookup (cells_acc (names := scope.names) (n := (s.heap.push { cls := .type "dict", data := .dict #[] }).objs.size) (cloFrom_has (cells := X.env.cells) (acc := []) hy))
    rw [← hcl] at e'
    refine ⟨c', e', ?_⟩
    rw [hcl] at e'
    rcases cells_mem (PySem.mem_of_lookup e') with hm | ⟨h1, _, _⟩
    · exact (cm hm).1
    · have := ok.uniq _ h1
      rw [hl] at this; cases this
  have okB : (X.blk s H scope cenv fp).Ok := by
    refine ⟨I.ok.mod, by show cenv.scope.kind = _; rw [hsc]; exact ok.kind, by show cenv.globals = _; rw [← hcenv]; exact I.ok.glob, by show cenv.builtins = _; rw [← hcenv]; exact I.ok.blt, by show s.heap.objs.size ≤ cenv.locals; rw [hL]; exact Nat.le_refl _,
      fun y z c e1 e2 => ?_, fun y hy => ?_, fun y c z e => ?_, I.ok.hd, I.ok.frames, .inl rfl, fun b hb => ⟨?_, fun y c e z => ?_⟩, I.bs, Nat.le_trans I.ok.bsz I.sz, fun b o e hb => ?_, fun b hb z => ?_, I.stack, I.stkFree⟩
    · have e1 : cenv.cells.lookup y = some c := e1
      have e2 : cenv.cells.lookup z = some c := e2
      rw [hcl] at e1 e2
      refine cells_inj (fun p hp => ?_) (fun y z c a b => I.ok.inj y z c (cm a).1 (cm b).1) (PySem.mem_of_lookup e1) (PySem.mem_of_lookup e2)
      rw [Heap.size_push]
      exact Nat.lt_succ_of_lt (cm (y := p.1) (c := p.2) hp).2
    · show ∃ c, cenv.cells.lookup y = some c
      have key : ∀ k, cenv.kindOf y = some k → (k = .cell ∨ k = .free) → ∃ c, cenv.cells.lookup y = some c := fun k hk hk' => by
        unfold Env.kindOf at hk
        rw [hsc] at hk
        obtain ⟨k', e, r⟩ := lookup_relS hk
        have : k' = .cell ∨ k' = .free := by
          rcases r with rfl | ⟨rfl, _⟩
          · exact hk'
          · exact .inr rfl
        rcases this with rfl | rfl
        · obtain ⟨c, hm⟩ := cells_has (n := (s.heap.push { cls := .type "dict", data := .dict #[] }).objs.size) (acc := cloFrom X.env.cells scope.names []) (PySem.mem_of_lookup e)
          obtain ⟨c', e'⟩ := mem_lookup hm
          exact ⟨c', by rw [hcl]; exact e'⟩
        · obtain ⟨c, h1, _⟩ := look e
          exact ⟨c, h1⟩
      rcases hy with hy | hy
      · exact key _ hy (.inl rfl)
      · exact key _ hy (.inr rfl)
    · have z : (scope.names.lookup y == some NameKind.cell) = true := z
      have z : scope.names.lookup y = some .cell := by simpa using z
      have e : cenv.cells.lookup y = some c := e
      rw [hcl] at e
      rcases cells_mem (PySem.mem_of_lookup e) with hm | ⟨_, h2, _⟩
      · rcases cloFrom_mem hm with hm | ⟨h1, _⟩
        · cases hm
        · have q := ok.uniq _ h1
          rw [z] at q; cases q
      · rw [Heap.size_push] at h2
        exact Nat.le_of_succ_le h2
    · show b ≠ cenv.locals
      rw [hL]; exact Nat.ne_of_lt (hfp b hb).2
    · have e : cenv.cells.lookup y = some c := e
      rcases mem e with ⟨h1, _⟩ | ⟨h1, _⟩
      · exact (hfp b hb).1.2.2.2.2.1 y c h1 z
      · have h2 : s.heap.objs.size + 1 ≤ b := by rw [← z]; exact h1
        exact absurd (Nat.lt_of_lt_of_le (hfp b hb).2 (Nat.le_of_succ_le h2)) (Nat.lt_irrefl _)
    · rcases (hfp b hb).1.2.2.2.1 with z | z
      · exact I.ok.noex b o e z
      · have q := (I.ok.bs b o e).1
        rw [z] at q; cases q
    · rcases List.mem_cons.mp (I.stkSub b z) with z | z
      · exact (hfp b hb).1.2.1 z
      · exact (hfp b hb).1.2.2.1 z
  refine ⟨okB, rfl, I.bare, Un.kept kp, ⟨fun _ => none, ?_, fun i y av e1 e2 e3 => ?_⟩, fun y c e => ?_, ?_, fun y c e => ?_, fun p hp => ?_, I.hok.kept kp, by rw [wipe_length]; exact I.len⟩
  · show Heap.Ns _ cenv.locals _
    rw [hL]
    exact Heap.Ns.keeps (Heap.Ns.new ..) fun b o e => pushCells_keeps _ _ _ _ e
  · obtain ⟨e2, hne⟩ := wipe_some e2
    have hfr : scope.names.lookup y = some .free ∧ (cenv.kindOf y = some .cell ∨ cenv.kindOf y = some .free) := by
      have key : ∀ k, cenv.scope.names.lookup y = some k → k = .local ∨ k = .cell ∨ k = .free → scope.names.lookup y = some .free ∧ (cenv.kindOf y = some .cell ∨ cenv.kindOf y = some .free) := fun k hk hk' => by
        have hk0 := hk
        rw [hsc] at hk
        obtain ⟨k', e, r⟩ := lookup_relS hk
        have no : ¬ (k' = .local ∨ k' = .cell) := fun hh => by
          rcases ok.own _ (PySem.mem_of_lookup e) hh with e' | e'
          · obtain ⟨p, hp, hpy⟩ := List.mem_map.mp e'
            have e3 := ok.ix p hp
            have : p.1 = y := hpy
            rw [this] at e3
            exact hne (List.mem_map.mpr ⟨p, hp, nodup_ix hN e3 e1⟩)
          · exact e' (List.mem_of_getElem? e1)
        rcases r with rfl | ⟨rfl, rfl⟩
        · rcases hk' with rfl | rfl | rfl
          · exact absurd (.inl rfl) no
          · exact absurd (.inr rfl) no
          · exact ⟨e, .inr hk0⟩
        · exact ⟨e, .inl hk0⟩
      have e3 : Vis cenv.scope y := e3
      rcases e3 with e3 | e3 | e3
      · exact key _ e3 (.inl rfl)
      · exact key _ e3 (.inr (.inl rfl))
      · exact key _ e3 (.inr (.inr rfl))
    obtain ⟨m, hn, hl⟩ := I.loc
    have hvis : Vis X.env.scope y := (ok.free _ (PySem.mem_of_lookup hfr.1) rfl).elim (fun k => .inr (.inl k)) (fun k => .inr (.inr k))
    obtain ⟨w, r, q⟩ := hl i y av e1 e2 hvis
    refine ⟨w, r, .inr ⟨hfr.2, ?_⟩⟩
    obtain ⟨c, h1, h2⟩ := look hfr.1
    rcases q with ⟨k, _⟩ | ⟨_, c', e', z⟩
    · have k : X.env.scope.names.lookup y = some .local := k
      rcases ok.free _ (PySem.mem_of_lookup hfr.1) rfl with k' | k' <;> rw [show X.env.scope.names.lookup y = _ from k'] at k <;> cases k
    · rw [h2] at e'; cases e'
      exact ⟨c, h1, z.keeps kp⟩
  · have e : cenv.cells.lookup y = some c := e
    rcases mem e with ⟨h1, _⟩ | ⟨_, z⟩
    · obtain ⟨w, z⟩ := I.cell y c h1
      exact ⟨w, z.keeps kp⟩
    · exact ⟨_, z⟩
  · show H cenv.locals = none
    rw [hL]; exact I.hok.fresh (Nat.le_refl _)
  · have e : cenv.cells.lookup y = some c := e
    rcases mem e with ⟨h1, _⟩ | ⟨h1, _⟩
    · exact I.freeC y c h1
    · exact I.hok.fresh (Nat.le_of_succ_le h1)
  · exact absurd (show p ∈ ([] : List (Addr × Obj)) ++ [] from hp) (by simp)

/-- an item appended to a tracked list -/
theorem app_ok {E : Value → Shared → Prop} {D : Addr} {xs : List V} {y : V} {v : Value} {Q : Value → Shared → Prop} (I : Inv X pins σ H s) (hD : H D = some (.lst xs)) (hz : xs.length < sizeLine) (r : RelV y v)
    (h : ∀ s', Inv X pins σ (upd H D (.lst (xs ++ [y]))) s' → Q .none s') : wpAny (model X.prog X.w) X.A (call (.builtin "list.append") [.ref D, v]) Q E s := by
  obtain ⟨hz', its, n, ri, e⟩ := I.hok D _ hD
  have hl := ri.length
  refine append_at (hsz := by rw [List.size_toArray]; omega) e fun h' sb ho' => ?_
  refine h { s with heap := h' } (I.write (t' := s.toks) (by rw [hD]; trivial) (.inl rfl) (fun b u hb q => (sb.2 b hb).trans q) ⟨_, ho'⟩ ⟨by rw [List.length_append]; exact hz, its ++ [v], n + 1, ri.append (.cons r .nil), ?_⟩)
  rw [ho']
  simp

/-- a clause's tests -/
def PTs (X : Cx) (ifs : List Expr) (t : TT) : Prop :=
  ∀ (pins : List (Addr × Obj)) (s : Shared) (σ : St) (H : Hp) (Q : Bool → Hp → Prop), Inv X pins σ H s → t σ H Q →
    wpAny (model X.prog X.w) X.A (forIn ifs true fun c r => if r = true then do let ok ← isTrue c X.env (eval c X.env); pure (ForInStep.yield ok) else pure (ForInStep.yield r)) (TP X pins σ Q) X.xe s
def tYes : TT := fun _ H Q => Q true H
theorem pts_nil : PTs X [] tYes := fun _ _ _ H _ I h => wpAny_tests_nil ⟨H, I, h⟩
theorem pts_one {c : Expr} {t : TT} (h : PT X c t) : PTs X [c] t := fun pins s σ H Q I hw => wpAny_tests_one (h pins s σ H Q I hw)
end

theorem thnF {α : Type} {t : Sem α} {Q Q' : α → Shared → Prop} {M : Model} {A : Around} {E : Value → Shared → Prop} {s : Shared} (h : wpAny M A t Q (fun _ _ => False) s) (hQ : ∀ a s, Q a s → Q' a s) : wpAny M A t Q' E s := wpAny_mono h hQ fun _ _ z => False.elim z

/-- the loop of a list comprehension's block, the target of any form (codeAny_compLoop_tests asks a target that no tuple goes to; statement and proof follow it, PyProof/CompMap.lean:41-61, with the step letOwnedTupleGo kept) -/
theorem compLoop_any {prog : Program} {w : World} {A : Around} {R : Result → Shared → Prop} {s : Shared} {elt target iter : Expr} {ifs : List Expr} {scope : Scope} {pos : Pos} {it acc : Value} {env : Env} (I : Nat → Shared → Prop)
    (turn : ∀ n s, I n s → wpAny (model prog w) A (pyNext it) (fun r s₁ => match r with
      | none => R (.ok .next) s₁
      | some v => wpAny (model prog w) A (letOwnedTupleGo target it v) (fun _ s₁' => wpAny (model prog w) A (assign target env v) (fun _ s₂ =>
          wpAny (model prog w) A (forIn ifs true fun c r => if r = true then do let ok ← isTrue c env (eval c env); pure (ForInStep.yield ok) else pure (ForInStep.yield r)) (fun ok s₃ =>
            if ok = true then wpAny (model prog w) A (eval elt env) (fun x s₄ =>
              wpAny (model prog w) A (call (.builtin "list.append") [acc, x]) (fun _ s₅ => ∃ m, m < n ∧ I m s₅) (notedBy (model prog w) A env fun e s' => R (.error e) s') s₄) (notedBy (model prog w) A env fun e s' => R (.error e) s') s₃
            else ∃ m, m < n ∧ I m s₃) (notedBy (model prog w) A env fun e s' => R (.error e) s') s₂) (notedBy (model prog w) A env fun e s' => R (.error e) s') s₁') (notedBy (model prog w) A env fun e s' => R (.error e) s') s₁) (notedBy (model prog w) A env fun e s' => R (.error e) s') s)
    (n : Nat) (h : I n s) :
    codeAny (model prog w) A (.compLoop (.ListComp elt [⟨target, iter, ifs, 0⟩] scope pos) 0 it acc env) R s := by
  refine codeAny_loop rfl I (fun n s hI => ?_) n h
  show wpAny _ A ((compTurn (.ListComp elt [⟨target, iter, ifs, 0⟩] scope pos) 0 it acc env).onRaise (fun x => do noteFrame x env; theTreesLotGoes x)) _ _ s
  refine wpAny_noted ?_
  rw [compTurn_list]
  refine wpAny_bind (wpAny_standAt (wpAny_bind (wpAny_mono (turn n s hI) (fun r s₁ h₁ => ?_) fun _ _ h' => h')))
  cases r with
  | none => exact wpAny_pure h₁
  | some v =>
    refine wpAny_bind (wpAny_mono h₁ (fun _ s₁' h₁' => ?_) fun _ _ h' => h')
    refine wpAny_bind (wpAny_mono h₁' (fun _ s₂ h₂ => wpAny_bind (wpAny_mono h₂ (fun ok s₃ h₃ => ?_) fun _ _ h' => h')) fun _ _ h' => h')
    cases ok with
    | false => exact wpAny_pure ⟨rfl, h₃⟩
    | true =>
      exact wpAny_bind (wpAny_bind (wpAny_mono h₃ (fun x s₄ h₄ => wpAny_bind (wpAny_mono h₄ (fun _ s₅ h₅ => wpAny_pure (wpAny_pure ⟨rfl, h₅⟩)) fun _ _ h' => h')) fun _ _ h' => h'))

section
variable {X : Cx}
/-- [elt for target in iter if ..]: D the new list; W by the turn and a measure, Nx what a turn is to reach -/
def tLc (wi : TI) (g : TG) (tt : TT) (te : TE) (vs : List Nat) : TE := fun σ H Q => wi σ H fun J H1 => ∀ D, H1 D = none → ∃ W : Nat → Nat → Hp → Prop, (∃ m, W 0 m (upd H1 D (.lst []))) ∧ ∀ i m H, W i m H →
  (J.stop i H ∧ Q (.ref D) H) ∨ (J.go i H ∧ ∃ Nx : Hp → Prop, (∀ H', Nx H' → ∃ m', m' < m ∧ W (i + 1) m' H') ∧ ∀ x H', J.yld i H x H' → g x (wipe σ vs) H' fun σ2 H2 => wipe σ2 vs = wipe σ vs ∧ tt σ2 H2 fun b H3 =>
    if b = true then te σ2 H3 fun y H4 => ∃ acc, H4 D = some (.lst acc) ∧ acc.length < sizeLine ∧ Nx (upd H4 D (.lst (acc ++ [y]))) else Nx H3)
theorem lc_core {pins : List (Addr × Obj)} {s : Shared} {σ : St} {H : Hp} {Q : VK} {elt tg iter : Expr} {ifs : List Expr} {scope : Scope} {own : List (Str × Nat)} {pos pos' : Pos} {wi : TI} {g : TG} {tt : TT} {te : TE} {use : Option (Value → Sem Unit)} {Qf : Value → Shared → Prop}
    (hc : X.calm = true) (hN : X.N.Nodup) (I : Inv X pins σ H s) (hi : PI X tg iter wi) (ok : BlkOk X.N X.env.scope scope own)
    (hg : ∀ (s : Shared) (H : Hp) (C : Addr) (cl : List (Str × Addr)) (fp : List Addr), PG (X.blk s H scope (compEnvC scope cl C X.env) fp) tg g) (ht : ∀ (s : Shared) (H : Hp) (C : Addr) (cl : List (Str × Addr)) (fp : List Addr), PTs (X.blk s H scope (compEnvC scope cl C X.env) fp) ifs tt)
    (he : ∀ (s : Shared) (H : Hp) (C : Addr) (cl : List (Str × Addr)) (fp : List Addr), PE (X.blk s H scope (compEnvC scope cl C X.env) fp) elt te) (hs : ∀ x, foldedSetIterable iter X.env x = pure x)
    (h : tLc wi g tt te (own.map (·.2)) σ H Q)
    (hRR : ∀ D C s' m H', Inv X pins σ H' s' → Q (.ref D) H' → s'.heap.Ns C m → FpOk X pins H' C → compPost (model X.prog X.w) X.A X.xe use Qf (.ref D) C (.ok .next) s') :
    wpAny (model X.prog X.w) X.A (comprehension (.ListComp elt [⟨tg, iter, ifs, 0⟩] scope pos) scope X.env pos' (newList []) false (eval iter X.env) use) Qf X.xe s := by
  have hfree : ∀ y ∈ scope.names, y.2 = .free → ∃ c, X.env.cells.lookup y.1 = some c := fun y hy e => by
    rcases ok.free y hy e with k | k
    · exact I.ok.has _ (.inl k)
    · exact I.ok.has _ (.inr k)
  refine wpAny_comprehension_free (use := use) rfl hs (closure_ok hfree) ok.kind (fun y hy e => by rw [ok.uniq y hy, e])
    (thn (hi pins s σ H _ I h) fun xv s1 hx => thn hx fun itv s2 h2 => ?_)
  obtain ⟨it, fp, tn, J, H2, e, I2, T, st2, f2, q⟩ := h2
  subst e
  refine wpAny_newObj_type (newEnv_comp ?_) (by show 0 ≤ sizeLine; decide)
  generalize hD : s2.heap.objs.size = D
  have hDn : H2 D = none := I2.hok.fresh (Nat.le_of_eq hD)
  obtain ⟨W, ⟨m0, w0⟩, turn⟩ := q D hDn
  -- the new list
  generalize hs3 : ({ s2 with heap := s2.heap.push { cls := .type "list", data := .seq ([] : List Value).toArray } } : Shared) = s3
  have I3 : Inv X pins σ (upd H2 D (.lst [])) s3 := by
    rw [← hs3]
    refine I2.laid (t' := s2.toks) (fun b o e => Heap.get?_push_of_some _ e) (Nat.le_of_eq hD) ⟨Nat.zero_le _, [], 0, .nil, ?_⟩
    rw [← hD]
    exact Heap.get?_push_size _ rfl
  have h3 : s3.heap = s2.heap.push { cls := .type "list", data := .seq ([] : List Value).toArray } := by rw [← hs3]
  have sz : ∀ b ∈ fp, b < s2.heap.objs.size := fun b hb => by
    obtain ⟨o, e, _⟩ := T.obj _ _ st2 b hb
    exact Heap.lt_size e
  have f3 : ∀ b ∈ fp, FpOk X pins (upd H2 D (.lst [])) b ∧ b < s3.heap.objs.size := fun b hb => by
    have hlt := sz b hb
    refine ⟨⟨?_, (f2 b hb).2⟩, by rw [h3, Heap.size_push]; exact Nat.lt_succ_of_lt hlt⟩
    rw [upd_ne (by rw [← hD]; exact Nat.ne_of_lt hlt)]
    exact (f2 b hb).1
  have st3 : tn 0 s3.heap := T.keep _ _ _ st2 fun b _ o e => by rw [h3]; exact Heap.get?_push_of_some _ e
  have I4 := block_start I3 ok hN f3
  have pg := hg s3 (upd H2 D (.lst [])) s3.heap.objs.size (cellsFrom (s3.heap.objs.size + 1) scope.names (cloFrom X.env.cells scope.names [])) fp
  have pt := ht s3 (upd H2 D (.lst [])) s3.heap.objs.size (cellsFrom (s3.heap.objs.size + 1) scope.names (cloFrom X.env.cells scope.names [])) fp
  have pe := he s3 (upd H2 D (.lst [])) s3.heap.objs.size (cellsFrom (s3.heap.objs.size + 1) scope.names (cloFrom X.env.cells scope.names [])) fp
  show codeAny _ _ (.compStart (.ListComp elt [⟨tg, iter, ifs, 0⟩] scope pos) 0 (.ref it) (.ref D) (compEnvC scope (cellsFrom (s3.heap.objs.size + 1) scope.names (cloFrom X.env.cells scope.names [])) s3.heap.objs.size X.env)) (compPost (model X.prog X.w) X.A X.xe use Qf (.ref D) s3.heap.objs.size) { s3 with heap := pushCells (s3.heap.push { cls := .type "dict", data := .dict #[] }) scope.names }
  have nfp : ∀ b ∈ fp, (upd H2 D (.lst [])) b = none := fun b hb => (f3 b hb).1.1
  generalize hce : compEnvC scope (cellsFrom (s3.heap.objs.size + 1) scope.names (cloFrom X.env.cells scope.names [])) s3.heap.objs.size X.env = ce at I4 pg pt pe ⊢
  have cL : ce.locals = s3.heap.objs.size := by subst hce; rfl
  generalize hH3 : upd H2 D (.lst []) = H3 at I3 I4 pg pt pe w0 nfp f3
  generalize hs4 : ({ s3 with heap := pushCells (s3.heap.push { cls := .type "dict", data := .dict #[] }) scope.names } : Shared) = s4 at I4 ⊢
  have st4 : tn 0 s4.heap := T.keep _ _ _ st3 fun b _ o e => by rw [← hs4]; exact pushCells_keeps _ _ _ _ (Heap.get?_push_of_some _ e)
  have stat : ∀ {σ' : St} {H' : Hp} {s' : Shared}, Inv (X.blk s3 H3 scope ce fp) [] σ' H' s' → (∀ b ∈ fp, H' b = none) → ∀ b ∈ fp, FpOk (X.blk s3 H3 scope ce fp) [] H' b := fun {σ' H' s'} I' hn b hb =>
    ⟨hn b hb, (I'.ok.exf b hb).1, I'.ok.exfs b hb, .inl hb, fun x c e => (I'.ok.exf b hb).2 x c e, fun p hp => absurd (show p ∈ ([] : List (Addr × Obj)) ++ [] from hp) (by simp)⟩
  have loop : codeAny (model X.prog X.w) X.A (.compLoop (.ListComp elt [⟨tg, iter, ifs, 0⟩] scope pos) 0 (.ref it) (.ref D) ce) (compPost (model X.prog X.w) X.A X.xe use Qf (.ref D) s3.heap.objs.size) s4 := by
    refine compLoop_any (fun n s' => ∃ i H', Inv (X.blk s3 H3 scope ce fp) [] (wipe σ (own.map (·.2))) H' s' ∧ tn i s'.heap ∧ (∀ b ∈ fp, H' b = none) ∧ W i n H') ?_ m0 ⟨0, H3, I4, st4, nfp, w0⟩
    rintro n s5 ⟨i, H5, I5, st5, n5, w5⟩
    rcases turn i n H5 w5 with ⟨stop, qq⟩ | ⟨go, Nx, hNx, step⟩
    · have td := T.done (X.blk s3 H3 scope ce fp) rfl rfl rfl hc i [] s5 _ H5 (fun _ _ => False) I5 (stat I5 n5) st5 stop
      refine thnF td fun r s6 ⟨hr, I6⟩ => ?_
      subst hr
      -- back in the def's context
      have I7 : Inv X pins σ H5 s6 := I3.call' (ch := fp) I6.os I6.base I6.hok I6.bare fun b hb => ⟨(f3 b hb).1.2.2.2.1, (f3 b hb).1.2.1, (f3 b hb).1.2.2.2.2.1, (f3 b hb).1.2.2.2.2.2⟩
      have nC : H5 s3.heap.objs.size = none := by
        have z : H5 ce.locals = none := I6.free
        rw [cL] at z
        exact z
      obtain ⟨m, hn, _⟩ := I6.loc
      have hn : s6.heap.Ns ce.locals m := hn
      rw [cL] at hn
      exact hRR D s3.heap.objs.size s6 m H5 I7 qq hn (I3.fpOk (Nat.le_refl _) nC)
    · have ti := T.item (X.blk s3 H3 scope ce fp) rfl rfl rfl hc i [] s5 _ H5 (fun _ _ => False) I5 (stat I5 n5) st5 go
      refine thnF ti fun r s6 ⟨u, hr, h6⟩ => ?_
      subst hr
      refine thnF h6 fun _ s7 ⟨x, H7, I7, r7, y7, st7, n7⟩ => ?_
      have I7' := I7.pinned (stat I7 n7) (T.obj _ _ st7)
      refine thnF (pg _ s7 _ H7 x u _ I7' r7 (step x H7 y7)) fun _ s8 ⟨σ8, H8, I8, hw8, q8⟩ => ?_
      refine thnF (pt _ s8 σ8 H8 _ I8 q8) fun b s9 ⟨H9, I9, q9⟩ => ?_
      -- the turn's end
      have fin : ∀ {s' : Shared} {H' : Hp}, Inv (X.blk s3 H3 scope ce fp) ([] ++ pinsAt fp s7.heap) σ8 H' s' → Nx H' → ∃ m, m < n ∧ ∃ i H', Inv (X.blk s3 H3 scope ce fp) [] (wipe σ (own.map (·.2))) H' s' ∧ tn i s'.heap ∧ (∀ b ∈ fp, H' b = none) ∧ W i m H' := fun {s' H'} I' nx => by
        obtain ⟨m', hm, w'⟩ := hNx H' nx
        have pin' : ∀ b ∈ fp, ∀ o, s7.heap.get? b = some o → s'.heap.get? b = some o ∧ H' b = none := fun b hb o e =>
          let z := I'.pin (b, o) (List.mem_append_right _ (List.mem_append_right _ (mem_pinsAt hb e)))
          ⟨z.1, z.2.1⟩
        have hl : (wipe σ (own.map (·.2))).length = σ8.length := by rw [← hw8, wipe_length]
        refine ⟨m', hm, i + 1, H', (I'.unpinned (pins := [])).weak hl (fun j v e => ?_), T.keep _ _ _ st7 fun b hb o e => (pin' b hb o e).1, fun b hb => ?_, w'⟩
        · rw [← hw8] at e
          exact (wipe_some e).1
        · obtain ⟨o, e, _⟩ := T.obj _ _ st7 b hb
          exact (pin' b hb o e).2
      cases b with
      | false =>
        simp only [Bool.false_eq_true, if_false] at q9 ⊢
        exact fin I9 q9
      | true =>
        simp only [if_true] at q9 ⊢
        refine thnF (pe _ s9 σ8 H9 _ I9 q9) fun z s10 ⟨yv, H10, I10, r10, acc, hD10, hz10, nx⟩ => ?_
        exact app_ok (X := X.blk s3 H3 scope ce fp) I10 hD10 hz10 r10 fun s11 I11 => fin I11 nx
  exact codeAny_compStart_list loop (T.self X.A 0 _ _ _ st4 loop)
/-- as a value -/
theorem pe_lc {elt tg iter : Expr} {ifs : List Expr} {scope : Scope} {own : List (Str × Nat)} {pos : Pos} {wi : TI} {g : TG} {tt : TT} {te : TE} (hc : X.calm = true) (hN : X.N.Nodup) (hi : PI X tg iter wi) (ok : BlkOk X.N X.env.scope scope own)
    (hg : ∀ (s : Shared) (H : Hp) (C : Addr) (cl : List (Str × Addr)) (fp : List Addr), PG (X.blk s H scope (compEnvC scope cl C X.env) fp) tg g) (ht : ∀ (s : Shared) (H : Hp) (C : Addr) (cl : List (Str × Addr)) (fp : List Addr), PTs (X.blk s H scope (compEnvC scope cl C X.env) fp) ifs tt)
    (he : ∀ (s : Shared) (H : Hp) (C : Addr) (cl : List (Str × Addr)) (fp : List Addr), PE (X.blk s H scope (compEnvC scope cl C X.env) fp) elt te) (hs : ∀ x, foldedSetIterable iter X.env x = pure x := by intro _; rfl) :
    PE X (.ListComp elt [⟨tg, iter, ifs, 0⟩] scope pos) (tLc wi g tt te (own.map (·.2))) := by
  intro pins s σ H Q I h
  rw [eval_ListComp]
  refine lc_core hc hN I hi ok hg ht he hs h fun D C s' m H' I' q hn f => ⟨m, hn, fun h'' sb => ?_⟩
  obtain ⟨f0, f1, f2, f3, f4, f5⟩ := f
  exact ⟨.ref D, H', I'.turned (t' := s'.toks) (fun b o hb e => (sb.2 b hb).trans e) f0 f1 f3 f4 f5, rfl, q⟩
/-- name = [..] on one line, the name a local -/
theorem ps_setLc {i : Nat} {y : Str} {py : Pos} {elt tg iter : Expr} {ifs : List Expr} {scope : Scope} {own : List (Str × Nat)} {pos spos : Pos} {wi : TI} {g : TG} {tt : TT} {te : TE} (hc : X.calm = true) (hN : X.N.Nodup) (hy : X.N[i]? = some y) (hyl : X.env.scope.names.lookup y = some .local)
    (hsw : swapsWith (.ListComp elt [⟨tg, iter, ifs, 0⟩] scope pos) (some (.Name y py)) spos.line X.env = pure true) (hi : PI X tg iter wi) (ok : BlkOk X.N X.env.scope scope own)
    (hg : ∀ (s : Shared) (H : Hp) (C : Addr) (cl : List (Str × Addr)) (fp : List Addr), PG (X.blk s H scope (compEnvC scope cl C X.env) fp) tg g) (ht : ∀ (s : Shared) (H : Hp) (C : Addr) (cl : List (Str × Addr)) (fp : List Addr), PTs (X.blk s H scope (compEnvC scope cl C X.env) fp) ifs tt)
    (he : ∀ (s : Shared) (H : Hp) (C : Addr) (cl : List (Str × Addr)) (fp : List Addr), PE (X.blk s H scope (compEnvC scope cl C X.env) fp) elt te) (hs : ∀ x, foldedSetIterable iter X.env x = pure x := by intro _; rfl) :
    PS X (.Assign [.Name y py] (.ListComp elt [⟨tg, iter, ifs, 0⟩] scope pos) spos) (tAsg (tLc wi g tt te (own.map (·.2))) (gName i)) := by
  intro pins s σ H D I h
  rw [exec_Assign_Name_used _ _ _ _ hsw]
  refine wpAny_bind (wpAny_standAt (wpAny_bind ?_))
  show wpAny _ X.A (do let _ ← comprehension (.ListComp elt [⟨tg, iter, ifs, 0⟩] scope pos) scope X.env (firstIterPos [⟨tg, iter, ifs, 0⟩] pos) (newList []) false (eval iter X.env) (some (assign (.Name y py) X.env))) _ _ s
  have h : tLc wi g tt te (own.map (·.2)) σ H (fun x H1 => gName i x σ H1 D.nx) := h
  refine wpAny_bind (thn (lc_core (Qf := fun _ s' => SP X pins D .next s') hc hN I hi ok hg ht he hs h fun L C s' m H' I' q hn f => ?_) fun _ s' hq => wpAny_pure (wpAny_pure hq))
  show wpAny _ _ (assign (.Name y py) X.env (.ref L)) _ _ _
  refine wpAny_assign_Name (store_ok2 (v := V.ref L) I' hN hy (.inl hyl) rfl (fun s2 I2 ⟨a, sb, ha⟩ => ?_) (.inr hyl))
  obtain ⟨f0, f1, f2, f3, f4, f5⟩ := f
  have haC : C ≠ a := by
    rcases ha with z | z
    · rw [z]; exact f1
    · exact fun e => f4 y a z e.symm
  refine ⟨m, hn.sameBut sb haC, fun h3 sb3 => ?_⟩
  exact ⟨_, H', I2.turned (t' := s2.toks) (fun b o hb e => (sb3.2 b hb).trans e) f0 f1 f3 f4 f5, q⟩
theorem sw_true {elt : Expr} {gs : List Comprehension} {scope : Scope} {pos py : Pos} {y : Str} {l : Nat} {env : Env} (hk : env.scope.kind = .function) (hy : env.scope.names.lookup y = some .local) (hl : (py.line == pos.line) = true)
    (ha : (scope.names.any fun (n, k) => n == y && (k == .local || k == .cell)) = false) : swapsWith (.ListComp elt gs scope pos) (some (.Name y py)) l env = pure true := by
  have ky : env.kindOf y = some .local := hy
  have hb : env.blockKind = .function := by unfold Env.blockKind; rw [hk]; rfl
  unfold swapsWith
  simp only [hb, ky, ha, Expr.pos, hl]
  rfl
end

/-- over a range: Pv by the turn and the heap (the new list at D within) -/
theorem lc_range {lo : Int} {n : Nat} {g : TG} {tt : TT} {te : TE} {vs : List Nat} {σ : St} {H1 : Hp} {D : Addr} {Qd : Hp → Prop} (Pv : Nat → Hp → Prop) (h0 : Pv 0 (upd H1 D (.lst [])))
    (hs : ∀ i H, i < n → Pv i H → g (.int (lo + i)) (wipe σ vs) H fun σ2 H2 => wipe σ2 vs = wipe σ vs ∧ tt σ2 H2 fun b H3 =>
      if b = true then te σ2 H3 fun y H4 => ∃ acc, H4 D = some (.lst acc) ∧ acc.length < sizeLine ∧ Pv (i + 1) (upd H4 D (.lst (acc ++ [y]))) else Pv (i + 1) H3) (hd : ∀ H, Pv n H → Qd H) :
    ∃ W : Nat → Nat → Hp → Prop, (∃ m, W 0 m (upd H1 D (.lst []))) ∧ ∀ i m H, W i m H →
      ((Itr lo n).stop i H ∧ Qd H) ∨ ((Itr lo n).go i H ∧ ∃ Nx : Hp → Prop, (∀ H', Nx H' → ∃ m', m' < m ∧ W (i + 1) m' H') ∧ ∀ x H', (Itr lo n).yld i H x H' → g x (wipe σ vs) H' fun σ2 H2 => wipe σ2 vs = wipe σ vs ∧ tt σ2 H2 fun b H3 =>
        if b = true then te σ2 H3 fun y H4 => ∃ acc, H4 D = some (.lst acc) ∧ acc.length < sizeLine ∧ Nx (upd H4 D (.lst (acc ++ [y]))) else Nx H3) := by
  refine ⟨fun i m H => m = n - i ∧ i ≤ n ∧ Pv i H, ⟨n, by simp, Nat.zero_le _, h0⟩, ?_⟩
  rintro i m H ⟨rfl, hi, p⟩
  by_cases hlt : i < n
  · refine .inr ⟨hlt, Pv (i + 1), fun H' p' => ⟨n - (i + 1), by omega, rfl, hlt, p'⟩, fun x H' y => ?_⟩
    obtain ⟨e, y⟩ := y
    subst e y
    exact hs i _ hlt p
  · have e : i = n := by omega
    subst e
    exact .inl ⟨Nat.le_refl _, hd H p⟩
/-- over a list that the block leaves as it is -/
theorem lc_list {K : PySem.W.Frag} {a : Addr} {xs : List V} {g : TG} {tt : TT} {te : TE} {vs : List Nat} {σ : St} {H1 : Hp} {D : Addr} {Qd : Hp → Prop} (Pv : Nat → Hp → Prop) (h0 : Pv 0 (upd H1 D (.lst []))) (hl : ∀ i H, i ≤ xs.length → Pv i H → SqL K H a xs)
    (hs : ∀ i x H, xs[i]? = some x → Pv i H → g x (wipe σ vs) H fun σ2 H2 => wipe σ2 vs = wipe σ vs ∧ tt σ2 H2 fun b H3 =>
      if b = true then te σ2 H3 fun y H4 => ∃ acc, H4 D = some (.lst acc) ∧ acc.length < sizeLine ∧ Pv (i + 1) (upd H4 D (.lst (acc ++ [y]))) else Pv (i + 1) H3) (hd : ∀ H, Pv xs.length H → Qd H) :
    ∃ W : Nat → Nat → Hp → Prop, (∃ m, W 0 m (upd H1 D (.lst []))) ∧ ∀ i m H, W i m H →
      ((Itl K a).stop i H ∧ Qd H) ∨ ((Itl K a).go i H ∧ ∃ Nx : Hp → Prop, (∀ H', Nx H' → ∃ m', m' < m ∧ W (i + 1) m' H') ∧ ∀ x H', (Itl K a).yld i H x H' → g x (wipe σ vs) H' fun σ2 H2 => wipe σ2 vs = wipe σ vs ∧ tt σ2 H2 fun b H3 =>
        if b = true then te σ2 H3 fun y H4 => ∃ acc, H4 D = some (.lst acc) ∧ acc.length < sizeLine ∧ Nx (upd H4 D (.lst (acc ++ [y]))) else Nx H3) := by
  refine ⟨fun i m H => m = xs.length - i ∧ i ≤ xs.length ∧ Pv i H, ⟨xs.length, by simp, Nat.zero_le _, h0⟩, ?_⟩
  rintro i m H ⟨rfl, hi, p⟩
  have q := hl i H hi p
  by_cases hlt : i < xs.length
  · refine .inr ⟨⟨xs, xs[i], q, by simp [hlt]⟩, Pv (i + 1), fun H' p' => ⟨xs.length - (i + 1), by omega, rfl, hlt, p'⟩, fun x H' y => ?_⟩
    obtain ⟨e, y⟩ := y
    subst e
    exact hs i x _ (y xs q) p
  · have e : i = xs.length := by omega
    subst e
    exact .inl ⟨⟨xs, q, Nat.le_refl _⟩, hd H p⟩
def blkC (N : List Str) (sc scope : Scope) (own : List (Str × Nat)) : Bool :=
  (match scope.kind with | .function => true | _ => false) && (scope.names.all fun y => decide (scope.names.lookup y.1 = some y.2)) && (own.all fun p => decide (N[p.2]? = some p.1)) &&
    (scope.names.all fun y => match y.2 with
      | .free => (match sc.names.lookup y.1 with | some .cell => true | some .free => true | _ => false)
      | .local => decide (y.1 ∈ own.map (·.1)) || decide (y.1 ∉ N)
      | .cell => decide (y.1 ∈ own.map (·.1)) || decide (y.1 ∉ N)
      | _ => true)
theorem blkOk_by {N : List Str} {sc scope : Scope} {own : List (Str × Nat)} (h : blkC N sc scope own = true) : BlkOk N sc scope own := by
  unfold blkC at h
  simp only [Bool.and_eq_true, List.all_eq_true, decide_eq_true_eq] at h
  obtain ⟨⟨⟨h1, h2⟩, h3⟩, h4⟩ := h
  refine ⟨?_, h2, h3, fun y hy e => ?_, fun y hy e => ?_⟩
  · split at h1
    · assumption
    · cases h1
  · have q := h4 y hy
    simp only [e] at q
    split at q <;> first | exact .inl (by assumption) | exact .inr (by assumption) | cases q
  · have q := h4 y hy
    rcases e with e | e <;> (simp only [e, Bool.or_eq_true, decide_eq_true_eq] at q; exact q)
end L2

namespace L2
open PySem PySem.Spec PyProof.Rows

section
variable {prog : Program} {w : World} {A : Around} {R : Result → Shared → Prop} {s : Shared} {elt t0 i0 t1 i1 : Expr} {ifs0 ifs1 : List Expr} {scope : Scope} {pos : Pos} {it acc : Value} {env : Env}
end

section
variable {X : Cx}
end
end L2

namespace L2
open PySem PySem.Spec PyProof.Rows

section
variable {κ : Type} [DecidableEq κ]
def valV (kvs : List (κ × V)) (k : κ) : Option V := (kvs.find? fun kv => decide (kv.1 = k)).map (·.2)
/-- in its place, or at the end -/
def putK (kvs : List (κ × V)) (k : κ) (v : V) : List (κ × V) :=
  if (kvs.any fun kv => decide (kv.1 = k)) = true then kvs.map (fun kv => if kv.1 = k then (kv.1, v) else kv) else kvs ++ [(k, v)]
theorem valV_pos {p : κ × V} {r : List (κ × V)} {k : κ} (e : p.1 = k) : valV (p :: r) k = some p.2 := by simp [valV, List.find?_cons, e]
theorem valV_neg {p : κ × V} {r : List (κ × V)} {k : κ} (e : ¬ p.1 = k) : valV (p :: r) k = valV r k := by simp [valV, List.find?_cons, e]
theorem valV_any (k : κ) : ∀ kvs : List (κ × V), (kvs.any fun kv => decide (kv.1 = k)) = (valV kvs k).isSome
  | [] => rfl
  | p :: r => by
    rw [List.any_cons]
    by_cases e : p.1 = k
    · simp only [valV_pos e, decide_eq_true e, Bool.true_or, Option.isSome_some]
    · rw [valV_neg e, decide_eq_false e, Bool.false_or]; exact valV_any k r
theorem length_putK (kvs : List (κ × V)) (k : κ) (v : V) : (putK kvs k v).length ≤ kvs.length + 1 := by
  unfold putK
  split
  · rw [List.length_map]; omega
  · rw [List.length_append, List.length_cons, List.length_nil]; omega
theorem RelO.isSome_eq {o : Option V} {u : Option Value} (r : RelO o u) : o.isSome = u.isSome := by
  cases o with
  | none => cases u with
    | none => rfl
    | some _ => exact (show False from r).elim
  | some _ => cases u with
    | none => exact (show False from r).elim
    | some _ => rfl
/-- raw tables of the same keys -/
theorem KV.val {kvs : List (κ × V)} {vs : List (κ × Value)} (r : KV kvs vs) (k : κ) : RelO (valV kvs k) (valueAt vs k) := by
  unfold KV at r
  induction r with
  | nil => exact True.intro
  | @cons p q ps qs h t ih =>
    obtain ⟨h1, h2⟩ := h
    by_cases e : p.1 = k
    · have e' : q.1 = k := h1.symm.trans e
      have b : valueAt (q :: qs) k = some q.2 := by simp [valueAt, List.find?_cons, e']
      rw [valV_pos e, b]; exact h2
    · have e' : ¬ q.1 = k := fun z => e (h1.trans z)
      have b : valueAt (q :: qs) k = valueAt qs k := by simp [valueAt, List.find?_cons, e']
      rw [valV_neg e, b]; exact ih
theorem KV.any {kvs : List (κ × V)} {vs : List (κ × Value)} (r : KV kvs vs) (k : κ) : (kvs.any fun kv => decide (kv.1 = k)) = vs.any fun kv => decide (kv.1 = k) := by
  unfold KV at r
  induction r with
  | nil => rfl
  | cons h t ih => rw [List.any_cons, List.any_cons, ih, h.1]
theorem KV.repl {kvs : List (κ × V)} {vs : List (κ × Value)} (r : KV kvs vs) (k : κ) {y : V} {u : Value} (ry : RelV y u) :
    KV (kvs.map fun kv => if kv.1 = k then (kv.1, y) else kv) (vs.map fun kv => if kv.1 = k then (kv.1, u) else kv) := by
  unfold KV at r ⊢
  induction r with
  | nil => exact .nil
  | @cons p q ps qs h t ih =>
    rw [List.map_cons, List.map_cons]
    refine .cons ?_ ih
    obtain ⟨h1, h2⟩ := h
    by_cases e : p.1 = k
    · rw [if_pos e, if_pos (h1.symm.trans e)]; exact ⟨h1, ry⟩
    · rw [if_neg e, if_neg (fun z => e (h1.trans z))]; exact ⟨h1, h2⟩
theorem KV.put {kvs : List (κ × V)} {vs : List (κ × Value)} (r : KV kvs vs) (k : κ) {y : V} {u : Value} (ry : RelV y u) : KV (putK kvs k y) (stored vs k u) := by
  unfold putK stored
  rw [r.any k]
  by_cases e : (vs.any fun kv => decide (kv.1 = k)) = true
  · rw [if_pos e, if_pos e]; exact r.repl k ry
  · rw [if_neg e, if_neg e]; exact Paired.snoc r ⟨rfl, ry⟩
theorem KV.length {kvs : List (κ × V)} {vs : List (κ × Value)} (r : KV kvs vs) : kvs.length = vs.length := Paired.length r
end


theorem kV_is {P : Program} {w : World} {k : Key} {u : Value} (r : RelV (kV k) u) : (mixKind P w).is k u = true := by
  cases k with
  | inl i => obtain ⟨t, e⟩ := (show ∃ t, u = Value.int i t from r); subst e; exact mixKind_int P w i t
  | inr x => obtain ⟨t, e⟩ := (show ∃ t, u = Value.str x t from r); subst e; exact mixKind_str P w x t
theorem items_are {P : Program} {w : World} : ∀ {ks : List Key} {us : List Value}, Vals (ks.map kV) us → ItemsAre (mixKind P w) ks us
  | [], _, r => by rw [List.map_nil] at r; cases r; exact .nil
  | k :: ks, _, r => by
    rw [List.map_cons] at r
    cases r with
    | cons h t => exact .cons (kV_is h) (items_are t)

/-- raw entries of a dict with tuple keys -/
abbrev KT (H : Hp) : List (List Key × V) → List (List Key × Addr × Value) → Prop := Paired fun p q => p.1 = q.1 ∧ H q.2.1 = some (.tup (p.1.map kV)) ∧ RelV p.2 q.2.2
theorem KT.val {H : Hp} {kvs : List (List Key × V)} {xs : List (List Key × Addr × Value)} (r : KT H kvs xs) (k : List Key) : RelO (valV kvs k) ((atKey xs k).map (·.2)) := by
  induction r with
  | nil => exact True.intro
  | @cons p q ps qs h t ih =>
    obtain ⟨h1, _, h2⟩ := h
    by_cases e : p.1 = k
    · have e' : q.1 = k := h1.symm.trans e
      have b : atKey (q :: qs) k = some q.2 := by simp [atKey, List.find?_cons, e']
      rw [valV_pos e, b]; exact h2
    · have e' : ¬ q.1 = k := fun z => e (h1.trans z)
      have b : atKey (q :: qs) k = atKey qs k := by simp [atKey, List.find?_cons, e']
      rw [valV_neg e, b]; exact ih
section
variable {P : Program} {w : World} {H : Hp} {h : Heap} {a : Addr}
theorem rd_of {u : HO} (ok : HOk P w H h) (e : Rd H a u) : ObjOk P w H h a u := e.ok ok
theorem dk_rd {kvs : List (Key × V)} (ok : HOk P w H h) (e : Rd H a (.dK kvs)) : kvs.length ≤ sizeLine ∧ (a == sysModules) = false ∧ ∃ vs, KV kvs vs ∧ h.DictOf (mixKind P w) a vs :=
  show ObjOk P w H h a (.dK kvs) from rd_of ok e
theorem dk_of {kvs : List (Key × V)} (ok : HOk P w H h) (e : H a = some (.dK kvs)) : kvs.length ≤ sizeLine ∧ (a == sysModules) = false ∧ ∃ vs, KV kvs vs ∧ h.DictOf (mixKind P w) a vs := dk_rd ok (.inl e)
/-- a tracked tuple of ints and texts is a key -/
theorem key_of {ks : List Key} (ok : HOk P w H h) (e : H a = some (.tup (ks.map kV))) : (tupleKind (mixKind P w)).is h ks a := by
  obtain ⟨_, its, r, o, h1, h2, n, h3⟩ := (show ObjOk P w H h a (.tup (ks.map kV)) from ok a _ e)
  exact ⟨o, its.toArray, n, h1, h2, h3, by simpa using items_are r⟩
theorem dt_rd {kvs : List (List Key × V)} (ok : HOk P w H h) (e : Rd H a (.dT kvs)) : kvs.length ≤ sizeLine ∧ (a == sysModules) = false ∧
    ∃ xs, KT H kvs xs ∧ h.DictOfH (tupleKind (mixKind P w)) a xs := by
  obtain ⟨z, y, xs, r, o, es, ep, h1, h2, h3, h4, h5⟩ := (show ObjOk P w H h a (.dT kvs) from rd_of ok e)
  refine ⟨z, y, xs, r, o, es, ep, h1, h2, h3, h4, fun x hx => ?_, h5⟩
  have all : ∀ {l : List (List Key × V)} {m : List (List Key × Addr × Value)}, KT H l m → ∀ x ∈ m, (tupleKind (mixKind P w)).is h x.1 x.2.1 := by
    intro l m q
    induction q with
    | nil => intro x hx; exact nomatch hx
    | @cons p q ps qs hq t ih =>
      intro x hx
      rcases List.mem_cons.mp hx with e | hx
      · subst e
        exact key_of ok (by rw [← hq.1]; exact hq.2.1)
      · exact ih x hx
  exact all r x hx
end

/-- what the dict at a holds at the key y -/
def DGet (H : Hp) (a : Addr) (y : V) (r : Option V) : Prop :=
  (∃ kvs k, Rd H a (.dK kvs) ∧ y = kV k ∧ r = valV kvs k) ∨ ∃ kvs k b, Rd H a (.dT kvs) ∧ y = .ref b ∧ H b = some (.tup (k.map kV)) ∧ r = valV kvs k
theorem DGet.k {H : Hp} {a : Addr} {kvs : List (Key × V)} {k : Key} (e : H a = some (.dK kvs)) : DGet H a (kV k) (valV kvs k) := .inl ⟨kvs, k, .inl e, rfl, rfl⟩
section
variable {X : Cx} {pins : List (Addr × Obj)} {σ : St} {H : Hp} {s : Shared} {a : Addr} {y v : V} {u r : Value} {o : Option V} {A : Around} {E : Value → Shared → Prop}

theorem Inv.big (I : Inv X pins σ H s) : sysModules < s.heap.objs.size := by
  have h : mainGlobals < s.heap.objs.size := (I.mod.glob.keeps I.bk).lt
  exact Nat.lt_trans (by decide) h

/-- d[y], there -/
theorem d_getItem {Q : Value → Shared → Prop} (hu : A.units + 1 < cLine) (I : Inv X pins σ H s) (g : DGet H a y (some v)) (ry : RelV y u) (h : ∀ w' s', Inv X pins σ H s' → RelV v w' → Q w' s') :
    wpAny (model X.prog X.w) A (getItem (.ref a) u) Q E s := by
  rcases g with ⟨kvs, k, e, ey, l⟩ | ⟨kvs, k, b, e, ey, eb, l⟩
  · subst ey
    obtain ⟨z, hd, vs, rel, dd⟩ := dk_rd I.hok e
    obtain ⟨w', hw, rw'⟩ := RelO.some_of (v := v) (o := valueAt vs k) (by rw [l]; exact rel.val k)
    exact wpAny_getItem_of (kV_is ry) dd.mapOf hw (h w' _ (I.tok _) rw')
  · subst ey
    cases (show u = Value.ref b from ry)
    obtain ⟨z, hd, xs, rel, dd⟩ := dt_rd I.hok e
    obtain ⟨w', hw, rw'⟩ := RelO.some_of (v := v) (o := (atKey xs k).map (·.2)) (by rw [l]; exact rel.val k)
    obtain ⟨p, hp, hp2⟩ := Option.map_eq_some_iff.mp hw
    refine wpAny_getItem_heap (tupleKind_room_in1 hu) (key_of I.hok eb) dd hp ?_
    rw [hp2]
    exact h w' _ (I.tok _) rw'
/-- a dict's object is replaced -/
theorem d_write {h' : Heap} {t' : Nat} {ob : HO} (I : Inv X pins σ H s) (mu : Mut (H a)) (hs : Heap.SameBut a s.heap h') (he : ∃ q, h'.get? a = some q) (new : ObjOk X.prog X.w (upd H a ob) h' a ob) :
    Inv X pins σ (upd H a ob) { s with heap := h', toks := t' } :=
  I.write (x := a) (e := a) mu (.inl rfl) (fun b q hb z => (hs.2 b hb).trans z) he new
theorem dk_new {P : Program} {w : World} {H' : Hp} {h' : Heap} {kvs : List (Key × V)} {vs : List (Key × Value)} (z : kvs.length ≤ sizeLine) (hd : (a == sysModules) = false) (rel : KV kvs vs) (dd : h'.DictOf (mixKind P w) a vs) :
    ObjOk P w H' h' a (.dK kvs) := ⟨z, hd, vs, rel, dd⟩
end

section
variable {X : Cx} {pins : List (Addr × Obj)} {σ : St} {H : Hp} {s : Shared} {a : Addr} {kvs : List (Key × V)} {k : Key} {u : Value} {A : Around} {E : Value → Shared → Prop}
end


/-- the element of a subscription, not a slice -/
def NoSl (i : Expr) : Prop := ∀ ov iv, subscripted i false ov iv = operate [ov, iv] (getItem ov iv)
theorem subD_of {prog : Program} {w : World} {A : Around} {E : Value → Shared → Prop} {s : Shared} {env : Env} {value slice : Expr} {pos : Pos} {T id : String} {Q : Value → Shared → Prop}
    (hl : typeLookup (.type T) "__getitem__" = pure (some (.builtin id))) (hs : NoSl slice)
    (h : wpAny (model prog w) A (eval value env) (fun o s₁ => wpAny (model prog w) A (eval slice env) (fun i s₂ => s₂.TypeIs o T ∧ wpAny (model prog w) A (getItem o i) Q E s₂) E s₁) E s) :
    wpAny (model prog w) A (eval (.Subscript value slice pos) env) Q E s := by
  refine Subscript_ (wpAny_mono h (fun o s₁ h₁ => wpAny_mono h₁ (fun i s₂ h₂ => ?_) fun _ _ x => x) fun _ _ x => x)
  obtain ⟨hT, h₂⟩ := h₂
  unfold subscriptTail
  refine wpAny_bind ?_
  rw [getitemInPython_of_ne hT.not_modules]
  refine wpAny_bind (wpAny_specialOf hT hl ?_)
  have fin : wpAny (model prog w) A (subscripted slice false o i) (fun r s₃ => wpAny (model prog w) A (letTemporaryGo value o r >>= fun _ => pure r) Q E s₃) E s₂ := by
    rw [hs o i]
    exact wpAny_operating (wpAny_mono h₂ (fun r s₃ h₃ => wpAny_bind (wpAny_letTemporaryGo (wpAny_pure h₃))) fun _ _ x => x)
  first
    | exact wpAny_pure (wpAny_bind fin)
    | exact wpAny_bind (wpAny_pure (wpAny_bind fin))
    | exact wpAny_bind fin

theorem dict_typeIs {X : Cx} {pins : List (Addr × Obj)} {σ : St} {H : Hp} {s : Shared} {a : Addr} {y : V} {o : Option V} (I : Inv X pins σ H s) (g : DGet H a y o) : s.TypeIs (.ref a) "dict" := by
  rcases g with ⟨kvs, k, e, _, _⟩ | ⟨kvs, k, b, e, _, _, _⟩
  · obtain ⟨_, _, vs, _, dd⟩ := dk_rd I.hok e
    exact dd.typeIs
  · obtain ⟨_, _, xs, _, dd⟩ := dt_rd I.hok e
    exact dd.typeIs
/-- d[y] -/
def tDGet (td ty : TE) : TE := fun σ H Q => td σ H fun x H1 => ty σ H1 fun y H2 => ∃ a v, x = .ref a ∧ DGet H2 a y (some v) ∧ Q v H2
section
variable {X : Cx} {o i e value : Expr} {pos pos' tpos : Pos} {td ty tv : TE}
theorem pe_dget (hu : X.A.units + 1 < cLine) (ho : PE X o td) (hi : PE X i ty) (hs : NoSl i) : PE X (.Subscript o i pos) (tDGet td ty) := by
  intro pins s σ H Q I h
  refine subD_of PySem.F.slot_dict_getitem.lookup hs (thn (ho pins s σ H _ I h) fun u s1 ⟨x, H1, I1, rx, q1⟩ => thn (hi pins s1 σ H1 _ I1 q1) fun iv s2 ⟨y, H2, I2, ry, a, v, ex, g, q2⟩ => ?_)
  subst ex
  obtain rfl : u = Value.ref a := rx
  exact ⟨dict_typeIs I2 g, d_getItem hu I2 g ry fun w' s3 I3 rw' => ⟨v, H2, I3, rw', q2⟩⟩
end


theorem dk_empty {P : Program} {w : World} {H : Hp} (h : Heap) (hb : sysModules < h.objs.size) : ObjOk P w H (h.push { cls := .type "dict", data := .dict #[] }) h.objs.size (.dK []) :=
  ⟨Nat.zero_le _, beq_eq_false_iff_ne.mpr (Ne.symm (Nat.ne_of_lt hb)), [], .nil, Heap.DictOf.new h⟩
/-- {}, to be a dict of the kind that is wanted -/
def tDNewK : TE := fun _ H Q => ∀ p, H p = none → Q (.ref p) (upd H p (.dK []))
section
variable {X : Cx} {pos : Pos}
theorem pe_dnewK : PE X (.Dict [] [] pos) tDNewK := fun pins s σ H Q I h =>
  wpAny_Dict_empty ⟨.ref s.heap.objs.size, _, I.laid (a := s.heap.objs.size) (o := .dK []) (t' := s.toks) (fun _ _ q => Heap.get?_push_of_some _ q) (Nat.le_refl _) (dk_empty s.heap I.big), rfl, h _ (I.hok.fresh (Nat.le_refl _))⟩
end

section
variable {X : Cx} {pins : List (Addr × Obj)} {σ : St} {H : Hp} {s : Shared} {a : Addr} {y d : V} {u r : Value} {o : Option V} {A : Around} {E : Value → Shared → Prop}
end

section
variable {X : Cx} {o e f : Expr} {apos cpos : Pos} {td ty tx : TE}
end

section
variable {X : Cx} {pins : List (Addr × Obj)} {σ : St} {H : Hp} {s : Shared} {a : Addr} {kvs : List (Key × V)} {A : Around} {E : Value → Shared → Prop}
end


section
variable {X : Cx} {pins : List (Addr × Obj)} {σ : St} {H : Hp} {s : Shared} {a : Addr} {y : V} {u : Value} {A : Around} {E : Value → Shared → Prop}
end
end L2

namespace L2
open PySem PySem.Spec PyProof.Rows

section
variable {prog : Program} {w : World} {A : Around} {E : Value → Shared → Prop}
end

section
variable {X : Cx}
end
end L2

namespace L2
open PySem PySem.Spec PyProof.Rows

section
variable {X : Cx} {pins : List (Addr × Obj)} {σ : St} {H : Hp} {s : Shared} {h' : Heap}
/-- .. and one new object is laid -/
theorem Inv.turnedNew {t' : Nat} {ch : List Addr} {T : Addr} {ob : HO} (I : Inv X pins σ H s) (k : ∀ b o, b ∉ ch → s.heap.get? b = some o → h'.get? b = some o) (hf : ∀ b ∈ ch, FpOk X pins H b) (hT : s.heap.objs.size ≤ T)
    (new : ObjOk X.prog X.w (upd H T ob) h' T ob) : Inv X pins σ (upd H T ob) { s with heap := h', toks := t' } := by
  have hn : H T = none := I.hok.fresh hT
  have nit : ∀ b u, H b = some u → b ∉ ch := fun b u e z => by
    have q := (hf b z).1
    rw [q] at e; cases e
  refine I.step (g' := s.gens) (d' := s.drawn) (ch := ch) (fun b hb => ⟨(hf b hb).2.2.2.1, (hf b hb).2.1, (hf b hb).2.2.2.2.1, (hf b hb).2.2.2.2.2⟩) (fun b o _ _ hc e _ => k b o hc e) (fun b o _ _ hc e _ => ⟨o.slots, k b o hc e⟩)
    (fun b o _ e n => ?_) (fun b o hc e => ⟨o, k b o hc e⟩) (fun b xs e => ?_) (fun b o u e => ?_) (fun b ps e => ⟨#[], ?_⟩) (fun m hm => ?_) (fun b u e => ?_) I.bare
  · rw [upd_ne (Nat.ne_of_lt (Nat.lt_of_lt_of_le (Heap.lt_size e) hT))]; exact n
  · rw [upd_ne (ne_of_none e hn)]; exact e
  · rw [upd_ne (ne_of_none e hn)]; exact e
  · rw [upd_ne (ne_of_none e hn), e]; simp
  · obtain ⟨o, es, ep, ho, r⟩ := hm
    exact ⟨o, es, ep, k _ o (fun z => (hf _ z).2.1 rfl) ho, r⟩
  · by_cases hb : b = T
    · subst hb
      rw [upd_same] at e
      cases e
      exact new
    · rw [upd_ne hb] at e
      refine (I.hok b u e).stay (fun c v hc q => k c v ?_ q) (fun c q => by rw [upd_ne (ne_of_none q hn)]; exact q) fun c xs q => by rw [upd_ne (ne_of_none q hn)]; exact q
      rcases hc with z | z
      · rw [z]; exact nit b u e
      · exact nit c _ z

theorem Inv.lock {d : Addr} {u : HO} (I : Inv X pins σ H s) (h : H d = some u) (mu : Mut (some u)) : ∃ od, Inv X pins σ (upd H d (.frz od u)) s := by
  have x := I.hok d u h
  have ex : ∃ od, s.heap.get? d = some od := by
    cases u with
    | lst xs => obtain ⟨_, _, _, _, e⟩ := x; exact ⟨_, e⟩
    | dK kvs => obtain ⟨_, _, _, _, o, _, _, e, _⟩ := x; exact ⟨o, e⟩
    | dT kvs => obtain ⟨_, _, _, _, o, _, _, e, _⟩ := x; exact ⟨o, e⟩
    | dN kvs => obtain ⟨_, _, _, _, o, _, _, e, _⟩ := x; exact ⟨o, e⟩
    | set S n => obtain ⟨o, _, _, _, e, _⟩ := x; exact ⟨o, e⟩
    | ins C dx fs => obtain ⟨_, _, _, e, _⟩ := x; exact ⟨_, e⟩
    | ext φ => obtain ⟨_, ⟨_, e⟩, _⟩ := x; exact ⟨_, e⟩
    | _ => exact False.elim mu
  obtain ⟨od, e⟩ := ex
  have new : ObjOk X.prog X.w (upd H d (.frz od u)) s.heap d (.frz od u) := by
    refine ⟨e, x.stay (fun b v _ q => q) (fun b q => ?_) fun b xs q => ?_⟩
    · rw [upd_ne (fun z => by rw [z, h] at q; cases q; exact mu)]; exact q
    · rw [upd_ne (fun z => by rw [z, h] at q; cases q; exact mu)]; exact q
  exact ⟨od, I.write (x := d) (e := d) (t' := s.toks) (h' := s.heap) (by rw [h]; exact mu) (.inl rfl) (fun b v _ q => q) ⟨od, e⟩ new⟩
theorem Inv.nofrz {d : Addr} {u : HO} (I : Inv X pins σ H s) (h : H d = some u) (mu : Mut (some u)) : ∀ o' u', X.H_0 d ≠ some (.frz o' u') := fun o' u' e => by
  have q := I.base.frzs d o' u' e
  rw [h] at q
  cases q
  exact mu
theorem Inv.unlock {d : Addr} {od : Obj} {u : HO} (I : Inv X pins σ H s) (h : H d = some (.frz od u)) (hn : ∀ o' u', X.H_0 d ≠ some (.frz o' u')) : Inv X pins σ (upd H d u) s := by
  have neH : ∀ b o, H b = some o → (∀ o' u', o ≠ .frz o' u') → b ≠ d := fun b o e hne z => by
    rw [z, h] at e
    cases e
    exact hne _ _ rfl
  have neN : ∀ b, H b = none → b ≠ d := fun b e z => by rw [z, h] at e; cases e
  refine ⟨I.ok, I.os, I.bare, ⟨I.base.keep, I.base.slot, fun b o e n hx => ?_, I.base.there, fun b xs e => ?_, fun b o x e => ?_, fun b ps e => ?_⟩, I.loc, I.cell, ?_, fun x c e => ?_, fun p hp => ?_, fun b o e => ?_, I.len⟩
  · rw [upd_ne (neN b (I.base.free b o e n hx))]; exact I.base.free b o e n hx
  · have q := I.base.tups b xs e
    rw [upd_ne (neH b _ q (fun _ _ z => nomatch z))]; exact q
  · have q := I.base.frzs b o x e
    rw [upd_ne (fun z => by rw [z] at e; exact hn _ _ e)]; exact q
  · obtain ⟨m, q⟩ := I.base.tbls b ps e
    exact ⟨m, by rw [upd_ne (neH b _ q (fun _ _ z => nomatch z))]; exact q⟩
  · rw [upd_ne (neN _ I.free)]; exact I.free
  · rw [upd_ne (neN c (I.freeC x c e))]; exact I.freeC x c e
  · obtain ⟨e, n, r⟩ := I.pin p hp
    exact ⟨e, by rw [upd_ne (neN _ n)]; exact n, r⟩
  · by_cases hb : b = d
    · rw [hb, upd_same] at e
      cases e
      rw [hb]
      obtain ⟨_, x⟩ := I.hok d _ h
      exact x.stay (fun c v _ q => q) (fun c q => by rw [upd_ne (neH c _ q (fun _ _ z => nomatch z))]; exact q) fun c xs q => by rw [upd_ne (neH c _ q (fun _ _ z => nomatch z))]; exact q
    · rw [upd_ne hb] at e
      exact (I.hok b o e).stay (fun c v _ q => q) (fun c q => by rw [upd_ne (neH c _ q (fun _ _ z => nomatch z))]; exact q) fun c xs q => by rw [upd_ne (neH c _ q (fun _ _ z => nomatch z))]; exact q
end
/-- the statement runs while the thing at d is locked (read, not written); d and what stands there are the reading's choice -/
def tLock (t : TS) : TS := fun D σ H => ∃ d u, H d = some u ∧ Mut (some u) ∧ ∀ od, t ⟨fun σ' H' => H' d = some (.frz od u) ∧ D.nx σ' (upd H' d u), fun v H' => H' d = some (.frz od u) ∧ D.rt v (upd H' d u), fun σ' H' => H' d = some (.frz od u) ∧ D.bk σ' (upd H' d u), fun σ' H' => H' d = some (.frz od u) ∧ D.ct σ' (upd H' d u)⟩ σ (upd H d (.frz od u))
def tLockE (t : TE) : TE := fun σ H Q => ∃ d u, H d = some u ∧ Mut (some u) ∧ ∀ od, t σ (upd H d (.frz od u)) fun v H' => H' d = some (.frz od u) ∧ Q v (upd H' d u)
section
variable {X : Cx}
theorem ps_lock {st : Stmt} {t : TS} (h : PS X st t) : PS X st (tLock t) := by
  intro pins s σ H D I hw
  obtain ⟨d, u, hd, mu, hw⟩ := hw
  obtain ⟨od, I1⟩ := I.lock hd mu
  refine thn (h pins s σ _ _ I1 (hw od)) fun f s1 q => ?_
  cases f with
  | next => obtain ⟨σ', H', I2, e, q⟩ := q; exact ⟨σ', _, I2.unlock e (I.nofrz hd mu), q⟩
  | brk => obtain ⟨σ', H', I2, e, q⟩ := q; exact ⟨σ', _, I2.unlock e (I.nofrz hd mu), q⟩
  | cont => obtain ⟨σ', H', I2, e, q⟩ := q; exact ⟨σ', _, I2.unlock e (I.nofrz hd mu), q⟩
  | ret v => obtain ⟨x, σ', H', I2, r, e, q⟩ := q; exact ⟨x, σ', _, I2.unlock e (I.nofrz hd mu), r, q⟩
theorem pe_lock {e : Expr} {t : TE} (h : PE X e t) : PE X e (tLockE t) := by
  intro pins s σ H Q I hw
  obtain ⟨d, u, hd, mu, hw⟩ := hw
  obtain ⟨od, I1⟩ := I.lock hd mu
  refine thn (h pins s σ _ _ I1 (hw od)) fun v s1 ⟨x, H1, I2, r, e2, q⟩ => ?_
  exact ⟨x, _, I2.unlock e2 (I.nofrz hd mu), r, q⟩

theorem pi_one {tg : Expr} {pins : List (Addr × Obj)} {σ : St} {H : Hp} {s : Shared} {R : It → Hp → Prop} {J : It} {tn : Nat → Heap → Prop} {tk : Nat} (I : Inv X pins σ H s) (o : Obj)
    (T : Turn X.prog X.w X.K tg J [s.heap.objs.size] s.heap.objs.size tn) (st : tn 0 (s.heap.push o)) (q : R J H) : PIE X pins σ tg R (.ref s.heap.objs.size) { s with heap := s.heap.push o, toks := tk } := by
  refine ⟨s.heap.objs.size, [s.heap.objs.size], tn, J, H, rfl, I.kept fun b ob e => Heap.get?_push_of_some _ e, T, st, fun b hb => ?_, q⟩
  have e : b = s.heap.objs.size := by simpa using hb
  subst e
  exact I.fpOk (Nat.le_refl _) (I.hok.fresh (Nat.le_refl _))
end

/-- lo, lo + c, .. (n of them) -/
def Itc (lo c : Int) (n : Nat) : It := ⟨fun i _ => i < n, fun i H x H' => H' = H ∧ x = .int (lo + (i : Nat) * c), fun i _ => n ≤ i⟩
theorem turn_rangeC {P : Program} {w : World} {K : PySem.W.Frag} {tg : Expr} (it : Addr) (lo c : Int) (n : Nat) : Turn P w K tg (Itc lo c n) [it] it (fun i h => IsRangeIter h it (lo + (i : Nat) * c) ((n : Int) - (i : Nat)) c) where
  mem := by simp
  obj := fun i h st b hb => by
    have e : b = it := by simpa using hb
    subst e
    exact ⟨_, st, fun v z => nomatch z⟩
  keep := fun i h h' st k => k it (by simp) _ st
  item := by
    intro X hP hw hK hc i pins s σ H E I hf st hg
    subst hP hw hK
    obtain ⟨f0, f1, f2, f3, f4, f5⟩ := hf it (by simp)
    have W := Walks.range (prog := X.prog) (w := X.w) (I.ok.hd hc) it lo c n
    refine W.item i s _ _ hg st fun v h' tk hv st' kk => ?_
    obtain ⟨t, rfl⟩ := hv
    have I1 : Inv X pins σ H { s with heap := h', toks := tk } := I.turned (fun b o hb e => kk b o (by simpa using hb) e) f0 f1 f3 f4 f5
    exact ⟨_, rfl, go_of (s := { s with heap := h', toks := tk }) (n := "range_iterator") st' rfl rfl (by decide) ⟨.int (lo + (i : Nat) * c), H, I1, ⟨t, rfl⟩, ⟨rfl, rfl⟩, st', fun b hb => (hf b hb).1⟩⟩
  done := by
    intro X hP hw hK hc i pins s σ H E I hf st hg
    subst hP hw hK
    obtain ⟨f0, f1, f2, f3, f4, f5⟩ := hf it (by simp)
    exact wpAny_pyNext_range_end (I.ok.hd hc) st (by have : n ≤ i := hg; omega) fun h' eb => ⟨rfl, I.turned (t' := s.toks) (fun b o hb e => eb b o hb e) f0 f1 f3 f4 f5⟩
  self := fun A i s Q E st h => wpAny_pyIter_rangeiter st h
/-- range(i, j, c): small bounds, n items -/
def RgC (i j c : Int) (n : Nat) : Prop := c ≠ 0 ∧ c.natAbs < 1073741824 ∧ Builtin.Range.small i j c = true ∧ Builtin.Range.rangeSize i j c = n
def iRng3 (ta : TA) : TI := fun σ H R => ta σ H fun vs H1 => ∃ (i j c : Int) (n : Nat), vs = [.int i, .int j, .int c] ∧ RgC i j c n ∧ R (Itc i c n) H1
section
variable {X : Cx} {tg : Expr}
theorem pi_range3 {a b c : Expr} {ta : TA} {p pos : Pos} (hg : Gl X "range") (hm : X.mg "range" = none) (ha : PA X [a, b, c] ta)
    (hs : starEach [a, b, c] X.env = (false, eval a X.env) :: starEach [b, c] X.env := by rfl) (hpl : (backTo pos (starEach [b, c] X.env)).any (·.1) = false := by rfl) :
    PI X tg (.Call (.Name "range" p) [a, b, c] [] pos) (iRng3 ta) := by
  intro pins s σ H R I h
  refine Call_ (ld_blt I hg hm boot_range (PyProof.Rows.callWith_type1 (thn (ha pos pins s σ H _ I h) fun us s1 ⟨vs, H1, I1, r1, q1⟩ => ?_) hs hpl))
  obtain ⟨i, j, k, n, e, ⟨c0, c1, c2, c3⟩, q⟩ := q1
  subst e
  cases r1 with
  | cons r rr =>
    cases rr with
    | cons r' rr =>
      cases rr with
      | cons r'' rr =>
        cases rr
        obtain ⟨t, rfl⟩ := r
        obtain ⟨t', rfl⟩ := r'
        obtain ⟨t'', rfl⟩ := r''
        refine call_range_3 c0 ?_ (.inl (PyProof.noPylong_small c1))
        refine wpAny_pyIter_range (IsRange.new ..) c2 ?_
        have I2 : Inv X pins σ H1 { s1 with heap := s1.heap.push { cls := .type "range", data := .fields #[.int i t, .int j t', .int k t''] } } := I1.kept (t' := s1.toks) fun b o e => Heap.get?_push_of_some _ e
        refine pi_one (tk := s1.toks) I2 _ (turn_rangeC _ i k n) ?_ q
        have e1 : i + ((0 : Nat) : Int) * k = i := by simp
        have e2 : (n : Int) - ((0 : Nat) : Int) = Builtin.Range.rangeSize i j k := by rw [c3]; simp
        show IsRangeIter _ _ (i + ((0 : Nat) : Int) * k) ((n : Int) - ((0 : Nat) : Int)) k
        rw [e1, e2]
        exact Heap.get?_push_size _ rfl
end
/-- the turns of a step range, for the for loop -/
theorem for_rangeC {lo c : Int} {n : Nat} {g : TG} {tb : TS} {D : Ends} {σ : St} {H : Hp} (Pv : Nat → St → Hp → Prop) (h0 : Pv 0 σ H)
    (hs : ∀ i σ H, i < n → Pv i σ H → g (.int (lo + (i : Nat) * c)) σ H fun σ2 H2 => tb { D with nx := Pv (i + 1), ct := Pv (i + 1), bk := D.nx } σ2 H2) (hd : ∀ σ H, Pv n σ H → D.nx σ H) :
    ∃ W : Nat → Nat → St → Hp → Prop, (∃ m, W 0 m σ H) ∧ ∀ i m σ H, W i m σ H →
      ((Itc lo c n).stop i H ∧ D.nx σ H) ∨ ((Itc lo c n).go i H ∧ ∃ N : St → Hp → Prop, (∀ σ' H', N σ' H' → ∃ m', m' < m ∧ W (i + 1) m' σ' H') ∧ ∀ x H', (Itc lo c n).yld i H x H' → g x σ H' fun σ2 H2 => tb { D with nx := N, ct := N, bk := D.nx } σ2 H2) := by
  refine ⟨fun i m σ H => m = n - i ∧ i ≤ n ∧ Pv i σ H, ⟨n, by simp, Nat.zero_le _, h0⟩, ?_⟩
  rintro i m σ H ⟨rfl, hi, p⟩
  by_cases hlt : i < n
  · refine .inr ⟨hlt, Pv (i + 1), fun σ' H' p' => ⟨n - (i + 1), by omega, rfl, hlt, p'⟩, fun x H' y => ?_⟩
    obtain ⟨e, y⟩ := y
    subst e y
    exact hs i σ _ hlt p
  · have e : i = n := by omega
    subst e
    exact .inl ⟨Nat.le_refl _, hd σ H p⟩

section
variable {X : Cx} {tg : Expr}
end

section
variable {prog : Program} {w : World} {A : Around} {E : Value → Shared → Prop} {s : Shared}
theorem iter_keys {d : Addr} {o : Obj} {es : Array DictEntry} {ep : Nat} {Q : Value → Shared → Prop} (hd : (d == sysModules) = false) (ho : s.heap.get? d = some o) (hc : o.ExactDict) (hdat : o.data = .dict es ep)
    (hQ : Q (.ref s.heap.objs.size) { s with heap := s.heap.push { cls := .type "dict_keyiterator", data := .fields #[.ref d, .int 0 0, .int es.size 0, .int ep 0] } }) :
    wpAny (model prog w) A (pyIter (.ref d)) Q E s := by
  have hT : s.TypeIs (.ref d) "dict" := ⟨o, ho, hc.1⟩
  refine wpAny_pyIter_slot hT F.slot_dict_iter (wpAny_call_entry F.slot_dict_iter hT F.entry_dict_iter ?_ (F.args_dict_iter_1 _))
  unfold Builtin.«dict.__iter__»
  refine wpAny_bind ?_
  unfold Builtin.Dict.dictSlotNone
  refine wpAny_bind (wpAny_notOrdered_dict hT ?_)
  show wpAny _ _ (pure (Value.ref d)) _ _ s
  refine wpAny_pure ?_
  show wpAny _ _ (Builtin.Dict.showsAll d >>= _) _ _ s
  unfold Builtin.Dict.showsAll
  rw [if_neg (by rw [hd]; exact Bool.false_ne_true)]
  refine wpAny_bind (wpAny_pure ?_)
  refine wpAny_bind (wpAny_dictEntries ho hdat ?_)
  refine wpAny_bind (wpAny_dictEpoch ho hdat ?_)
  refine wpAny_bind (wpAny_newObj_type (wpAny_pure ⟨_, rfl, "dict_keyiterator", _, ⟨_, Heap.get?_push_size _ rfl, rfl⟩, F.slot_dict_keyiterator_next.lookup, ?_⟩))
  simpa [rawInt] using hQ
theorem next_key_item {it d : Addr} {i n ep : Nat} {od : Obj} {es : Array DictEntry} {en : DictEntry} {Q : Option Value → Shared → Prop} (hit : s.heap.IsKeyIter it d i n ep) (hod : s.heap.get? d = some od) (hdd : od.data = .dict es ep)
    (hsz : es.size = n) (hx : es[i]? = some en) (hQ : ∀ h', h'.IsKeyIter it d (i + 1) n ep → Heap.SameBut it s.heap h' → Q (some en.key) { s with heap := h' }) : wpAny (model prog w) A (pyNext (.ref it)) Q E s := by
  obtain ⟨o, ho, hc, hd⟩ := id hit
  unfold pyNext
  refine wpAny_bind (wpAny_attempt (wpAny_callSpecial?_slot (name := Str.ofString "__next__") hit.typeIs F.slot_dict_keyiterator_next
    (wpAny_call_entry F.slot_dict_keyiterator_next hit.typeIs F.entry_dict_keyiterator_next ?_ (F.args_dict_keyiterator_next_1 _))))
  refine wpAny_bind (wpAny_pure ?_)
  refine wpAny_bind ?_
  refine wpAny_bind ?_
  first | refine wpAny_bind (wpAny_typeNameOfWhole_keyiter hit.typeIs (wpAny_pure ?_)) | refine wpAny_bind (wpAny_typeNameOf_keyiter hit.typeIs (wpAny_pure ?_))
  refine wpAny_bind (wpAny_fieldsOf ho hd ?_)
  have hown : Builtin.Dict_items.ownsTuple "dict_keyiterator" = false := by decide
  simp only [hown, Bool.false_eq_true, if_false]
  show wpAny _ _ (if (Value.ref d == Value.none) = true then _ else _) _ _ s
  rw [if_neg (show ¬ ((Value.ref d == Value.none) = true) from Bool.false_ne_true)]
  refine wpAny_bind (wpAny_pure ?_)
  refine wpAny_bind (wpAny_dictEntries hod hdd ?_)
  rw [if_neg (by rw [hsz]; simp)]
  refine wpAny_bind (wpAny_pure ?_)
  refine wpAny_bind (wpAny_dictEpoch hod hdd ?_)
  rw [if_neg (by simp)]
  refine wpAny_pure ?_
  obtain ⟨hlt', hen⟩ := Array.getElem?_eq_some_iff.mp hx
  simp only [show ¬ ((i : Int) < 0) from by omega, if_false, Int.toNat_natCast, Array.getElem?_eq_getElem hlt']
  refine wpAny_bind ?_
  first | refine wpAny_bind (wpAny_typeNameOfWhole_keyiter hit.typeIs (wpAny_pure ?_)) | refine wpAny_bind (wpAny_typeNameOf_keyiter hit.typeIs (wpAny_pure ?_))
  refine wpAny_bind (wpAny_isOneOf_keyiter hit.typeIs ?_)
  show wpAny _ _ (setField (.ref it) 1 (rawInt ((i : Int) + 1)) >>= _) _ _ s
  refine wpAny_bind (wpAny_setField ho hd (by simp) ?_)
  have hit' : (s.heap.update it (Obj.mapFields (·.setIfInBounds 1 (rawInt ((i : Int) + 1))))).IsKeyIter it d (i + 1) n ep :=
    ⟨_, Heap.get?_update_self _ ho (Obj.isFreed_of_fields (Obj.data_mapFields hd _)), (Obj.cls_mapFields ..).trans hc, by rw [Obj.data_mapFields hd]; simp [rawInt]⟩
  refine wpAny_bind (wpAny_holding ?_)
  refine wpAny_bind (wpAny_isOneOf_keyiter (s := { s with heap := s.heap.update it (Obj.mapFields (·.setIfInBounds 1 (rawInt ((i : Int) + 1)))) }) hit'.typeIs ?_)
  show wpAny _ _ (pure es[i].key) _ _ _
  rw [hen]
  exact wpAny_pure (wpAny_pure ⟨_, rfl, wpAny_pure (hQ _ hit' (Heap.SameBut.update ..))⟩)
theorem next_key_end {it d : Addr} {i n ep : Nat} {od : Obj} {es : Array DictEntry} {Q : Option Value → Shared → Prop} (hh : A.handled = none) (hit : s.heap.IsKeyIter it d i n ep) (hod : s.heap.get? d = some od) (hdd : od.data = .dict es ep)
    (hsz : es.size = n) (hge : n ≤ i) (hQ : ∀ h', Heap.ExtBut it s.heap h' → Q none { s with heap := h' }) : wpAny (model prog w) A (pyNext (.ref it)) Q E s := by
  obtain ⟨o, ho, hc, hd⟩ := id hit
  unfold pyNext
  refine wpAny_bind (wpAny_attempt (wpAny_callSpecial?_slot (name := Str.ofString "__next__") hit.typeIs F.slot_dict_keyiterator_next
    (wpAny_call_entry F.slot_dict_keyiterator_next hit.typeIs F.entry_dict_keyiterator_next ?_ (F.args_dict_keyiterator_next_1 _))))
  refine wpAny_bind (wpAny_pure ?_)
  refine wpAny_bind ?_
  refine wpAny_bind ?_
  first | refine wpAny_bind (wpAny_typeNameOfWhole_keyiter hit.typeIs (wpAny_pure ?_)) | refine wpAny_bind (wpAny_typeNameOf_keyiter hit.typeIs (wpAny_pure ?_))
  refine wpAny_bind (wpAny_fieldsOf ho hd ?_)
  have hown : Builtin.Dict_items.ownsTuple "dict_keyiterator" = false := by decide
  simp only [hown, Bool.false_eq_true, if_false]
  show wpAny _ _ (if (Value.ref d == Value.none) = true then _ else _) _ _ s
  rw [if_neg (show ¬ ((Value.ref d == Value.none) = true) from Bool.false_ne_true)]
  refine wpAny_bind (wpAny_pure ?_)
  refine wpAny_bind (wpAny_dictEntries hod hdd ?_)
  rw [if_neg (by rw [hsz]; simp)]
  refine wpAny_bind (wpAny_pure ?_)
  refine wpAny_bind (wpAny_dictEpoch hod hdd ?_)
  rw [if_neg (by simp)]
  refine wpAny_pure ?_
  have hge' : es.size ≤ i := by rw [hsz]; exact hge
  simp only [show ¬ ((i : Int) < 0) from by omega, if_false, Int.toNat_natCast, Array.getElem?_eq_none hge']
  refine wpAny_bind ?_
  first | refine wpAny_bind (wpAny_typeNameOfWhole_keyiter hit.typeIs (wpAny_pure ?_)) | refine wpAny_bind (wpAny_typeNameOf_keyiter hit.typeIs (wpAny_pure ?_))
  show wpAny _ _ (setField (.ref it) 0 .none >>= _) _ _ s
  refine wpAny_bind (wpAny_setField ho hd (by simp) ?_)
  show wpAny _ _ (newExc (.type "StopIteration") [] >>= _) _ _ _
  refine wpAny_bind ?_
  simp only [newExc, newTuple]
  refine wpAny_bind (wpAny_newObj_type ?_ (by size_fits))
  refine wpAny_bind (m := firstArgMember _ _) (wpAny_of_eq (a := Value.none) (by first | rfl | (simp only [firstArgMember]; rfl)) ?_)
  refine wpAny_newObj_type ?_ (by size_fits)
  simp only [raiseNew]
  refine wpAny_bind (wpAny_handled ?_)
  rw [show A.in1.handled = none from hh]
  refine wpAny_bind (wpAny_pure (wpAny_throw ?_))
  refine wpAny_bind (wpAny_isInstance (T := "StopIteration") (b := true) ⟨_, Heap.get?_push_size _ rfl, rfl⟩ isSubtype_stop ?_)
  exact wpAny_pure (hQ _ (((Heap.SameBut.update ..).extBut.push _).push _))
end

theorem paired_get {α β : Type} {G : α → β → Prop} {l₁ : List α} {l₂ : List β} (h : Paired G l₁ l₂) : ∀ {i : Nat} {a : α}, l₁[i]? = some a → ∃ b, l₂[i]? = some b ∧ G a b := by
  induction h with
  | nil => intro i a e; simp at e
  | @cons a b l₁ l₂ r t ih =>
    intro i a' e
    cases i with
    | zero =>
      simp only [List.getElem?_cons_zero, Option.some.injEq] at e
      subst e
      exact ⟨b, rfl, r⟩
    | succ j =>
      simp only [List.getElem?_cons_succ] at e ⊢
      exact ih e
section
variable {X : Cx} {pins : List (Addr × Obj)} {σ : St} {H : Hp} {s : Shared} {d : Addr} {o : Obj}
end

theorem dict_ep {o : Obj} {es es' : Array DictEntry} {ep ep' : Nat} (h : o.data = .dict es ep) (h' : o.data = .dict es' ep') : es' = es ∧ ep' = ep := by
  rw [h] at h'
  cases h'
  exact ⟨rfl, rfl⟩
section
variable {P : Program} {w : World} {K : PySem.W.Frag} {tg : Expr} {d : Addr} {o : Obj} {es : Array DictEntry} {ep : Nat}
end

section
variable {X : Cx} {tg e : Expr} {td : TE} {apos cpos : Pos}
end

/-- the list at a as it stands at each turn, each item in a new pair -/
def Ite (K : PySem.W.Frag) (a : Addr) : It :=
  ⟨fun i H => ∃ (xs : List V) (x : V), SqL K H a xs ∧ xs[i]? = some x, fun i H v H' => ∃ T x, v = .ref T ∧ H T = none ∧ H' = upd H T (.tup [.int (i : Nat), x]) ∧ ∀ xs, SqL K H a xs → xs[i]? = some x, fun i H => ∃ xs : List V, SqL K H a xs ∧ xs.length ≤ i⟩
theorem turn_enum {P : Program} {w : World} {K : PySem.W.Frag} {elts : List Expr} {kk : Nat} {tpos : Pos} (a e it : Addr) :
    Turn P w K (.Tuple elts kk tpos) (Ite K a) [e, it] e (fun i h => (∃ old, IsEnum h e it ((i : Nat) : Int) old) ∧ h.IsListIter it a i ∧ e ≠ it) where
  mem := by simp
  obj := fun i h st b hb => by
    obtain ⟨⟨old, he⟩, ⟨o, ho, hc, hd⟩, _⟩ := st
    have e' : b = e ∨ b = it := by simpa using hb
    rcases e' with z | z
    · rw [z]; exact ⟨_, he, fun v q => nomatch q⟩
    · rw [z]; exact ⟨o, ho, fun v q => by rw [hd] at q; cases q⟩
  keep := fun i h h' st k => let ⟨⟨old, he⟩, hi, hne⟩ := st; ⟨⟨old, k e (by simp) _ he⟩, hi.at fun o q => k it (by simp) o q, hne⟩
  item := by
    intro X hP hw hK hc i pins s σ H E I hf st hg
    subst hP hw hK
    obtain ⟨⟨old, he⟩, hit, hne⟩ := st
    obtain ⟨xs, x, hq, hx⟩ := hg
    obtain ⟨its, rv, p, hz⟩ := I.list hq
    obtain ⟨u, hu, ru⟩ := rv.get hx
    have hel : e < s.heap.objs.size := Heap.lt_size he
    have hil : it < s.heap.objs.size := by obtain ⟨_, q, _⟩ := hit; exact Heap.lt_size q
    refine wpAny_pyNext_enum_item he hit p.isList (x := u) (by simpa using hu) hne fun h' ho hit' hT hsz hk => ?_
    refine ⟨_, rfl, wpAny_letOwnedTupleGo_enum (s := { s with heap := h', toks := s.toks + 1 }) ho fun h'' he' sb => ?_⟩
    have hT2 : h''.get? s.heap.objs.size = some { cls := .type "tuple", data := .seq #[.int i s.toks, u] } := (sb.2 _ (Nat.ne_of_gt hel)).trans hT
    have new : ObjOk X.prog X.w (upd H s.heap.objs.size (.tup [.int (i : Nat), x])) h'' s.heap.objs.size (.tup [.int (i : Nat), x]) :=
      ⟨by show 2 ≤ sizeLine; decide, [.int i s.toks, u], .cons ⟨_, rfl⟩ (.cons ru .nil), ⟨_, hT2, rfl, _, rfl⟩⟩
    have I1 : Inv X pins σ (upd H s.heap.objs.size (.tup [.int (i : Nat), x])) { s with heap := h'', toks := s.toks + 1 } :=
      I.turnedNew (ch := [e, it]) (fun b ob hb q => (sb.2 b (fun z => hb (by simp [z]))).trans (hk b ob (fun z => hb (by simp [z])) (fun z => hb (by simp [z])) q)) hf (Nat.le_refl _) new
    refine ⟨.ref s.heap.objs.size, _, I1, rfl, ⟨_, x, rfl, I.hok.fresh (Nat.le_refl _), rfl, fun ys hy => by rw [I.list_inj hy hq]; exact hx⟩, ⟨⟨u, ?_⟩, hit'.at fun o q => (sb.2 it (Ne.symm hne)).trans q, hne⟩, fun b hb => ?_⟩
    · have e1 : ((i + 1 : Nat) : Int) = (i : Int) + 1 := by omega
      rw [e1]; exact he'
    · have hb' : b < s.heap.objs.size := by
        have e' : b = e ∨ b = it := by simpa using hb
        rcases e' with z | z
        · rw [z]; exact hel
        · rw [z]; exact hil
      rw [upd_ne (Nat.ne_of_lt hb')]
      exact (hf b hb).1
  done := by
    intro X hP hw hK hc i pins s σ H E I hf st hg
    subst hP hw hK
    obtain ⟨⟨old, he⟩, hit, hne⟩ := st
    obtain ⟨xs, hq, hx⟩ := hg
    obtain ⟨its, rv, p, hz⟩ := I.list hq
    obtain ⟨f0, f1, f2, f3, f4, f5⟩ := hf it (by simp)
    have hl := rv.length
    exact wpAny_pyNext_enum_end (I.ok.hd hc) he hit p.isList (by simp; omega) fun h' eb => ⟨rfl, I.turned (t' := s.toks) (fun b o hb q => eb b o hb q) f0 f1 f3 f4 f5⟩
  self := fun A i s Q E st h => let ⟨⟨_, he⟩, _⟩ := st; wpAny_pyIter_enum he h
def iEnum (K : PySem.W.Frag) (ta : TA) : TI := fun σ H R => ta σ H fun vs H1 => ∃ a xs, vs = [.ref a] ∧ SqL K H1 a xs ∧ R (Ite K a) H1
theorem pi_enum {X : Cx} {e : Expr} {ta : TA} {p pos tpos : Pos} {elts : List Expr} {kk : Nat} (hg : Gl X "enumerate") (hm : X.mg "enumerate" = none) (ha : PA X [e] ta) (hs : starEach [e] X.env = [(false, eval e X.env)] := by rfl) :
    PI X (.Tuple elts kk tpos) (.Call (.Name "enumerate" p) [e] [] pos) (iEnum X.K ta) := by
  intro pins s σ H R I h
  refine Call_ (ld_blt I hg hm boot_enumerate (PyProof.Rows.callWith_type1 (thn (ha pos pins s σ H _ I h) fun us s1 ⟨vs, H1, I1, r1, q1⟩ => ?_) hs rfl))
  obtain ⟨a, xs, ex, hq, q⟩ := q1
  subst ex
  cases r1 with
  | cons r rr =>
    cases rr
    cases r
    obtain ⟨its, rv, p', hz⟩ := I1.list hq
    refine call_enumerate_list p'.isList fun h' he hit hsz hk => wpAny_pyIter_enum he ?_
    have I2 : Inv X pins σ H1 { s1 with heap := h' } := I1.kept (t' := s1.toks) hk
    refine ⟨s1.heap.objs.size + 1, [s1.heap.objs.size + 1, s1.heap.objs.size], _, _, H1, rfl, I2, turn_enum a (s1.heap.objs.size + 1) s1.heap.objs.size, ⟨⟨.none, he⟩, hit, Nat.succ_ne_self _⟩, fun b hb => ?_, q⟩
    have e' : b = s1.heap.objs.size + 1 ∨ b = s1.heap.objs.size := by simpa using hb
    have hle : s1.heap.objs.size ≤ b := by
      rcases e' with z | z
      · rw [z]; exact Nat.le_add_right _ _
      · rw [z]; exact Nat.le_refl _
    exact I1.fpOk hle (I1.hok.fresh hle)
end L2

section 
namespace Bits
open PySem PyProof.Rows

end Bits
end 

section 
namespace TL
open PySem PySem.Builtin PySem.Builtin.Str PySem.StrLaws

end TL
end 

namespace L2
open PySem PySem.Spec PyProof.Rows

section
variable {X : Cx} {pins : List (Addr × Obj)} {σ : St} {H : Hp} {s : Shared} {Q : VK}
end

section
variable {X : Cx}

end

section
variable {X : Cx} {o e : Expr} {to te : TE}
end
end L2

namespace L2
open PySem PySem.Spec PyProof.Rows

section
variable {X : Cx}
end

end L2

namespace Att
open PySem PySem.W PySem.Calls PyProof.Rows

section
variable {prog : Program} {w : World} {A : Around} {E : Value → Shared → Prop} {s : Shared} {K : Frag}

end
end Att

namespace L2
open PySem PySem.Spec PyProof.Rows

end L2

namespace L2
open PySem PySem.Spec PyProof.Rows

end L2

/- THE LAST THEOREM (shape; LID, My.* are yours):
   My.Adr: a structure of the addresses that your layer names (classes, functions); My.Txt K t: a structure (Prop) of the equations over K;
   My.txt_mk : {K} {implicit addresses ..} (e1 : nsIn K mainGlobals "law" = some (some (.ref f))) (e2 : K.lookup f = some ⟨oc, od, .func (fnOf "law" "law" params body scope dV kV doc pm an cdv ct), sl⟩) (e3 : codeIn K cdv "law" = true) .. : ∃ t, My.Txt K t

set_option maxRecDepth 100000 in
set_option maxHeartbeats 0 in
theorem PySem.Challenge.cw_LID_holds : PySem.Challenge.rw_LID.Holds := by
  w_on; o_law; k_head; (case hw => w_witness2)
  k_fill
  refine L2.walk_of (l := PySem.Challenge.rw_LID) (n := 63) (k := 40) (x := "script") (CX := fun w => ..) (sp := fun _ => My.sp_law) rfl (by decide) rfl ⟨rfl, by decide, by decide⟩ (fun w h Y => PySem.W.kIn_of Y) ?F ?S ?C
  case F =>
    intro w mg fa h KX G hmg
    have T : ∃ t, My.Txt (L2.KOf KX) t := by
      dsimp only [L2.KOf]                          -- K must stand as «<heap const> w.params» for k_is
      refine' My.txt_mk ?e1 ?e2 ?e3 ..
      (case e1 => PySem.W.k_is)                    -- in the order: a name -> its address -> its object -> its parts
      (case e2 => PySem.W.k_is)
      ..
    obtain ⟨t, T⟩ := T
    have e0 := hmg.symm.trans (PySem.W.mg_of KX G T.law)
    cases e0                                       -- fa is the law's own address
    exact ⟨_, fun s u => .of_eq rfl, fun base kb nb => My.law_fn T kb nb⟩     -- if «.of_eq rfl» comes too early: refine' ⟨_, ?b, fun base kb nb => My.law_fn T kb nb⟩; exact fun s u => .of_eq rfl
  case S => exact fun w H a ns hl hO hS => ..
  case C => exact ..
(the tactic k_is has no namespace: write k_is) -/

namespace L2
open PySem PySem.Spec PyProof.Rows

def defArgs (s : Stmt) : Arguments := match s with
  | .FunctionDef _ a _ _ _ _ _ _ _ _ => a
  | _ => { posonlyargs := [], args := [], vararg := none, kwonlyargs := [], kw_defaults := [], kwarg := none, defaults := [] }
def defBody (s : Stmt) : List Stmt := match s with
  | .FunctionDef _ _ b _ _ _ _ _ _ _ => b
  | _ => []
def defScope (s : Stmt) : Scope := match s with
  | .FunctionDef _ _ _ _ _ _ sc _ _ _ => sc
  | _ => { kind := .function, names := [], isGenerator := false, isCoroutine := false }

abbrev CX0 : CXT := fun _ _ _ _ _ _ => False
abbrev E0 : XK := fun _ _ _ => False
theorem pass0 {X : Cx} : Passes CX0 X E0 := fun _ _ _ _ _ _ _ h => h.elim

structure Fun (K : PySem.W.Frag) (x qual : Str) (st : Stmt) (f : Addr) (fd : FuncData) : Prop where
  ex : ∃ (oc : Value) (od : Option Addr) (kV doc pm : Value) (an : Option Addr) (cdv ct : Value) (osl : Array (Option Value)),
    fd = PySem.W.fnOf x qual (defArgs st) (defBody st) (defScope st) .none kV doc pm an cdv ct ∧ K.lookup f = some ⟨oc, od, .func fd, osl⟩ ∧ PySem.W.codeIn K cdv qual = true
  kp : PySem.W.keepIn K (.ref f) = true
section
variable {P : Program} {w : World} {K : PySem.W.Frag} {mg : Str → Option Value} {base : Heap}
/-- THE RULE for a def: its body as a term of rules, and the reading of that term -/
theorem Fun.ok {x qual : Str} {st : Stmt} {f : Addr} {fd : FuncData} {N ps : List Str} {k : Nat} {sp : Sp} (F : Fun K x qual st f fd) (S : FnScope N ps (defScope st)) (len : ∀ vs H Q E, sp vs H Q E → vs.length = ps.length)
    (hbody : ∀ (cdv : Value) (A : Around) (outer : List Env) (s : Shared) (H : Hp) (vs : List V) (Q : VK) (E : XK), Room k (A.deeper (envOfC qual (defScope st) s.heap.objs.size f cdv)) → sp vs H Q E →
      ∃ t, PSs (cxOf CX0 P w K mg base N qual (defScope st) f cdv A outer s H E).nox (defBody st) t ∧ t { nx := fun _ H' => Q .non H', rt := Q } (start N vs) H) : FnOk P w K mg base CX0 (k + 1) f fd ps sp := by
  obtain ⟨oc, od, kV, doc, pm, an, cdv, ct, osl, rfl, lk, hcd⟩ := F.ex
  refine fn_of lk hcd S len fun A outer s H vs Q E hr hsp => ?_
  obtain ⟨t, h, q⟩ := hbody cdv A outer s H vs Q E hr hsp
  exact ⟨t, h.nox, q⟩
/-- how its arguments bind (no defaults): h is «fun _ _ _ _ _ _ us hl => match us, hl with | [_, _], _ => rfl», one _ a parameter -/
theorem Fun.binds {x qual : Str} {st : Stmt} {f : Addr} {fd : FuncData} {ps : List Str} (F : Fun K x qual st f fd)
    (h : ∀ (kV doc pm : Value) (an : Option Addr) (cdv ct : Value) (us : List Value), us.length = ps.length → bindArgs (PySem.W.fnOf x qual (defArgs st) (defBody st) (defScope st) .none kV doc pm an cdv ct) ⟨us, []⟩ = pure (ps.zip us)) : Binds K fd ps [] := by
  obtain ⟨oc, od, kV, doc, pm, an, cdv, ct, osl, rfl, lk, hcd⟩ := F.ex
  exact .all (h kV doc pm an cdv ct)
theorem fun_mk {x qual : Str} {st : Stmt} {f : Addr} {oc : Value} {od an : Option Addr} {osl : Array (Option Value)} {kV doc pm cdv ct : Value} (l : K.lookup f = some ⟨oc, od, .func (PySem.W.fnOf x qual (defArgs st) (defBody st) (defScope st) .none kV doc pm an cdv ct), osl⟩)
    (c : PySem.W.codeIn K cdv qual = true) (k : PySem.W.keepIn K (.ref f) = true) : Fun K x qual st f (PySem.W.fnOf x qual (defArgs st) (defBody st) (defScope st) .none kV doc pm an cdv ct) := ⟨⟨oc, od, kV, doc, pm, an, cdv, ct, osl, rfl, l, c⟩, k⟩
end
theorem hu_of {A : Around} {k : Nat} (hr : Room k A) : A.units + 1 < cLine := Nat.lt_of_le_of_lt (Nat.add_le_add_left (by decide : 1 ≤ 64) _) hr.units
theorem small1000 {n : Nat} (h : n ≤ 1000) : n < sizeLine := Nat.lt_of_le_of_lt h (by decide)

section
variable {X : Cx}
theorem pv (i : Nat) {x : Str} {pos : Pos} (hN : X.N[i]? = some x := by rfl) (hv : Vis X.env.scope x := by first | exact Or.inl rfl | exact Or.inr (Or.inl rfl) | exact Or.inr (Or.inr rfl)) (hd : (x == ("__debug__" : Str)) = false := by decide)
    (hcd : (x == ("__classdict__" : Str)) = false := by decide) : PE X (.Name x pos) (tVar i) := pe_var hN hv hd hcd
end

theorem iteF {A B : Prop} (h : B) : if false = true then A else B := by
  rw [if_neg Bool.false_ne_true]
  exact h
theorem iteT {A B : Prop} (h : A) : if true = true then A else B := by
  rw [if_pos rfl]
  exact h
theorem ite2 {c A B : Prop} [Decidable c] (h1 : c → A) (h2 : ¬ c → B) : if c then A else B := by
  by_cases h : c
  · rw [if_pos h]
    exact h1 h
  · rw [if_neg h]
    exact h2 h
/-- all that was tracked is as it was -/
def Same (H H' : Hp) : Prop := ∀ b o, H b = some o → H' b = some o
theorem Same.refl (H : Hp) : Same H H := fun _ _ h => h
theorem Same.trans {H H1 H2 : Hp} (a : Same H H1) (b : Same H1 H2) : Same H H2 := fun c o h => b c o (a c o h)
theorem Same.free {H H' : Hp} (e : Same H H') {l : Addr} (h : H' l = Option.none) : H l = Option.none := by
  cases q : H l with
  | none => rfl
  | some o =>
    rw [e l o q] at h
    cases h
theorem Same.seq {K : PySem.W.Frag} {H H' : Hp} {a : Addr} {xs : List V} (e : Same H H') (h : SqL K H a xs) : SqL K H' a xs := by
  rcases h with (h | ⟨o, h⟩) | h
  · exact .inl (.inl (e _ _ h))
  · exact .inl (.inr ⟨o, e _ _ h⟩)
  · exact .inr h

section
variable {κ : Type} [DecidableEq κ]
end
theorem at_of {xs : List V} {z : Int} {j : Nat} {v : V} (e : z = (j : Int)) (h : xs[j]? = some v) : atI xs z = some v := by
  rw [e]
  exact atI_nat h
end L2
section
set_option Elab.async false
set_option linter.all false
set_option maxRecDepth 100000
set_option maxHeartbeats 2000000
namespace L2
open PySem PySem.Spec PyProof.Rows
open PySem.W (WData Codec OpenSpec Well WellAll ReadsW ReadsAllW)
mutual
/-- x stands for the datum d, lists and tuples all the way -/
inductive Dw (K : PySem.W.Frag) (H : Hp) : V → WData → Prop
  | non : Dw K H .non .none
  | bl (b : Bool) : Dw K H (.bl b) (.bool b)
  | int (i : Int) : Dw K H (.int i) (.int i)
  | str (x : Str) : Dw K H (.str x) (.str x)
  | byt (b : Array UInt8) : Dw K H (.byt b) (.bytes b.toList)
  | lst {a : Addr} {xs : List V} {ds : List WData} : SqL K H a xs → DwAll K H xs ds → Dw K H (.ref a) (.list ds)
  | tup {a : Addr} {xs : List V} {ds : List WData} : SqT K H a xs → DwAll K H xs ds → Dw K H (.ref a) (.tuple ds)
inductive DwAll (K : PySem.W.Frag) (H : Hp) : List V → List WData → Prop
  | nil : DwAll K H [] []
  | cons {v : V} {vs : List V} {d : WData} {ds : List WData} : Dw K H v d → DwAll K H vs ds → DwAll K H (v :: vs) (d :: ds)
end
theorem dw_ints {K : PySem.W.Frag} {H : Hp} : ∀ ns : List Int, DwAll K H (ns.map V.int) (ns.map WData.int)
  | [] => .nil
  | n :: r => .cons (.int n) (dw_ints r)
theorem ints_dw {K : PySem.W.Frag} {H : Hp} : ∀ (ns : List Int) (xs : List V), DwAll K H xs (ns.map WData.int) → xs = ns.map V.int
  | [], xs, h => by
    cases h
    rfl
  | n :: r, xs, h => by
    cases h with
    | cons h1 h2 =>
      cases h1
      rw [ints_dw r _ h2] <;> rfl
section
variable {P : Program} {w : World} {K : PySem.W.Frag} {H : Hp} {h : Heap} {R : PySem.W.WRecords} {cl : Str → Option Addr}
theorem sqL_at {a : Addr} {xs : List V} (hok : HOk P w H h) (KX : K.In h) (q : SqL K H a xs) : ∃ (its : List Value) (o : Obj) (n : Nat), Vals xs its ∧ h.get? a = some o ∧ o.cls = .type "list" ∧ o.data = .seq its.toArray n := by
  rcases q with q | ⟨o, its, n, e, hc, _, hd, _, hv⟩
  · obtain ⟨_, its, n, hv, e⟩ := (show ObjOk P w H h a (.lst xs) from q.ok hok)
    exact ⟨its, _, n, hv, e, rfl, rfl⟩
  · exact ⟨its.toList, o, n, hv, KX _ _ e, hc, by simp [hd]⟩
theorem sqT_at {a : Addr} {xs : List V} (hok : HOk P w H h) (KX : K.In h) (q : SqT K H a xs) : ∃ (its : List Value) (o : Obj) (n : Nat), Vals xs its ∧ h.get? a = some o ∧ o.cls = .type "tuple" ∧ o.data = .seq its.toArray n := by
  rcases q with q | ⟨o, its, n, e, hc, hd, _, hv⟩
  · obtain ⟨_, its, hv, o, e, hc, n, hd⟩ := (show ObjOk P w H h a (.tup xs) from q.ok hok)
    exact ⟨its, o, n, hv, e, hc, hd⟩
  · exact ⟨its.toList, o, n, hv, KX _ _ e, hc, by simp [hd]⟩
mutual
theorem Dw.reads (hok : HOk P w H h) (KX : K.In h) : ∀ (d : WData) (v : V) (u : Value), Dw K H v d → RelV v u → ∃ as, ReadsW R cl h u d as
  | .none, _, _, x, r => by
    cases x
    cases r
    exact ⟨_, ReadsW.none⟩
  | .bool b, _, _, x, r => by
    cases x
    cases r
    exact ⟨_, ReadsW.bool b⟩
  | .int i, _, _, x, r => by
    cases x
    obtain ⟨t, rfl⟩ := r
    exact ⟨_, ReadsW.int i t⟩
  | .str s, _, _, x, r => by
    cases x
    obtain ⟨t, rfl⟩ := r
    exact ⟨_, ReadsW.str s t⟩
  | .bytes b, _, _, x, r => by
    cases x
    obtain ⟨t, rfl⟩ := r
    exact ⟨_, ReadsW.bytes _ t⟩
  | .list ds, _, _, x, r => by
    cases x with
    | lst hs ha =>
      cases r
      obtain ⟨its, o, n, rv, ho, hc, hd⟩ := sqL_at hok KX hs
      obtain ⟨as, hr⟩ := Dw.readsAll hok KX ds _ its ha rv
      exact ⟨_, ReadsW.list ho hc hd hr⟩
  | .tuple ds, _, _, x, r => by
    cases x with
    | tup hs ha =>
      cases r
      obtain ⟨its, o, n, rv, ho, hc, hd⟩ := sqT_at hok KX hs
      obtain ⟨as, hr⟩ := Dw.readsAll hok KX ds _ its ha rv
      exact ⟨_, ReadsW.tuple ho hc hd hr⟩
  | .float _, _, _, x, _ => by cases x
  | .dict _, _, _, x, _ => by cases x
  | .bytearray _, _, _, x, _ => by cases x
  | .set _, _, _, x, _ => by cases x
  | .frozenset _, _, _, x, _ => by cases x
  | .obj _ _, _, _, x, _ => by cases x
theorem Dw.readsAll (hok : HOk P w H h) (KX : K.In h) : ∀ (ds : List WData) (vs : List V) (us : List Value), DwAll K H vs ds → Vals vs us → ∃ as, ReadsAllW R cl h us ds as
  | [], _, _, x, r => by
    cases x
    cases r
    exact ⟨_, ReadsAllW.nil⟩
  | d :: ds, _, _, x, r => by
    cases x with
    | cons h1 h2 =>
      cases r with
      | cons r1 r2 =>
        obtain ⟨as, q1⟩ := Dw.reads hok KX d _ _ h1 r1
        obtain ⟨bs, q2⟩ := Dw.readsAll hok KX ds _ _ h2 r2
        exact ⟨_, ReadsAllW.cons q1 q2⟩
end
end
mutual
/-- data that a codec tells -/
def plW : WData → Bool
  | .none => true
  | .bool _ => true
  | .int _ => true
  | .str _ => true
  | .bytes _ => true
  | .list xs => plWs xs
  | .tuple xs => plWs xs
  | _ => false
def plWs : List WData → Bool
  | [] => true
  | x :: r => plW x && plWs r
end
theorem plWs_map {α : Type} {f : α → WData} (h : ∀ a, plW (f a) = true) : ∀ l : List α, plWs (l.map f) = true
  | [] => rfl
  | x :: r => by
    show (plW (f x) && plWs (r.map f)) = true
    rw [h x, plWs_map h r] <;> rfl
theorem pl_enc : ∀ (c : Codec) (a : c.denote), plW (c.enc a) = true
  | .unit, _ => rfl
  | .bool, _ => rfl
  | .int _ _, _ => rfl
  | .nat _ _, _ => rfl
  | .u8, _ => rfl
  | .bytes _ _, _ => rfl
  | .text _ _ _ _, _ => rfl
  | .list _ _ c, a => plWs_map (fun x => pl_enc c x) a
  | .pair c d, a => by
    show (plW (c.enc a.1) && (plW (d.enc a.2) && true)) = true
    rw [pl_enc c a.1, pl_enc d a.2] <;> rfl
  | .triple c d e, a => by
    show (plW (c.enc a.1) && (plW (d.enc a.2.1) && (plW (e.enc a.2.2) && true))) = true
    rw [pl_enc c a.1, pl_enc d a.2.1, pl_enc e a.2.2] <;> rfl
  | .option c, none => rfl
  | .option c, some x => pl_enc c x
theorem pl_encAll : ∀ (cs : List Codec) (a : Codec.denoteAll cs), plWs (Codec.encAll cs a) = true
  | [], _ => rfl
  | c :: cs, a => by
    show (plW (c.enc a.1) && plWs (Codec.encAll cs a.2)) = true
    rw [pl_enc c a.1, pl_encAll cs a.2] <;> rfl
theorem weight_mem : ∀ {xs : List WData} {d : WData}, d ∈ xs → d.weight ≤ WData.weightAll xs
  | [], d, h => absurd h (by simp)
  | x :: r, d, h => by
    show d.weight ≤ x.weight + 1 + WData.weightAll r
    rcases List.mem_cons.mp h with e | m
    · rw [e]
      omega
    · have z := weight_mem m
      omega
def toV : Value → V
  | .none => .non
  | .bool b => .bl b
  | .int i _ => .int i
  | .str x _ => .str x
  | .bytes b _ => .byt b
  | .ref a => .ref a
  | _ => .non
/-- a value of the arguments, its objects among A -/
def OkU (A : List Addr) : Value → Prop
  | .none => True
  | .bool _ => True
  | .int _ _ => True
  | .str _ _ => True
  | .bytes _ _ => True
  | .ref a => a ∈ A
  | _ => False
theorem OkU.mono {A B : List Addr} (h : ∀ a ∈ A, a ∈ B) : ∀ {u : Value}, OkU A u → OkU B u := fun {u} x => by
  cases u with
  | ref a => exact h a x
  | none => trivial
  | bool b => trivial
  | int i t => trivial
  | str s t => trivial
  | bytes b t => trivial
  | _ => exact False.elim x
theorem relV_toV {A : List Addr} {u : Value} (x : OkU A u) : RelV (toV u) u := by
  cases u with
  | ref a => rfl
  | none => rfl
  | bool b => rfl
  | int i t => exact ⟨t, rfl⟩
  | str s t => exact ⟨t, rfl⟩
  | bytes b t => exact ⟨t, rfl⟩
  | _ => exact False.elim x
theorem vals_toV {A : List Addr} : ∀ {vs : List Value}, (∀ u ∈ vs, OkU A u) → Vals (vs.map toV) vs
  | [], _ => .nil
  | u :: r, h => .cons (relV_toV (h u (List.mem_cons_self ..))) (vals_toV fun x hx => h x (List.mem_cons_of_mem _ hx))
/-- an object of the arguments -/
def ArgOb (h : Heap) (A : List Addr) (a : Addr) : Prop := ∃ vs : List Value, vs.length ≤ sizeLine ∧ (∀ u ∈ vs, OkU A u) ∧
  (h.get? a = some { cls := .type "list", data := .seq vs.toArray } ∨ h.get? a = some { cls := .type "tuple", data := .seq vs.toArray })
theorem ArgOb.mono {h : Heap} {A B : List Addr} {a : Addr} (k : ∀ a ∈ A, a ∈ B) (x : ArgOb h A a) : ArgOb h B a := by
  obtain ⟨vs, h1, h2, h3⟩ := x
  exact ⟨vs, h1, fun u hu => (h2 u hu).mono k, h3⟩
theorem wellAll_len {P : Params} {h : Heap} : ∀ {vs : List Value} {ds : List WData}, WellAll P h vs ds → vs.length = ds.length
  | _, _, .nil => rfl
  | _, _, .cons _ b => by
    show _ + 1 = _ + 1
    rw [wellAll_len b]
theorem well_list {P : Params} {h : Heap} {v : Value} {ds : List WData} (x : Well P h v (.list ds)) : ∃ (a : Addr) (vs : List Value), v = .ref a ∧ h.get? a = some { cls := .type "list", data := .seq vs.toArray } ∧ WellAll P h vs ds := by
  cases x with
  | list ho hall => exact ⟨_, _, rfl, ho, hall⟩
theorem well_tuple {P : Params} {h : Heap} {v : Value} {ds : List WData} (x : Well P h v (.tuple ds)) : ∃ (a : Addr) (vs : List Value), v = .ref a ∧ h.get? a = some { cls := .type "tuple", data := .seq vs.toArray } ∧ WellAll P h vs ds := by
  cases x with
  | tuple ho hall => exact ⟨_, _, rfl, ho, hall⟩
theorem well_cons {P : Params} {h : Heap} {us : List Value} {d : WData} {ds : List WData} (x : WellAll P h us (d :: ds)) : ∃ (v : Value) (vs : List Value), us = v :: vs ∧ Well P h v d ∧ WellAll P h vs ds := by
  cases x with
  | cons a b => exact ⟨_, _, rfl, a, b⟩
theorem line_of {n : Nat} (h : n ≤ 1048576) : n ≤ sizeLine := Nat.le_trans h (by decide)
section
variable {P : Params} {h : Heap}
mutual
theorem area_one : ∀ (d : WData) (v : Value), Well P h v d → plW d = true → d.weight ≤ 1048576 → ∃ A : List Addr, OkU A v ∧ ∀ a ∈ A, ArgOb h A a
  | .none, _, x, _, _ => by
    cases x
    exact ⟨[], trivial, fun a m => absurd m (by simp)⟩
  | .bool b, _, x, _, _ => by
    cases x
    exact ⟨[], trivial, fun a m => absurd m (by simp)⟩
  | .int i, _, x, _, _ => by
    cases x
    exact ⟨[], trivial, fun a m => absurd m (by simp)⟩
  | .str s, _, x, _, _ => by
    cases x
    exact ⟨[], trivial, fun a m => absurd m (by simp)⟩
  | .bytes b, _, x, _, _ => by
    cases x
    exact ⟨[], trivial, fun a m => absurd m (by simp)⟩
  | .list ds, _, x, p, z => by
    obtain ⟨a, vs, rfl, ho, hall⟩ := well_list x
    have z2 : WData.weightAll ds ≤ 1048576 := z
    obtain ⟨A, h1, h2⟩ := area_all ds _ hall p fun d hd => Nat.le_trans (weight_mem hd) z2
    have k : ∀ b ∈ A, b ∈ a :: A := fun b hb => List.mem_cons_of_mem _ hb
    refine ⟨a :: A, List.mem_cons_self .., fun b hb => ?_⟩
    rcases List.mem_cons.mp hb with e | m
    · rw [e]
      exact ⟨vs, line_of (by rw [wellAll_len hall]; exact Nat.le_trans (PySem.W.length_le_weightAllW ds) z2), fun u hu => (h1 u hu).mono k, .inl ho⟩
    · exact (h2 b m).mono k
  | .tuple ds, _, x, p, z => by
    obtain ⟨a, vs, rfl, ho, hall⟩ := well_tuple x
    have z2 : WData.weightAll ds ≤ 1048576 := z
    obtain ⟨A, h1, h2⟩ := area_all ds _ hall p fun d hd => Nat.le_trans (weight_mem hd) z2
    have k : ∀ b ∈ A, b ∈ a :: A := fun b hb => List.mem_cons_of_mem _ hb
    refine ⟨a :: A, List.mem_cons_self .., fun b hb => ?_⟩
    rcases List.mem_cons.mp hb with e | m
    · rw [e]
      exact ⟨vs, line_of (by rw [wellAll_len hall]; exact Nat.le_trans (PySem.W.length_le_weightAllW ds) z2), fun u hu => (h1 u hu).mono k, .inr ho⟩
    · exact (h2 b m).mono k
  | .float _, _, _, p, _ => Bool.noConfusion (show false = true from p)
  | .dict _, _, _, p, _ => Bool.noConfusion (show false = true from p)
  | .bytearray _, _, _, p, _ => Bool.noConfusion (show false = true from p)
  | .set _, _, _, p, _ => Bool.noConfusion (show false = true from p)
  | .frozenset _, _, _, p, _ => Bool.noConfusion (show false = true from p)
  | .obj _ _, _, _, p, _ => Bool.noConfusion (show false = true from p)
theorem area_all : ∀ (ds : List WData) (vs : List Value), WellAll P h vs ds → plWs ds = true → (∀ d ∈ ds, d.weight ≤ 1048576) → ∃ A : List Addr, (∀ u ∈ vs, OkU A u) ∧ ∀ a ∈ A, ArgOb h A a
  | [], _, x, _, _ => by
    cases x
    exact ⟨[], fun u m => absurd m (by simp), fun a m => absurd m (by simp)⟩
  | d :: ds, _, x, p, z => by
    obtain ⟨v, vs, rfl, x1, x2⟩ := well_cons x
    have q : plW d = true ∧ plWs ds = true := Bool.and_eq_true_iff.mp p
    obtain ⟨A, a1, a2⟩ := area_one d v x1 q.1 (z d (List.mem_cons_self ..))
    obtain ⟨B, b1, b2⟩ := area_all ds vs x2 q.2 fun e he => z e (List.mem_cons_of_mem _ he)
    have kA : ∀ b ∈ A, b ∈ A ++ B := fun b hb => List.mem_append.mpr (.inl hb)
    have kB : ∀ b ∈ B, b ∈ A ++ B := fun b hb => List.mem_append.mpr (.inr hb)
    refine ⟨A ++ B, fun u hu => ?_, fun b hb => ?_⟩
    · rcases List.mem_cons.mp hu with e | m
      · rw [e]
        exact a1.mono kA
      · exact (b1 u m).mono kB
    · rcases List.mem_append.mp hb with m | m
      · exact (a2 b m).mono kA
      · exact (b2 b m).mono kB
end
end
/-- what is tracked of an argument's object -/
def hoOf (o : Obj) : Option HO := match o.data with
  | .seq vs _ => if (o.cls == Value.type "list") = true then some (.frz o (.lst (vs.toList.map toV))) else some (.frz o (.tup (vs.toList.map toV)))
  | _ => none
def argH (K : PySem.W.Frag) (h : Heap) (A : List Addr) : Hp := fun b => if b ∈ A then (if (K.lookup b).isNone = true then (h.get? b).bind hoOf else none) else none
/-- nothing is tracked but what is known to the object -/
def OnlyF (H : Hp) : Prop := ∀ b, H b = none ∨ ∃ o u, H b = some (.frz o u)
theorem hoOf_lst (vs : List Value) : hoOf { cls := .type "list", data := .seq vs.toArray } = some (.frz { cls := .type "list", data := .seq vs.toArray } (.lst (vs.map toV))) := by
  show (if (Value.type "list" == Value.type "list") = true then some (HO.frz { cls := .type "list", data := .seq vs.toArray } (.lst (vs.toArray.toList.map toV))) else some (HO.frz { cls := .type "list", data := .seq vs.toArray } (.tup (vs.toArray.toList.map toV)))) = _
  rw [if_pos (beq_self_eq_true _)]
theorem hoOf_tup (vs : List Value) : hoOf { cls := .type "tuple", data := .seq vs.toArray } = some (.frz { cls := .type "tuple", data := .seq vs.toArray } (.tup (vs.map toV))) := by
  show (if (Value.type "tuple" == Value.type "list") = true then some (HO.frz { cls := .type "tuple", data := .seq vs.toArray } (.lst (vs.toArray.toList.map toV))) else some (HO.frz { cls := .type "tuple", data := .seq vs.toArray } (.tup (vs.toArray.toList.map toV)))) = _
  rw [if_neg (by decide)]
section
variable {P : Program} {w : World} {K : PySem.W.Frag} {h : Heap} {A : List Addr}
theorem argH_at {b : Addr} {o : Obj} (hb : b ∈ A) (hk : K.lookup b = none) (e : h.get? b = some o) : argH K h A b = hoOf o := by
  unfold argH
  rw [if_pos hb, hk, if_pos (show (none : Option Obj).isNone = true from rfl), e] <;> rfl
theorem of_argH {b : Addr} {u : HO} (q : argH K h A b = some u) : b ∈ A ∧ K.lookup b = none := by
  unfold argH at q
  by_cases hb : b ∈ A
  · rw [if_pos hb] at q
    cases hk : K.lookup b with
    | none => exact ⟨hb, rfl⟩
    | some o =>
      rw [hk, if_neg (by simp)] at q
      cases q
  · rw [if_neg hb] at q
    cases q
/-- what stands tracked -/
theorem argH_is (ar : ∀ a ∈ A, ArgOb h A a) {b : Addr} {u : HO} (q : argH K h A b = some u) : K.lookup b = none ∧ ∃ vs : List Value, vs.length ≤ sizeLine ∧ (∀ u ∈ vs, OkU A u) ∧
    ((h.get? b = some { cls := .type "list", data := .seq vs.toArray } ∧ u = .frz { cls := .type "list", data := .seq vs.toArray } (.lst (vs.map toV))) ∨
     (h.get? b = some { cls := .type "tuple", data := .seq vs.toArray } ∧ u = .frz { cls := .type "tuple", data := .seq vs.toArray } (.tup (vs.map toV)))) := by
  obtain ⟨hb, hk⟩ := of_argH q
  obtain ⟨vs, h1, h2, h3⟩ := ar b hb
  refine ⟨hk, vs, h1, h2, ?_⟩
  rcases h3 with e | e
  · rw [argH_at hb hk e, hoOf_lst] at q
    exact .inl ⟨e, (Option.some.inj q).symm⟩
  · rw [argH_at hb hk e, hoOf_tup] at q
    exact .inr ⟨e, (Option.some.inj q).symm⟩
theorem argH_only (ar : ∀ a ∈ A, ArgOb h A a) : OnlyF (argH K h A) := fun b => by
  cases q : argH K h A b with
  | none => exact .inl rfl
  | some u =>
    obtain ⟨_, vs, _, _, ⟨_, e⟩ | ⟨_, e⟩⟩ := argH_is ar q
    · exact .inr ⟨_, _, by rw [e]⟩
    · exact .inr ⟨_, _, by rw [e]⟩
theorem argH_ok (ar : ∀ a ∈ A, ArgOb h A a) : HOk P w (argH K h A) h := fun b u q => by
  obtain ⟨_, vs, h1, h2, ⟨e, rfl⟩ | ⟨e, rfl⟩⟩ := argH_is ar q
  · exact ⟨e, by rw [List.length_map]; exact h1, vs, _, vals_toV h2, e⟩
  · exact ⟨e, by rw [List.length_map]; exact h1, vs, vals_toV h2, _, e, rfl, _, rfl⟩
theorem seq_inj {c c' : Value} {vs us : List Value} (e : (some { cls := c, data := .seq vs.toArray } : Option Obj) = some { cls := c', data := .seq us.toArray }) : c = c' ∧ vs = us := by
  have e1 := Option.some.inj e
  have e2 : c = c' := congrArg Obj.cls e1
  have e3 : Data.seq vs.toArray = Data.seq us.toArray := congrArg Obj.data e1
  injection e3 with e4
  refine ⟨e2, ?_⟩
  have e5 := congrArg Array.toList e4
  simpa using e5
/-- a list argument -/
theorem argL (KX : K.In h) (ar : ∀ a ∈ A, ArgOb h A a) {a : Addr} {vs : List Value} (ha : a ∈ A) (e : h.get? a = some { cls := .type "list", data := .seq vs.toArray }) : (∀ u ∈ vs, OkU A u) ∧ SqL K (argH K h A) a (vs.map toV) := by
  obtain ⟨us, h1, h2, h3⟩ := ar a ha
  have hu : us = vs := by
    rcases h3 with q | q
    · rw [e] at q
      exact (seq_inj q).2.symm
    · rw [e] at q
      exact absurd (Value.type.inj (seq_inj q).1) (by decide)
  subst hu
  refine ⟨h2, ?_⟩
  cases hk : K.lookup a with
  | none => exact .inl (.inr ⟨_, by rw [argH_at ha hk e, hoOf_lst]⟩)
  | some o =>
    have e2 := KX a o hk
    rw [e] at e2
    obtain rfl := Option.some.inj e2
    exact .inr ⟨_, us.toArray, _, hk, rfl, rfl, rfl, by rw [List.size_toArray]; exact h1, by simpa using vals_toV h2⟩
theorem argT (KX : K.In h) (ar : ∀ a ∈ A, ArgOb h A a) {a : Addr} {vs : List Value} (ha : a ∈ A) (e : h.get? a = some { cls := .type "tuple", data := .seq vs.toArray }) : (∀ u ∈ vs, OkU A u) ∧ SqT K (argH K h A) a (vs.map toV) := by
  obtain ⟨us, h1, h2, h3⟩ := ar a ha
  have hu : us = vs := by
    rcases h3 with q | q
    · rw [e] at q
      exact absurd (Value.type.inj (seq_inj q).1) (by decide)
    · rw [e] at q
      exact (seq_inj q).2.symm
  subst hu
  refine ⟨h2, ?_⟩
  cases hk : K.lookup a with
  | none => exact .inl (.inr ⟨_, by rw [argH_at ha hk e, hoOf_tup]⟩)
  | some o =>
    have e2 := KX a o hk
    rw [e] at e2
    obtain rfl := Option.some.inj e2
    exact .inr ⟨_, us.toArray, _, hk, rfl, rfl, by rw [List.size_toArray]; exact h1, by simpa using vals_toV h2⟩
mutual
theorem dw_one {Pm : Params} (KX : K.In h) (ar : ∀ a ∈ A, ArgOb h A a) : ∀ (d : WData) (v : Value), Well Pm h v d → plW d = true → OkU A v → Dw K (argH K h A) (toV v) d
  | .none, _, x, _, _ => by
    cases x
    exact .non
  | .bool b, _, x, _, _ => by
    cases x
    exact .bl b
  | .int i, _, x, _, _ => by
    cases x
    exact .int i
  | .str s, _, x, _, _ => by
    cases x
    exact .str s
  | .bytes b, _, x, _, _ => by
    cases x
    have z := Dw.byt (K := K) (H := argH K h A) b.toArray
    exact z
  | .list ds, _, x, p, hu => by
    obtain ⟨a, vs, rfl, ho, hall⟩ := well_list x
    obtain ⟨h2, hs⟩ := argL KX ar hu ho
    exact .lst hs (dw_all KX ar ds _ hall p h2)
  | .tuple ds, _, x, p, hu => by
    obtain ⟨a, vs, rfl, ho, hall⟩ := well_tuple x
    obtain ⟨h2, hs⟩ := argT KX ar hu ho
    exact .tup hs (dw_all KX ar ds _ hall p h2)
  | .float _, _, _, p, _ => Bool.noConfusion (show false = true from p)
  | .dict _, _, _, p, _ => Bool.noConfusion (show false = true from p)
  | .bytearray _, _, _, p, _ => Bool.noConfusion (show false = true from p)
  | .set _, _, _, p, _ => Bool.noConfusion (show false = true from p)
  | .frozenset _, _, _, p, _ => Bool.noConfusion (show false = true from p)
  | .obj _ _, _, _, p, _ => Bool.noConfusion (show false = true from p)
theorem dw_all {Pm : Params} (KX : K.In h) (ar : ∀ a ∈ A, ArgOb h A a) : ∀ (ds : List WData) (vs : List Value), WellAll Pm h vs ds → plWs ds = true → (∀ u ∈ vs, OkU A u) → DwAll K (argH K h A) (vs.map toV) ds
  | [], _, x, _, _ => by
    cases x
    exact .nil
  | d :: ds, _, x, p, hu => by
    obtain ⟨v, vs, rfl, x1, x2⟩ := well_cons x
    have q : plW d = true ∧ plWs ds = true := Bool.and_eq_true_iff.mp p
    exact .cons (dw_one KX ar d v x1 q.1 (hu _ (List.mem_cons_self ..))) (dw_all KX ar ds vs x2 q.2 fun u m => hu u (List.mem_cons_of_mem _ m))
end
end
theorem spec_call {P : Program} {w : World} {K : PySem.W.Frag} {mg mb : Str → Option Value} {CX : CXT} {k : Nat} {fa : Addr} {fd : FuncData} {ps : List Str} {sp : Sp} {s₁ : Shared} {vals : List Value} {ds : List WData} {R : PySem.W.WRecords} {cl : Str → Option Addr} {d0 : WData}
    (KX : K.In s₁.heap) (hns : s₁.heap.Ns mainGlobals mg) (hb : s₁.heap.Ns builtinsNs mb) (hbb : ∀ x : Str, x ≠ "__name__" → mb x = bootBuiltins x) (hlim : s₁.heap.NoLimit) (hg : s₁.gens = #[])
    (hwl : WellAll w.params s₁.heap vals ds) (hpl : plWs ds = true) (hwt : ∀ d ∈ ds, d.weight ≤ 1048576) (hr : Room k callerA)
    (F : ∀ base : Heap, K.In base → base.Ns mainGlobals mg → FnOk P w K mg base CX k fa fd ps sp) (hbind : ∀ (s : Shared) (us : List Value), us.length = ps.length → BindsTo s fd ⟨us, []⟩ (ps.zip us)) (hlen : ds.length = ps.length)
    (hsp : ∀ (H : Hp) (xs : List V), OnlyF H → DwAll K H xs ds → sp xs H (fun v H' => Dw K H' v d0) fun _ _ _ => False)
    (hCX : ∀ H e s', CX [] H s₁ (fun _ _ _ => False) e s' → False) :
    codeAny (model P w) callerA (.call (.ref fa) ⟨vals, []⟩) (fun r s' => ∃ u as, r = .ok (.ret u) ∧ ReadsW R cl s'.heap u d0 as ∧ OldK s₁.heap s'.heap ∧ s'.os = s₁.os ∧ AllBare s'.gens) s₁ := by
  obtain ⟨A, ho, ar⟩ := area_all ds vals hwl hpl hwt
  have hO : OnlyF (argH K s₁.heap A) := argH_only ar
  have hok : HOk P w (argH K s₁.heap A) s₁.heap := argH_ok ar
  have hS := dw_all KX ar ds vals hwl hpl ho
  have hV := vals_toV ho
  have hK : ∀ b u, argH K s₁.heap A b = some u → K.lookup b = none := fun b u q => (argH_is ar q).1
  have noA : ∀ {b : Addr} {o : Obj} {es : Array DictEntry} {ep : Nat}, s₁.heap.get? b = some o → o.data = .dict es ep → argH K s₁.heap A b = none := fun {b o es ep} e d => by
    cases q : argH K s₁.heap A b with
    | none => rfl
    | some u =>
      obtain ⟨_, vs, _, _, ⟨e2, _⟩ | ⟨e2, _⟩⟩ := argH_is ar q
      · rw [e2] at e
        cases e
        have d' : Data.seq vs.toArray _ = Data.dict es ep := d
        cases d'
      · rw [e2] at e
        cases e
        have d' : Data.seq vs.toArray _ = Data.dict es ep := d
        cases d'
  generalize argH K s₁.heap A = H at hO hok hS hK noA
  have base_of : ∀ {b : Addr} {o : Obj}, s₁.heap.get? b = some o → H b = none → (hidT s₁.heap H).get? b = some o := fun e n => hidT_get e n
  have nsK : ∀ {b : Addr} {m : Str → Option Value}, s₁.heap.Ns b m → (hidT s₁.heap H).Ns b m := fun {b m} ⟨o, es, ep, e, d, r⟩ => ⟨o, es, ep, base_of e (noA e d), d, r⟩
  have nK : ∀ b o, K.lookup b = some o → H b = none := fun b o e => by
    cases q : H b with
    | none => rfl
    | some u =>
      rw [hK b u q] at e
      cases e
  have hKb : K.In (hidT s₁.heap H) := fun b o e => base_of (KX b o e) (nK b o e)
  have hM : Mod K mg (hidT s₁.heap H) := ⟨hKb, nsK hns, ⟨mb, nsK hb, hbb⟩, let ⟨mc, h1, h2⟩ := hlim; ⟨mc, nsK h1, h2⟩⟩
  have e0 : Env0 P w K mg (hidT s₁.heap H) callerA [] s₁ H := ⟨rfl, hM, fun b o e => of_hidT e, Nat.le_of_eq (hidT_size _ _), trivial, fun b hb => absurd (show b ∈ ([] : List Addr) from hb) (by simp), hok, .of_eq hg⟩
  have hl : vals.length = ps.length := by rw [wellAll_len hwl]; exact hlen
  refine codeAny_mono ((F _ hKb (nsK hns)).run callerA [] s₁ H ⟨vals, []⟩ vals (vals.map toV) _ _ hr e0 (hbind s₁ vals hl) hV (hsp H _ hO hS)) fun r s' x => ?_
  cases r with
  | error e => exact (hCX H e s' x).elim
  | ok fl =>
    cases fl with
    | next => exact False.elim x
    | brk => exact False.elim x
    | cont => exact False.elim x
    | ret u =>
      obtain ⟨v, H', os, bare, un, hok', r', q⟩ := x
      have kept : ∀ b o, s₁.heap.get? b = some o → s'.heap.get? b = some o := fun b o e => by
        cases q2 : H b with
        | none => exact un.keep b o e q2 (by intro z; exact absurd (show b ∈ ([] : List Addr) from z) (by simp)) (by simp)
        | some u2 =>
          rcases hO b with z | ⟨ob, u3, z⟩
          · rw [q2] at z
            cases z
          · have z2 := un.frzs b ob _ z
            obtain ⟨e1, _⟩ := hok b _ z
            obtain ⟨e2, _⟩ := hok' b _ z2
            rw [e] at e1
            cases e1
            exact e2
      have KX' : K.In s'.heap := fun b o e => kept b o (KX b o e)
      obtain ⟨as, hrd⟩ := Dw.reads (R := R) (cl := cl) hok' KX' d0 v u q r'
      exact ⟨u, as, rfl, hrd, OldK.of_keep kept, os, bare⟩
theorem layable_weight {ds : List WData} (h : WData.layableAll ds = true) : ∀ d ∈ ds, d.weight ≤ 1048576 := fun d hd =>
  (PySem.W.layableW_iff.mp (List.all_eq_true.mp h d hd)).2.2
theorem encAll_len : ∀ (cs : List Codec) (a : Codec.denoteAll cs), (Codec.encAll cs a).length = cs.length
  | [], _ => rfl
  | c :: cs, a => by
    show (Codec.encAll cs a.2).length + 1 = cs.length + 1
    rw [encAll_len cs a.2]
/-- the goal that k_headS leaves (case hc), from the promise of the row's def: whatever the arguments that the codecs let and the row asks for, the def gives what stands for enc (f ..) -/
theorem walk_spec {r : OpenSpec} {k : Nat} {q : Program} {loose : List Str} {XP : (Str → Option Value) → Heap → Prop} {YP : World → Heap → Prop} {d : DefRec} {K : Params → PySem.W.Frag} {CX : World → CXT} {ps : List Str} {sp : World → Sp}
    (hwell : r.wellSaid = true) (hdf : d.params.defaults = []) (hlen : r.args.length = ps.length) (hr : Room k callerA)
    (hY : ∀ (w : World) (h : Heap), YP w h → (K w.params).In h)
    (F : ∀ (w : World) (mg : Str → Option Value) (fa : Addr) (h : Heap), YP w h → (K w.params).In h → h.Ns mainGlobals mg → mg d.name = some (.ref fa) →
      ∃ fd : FuncData, (∀ (s : Shared) (us : List Value), us.length = ps.length → BindsTo s fd ⟨us, []⟩ (ps.zip us)) ∧
        ∀ base : Heap, (K w.params).In base → base.Ns mainGlobals mg → FnOk r.prog w (K w.params) mg base (CX w) k fa fd ps (sp w))
    (hsp : ∀ (w : World) (H : Hp) (xs : List V) (a : Codec.denoteAll r.args), OnlyF H → Codec.withinAll r.args a = true → Codec.app r.args r.asked a = true → DwAll (K w.params) H xs (Codec.encAll r.args a) →
      sp w xs H (fun v H' => Dw (K w.params) H' v (r.ret.enc (Codec.app r.args r.f a))) fun _ _ _ => False)
    (hCX : ∀ (w : World) (H : Hp) (s : Shared) (e : Value) (s' : Shared), CX w [] H s (fun _ _ _ => False) e s' → False) :
    PySem.W.WalkOS q loose XP YP r d [] (fun f vs => PySem.call f vs) := by
  intro w s_0 s₁ mg mb G Y fa o pm cd doc dV kV ho hd hcd hD hmg hg args vals as hpre hlay hrd hwl hlo
  obtain ⟨a, e1, e2⟩ := PySem.W.os_pre_some hpre
  obtain ⟨e3, hwi⟩ := Codec.encAll_of_decAll r.args args a e1
  subst e3
  have KX := hY w _ Y
  obtain ⟨fd, hb, hF⟩ := F w mg fa _ Y KX G.T.g hmg
  refine PySem.W.enter_call (codeAny_mono (spec_call (R := []) (cl := classAt s_0.heap) (d0 := r.ret.enc (Codec.app r.args r.f a)) KX G.T.g G.T.b G.T.builtins G.T.nolimit hg hwl (pl_encAll _ _) (layable_weight hlay) hr hF hb (by rw [encAll_len]; exact hlen)
    (fun H xs hO hS => hsp w H xs a hO hwi e2 hS) fun H e s' => hCX w H s₁ e s') fun r' s' hq => ?_)
  obtain ⟨u, as', rfl, h1, h2, h3, h4⟩ := hq
  exact ⟨.inl ⟨u, _, as', rfl, fun _ => rfl, h1, (OpenSpec.post_iff hwell hwi _ _).mpr rfl, fun z => Bool.noConfusion (show false = true from z)⟩, h2, h3, h4⟩
/-- the same where the promise hangs on the written part alone -/
theorem walk_specK {r : OpenSpec} {k : Nat} {q : Program} {loose : List Str} {XP : (Str → Option Value) → Heap → Prop} {YP : World → Heap → Prop} {d : DefRec} {K : Params → PySem.W.Frag} {CX : CXT} {ps : List Str} {sp : PySem.W.Frag → Sp}
    (hwell : r.wellSaid = true) (hdf : d.params.defaults = []) (hlen : r.args.length = ps.length) (hr : Room k callerA)
    (hY : ∀ (w : World) (h : Heap), YP w h → (K w.params).In h)
    (F : ∀ (w : World) (mg : Str → Option Value) (fa : Addr) (h : Heap), YP w h → (K w.params).In h → h.Ns mainGlobals mg → mg d.name = some (.ref fa) →
      ∃ fd : FuncData, (∀ (s : Shared) (us : List Value), us.length = ps.length → BindsTo s fd ⟨us, []⟩ (ps.zip us)) ∧
        ∀ base : Heap, (K w.params).In base → base.Ns mainGlobals mg → FnOk r.prog w (K w.params) mg base CX k fa fd ps (sp (K w.params)))
    (hsp : ∀ (K : PySem.W.Frag) (H : Hp) (xs : List V) (a : Codec.denoteAll r.args), OnlyF H → Codec.withinAll r.args a = true → Codec.app r.args r.asked a = true → DwAll K H xs (Codec.encAll r.args a) →
      sp K xs H (fun v H' => Dw K H' v (r.ret.enc (Codec.app r.args r.f a))) fun _ _ _ => False)
    (hCX : ∀ (H : Hp) (s : Shared) (e : Value) (s' : Shared), CX [] H s (fun _ _ _ => False) e s' → False) :
    PySem.W.WalkOS q loose XP YP r d [] (fun f vs => PySem.call f vs) :=
  walk_spec (K := K) (CX := fun _ => CX) (sp := fun w => sp (K w.params)) hwell hdf hlen hr hY F (fun w H xs a h1 h2 h3 h4 => hsp (K w.params) H xs a h1 h2 h3 h4) fun _ H s e s' => hCX H s e s'
end L2
end
end
section
set_option Elab.async false
set_option linter.all false
set_option maxRecDepth 100000
namespace L2
open PySem PySem.Spec PyProof.Rows

def ExTb (C e : Addr) (h : Heap) (free : Addr → Prop) : Prop :=
  ∃ oe vs T oT ts, h.get? e = some oe ∧ oe.cls = .ref C ∧ oe.data = .fields vs ∧ free e ∧ vs[1]? = some (.ref T) ∧ T ≠ e ∧ free T ∧ h.get? T = some oT ∧ oT.data = .fields ts ∧ 3 < ts.size
def ExNew (C e : Addr) (h : Heap) (free : Addr → Prop) : Prop :=
  ∃ oe vs, h.get? e = some oe ∧ oe.cls = .ref C ∧ oe.data = .fields vs ∧ free e ∧ vs[1]? = some Value.none
def ExAt (C e : Addr) (h : Heap) (free : Addr → Prop) : Prop := ExNew C e h free ∨ ExTb C e h free
theorem ExTb.to {C e : Addr} {h h' : Heap} {free free' : Addr → Prop} (x : ExTb C e h free) (i : ∀ b, free b → free' b) (k : ∀ b o, free b → h.get? b = some o → h'.get? b = some o) : ExTb C e h' free' := by
  obtain ⟨oe, vs, T, oT, ts, a1, a2, a3, a4, a5, a6, a7, a8, a9⟩ := x
  exact ⟨oe, vs, T, oT, ts, k _ _ a4 a1, a2, a3, i _ a4, a5, a6, i _ a7, k _ _ a7 a8, a9⟩
theorem ExAt.to {C e : Addr} {h h' : Heap} {free free' : Addr → Prop} (x : ExAt C e h free) (i : ∀ b, free b → free' b) (k : ∀ b o, free b → h.get? b = some o → h'.get? b = some o) : ExAt C e h' free' := by
  rcases x with ⟨oe, vs, a1, a2, a3, a4, a5⟩ | x
  · exact .inl ⟨oe, vs, k _ _ a4 a1, a2, a3, i _ a4, a5⟩
  · exact .inr (x.to i k)

section
variable {X : Cx} {pins : List (Addr × Obj)} {σ : St} {H H' : Hp} {s : Shared} {h' : Heap}
/-- what was not there is free -/
theorem Inv.fpNone {b : Addr} (I : Inv X pins σ H s) (hb : s.heap.get? b = none) (hn : H' b = none) : FpOk X pins H' b := by
  refine ⟨hn, fun z => ?_, fun z => ?_, ?_, fun x c e z => ?_, fun p hp z => ?_⟩
  · obtain ⟨m, ⟨o, _, _, ho, _⟩, _⟩ := I.loc
    rw [z, ho] at hb; cases hb
  · obtain ⟨_, o, ho, _⟩ := I.funs.mem z
    rw [ho] at hb; cases hb
  · by_cases hx : b ∈ X.ex
    · exact .inl hx
    · refine .inr ?_
      cases q : X.s_0.heap.get? b with
      | none => rfl
      | some o =>
        obtain ⟨o', e⟩ := I.base.there b o q hx
        rw [hb] at e; cases e
  · obtain ⟨v, o, ho, _⟩ := I.cell x c e
    rw [z, hb] at ho; cases ho
  · have := (I.pin p hp).1
    rw [z, hb] at this; cases this
theorem Inv.noneOf {b : Addr} (I : Inv X pins σ H s) (hb : s.heap.get? b = none) : H b = none := by
  cases q : H b with
  | none => rfl
  | some u =>
    have x := I.hok b u q
    have : ∃ o, s.heap.get? b = some o := by
      clear q
      induction u with
      | lst xs => obtain ⟨_, _, _, _, e⟩ := x; exact ⟨_, e⟩
      | tup xs => obtain ⟨_, _, _, o, e, _⟩ := x; exact ⟨o, e⟩
      | dK kvs => obtain ⟨_, _, _, _, o, _, _, e, _⟩ := x; exact ⟨o, e⟩
      | dT kvs => obtain ⟨_, _, _, _, o, _, _, e, _⟩ := x; exact ⟨o, e⟩
      | dN kvs => obtain ⟨_, _, _, _, o, _, _, e, _⟩ := x; exact ⟨o, e⟩
      | set S n => obtain ⟨o, _, _, _, e, _⟩ := x; exact ⟨o, e⟩
      | ins C dx fs => obtain ⟨_, _, _, e, _⟩ := x; exact ⟨_, e⟩
      | own y => exact x
      | xd fs => obtain ⟨_, ⟨o, _, _, e, _⟩, _⟩ := x; exact ⟨o, e⟩
      | rng lo hi => obtain ⟨_, _, _, e⟩ := x; exact ⟨_, e⟩
      | frz ob u ih => obtain ⟨e, _⟩ := x; exact ⟨_, e⟩
      | tbl ps => exact ⟨_, x⟩
      | met f y => exact ⟨_, x⟩
      | ext φ => obtain ⟨_, e, _⟩ := x; exact e
    obtain ⟨o, e⟩ := this
    rw [hb] at e; cases e
/-- records of ours have turned, and the running frames' slots -/
theorem Inv.turnedX {ch : List Addr} (I : Inv X pins σ H s) (hch : ∀ b ∈ ch, FpOk X pins H b)
    (k : ∀ b o, b ∉ ch → b ∉ frs X.stack → s.heap.get? b = some o → h'.get? b = some o) (ks : ∀ b o, b ∉ ch → s.heap.get? b = some o → ∃ sl, h'.get? b = some { o with slots := sl }) : Inv X pins σ H { s with heap := h' } := by
  have nch : ∀ b u, H b = some u → b ∉ ch := fun b u e z => by rw [(hch b z).1] at e; cases e
  have nst : ∀ b u, H b = some u → b ∉ frs X.stack := fun b u e z => by rw [I.stkFree b z] at e; cases e
  refine I.call (h' := h') (g' := s.gens) (d' := s.drawn) (t' := s.toks) (ch := ch) ⟨fun b o e n hb hx => k b o hx hb e, fun b o e n hb hx => ks b o hx e, fun _ _ _ n _ => n, fun b o e hx => ?_, fun _ _ q => q, fun _ _ _ q => q, fun _ ps q => ⟨#[], by rw [q]; simp⟩⟩
    (fun b u e => ?_) I.bare fun b hb => ?_
  · obtain ⟨sl, q⟩ := ks b o hx e
    exact ⟨_, q⟩
  · refine (I.hok b u e).stay (fun c v hc q => ?_) (fun _ q => q) fun _ _ q => q
    rcases hc with z | z
    · rw [z] at q ⊢; exact k b v (nch b u e) (nst b u e) q
    · exact k c v (nch c _ z) (nst c _ z) q
  · obtain ⟨f0, f1, f2, f3, f4, f5⟩ := hch b hb
    exact ⟨f3, f1, f4, f5⟩
theorem FpOk.nst {b : Addr} (I : Inv X pins σ H s) (f : FpOk X pins H' b) : b ∉ frs X.stack := fun z => by
  rcases List.mem_cons.mp (I.stkSub b z) with e | e
  · exact f.2.1 e
  · exact f.2.2.1 e
/-- the frame that notes: the innermost that runs -/
def Top1 (X : Cx) : Prop := ∃ env0 rest L, X.stack = env0 :: rest ∧ env0.frame = some L ∧ X.env.frame = some L
theorem upd_rec {b : Addr} {o : Obj} {vs : Array Value} {i : Nat} {x : Value} (I : Inv X pins σ H s) (f : FpOk X pins H b) (hb : s.heap.get? b = some o) (hd : o.data = .fields vs) :
    Inv X pins σ H { s with heap := s.heap.update b (Obj.mapFields (·.setIfInBounds i x)) } :=
  I.turnedX (ch := [b]) (fun c hc => by rw [List.mem_singleton.mp hc]; exact f) (fun c o hc _ e => by rw [Heap.get?_update_other _ _ (fun z => hc (by rw [z]; exact List.mem_singleton.mpr rfl))]; exact e)
    fun c o hc e => ⟨o.slots, by rw [Heap.get?_update_other _ _ (fun z => hc (by rw [z]; exact List.mem_singleton.mpr rfl))]; exact e⟩
theorem note_x {C e : Addr} {A : Around} {Q : Unit → Shared → Prop} {E : Value → Shared → Prop} (hA : A.frames = some X.stack) (tp : Top1 X) (I : Inv X pins σ H s) (hx : ExAt C e s.heap (FpOk X pins H))
    (hQ : ∀ s', Inv X pins σ H s' → ExTb C e s'.heap (FpOk X pins H) → Q () s') : wpAny (model X.prog X.w) A (noteFrame (.ref e) X.env) Q E s := by
  obtain ⟨env0, rest, L, hst, hf0, hf⟩ := tp
  have entry : ∀ (s : Shared) (head : Value) (hadNext : Bool), Inv X pins σ H s → (∃ oe vs, s.heap.get? e = some oe ∧ oe.cls = .ref C ∧ oe.data = .fields vs ∧ FpOk X pins H e ∧ 1 < vs.size) →
      wpAny (model X.prog X.w) A (do let a ← PySem.frameOf X.env; let pl ← entryPlaceOf L hadNext; let b ← EntryCells.newEntry head a .none (rawInt L) .none pl; setField (.ref e) 1 b) Q E s := by
    intro s head hadNext I ⟨oe, vs, he, hc, hd, fe, hsz⟩
    refine wpAny_bind ?_
    unfold PySem.frameOf
    refine wpAny_bind (wpAny_frameEnvs hA ?_)
    have hdw : (X.stack.dropWhile fun x => x.frame != X.env.frame) = env0 :: rest := by rw [hst, List.dropWhile_cons, hf0, hf]; simp
    rw [hdw]
    have hl := I.stack
    rw [hst] at hl
    unfold frameObject
    refine wpAny_bind (wpAny_bind (wpAny_readyFrames_fun hl fun h₁ hs₁ => wpAny_pure ?_))
    rw [hf0]
    refine wpAny_pure ?_
    have hfs : (env0 :: rest).filterMap (·.frame) = frs X.stack := by rw [hst]; rfl
    rw [hfs] at hs₁
    have I1 : Inv X pins σ H { s with heap := h₁ } := I.turnedX (ch := []) (fun _ z => nomatch z) (fun b o _ hb e => (hs₁.2.1 b hb).trans e) fun b o _ e => hs₁.2.2 b o e
    have he₁ : h₁.get? e = some oe := (hs₁.2.1 e (fe.nst I)).trans he
    refine wpAny_bind (wpAny_entryPlaceOf fun pl hpl => ?_)
    unfold EntryCells.newEntry newFields
    refine wpAny_bind (wpAny_newObj_type ?_ (hpl.sizeOk5 _ _ _ _ _))
    have he₂ := Heap.get?_push_of_some (h := h₁) { cls := .type "traceback", dict := none, data := .fields ([head, .ref L, .none, rawInt L, .none] ++ (if pl.isEmpty then List.replicate 6 Value.none else pl)).toArray } he₁
    have I2 : Inv X pins σ H { s with heap := h₁.push { cls := .type "traceback", dict := none, data := .fields ([head, .ref L, .none, rawInt L, .none] ++ (if pl.isEmpty then List.replicate 6 Value.none else pl)).toArray } } := I1.kept (t' := s.toks) fun b o q => Heap.get?_push_of_some _ q
    have fT : FpOk X pins H h₁.objs.size := I1.fpOk (Nat.le_refl _) (I1.hok.fresh (Nat.le_refl _))
    have hTe : h₁.objs.size ≠ e := Nat.ne_of_gt (Heap.lt_size he₁)
    refine wpAny_setField he₂ hd hsz (hQ _ (upd_rec I2 fe he₂ hd) ?_)
    have hd₃ := Obj.data_mapFields hd (·.setIfInBounds 1 (Value.ref h₁.objs.size))
    have hT₃ : ((h₁.push { cls := .type "traceback", dict := none, data := .fields ([head, .ref L, .none, rawInt L, .none] ++ (if pl.isEmpty then List.replicate 6 Value.none else pl)).toArray }).update e (Obj.mapFields (·.setIfInBounds 1 (Value.ref h₁.objs.size)))).get? h₁.objs.size =
        some { cls := .type "traceback", dict := none, data := .fields ([head, .ref L, .none, rawInt L, .none] ++ (if pl.isEmpty then List.replicate 6 Value.none else pl)).toArray } := by
      rw [Heap.get?_update_other _ _ (Ne.symm hTe)]
      exact Heap.get?_push_size h₁ rfl
    refine ⟨_, _, h₁.objs.size, _, _, Heap.get?_update_self _ he₂ (Obj.isFreed_of_fields hd₃), (Obj.cls_mapFields _ _).trans hc, hd₃, fe, by simp [hsz], hTe, fT, hT₃, rfl, ?_⟩
    simp only [List.size_toArray, List.length_append, List.length_cons, List.length_nil] <;> omega
  unfold noteFrame
  simp only [hf]
  rcases hx with ⟨oe, vs, he, hc, hd, fe, h1⟩ | ⟨oe, vs, T, oT, ts, he, hc, hd, fe, h1, ne, fT, hT, hdT, h3⟩
  · refine wpAny_bind (wpAny_field he hd h1 ?_)
    rw [if_neg (by decide)]
    exact entry s _ _ I ⟨oe, vs, he, hc, hd, fe, (Array.getElem?_eq_some_iff.mp h1).1⟩
  · refine wpAny_bind (wpAny_field he hd h1 ?_)
    rw [if_pos (show (Value.ref T != Value.none) = true from by simp)]
    refine wpAny_bind (wpAny_field hT hdT (Array.getElem?_eq_getElem h3) ?_)
    by_cases hfl : (ts[3] == rawInt L) = true
    · rw [if_pos hfl]
      exact wpAny_pure (hQ s I ⟨oe, vs, T, oT, ts, he, hc, hd, fe, h1, ne, fT, hT, hdT, h3⟩)
    · rw [if_neg hfl]
      refine wpAny_bind (wpAny_setField hT hdT h3 ?_)
      exact entry _ _ _ (upd_rec I fT hT hdT) ⟨oe, vs, by rw [Heap.get?_update_other _ _ ne]; exact he, hc, hd, fe, (Array.getElem?_eq_some_iff.mp h1).1⟩
theorem flight_x {M : Model} {C e : Addr} {A : Around} {fr : Option Addr} {Q : Unit → Shared → Prop} {E : Value → Shared → Prop} (I : Inv X pins σ H s) (hx : ExTb C e s.heap (FpOk X pins H))
    (hQ : ∀ s', Inv X pins σ H s' → ExTb C e s'.heap (FpOk X pins H) → Q () s') : wpAny M A (setFlight (.ref e) fr) Q E s := by
  obtain ⟨oe, vs, T, oT, ts, he, hc, hd, fe, h1, ne, fT, hT, hdT, h3⟩ := hx
  unfold setFlight
  refine wpAny_bind (wpAny_field he hd h1 ?_)
  rw [if_pos (show (Value.ref T != Value.none) = true from by simp)]
  refine wpAny_setField hT hdT h3 (hQ _ (upd_rec I fT hT hdT) ?_)
  have hd₃ := Obj.data_mapFields hdT (·.setIfInBounds 3 (fr.elim Value.none fun f => rawInt f))
  exact ⟨oe, vs, T, _, _, by rw [Heap.get?_update_other _ _ ne]; exact he, hc, hd, fe, h1, ne, fT, Heap.get?_update_self _ hT (Obj.isFreed_of_fields hd₃), hd₃, by simpa using h3⟩
end

/-- an exception lies behind a call -/
def CXF (P : Program) (w : World) : CXT := fun outer H s E e s' => ∃ (x C : Addr) (H' : Hp), e = .ref x ∧ s'.os = s.os ∧ AllBare s'.gens ∧ Un (frs outer) [] H H' s.heap s'.heap ∧ HOk P w H' s'.heap ∧
  ExAt C x s'.heap (fun b => H' b = none ∧ s.heap.get? b = none) ∧ E (.ref C) none H'
/-- what the context makes of an exception -/
def Takes (X : Cx) (E : XK) : Prop := ∀ (pins : List (Addr × Obj)) (σ : St) (H : Hp) (e C : Addr) (s' : Shared), Inv X pins σ H s' → ExAt C e s'.heap (FpOk X pins H) → E (.ref C) none H → X.xe (.ref e) s'
theorem passes_of {X : Cx} {E : XK} (t : Takes X E) : Passes (CXF X.prog X.w) X E := by
  intro pins σ H s e s' I hc
  obtain ⟨x, C, H', rfl, os, bare, un, hok, ex, q⟩ := hc
  have I' : Inv X pins σ H' s' := I.call' os un hok bare (ch := []) fun b z => absurd z (by simp)
  exact t pins σ H' x C s' I' (ex.to (fun b ⟨h1, h2⟩ => I.fpNone h2 h1) fun b o _ e => e) q
theorem top_def {CX : CXT} {P : Program} {w : World} {K : PySem.W.Frag} {mg : Str → Option Value} {base : Heap} {N : List Str} {qual : Str} {scope : Scope} {f : Addr} {cd : Value} {A : Around} {outer : List Env} {s : Shared} {H : Hp} {E : XK} :
    Top1 (cxOf CX P w K mg base N qual scope f cd A outer s H E) := ⟨_, _, _, rfl, rfl, rfl⟩
theorem takes_def {P : Program} {w : World} {K : PySem.W.Frag} {mg : Str → Option Value} {base : Heap} {N : List Str} {qual : Str} {scope : Scope} {f : Addr} {cd : Value} {A : Around} {outer : List Env} {s : Shared} {H : Hp} {E : XK} :
    Takes (cxOf (CXF P w) P w K mg base N qual scope f cd A outer s H E) E := by
  intro pins σ H1 e C s' I hx q
  show wpAny _ _ (leaving _ (.ref e)) _ _ s'
  unfold leaving
  refine wpAny_bind (note_x (X := cxOf (CXF P w) P w K mg base N qual scope f cd A outer s H E) I.ok.frames top_def I hx fun s2 I2 hx2 => ?_)
  refine flight_x I2 hx2 fun s3 I3 hx3 => ?_
  refine ⟨e, C, H1, rfl, I3.os, I3.bare, I3.base, I3.hok, .inr (hx3.to (fun b fb => ⟨fb.1, ?_⟩) fun b o _ e => e), q⟩
  rcases fb.2.2.2.1 with z | z
  · exact absurd (show b ∈ ([] : List Addr) from z) (by simp)
  · exact z
theorem passes_own_def {P : Program} {w : World} {K : PySem.W.Frag} {mg : Str → Option Value} {base : Heap} {N : List Str} {qual : Str} {scope : Scope} {f : Addr} {cd : Value} {A : Around} {outer : List Env} {s : Shared} {H : Hp} {E : XK} :
    PassesOwn (model P w) (cxOf (CXF P w) P w K mg base N qual scope f cd A outer s H E).A (cxOf (CXF P w) P w K mg base N qual scope f cd A outer s H E).env (cxOf (CXF P w) P w K mg base N qual scope f cd A outer s H E).xe := PassesOwn.leaving
/-- a def whose body may raise -/
theorem Fun.okX {P : Program} {w : World} {K : PySem.W.Frag} {mg : Str → Option Value} {base : Heap} {x qual : Str} {st : Stmt} {f : Addr} {fd : FuncData} {N ps : List Str} {k : Nat} {sp : Sp} (F : Fun K x qual st f fd) (S : FnScope N ps (defScope st)) (len : ∀ vs H Q E, sp vs H Q E → vs.length = ps.length)
    (hbody : ∀ (cdv : Value) (A : Around) (outer : List Env) (s : Shared) (H : Hp) (vs : List V) (Q : VK) (E : XK), Room k (A.deeper (envOfC qual (defScope st) s.heap.objs.size f cdv)) → sp vs H Q E →
      ∃ t, PSs (cxOf (CXF P w) P w K mg base N qual (defScope st) f cdv A outer s H E) (defBody st) t ∧ t { nx := fun _ H' => Q .non H', rt := Q } (start N vs) H) : FnOk P w K mg base (CXF P w) (k + 1) f fd ps sp := by
  obtain ⟨oc, od, kV, doc, pm, an, cdv, ct, osl, rfl, lk, hcd⟩ := F.ex
  exact fn_of lk hcd S len fun A outer s H vs Q E hr hsp => hbody cdv A outer s H vs Q E hr hsp

section
variable {X : Cx}
theorem own_obj {K : PySem.W.Frag} {h : Heap} {C : Addr} {bmB : List Value} {newId : String} (KX : K.In h) (q : PySem.W.excIn K C bmB newId = true) :
    ∃ bm N nm q bs hdct sn sub ab col dd k0 k1 k2 k3 k5 mN, h.get? C = some (excClassObj nm q C N bs bm hdct sn sub ab col dd k0 k1 k2 k3 k5 newId) ∧ h.Ns N mN ∧ mN "__init__" = none ∧ OwnTail h bmB bm := by
  unfold PySem.W.excIn at q
  split at q
  · rename_i dd cd sl ho
    split at q
    · rename_i C' bm k0 k1 k2 k3 n k5 hm hs
      simp only [Bool.and_eq_true, beq_iff_eq, Bool.not_eq_true'] at q
      obtain ⟨⟨⟨⟨⟨rfl, rfl⟩, hdel⟩, ht⟩, hok⟩, hni⟩ := q
      obtain ⟨nm, bs, mro, ns, qn, hd, sn, sub, ab, col, del⟩ := cd
      dsimp only at hm hdel hok hni
      subst hm hdel
      have hsl : sl = #[k0, k1, k2, k3, some (.builtin n), k5] := by
        obtain ⟨l⟩ := sl
        simp only at hs
        rw [hs]
      subst hsl
      exact ⟨bm, ns, nm, qn, bs, hd, sn, sub, ab, col, dd, k0, k1, k2, k3, k5, _, KX _ _ ho, .of_isNs (PySem.W.isNs_of_in KX hok), PySem.W.nsMap_none_of_in KX hok hni, PySem.W.tail_of_in KX ht⟩
    · cases q
  · cases q
def tRaise (C : Addr) (E : XK) : TS := fun _ _ H => E (.ref C) none H
theorem ps_raise0 {x : Str} {np cpos pos : Pos} {C : Addr} {bmB : List Value} {B newId initId : String} {E : XK} (hc : X.calm = true) (hg : Gl X x) (hm : X.mg x = some (.ref C)) (q : PySem.W.excIn X.K C bmB newId = true) (FB : ExcBaseFacts B newId initId bmB)
    (tk : Takes X E) (hd : (x == ("__debug__" : Str)) = false := by decide) : PS X (.Raise (some (.Call (.Name x np) [] [] cpos)) none pos) (tRaise C E) := by
  intro pins s σ H D I h
  obtain ⟨tl, N, nm, qn, bs, hdct, sn, sub, ab, col, dd, k0, k1, k2, k3, k5, mN, hC, hN, hni, T⟩ := own_obj I.kIn q
  refine wpAny_Raise_call_subT (C := C) (nm := nm) (q := qn) (N := N) (bs := bs) (bm := tl) (hdct := hdct) (sn := sn) (sub := sub) (ab := ab) (col := col) (dd := dd) (k0 := k0) (k1 := k1) (k2 := k2) (k3 := k3) (k5 := k5)
    FB (mN := mN) (T.hasType FB.hasBase) (I.ok.hd hc) rfl hni (ld_glob I hg hm ⟨rfl, ?_⟩ hd)
  refine evalArgs_empty ⟨rfl, Nat.zero_le _, hC, hN, T, fun h' e hm' => ?_⟩
  obtain ⟨t, he, _, _⟩ := hm'.there
  exact tk pins σ H e C _ (I.kept (t' := s.toks) hm'.keeps) (.inl ⟨_, _, he, rfl, rfl, I.fpNone hm'.new (I.noneOf hm'.new), rfl⟩) h
end
end L2
end
section
set_option Elab.async false
set_option linter.all false
set_option maxRecDepth 100000
namespace L2
open PySem PySem.Spec PyProof.Rows
/-- the context of a block whose exceptions are wanted as E says -/
abbrev Cx.blkE (X : Cx) (E : XK) (s : Shared) (H : Hp) (scope : Scope) (cenv : Env) (fp : List Addr) : Cx :=
  (X.blk s H scope cenv fp).wish fun e s' => ∃ (x C : Addr) (σ' : St) (H' : Hp), e = .ref x ∧ Inv (X.blk s H scope cenv fp) [] σ' H' s' ∧ ExAt C x s'.heap (FpOk (X.blk s H scope cenv fp) [] H') ∧ E (.ref C) none H'
theorem takes_blk {X : Cx} {E : XK} {s : Shared} {H : Hp} {scope : Scope} {cenv : Env} {fp : List Addr} : Takes (X.blkE E s H scope cenv fp) E := by
  intro pins σ H1 e C s' I hx q
  have I1 : Inv (X.blk s H scope cenv fp) pins σ H1 s' := I.unwish
  refine ⟨e, C, σ, H1, rfl, I1.pins_of (fun p hp => absurd hp (by simp)), hx.to (fun b f => ⟨f.1, f.2.1, f.2.2.1, f.2.2.2.1, f.2.2.2.2.1, fun p hp => absurd (show p ∈ ([] : List (Addr × Obj)) ++ [] from hp) (by simp)⟩) fun b o _ e => e, q⟩
section
variable {X : Cx}
theorem lc_coreX {EX : XK} {pins : List (Addr × Obj)} {s : Shared} {σ : St} {H : Hp} {Q : VK} {elt tg iter : Expr} {ifs : List Expr} {scope : Scope} {own : List (Str × Nat)} {pos pos' : Pos} {wi : TI} {g : TG} {tt : TT} {te : TE} {use : Option (Value → Sem Unit)} {Qf : Value → Shared → Prop}
    (tk : Takes X EX) (tp : Top1 X) (hc : X.calm = true) (hN : X.N.Nodup) (I : Inv X pins σ H s) (hi : PI X tg iter wi) (ok : BlkOk X.N X.env.scope scope own)
    (hg : ∀ (s : Shared) (H : Hp) (C : Addr) (cl : List (Str × Addr)) (fp : List Addr), PG (X.blkE EX s H scope (compEnvC scope cl C X.env) fp) tg g) (ht : ∀ (s : Shared) (H : Hp) (C : Addr) (cl : List (Str × Addr)) (fp : List Addr), PTs (X.blkE EX s H scope (compEnvC scope cl C X.env) fp) ifs tt)
    (he : ∀ (s : Shared) (H : Hp) (C : Addr) (cl : List (Str × Addr)) (fp : List Addr), PE (X.blkE EX s H scope (compEnvC scope cl C X.env) fp) elt te) (hs : ∀ x, foldedSetIterable iter X.env x = pure x)
    (h : tLc wi g tt te (own.map (·.2)) σ H Q)
    (hRR : ∀ D C s' m H', Inv X pins σ H' s' → Q (.ref D) H' → s'.heap.Ns C m → FpOk X pins H' C → compPost (model X.prog X.w) X.A X.xe use Qf (.ref D) C (.ok .next) s') :
    wpAny (model X.prog X.w) X.A (comprehension (.ListComp elt [⟨tg, iter, ifs, 0⟩] scope pos) scope X.env pos' (newList []) false (eval iter X.env) use) Qf X.xe s := by
  have hfree : ∀ y ∈ scope.names, y.2 = .free → ∃ c, X.env.cells.lookup y.1 = some c := fun y hy e => by
    rcases ok.free y hy e with k | k
    · exact I.ok.has _ (.inl k)
    · exact I.ok.has _ (.inr k)
  refine wpAny_comprehension_free (use := use) rfl hs (closure_ok hfree) ok.kind (fun y hy e => by rw [ok.uniq y hy, e])
    (thn (hi pins s σ H _ I h) fun xv s1 hx => thn hx fun itv s2 h2 => ?_)
  obtain ⟨it, fp, tn, J, H2, e, I2, T, st2, f2, q⟩ := h2
  subst e
  refine wpAny_newObj_type (newEnv_comp ?_) (by show 0 ≤ sizeLine; decide)
  generalize hD : s2.heap.objs.size = D
  have hDn : H2 D = none := I2.hok.fresh (Nat.le_of_eq hD)
  obtain ⟨W, ⟨m0, w0⟩, turn⟩ := q D hDn
  -- the new list
  generalize hs3 : ({ s2 with heap := s2.heap.push { cls := .type "list", data := .seq ([] : List Value).toArray } } : Shared) = s3
  have I3 : Inv X pins σ (upd H2 D (.lst [])) s3 := by
    rw [← hs3]
    refine I2.laid (t' := s2.toks) (fun b o e => Heap.get?_push_of_some _ e) (Nat.le_of_eq hD) ⟨Nat.zero_le _, [], 0, .nil, ?_⟩
    rw [← hD]
    exact Heap.get?_push_size _ rfl
  have h3 : s3.heap = s2.heap.push { cls := .type "list", data := .seq ([] : List Value).toArray } := by rw [← hs3]
  have sz : ∀ b ∈ fp, b < s2.heap.objs.size := fun b hb => by
    obtain ⟨o, e, _⟩ := T.obj _ _ st2 b hb
    exact Heap.lt_size e
  have f3 : ∀ b ∈ fp, FpOk X pins (upd H2 D (.lst [])) b ∧ b < s3.heap.objs.size := fun b hb => by
    have hlt := sz b hb
    refine ⟨⟨?_, (f2 b hb).2⟩, by rw [h3, Heap.size_push]; exact Nat.lt_succ_of_lt hlt⟩
    rw [upd_ne (by rw [← hD]; exact Nat.ne_of_lt hlt)]
    exact (f2 b hb).1
  have st3 : tn 0 s3.heap := T.keep _ _ _ st2 fun b _ o e => by rw [h3]; exact Heap.get?_push_of_some _ e
  have I4 := (block_start I3 ok hN f3).wish (X.blkE EX s3 (upd H2 D (.lst [])) scope (compEnvC scope (cellsFrom (s3.heap.objs.size + 1) scope.names (cloFrom X.env.cells scope.names [])) s3.heap.objs.size X.env) fp).xe
  have pg := hg s3 (upd H2 D (.lst [])) s3.heap.objs.size (cellsFrom (s3.heap.objs.size + 1) scope.names (cloFrom X.env.cells scope.names [])) fp
  have pt := ht s3 (upd H2 D (.lst [])) s3.heap.objs.size (cellsFrom (s3.heap.objs.size + 1) scope.names (cloFrom X.env.cells scope.names [])) fp
  have pe := he s3 (upd H2 D (.lst [])) s3.heap.objs.size (cellsFrom (s3.heap.objs.size + 1) scope.names (cloFrom X.env.cells scope.names [])) fp
  show codeAny _ _ (.compStart (.ListComp elt [⟨tg, iter, ifs, 0⟩] scope pos) 0 (.ref it) (.ref D) (compEnvC scope (cellsFrom (s3.heap.objs.size + 1) scope.names (cloFrom X.env.cells scope.names [])) s3.heap.objs.size X.env)) (compPost (model X.prog X.w) X.A X.xe use Qf (.ref D) s3.heap.objs.size) { s3 with heap := pushCells (s3.heap.push { cls := .type "dict", data := .dict #[] }) scope.names }
  have nfp : ∀ b ∈ fp, (upd H2 D (.lst [])) b = none := fun b hb => (f3 b hb).1.1
  generalize hce : compEnvC scope (cellsFrom (s3.heap.objs.size + 1) scope.names (cloFrom X.env.cells scope.names [])) s3.heap.objs.size X.env = ce at I4 pg pt pe ⊢
  have cL : ce.locals = s3.heap.objs.size := by subst hce; rfl
  generalize hH3 : upd H2 D (.lst []) = H3 at I3 I4 pg pt pe w0 nfp f3
  generalize hs4 : ({ s3 with heap := pushCells (s3.heap.push { cls := .type "dict", data := .dict #[] }) scope.names } : Shared) = s4 at I4 ⊢
  have st4 : tn 0 s4.heap := T.keep _ _ _ st3 fun b _ o e => by rw [← hs4]; exact pushCells_keeps _ _ _ _ (Heap.get?_push_of_some _ e)
  have stat : ∀ {σ' : St} {H' : Hp} {s' : Shared}, Inv (X.blkE EX s3 H3 scope ce fp) [] σ' H' s' → (∀ b ∈ fp, H' b = none) → ∀ b ∈ fp, FpOk (X.blkE EX s3 H3 scope ce fp) [] H' b := fun {σ' H' s'} I' hn b hb =>
    ⟨hn b hb, (I'.ok.exf b hb).1, I'.ok.exfs b hb, .inl hb, fun x c e => (I'.ok.exf b hb).2 x c e, fun p hp => absurd (show p ∈ ([] : List (Addr × Obj)) ++ [] from hp) (by simp)⟩
  have tpB : Top1 (X.blk s3 H3 scope ce fp) := by
    obtain ⟨env0, rest, L, h1, h2, h3⟩ := tp
    exact ⟨env0, rest, L, h1, h2, by subst hce; exact h3⟩
  have errs : ∀ e s', (X.blkE EX s3 H3 scope ce fp).xe e s' → notedBy (model X.prog X.w) X.A ce (fun e s' => compPost (model X.prog X.w) X.A X.xe use Qf (.ref D) s3.heap.objs.size (.error e) s') e s' := by
    rintro _ s' ⟨x, C, σ', H', rfl, I', hx, q⟩
    show wpAny _ _ (noteFrame (.ref x) ce) _ _ s'
    refine note_x (X := X.blk s3 H3 scope ce fp) I.ok.frames tpB I' hx fun s5 I5 hx5 => ?_
    have back : Inv X pins σ H' s5 := I3.call' (ch := fp) I5.os I5.base I5.hok I5.bare fun b hb => ⟨(f3 b hb).1.2.2.2.1, (f3 b hb).1.2.1, (f3 b hb).1.2.2.2.2.1, (f3 b hb).1.2.2.2.2.2⟩
    have fX : ∀ b, FpOk (X.blk s3 H3 scope ce fp) [] H' b → FpOk X pins H' b := fun b f => by
      rcases f.2.2.2.1 with z | z
      · exact ⟨f.1, (f3 b z).1.2⟩
      · exact I3.fpNone z f.1
    have nC : H' s3.heap.objs.size = none := by
      have z : H' ce.locals = none := I5.free
      rw [cL] at z
      exact z
    obtain ⟨m, hn, _⟩ := I5.loc
    have hn : s5.heap.Ns ce.locals m := hn
    rw [cL] at hn
    have fin : ∀ h'', Heap.SameBut s3.heap.objs.size s5.heap h'' → ∀ cenv : Env, cenv.locals = s3.heap.objs.size → wpAny (model X.prog X.w) X.A (PySem.passOn "comprehension.variables-let-go" (.ref x) cenv : Sem Value) (fun _ _ => False) X.xe { s5 with heap := h'' } := fun h'' sb cenv _ => by
      obtain ⟨g0, g1, g2, g3, g4, g5⟩ := I3.fpOk (Nat.le_refl _) nC
      have I8 : Inv X pins σ H' { s5 with heap := h'' } := back.turned (t' := s5.toks) (fun b o hb e => (sb.2 b hb).trans e) g0 g1 g3 g4 g5
      have hx8 : ExTb C x h'' (FpOk X pins H') := hx5.to fX fun b o f e => (sb.2 b (fun z => f.2.1 (by show b = ce.locals; rw [cL]; exact z))).trans e
      obtain ⟨oe, vs, T, oT, ts, he, hcc, hd, fe, h1, ne, fT, hT, hdT, h3'⟩ := id hx8
      unfold PySem.passOn
      refine wpAny_bind (wpAny_field he hd h1 ?_)
      rw [if_neg (show ¬ ((Value.ref T == Value.none) = true) from by simp)]
      have go : wpAny (model X.prog X.w) X.A (setFlight (.ref x) cenv.frame >>= fun _ => (throw (Value.ref x) : Sem Value)) (fun _ _ => False) X.xe { s5 with heap := h'' } :=
        wpAny_bind (flight_x I8 hx8 fun s9 I9 hx9 => wpAny_throw (tk pins σ H' x C s9 I9 (.inr hx9) q))
      first
        | exact wpAny_bind (wpAny_pure go)
        | exact go
    cases use <;> exact ⟨m, hn, fin⟩
  have loop : codeAny (model X.prog X.w) X.A (.compLoop (.ListComp elt [⟨tg, iter, ifs, 0⟩] scope pos) 0 (.ref it) (.ref D) ce) (compPost (model X.prog X.w) X.A X.xe use Qf (.ref D) s3.heap.objs.size) s4 := by
    refine compLoop_any (fun n s' => ∃ i H', Inv (X.blkE EX s3 H3 scope ce fp) [] (wipe σ (own.map (·.2))) H' s' ∧ tn i s'.heap ∧ (∀ b ∈ fp, H' b = none) ∧ W i n H') ?_ m0 ⟨0, H3, I4, st4, nfp, w0⟩
    rintro n s5 ⟨i, H5, I5, st5, n5, w5⟩
    rcases turn i n H5 w5 with ⟨stop, qq⟩ | ⟨go, Nx, hNx, step⟩
    · have td := T.done (X.blkE EX s3 H3 scope ce fp) rfl rfl rfl hc i [] s5 _ H5 (fun _ _ => False) I5 (stat I5 n5) st5 stop
      refine thnF td fun r s6 ⟨hr, I6⟩ => ?_
      subst hr
      -- back in the def's context
      have I7 : Inv X pins σ H5 s6 := I3.call' (ch := fp) I6.os I6.base I6.hok I6.bare fun b hb => ⟨(f3 b hb).1.2.2.2.1, (f3 b hb).1.2.1, (f3 b hb).1.2.2.2.2.1, (f3 b hb).1.2.2.2.2.2⟩
      have nC : H5 s3.heap.objs.size = none := by
        have z : H5 ce.locals = none := I6.free
        rw [cL] at z
        exact z
      obtain ⟨m, hn, _⟩ := I6.loc
      have hn : s6.heap.Ns ce.locals m := hn
      rw [cL] at hn
      exact hRR D s3.heap.objs.size s6 m H5 I7 qq hn (I3.fpOk (Nat.le_refl _) nC)
    · have ti := T.item (X.blkE EX s3 H3 scope ce fp) rfl rfl rfl hc i [] s5 _ H5 (fun _ _ => False) I5 (stat I5 n5) st5 go
      refine thnF ti fun r s6 ⟨u, hr, h6⟩ => ?_
      subst hr
      refine thnF h6 fun _ s7 ⟨x, H7, I7, r7, y7, st7, n7⟩ => ?_
      have I7' := I7.pinned (stat I7 n7) (T.obj _ _ st7)
      refine wpAny_mono (pg _ s7 _ H7 x u _ I7' r7 (step x H7 y7)) (fun _ s8 ⟨σ8, H8, I8, hw8, q8⟩ => ?_) errs
      refine wpAny_mono (pt _ s8 σ8 H8 _ I8 q8) (fun b s9 ⟨H9, I9, q9⟩ => ?_) errs
      -- the turn's end
      have fin : ∀ {s' : Shared} {H' : Hp}, Inv (X.blkE EX s3 H3 scope ce fp) ([] ++ pinsAt fp s7.heap) σ8 H' s' → Nx H' → ∃ m, m < n ∧ ∃ i H', Inv (X.blkE EX s3 H3 scope ce fp) [] (wipe σ (own.map (·.2))) H' s' ∧ tn i s'.heap ∧ (∀ b ∈ fp, H' b = none) ∧ W i m H' := fun {s' H'} I' nx => by
        obtain ⟨m', hm, w'⟩ := hNx H' nx
        have pin' : ∀ b ∈ fp, ∀ o, s7.heap.get? b = some o → s'.heap.get? b = some o ∧ H' b = none := fun b hb o e =>
          let z := I'.pin (b, o) (List.mem_append_right _ (List.mem_append_right _ (mem_pinsAt hb e)))
          ⟨z.1, z.2.1⟩
        have hl : (wipe σ (own.map (·.2))).length = σ8.length := by rw [← hw8, wipe_length]
        refine ⟨m', hm, i + 1, H', (I'.unpinned (pins := [])).weak hl (fun j v e => ?_), T.keep _ _ _ st7 fun b hb o e => (pin' b hb o e).1, fun b hb => ?_, w'⟩
        · rw [← hw8] at e
          exact (wipe_some e).1
        · obtain ⟨o, e, _⟩ := T.obj _ _ st7 b hb
          exact (pin' b hb o e).2
      cases b with
      | false =>
        simp only [Bool.false_eq_true, if_false] at q9 ⊢
        exact fin I9 q9
      | true =>
        simp only [if_true] at q9 ⊢
        refine wpAny_mono (pe _ s9 σ8 H9 _ I9 q9) (fun z s10 ⟨yv, H10, I10, r10, acc, hD10, hz10, nx⟩ => ?_) errs
        exact app_ok (X := X.blkE EX s3 H3 scope ce fp) I10 hD10 hz10 r10 fun s11 I11 => fin I11 nx
  exact codeAny_compStart_list loop (T.self X.A 0 _ _ _ st4 loop)
/-- a comprehension as a value, its element may raise -/
theorem pe_lcX {EX : XK} {elt tg iter : Expr} {ifs : List Expr} {scope : Scope} {own : List (Str × Nat)} {pos : Pos} {wi : TI} {g : TG} {tt : TT} {te : TE} (tk : Takes X EX) (tp : Top1 X) (hc : X.calm = true) (hN : X.N.Nodup) (hi : PI X tg iter wi) (ok : BlkOk X.N X.env.scope scope own)
    (hg : ∀ (s : Shared) (H : Hp) (C : Addr) (cl : List (Str × Addr)) (fp : List Addr), PG (X.blkE EX s H scope (compEnvC scope cl C X.env) fp) tg g) (ht : ∀ (s : Shared) (H : Hp) (C : Addr) (cl : List (Str × Addr)) (fp : List Addr), PTs (X.blkE EX s H scope (compEnvC scope cl C X.env) fp) ifs tt)
    (he : ∀ (s : Shared) (H : Hp) (C : Addr) (cl : List (Str × Addr)) (fp : List Addr), PE (X.blkE EX s H scope (compEnvC scope cl C X.env) fp) elt te) (hs : ∀ x, foldedSetIterable iter X.env x = pure x := by intro _; rfl) :
    PE X (.ListComp elt [⟨tg, iter, ifs, 0⟩] scope pos) (tLc wi g tt te (own.map (·.2))) := by
  intro pins s σ H Q I h
  rw [eval_ListComp]
  refine lc_coreX tk tp hc hN I hi ok hg ht he hs h fun D C s' m H' I' q hn f => ⟨m, hn, fun h'' sb => ?_⟩
  obtain ⟨f0, f1, f2, f3, f4, f5⟩ := f
  exact ⟨.ref D, H', I'.turned (t' := s'.toks) (fun b o hb e => (sb.2 b hb).trans e) f0 f1 f3 f4 f5, rfl, q⟩
end

/-- the body's context: its exceptions as E says; pn: what is pinned outside -/
abbrev Cx.pin (X : Cx) (pn : List (Addr × Obj)) : Cx := { X with pn := pn, xe := fun _ _ => False }
abbrev Cx.tried (X : Cx) (E : XK) (pn : List (Addr × Obj)) : Cx :=
  (X.pin pn).wish fun e s' => ∃ (x C : Addr) (σ' : St) (H' : Hp), e = .ref x ∧ Inv (X.pin pn) [] σ' H' s' ∧ ExAt C x s'.heap (FpOk (X.pin pn) [] H') ∧ E (.ref C) none H'
/-- the suite's context -/
abbrev Cx.suite (X : Cx) (pn : List (Addr × Obj)) (e : Addr) : Cx := { X with A := X.A.mark (some (.ref e)), calm := false, pn := pn, xe := fun _ _ => False }
section
variable {X : Cx} {pins : List (Addr × Obj)} {σ : St} {H : Hp} {s : Shared}
theorem takes_tried {E : XK} {pn : List (Addr × Obj)} : Takes (X.tried E pn) E := by
  intro pins σ H1 e C s' I hx q
  have I1 : Inv (X.pin pn) pins σ H1 s' := I.unwish
  refine ⟨e, C, σ, H1, rfl, I1.pins_of (fun p hp => absurd hp (by simp)), hx.to (fun b f => ⟨f.1, f.2.1, f.2.2.1, f.2.2.2.1, f.2.2.2.2.1, fun p hp => f.2.2.2.2.2 p (List.mem_append_left _ (by simpa using hp))⟩) fun b o _ e => e, q⟩
theorem Cx.Ok.pin (ok : X.Ok) (pn : List (Addr × Obj)) : (X.pin pn).Ok := ⟨ok.mod, ok.kind, ok.glob, ok.blt, ok.above, ok.inj, ok.has, ok.cab, ok.hd, ok.frames, ok.stk, ok.exf, ok.bs, ok.bsz, ok.noex, ok.exfs, ok.funs, ok.frf⟩
theorem Inv.topin (I : Inv X pins σ H s) : Inv (X.pin (X.pn ++ pins)) [] σ H s := ⟨I.ok.pin _, I.os, I.bare, I.base, I.loc, I.cell, I.free, I.freeC, fun p hp => I.pin p (by simpa using hp), I.hok, I.len⟩
theorem Inv.frompin {pn : List (Addr × Obj)} (ok : X.Ok) (e : pn = X.pn ++ pins) (I : Inv (X.pin pn) [] σ H s) : Inv X pins σ H s := ⟨ok, I.os, I.bare, I.base, I.loc, I.cell, I.free, I.freeC, fun p hp => I.pin p (by rw [List.append_nil]; show p ∈ pn; rw [e]; exact hp), I.hok, I.len⟩
theorem Inv.tosuite {pn : List (Addr × Obj)} {e : Addr} (I : Inv (X.pin pn) [] σ H s) : Inv (X.suite pn e) [] σ H s := by
  have ok := I.ok
  exact ⟨⟨ok.mod, ok.kind, ok.glob, ok.blt, ok.above, ok.inj, ok.has, ok.cab, fun z => absurd (show false = true from z) (by decide), ok.frames, ok.stk, ok.exf, ok.bs, ok.bsz, ok.noex, ok.exfs, ok.funs, ok.frf⟩, I.os, I.bare, I.base, I.loc, I.cell, I.free, I.freeC, I.pin, I.hok, I.len⟩
theorem Inv.fromsuite {pn : List (Addr × Obj)} {e : Addr} (ok : X.Ok) (q : pn = X.pn ++ pins) (I : Inv (X.suite pn e) [] σ H s) : Inv X pins σ H s := ⟨ok, I.os, I.bare, I.base, I.loc, I.cell, I.free, I.freeC, fun p hp => I.pin p (by rw [List.append_nil]; show p ∈ pn; rw [q]; exact hp), I.hok, I.len⟩
end
end L2
end
section
set_option Elab.async false
set_option linter.all false
set_option maxRecDepth 100000
namespace L2
open PySem PySem.Spec PyProof.Rows

abbrev KN (H : Hp) : List (List (List Key) × V) → List (List (List Key) × Addr × Value) → Prop := Paired fun p q => p.1 = q.1 ∧ NKey H p.1 q.2.1 ∧ RelV p.2 q.2.2
theorem KN.val {H : Hp} {kvs : List (List (List Key) × V)} {xs : List (List (List Key) × Addr × Value)} (r : KN H kvs xs) (k : List (List Key)) : RelO (valV kvs k) ((atKey xs k).map (·.2)) := by
  induction r with
  | nil => exact True.intro
  | @cons p q ps qs h t ih =>
    obtain ⟨h1, _, h2⟩ := h
    by_cases e : p.1 = k
    · have e' : q.1 = k := h1.symm.trans e
      have b : atKey (q :: qs) k = some q.2 := by simp [atKey, List.find?_cons, e']
      rw [valV_pos e, b]; exact h2
    · have e' : ¬ q.1 = k := fun z => e (h1.trans z)
      have b : atKey (q :: qs) k = atKey qs k := by simp [atKey, List.find?_cons, e']
      rw [valV_neg e, b]; exact ih
theorem KN.repl {H : Hp} {kvs : List (List (List Key) × V)} {xs : List (List (List Key) × Addr × Value)} (r : KN H kvs xs) (k : List (List Key)) {y : V} {u : Value} (ry : RelV y u) :
    KN H (kvs.map fun kv => if kv.1 = k then (kv.1, y) else kv) (xs.map (putAt k u)) := by
  induction r with
  | nil => exact .nil
  | @cons p q ps qs h t ih =>
    rw [List.map_cons, List.map_cons]
    refine .cons ?_ ih
    obtain ⟨h1, h2, h3⟩ := h
    unfold putAt
    by_cases e : p.1 = k
    · rw [if_pos e, if_pos (h1.symm.trans e)]; exact ⟨h1, h2, ry⟩
    · rw [if_neg e, if_neg (fun z => e (h1.trans z))]; exact ⟨h1, h2, h3⟩
theorem KN.put {H : Hp} {kvs : List (List (List Key) × V)} {xs : List (List (List Key) × Addr × Value)} (r : KN H kvs xs) (k : List (List Key)) {b : Addr} {y : V} {u : Value} (hb : NKey H k b) (ry : RelV y u) :
    KN H (putK kvs k y) (storedH xs k b u) := by
  have e : (kvs.any fun kv => decide (kv.1 = k)) = (atKey xs k).isSome := by
    rw [valV_any, (r.val k).isSome_eq, Option.isSome_map]
  unfold putK storedH
  rw [e]
  by_cases q : (atKey xs k).isSome = true
  · rw [if_pos q, if_pos q]; exact r.repl k ry
  · rw [if_neg q, if_neg q]; exact Paired.snoc r ⟨rfl, hb, ry⟩
theorem KN.keeps {H H' : Hp} {kvs : List (List (List Key) × V)} {xs : List (List (List Key) × Addr × Value)} (r : KN H kvs xs) (ht : ∀ b ys, H b = some (.tup ys) → H' b = some (.tup ys)) : KN H' kvs xs :=
  Paired.mapP r fun _ _ z => ⟨z.1, z.2.1.keeps ht, z.2.2⟩
section
variable {P : Program} {w : World} {H : Hp} {h : Heap} {a : Addr}
theorem nkey_of {kss : List (List Key)} (ok : HOk P w H h) (e : NKey H kss a) : (nestKind (mixKind P w)).is h kss a := by
  obtain ⟨as, e1, e2⟩ := e
  obtain ⟨_, its, r, o, h1, h2, n, h3⟩ := (show ObjOk P w H h a (.tup (as.map V.ref)) from ok a _ e1)
  refine ⟨o, its.toArray, n, h1, h2, h3, ?_⟩
  have key : ∀ {as : List Addr} {kss : List (List Key)} {its : List Value}, Paired (fun (b : Addr) (ks : List Key) => H b = some (.tup (ks.map kV))) as kss → Vals (as.map V.ref) its → NestItems (mixKind P w) h kss its := by
    intro as kss its q
    induction q generalizing its with
    | nil => intro r; rw [List.map_nil] at r; cases r; exact .nil
    | cons hb _ ih =>
      intro r
      rw [List.map_cons] at r
      cases r with
      | cons r1 r2 =>
        cases (show _ = Value.ref _ from r1)
        exact .cons (key_of ok hb) (ih r2)
  simpa using key e2 r
theorem dn_rd {kvs : List (List (List Key) × V)} (ok : HOk P w H h) (e : Rd H a (.dN kvs)) : kvs.length ≤ sizeLine ∧ (a == sysModules) = false ∧
    ∃ xs, KN H kvs xs ∧ h.DictOfH (nestKind (mixKind P w)) a xs := by
  obtain ⟨z, y, xs, r, o, es, ep, h1, h2, h3, h4, h5⟩ := (show ObjOk P w H h a (.dN kvs) from rd_of ok e)
  refine ⟨z, y, xs, r, o, es, ep, h1, h2, h3, h4, fun x hx => ?_, h5⟩
  have all : ∀ {l : List (List (List Key) × V)} {m : List (List (List Key) × Addr × Value)}, KN H l m → ∀ x ∈ m, (nestKind (mixKind P w)).is h x.1 x.2.1 := by
    intro l m q
    induction q with
    | nil => intro x hx; exact nomatch hx
    | @cons p q ps qs hq t ih =>
      intro x hx
      rcases List.mem_cons.mp hx with e | hx
      · subst e
        exact nkey_of ok (by rw [← hq.1]; exact hq.2.1)
      · exact ih x hx
  exact all r x hx
theorem dn_of {kvs : List (List (List Key) × V)} (ok : HOk P w H h) (e : H a = some (.dN kvs)) : kvs.length ≤ sizeLine ∧ (a == sysModules) = false ∧
    ∃ xs, KN H kvs xs ∧ h.DictOfH (nestKind (mixKind P w)) a xs := dn_rd ok (.inl e)
theorem dn_empty (h : Heap) (hb : sysModules < h.objs.size) : ObjOk P w H (h.push { cls := .type "dict", data := .dict #[] }) h.objs.size (.dN []) :=
  ⟨Nat.zero_le _, beq_eq_false_iff_ne.mpr (Ne.symm (Nat.ne_of_lt hb)), [], .nil, _, #[], 0, Heap.get?_push_size _ rfl, ⟨rfl, rfl, rfl⟩, rfl, rfl, List.nodup_nil⟩
end
def tDNewN : TE := fun _ H Q => ∀ p, H p = none → Q (.ref p) (upd H p (.dN []))
section
variable {X : Cx} {pins : List (Addr × Obj)} {σ : St} {H : Hp} {s : Shared} {a b : Addr} {kvs : List (List (List Key) × V)} {k : List (List Key)} {v : V} {r : Value} {A : Around} {E : Value → Shared → Prop}
theorem pe_dnewN {pos : Pos} : PE X (.Dict [] [] pos) tDNewN := fun pins s σ H Q I h =>
  wpAny_Dict_empty ⟨.ref s.heap.objs.size, _, I.laid (a := s.heap.objs.size) (o := .dN []) (t' := s.toks) (fun _ _ q => Heap.get?_push_of_some _ q) (Nat.le_refl _) (dn_empty s.heap I.big), rfl, h _ (I.hok.fresh (Nat.le_refl _))⟩
theorem d_inN {Q : Value → Shared → Prop} (hu : A.units + 3 < cLine) (I : Inv X pins σ H s) (e : Rd H a (.dN kvs)) (eb : NKey H k b) (h : ∀ s', Inv X pins σ H s' → Q (.bool (valV kvs k).isSome) s') :
    wpAny (model X.prog X.w) A (compareOp .In (.ref b) (.ref a)) Q E s := by
  obtain ⟨z, hd, xs, rel, dd⟩ := dn_rd I.hok e
  refine wpAny_in_heap (knd := nestKind (mixKind X.prog X.w)) (show A.units + 1 + 2 < cLine by omega) (nkey_of I.hok eb) hd dd ?_
  have q := (rel.val k).isSome_eq
  rw [Option.isSome_map] at q
  rw [← q]
  exact h _ (I.tok _)
theorem d_getN {Q : Value → Shared → Prop} (hu : A.units + 3 < cLine) (I : Inv X pins σ H s) (e : Rd H a (.dN kvs)) (eb : NKey H k b) (l : valV kvs k = some v) (h : ∀ w' s', Inv X pins σ H s' → RelV v w' → Q w' s') :
    wpAny (model X.prog X.w) A (getItem (.ref a) (.ref b)) Q E s := by
  obtain ⟨z, hd, xs, rel, dd⟩ := dn_rd I.hok e
  obtain ⟨w', hw, rw'⟩ := RelO.some_of (v := v) (o := (atKey xs k).map (·.2)) (by rw [← l]; exact rel.val k)
  obtain ⟨p, hp, hp2⟩ := Option.map_eq_some_iff.mp hw
  refine wpAny_getItem_heap (knd := nestKind (mixKind X.prog X.w)) (show A.units + 1 + 2 < cLine by omega) (nkey_of I.hok eb) dd hp ?_
  rw [hp2]
  exact h w' _ (I.tok _) rw'
theorem dn_write {h' : Heap} {t' : Nat} {ys : List (List (List Key) × V)} {xs : List (List (List Key) × Addr × Value)} (I : Inv X pins σ H s) (e : H a = some (.dN kvs)) (hd : (a == sysModules) = false) (hl : ys.length ≤ sizeLine) (rel : KN H ys xs)
    (dd' : h'.DictOfH (nestKind (mixKind X.prog X.w)) a xs) (hs : Heap.SameBut a s.heap h') : Inv X pins σ (upd H a (.dN ys)) { s with heap := h', toks := t' } := by
  obtain ⟨q, es, ep, hq, h2, h3, h4, _, h5⟩ := dd'
  refine d_write I (by rw [e]; exact True.intro) hs ⟨q, hq⟩ ⟨hl, hd, _, rel.keeps fun c zs ec => ?_, q, es, ep, hq, h2, h3, h4, h5⟩
  rw [upd_ne (ne_of ec e (fun z => nomatch z))]
  exact ec
theorem d_setN {Q : Unit → Shared → Prop} (hu : A.units + 3 < cLine) (I : Inv X pins σ H s) (e : H a = some (.dN kvs)) (eb : NKey H k b) (l : kvs.length < sizeLine) (rv : RelV v r) (h : ∀ s', Inv X pins σ (upd H a (.dN (putK kvs k v))) s' → Q () s') :
    wpAny (model X.prog X.w) A (setItem (.ref a) (.ref b) r) Q E s := by
  obtain ⟨z, hd, xs, rel, dd⟩ := dn_of I.hok e
  have hz : xs.length ≤ sizeLine := by rw [← Paired.length rel]; exact z
  have hl : (putK kvs k v).length ≤ sizeLine := by have := length_putK kvs k v; omega
  exact wpAny_setItem_heap (knd := nestKind (mixKind X.prog X.w)) (hsz := hz) (show A.units + 1 + 2 < cLine by omega) (nkey_of I.hok eb) dd fun h' dd' hs => h _ (dn_write I e hd hl (rel.put k eb rv) dd' hs)
end
/-- y in d -/
def tNIn (ty td : TE) : TE := fun σ H Q => ty σ H fun y H1 => td σ H1 fun x H2 => ∃ a b kvs k, x = .ref a ∧ y = .ref b ∧ Rd H2 a (.dN kvs) ∧ NKey H2 k b ∧ Q (.bl (valV kvs k).isSome) H2
/-- d[y] = v -/
def sNPut (td ty tv : TE) : TS := fun D σ H => tv σ H fun v H1 => td σ H1 fun x H2 => ty σ H2 fun y H3 => ∃ a b kvs k, x = .ref a ∧ y = .ref b ∧ H3 a = some (.dN kvs) ∧ NKey H3 k b ∧ kvs.length < sizeLine ∧ D.nx σ (upd H3 a (.dN (putK kvs k v)))
/-- d[y] -/
def tNGet (td ty : TE) : TE := fun σ H Q => td σ H fun x H1 => ty σ H1 fun y H2 => ∃ a b kvs k v, x = .ref a ∧ y = .ref b ∧ Rd H2 a (.dN kvs) ∧ NKey H2 k b ∧ valV kvs k = some v ∧ Q v H2
section
variable {X : Cx} {o i e value : Expr} {pos pos' tpos : Pos} {td ty tv : TE}
theorem pc_nin (hu : X.A.units + 3 < cLine) (hi : PE X i ty) (ho : PE X o td) : PC X .In i o (tNIn ty td) := by
  intro pins s σ H Q I h
  refine thn (hi pins s σ H _ I h) fun iv s1 ⟨y, H1, I1, ry, q1⟩ => thn (ho pins s1 σ H1 _ I1 q1) fun u s2 ⟨x, H2, I2, rx, a, b, kvs, k, ex, ey, ha, hb, q2⟩ => ?_
  subst ex ey
  obtain rfl : u = Value.ref a := rx
  obtain rfl : iv = Value.ref b := ry
  exact d_inN hu I2 ha hb fun s3 I3 => ⟨.bl (valV kvs k).isSome, H2, I3, rfl, q2⟩
theorem ps_nput (hu : X.A.units + 3 < cLine) (ho : PE X o td) (hi : PE X i ty) (hv : PE X value tv) (hs : swapsWith value (some (.Subscript o i pos')) pos.line X.env = pure false) :
    PS X (.Assign [.Subscript o i pos'] value pos) (sNPut td ty tv) := by
  intro pins s σ H D I h
  refine wpAny_Assign_Subscript (thn (hv pins s σ H _ I h) fun r s1 ⟨v, H1, I1, rv, q1⟩ => thn (ho pins s1 σ H1 _ I1 q1) fun u s2 ⟨x, H2, I2, rx, q2⟩ => thn (hi pins s2 σ H2 _ I2 q2) fun iv s3 ⟨y, H3, I3, ry, a, b, kvs, k, ex, ey, ha, hb, hl, q3⟩ => ?_) hs
  subst ex ey
  obtain rfl : u = Value.ref a := rx
  obtain rfl : iv = Value.ref b := ry
  exact d_setN hu I3 ha hb hl rv fun s4 I4 => ⟨σ, _, I4, q3⟩
theorem pe_nget (hu : X.A.units + 3 < cLine) (ho : PE X o td) (hi : PE X i ty) (hs : NoSl i) : PE X (.Subscript o i pos) (tNGet td ty) := by
  intro pins s σ H Q I h
  refine subD_of PySem.F.slot_dict_getitem.lookup hs (thn (ho pins s σ H _ I h) fun u s1 ⟨x, H1, I1, rx, q1⟩ => thn (hi pins s1 σ H1 _ I1 q1) fun iv s2 ⟨y, H2, I2, ry, a, b, kvs, k, v, ex, ey, ha, hb, l, q2⟩ => ?_)
  subst ex ey
  obtain rfl : u = Value.ref a := rx
  obtain rfl : iv = Value.ref b := ry
  obtain ⟨_, _, xs, _, dd⟩ := dn_rd I2.hok ha
  exact ⟨dd.typeIs, d_getN hu I2 ha hb l fun w' s3 I3 rw' => ⟨v, H2, I3, rw', q2⟩⟩
end

section
variable {prog : Program} {w : World} {K : Type} [DecidableEq K] {knd : HeapKind prog w K} {A : Around} {E : Value → Shared → Prop} {s : Shared}
end
section
variable {X : Cx}
end

section
variable {X : Cx} {pins : List (Addr × Obj)} {σ : St} {H : Hp} {s : Shared} {d : Addr} {o : Obj}
theorem Inv.frzN {kvs : List (List (List Key) × V)} (I : Inv X pins σ H s) (h : H d = some (.frz o (.dN kvs))) :
    (d == sysModules) = false ∧ s.heap.get? d = some o ∧ o.ExactDict ∧ ∃ (es : Array DictEntry) (ep : Nat), o.data = .dict es ep ∧ es.size = kvs.length ∧
      ∀ (i : Nat) (k : List (List Key)) (v : V), kvs[i]? = some (k, v) → ∃ (en : DictEntry) (q : Addr), es[i]? = some en ∧ en.key = .ref q ∧ NKey H k q := by
  obtain ⟨hd, z, hs, xs, pr, o', es, ep, ho, hx, hdt, he, _⟩ := I.hok d _ h
  rw [hd] at ho
  cases ho
  refine ⟨hs, hd, hx, es, ep, hdt, ?_, fun i k v e => ?_⟩
  · have l1 : es.size = xs.length := size_of_entries he
    have l2 : kvs.length = xs.length := Paired.length pr
    omega
  · obtain ⟨b, hb, e1, e2, _⟩ := paired_get pr e
    have q := entry_at he i
    rw [hb] at q
    exact ⟨_, b.2.1, q, rfl, e2⟩
end
def Itkn (d : Addr) (o : Obj) (kvs : List (List (List Key) × V)) : It :=
  ⟨fun i H => H d = some (.frz o (.dN kvs)) ∧ i < kvs.length, fun i H x H' => H' = H ∧ ∃ (k : List (List Key)) (v : V) (q : Addr), kvs[i]? = some (k, v) ∧ x = .ref q ∧ NKey H k q, fun i H => H d = some (.frz o (.dN kvs)) ∧ kvs.length ≤ i⟩
theorem turn_keysN {P : Program} {w : World} {K : PySem.W.Frag} {tg : Expr} {d : Addr} {o : Obj} {es : Array DictEntry} {ep : Nat} {kvs : List (List (List Key) × V)} (it : Addr) (hod : o.data = .dict es ep) : Turn P w K tg (Itkn d o kvs) [it] it (fun i h => h.IsKeyIter it d i kvs.length ep) where
  mem := by simp
  obj := fun i h st b hb => by
    have e : b = it := by simpa using hb
    subst e
    obtain ⟨oi, e, c, dd⟩ := st
    exact ⟨oi, e, fun v z => by rw [dd] at z; cases z⟩
  keep := fun i h h' st k => st.at fun oi e => k it (by simp) oi e
  item := by
    intro X hP hw hK hc i pins s σ H E I hf st hg
    subst hP hw hK
    obtain ⟨hd, hi⟩ := hg
    obtain ⟨f0, f1, f2, f3, f4, f5⟩ := hf it (by simp)
    obtain ⟨hs, hgd, hx, es', ep', hdt, hsz, ent⟩ := I.frzN hd
    obtain ⟨rfl, rfl⟩ := dict_ep hod hdt
    obtain ⟨⟨k, v⟩, hkv⟩ : ∃ p, kvs[i]? = some p := ⟨kvs[i], List.getElem?_eq_getElem hi⟩
    obtain ⟨en, q, hen, hkey, hq⟩ := ent i k v hkv
    refine next_key_item st hgd hdt hsz hen fun h' st' sb => ?_
    have I1 : Inv X pins σ H { s with heap := h' } := I.turned (t' := s.toks) (fun b ob hb e => (sb.2 b hb).trans e) f0 f1 f3 f4 f5
    obtain ⟨oi, e, c, dd⟩ := id st'
    exact ⟨en.key, rfl, go_of (s := { s with heap := h' }) e c dd (by decide) ⟨.ref q, H, I1, hkey, ⟨rfl, k, v, q, hkv, rfl, hq⟩, st', fun b hb => (hf b hb).1⟩⟩
  done := by
    intro X hP hw hK hc i pins s σ H E I hf st hg
    subst hP hw hK
    obtain ⟨hd, hi⟩ := hg
    obtain ⟨f0, f1, f2, f3, f4, f5⟩ := hf it (by simp)
    obtain ⟨hs, hgd, hx, es', ep', hdt, hsz, ent⟩ := I.frzN hd
    obtain ⟨rfl, rfl⟩ := dict_ep hod hdt
    exact next_key_end (I.ok.hd hc) st hgd hdt hsz hi fun h' eb => ⟨rfl, I.turned (t' := s.toks) (fun b ob hb e => eb b ob hb e) f0 f1 f3 f4 f5⟩
  self := fun A i s Q E st h => by
    refine wpAny_pyIter_slot st.typeIs F.slot_dict_keyiterator_iter (wpAny_call_entry F.slot_dict_keyiterator_iter st.typeIs F.entry_dict_keyiterator_iter ?_ (F.args_dict_keyiterator_iter_1 _))
    show wpAny _ _ (ret (.ref it)) _ _ s
    exact wpAny_pure ⟨_, rfl, "dict_keyiterator", _, st.typeIs, F.slot_dict_keyiterator_next.lookup, h⟩
def iKeysN (td : TE) : TI := fun σ H R => td σ H fun x H1 => ∃ d o kvs, x = .ref d ∧ H1 d = some (.frz o (.dN kvs)) ∧ R (Itkn d o kvs) H1
theorem pi_keysN {X : Cx} {tg e : Expr} {td : TE} (he : PE X e td) : PI X tg e (iKeysN td) := by
  intro pins s σ H R I h
  refine thn (he pins s σ H _ I h) fun u s1 ⟨x, H1, I1, rx, d, o, kvs, ex, hd, q⟩ => ?_
  subst ex
  obtain rfl : u = Value.ref d := rx
  obtain ⟨hs, hgd, hx, es, ep, hdt, hsz, ent⟩ := I1.frzN hd
  refine iter_keys hs hgd hx hdt (pi_one (tk := s1.toks) I1 _ (turn_keysN _ hdt) ⟨_, Heap.get?_push_size _ rfl, rfl, ?_⟩ q)
  rw [hsz] <;> rfl
end L2
end
section
set_option Elab.async false
set_option linter.all false
set_option maxRecDepth 100000
namespace L2
open PySem PySem.Spec PyProof.Rows
section
variable {prog : Program} {w : World} {A : Around} {R : Result → Shared → Prop} {I : Addr} {fp wr : List Addr} {n : Nat} {P : Nat → Value → Prop} {St : Nat → Heap → Prop}
end
section
variable {prog : Program} {w : World} {A : Around} {E : Value → Shared → Prop} {s : Shared}
end
section
variable {X : Cx} {e d : Expr} {p kp pos : Pos} {te td : TE}
end

section
variable {prog : Program} {w : World} {A : Around} {R : Result → Shared → Prop} {I : Addr} {fp wr : List Addr} {n : Nat} {P : Nat → Value → Prop} {St : Nat → Heap → Prop}
end
section
variable {prog : Program} {w : World} {A : Around} {E : Value → Shared → Prop} {s : Shared}
end
section
variable {X : Cx} {e d : Expr} {p kp pos : Pos} {te td : TE}
end

section
variable {prog : Program} {w : World} {A : Around} {E : Value → Shared → Prop} {s : Shared}
end

section
variable {X : Cx}
end
end L2
end
section
namespace Solid
open Sa63

def rev (e : Edge) : Edge := (e.2, e.1)
theorem rev_rev (e : Edge) : rev (rev e) = e := rfl
theorem length_le_of_inj {α β : Type} {A : List α} {B : List β} (f : α → β) (nd : A.Nodup) (mem : ∀ a ∈ A, f a ∈ B) (inj : ∀ a ∈ A, ∀ b ∈ A, f a = f b → a = b) : A.length ≤ B.length := by
  have h : (A.map f).Nodup := by
    rw [List.Nodup, List.pairwise_map]
    refine List.Pairwise.imp_of_mem (fun {a b} ha hb hab e => hab (inj a ha b hb e)) nd
  have := h.length_le_of_subset (l₂ := B) (by
    intro x hx
    obtain ⟨a, ha, rfl⟩ := List.mem_map.mp hx
    exact mem a ha)
  rwa [List.length_map] at this
end Solid
end
section
namespace Solid
open Sa63

theorem closed_iff (l : List Tri) : closed l = true ↔ (l.flatMap edges).Nodup ∧ ∀ e ∈ l.flatMap edges, rev e ∈ l.flatMap edges := by
  show (decide (l.flatMap edges).Nodup && (l.flatMap edges).all fun e => (l.flatMap edges).contains (e.2, e.1)) = true ↔ _
  rw [Bool.and_eq_true, decide_eq_true_iff, List.all_eq_true]
  constructor
  · rintro ⟨a, b⟩
    exact ⟨a, fun e he => List.contains_iff_mem.mp (b e he)⟩
  · rintro ⟨a, b⟩
    exact ⟨a, fun e he => List.contains_iff_mem.mpr (b e he)⟩
end Solid
end
section
namespace Solid
open Sa63

theorem drop_cons {α : Type} {b : List α} {i : Nat} {x : α} (h : b[i]? = some x) : b.drop i = x :: b.drop (i + 1) := by
  obtain ⟨hl, e⟩ := List.getElem?_eq_some_iff.mp h
  rw [List.drop_eq_getElem_cons hl, e]
theorem low4 {b : List Nat} {i a0 a1 a2 a3 : Nat} (h0 : b[i]? = some a0) (h1 : b[i + 1]? = some a1) (h2 : b[i + 2]? = some a2) (h3 : b[i + 3]? = some a3) : low b i 4 = a0 + a1 * 256 + a2 * 65536 + a3 * 16777216 := by
  unfold low
  rw [drop_cons h0, drop_cons h1, drop_cons h2, drop_cons h3]
  simp only [List.take_succ_cons, List.take_zero, List.foldr_cons, List.foldr_nil]
  omega
theorem low4_lt {b : List Nat} (hb : ∀ x ∈ b, x < 256) (i : Nat) : low b i 4 < 2 ^ 32 := by
  unfold low
  have hm : ∀ x ∈ (b.drop i).take 4, x < 256 := fun x hx => hb x (List.mem_of_mem_drop (List.mem_of_mem_take hx))
  have hl : ((b.drop i).take 4).length ≤ 4 := by rw [List.length_take]; omega
  generalize (b.drop i).take 4 = l at hm hl
  match l, hm, hl with
  | [], _, _ => simp
  | [a], hm, _ =>
    have := hm a (by simp)
    simp only [List.foldr_cons, List.foldr_nil]; omega
  | [a, b], hm, _ =>
    have := hm a (by simp); have := hm b (by simp)
    simp only [List.foldr_cons, List.foldr_nil]; omega
  | [a, b, c], hm, _ =>
    have := hm a (by simp); have := hm b (by simp); have := hm c (by simp)
    simp only [List.foldr_cons, List.foldr_nil]; omega
  | [a, b, c, d], hm, _ =>
    have := hm a (by simp); have := hm b (by simp); have := hm c (by simp); have := hm d (by simp)
    simp only [List.foldr_cons, List.foldr_nil]; omega
  | _ :: _ :: _ :: _ :: _ :: _, _, h => simp at h

theorem whole_tiny {w : Nat} (h : w / 2 ^ 23 % 256 = 0) : whole w = some 0 := by
  unfold whole
  simp only [h]
  have hf : w % 2 ^ 23 < 2 ^ 23 := Nat.mod_lt _ (by decide)
  have hbig : (2 : Nat) ^ 149 = 2 ^ 40 * 2 ^ 109 := by decide
  have hp : (1 : Nat) ≤ 2 ^ 109 := Nat.one_le_two_pow
  have hlt : 1000 * (w % 2 ^ 23) * 2 < 2 ^ 149 := by
    rw [hbig]
    have : 1000 * (w % 2 ^ 23) * 2 < 2 ^ 40 := by omega
    calc 1000 * (w % 2 ^ 23) * 2 < 2 ^ 40 := this
      _ ≤ 2 ^ 40 * 2 ^ 109 := Nat.le_mul_of_pos_right _ (by omega)
  have hn : nearest (1000 * (w % 2 ^ 23)) 149 = 0 := by
    unfold nearest
    have e1 : 1000 * (w % 2 ^ 23) / 2 ^ 149 = 0 := Nat.div_eq_of_lt (by omega)
    have e2 : 1000 * (w % 2 ^ 23) % 2 ^ 149 = 1000 * (w % 2 ^ 23) := Nat.mod_eq_of_lt (by omega)
    simp only [e1, e2]
    rw [if_neg]
    omega
  simp only [if_true, Nat.reduceEqDiff, if_false, show (max 0 1 : Nat) = 1 from rfl, show ¬ (150 + 40 < 1) by decide, show ¬ (150 ≤ 1) by decide, show 150 - 1 = 149 from rfl]
  rw [hn]
  simp
theorem whole_far {w : Nat} (h : 150 ≤ w / 2 ^ 23 % 256) : whole w = none := by
  unfold whole
  dsimp only
  generalize w / 2 ^ 23 % 256 = e at h
  by_cases h1 : e = 255
  · rw [if_pos h1]
  · rw [if_neg h1]
    have em : max e 1 = e := by omega
    rw [em]
    by_cases h2 : 150 + 40 < e
    · rw [if_pos h2]
    · rw [if_neg h2, if_pos h, if_neg (by omega : ¬ e = 0)]
      have hp : 1 ≤ 2 ^ (e - 150) := Nat.one_le_two_pow
      have hge : 1000 * (2 ^ 23 + w % 2 ^ 23) ≤ 1000 * (2 ^ 23 + w % 2 ^ 23) * 2 ^ (e - 150) := Nat.le_mul_of_pos_right _ (by omega)
      rw [if_pos (by omega)]
theorem whole_mid {w e : Nat} (he : w / 2 ^ 23 % 256 = e) (h0 : 0 < e) (h1 : e < 150) : whole w =
    if 1000000 < nearest (1000 * (2 ^ 23 + w % 2 ^ 23)) (150 - e) then none else some (if w / 2 ^ 31 = 1 then -((nearest (1000 * (2 ^ 23 + w % 2 ^ 23)) (150 - e) : Nat) : Int) else ((nearest (1000 * (2 ^ 23 + w % 2 ^ 23)) (150 - e) : Nat) : Int)) := by
  unfold whole
  simp only [he]
  rw [if_neg (by omega : ¬ e = 255), show max e 1 = e by omega, if_neg (by omega : ¬ 150 + 40 < e), if_neg (by omega : ¬ 150 ≤ e), if_neg (by omega : ¬ e = 0)]
/-- shift_to_nearest's words -/
theorem nearest_half {x k : Nat} (hk : 0 < k) : nearest x k = if x - x / 2 ^ k * 2 ^ k > 2 ^ (k - 1) ∨ (x - x / 2 ^ k * 2 ^ k = 2 ^ (k - 1) ∧ x / 2 ^ k % 2 = 1) then x / 2 ^ k + 1 else x / 2 ^ k := by
  unfold nearest
  have e : 2 ^ k = 2 * 2 ^ (k - 1) := by
    rw [← Nat.pow_succ']
    congr 1
    omega
  have r : x - x / 2 ^ k * 2 ^ k = x % 2 ^ k := by
    have := Nat.div_add_mod x (2 ^ k)
    rw [Nat.mul_comm] at this
    omega
  rw [r]
  dsimp only
  have c : (2 ^ k < 2 * (x % 2 ^ k) ∨ 2 ^ k = 2 * (x % 2 ^ k) ∧ x / 2 ^ k % 2 = 1) ↔ (x % 2 ^ k > 2 ^ (k - 1) ∨ (x % 2 ^ k = 2 ^ (k - 1) ∧ x / 2 ^ k % 2 = 1)) := by
    constructor
    · rintro (h | ⟨h, h'⟩)
      · exact .inl (by omega)
      · exact .inr ⟨by omega, h'⟩
    · rintro (h | ⟨h, h'⟩)
      · exact .inl (by omega)
      · exact .inr ⟨by omega, h'⟩
  by_cases h : 2 ^ k < 2 * (x % 2 ^ k) ∨ 2 ^ k = 2 * (x % 2 ^ k) ∧ x / 2 ^ k % 2 = 1
  · rw [if_pos h, if_pos (c.mp h)]
  · rw [if_neg h, if_neg (fun q => h (c.mpr q))]
theorem whole_range {w : Nat} {z : Int} (h : whole w = some z) : -1000000 ≤ z ∧ z ≤ 1000000 := by
  have fin : ∀ (q : Nat) (c : Prop) [Decidable c], (if 1000000 < q then none else some (if c then -(q : Int) else (q : Int))) = some z → -1000000 ≤ z ∧ z ≤ 1000000 := by
    intro q c _ h
    by_cases h1 : 1000000 < q
    · rw [if_pos h1] at h; cases h
    · rw [if_neg h1] at h
      have e := Option.some.inj h
      subst e
      by_cases h2 : c
      · rw [if_pos h2]; omega
      · rw [if_neg h2]; omega
  unfold whole at h
  dsimp only at h
  by_cases h1 : w / 2 ^ 23 % 256 = 255
  · rw [if_pos h1] at h; cases h
  · rw [if_neg h1] at h
    by_cases h2 : 150 + 40 < max (w / 2 ^ 23 % 256) 1
    · rw [if_pos h2] at h; cases h
    · rw [if_neg h2] at h
      exact fin _ _ h

theorem mapM_none {α β : Type} {f : α → Option β} : ∀ {l : List α} {x : α}, x ∈ l → f x = none → l.mapM f = none
  | [], _, h, _ => by cases h
  | a :: l, x, h, e => by
    rw [List.mapM_cons]
    rcases List.mem_cons.mp h with rfl | h
    · rw [e]; rfl
    · rw [mapM_none h e]
      cases f a <;> rfl
def readTo (b : Bytes) (k : Nat) : Option (List Tri) := (List.range k).mapM fun j => triAt b (84 + 50 * j)
theorem readTo_succ {b : Bytes} {k : Nat} {l : List Tri} {t : Tri} (h : readTo b k = some l) (ht : triAt b (84 + 50 * k) = some t) : readTo b (k + 1) = some (l ++ [t]) := by
  unfold readTo at *
  rw [List.range_succ, List.mapM_append, h, List.mapM_cons, ht]
  rfl
theorem readTo_none {b : Bytes} {k n : Nat} (hk : k < n) (ht : triAt b (84 + 50 * k) = none) : readTo b n = none := mapM_none (List.mem_range.mpr hk) ht
theorem skin_none {b : Bytes} (h : b.length < 84 ∨ 20000 < low b 80 4 ∨ b.length ≠ 84 + 50 * low b 80 4) : skinOf b = none := by
  unfold skinOf
  exact if_pos h
theorem skin_read {b : Bytes} {n : Nat} (e : low b 80 4 = n) (h0 : 84 ≤ b.length) (h1 : n ≤ 20000) (h2 : b.length = 84 + 50 * n) : skinOf b = (readTo b n).map fun l => l.filter proper := by
  unfold skinOf readTo
  rw [e]
  exact if_neg (by omega)
theorem proper_iff (t : Tri) : proper t = true ↔ t.a ≠ t.b ∧ t.b ≠ t.c ∧ t.c ≠ t.a := by
  unfold proper
  simp only [Bool.and_eq_true, bne_iff_ne, ne_eq]
  constructor
  · rintro ⟨a, b, c⟩; exact ⟨a, b, fun z => c z.symm⟩
  · rintro ⟨a, b, c⟩; exact ⟨a, b, fun z => c z.symm⟩
theorem corner_none1 {b : Bytes} {i : Nat} (h : whole (low b i 4) = none) : cornerAt b i = none := by unfold cornerAt; rw [h]; rfl
theorem corner_none2 {b : Bytes} {i : Nat} {x : Int} (h : whole (low b i 4) = some x) (h2 : whole (low b (i + 4) 4) = none) : cornerAt b i = none := by unfold cornerAt; rw [h, h2]; rfl
theorem corner_none3 {b : Bytes} {i : Nat} {x y : Int} (h : whole (low b i 4) = some x) (h2 : whole (low b (i + 4) 4) = some y) (h3 : whole (low b (i + 8) 4) = none) : cornerAt b i = none := by unfold cornerAt; rw [h, h2, h3]; rfl
theorem corner_some {b : Bytes} {i : Nat} {x y z : Int} (h : whole (low b i 4) = some x) (h2 : whole (low b (i + 4) 4) = some y) (h3 : whole (low b (i + 8) 4) = some z) : cornerAt b i = some (x, y, z) := by unfold cornerAt; rw [h, h2, h3]; rfl
theorem tri_none1 {b : Bytes} {i : Nat} (h : cornerAt b (i + 12) = none) : triAt b i = none := by unfold triAt; rw [h]; rfl
theorem tri_none2 {b : Bytes} {i : Nat} {x : Corner} (h : cornerAt b (i + 12) = some x) (h2 : cornerAt b (i + 24) = none) : triAt b i = none := by unfold triAt; rw [h, h2]; rfl
theorem tri_none3 {b : Bytes} {i : Nat} {x y : Corner} (h : cornerAt b (i + 12) = some x) (h2 : cornerAt b (i + 24) = some y) (h3 : cornerAt b (i + 36) = none) : triAt b i = none := by unfold triAt; rw [h, h2, h3]; rfl
theorem tri_some {b : Bytes} {i : Nat} {x y z : Corner} (h : cornerAt b (i + 12) = some x) (h2 : cornerAt b (i + 24) = some y) (h3 : cornerAt b (i + 36) = some z) : triAt b i = some ⟨x, y, z⟩ := by unfold triAt; rw [h, h2, h3]; rfl

def nats (l : List Int) : List Nat := l.map Int.toNat
theorem len_ok {file : List Int} (h : file.length ≤ 60000) : within (file.length : Int) 0 1048576 = true := by
  unfold within
  rw [Bool.and_eq_true]
  exact ⟨decide_eq_true (by omega), decide_eq_true (by omega)⟩
end Solid
end
section
set_option Elab.async false
set_option linter.all false
set_option maxRecDepth 100000
namespace Sol
open PySem
def top (i : Nat) : Stmt := PySem.Challenge.pw_solidlayers_s04_fill.main.body.getD i (.Pass ⟨0, 0, 0, 0⟩)
abbrev sFill : Stmt := top 21
abbrev sReach : Stmt := top 22
abbrev sSkin : Stmt := top 23
abbrev sReadTris : Stmt := top 24
abbrev sReadCount : Stmt := top 25
abbrev sReadTri : Stmt := top 26
abbrev sReadCorner : Stmt := top 27
abbrev sReadBits : Stmt := top 28
abbrev sCoord : Stmt := top 29
abbrev sNear : Stmt := top 30
abbrev sCounts : Stmt := top 31
abbrev sEdges : Stmt := top 32
abbrev sOther : Stmt := top 33
abbrev sClosed : Stmt := top 34
abbrev sLoops : Stmt := top 35
abbrev sWays : Stmt := top 36
abbrev sRises : Stmt := top 37
abbrev sCut : Stmt := top 38
abbrev sSides : Stmt := top 39
abbrev sBelow : Stmt := top 40
abbrev sCountNums : Stmt := top 41
abbrev sCountLines : Stmt := top 42
abbrev sCross : Stmt := top 43
abbrev sLineNums : Stmt := top 44
end Sol
end
section
set_option Elab.async false
set_option linter.all false
set_option maxRecDepth 100000
set_option maxHeartbeats 2000000
namespace Sol
open PySem PySem.Spec PyProof.Rows L2
open Sa63 (Tri Corner Edge low whole nearest cornerAt triAt proper skinOf)
/-- a constant of the text -/
def Con (mg : Str → Option Value) (x : Str) (i : Int) : Prop := ∃ t, mg x = some (.int i t)
theorem pe_con {X : Cx} {x : Str} {i : Int} {pos : Pos} (c : Con X.mg x i) (hg : Gl X x := by rfl) (hd : (x == ("__debug__" : Str)) = false := by decide) : PE X (.Name x pos) (tC (.int i)) := by
  obtain ⟨t, e⟩ := c
  exact pe_glob hg e ⟨t, rfl⟩ hd
structure Txt (K : PySem.W.Frag) (mg : Str → Option Value) (C : Addr) : Prop where
  wrong : mg "WrongFile" = some (.ref C)
  exc : PySem.W.excIn K C [.type "Exception", .type "BaseException", .type "object"] "Exception.__new__" = true
  fileWrong : Con mg "FILE_IS_WRONG" (-3)
  countStart : Con mg "COUNT_START" 80
  trisStart : Con mg "TRIANGLES_START" 84
  triBytes : Con mg "TRIANGLE_BYTES" 50
  firstCorner : Con mg "FIRST_CORNER" 12
  cornerBytes : Con mg "CORNER_BYTES" 12
  singleBytes : Con mg "SINGLE_BYTES" 4
  mostTris : Con mg "MOST_TRIANGLES" 20000
  farthest : Con mg "FARTHEST" 1000000
  fracBits : Con mg "FRACTION_BITS" 23
  hidden : Con mg "HIDDEN_BIT" 8388608
  wholeExp : Con mg "WHOLE_EXPONENT" 150
  range : mg "range" = none
  tuple : mg "tuple" = none
  len : mg "len" = none
  list : mg "list" = none
  min : mg "min" = none
  max : mg "max" = none
  all : mg "all" = none
  enum : mg "enumerate" = none
  sum : mg "sum" = none
  sorted : mg "sorted" = none
def Bytes (ns : List Int) : Prop := ∀ x ∈ ns, 0 ≤ x ∧ x ≤ 255
theorem nats_get {ns : List Int} {i : Nat} {x : Int} (h : ns[i]? = some x) : (Solid.nats ns)[i]? = some x.toNat := by
  unfold Solid.nats
  rw [List.getElem?_map, h]
  rfl
theorem nats_len (ns : List Int) : (Solid.nats ns).length = ns.length := by unfold Solid.nats; rw [List.length_map]
theorem nats_lt {ns : List Int} (hb : Bytes ns) : ∀ x ∈ Solid.nats ns, x < 256 := by
  intro x hx
  obtain ⟨z, hz, rfl⟩ := List.mem_map.mp hx
  have := hb z hz
  omega
/-- the file's list at a -/
def spBits (K : PySem.W.Frag) : Sp := fun vs H Q _ => ∃ (a : Addr) (ns : List Int) (i : Nat), vs = [.ref a, .int i] ∧ SqL K H a (ns.map V.int) ∧ Bytes ns ∧ i + 4 ≤ ns.length ∧ Q (.int (low (Solid.nats ns) i 4 : Nat)) H
def spNear : Sp := fun vs H Q _ => ∃ (x k : Nat), vs = [.int x, .int k] ∧ 0 < k ∧ k < 1000 ∧ x < 2 ^ 60 ∧ Q (.int (nearest x k : Nat)) H
def spCoord (C : Addr) : Sp := fun vs H Q E => ∃ w : Nat, vs = [.int w] ∧ w < 2 ^ 32 ∧ (∀ z, whole w = some z → Q (.int z) H) ∧ (whole w = none → E (.ref C) none H)
section
variable {P : Program} {w : World} {K : PySem.W.Frag} {mg : Str → Option Value} {base : Heap}
theorem scBits : FnScope ["file", "start"] ["file", "start"] (defScope sReadBits) := ⟨rfl, rfl, rfl, by decide +kernel, rfl, by decide +kernel, by decide +kernel⟩
theorem at_ints {ns : List Int} {i : Nat} {x : Int} (h : ns[i]? = some x) : atI (ns.map V.int) (i : Int) = some (.int x) := atI_nat (by rw [List.getElem?_map, h]; rfl)
theorem ok_bits {f C : Addr} {fd : FuncData} (F : Fun K "read_bits" "read_bits" sReadBits f fd) (T : Txt K mg C) : FnOk P w K mg base CX0 1 f fd ["file", "start"] (spBits K) := by
  refine F.ok scBits (fun vs H Q E h => ?_) (fun cdv A outer s H vs Q E hr h => ?_)
  · obtain ⟨a, ns, i, rfl, _⟩ := h
    rfl
  · obtain ⟨a, ns, i, rfl, hS, hB, hl, k⟩ := h
    obtain ⟨x0, e0⟩ : ∃ x, ns[i]? = some x := ⟨_, List.getElem?_eq_getElem (by omega)⟩
    obtain ⟨x1, e1⟩ : ∃ x, ns[i + 1]? = some x := ⟨_, List.getElem?_eq_getElem (by omega)⟩
    obtain ⟨x2, e2⟩ : ∃ x, ns[i + 2]? = some x := ⟨_, List.getElem?_eq_getElem (by omega)⟩
    obtain ⟨x3, e3⟩ : ∃ x, ns[i + 3]? = some x := ⟨_, List.getElem?_eq_getElem (by omega)⟩
    have b0 := hB x0 (List.mem_of_getElem? e0)
    have b1 := hB x1 (List.mem_of_getElem? e1)
    have b2 := hB x2 (List.mem_of_getElem? e2)
    have b3 := hB x3 (List.mem_of_getElem? e3)
    refine ⟨_, pss_one (ps_ret (pe_op op_add (pe_op op_add (pe_op op_add (pe_ix ix_list (pv 0) (pv 1) (fun _ _ => rfl))
      (pe_op op_shl (pe_ix ix_list (pv 0) (pe_op op_add (pv 1) pe_int) (fun _ _ => rfl)) pe_int))
      (pe_op op_shl (pe_ix ix_list (pv 0) (pe_op op_add (pv 1) pe_int) (fun _ _ => rfl)) pe_int))
      (pe_op op_shl (pe_ix ix_list (pv 0) (pe_op op_add (pv 1) pe_int) (fun _ _ => rfl)) pe_int))), ?_⟩
    refine ⟨_, rfl, _, rfl, a, _, _, _, rfl, rfl, hS, at_ints e0, ?_⟩
    refine ⟨_, rfl, _, rfl, _, _, rfl, rfl, a, _, _, _, rfl, rfl, hS, at_of (j := i + 1) (v := .int x1) (by simp) (by rw [List.getElem?_map, e1]; rfl), _, _, rfl, rfl, ⟨by decide, by decide, by omega⟩, _, _, rfl, rfl, ?_⟩
    refine ⟨_, rfl, _, rfl, _, _, rfl, rfl, a, _, _, _, rfl, rfl, hS, at_of (j := i + 2) (v := .int x2) (by simp) (by rw [List.getElem?_map, e2]; rfl), _, _, rfl, rfl, ⟨by decide, by decide, by omega⟩, _, _, rfl, rfl, ?_⟩
    refine ⟨_, rfl, _, rfl, _, _, rfl, rfl, a, _, _, _, rfl, rfl, hS, at_of (j := i + 3) (v := .int x3) (by simp) (by rw [List.getElem?_map, e3]; rfl), _, _, rfl, rfl, ⟨by decide, by decide, by omega⟩, _, _, rfl, rfl, ?_⟩
    rw [Solid.low4 (nats_get e0) (nats_get e1) (nats_get e2) (nats_get e3)] at k
    have e : (x0 + x1 * 2 ^ (8 : Int).toNat + x2 * 2 ^ (16 : Int).toNat + x3 * 2 ^ (24 : Int).toNat) = ((x0.toNat + x1.toNat * 256 + x2.toNat * 65536 + x3.toNat * 16777216 : Nat) : Int) := by
      have c1 : (2 : Int) ^ (8 : Int).toNat = 256 := by decide
      have c2 : (2 : Int) ^ (16 : Int).toNat = 65536 := by decide
      have c3 : (2 : Int) ^ (24 : Int).toNat = 16777216 := by decide
      rw [c1, c2, c3]
      omega
    rw [← e] at k
    exact k
theorem scNear : FnScope ["amount", "shift", "whole", "rest", "half"] ["amount", "shift"] (defScope sNear) := ⟨rfl, rfl, rfl, by decide +kernel, rfl, by decide +kernel, by decide +kernel⟩
theorem ok_near {f C : Addr} {fd : FuncData} (F : Fun K "shift_to_nearest" "shift_to_nearest" sNear f fd) (T : Txt K mg C) : FnOk P w K mg base CX0 1 f fd ["amount", "shift"] spNear := by
  refine F.ok scNear (fun vs H Q E h => ?_) (fun cdv A outer s H vs Q E hr h => ?_)
  · obtain ⟨x, k, rfl, _⟩ := h
    rfl
  · obtain ⟨x, k, rfl, h0, h1, h2, q⟩ := h
    refine ⟨_, pss_cons (ps_set (i := 2) scNear.nd rfl (Or.inl rfl) (pe_op op_shr (pv 0) (pv 1)))
      (pss_cons (ps_set (i := 3) scNear.nd rfl (Or.inl rfl) (pe_op op_sub (pv 0) (pe_op op_shl (pv 2) (pv 1))))
      (pss_cons (ps_set (i := 4) scNear.nd rfl (Or.inl rfl) (pe_op op_shl pe_int (pe_op op_sub (pv 1) pe_int)))
      (pss_cons (ps_if (pw_or (pt_cmpR op_gt (pv 3) (pv 4) (nomark _)) (pw_or1 (pw_and (pt_cmpR op_eq (pv 3) (pv 4) (nomark _)) (pw_and1 (pt_cmpR op_eq (pe_op op_mod (pv 2) pe_int) pe_int (nomark _)))).pt)).pt
        (pss_one (ps_ret (pe_op op_add (pv 2) pe_int))) pss_nil)
      (pss_one (ps_ret (pv 2)))))), ?_⟩
    have hk : ((k : Nat) : Int).toNat = k := by omega
    have p1 : (2 : Int) ^ k = ((2 ^ k : Nat) : Int) := by rw [Int.natCast_pow]; rfl
    have hq1 : (x : Int) / 2 ^ ((k : Nat) : Int).toNat = ((x / 2 ^ k : Nat) : Int) := by rw [hk, p1]; exact (Int.natCast_ediv x (2 ^ k)).symm
    have hq : x / 2 ^ k < 2 ^ 60 := Nat.lt_of_le_of_lt (Nat.div_le_self _ _) h2
    have hle : x / 2 ^ k * 2 ^ k ≤ x := Nat.div_mul_le_self _ _
    have hr2 : (x : Int) - (x / 2 ^ k : Nat) * 2 ^ ((k : Nat) : Int).toNat = ((x - x / 2 ^ k * 2 ^ k : Nat) : Int) := by rw [hk, p1, ← Int.natCast_mul]; omega
    have hh : (1 : Int) * 2 ^ ((k : Int) - 1).toNat = ((2 ^ (k - 1) : Nat) : Int) := by
      have e1 : ((k : Int) - 1).toNat = k - 1 := by omega
      rw [e1, Int.one_mul, Int.natCast_pow]; rfl
    refine ⟨_, rfl, _, rfl, _, _, rfl, rfl, (by show (0 : Int) ≤ (k : Int); omega), ?_⟩
    dsimp only
    rw [hq1]
    refine ⟨_, rfl, _, rfl, _, rfl, _, _, rfl, rfl, ⟨by show (0 : Int) ≤ (k : Int); omega, by show (k : Int) ≤ 1000000; omega, by show (((x / 2 ^ k : Nat) : Int)).natAbs < 2 ^ 64; rw [Int.natAbs_natCast]; exact Nat.lt_trans hq (by decide)⟩, _, _, rfl, rfl, ?_⟩
    dsimp only
    rw [hr2]
    refine ⟨_, rfl, _, _, rfl, rfl, _, _, rfl, rfl, ⟨by show (0 : Int) ≤ (k : Int) - 1; omega, by show (k : Int) - 1 ≤ 1000000; omega, by decide⟩, ?_⟩
    dsimp only
    rw [hh]
    rw [Solid.nearest_half h0] at q
    generalize x - x / 2 ^ k * 2 ^ k = r at q
    generalize 2 ^ (k - 1) = hf at q
    generalize x / 2 ^ k = qq at q
    refine ⟨_, rfl, _, rfl, _, _, rfl, rfl, _, rfl, ?_⟩
    refine ite2 (fun c1 => iteT ?_) fun c1 => ?_
    · have c1 : (hf : Int) < r := of_decide_eq_true c1
      rw [if_pos (.inl (by omega))] at q
      exact ⟨_, rfl, _, _, rfl, rfl, q⟩
    · have c1 : ¬ (hf : Int) < r := fun z => c1 (decide_eq_true z)
      refine ⟨_, rfl, _, rfl, rfl, _, rfl, ?_⟩
      refine ite2 (fun c2 => ?_) fun c2 => iteF ?_
      · have c2 : (r : Int) = hf := by have := of_decide_eq_true c2; injection this
        refine ⟨_, rfl, _, _, rfl, rfl, (by show (0 : Int) < 2; decide), rfl, _, rfl, ?_⟩
        refine ite2 (fun c3 => ?_) fun c3 => ?_
        · have c3 : (qq : Int) % 2 = 1 := by have := of_decide_eq_true c3; injection this
          rw [if_pos (.inr ⟨by omega, by omega⟩)] at q
          exact ⟨_, rfl, _, _, rfl, rfl, q⟩
        · have c3 : ¬ (qq : Int) % 2 = 1 := fun z => c3 (decide_eq_true (congrArg V.int z))
          rw [if_neg (by omega)] at q
          exact ⟨_, rfl, q⟩
      · have c2 : ¬ (r : Int) = hf := fun z => c2 (decide_eq_true (by rw [z]))
        rw [if_neg (by omega)] at q
        exact ⟨_, rfl, q⟩
/-- a def of the text that keeps its promise -/
structure Def (P : Program) (w : World) (K : PySem.W.Frag) (mg : Str → Option Value) (base : Heap) (CX : CXT) (k : Nat) (x : Str) (ps : List Str) (sp : Sp) : Prop where
  ex : ∃ f fd, FnOk P w K mg base CX k f fd ps sp ∧ mg x = some (.ref f) ∧ PySem.W.keepIn K (.ref f) = true ∧ Binds K fd ps []
theorem pe_def {X : Cx} {CX : CXT} {k : Nat} {x : Str} {ps : List Str} {sp : Sp} {E : XK} {p pos : Pos} {e : Expr} {es : List Expr} {t : TA} (D : Def X.prog X.w X.K X.mg X.base CX k x ps sp) (hr : Room k X.A) (hx : Passes CX X E) (ha : PA X (e :: es) t) (hg : Gl X x := by rfl) (hdb : (x == ("__debug__" : Str)) = false := by decide)
    (he : starEach (e :: es) X.env = (false, eval e X.env) :: starEach es X.env := by rfl) (hpl : (backTo pos (starEach es X.env)).any (·.1) = false := by rfl) : PE X (.Call (.Name x p) (e :: es) [] pos) (tCall sp [] E t) := by
  obtain ⟨f, fd, F, hm, hk, hb⟩ := D.ex
  exact pe_call F hr hg hm hk hb .nil hx ha hdb he hpl
end
end Sol
end
section
set_option Elab.async false
set_option linter.all false
set_option maxRecDepth 100000
set_option maxHeartbeats 2000000
namespace Sol
open PySem PySem.Spec PyProof.Rows L2
open Sa63 (Tri Corner Edge low whole nearest cornerAt triAt proper skinOf)
theorem and_255 (w : Nat) : Builtin.bitAnd (w : Int) 255 = ((w % 256 : Nat) : Int) := by
  rw [bitAnd_pp (by omega) (by decide)]
  have h : ((w : Nat) : Int).toNat &&& (255 : Int).toNat = w % 256 := Nat.and_two_pow_sub_one_eq_mod w 8
  rw [h]
theorem and_frac (w : Nat) : Builtin.bitAnd (w : Int) 8388607 = ((w % 2 ^ 23 : Nat) : Int) := by
  rw [bitAnd_pp (by omega) (by decide)]
  have h : ((w : Nat) : Int).toNat &&& (8388607 : Int).toNat = w % 2 ^ 23 := Nat.and_two_pow_sub_one_eq_mod w 23
  rw [h]
theorem shr_nat (w k : Nat) : (w : Int) / 2 ^ k = ((w / 2 ^ k : Nat) : Int) := by
  have p1 : (2 : Int) ^ k = ((2 ^ k : Nat) : Int) := by rw [Int.natCast_pow]; rfl
  rw [p1]; exact (Int.natCast_ediv w (2 ^ k)).symm
section
variable {P : Program} {w : World} {K : PySem.W.Frag} {mg : Str → Option Value} {base : Heap}
theorem scCoord : FnScope ["bits", "exponent", "fraction", "size"] ["bits"] (defScope sCoord) := ⟨rfl, rfl, rfl, by decide +kernel, rfl, by decide +kernel, by decide +kernel⟩
theorem ok_coord {f C : Addr} {fd : FuncData} (F : Fun K "coordinate" "coordinate" sCoord f fd) (T : Txt K mg C) (DN : Def P w K mg base CX0 1 "shift_to_nearest" ["amount", "shift"] spNear) : FnOk P w K mg base (CXF P w) 2 f fd ["bits"] (spCoord C) := by
  refine F.okX scCoord (fun vs H Q E h => ?_) (fun cdv A outer s H vs Q E hr h => ?_)
  · obtain ⟨n, rfl, _⟩ := h
    rfl
  · obtain ⟨n, rfl, hn, kS, kN⟩ := h
    refine ⟨_, pss_cons (ps_set (i := 1) scCoord.nd rfl (Or.inl rfl) (pe_op op_and (pe_op op_shr (pv 0) (pe_con T.fracBits)) pe_int))
      (pss_cons (ps_if (pt_cmpR op_eq (pv 1) pe_int (nomark _)) (pss_one (ps_ret pe_int)) pss_nil)
      (pss_cons (ps_if (pt_cmpR op_ge (pv 1) (pe_con T.wholeExp) (nomark _)) (pss_one (ps_raise0 rfl rfl T.wrong T.exc PySem.F.excBase_Exception takes_def)) pss_nil)
      (pss_cons (ps_set (i := 2) scCoord.nd rfl (Or.inl rfl) (pe_op op_add (pe_con T.hidden) (pe_op op_and (pv 0) (pe_op op_sub (pe_con T.hidden) pe_int))))
      (pss_cons (ps_set (i := 3) scCoord.nd rfl (Or.inl rfl) (pe_def DN hr pass0 (pa_cons (pe_op op_mul pe_int (pv 2)) (pa_cons (pe_op op_sub (pe_con T.wholeExp) (pv 1)) pa_nil))))
      (pss_cons (ps_if (pt_cmpR op_gt (pv 3) (pe_con T.farthest) (nomark _)) (pss_one (ps_raise0 rfl rfl T.wrong T.exc PySem.F.excBase_Exception takes_def)) pss_nil)
      (pss_one (ps_ret (pe_ifExp (pt_cmpR op_eq (pe_op op_shr (pv 0) pe_int) pe_int (nomark _)) (pe_un un_neg (pv 3)) (pv 3))))))))), ?_⟩
    have e1 : Builtin.bitAnd ((n : Int) / 2 ^ (23 : Int).toNat) 255 = ((n / 2 ^ 23 % 256 : Nat) : Int) := by
      have : (23 : Int).toNat = 23 := by decide
      rw [this, shr_nat, and_255]
    refine ⟨_, rfl, _, _, rfl, rfl, (by show (0 : Int) ≤ 23; decide), _, _, rfl, rfl, ?_⟩
    dsimp only
    rw [e1]
    generalize hee : n / 2 ^ 23 % 256 = ee at *
    have hlt : ee < 256 := by omega
    refine ⟨_, rfl, rfl, _, rfl, ?_⟩
    refine ite2 (fun c => ?_) fun c => ?_
    · have c : (ee : Int) = 0 := by have := of_decide_eq_true c; injection this
      exact kS 0 (Solid.whole_tiny (by omega))
    have c : ¬ (ee : Int) = 0 := fun z => c (decide_eq_true (congrArg V.int z))
    refine ⟨_, rfl, _, _, rfl, rfl, _, rfl, ?_⟩
    refine ite2 (fun c2 => ?_) fun c2 => ?_
    · have c2 : (150 : Int) ≤ ee := of_decide_eq_true c2
      exact kN (Solid.whole_far (by omega))
    have c2 : ¬ (150 : Int) ≤ ee := fun z => c2 (decide_eq_true z)
    have e2 : (8388608 : Int) + Builtin.bitAnd (n : Int) (8388608 - 1) = ((2 ^ 23 + n % 2 ^ 23 : Nat) : Int) := by
      have : (8388608 : Int) - 1 = 8388607 := by decide
      rw [this, and_frac]
      omega
    refine ⟨_, rfl, _, _, rfl, rfl, _, _, rfl, rfl, _, _, rfl, rfl, ?_⟩
    dsimp only
    rw [e2]
    have hmid := Solid.whole_mid hee (by omega) (by omega)
    have hsmall : 1000 * (2 ^ 23 + n % 2 ^ 23) < 2 ^ 60 := by
      have := Nat.mod_lt n (show 0 < 2 ^ 23 by decide)
      omega
    generalize 2 ^ 23 + n % 2 ^ 23 = fr at *
    refine ⟨_, rfl, _, _, rfl, rfl, .inl ⟨by show -(2 ^ 64 : Int) < 1000; decide, by show (1000 : Int) < 2 ^ 64; decide⟩, _, rfl, _, _, rfl, rfl, 1000 * fr, 150 - ee, ?_, by omega, by omega, hsmall, ?_⟩
    · show [V.int (1000 * (fr : Int)), V.int (150 - (ee : Int))] = [V.int ((1000 * fr : Nat) : Int), V.int ((150 - ee : Nat) : Int)]
      rw [show ((1000 * fr : Nat) : Int) = 1000 * (fr : Int) by omega, show ((150 - ee : Nat) : Int) = 150 - (ee : Int) by omega]
    dsimp only
    generalize nearest (1000 * fr) (150 - ee) = z at *
    refine ⟨_, rfl, _, _, rfl, rfl, _, rfl, ?_⟩
    refine ite2 (fun c3 => ?_) fun c3 => ?_
    · have c3 : (1000000 : Int) < z := of_decide_eq_true c3
      exact kN (by rw [hmid, if_pos (by omega)])
    have c3 : ¬ (1000000 : Int) < z := fun q => c3 (decide_eq_true q)
    have e3 : (n : Int) / 2 ^ (31 : Int).toNat = ((n / 2 ^ 31 : Nat) : Int) := by
      have : (31 : Int).toNat = 31 := by decide
      rw [this, shr_nat]
    rw [if_neg (by omega)] at hmid
    refine ⟨_, rfl, _, _, rfl, rfl, (by show (0 : Int) ≤ 31; decide), rfl, _, rfl, ?_⟩
    refine ite2 (fun c4 => ?_) fun c4 => ?_
    · have c4 : ((n / 2 ^ 31 : Nat) : Int) = 1 := by have := of_decide_eq_true c4; rw [← e3]; injection this
      rw [if_pos (by omega)] at hmid
      exact ⟨_, rfl, _, rfl, kS _ hmid⟩
    · have c4 : ¬ ((n / 2 ^ 31 : Nat) : Int) = 1 := fun q => c4 (decide_eq_true (congrArg V.int (e3.trans q)))
      rw [if_neg (by omega)] at hmid
      exact ⟨_, rfl, kS _ hmid⟩
def cV (c : Corner) : List V := [.int c.1, .int c.2.1, .int c.2.2]
def CorAt (H : Hp) (a : Addr) (c : Corner) : Prop := H a = some (.tup (cV c))
def TriAt (H : Hp) (a : Addr) (t : Tri) : Prop := ∃ p q r, H a = some (.tup [.ref p, .ref q, .ref r]) ∧ CorAt H p t.a ∧ CorAt H q t.b ∧ CorAt H r t.c
theorem TriAt.same {H H' : Hp} {a : Addr} {t : Tri} (h : TriAt H a t) (s : Same H H') : TriAt H' a t := by
  obtain ⟨p, q, r, h0, h1, h2, h3⟩ := h
  exact ⟨p, q, r, s _ _ h0, s _ _ h1, s _ _ h2, s _ _ h3⟩
theorem same_new {H : Hp} {a : Addr} {o : HO} (h : H a = none) : Same H (upd H a o) := fun b u e => by rw [upd_ne (ne_of_none e h)]; exact e
theorem same_upd {H H' : Hp} {a : Addr} {o : HO} (s : Same H H') (h : H a = none) : Same H (upd H' a o) := fun b u e => by rw [upd_ne (ne_of_none e h)]; exact s b u e
def spCorner (K : PySem.W.Frag) (C : Addr) : Sp := fun vs H Q E => ∃ (a : Addr) (ns : List Int) (i : Nat), vs = [.ref a, .int i] ∧ SqL K H a (ns.map V.int) ∧ Bytes ns ∧ i + 12 ≤ ns.length ∧
  (∀ c, cornerAt (Solid.nats ns) i = some c → ∀ (H' : Hp) (p : Addr), Same H H' → CorAt H' p c → Q (.ref p) H') ∧ (cornerAt (Solid.nats ns) i = none → ∀ H', Same H H' → E (.ref C) none H')
theorem scCorner : FnScope ["file", "start", "axis"] ["file", "start"] (defScope sReadCorner) := ⟨rfl, rfl, rfl, by decide +kernel, rfl, by decide +kernel, by decide +kernel⟩
theorem ok_corner {f C : Addr} {fd : FuncData} (F : Fun K "read_corner" "read_corner" sReadCorner f fd) (T : Txt K mg C) (DC : Def P w K mg base (CXF P w) 2 "coordinate" ["bits"] (spCoord C)) (DB : Def P w K mg base CX0 1 "read_bits" ["file", "start"] (spBits K)) :
    FnOk P w K mg base (CXF P w) 3 f fd ["file", "start"] (spCorner K C) := by
  refine F.okX scCorner (fun vs H Q E h => ?_) (fun cdv A outer s H vs Q E hr h => ?_)
  · obtain ⟨a, ns, i, rfl, _⟩ := h
    rfl
  · obtain ⟨a, ns, i, rfl, hS, hB, hl, kS, kN⟩ := h
    have hr1 : Room 1 _ := hr.mono (by decide)
    refine ⟨_, pss_one (ps_ret (pe_callTy call_tuple_of rfl T.tuple boot_tuple (pa_cons (pe_lcX (own := [("axis", 2)]) takes_def top_def rfl scCorner.nd (pi_range1 rfl T.range (pa_cons pe_int pa_nil)) (blkOk_by (by show blkC ["file", "start", "axis"] (defScope sReadCorner) _ _ = true; decide +kernel))
      (fun _ _ _ _ _ => pg_name (i := 2) scCorner.nd rfl (Or.inl rfl)) (fun _ _ _ _ _ => pts_nil)
      (fun _ _ _ _ _ => pe_def DC hr (passes_of takes_blk) (pa_cons (pe_def DB hr1 pass0 (pa_cons (pv 0) (pa_cons (pe_op op_add (pv 1) (pe_op op_mul (pe_con T.singleBytes) (pv 2))) pa_nil))) pa_nil))) pa_nil))), ?_⟩
    refine ⟨3, rfl, by decide, by decide, fun D hD => ?_⟩
    refine lc_range (n := 3) (fun k H' => ∃ zs : List Int, zs.length = k ∧ (∀ j, j < k → whole (low (Solid.nats ns) (i + 4 * j) 4) = zs[j]?) ∧ Same H H' ∧ H' D = some (.lst (zs.map V.int))) ⟨[], rfl, fun j hj => absurd hj (by omega), same_new hD, upd_same⟩ ?_ ?_
    · rintro k H' hk ⟨zs, hz, hw, sm, hD'⟩
      refine ⟨rfl, ?_⟩
      dsimp only [tYes]
      rw [if_pos rfl]
      refine ⟨_, rfl, _, rfl, _, rfl, _, _, rfl, rfl, .inl ⟨by show -(2 ^ 64 : Int) < 4; decide, by show (4 : Int) < 2 ^ 64; decide⟩, _, _, rfl, rfl, a, ns, i + 4 * k, ?_, sm.seq hS, hB, by omega, ?_⟩
      · show [V.ref a, V.int ((i : Int) + 4 * (0 + (k : Nat)))] = [V.ref a, V.int ((i + 4 * k : Nat) : Int)]
        rw [show ((i + 4 * k : Nat) : Int) = (i : Int) + 4 * (0 + (k : Nat)) by omega]
      refine ⟨_, rfl, Solid.low4_lt (nats_lt hB) _, fun z hz' => ?_, fun hn => ?_⟩
      · refine ⟨_, hD', by rw [List.length_map, hz]; exact small1000 (by omega), zs ++ [z], by simp [hz], fun j hj => ?_, same_upd sm hD, by rw [upd_same, List.map_append]; rfl⟩
        by_cases hjk : j < k
        · rw [List.getElem?_append_left (by omega)]; exact hw j hjk
        · have : j = k := by omega
          subst this
          rw [List.getElem?_append_right (by omega), hz', ← hz]
          simp
      · refine kN ?_ H' sm
        match k, hk with
        | 0, _ => exact Solid.corner_none1 hn
        | 1, _ =>
          match zs, hz with
          | [z0], _ => exact Solid.corner_none2 (hw 0 (by omega)) hn
        | 2, _ =>
          match zs, hz with
          | [z0, z1], _ => exact Solid.corner_none3 (hw 0 (by omega)) (hw 1 (by omega)) hn
    · rintro H' ⟨zs, hz, hw, sm, hD'⟩
      match zs, hz with
      | [z0, z1, z2], _ =>
        refine ⟨D, _, rfl, .inl ⟨SqL.of hD', fun l hl' => ?_⟩⟩
        exact kS (z0, z1, z2) (Solid.corner_some (hw 0 (by omega)) (hw 1 (by omega)) (hw 2 (by omega))) _ l (sm.trans (same_new hl')) upd_same
def spTri (K : PySem.W.Frag) (C : Addr) : Sp := fun vs H Q E => ∃ (a : Addr) (ns : List Int) (i : Nat), vs = [.ref a, .int i] ∧ SqL K H a (ns.map V.int) ∧ Bytes ns ∧ i + 48 ≤ ns.length ∧
  (∀ t, triAt (Solid.nats ns) i = some t → ∀ (H' : Hp) (p : Addr), Same H H' → TriAt H' p t → Q (.ref p) H') ∧ (triAt (Solid.nats ns) i = none → ∀ H', Same H H' → E (.ref C) none H')
theorem scTri : FnScope ["file", "start", "first", "place"] ["file", "start"] (defScope sReadTri) := ⟨rfl, rfl, rfl, by decide +kernel, rfl, by decide +kernel, by decide +kernel⟩
theorem ok_tri {f C : Addr} {fd : FuncData} (F : Fun K "read_triangle" "read_triangle" sReadTri f fd) (T : Txt K mg C) (DC : Def P w K mg base (CXF P w) 3 "read_corner" ["file", "start"] (spCorner K C)) :
    FnOk P w K mg base (CXF P w) 4 f fd ["file", "start"] (spTri K C) := by
  refine F.okX scTri (fun vs H Q E h => ?_) (fun cdv A outer s H vs Q E hr h => ?_)
  · obtain ⟨a, ns, i, rfl, _⟩ := h
    rfl
  · obtain ⟨a, ns, i, rfl, hS, hB, hl, kS, kN⟩ := h
    refine ⟨_, pss_cons (ps_set (i := 2) scTri.nd rfl (Or.inr rfl) (pe_op op_add (pv 1) (pe_con T.firstCorner)))
      (pss_one (ps_ret (pe_callTy call_tuple_of rfl T.tuple boot_tuple (pa_cons (pe_lcX (own := [("place", 3)]) takes_def top_def rfl scTri.nd (pi_range1 rfl T.range (pa_cons pe_int pa_nil)) (blkOk_by (by show blkC ["file", "start", "first", "place"] (defScope sReadTri) _ _ = true; decide +kernel))
      (fun _ _ _ _ _ => pg_name (i := 3) scTri.nd rfl (Or.inl rfl)) (fun _ _ _ _ _ => pts_nil)
      (fun _ _ _ _ _ => pe_def DC hr (passes_of takes_blk) (pa_cons (pv 0) (pa_cons (pe_op op_add (pv 2) (pe_op op_mul (pe_con T.cornerBytes) (pv 3))) pa_nil)))) pa_nil)))), ?_⟩
    refine ⟨_, rfl, _, _, rfl, rfl, ?_⟩
    refine ⟨3, rfl, by decide, by decide, fun D hD => ?_⟩
    refine lc_range (n := 3) (fun k H' => ∃ (cs : List Corner) (ps : List Addr), cs.length = k ∧ (∀ j, j < k → cornerAt (Solid.nats ns) (i + 12 + 12 * j) = cs[j]?) ∧ Paired (CorAt H') ps cs ∧ Same H H' ∧ H' D = some (.lst (ps.map V.ref))) ⟨[], [], rfl, fun j hj => absurd hj (by omega), .nil, same_new hD, upd_same⟩ ?_ ?_
    · rintro k H' hk ⟨cs, ps, hz, hw, hp, sm, hD'⟩
      refine ⟨rfl, ?_⟩
      dsimp only [tYes]
      rw [if_pos rfl]
      refine ⟨_, rfl, _, rfl, _, rfl, _, _, rfl, rfl, .inl ⟨by show -(2 ^ 64 : Int) < 12; decide, by show (12 : Int) < 2 ^ 64; decide⟩, _, _, rfl, rfl, a, ns, i + 12 + 12 * k, ?_, sm.seq hS, hB, by omega, fun c hc H2 p s2 hp2 => ?_, fun hn H2 s2 => ?_⟩
      · show [V.ref a, V.int ((i : Int) + 12 + 12 * (0 + (k : Nat)))] = [V.ref a, V.int ((i + 12 + 12 * k : Nat) : Int)]
        rw [show ((i + 12 + 12 * k : Nat) : Int) = (i : Int) + 12 + 12 * (0 + (k : Nat)) by omega]
      · have hD2 := s2 _ _ hD'
        have lp : ps.length = k := (Paired.length hp).trans hz
        have hpD : p ≠ D := fun z => by
          have e : H2 p = some (.tup (cV c)) := hp2
          rw [z, hD2] at e
          cases e
        have kp : ∀ b xs, H2 b = some (.tup xs) → upd H2 D (.lst (ps.map V.ref ++ [V.ref p])) b = some (.tup xs) := fun b xs e => by
          rw [upd_ne (ne_of e hD2 (fun z => nomatch z))]; exact e
        refine ⟨_, hD2, by rw [List.length_map, lp]; exact small1000 (by omega), cs ++ [c], ps ++ [p], by simp [hz], fun j hj => ?_, ?_, same_upd (sm.trans s2) hD, by rw [upd_same, List.map_append]; rfl⟩
        · by_cases hjk : j < k
          · rw [List.getElem?_append_left (by omega)]; exact hw j hjk
          · have : j = k := by omega
            subst this
            rw [List.getElem?_append_right (by omega), hc, ← hz]
            simp
        · exact Paired.snoc (Paired.mapP hp fun b c e => kp b _ (s2 _ _ e)) (kp p _ hp2)
      · refine kN ?_ H2 (sm.trans s2)
        match k, hk with
        | 0, _ => exact Solid.tri_none1 hn
        | 1, _ =>
          match cs, hz with
          | [z0], _ => exact Solid.tri_none2 (hw 0 (by omega)) hn
        | 2, _ =>
          match cs, hz with
          | [z0, z1], _ => exact Solid.tri_none3 (hw 0 (by omega)) (hw 1 (by omega)) hn
    · rintro H' ⟨cs, ps, hz, hw, hp, sm, hD'⟩
      match cs, hz with
      | [z0, z1, z2], _ =>
        cases hp with
        | cons p0 hp =>
          cases hp with
          | cons p1 hp =>
            cases hp with
            | cons p2 hp =>
              cases hp
              rename_i a0 a1 a2
              refine ⟨D, _, rfl, .inl ⟨SqL.of hD', fun l hl' => ?_⟩⟩
              have s2 : Same H' (upd H' l (.tup ([a0, a1, a2].map V.ref))) := same_new hl'
              exact kS ⟨z0, z1, z2⟩ (Solid.tri_some (hw 0 (by omega)) (hw 1 (by omega)) (hw 2 (by omega))) _ l (sm.trans s2) ⟨a0, a1, a2, upd_same, s2 _ _ p0, s2 _ _ p1, s2 _ _ p2⟩
end
end Sol
end
section
set_option Elab.async false
set_option linter.all false
set_option maxRecDepth 100000
set_option maxHeartbeats 2000000
namespace Sol
open PySem PySem.Spec PyProof.Rows L2
open Sa63 (Tri Corner Edge low whole nearest cornerAt triAt proper skinOf)
def spCount (K : PySem.W.Frag) (C : Addr) : Sp := fun vs H Q E => ∃ (a : Addr) (ns : List Int), vs = [.ref a] ∧ SqL K H a (ns.map V.int) ∧ Bytes ns ∧
  (84 ≤ ns.length → low (Solid.nats ns) 80 4 ≤ 20000 → ns.length = 84 + 50 * low (Solid.nats ns) 80 4 → Q (.int (low (Solid.nats ns) 80 4 : Nat)) H) ∧
  ((ns.length < 84 ∨ 20000 < low (Solid.nats ns) 80 4 ∨ ns.length ≠ 84 + 50 * low (Solid.nats ns) 80 4) → E (.ref C) none H)
section
variable {P : Program} {w : World} {K : PySem.W.Frag} {mg : Str → Option Value} {base : Heap}
theorem scCount : FnScope ["file", "count"] ["file"] (defScope sReadCount) := ⟨rfl, rfl, rfl, by decide +kernel, rfl, by decide +kernel, by decide +kernel⟩
theorem ok_count {f C : Addr} {fd : FuncData} (F : Fun K "read_count" "read_count" sReadCount f fd) (T : Txt K mg C) (DB : Def P w K mg base CX0 1 "read_bits" ["file", "start"] (spBits K)) :
    FnOk P w K mg base (CXF P w) 2 f fd ["file"] (spCount K C) := by
  refine F.okX scCount (fun vs H Q E h => ?_) (fun cdv A outer s H vs Q E hr h => ?_)
  · obtain ⟨a, ns, rfl, _⟩ := h
    rfl
  · obtain ⟨a, ns, rfl, hS, hB, kS, kN⟩ := h
    refine ⟨_, pss_cons (ps_if (pt_cmpR op_lt (pe_callB call_len_seq (by rfl) T.len PySem.boot_len (pa_cons (pv 0) pa_nil)) (pe_con T.trisStart) (nomark _)) (pss_one (ps_raise0 rfl rfl T.wrong T.exc PySem.F.excBase_Exception takes_def)) pss_nil)
      (pss_cons (ps_set (i := 1) scCount.nd rfl (Or.inl rfl) (pe_def DB hr pass0 (pa_cons (pv 0) (pa_cons (pe_con T.countStart) pa_nil))))
      (pss_cons (ps_if (pw_or (pt_cmpR op_gt (pv 1) (pe_con T.mostTris) (nomark _)) (pw_or1 (pt_cmpR op_ne (pe_callB call_len_seq (by rfl) T.len PySem.boot_len (pa_cons (pv 0) pa_nil)) (pe_op op_add (pe_con T.trisStart) (pe_op op_mul (pe_con T.triBytes) (pv 1))) (nomark _)))).pt
        (pss_one (ps_raise0 rfl rfl T.wrong T.exc PySem.F.excBase_Exception takes_def)) pss_nil)
      (pss_one (ps_ret (pv 1))))), ?_⟩
    refine ⟨_, rfl, a, _, rfl, .inl hS, _, _, rfl, rfl, _, rfl, ?_⟩
    refine ite2 (fun c => ?_) fun c => ?_
    · have c : ((ns.map V.int).length : Int) < 84 := of_decide_eq_true c
      rw [List.length_map] at c
      exact kN (.inl (by omega))
    have c : ¬ ((ns.map V.int).length : Int) < 84 := fun z => c (decide_eq_true z)
    rw [List.length_map] at c
    refine ⟨_, rfl, a, ns, 80, rfl, hS, hB, by omega, ?_⟩
    dsimp only
    generalize low (Solid.nats ns) 80 4 = n at *
    refine ⟨_, rfl, _, _, rfl, rfl, _, rfl, ?_⟩
    refine ite2 (fun c2 => ?_) fun c2 => ?_
    · have c2 : (20000 : Int) < n := of_decide_eq_true c2
      refine iteT ?_
      exact kN (.inr (.inl (by omega)))
    have c2 : ¬ (20000 : Int) < n := fun z => c2 (decide_eq_true z)
    refine ⟨_, rfl, a, _, rfl, .inl hS, _, rfl, _, _, rfl, rfl, .inl ⟨by show -(2 ^ 64 : Int) < 50; decide, by show (50 : Int) < 2 ^ 64; decide⟩, _, _, rfl, rfl, rfl, _, rfl, ?_⟩
    refine ite2 (fun c3 => ?_) fun c3 => ?_
    · have c3 : ¬ ((ns.map V.int).length : Int) = 84 + 50 * n := fun z => by
        have e : decide (V.int ((ns.map V.int).length : Int) = V.int (84 + 50 * (n : Int))) = true := decide_eq_true (congrArg V.int z)
        have c3' : (!decide (V.int ((ns.map V.int).length : Int) = V.int (84 + 50 * (n : Int)))) = true := c3
        rw [e] at c3'; cases c3'
      rw [List.length_map] at c3
      exact kN (.inr (.inr (by omega)))
    · have c3 : ((ns.map V.int).length : Int) = 84 + 50 * n := Classical.byContradiction fun z => by
        have e : decide (V.int ((ns.map V.int).length : Int) = V.int (84 + 50 * (n : Int))) = false := decide_eq_false fun q => z (by injection q)
        have c3' : ¬ (!decide (V.int ((ns.map V.int).length : Int) = V.int (84 + 50 * (n : Int)))) = true := c3
        rw [e] at c3'; exact c3' rfl
      rw [List.length_map] at c3
      exact ⟨_, rfl, kS (by omega) (by omega) (by omega)⟩
def cD (c : Corner) : PyData := .tuple [.int c.1, .int c.2.1, .int c.2.2]
theorem cor_dp {H : Hp} {a : Addr} {c : Corner} (h : CorAt H a c) : Dp K H (.ref a) (cD c) := .tup (SqT.of h) (.cons (.int _) (.cons (.int _) (.cons (.int _) .nil)))
theorem cD_shaped (c : Corner) : SeqAt.shaped (cD c) = true := rfl
theorem cD_eqv (c d : Corner) : PyData.eqv (cD c) (cD d) = decide (c = d) := by
  obtain ⟨x, y, z⟩ := c
  obtain ⟨x', y', z'⟩ := d
  simp only [cD, PyData.eqv, PyData.eqvAll]
  rw [Bool.eq_iff_iff]
  simp
def spCounts : Sp := fun vs H Q _ => ∃ (a : Addr) (t : Tri), vs = [.ref a] ∧ TriAt H a t ∧ Q (.bl (proper t)) H
theorem scCounts : FnScope ["triangle"] ["triangle"] (defScope sCounts) := ⟨rfl, rfl, rfl, by decide +kernel, rfl, by decide +kernel, by decide +kernel⟩
theorem ok_counts {f C : Addr} {fd : FuncData} (F : Fun K "counts" "counts" sCounts f fd) (T : Txt K mg C) : FnOk P w K mg base CX0 1 f fd ["triangle"] spCounts := by
  refine F.ok scCounts (fun vs H Q E h => ?_) (fun cdv A outer s H vs Q E hr h => ?_)
  · obtain ⟨a, t, rfl, _⟩ := h
    rfl
  · obtain ⟨a, t, rfl, ⟨p, q, r, h0, h1, h2, h3⟩, k⟩ := h
    have hu := hr.units
    refine ⟨_, pss_one (ps_ret (pe_and (pe_cmpR (op_neD hu) (pe_ix ix_tup (pv 0) pe_int (fun _ _ => rfl)) (pe_ix ix_tup (pv 0) pe_int (fun _ _ => rfl)) (nomark _))
      (pe_and (pe_cmpR (op_neD hu) (pe_ix ix_tup (pv 0) pe_int (fun _ _ => rfl)) (pe_ix ix_tup (pv 0) pe_int (fun _ _ => rfl)) (nomark _))
      (pe_one (pe_cmpR (op_neD hu) (pe_ix ix_tup (pv 0) pe_int (fun _ _ => rfl)) (pe_ix ix_tup (pv 0) pe_int (fun _ _ => rfl)) (nomark _)))))), ?_⟩
    have i0 : atI [V.ref p, V.ref q, V.ref r] 0 = some (.ref p) := rfl
    have i1 : atI [V.ref p, V.ref q, V.ref r] 1 = some (.ref q) := rfl
    have i2 : atI [V.ref p, V.ref q, V.ref r] 2 = some (.ref r) := rfl
    have pr : proper t = (!decide (t.a = t.b) && (!decide (t.b = t.c) && !decide (t.c = t.a))) := by
      rw [Bool.eq_iff_iff, Solid.proper_iff]
      simp
    refine ⟨_, rfl, a, _, _, _, rfl, rfl, SqT.of h0, i0, _, rfl, a, _, _, _, rfl, rfl, SqT.of h0, i1, _, _, cor_dp h1, cor_dp h2, cD_shaped _, cD_shaped _, _, rfl, ?_⟩
    rw [cD_eqv]
    refine ite2 (fun c1 => ?_) fun c1 => ?_
    · refine ⟨_, rfl, a, _, _, _, rfl, rfl, SqT.of h0, i1, _, rfl, a, _, _, _, rfl, rfl, SqT.of h0, i2, _, _, cor_dp h2, cor_dp h3, cD_shaped _, cD_shaped _, _, rfl, ?_⟩
      rw [cD_eqv]
      refine ite2 (fun c2 => ?_) fun c2 => ?_
      · refine ⟨_, rfl, a, _, _, _, rfl, rfl, SqT.of h0, i2, _, rfl, a, _, _, _, rfl, rfl, SqT.of h0, i0, _, _, cor_dp h3, cor_dp h1, cD_shaped _, cD_shaped _, ?_⟩
        rw [cD_eqv]
        rw [pr, c1, c2] at k
        exact k
      · rw [pr, c1, Bool.eq_false_iff.mpr c2] at k
        exact k
    · rw [pr, Bool.eq_false_iff.mpr c1] at k
      exact k
end
end Sol
end
section
set_option Elab.async false
set_option linter.all false
set_option maxRecDepth 100000
set_option maxHeartbeats 2000000
namespace Sol
open PySem PySem.Spec PyProof.Rows L2
open Sa63 (Tri Corner Edge low whole nearest cornerAt triAt proper skinOf)
def spTris (K : PySem.W.Frag) (C : Addr) : Sp := fun vs H Q E => ∃ (a : Addr) (ns : List Int), vs = [.ref a] ∧ SqL K H a (ns.map V.int) ∧ Bytes ns ∧
  (∀ l, skinOf (Solid.nats ns) = some l → l.length ≤ 20000 → ∀ (H' : Hp) (p : Addr) (as : List Addr), Same H H' → H' p = some (.lst (as.map V.ref)) → Paired (TriAt H') as l → Q (.ref p) H') ∧
  (skinOf (Solid.nats ns) = none → ∀ H', Same H H' → E (.ref C) none H')
section
variable {P : Program} {w : World} {K : PySem.W.Frag} {mg : Str → Option Value} {base : Heap}
theorem filter_snoc (l : List Tri) (t : Tri) : (l ++ [t]).filter proper = if proper t = true then l.filter proper ++ [t] else l.filter proper := by
  rw [List.filter_append, List.filter_cons, List.filter_nil]
  by_cases h : proper t = true
  · rw [if_pos h, if_pos h]
  · rw [if_neg h, if_neg h, List.append_nil]
theorem scTris : FnScope ["file", "triangles", "number", "triangle"] ["file"] (defScope sReadTris) := ⟨rfl, rfl, rfl, by decide +kernel, rfl, by decide +kernel, by decide +kernel⟩
theorem ok_tris {f C : Addr} {fd : FuncData} (F : Fun K "read_triangles" "read_triangles" sReadTris f fd) (T : Txt K mg C) (DN : Def P w K mg base (CXF P w) 2 "read_count" ["file"] (spCount K C))
    (DT : Def P w K mg base (CXF P w) 4 "read_triangle" ["file", "start"] (spTri K C)) (DC : Def P w K mg base CX0 1 "counts" ["triangle"] spCounts) :
    FnOk P w K mg base (CXF P w) 5 f fd ["file"] (spTris K C) := by
  refine F.okX scTris (fun vs H Q E h => ?_) (fun cdv A outer s H vs Q E hr h => ?_)
  · obtain ⟨a, ns, rfl, _⟩ := h
    rfl
  · obtain ⟨a, ns, rfl, hS, hB, kS, kN⟩ := h
    have hr2 : Room 2 _ := hr.mono (by decide)
    have hr1 : Room 1 _ := hr.mono (by decide)
    refine ⟨_, pss_cons (ps_set (i := 1) scTris.nd rfl (Or.inl rfl) (pe_lst pa_nil))
      (pss_cons (ps_for passes_own_def rfl (pi_range1 rfl T.range (pa_cons (pe_def DN hr2 (passes_of takes_def) (pa_cons (pv 0) pa_nil)) pa_nil)) (pg_name (i := 2) scTris.nd rfl (Or.inl rfl))
        (pss_cons (ps_set (i := 3) scTris.nd rfl (Or.inl rfl) (pe_def DT hr (passes_of takes_def) (pa_cons (pv 0) (pa_cons (pe_op op_add (pe_con T.trisStart) (pe_op op_mul (pe_con T.triBytes) (pv 2))) pa_nil))))
        (pss_one (ps_if (pt_val (pe_def DC hr1 pass0 (pa_cons (pv 3) pa_nil)))
          (pss_one (ps_expr (pe_bm PySem.F.plainAttrs_list PySem.F.slot_list_append PySem.F.type_list_append mt_append (pv 1) (pa_cons (pv 3) pa_nil)))) pss_nil))))
      (pss_one (ps_ret (pv 1)))), ?_⟩
    have hlen : (Solid.nats ns).length = ns.length := nats_len ns
    refine ⟨Nat.zero_le _, fun p hp => ?_⟩
    have s0 : Same H (upd H p (.lst [])) := same_new hp
    refine ⟨_, rfl, a, ns, rfl, s0.seq hS, hB, fun c1 c2 c3 => ?_, fun c => ?_⟩
    · -- the count is right
      have hskin := Solid.skin_read (b := Solid.nats ns) rfl (by omega) c2 (by omega)
      generalize hn : low (Solid.nats ns) 80 4 = n at *
      refine ⟨(n : Int), rfl, by omega, by omega, ?_⟩
      refine for_range (lo := 0) (n := n) (fun k σ H' => ∃ v2 v3, σ = [some (.ref a), some (.ref p), v2, v3] ∧ ∃ (l : List Tri) (as : List Addr), Solid.readTo (Solid.nats ns) k = some l ∧ l.length = k ∧ Same H H' ∧ H' p = some (.lst (as.map V.ref)) ∧ Paired (TriAt H') as (l.filter proper))
        ⟨none, none, rfl, [], [], rfl, rfl, s0, upd_same, .nil⟩ ?_ ?_
      · rintro k σ H' hk ⟨v2, v3, rfl, l, as, hl, hlk, sm, hp', hT⟩
        refine ⟨_, rfl, _, rfl, _, _, rfl, rfl, .inl ⟨by show -(2 ^ 64 : Int) < 50; decide, by show (50 : Int) < 2 ^ 64; decide⟩, _, _, rfl, rfl, a, ns, 84 + 50 * k, ?_, sm.seq hS, hB, by omega, fun t ht H2 b s2 hb => ?_, fun ht H2 s2 => ?_⟩
        · show [V.ref a, V.int (84 + 50 * (0 + (k : Nat)))] = [V.ref a, V.int ((84 + 50 * k : Nat) : Int)]
          rw [show ((84 + 50 * k : Nat) : Int) = 84 + 50 * (0 + (k : Nat)) by omega]
        · have hT2 : Paired (TriAt H2) as (l.filter proper) := Paired.mapP hT fun _ _ z => z.same s2
          have hp2 := s2 _ _ hp'
          refine ⟨_, rfl, b, t, rfl, hb, _, rfl, ?_⟩
          have hread := Solid.readTo_succ hl ht
          refine ite2 (fun c => ?_) fun c => ?_
          · have hla : as.length ≤ k := by
              rw [Paired.length hT, ← hlk]; exact List.length_filter_le _ _
            refine ⟨_, rfl, .inl ⟨rfl, _, SqL.of hp2⟩, _, rfl, p, _, _, rfl, rfl, hp2, by rw [List.length_map]; exact Nat.lt_of_le_of_lt (show as.length ≤ 20000 by omega) (by decide), ?_⟩
            have s3 : ∀ b' t', TriAt H2 b' t' → TriAt (upd H2 p (.lst (as.map V.ref ++ [V.ref b]))) b' t' := fun b' t' z => by
              obtain ⟨x, y, z', e0, e1, e2, e3⟩ := z
              have kp : ∀ q xs, H2 q = some (.tup xs) → upd H2 p (.lst (as.map V.ref ++ [V.ref b])) q = some (.tup xs) := fun q xs e => by rw [upd_ne (ne_of e hp2 (fun z => nomatch z))]; exact e
              exact ⟨x, y, z', kp _ _ e0, kp _ _ e1, kp _ _ e2, kp _ _ e3⟩
            refine ⟨_, _, rfl, l ++ [t], as ++ [b], hread, by simp [hlk], same_upd (sm.trans s2) hp, by rw [upd_same, List.map_append]; rfl, ?_⟩
            rw [filter_snoc, if_pos c]
            exact Paired.snoc (Paired.mapP hT2 s3) (s3 _ _ hb)
          · refine ⟨_, _, rfl, l ++ [t], as, hread, by simp [hlk], sm.trans s2, hp2, ?_⟩
            rw [filter_snoc, if_neg c]
            exact hT2
        · refine kN ?_ H2 (sm.trans s2)
          rw [hskin, Solid.readTo_none hk ht]
          rfl
      · rintro σ H' ⟨v2, v3, rfl, l, as, hl, hlk, sm, hp', hT⟩
        refine ⟨_, rfl, ?_⟩
        refine kS (l.filter proper) (by rw [hskin, hl]; rfl) (Nat.le_trans (List.length_filter_le _ _) (by omega)) H' p as sm hp' hT
    · exact kN (Solid.skin_none (by rw [hlen]; exact c)) _ s0
end
end Sol
end
section
set_option Elab.async false
set_option linter.all false
set_option maxRecDepth 100000
set_option maxHeartbeats 2000000
namespace Sol
open PySem PySem.Spec PyProof.Rows L2
open Sa63 (Tri Corner Edge low whole nearest cornerAt triAt proper skinOf leastOf mostOf)
theorem paired_at {α β : Type} {G : α → β → Prop} {l₁ : List α} {l₂ : List β} (h : Paired G l₁ l₂) {i : Nat} {a : α} (e : l₁[i]? = some a) : ∃ b, l₂[i]? = some b ∧ G a b := paired_get h e
theorem map_at {α β : Type} {l : List α} {f : α → β} {i : Nat} {y : β} (h : (l.map f)[i]? = some y) : ∃ x, l[i]? = some x ∧ f x = y := by
  rw [List.getElem?_map] at h
  obtain ⟨x, h1, h2⟩ := Option.map_eq_some_iff.mp h
  exact ⟨x, h1, h2⟩
theorem take_more {α : Type} {l : List α} {i : Nat} {x : α} (h : l[i]? = some x) : l.take (i + 1) = l.take i ++ [x] := by
  rw [List.take_add_one, h]; rfl
def cK (c : Corner) : List Key := [.inl c.1, .inl c.2.1, .inl c.2.2]
theorem cK_inj {c d : Corner} (h : cK c = cK d) : c = d := by
  obtain ⟨x, y, z⟩ := c
  obtain ⟨x', y', z'⟩ := d
  simp only [cK, List.cons.injEq, Sum.inl.injEq, and_true] at h
  obtain ⟨rfl, rfl, rfl⟩ := h
  rfl
end Sol
end
section
set_option Elab.async false
set_option linter.all false
set_option maxRecDepth 100000
set_option maxHeartbeats 2000000
namespace Sol
open PySem PySem.Spec PyProof.Rows L2
open Sa63 (Tri Corner Edge low whole nearest cornerAt triAt proper skinOf leastOf mostOf edges closed)
open Solid (rev)
def EdgeAt (H : Hp) (a : Addr) (e : Edge) : Prop := ∃ p q, H a = some (.tup [.ref p, .ref q]) ∧ CorAt H p e.1 ∧ CorAt H q e.2
theorem EdgeAt.same {H H' : Hp} {a : Addr} {e : Edge} (h : EdgeAt H a e) (s : Same H H') : EdgeAt H' a e := by
  obtain ⟨p, q, h0, h1, h2⟩ := h
  exact ⟨p, q, s _ _ h0, s _ _ h1, s _ _ h2⟩
theorem EdgeAt.tups {H H' : Hp} {a : Addr} {e : Edge} (h : EdgeAt H a e) (s : ∀ b xs, H b = some (.tup xs) → H' b = some (.tup xs)) : EdgeAt H' a e := by
  obtain ⟨p, q, h0, h1, h2⟩ := h
  exact ⟨p, q, s _ _ h0, s _ _ h1, s _ _ h2⟩
def eK (e : Edge) : List (List Key) := [cK e.1, cK e.2]
theorem eK_inj {e f : Edge} (h : eK e = eK f) : e = f := by
  obtain ⟨p, q⟩ := e
  obtain ⟨p', q'⟩ := f
  simp only [eK, List.cons.injEq, and_true] at h
  rw [cK_inj h.1, cK_inj h.2]
theorem EdgeAt.key {H : Hp} {a : Addr} {e : Edge} (h : EdgeAt H a e) : NKey H (eK e) a := by
  obtain ⟨p, q, h0, h1, h2⟩ := h
  exact ⟨[p, q], h0, .cons h1 (.cons h2 .nil)⟩
def eKV (e : Edge) : List (List Key) × V := (eK e, .bl true)
theorem val_edges (ds : List Edge) (e : Edge) : (valV (ds.map eKV) (eK e)).isSome = decide (e ∈ ds) := by
  rw [← valV_any, Bool.eq_iff_iff, List.any_eq_true, decide_eq_true_iff]
  constructor
  · rintro ⟨kv, h1, h2⟩
    obtain ⟨d, hd, rfl⟩ := List.mem_map.mp h1
    rw [← eK_inj (of_decide_eq_true h2)]; exact hd
  · intro h
    exact ⟨eKV e, List.mem_map.mpr ⟨e, h, rfl⟩, decide_eq_true rfl⟩
theorem put_edge {ds : List Edge} {e : Edge} (h : e ∉ ds) : putK (ds.map eKV) (eK e) (.bl true) = (ds ++ [e]).map eKV := by
  unfold putK
  rw [valV_any, val_edges, if_neg (by rw [decide_eq_false h]; exact Bool.false_ne_true), List.map_append]
  rfl
theorem edges_len (l : List Tri) : (l.flatMap edges).length = 3 * l.length := by
  induction l with
  | nil => rfl
  | cons t l ih => rw [List.flatMap_cons, List.length_append, ih, List.length_cons]; show 3 + _ = _; omega
def spEdges : Sp := fun vs H Q _ => ∃ (a : Addr) (t : Tri), vs = [.ref a] ∧ TriAt H a t ∧ ∀ (H' : Hp) (p : Addr) (es : List Addr), Same H H' → H p = none → H' p = some (.lst (es.map V.ref)) → Paired (EdgeAt H') es (edges t) → Q (.ref p) H'
def spOther : Sp := fun vs H Q _ => ∃ (a : Addr) (e : Edge), vs = [.ref a] ∧ EdgeAt H a e ∧ ∀ (H' : Hp) (p : Addr), Same H H' → EdgeAt H' p (rev e) → Q (.ref p) H'
section
variable {P : Program} {w : World} {K : PySem.W.Frag} {mg : Str → Option Value} {base : Heap}
theorem scEdges : FnScope ["triangle"] ["triangle"] (defScope sEdges) := ⟨rfl, rfl, rfl, by decide +kernel, rfl, by decide +kernel, by decide +kernel⟩
theorem ok_edges {f C : Addr} {fd : FuncData} (F : Fun K "edges_of" "edges_of" sEdges f fd) (T : Txt K mg C) : FnOk P w K mg base CX0 1 f fd ["triangle"] spEdges := by
  refine F.ok scEdges (fun vs H Q E h => ?_) (fun cdv A outer s H vs Q E hr h => ?_)
  · obtain ⟨a, t, rfl, _⟩ := h
    rfl
  · obtain ⟨a, t, rfl, ⟨p, q, r, h0, h1, h2, h3⟩, k⟩ := h
    refine ⟨_, pss_one (ps_ret (pe_lst (pa_cons (pe_tup (pa_cons (pe_ix ix_tup (pv 0) pe_int (fun _ _ => rfl)) (pa_cons (pe_ix ix_tup (pv 0) pe_int (fun _ _ => rfl)) pa_nil)))
      (pa_cons (pe_tup (pa_cons (pe_ix ix_tup (pv 0) pe_int (fun _ _ => rfl)) (pa_cons (pe_ix ix_tup (pv 0) pe_int (fun _ _ => rfl)) pa_nil)))
      (pa_cons (pe_tup (pa_cons (pe_ix ix_tup (pv 0) pe_int (fun _ _ => rfl)) (pa_cons (pe_ix ix_tup (pv 0) pe_int (fun _ _ => rfl)) pa_nil))) pa_nil))))), ?_⟩
    have i0 : atI [V.ref p, V.ref q, V.ref r] 0 = some (.ref p) := rfl
    have i1 : atI [V.ref p, V.ref q, V.ref r] 1 = some (.ref q) := rfl
    have i2 : atI [V.ref p, V.ref q, V.ref r] 2 = some (.ref r) := rfl
    refine ⟨_, rfl, a, _, _, _, rfl, rfl, SqT.of h0, i0, _, rfl, a, _, _, _, rfl, rfl, SqT.of h0, i1, (by show 2 ≤ sizeLine; decide), fun a1 n1 => ?_⟩
    have s1 : Same H (upd H a1 (.tup [.ref p, .ref q])) := same_new n1
    refine ⟨_, rfl, a, _, _, _, rfl, rfl, SqT.of (s1 _ _ h0), i1, _, rfl, a, _, _, _, rfl, rfl, SqT.of (s1 _ _ h0), i2, (by show 2 ≤ sizeLine; decide), fun a2 n2 => ?_⟩
    have s2 : Same (upd H a1 (.tup [.ref p, .ref q])) (upd (upd H a1 (.tup [.ref p, .ref q])) a2 (.tup [.ref q, .ref r])) := same_new n2
    have s12 := s1.trans s2
    refine ⟨_, rfl, a, _, _, _, rfl, rfl, SqT.of (s12 _ _ h0), i2, _, rfl, a, _, _, _, rfl, rfl, SqT.of (s12 _ _ h0), i0, (by show 2 ≤ sizeLine; decide), fun a3 n3 => ?_⟩
    have s3 : Same (upd (upd H a1 (.tup [.ref p, .ref q])) a2 (.tup [.ref q, .ref r])) (upd (upd (upd H a1 (.tup [.ref p, .ref q])) a2 (.tup [.ref q, .ref r])) a3 (.tup [.ref r, .ref p])) := same_new n3
    have s13 := s12.trans s3
    refine ⟨(by show 3 ≤ sizeLine; decide), fun b hb => ?_⟩
    have s4 : Same (upd (upd (upd H a1 (.tup [.ref p, .ref q])) a2 (.tup [.ref q, .ref r])) a3 (.tup [.ref r, .ref p])) (upd (upd (upd (upd H a1 (.tup [.ref p, .ref q])) a2 (.tup [.ref q, .ref r])) a3 (.tup [.ref r, .ref p])) b (.lst [.ref a1, .ref a2, .ref a3])) := same_new hb
    have s14 := s13.trans s4
    refine k _ b [a1, a2, a3] s14 (s13.free hb) upd_same (.cons ⟨p, q, ?_, s14 _ _ h1, s14 _ _ h2⟩ (.cons ⟨q, r, ?_, s14 _ _ h2, s14 _ _ h3⟩ (.cons ⟨r, p, ?_, s14 _ _ h3, s14 _ _ h1⟩ .nil)))
    · exact s4 _ _ (s3 _ _ (s2 _ _ upd_same))
    · exact s4 _ _ (s3 _ _ upd_same)
    · exact s4 _ _ upd_same
theorem scOther : FnScope ["edge"] ["edge"] (defScope sOther) := ⟨rfl, rfl, rfl, by decide +kernel, rfl, by decide +kernel, by decide +kernel⟩
theorem ok_other {f C : Addr} {fd : FuncData} (F : Fun K "other_way" "other_way" sOther f fd) (T : Txt K mg C) : FnOk P w K mg base CX0 1 f fd ["edge"] spOther := by
  refine F.ok scOther (fun vs H Q E h => ?_) (fun cdv A outer s H vs Q E hr h => ?_)
  · obtain ⟨a, e, rfl, _⟩ := h
    rfl
  · obtain ⟨a, e, rfl, ⟨p, q, h0, h1, h2⟩, k⟩ := h
    refine ⟨_, pss_one (ps_ret (pe_tup (pa_cons (pe_ix ix_tup (pv 0) pe_int (fun _ _ => rfl)) (pa_cons (pe_ix ix_tup (pv 0) pe_int (fun _ _ => rfl)) pa_nil)))), ?_⟩
    have i0 : atI [V.ref p, V.ref q] 0 = some (.ref p) := rfl
    have i1 : atI [V.ref p, V.ref q] 1 = some (.ref q) := rfl
    refine ⟨_, rfl, a, _, _, _, rfl, rfl, SqT.of h0, i1, _, rfl, a, _, _, _, rfl, rfl, SqT.of h0, i0, (by show 2 ≤ sizeLine; decide), fun a1 n1 => ?_⟩
    have s1 : Same H (upd H a1 (.tup [.ref q, .ref p])) := same_new n1
    exact k _ a1 s1 ⟨q, p, upd_same, s1 _ _ h2, s1 _ _ h1⟩
theorem lc_keysN {d : Addr} {o : Obj} {kvs : List (List (List Key) × V)} {g : TG} {tt : TT} {te : TE} {vs : List Nat} {σ : L2.St} {H1 : Hp} {D : Addr} {Qd : Hp → Prop} (Pv : Nat → Hp → Prop) (h0 : Pv 0 (upd H1 D (.lst []))) (hl : ∀ i H, i ≤ kvs.length → Pv i H → H d = some (.frz o (.dN kvs)))
    (hs : ∀ i k v q H, kvs[i]? = some (k, v) → NKey H k q → Pv i H → g (.ref q) (wipe σ vs) H fun σ2 H2 => wipe σ2 vs = wipe σ vs ∧ tt σ2 H2 fun b H3 =>
      if b = true then te σ2 H3 fun y H4 => ∃ acc, H4 D = some (.lst acc) ∧ acc.length < sizeLine ∧ Pv (i + 1) (upd H4 D (.lst (acc ++ [y]))) else Pv (i + 1) H3) (hd : ∀ H, Pv kvs.length H → Qd H) :
    ∃ W : Nat → Nat → Hp → Prop, (∃ m, W 0 m (upd H1 D (.lst []))) ∧ ∀ i m H, W i m H →
      ((Itkn d o kvs).stop i H ∧ Qd H) ∨ ((Itkn d o kvs).go i H ∧ ∃ Nx : Hp → Prop, (∀ H', Nx H' → ∃ m', m' < m ∧ W (i + 1) m' H') ∧ ∀ x H', (Itkn d o kvs).yld i H x H' → g x (wipe σ vs) H' fun σ2 H2 => wipe σ2 vs = wipe σ vs ∧ tt σ2 H2 fun b H3 =>
        if b = true then te σ2 H3 fun y H4 => ∃ acc, H4 D = some (.lst acc) ∧ acc.length < sizeLine ∧ Nx (upd H4 D (.lst (acc ++ [y]))) else Nx H3) := by
  refine ⟨fun i m H => m = kvs.length - i ∧ i ≤ kvs.length ∧ Pv i H, ⟨kvs.length, by simp, Nat.zero_le _, h0⟩, ?_⟩
  rintro i m H ⟨rfl, hi, p⟩
  have q := hl i H hi p
  by_cases hlt : i < kvs.length
  · refine .inr ⟨⟨q, hlt⟩, Pv (i + 1), fun H' p' => ⟨kvs.length - (i + 1), by omega, rfl, hlt, p'⟩, fun x H' y => ?_⟩
    obtain ⟨e, k, v, b, hk, rfl, hn⟩ := y
    subst e
    exact hs i k v b _ hk hn p
  · have e : i = kvs.length := by omega
    subst e
    exact .inl ⟨⟨q, Nat.le_refl _⟩, hd H p⟩
end
end Sol
end
section
set_option Elab.async false
set_option linter.all false
set_option maxRecDepth 100000
set_option maxHeartbeats 2000000
namespace Sol
open PySem PySem.Spec PyProof.Rows L2
open Sa63 (Tri Corner Edge low whole nearest cornerAt triAt proper skinOf leastOf mostOf edges closed)
open Solid (rev)
theorem hu3_of {A : Around} {k : Nat} (hr : Room k A) : A.units + 3 < cLine := Nat.lt_of_le_of_lt (Nat.add_le_add_left (by decide : 3 ≤ 64) _) hr.units
theorem EdgeAt.of_key {H : Hp} {a : Addr} {e : Edge} (h : NKey H (eK e) a) : EdgeAt H a e := by
  obtain ⟨as, h0, h1⟩ := h
  cases h1 with
  | cons p1 t1 =>
    cases t1 with
    | cons p2 t2 =>
      cases t2
      exact ⟨_, _, h0, p1, p2⟩
theorem closed_no {l : List Tri} {ds rest : List Edge} {e : Edge} (h : l.flatMap edges = ds ++ e :: rest) (he : e ∈ ds) : closed l = false := by
  unfold Sa63.closed
  have : ¬ (l.flatMap edges).Nodup := by
    rw [h, List.nodup_append]
    rintro ⟨_, _, z⟩
    exact z e he e (by simp) rfl
  simp [this]
theorem closed_yes {l : List Tri} (h : (l.flatMap edges).Nodup) : closed l = ((l.flatMap edges).map fun e => decide (rev e ∈ l.flatMap edges)).all id := by
  unfold Sa63.closed
  simp only [h, decide_true, Bool.true_and, List.all_map]
  congr 1
  funext e
  show _ = decide (rev e ∈ _)
  rw [Bool.eq_iff_iff, decide_eq_true_iff, List.contains_iff_mem]
  rfl
theorem flat_cut {l : List Tri} {i j : Nat} {t : Tri} {e : Edge} (ht : l[i]? = some t) (he : (edges t)[j]? = some e) : ∃ rest, l.flatMap edges = ((l.take i).flatMap edges ++ (edges t).take j) ++ e :: rest := by
  obtain ⟨h1, h2⟩ := List.getElem?_eq_some_iff.mp ht
  obtain ⟨g1, g2⟩ := List.getElem?_eq_some_iff.mp he
  have e1 : l = l.take i ++ t :: l.drop (i + 1) := by rw [← h2, ← List.drop_eq_getElem_cons h1, List.take_append_drop]
  have e2 : edges t = (edges t).take j ++ e :: (edges t).drop (j + 1) := by rw [← g2, ← List.drop_eq_getElem_cons g1, List.take_append_drop]
  refine ⟨(edges t).drop (j + 1) ++ (l.drop (i + 1)).flatMap edges, ?_⟩
  conv => lhs; rw [e1, List.flatMap_append, List.flatMap_cons, e2]
  simp
def spClosed (K : PySem.W.Frag) : Sp := fun vs H Q _ => ∃ (a : Addr) (as : List Addr) (l : List Tri), vs = [.ref a] ∧ SqL K H a (as.map V.ref) ∧ Paired (TriAt H) as l ∧ l.length ≤ 20000 ∧ ∀ H', Same H H' → Q (.bl (closed l)) H'
section
variable {P : Program} {w : World} {K : PySem.W.Frag} {mg : Str → Option Value} {base : Heap}
theorem scClosed : FnScope ["triangles", "edges", "triangle", "edge"] ["triangles"] (defScope sClosed) := ⟨rfl, rfl, rfl, by decide +kernel, rfl, by decide +kernel, by decide +kernel⟩
theorem ok_closed {f C : Addr} {fd : FuncData} (F : Fun K "is_closed" "is_closed" sClosed f fd) (T : Txt K mg C) (DE : Def P w K mg base CX0 1 "edges_of" ["triangle"] spEdges) (DO : Def P w K mg base CX0 1 "other_way" ["edge"] spOther) :
    FnOk P w K mg base CX0 2 f fd ["triangles"] (spClosed K) := by
  refine F.ok scClosed (fun vs H Q E h => ?_) (fun cdv A outer s H vs Q E hr h => ?_)
  · obtain ⟨a, as, l, rfl, _⟩ := h
    rfl
  · obtain ⟨a, as, l, rfl, hS, hT, hl, k⟩ := h
    have hu := hu_of hr
    have hu3 : _ + 3 < cLine := hu3_of hr
    refine ⟨_, pss_cons (ps_set (i := 1) scClosed.nd rfl (Or.inr rfl) pe_dnewN)
      (pss_cons (ps_for PassesOwn.never rfl (pi_list (pv 0)) (pg_name (i := 2) scClosed.nd rfl (Or.inl rfl))
        (pss_one (ps_for PassesOwn.never rfl (pi_list (pe_def DE hr pass0 (pa_cons (pv 2) pa_nil))) (pg_name (i := 3) scClosed.nd rfl (Or.inl rfl))
          (pss_cons (ps_if (pt_cmp (pc_nin hu3 (pv 3) (pv 1))) (pss_one (ps_ret pe_bl)) pss_nil)
          (pss_one (ps_nput hu3 (pv 1) (pv 3) pe_bl rfl))))))
      (pss_one (ps_ret (pe_callB (cr_all rfl) rfl T.all boot_all (pa_cons (pe_lock (pe_lc (own := [("edge", 3)]) rfl scClosed.nd (pi_keysN (pv 1)) (blkOk_by (by show blkC ["triangles", "edges", "triangle", "edge"] (defScope sClosed) _ _ = true; decide +kernel))
        (fun _ _ _ _ _ => pg_name (i := 3) scClosed.nd rfl (Or.inl rfl)) (fun _ _ _ _ _ => pts_nil) (fun _ _ _ _ _ => pe_cmp (pc_nin hu3 (pe_def DO hr pass0 (pa_cons (pv 3) pa_nil)) (pv 1))))) pa_nil))))), ?_⟩
    intro d hd
    have la : as.length = l.length := Paired.length hT
    have le := edges_len l
    refine ⟨_, rfl, a, rfl, ⟨_, (same_new hd).seq hS⟩, for_list (K := K) (a := a) (xs := as.map V.ref) (fun i σ H' => ∃ v2 v3, σ = [some (.ref a), some (.ref d), v2, v3] ∧ Same H H' ∧ H' d = some (.dN (((l.take i).flatMap edges).map eKV)) ∧ ((l.take i).flatMap edges).Nodup)
      ⟨none, none, rfl, same_new hd, upd_same, List.nodup_nil⟩ (fun i σ H' _ ⟨_, _, _, sm, _⟩ => sm.seq hS) ?_ ?_⟩
    · rintro i y σ H' hi ⟨v2, v3, rfl, sm, hd', nd⟩
      obtain ⟨b, hb, rfl⟩ := map_at hi
      obtain ⟨t, ht, hbt⟩ := paired_at hT hb
      refine ⟨_, rfl, b, t, rfl, hbt.same sm, fun H1 p es s1 hp0 hp1 hes => ⟨p, rfl, ⟨_, SqL.of hp1⟩, ?_⟩⟩
      have hdp : d ≠ p := ne_of_none hd' hp0
      have lt3 : (edges t).length = 3 := rfl
      have les : es.length = (edges t).length := Paired.length hes
      refine for_list (K := K) (a := p) (xs := es.map V.ref) (fun j σ H2 => ∃ v3, σ = [some (.ref a), some (.ref d), some (.ref b), v3] ∧ Same H H2 ∧ (∀ c o, H1 c = some o → c ≠ d → H2 c = some o) ∧ H2 d = some (.dN (((l.take i).flatMap edges ++ (edges t).take j).map eKV)) ∧ ((l.take i).flatMap edges ++ (edges t).take j).Nodup)
        ⟨v3, rfl, sm.trans s1, fun c o e _ => e, by rw [List.take_zero, List.append_nil]; exact s1 _ _ hd', by rw [List.take_zero, List.append_nil]; exact nd⟩ (fun j σ H2 _ ⟨_, _, _, k2, _⟩ => SqL.of (k2 _ _ hp1 (Ne.symm hdp))) ?_ ?_
      · rintro j y σ H2 hj ⟨v3', rfl, sm2, k2, hd2, nd2⟩
        obtain ⟨c, hc, rfl⟩ := map_at hj
        obtain ⟨e, he, hce⟩ := paired_at hes hc
        have hce2 : EdgeAt H2 c e := hce.tups fun q xs z => k2 _ _ z (ne_of z (s1 _ _ hd') (fun z => nomatch z))
        obtain ⟨rest, hflat⟩ := flat_cut ht he
        generalize hds : (l.take i).flatMap edges ++ (edges t).take j = ds at *
        have hlen : (ds.map eKV).length < sizeLine := by
          rw [List.length_map]
          have : ds.length ≤ (l.flatMap edges).length := by rw [hflat, List.length_append]; omega
          exact Nat.lt_of_le_of_lt (show _ ≤ 60000 by omega) (by decide)
        refine ⟨_, rfl, _, rfl, d, c, _, _, rfl, rfl, .inl hd2, hce2.key, _, rfl, ?_⟩
        rw [val_edges]
        refine ite2 (fun q => ?_) fun q => ?_
        · have q : e ∈ ds := of_decide_eq_true q
          have := k H2 sm2
          rw [closed_no hflat q] at this
          exact this
        · have q : e ∉ ds := fun z => q (decide_eq_true z)
          have e2 : (l.take i).flatMap edges ++ (edges t).take (j + 1) = ds ++ [e] := by rw [take_more he, ← List.append_assoc, hds]
          refine ⟨_, rfl, _, rfl, d, c, _, _, rfl, rfl, hd2, hce2.key, hlen, _, rfl, same_upd sm2 hd, fun x o ho hx => by rw [upd_ne hx]; exact k2 x o ho hx, ?_, ?_⟩
          · rw [upd_same, put_edge q, e2]
          · rw [e2, List.nodup_append]
            exact ⟨nd2, by simp, fun x hx y hy => by rw [List.mem_singleton.mp hy]; exact fun z => q (z ▸ hx)⟩
      · rintro σ H2 ⟨v3', rfl, sm2, k2, hd2, nd2⟩
        rw [List.length_map, les, List.take_length] at hd2 nd2
        refine ⟨_, _, rfl, sm2, ?_, ?_⟩
        · rw [take_more ht, List.flatMap_append]; simpa using hd2
        · rw [take_more ht, List.flatMap_append]; simpa using nd2
    · rintro σ H' ⟨v2, v3, rfl, sm, hd', nd⟩
      rw [List.length_map, la, List.take_length] at hd' nd
      have := closed_yes nd
      generalize hes : l.flatMap edges = es at *
      refine ⟨d, _, hd', True.intro, fun od => ?_⟩
      have hdl : (upd H' d (.frz od (.dN (es.map eKV)))) d = some (.frz od (.dN (es.map eKV))) := upd_same
      have sm1 : Same H (upd H' d (.frz od (.dN (es.map eKV)))) := same_upd sm hd
      generalize upd H' d (.frz od (.dN (es.map eKV))) = H1 at hdl sm1
      refine ⟨_, rfl, d, od, _, rfl, hdl, fun D hD => ?_⟩
      have hDd : d ≠ D := ne_of_none hdl hD
      refine lc_keysN (fun i H2 => Same H1 H2 ∧ H2 D = some (.lst (((es.take i).map fun e => decide (rev e ∈ es)).map V.bl))) ⟨same_new hD, upd_same⟩ (fun i H2 _ ⟨s2, _⟩ => s2 _ _ hdl) ?_ ?_
      · rintro i kk v q H2 hi hq ⟨s2, hD2⟩
        obtain ⟨e, he, hee⟩ := map_at hi
        obtain ⟨rfl, rfl⟩ : eK e = kk ∧ V.bl true = v := by
          have := Prod.mk.inj hee
          exact this
        refine ⟨rfl, ?_⟩
        dsimp only [tYes]
        rw [if_pos rfl]
        refine ⟨_, rfl, q, e, rfl, EdgeAt.of_key hq, fun H3 b s3 hb => ?_⟩
        have hD3 := s3 _ _ hD2
        refine ⟨_, rfl, d, b, _, _, rfl, rfl, .inr ⟨od, s3 _ _ (s2 _ _ hdl)⟩, hb.key, _, hD3, ?_, same_upd (s2.trans s3) hD, ?_⟩
        · rw [List.length_map, List.length_map, List.length_take]
          exact Nat.lt_of_le_of_lt (show _ ≤ 60000 by omega) (by decide)
        · rw [upd_same, val_edges, take_more he, List.map_append, List.map_append]
          rfl
      · rintro H2 ⟨s2, hD2⟩
        rw [List.length_map, List.take_length] at hD2
        refine ⟨s2 _ _ hdl, D, _, rfl, SqL.of (by rw [upd_ne (Ne.symm hDd)]; exact hD2), ?_⟩
        rw [← this]
        exact k _ (same_upd (sm1.trans s2) hd)
end
end Sol
end
section
set_option Elab.async false
set_option linter.all false
set_option maxRecDepth 100000
namespace L2
open PySem PySem.Spec PyProof.Rows
section
variable {X : Cx} {pins : List (Addr × Obj)} {σ : St} {H : Hp} {s : Shared}
def tTry2 (tb t1 t2 : TS) (C1 C2 : Addr) (E : XK) : TS := fun D σ H => tb D σ H ∧ ∀ (C' : Addr) (σ' : St) (H' : Hp), E (.ref C') none H' → (C' = C1 ∧ t1 D σ' H') ∨ (C' = C2 ∧ t2 D σ' H')
/-- try: body, except x1: suite, except x2: suite (own classes, no name bound, no else) -/
theorem ps_try2 {E : XK} {body su1 su2 : List Stmt} {b1 b2 : Stmt} {x1 x2 : Str} {np1 np2 hp1 hp2 pos : Pos} {C1 C2 : Addr} {tb t1 t2 : TS} (tp : Top1 X) (hg1 : Gl X x1) (hm1 : X.mg x1 = some (.ref C1)) (hg2 : Gl X x2) (hm2 : X.mg x2 = some (.ref C2))
    (m11 : PySem.W.exmOne X.K (.ref C1) (.ref C1) = some true) (m21 : PySem.W.exmOne X.K (.ref C2) (.ref C1) = some false) (m22 : PySem.W.exmOne X.K (.ref C2) (.ref C2) = some true)
    (hb : ∀ pn, PSs (X.tried E pn) body tb) (hh1 : ∀ pn e, PSs (X.suite pn e) (b1 :: su1) t1) (hh2 : ∀ pn e, PSs (X.suite pn e) (b2 :: su2) t2)
    (hd1 : (x1 == ("__debug__" : Str)) = false := by decide) (hd2 : (x2 == ("__debug__" : Str)) = false := by decide) :
    PS X (.Try body [.ExceptHandler (some (.Name x1 np1)) none (b1 :: su1) hp1, .ExceptHandler (some (.Name x2 np2)) none (b2 :: su2) hp2] [] [] pos) (tTry2 tb t1 t2 C1 C2 E) := by
  intro pins s σ H D I h
  obtain ⟨h1, h2⟩ := h
  have back : ∀ {f : Flow} {s' : Shared}, SP (X.tried E (X.pn ++ pins)) [] D f s' → SP X pins D f s' := fun {f s'} z => by
    cases f with
    | next => obtain ⟨σ', H', I', q⟩ := z; exact ⟨σ', H', (Inv.unwish I').frompin I.ok rfl, q⟩
    | brk => obtain ⟨σ', H', I', q⟩ := z; exact ⟨σ', H', (Inv.unwish I').frompin I.ok rfl, q⟩
    | cont => obtain ⟨σ', H', I', q⟩ := z; exact ⟨σ', H', (Inv.unwish I').frompin I.ok rfl, q⟩
    | ret u => obtain ⟨v, σ', H', I', r, q⟩ := z; exact ⟨v, σ', H', (Inv.unwish I').frompin I.ok rfl, r, q⟩
  have back2 : ∀ {e : Addr} {f : Flow} {s' : Shared}, SP (X.suite (X.pn ++ pins) e) [] D f s' → SP X pins D f s' := fun {e f s'} z => by
    cases f with
    | next => obtain ⟨σ', H', I', q⟩ := z; exact ⟨σ', H', I'.fromsuite I.ok rfl, q⟩
    | brk => obtain ⟨σ', H', I', q⟩ := z; exact ⟨σ', H', I'.fromsuite I.ok rfl, q⟩
    | cont => obtain ⟨σ', H', I', q⟩ := z; exact ⟨σ', H', I'.fromsuite I.ok rfl, q⟩
    | ret u => obtain ⟨v, σ', H', I', r, q⟩ := z; exact ⟨v, σ', H', I'.fromsuite I.ok rfl, r, q⟩
  refine wpAny_Try_except (wpAny_mono (hb (X.pn ++ pins) [] s σ H D (I.topin.wish _) h1) (fun f s1 z => ?_) ?_)
  · have z := back z
    cases f with
    | next => exact wpAny_execs_nil z
    | brk => exact z
    | cont => exact z
    | ret u => exact z
  · rintro _ s1 ⟨e, C', σ', H', rfl, I1, hx, qE⟩
    have tpP : Top1 (X.pin (X.pn ++ pins)) := tp
    refine note_x (X := X.pin (X.pn ++ pins)) I.ok.frames tpP I1 hx fun s2 I2 hx2 => ?_
    refine flight_x I2 hx2 fun s3 I3 hx3 => ?_
    have ty : ∀ {s : Shared}, ExTb C' e s.heap (FpOk (X.pin (X.pn ++ pins)) [] H') → PySem.W.Looks (model X.prog X.w) s.heap (typeOf (.ref e)) (.ref C') := fun {s} z => by
      obtain ⟨oe, vs, _, _, _, he, hcls, _⟩ := z
      have q : PySem.W.Looks (model X.prog X.w) s.heap (typeOf (.ref e)) oe.cls := (PySem.W.Looks.ld he).andThen .now
      rw [hcls] at q
      exact q
    rcases h2 C' σ' H' qE with ⟨rfl, ht⟩ | ⟨rfl, ht⟩
    · refine wpAny_handleBy_cons (codeAny_handlers_test ?_) (by intro q; cases q)
      refine ld_glob (X := X.suite (X.pn ++ pins) e) I3.tosuite hg1 hm1 ?_ hd1
      refine (PySem.W.exm_one I3.kIn (ty hx3) m11).here (codeAny_handlers_suite ?_)
      refine flight_x I3 hx3 fun s4 I4 hx4 => ?_
      exact thnF (hh1 (X.pn ++ pins) e [] s4 σ' H' D I4.tosuite ht) fun f s5 z => back2 z
    · refine wpAny_handleBy_cons (codeAny_handlers_test ?_) (by intro q; cases q)
      refine ld_glob (X := X.suite (X.pn ++ pins) e) I3.tosuite hg1 hm1 ?_ hd1
      refine (PySem.W.exm_one I3.kIn (ty hx3) m21).here ?_
      show wpAny _ _ (handleBy _ _ _) _ _ s3
      refine wpAny_handleBy_cons (codeAny_handlers_test ?_) (by intro q; cases q)
      refine ld_glob (X := X.suite (X.pn ++ pins) e) I3.tosuite hg2 hm2 ?_ hd2
      refine (PySem.W.exm_one I3.kIn (ty hx3) m22).here (codeAny_handlers_suite ?_)
      refine flight_x I3 hx3 fun s4 I4 hx4 => ?_
      exact thnF (hh2 (X.pn ++ pins) e [] s4 σ' H' D I4.tosuite ht) fun f s5 z => back2 z
end
end L2
end
section
set_option Elab.async false
set_option linter.all false
set_option maxRecDepth 100000
set_option maxHeartbeats 2000000
namespace Sol
open PySem PySem.Spec PyProof.Rows L2
open Sa63 (Tri Corner Edge low whole nearest cornerAt triAt proper skinOf leastOf mostOf edges closed det)
open Solid (rev)
def SmallI (z : Int) : Prop := -1000000 ≤ z ∧ z ≤ 1000000
def SmallC (c : Corner) : Prop := SmallI c.1 ∧ SmallI c.2.1 ∧ SmallI c.2.2
def SmallT (t : Tri) : Prop := SmallC t.a ∧ SmallC t.b ∧ SmallC t.c
theorem small_corner {b : List Nat} {i : Nat} {c : Corner} (h : cornerAt b i = some c) : SmallC c := by
  unfold cornerAt at h
  obtain ⟨x, hx, h⟩ := Option.bind_eq_some_iff.mp h
  obtain ⟨y, hy, h⟩ := Option.bind_eq_some_iff.mp h
  obtain ⟨z, hz, rfl⟩ := Option.map_eq_some_iff.mp h
  exact ⟨Solid.whole_range hx, Solid.whole_range hy, Solid.whole_range hz⟩
theorem small_tri {b : List Nat} {i : Nat} {t : Tri} (h : triAt b i = some t) : SmallT t := by
  unfold triAt at h
  obtain ⟨x, hx, h⟩ := Option.bind_eq_some_iff.mp h
  obtain ⟨y, hy, h⟩ := Option.bind_eq_some_iff.mp h
  obtain ⟨z, hz, rfl⟩ := Option.map_eq_some_iff.mp h
  exact ⟨small_corner hx, small_corner hy, small_corner hz⟩
theorem mapM_mem {α β : Type} {f : α → Option β} : ∀ {l : List α} {m : List β}, l.mapM f = some m → ∀ y ∈ m, ∃ x ∈ l, f x = some y
  | [], m, h, y, hy => by
    rw [List.mapM_nil] at h
    cases h
    cases hy
  | a :: l, m, h, y, hy => by
    rw [List.mapM_cons] at h
    obtain ⟨b, hb, h⟩ := Option.bind_eq_some_iff.mp h
    obtain ⟨m', hm, h⟩ := Option.bind_eq_some_iff.mp h
    cases h
    rcases List.mem_cons.mp hy with rfl | hy
    · exact ⟨a, by simp, hb⟩
    · obtain ⟨x, hx, e⟩ := mapM_mem hm y hy
      exact ⟨x, List.mem_cons_of_mem _ hx, e⟩
theorem mapM_len {α β : Type} {f : α → Option β} : ∀ {l : List α} {m : List β}, l.mapM f = some m → m.length = l.length
  | [], m, h => by
    rw [List.mapM_nil] at h
    cases h
    rfl
  | a :: l, m, h => by
    rw [List.mapM_cons] at h
    obtain ⟨b, hb, h⟩ := Option.bind_eq_some_iff.mp h
    obtain ⟨m', hm, h⟩ := Option.bind_eq_some_iff.mp h
    cases h
    rw [List.length_cons, List.length_cons, mapM_len hm]
theorem skin_facts {b : List Nat} {l : List Tri} (h : skinOf b = some l) : (∀ t ∈ l, SmallT t ∧ proper t = true) ∧ 84 + 50 * l.length ≤ b.length := by
  unfold skinOf at h
  dsimp only at h
  split at h
  · cases h
  · rename_i c
    obtain ⟨m, hm, rfl⟩ := Option.map_eq_some_iff.mp h
    refine ⟨fun t ht => ?_, ?_⟩
    · obtain ⟨h1, h2⟩ := List.mem_filter.mp ht
      obtain ⟨k, _, hk⟩ := mapM_mem hm t h1
      exact ⟨small_tri hk, h2⟩
    · have h1 := mapM_len hm
      rw [List.length_range] at h1
      have h2 := List.length_filter_le proper m
      omega
structure TxtO (K : PySem.W.Frag) (mg : Str → Option Value) (C C2 : Addr) : Prop where
  opn : mg "OpenSkin" = some (.ref C2)
  exc : PySem.W.excIn K C2 [.type "Exception", .type "BaseException", .type "object"] "Exception.__new__" = true
  m11 : PySem.W.exmOne K (.ref C) (.ref C) = some true
  m21 : PySem.W.exmOne K (.ref C2) (.ref C) = some false
  m22 : PySem.W.exmOne K (.ref C2) (.ref C2) = some true
  skinOpen : Con mg "SKIN_IS_OPEN" (-4)
def spSkin (K : PySem.W.Frag) (C C2 : Addr) : Sp := fun vs H Q E => ∃ (a : Addr) (ns : List Int), vs = [.ref a] ∧ SqL K H a (ns.map V.int) ∧ Bytes ns ∧
  (∀ l, skinOf (Solid.nats ns) = some l → closed l = true → l.length ≤ 20000 → ∀ (H' : Hp) (p : Addr) (as : List Addr), Same H H' → H' p = some (.lst (as.map V.ref)) → Paired (TriAt H') as l → Q (.ref p) H') ∧
  (skinOf (Solid.nats ns) = none → ∀ H', Same H H' → E (.ref C) none H') ∧ (∀ l, skinOf (Solid.nats ns) = some l → closed l = false → ∀ H', Same H H' → E (.ref C2) none H')
section
variable {P : Program} {w : World} {K : PySem.W.Frag} {mg : Str → Option Value} {base : Heap}
theorem scSkin : FnScope ["file", "triangles"] ["file"] (defScope sSkin) := ⟨rfl, rfl, rfl, by decide +kernel, rfl, by decide +kernel, by decide +kernel⟩
theorem ok_skin {f C C2 : Addr} {fd : FuncData} (F : Fun K "read_closed_skin" "read_closed_skin" sSkin f fd) (T : Txt K mg C) (O : TxtO K mg C C2) (DT : Def P w K mg base (CXF P w) 5 "read_triangles" ["file"] (spTris K C))
    (DC : Def P w K mg base CX0 2 "is_closed" ["triangles"] (spClosed K)) : FnOk P w K mg base (CXF P w) 6 f fd ["file"] (spSkin K C C2) := by
  refine F.okX scSkin (fun vs H Q E h => ?_) (fun cdv A outer s H vs Q E hr h => ?_)
  · obtain ⟨a, ns, rfl, _⟩ := h
    rfl
  · obtain ⟨a, ns, rfl, hS, hB, kS, kN, kO⟩ := h
    have hr2 : Room 2 _ := hr.mono (by decide)
    refine ⟨_, pss_cons (ps_set (i := 1) scSkin.nd rfl (Or.inl rfl) (pe_def DT hr (passes_of takes_def) (pa_cons (pv 0) pa_nil)))
      (pss_cons (ps_if (pt_not (pt_val (pe_def DC hr2 pass0 (pa_cons (pv 1) pa_nil)))) (pss_one (ps_raise0 rfl rfl O.opn O.exc PySem.F.excBase_Exception takes_def)) pss_nil)
      (pss_one (ps_ret (pv 1)))), ?_⟩
    refine ⟨_, rfl, a, ns, rfl, hS, hB, fun l hl hn H1 p as s1 hp hT => ?_, fun hn H1 s1 => kN hn H1 s1⟩
    refine ⟨_, rfl, p, as, l, rfl, SqL.of hp, hT, hn, fun H2 s2 => ⟨_, rfl, ?_⟩⟩
    cases hc : closed l with
    | true => exact ⟨_, rfl, kS l hl hc hn H2 p as (s1.trans s2) (s2 _ _ hp) (Paired.mapP hT fun _ _ z => z.same s2)⟩
    | false => exact kO l hl hc H2 (s1.trans s2)
end
end Sol
end
section
set_option Elab.async false
set_option linter.all false
set_option maxRecDepth 100000
namespace L2
open PySem PySem.Spec PyProof.Rows
theorem for_enum {K : PySem.W.Frag} {a : Addr} {xs : List V} {g : TG} {tb : TS} {D : Ends} {σ : St} {H : Hp} (Pv : Nat → St → Hp → Prop) (h0 : Pv 0 σ H) (hl : ∀ i σ H, i ≤ xs.length → Pv i σ H → SqL K H a xs)
    (hs : ∀ i x T σ H, xs[i]? = some x → H T = none → Pv i σ H → g (.ref T) σ (upd H T (.tup [.int (i : Nat), x])) fun σ2 H2 => tb { D with nx := Pv (i + 1), ct := Pv (i + 1), bk := D.nx } σ2 H2) (hd : ∀ σ H, Pv xs.length σ H → D.nx σ H) :
    ∃ W : Nat → Nat → St → Hp → Prop, (∃ m, W 0 m σ H) ∧ ∀ i m σ H, W i m σ H →
      ((Ite K a).stop i H ∧ D.nx σ H) ∨ ((Ite K a).go i H ∧ ∃ N : St → Hp → Prop, (∀ σ' H', N σ' H' → ∃ m', m' < m ∧ W (i + 1) m' σ' H') ∧ ∀ x H', (Ite K a).yld i H x H' → g x σ H' fun σ2 H2 => tb { D with nx := N, ct := N, bk := D.nx } σ2 H2) := by
  refine ⟨fun i m σ H => m = xs.length - i ∧ i ≤ xs.length ∧ Pv i σ H, ⟨xs.length, by simp, Nat.zero_le _, h0⟩, ?_⟩
  rintro i m σ H ⟨rfl, hi, p⟩
  have q := hl i σ H hi p
  by_cases hlt : i < xs.length
  · refine .inr ⟨⟨xs, xs[i], q, by simp [hlt]⟩, Pv (i + 1), fun σ' H' p' => ⟨xs.length - (i + 1), by omega, rfl, hlt, p'⟩, fun x H' y => ?_⟩
    obtain ⟨T, x, rfl, hT, rfl, hx⟩ := y
    exact hs i x T σ H (hx xs q) hT p
  · have e : i = xs.length := by omega
    subst e
    exact .inl ⟨⟨xs, q, Nat.le_refl _⟩, hd σ H p⟩
end L2
end
section
set_option Elab.async false
set_option linter.all false
set_option maxRecDepth 100000
namespace L2
open PySem PySem.Spec PyProof.Rows
section
variable {X : Cx} {pins : List (Addr × Obj)} {σ : St} {H : Hp} {s : Shared} {a b : Addr} {kvs : List (List (List Key) × V)} {k : List (List Key)} {A : Around} {E : Value → Shared → Prop}
theorem d_notInN {Q : Value → Shared → Prop} (hu : A.units + 3 < cLine) (I : Inv X pins σ H s) (e : Rd H a (.dN kvs)) (eb : NKey H k b) (h : ∀ s', Inv X pins σ H s' → Q (.bool (!(valV kvs k).isSome)) s') :
    wpAny (model X.prog X.w) A (compareOp .NotIn (.ref b) (.ref a)) Q E s := by
  obtain ⟨z, hd, xs, rel, dd⟩ := dn_rd I.hok e
  refine wpAny_notIn_heap (knd := nestKind (mixKind X.prog X.w)) (show A.units + 1 + 2 < cLine by omega) (nkey_of I.hok eb) hd dd ?_
  have q := (rel.val k).isSome_eq
  rw [Option.isSome_map] at q
  rw [← q]
  exact h _ (I.tok _)
end
/-- y not in d -/
def tNNotIn (ty td : TE) : TE := fun σ H Q => ty σ H fun y H1 => td σ H1 fun x H2 => ∃ a b kvs k, x = .ref a ∧ y = .ref b ∧ Rd H2 a (.dN kvs) ∧ NKey H2 k b ∧ Q (.bl (!(valV kvs k).isSome)) H2
section
variable {X : Cx} {o i : Expr} {td ty : TE}
theorem pc_nnotin (hu : X.A.units + 3 < cLine) (hi : PE X i ty) (ho : PE X o td) : PC X .NotIn i o (tNNotIn ty td) := by
  intro pins s σ H Q I h
  refine thn (hi pins s σ H _ I h) fun iv s1 ⟨y, H1, I1, ry, q1⟩ => thn (ho pins s1 σ H1 _ I1 q1) fun u s2 ⟨x, H2, I2, rx, a, b, kvs, k, ex, ey, ha, hb, q2⟩ => ?_
  subst ex ey
  obtain rfl : u = Value.ref a := rx
  obtain rfl : iv = Value.ref b := ry
  exact d_notInN hu I2 ha hb fun s3 I3 => ⟨.bl (!(valV kvs k).isSome), H2, I3, rfl, q2⟩
end
theorem for_keysN {d : Addr} {o : Obj} {kvs : List (List (List Key) × V)} {g : TG} {tb : TS} {D : Ends} {σ : St} {H : Hp} (Pv : Nat → St → Hp → Prop) (h0 : Pv 0 σ H) (hl : ∀ i σ H, i ≤ kvs.length → Pv i σ H → H d = some (.frz o (.dN kvs)))
    (hs : ∀ i k v q σ H, kvs[i]? = some (k, v) → NKey H k q → Pv i σ H → g (.ref q) σ H fun σ2 H2 => tb { D with nx := Pv (i + 1), ct := Pv (i + 1), bk := D.nx } σ2 H2) (hd : ∀ σ H, Pv kvs.length σ H → D.nx σ H) :
    ∃ W : Nat → Nat → St → Hp → Prop, (∃ m, W 0 m σ H) ∧ ∀ i m σ H, W i m σ H →
      ((Itkn d o kvs).stop i H ∧ D.nx σ H) ∨ ((Itkn d o kvs).go i H ∧ ∃ N : St → Hp → Prop, (∀ σ' H', N σ' H' → ∃ m', m' < m ∧ W (i + 1) m' σ' H') ∧ ∀ x H', (Itkn d o kvs).yld i H x H' → g x σ H' fun σ2 H2 => tb { D with nx := N, ct := N, bk := D.nx } σ2 H2) := by
  refine ⟨fun i m σ H => m = kvs.length - i ∧ i ≤ kvs.length ∧ Pv i σ H, ⟨kvs.length, by simp, Nat.zero_le _, h0⟩, ?_⟩
  rintro i m σ H ⟨rfl, hi, p⟩
  have q := hl i σ H hi p
  by_cases hlt : i < kvs.length
  · refine .inr ⟨⟨q, hlt⟩, Pv (i + 1), fun σ' H' p' => ⟨kvs.length - (i + 1), by omega, rfl, hlt, p'⟩, fun x H' y => ?_⟩
    obtain ⟨e, k, v, b, hk, rfl, hn⟩ := y
    subst e
    exact hs i k v b σ _ hk hn p
  · have e : i = kvs.length := by omega
    subst e
    exact .inl ⟨⟨q, Nat.le_refl _⟩, hd σ H p⟩
section
variable {X : Cx}
end
end L2
end
section
set_option linter.all false
namespace Solid
open Sa63
def noEdge : Edge := ((0, 0, 0), (0, 0, 0))
def upT (z : Int) (t : Tri) : Edge := ((edges t).find? (cutUp z)).getD noEdge
def dnT (z : Int) (t : Tri) : Edge := rev (((edges t).find? fun e => cutUp z (rev e)).getD noEdge)
theorem cut_cases (z : Int) (t : Tri) : (isCut z t = true ∧ (edges t).filter (cutUp z) = [upT z t] ∧ ((edges t).filter fun e => cutUp z (rev e)) = [rev (dnT z t)]) ∨
    (isCut z t = false ∧ (edges t).filter (cutUp z) = [] ∧ ((edges t).filter fun e => cutUp z (rev e)) = []) := by
  obtain ⟨a, b, c⟩ := t
  unfold isCut upT dnT
  simp only [edges, List.filter_cons, List.filter_nil, List.find?_cons, List.find?_nil, List.any_cons, List.any_nil, cutUp, rev]
  rcases Bool.eq_false_or_eq_true (below z a) with hA | hA <;> rcases Bool.eq_false_or_eq_true (below z b) with hB | hB <;> rcases Bool.eq_false_or_eq_true (below z c) with hC | hC <;> simp [hA, hB, hC]
theorem up_some {z : Int} {t : Tri} (h : isCut z t = true) : up z t = some (upT z t) ∧ upT z t ∈ edges t ∧ cutUp z (upT z t) = true := by
  rcases cut_cases z t with ⟨_, h1, _⟩ | ⟨h0, _⟩
  · have m : upT z t ∈ (edges t).filter (cutUp z) := by rw [h1]; simp
    obtain ⟨m1, m2⟩ := List.mem_filter.mp m
    refine ⟨?_, m1, m2⟩
    unfold up upT
    cases q : (edges t).find? (cutUp z) with
    | none => exact absurd m2 (by rw [List.find?_eq_none] at q; exact q _ m1)
    | some e => rfl
  · rw [h] at h0; cases h0
theorem dn_mem {z : Int} {t : Tri} (h : isCut z t = true) : rev (dnT z t) ∈ edges t ∧ cutUp z (dnT z t) = true := by
  rcases cut_cases z t with ⟨_, _, h1⟩ | ⟨h0, _⟩
  · have m : rev (dnT z t) ∈ (edges t).filter fun e => cutUp z (rev e) := by rw [h1]; simp
    obtain ⟨m1, m2⟩ := List.mem_filter.mp m
    exact ⟨m1, by rw [rev_rev] at m2; exact m2⟩
  · rw [h] at h0; cases h0
theorem dn_of {z : Int} {t : Tri} {e : Edge} (h1 : rev e ∈ edges t) (h2 : cutUp z e = true) : isCut z t = true ∧ dnT z t = e := by
  have m : rev e ∈ (edges t).filter fun e => cutUp z (rev e) := List.mem_filter.mpr ⟨h1, by rw [rev_rev]; exact h2⟩
  rcases cut_cases z t with ⟨h0, _, q⟩ | ⟨_, _, q⟩
  · rw [q, List.mem_singleton] at m
    exact ⟨h0, by rw [← rev_rev (dnT z t), ← m, rev_rev]⟩
  · rw [q] at m; cases m
def cut (l : List Tri) (z : Int) (i : Nat) : Bool := (l[i]?).any (isCut z)
def upI (l : List Tri) (z : Int) (i : Nat) : Edge := ((l[i]?).map (upT z)).getD noEdge
def dnI (l : List Tri) (z : Int) (i : Nat) : Edge := ((l[i]?).map (dnT z)).getD noEdge
def nx (l : List Tri) (z : Int) (i : Nat) : Nat := (next l (upI l z i)).getD 0
theorem cut_tri {l : List Tri} {z : Int} {i : Nat} (h : cut l z i = true) : ∃ t, l[i]? = some t ∧ isCut z t = true ∧ upI l z i = upT z t ∧ dnI l z i = dnT z t ∧ i < l.length := by
  unfold cut at h
  cases q : l[i]? with
  | none => rw [q] at h; cases h
  | some t =>
    rw [q] at h
    refine ⟨t, rfl, h, ?_, ?_, (List.getElem?_eq_some_iff.mp q).1⟩
    · unfold upI; rw [q]; rfl
    · unfold dnI; rw [q]; rfl
theorem cut_at' {l : List Tri} {z : Int} {i : Nat} {t : Tri} (h : l[i]? = some t) : cut l z i = isCut z t := by unfold cut; rw [h]; rfl
theorem idx_edge {e : Edge} : ∀ {l : List Tri} {i j : Nat} {t u : Tri}, (l.flatMap edges).Nodup → l[i]? = some t → l[j]? = some u → e ∈ edges t → e ∈ edges u → i = j
  | [], i, j, t, u, _, h, _, _, _ => by simp at h
  | x :: l, 0, 0, _, _, _, _, _, _, _ => rfl
  | x :: l, 0, j + 1, t, u, nd, h, h', m, m' => by
    rw [List.flatMap_cons, List.nodup_append] at nd
    have e1 : x = t := Option.some.inj h
    subst e1
    exact absurd rfl (nd.2.2 e m e (List.mem_flatMap.mpr ⟨u, List.mem_of_getElem? (show l[j]? = some u from h'), m'⟩))
  | x :: l, i + 1, 0, t, u, nd, h, h', m, m' => by
    rw [List.flatMap_cons, List.nodup_append] at nd
    have e1 : x = u := Option.some.inj h'
    subst e1
    exact absurd rfl (nd.2.2 e m' e (List.mem_flatMap.mpr ⟨t, List.mem_of_getElem? (show l[i]? = some t from h), m⟩))
  | x :: l, i + 1, j + 1, t, u, nd, h, h', m, m' => by
    rw [List.flatMap_cons, List.nodup_append] at nd
    rw [idx_edge nd.2.1 (show l[i]? = some t from h) (show l[j]? = some u from h') m m']
theorem nx_ex {l : List Tri} {z : Int} {i : Nat} (C : closed l = true) (h : cut l z i = true) : next l (upI l z i) = some (nx l z i) ∧ cut l z (nx l z i) = true ∧ dnI l z (nx l z i) = upI l z i := by
  obtain ⟨nd, rv⟩ := (closed_iff l).mp C
  obtain ⟨t, ht, hc, e1, _, _⟩ := cut_tri h
  obtain ⟨_, m1, m2⟩ := up_some hc
  rw [← e1] at m1 m2
  have m3 := rv _ (List.mem_flatMap.mpr ⟨t, List.mem_of_getElem? ht, m1⟩)
  obtain ⟨u, hu, m4⟩ := List.mem_flatMap.mp m3
  have hx : ∃ j, next l (upI l z i) = some j := by
    unfold next
    cases q : l.findIdx? fun t => (edges t).contains ((upI l z i).2, (upI l z i).1) with
    | some j => exact ⟨j, rfl⟩
    | none =>
      rw [List.findIdx?_eq_none_iff] at q
      have := q u hu
      rw [List.contains_eq_mem, decide_eq_false_iff_not] at this
      exact absurd m4 this
  obtain ⟨j, hj⟩ := hx
  have en : nx l z i = j := by unfold nx; rw [hj]; rfl
  rw [en]
  refine ⟨hj, ?_⟩
  unfold next at hj
  rw [List.findIdx?_eq_some_iff_getElem] at hj
  obtain ⟨hlt, hp, _⟩ := hj
  rw [List.contains_eq_mem, decide_eq_true_iff] at hp
  have hp : rev (upI l z i) ∈ edges l[j] := hp
  obtain ⟨q1, q2⟩ := dn_of hp m2
  have hg : l[j]? = some l[j] := List.getElem?_eq_getElem hlt
  refine ⟨by rw [cut_at' hg]; exact q1, ?_⟩
  unfold dnI
  rw [hg]
  exact q2
theorem dn_inj {l : List Tri} {z : Int} {i j : Nat} (C : closed l = true) (hi : cut l z i = true) (hj : cut l z j = true) (e : dnI l z i = dnI l z j) : i = j := by
  obtain ⟨nd, rv⟩ := (closed_iff l).mp C
  obtain ⟨t, ht, hc, _, e1, _⟩ := cut_tri hi
  obtain ⟨u, hu, hd, _, e2, _⟩ := cut_tri hj
  have m1 := (dn_mem hc).1
  have m2 := (dn_mem hd).1
  rw [← e1] at m1
  rw [← e2, ← e] at m2
  exact idx_edge nd ht hu m1 m2
theorem nx_inj {l : List Tri} {z : Int} {i j : Nat} (C : closed l = true) (hi : cut l z i = true) (hj : cut l z j = true) (e : nx l z i = nx l z j) : i = j := by
  obtain ⟨nd, rv⟩ := (closed_iff l).mp C
  have q1 := (nx_ex C hi).2.2
  have q2 := (nx_ex C hj).2.2
  rw [e, q2] at q1
  obtain ⟨t, ht, hc, e1, _, _⟩ := cut_tri hi
  obtain ⟨u, hu, hd, e2, _, _⟩ := cut_tri hj
  have m1 := (up_some hc).2.1
  have m2 := (up_some hd).2.1
  rw [← e1, ← q1] at m1
  rw [← e2] at m2
  exact idx_edge nd ht hu m1 m2
theorem walk_step {l : List Tri} {z : Int} {f i : Nat} {s : List Nat} (C : closed l = true) (h : cut l z i = true) (hs : i ∉ s) : walk l z (f + 1) s i = walk l z f (s ++ [i]) (nx l z i) := by
  obtain ⟨t, ht, hc, e1, _, _⟩ := cut_tri h
  have hu := (up_some hc).1
  have hn := (nx_ex C h).1
  rw [e1] at hn
  conv => lhs; unfold walk
  rw [if_neg (by rw [List.contains_eq_mem, decide_eq_true_iff]; exact hs), ht]
  show (match up z t with | some e => _ | none => _) = _
  rw [hu]
  show (match next l (upT z t) with | some j => _ | none => _) = _
  rw [hn]
theorem walk_stop {l : List Tri} {z : Int} {f i : Nat} {s : List Nat} (hs : i ∈ s) : walk l z (f + 1) s i = s := by
  unfold walk
  rw [if_pos (by rw [List.contains_eq_mem, decide_eq_true_iff]; exact hs)]
theorem nodup_le {s : List Nat} {n : Nat} (nd : s.Nodup) (h : ∀ x ∈ s, x < n) : s.length ≤ n := by
  have := length_le_of_inj (A := s) (B := List.range n) (fun x => x) nd (fun a ha => List.mem_range.mpr (h a ha)) (fun a _ b _ e => e)
  rwa [List.length_range] at this
structure Walking (l : List Tri) (z : Int) (P s : List Nat) (i0 i : Nat) : Prop where
  cuts : ∀ x ∈ P ++ s, cut l z x = true
  ci : cut l z i = true
  nd : (P ++ s).Nodup
  predP : ∀ x ∈ P, ∃ y ∈ P, nx l z y = x
  preds : ∀ x ∈ s, x = i0 ∨ ∃ y ∈ s.dropLast, nx l z y = x
  cur : (s = [] ∧ i = i0) ∨ (∃ y r, s = r ++ [y] ∧ nx l z y = i ∧ i0 ∈ s)
  wk : walk l z (l.length + 1) [] i0 = walk l z (l.length + 1 - s.length) s i
theorem Walking.len {l : List Tri} {z : Int} {P s : List Nat} {i0 i : Nat} (W : Walking l z P s i0 i) : (P ++ s).length ≤ l.length := nodup_le W.nd fun x hx => by
  obtain ⟨_, _, _, _, _, h⟩ := cut_tri (W.cuts x hx)
  exact h
theorem Walking.start {l : List Tri} {z : Int} {P : List Nat} {i0 : Nat} (cP : ∀ x ∈ P, cut l z x = true) (c0 : cut l z i0 = true) (nd : P.Nodup) (pr : ∀ x ∈ P, ∃ y ∈ P, nx l z y = x) : Walking l z P [] i0 i0 where
  cuts := by rw [List.append_nil]; exact cP
  ci := c0
  nd := by rw [List.append_nil]; exact nd
  predP := pr
  preds := fun x hx => nomatch hx
  cur := .inl ⟨rfl, rfl⟩
  wk := rfl
theorem Walking.step {l : List Tri} {z : Int} {P s : List Nat} {i0 i : Nat} (C : closed l = true) (W : Walking l z P s i0 i) (hi : i ∉ P ++ s) : Walking l z P (s ++ [i]) i0 (nx l z i) where
  cuts := fun x hx => by
    rw [← List.append_assoc, List.mem_append, List.mem_singleton] at hx
    rcases hx with hx | rfl
    · exact W.cuts x hx
    · exact W.ci
  ci := (nx_ex C W.ci).2.1
  nd := by
    rw [← List.append_assoc, List.nodup_append]
    exact ⟨W.nd, by simp, fun x hx y hy => by rw [List.mem_singleton.mp hy]; exact fun e => hi (e ▸ hx)⟩
  predP := W.predP
  preds := fun x hx => by
    rw [List.dropLast_concat]
    rcases List.mem_append.mp hx with hx | hx
    · rcases W.preds x hx with e | ⟨y, hy, e⟩
      · exact .inl e
      · exact .inr ⟨y, List.dropLast_subset _ hy, e⟩
    · rw [List.mem_singleton] at hx
      subst hx
      rcases W.cur with ⟨_, e⟩ | ⟨y, r, rfl, e, _⟩
      · exact .inl e
      · exact .inr ⟨y, by simp, e⟩
  cur := .inr ⟨i, s, rfl, rfl, by
    rcases W.cur with ⟨_, e⟩ | ⟨y, r, _, _, m⟩
    · rw [e]; simp
    · exact List.mem_append_left _ m⟩
  wk := by
    have hl : (P ++ (s ++ [i])).length ≤ l.length := nodup_le (by
        rw [← List.append_assoc, List.nodup_append]
        exact ⟨W.nd, by simp, fun x hx y hy => by rw [List.mem_singleton.mp hy]; exact fun e => hi (e ▸ hx)⟩) fun x hx => by
      rw [← List.append_assoc, List.mem_append, List.mem_singleton] at hx
      have : cut l z x = true := by
        rcases hx with hx | rfl
        · exact W.cuts x hx
        · exact W.ci
      obtain ⟨_, _, _, _, _, h⟩ := cut_tri this
      exact h
    rw [List.length_append, List.length_append] at hl
    have h1 : l.length + 1 - s.length = (l.length - s.length) + 1 := by
      have : ([i] : List Nat).length = 1 := rfl
      omega
    rw [W.wk, h1, walk_step C W.ci (fun m => hi (List.mem_append_right _ m)), List.length_append]
    show _ = walk l z (l.length + 1 - (s.length + 1)) _ _
    rw [show l.length + 1 - (s.length + 1) = l.length - s.length by omega]
theorem Walking.done {l : List Tri} {z : Int} {P s : List Nat} {i0 i : Nat} (C : closed l = true) (W : Walking l z P s i0 i) (hi : i ∈ P ++ s) (h0 : i0 ∉ P) :
    walk l z (l.length + 1) [] i0 = s ∧ (∀ x ∈ P ++ s, ∃ y ∈ P ++ s, nx l z y = x) ∧ s ≠ [] := by
  have hlen := W.len
  rw [List.length_append] at hlen
  rcases W.cur with ⟨rfl, rfl⟩ | ⟨y, r, rfl, e, m0⟩
  · rw [List.append_nil] at hi
    exact absurd hi h0
  · have nd := W.nd
    rw [List.nodup_append] at nd
    obtain ⟨_, nds, dj⟩ := nd
    have my : y ∈ r ++ [y] := by simp
    have cy := W.cuts y (List.mem_append_right _ my)
    -- it is not one that was passed before
    have hs : i ∈ r ++ [y] := by
      rcases List.mem_append.mp hi with hp | hs
      · obtain ⟨x, hx, ex⟩ := W.predP i hp
        have : x = y := nx_inj C (W.cuts x (List.mem_append_left _ hx)) cy (ex.trans e.symm)
        subst this
        exact absurd rfl (dj x hx x my)
      · exact hs
    -- so it is the first
    have hi0 : i = i0 := by
      rcases W.preds i hs with q | ⟨x, hx, ex⟩
      · exact q
      · rw [List.dropLast_concat] at hx
        have : x = y := nx_inj C (W.cuts x (List.mem_append_right _ (List.mem_append_left _ hx))) cy (ex.trans e.symm)
        subst this
        rw [List.nodup_append] at nds
        exact absurd rfl (nds.2.2 x hx x (by simp))
    refine ⟨?_, fun x hx => ?_, by simp⟩
    · have h1 : l.length + 1 - (r ++ [y]).length = (l.length - (r ++ [y]).length) + 1 := by omega
      rw [W.wk, h1, walk_stop hs]
    · rcases List.mem_append.mp hx with hx | hx
      · obtain ⟨y', h1, h2⟩ := W.predP x hx
        exact ⟨y', List.mem_append_left _ h1, h2⟩
      · rcases W.preds x hx with q | ⟨y', h1, h2⟩
        · exact ⟨y, List.mem_append_right _ my, by rw [q, ← hi0]; exact e⟩
        · exact ⟨y', List.mem_append_right _ (List.dropLast_subset _ h1), h2⟩
def turn (l : List Tri) (z : Int) (ls : List (List Nat)) (i : Nat) : List (List Nat) := if ls.any (fun s => s.contains i) = false then ls ++ [walk l z (l.length + 1) [] i] else ls
def cuts (l : List Tri) (z : Int) : List Nat := (List.range l.length).filter (cut l z)
theorem loops_cuts (l : List Tri) (z : Int) : loops l z = (cuts l z).foldl (turn l z) [] := by
  unfold loops cuts
  rw [List.foldl_filter]
  congr 1
  funext ls i
  unfold turn cut
  by_cases h : (l[i]?).any (isCut z) = true
  · by_cases h2 : (ls.any fun s => s.contains i) = false
    · simp only [h, h2, and_self, if_true]
    · simp [h, h2]
  · simp [h]
theorem any_flat {ls : List (List Nat)} {i : Nat} : (ls.any fun s => s.contains i) = decide (i ∈ ls.flatten) := by
  rw [Bool.eq_iff_iff, List.any_eq_true, decide_eq_true_iff, List.mem_flatten]
  constructor
  · rintro ⟨s, h1, h2⟩
    exact ⟨s, h1, by rw [List.contains_eq_mem, decide_eq_true_iff] at h2; exact h2⟩
  · rintro ⟨s, h1, h2⟩
    exact ⟨s, h1, by rw [List.contains_eq_mem, decide_eq_true_iff]; exact h2⟩
theorem turn_old {l : List Tri} {z : Int} {ls : List (List Nat)} {i : Nat} (h : i ∈ ls.flatten) : turn l z ls i = ls := by
  unfold turn
  rw [any_flat, decide_eq_true h, if_neg (by decide)]
theorem turn_new {l : List Tri} {z : Int} {ls : List (List Nat)} {i : Nat} (h : i ∉ ls.flatten) : turn l z ls i = ls ++ [walk l z (l.length + 1) [] i] := by
  unfold turn
  rw [any_flat, decide_eq_false h, if_pos rfl]
def pt (l : List Tri) (z : Int) (i : Nat) : Int × Int := point z (upI l z i).1 (upI l z i).2
theorem points_map {l : List Tri} {z : Int} : ∀ {s : List Nat}, (∀ x ∈ s, cut l z x = true) → points l z s = s.map (pt l z)
  | [], _ => rfl
  | i :: s, h => by
    have ih := points_map (s := s) fun x hx => h x (List.mem_cons_of_mem _ hx)
    obtain ⟨t, ht, hc, e1, _, _⟩ := cut_tri (h i (by simp))
    unfold points at ih ⊢
    have hu : ((l[i]?).bind (up z)).map (fun e => point z e.1 e.2) = some (pt l z i) := by
      rw [ht]
      show (up z t).map _ = _
      rw [(up_some hc).1]
      unfold pt
      rw [e1]
      rfl
    rw [List.filterMap_cons_some (f := fun i => Option.map (fun e => point z e.1 e.2) ((l[i]?).bind (up z))) hu, List.map_cons, ← ih]
end Solid
end
section
set_option Elab.async false
set_option linter.all false
set_option maxRecDepth 100000
set_option maxHeartbeats 2000000
namespace Sol
open PySem PySem.Spec PyProof.Rows L2
open Sa63 (Tri Corner Edge low whole nearest cornerAt triAt proper skinOf edges closed cutUp below along)
open Solid (rev)
structure TxtM (mg : Str → Option Value) : Prop where
  moreMost : Con mg "MORE_THAN_MOST" (-1)
  outOf : Con mg "OUT_OF_RANGE" (-2)
  x : Con mg "X" 0
  y : Con mg "Y" 1
  z : Con mg "Z" 2
theorem iteF' {b : Bool} {A B : Prop} (hb : b = false) (h : B) : if b = true then A else B := by rw [hb]; exact iteF h
theorem iteT' {b : Bool} {A B : Prop} (hb : b = true) (h : A) : if b = true then A else B := by rw [hb]; exact iteT h
def spReach : Sp := fun vs H Q _ => ∃ n : Int, vs = [.int n] ∧ Q (.bl (Sa63.within n (-Sa63.FAR) Sa63.FAR)) H
def spRises : Sp := fun vs H Q _ => ∃ (a : Addr) (e : Edge) (z : Int), vs = [.ref a, .int 2, .int z] ∧ EdgeAt H a e ∧ Q (.bl (cutUp z e)) H
def spCut : Sp := fun vs H Q _ => ∃ (a p q : Addr) (xs ys : List Int) (i j : Nat) (lv lo hi x y : Int), vs = [.ref a, .int (i : Nat), .int lv, .int (j : Nat)] ∧ H a = some (.tup [.ref p, .ref q]) ∧ H p = some (.tup (xs.map V.int)) ∧ H q = some (.tup (ys.map V.int)) ∧
  xs[i]? = some lo ∧ ys[i]? = some hi ∧ xs[j]? = some x ∧ ys[j]? = some y ∧ lo < hi ∧ hi - lo ≤ 2000000 ∧ -2000000 ≤ y - x ∧ y - x ≤ 2000000 ∧ Q (.int (along x y (2 * lv + 1 - 2 * lo) (2 * (hi - lo)))) H
theorem cutUp_eq (z : Int) (e : Edge) : cutUp z e = (decide (e.1.2.2 ≤ z) && decide (z < e.2.2.2)) := by
  unfold cutUp below
  rw [Bool.eq_iff_iff, Bool.and_eq_true, Bool.and_eq_true, Bool.not_eq_true', decide_eq_true_iff, decide_eq_true_iff, decide_eq_false_iff_not, decide_eq_true_iff]
  omega
section
variable {P : Program} {w : World} {K : PySem.W.Frag} {mg : Str → Option Value} {base : Heap}
theorem scReach : FnScope ["number"] ["number"] (defScope sReach) := ⟨rfl, rfl, rfl, by decide +kernel, rfl, by decide +kernel, by decide +kernel⟩
theorem ok_reach {f C : Addr} {fd : FuncData} (F : Fun K "is_within_reach" "is_within_reach" sReach f fd) (T : Txt K mg C) : FnOk P w K mg base CX0 1 f fd ["number"] spReach := by
  refine F.ok scReach (fun vs H Q E h => ?_) (fun cdv A outer s H vs Q E hr h => ?_)
  · obtain ⟨n, rfl, _⟩ := h
    rfl
  · obtain ⟨n, rfl, k⟩ := h
    refine ⟨_, pss_one (ps_ret (pe_chain op_le op_le (pe_un un_neg (pe_con T.farthest)) (pv 0) (pe_con T.farthest))), ?_⟩
    unfold Sa63.within Sa63.FAR at k
    refine ⟨_, rfl, _, rfl, _, _, rfl, rfl, _, rfl, ?_⟩
    refine ite2 (fun c => ?_) fun c => ?_
    · rw [c, Bool.true_and] at k
      exact ⟨_, _, rfl, rfl, k⟩
    · rw [Bool.eq_false_iff.mpr c, Bool.false_and] at k
      exact k
theorem scRises : FnScope ["edge", "axis", "level"] ["edge", "axis", "level"] (defScope sRises) := ⟨rfl, rfl, rfl, by decide +kernel, rfl, by decide +kernel, by decide +kernel⟩
theorem ok_rises {f C : Addr} {fd : FuncData} (F : Fun K "rises_through" "rises_through" sRises f fd) (T : Txt K mg C) : FnOk P w K mg base CX0 1 f fd ["edge", "axis", "level"] spRises := by
  refine F.ok scRises (fun vs H Q E h => ?_) (fun cdv A outer s H vs Q E hr h => ?_)
  · obtain ⟨a, e, z, rfl, _⟩ := h
    rfl
  · obtain ⟨a, e, z, rfl, ⟨p, q, h0, h1, h2⟩, k⟩ := h
    refine ⟨_, pss_one (ps_ret (pe_chain op_le op_lt (pe_ix ix_tup (pe_ix ix_tup (pv 0) pe_int (fun _ _ => rfl)) (pv 1) (fun _ _ => rfl)) (pv 2) (pe_ix ix_tup (pe_ix ix_tup (pv 0) pe_int (fun _ _ => rfl)) (pv 1) (fun _ _ => rfl)))), ?_⟩
    have i0 : atI [V.ref p, V.ref q] 0 = some (.ref p) := rfl
    have i1 : atI [V.ref p, V.ref q] 1 = some (.ref q) := rfl
    have x2 : ∀ c : Corner, atI (cV c) 2 = some (.int c.2.2) := fun _ => rfl
    rw [cutUp_eq] at k
    refine ⟨_, rfl, a, _, _, _, rfl, rfl, SqT.of h0, i0, _, rfl, p, _, _, _, rfl, rfl, SqT.of h1, x2 _, _, rfl, _, _, rfl, rfl, _, rfl, ?_⟩
    refine ite2 (fun c => ?_) fun c => ?_
    · rw [c, Bool.true_and] at k
      exact ⟨_, rfl, a, _, _, _, rfl, rfl, SqT.of h0, i1, _, rfl, q, _, _, _, rfl, rfl, SqT.of h2, x2 _, _, _, rfl, rfl, k⟩
    · rw [Bool.eq_false_iff.mpr c, Bool.false_and] at k
      exact k
theorem at_int {xs : List Int} {i : Nat} {x : Int} (h : xs[i]? = some x) : atI (xs.map V.int) (i : Int) = some (.int x) := atI_nat (by rw [List.getElem?_map, h]; rfl)
theorem scCut : FnScope ["edge", "axis", "level", "asked", "low", "high", "risen"] ["edge", "axis", "level", "asked"] (defScope sCut) := ⟨rfl, rfl, rfl, by decide +kernel, rfl, by decide +kernel, by decide +kernel⟩
theorem ok_cut {f C : Addr} {fd : FuncData} (F : Fun K "cut_at" "cut_at" sCut f fd) (T : Txt K mg C) : FnOk P w K mg base CX0 1 f fd ["edge", "axis", "level", "asked"] spCut := by
  refine F.ok scCut (fun vs H Q E h => ?_) (fun cdv A outer s H vs Q E hr h => ?_)
  · obtain ⟨a, p, q, xs, ys, i, j, lv, lo, hi, x, y, rfl, _⟩ := h
    rfl
  · obtain ⟨a, p, q, xs, ys, i, j, lv, lo, hi, x, y, rfl, h0, h1, h2, e1, e2, e3, e4, b1, b2, b3, b4, k⟩ := h
    refine ⟨_, pss_cons (ps_set (i := 4) scCut.nd rfl (Or.inl rfl) (pe_ix ix_tup (pv 0) pe_int (fun _ _ => rfl)))
      (pss_cons (ps_set (i := 5) scCut.nd rfl (Or.inl rfl) (pe_ix ix_tup (pv 0) pe_int (fun _ _ => rfl)))
      (pss_cons (ps_set (i := 6) scCut.nd rfl (Or.inl rfl) (pe_op op_sub (pe_op op_add (pe_op op_mul pe_int (pv 2)) pe_int) (pe_op op_mul pe_int (pe_ix ix_tup (pv 4) (pv 1) (fun _ _ => rfl)))))
      (pss_one (ps_ret (pe_op op_add (pe_ix ix_tup (pv 4) (pv 3) (fun _ _ => rfl)) (pe_op op_fdiv (pe_op op_mul (pe_op op_sub (pe_ix ix_tup (pv 5) (pv 3) (fun _ _ => rfl)) (pe_ix ix_tup (pv 4) (pv 3) (fun _ _ => rfl))) (pv 6))
        (pe_op op_mul pe_int (pe_op op_sub (pe_ix ix_tup (pv 5) (pv 1) (fun _ _ => rfl)) (pe_ix ix_tup (pv 4) (pv 1) (fun _ _ => rfl)))))))))), ?_⟩
    have i0 : atI [V.ref p, V.ref q] 0 = some (.ref p) := rfl
    have i1 : atI [V.ref p, V.ref q] 1 = some (.ref q) := rfl
    have two : ∀ j : Int, CMul 2 j := fun j => .inl ⟨by decide, by decide⟩
    refine ⟨_, rfl, a, _, _, _, rfl, rfl, SqT.of h0, i0, ?_⟩
    refine ⟨_, rfl, a, _, _, _, rfl, rfl, SqT.of h0, i1, ?_⟩
    refine ⟨_, rfl, _, _, rfl, rfl, two _, _, _, rfl, rfl, _, rfl, _, rfl, p, _, _, _, rfl, rfl, SqT.of h1, at_int e1, _, _, rfl, rfl, two _, _, _, rfl, rfl, ?_⟩
    refine ⟨_, rfl, _, rfl, p, _, _, _, rfl, rfl, SqT.of h1, at_int e3, ?_⟩
    refine ⟨_, rfl, _, rfl, q, _, _, _, rfl, rfl, SqT.of h2, at_int e4, _, rfl, _, rfl, p, _, _, _, rfl, rfl, SqT.of h1, at_int e3, _, _, rfl, rfl, _, rfl, _, _, rfl, rfl, .inl ⟨by show -(2 ^ 64 : Int) < y - x; omega, by show y - x < (2 ^ 64 : Int); omega⟩, ?_⟩
    refine ⟨_, rfl, _, rfl, q, _, _, _, rfl, rfl, SqT.of h2, at_int e2, _, rfl, _, rfl, p, _, _, _, rfl, rfl, SqT.of h1, at_int e1, _, _, rfl, rfl, _, _, rfl, rfl, two _, _, _, rfl, rfl, ⟨by show (0 : Int) < 2 * (hi - lo); omega, by show 2 * (hi - lo) < (1073741824 : Int); omega⟩, _, _, rfl, rfl, ?_⟩
    exact k
end
end Sol
end
section
set_option Elab.async false
set_option linter.all false
set_option maxRecDepth 100000
set_option maxHeartbeats 4000000
namespace Sol
open PySem PySem.Spec PyProof.Rows L2
open Sa63 (Tri Corner Edge low whole nearest cornerAt triAt proper skinOf edges closed cutUp below along isCut)
open Solid (rev cut cuts upI dnI upT dnT)
def wKV (l : List Tri) (z : Int) (p : Nat × Addr) : List (List Key) × V := (eK (dnI l z p.1), .ref p.2)
def spWays (K : PySem.W.Frag) : Sp := fun vs H Q _ => ∃ (a : Addr) (as : List Addr) (l : List Tri) (z : Int), vs = [.ref a, .int z] ∧ SqL K H a (as.map V.ref) ∧ Paired (TriAt H) as l ∧ l.length ≤ 20000 ∧ closed l = true ∧
  ∀ (H' : Hp) (d : Addr) (ps : List (Nat × Addr)), Same H H' → H d = none → H' d = some (.dN (ps.map (wKV l z))) → ps.map (·.1) = cuts l z → (∀ p ∈ ps, EdgeAt H' p.2 (upI l z p.1)) → Q (.ref d) H'
theorem val_ways {l : List Tri} {z : Int} (C : closed l = true) {ps : List (Nat × Addr)} (hc : ∀ p ∈ ps, cut l z p.1 = true) {i : Nat} (hi : cut l z i = true) :
    (i ∉ ps.map (·.1) → valV (ps.map (wKV l z)) (eK (dnI l z i)) = none) ∧ (i ∈ ps.map (·.1) → ∃ p ∈ ps, p.1 = i ∧ valV (ps.map (wKV l z)) (eK (dnI l z i)) = some (.ref p.2)) := by
  induction ps with
  | nil => exact ⟨fun _ => rfl, fun h => nomatch h⟩
  | cons p ps ih =>
    obtain ⟨ih1, ih2⟩ := ih fun q hq => hc q (List.mem_cons_of_mem _ hq)
    by_cases e : p.1 = i
    · refine ⟨fun h => absurd (by rw [← e]; simp) h, fun _ => ⟨p, by simp, e, ?_⟩⟩
      rw [List.map_cons]
      exact valV_pos (show (wKV l z p).1 = _ by unfold wKV; rw [e])
    · have ne : ¬ (wKV l z p).1 = eK (dnI l z i) := fun q => e (Solid.dn_inj C (hc p (by simp)) hi (eK_inj q))
      rw [List.map_cons, List.map_cons, valV_neg ne]
      refine ⟨fun h => ih1 fun q => h (List.mem_cons_of_mem _ q), fun h => ?_⟩
      rcases List.mem_cons.mp h with h | h
      · exact absurd h.symm e
      · obtain ⟨q, h1, h2, h3⟩ := ih2 h
        exact ⟨q, List.mem_cons_of_mem _ h1, h2, h3⟩
theorem put_ways {l : List Tri} {z : Int} (C : closed l = true) {ps : List (Nat × Addr)} (hc : ∀ p ∈ ps, cut l z p.1 = true) {i : Nat} (hi : cut l z i = true) (h : i ∉ ps.map (·.1)) (q : Addr) :
    putK (ps.map (wKV l z)) (eK (dnI l z i)) (.ref q) = (ps ++ [(i, q)]).map (wKV l z) := by
  unfold putK
  rw [valV_any, (val_ways C hc hi).1 h, if_neg (by decide), List.map_append]
  rfl
theorem range_filter_succ (p : Nat → Bool) (i : Nat) : (List.range (i + 1)).filter p = if p i = true then (List.range i).filter p ++ [i] else (List.range i).filter p := by
  rw [List.range_succ, List.filter_append, List.filter_cons, List.filter_nil]
  by_cases h : p i = true
  · rw [if_pos h, if_pos h]
  · rw [if_neg h, if_neg h, List.append_nil]
theorem filter_take_succ {α : Type} (p : α → Bool) {l : List α} {i : Nat} {x : α} (h : l[i]? = some x) : (l.take (i + 1)).filter p = if p x = true then (l.take i).filter p ++ [x] else (l.take i).filter p := by
  rw [take_more h, List.filter_append, List.filter_cons, List.filter_nil]
  by_cases q : p x = true
  · rw [if_pos q, if_pos q]
  · rw [if_neg q, if_neg q, List.append_nil]
section
variable {P : Program} {w : World} {K : PySem.W.Frag} {mg : Str → Option Value} {base : Heap}
theorem scWays : FnScope ["triangles", "z", "onward", "triangle", "edges", "up", "down", "edge"] ["triangles", "z"] (defScope sWays) := ⟨rfl, rfl, rfl, by decide +kernel, rfl, by decide +kernel, by decide +kernel⟩
theorem ok_ways {f C : Addr} {fd : FuncData} (F : Fun K "ways_onward" "ways_onward" sWays f fd) (T : Txt K mg C) (M : TxtM mg) (DE : Def P w K mg base CX0 1 "edges_of" ["triangle"] spEdges) (DO : Def P w K mg base CX0 1 "other_way" ["edge"] spOther)
    (DR : Def P w K mg base CX0 1 "rises_through" ["edge", "axis", "level"] spRises) : FnOk P w K mg base CX0 2 f fd ["triangles", "z"] (spWays K) := by
  refine F.ok scWays (fun vs H Q E h => ?_) (fun cdv A outer s H vs Q E hr h => ?_)
  · obtain ⟨a, as, l, z, rfl, _⟩ := h
    rfl
  · obtain ⟨a, as, l, z, rfl, hS, hT, hl, hcl, k⟩ := h
    have hu3 : _ + 3 < cLine := hu3_of hr
    refine ⟨_, pss_cons (ps_set (i := 2) scWays.nd rfl (Or.inl rfl) pe_dnewN)
      (pss_cons (ps_for PassesOwn.never rfl (pi_list (pv 0)) (pg_name (i := 3) scWays.nd rfl (Or.inl rfl))
        (pss_cons (ps_set (i := 4) scWays.nd rfl (Or.inl rfl) (pe_def DE hr pass0 (pa_cons (pv 3) pa_nil)))
        (pss_cons (ps_setLc (i := 5) (own := [("edge", 7)]) rfl scWays.nd rfl rfl (sw_true rfl rfl rfl (by decide +kernel)) (pi_list (pv 4)) (blkOk_by (by show blkC ["triangles", "z", "onward", "triangle", "edges", "up", "down", "edge"] (defScope sWays) _ _ = true; decide +kernel))
          (fun _ _ _ _ _ => pg_name (i := 7) scWays.nd rfl (Or.inl rfl)) (fun _ _ _ _ _ => pts_one (pt_val (pe_def DR hr pass0 (pa_cons (pv 7) (pa_cons (pe_con M.z) (pa_cons (pv 1) pa_nil)))))) (fun _ _ _ _ _ => pv 7))
        (pss_cons (ps_setLc (i := 6) (own := [("edge", 7)]) rfl scWays.nd rfl rfl (sw_true rfl rfl rfl (by decide +kernel)) (pi_list (pv 4)) (blkOk_by (by show blkC ["triangles", "z", "onward", "triangle", "edges", "up", "down", "edge"] (defScope sWays) _ _ = true; decide +kernel))
          (fun _ _ _ _ _ => pg_name (i := 7) scWays.nd rfl (Or.inl rfl)) (fun _ _ _ _ _ => pts_one (pt_val (pe_def DR hr pass0 (pa_cons (pe_def DO hr pass0 (pa_cons (pv 7) pa_nil)) (pa_cons (pe_con M.z) (pa_cons (pv 1) pa_nil)))))) (fun _ _ _ _ _ => pe_def DO hr pass0 (pa_cons (pv 7) pa_nil)))
        (pss_one (ps_if (pt_truth (pv 5) (fun _ => rfl)) (pss_one (ps_nput hu3 (pv 2) (pe_ix ix_list (pv 6) pe_int (fun _ _ => rfl)) (pe_ix ix_list (pv 5) pe_int (fun _ _ => rfl)) rfl)) pss_nil))))))
      (pss_one (ps_ret (pv 2)))), ?_⟩
    intro d hd
    have la : as.length = l.length := Paired.length hT
    refine ⟨_, rfl, a, rfl, ⟨_, (same_new hd).seq hS⟩, for_list (K := K) (a := a) (xs := as.map V.ref) (fun i σ H' => ∃ v3 v4 v5 v6 v7, σ = [some (.ref a), some (.int z), some (.ref d), v3, v4, v5, v6, v7] ∧ Same H H' ∧
        ∃ ps : List (Nat × Addr), H' d = some (.dN (ps.map (wKV l z))) ∧ ps.map (·.1) = (List.range i).filter (cut l z) ∧ (∀ p ∈ ps, EdgeAt H' p.2 (upI l z p.1)))
      ⟨none, none, none, none, none, rfl, same_new hd, [], upd_same, rfl, fun p hp => nomatch hp⟩ (fun i σ H' _ ⟨_, _, _, _, _, _, sm, _⟩ => sm.seq hS) ?_ ?_⟩
    · rintro i y σ H' hi ⟨v3, v4, v5, v6, v7, rfl, sm, ps, hd', hps, hpe⟩
      obtain ⟨b, hb, rfl⟩ := map_at hi
      obtain ⟨t, ht, hbt⟩ := paired_at hT hb
      have hil : i < l.length := (List.getElem?_eq_some_iff.mp ht).1
      refine ⟨_, rfl, b, t, rfl, hbt.same sm, fun H1 p es s1 hp0 hp1 hes => ?_⟩
      have les : es.length = (edges t).length := Paired.length hes
      have hd1 := s1 _ _ hd'
      -- up
      refine ⟨_, rfl, p, rfl, ⟨_, SqL.of hp1⟩, fun U hU => ?_⟩
      refine lc_list (K := K) (a := p) (xs := es.map V.ref) (fun j H2 => Same H1 H2 ∧ ∃ us : List Addr, H2 U = some (.lst (us.map V.ref)) ∧ Paired (EdgeAt H2) us (((edges t).take j).filter (cutUp z))) ⟨same_new hU, [], upd_same, .nil⟩ (fun j H2 _ ⟨s2, _⟩ => SqL.of (s2 _ _ hp1)) ?_ ?_
      · rintro j x H2 hj ⟨s2, us, hU2, hus⟩
        obtain ⟨c, hc, rfl⟩ := map_at hj
        obtain ⟨e, he, hce⟩ := paired_at hes hc
        have hj3 : j < 3 := (List.getElem?_eq_some_iff.mp he).1
        refine ⟨rfl, ?_⟩
        refine ⟨_, rfl, _, rfl, c, e, z, rfl, hce.same s2, _, rfl, ?_⟩
        have lus : us.length ≤ 3 := by
          rw [Paired.length hus]
          refine Nat.le_trans (List.length_filter_le _ _) ?_
          rw [List.length_take]; omega
        refine ite2 (fun q => ?_) fun q => ?_
        · refine ⟨_, rfl, _, hU2, by rw [List.length_map]; exact small1000 (by omega), same_upd s2 hU, us ++ [c], by rw [upd_same, List.map_append]; rfl, ?_⟩
          rw [filter_take_succ _ he, if_pos q]
          have kp : ∀ b xs, H2 b = some (.tup xs) → upd H2 U (.lst (us.map V.ref ++ [V.ref c])) b = some (.tup xs) := fun b xs e => by rw [upd_ne (ne_of e hU2 (fun z => nomatch z))]; exact e
          exact Paired.snoc (Paired.mapP hus fun _ _ z => z.tups kp) ((hce.same s2).tups kp)
        · refine ⟨s2, us, hU2, ?_⟩
          rw [filter_take_succ _ he, if_neg q]
          exact hus
      · rintro H2 ⟨s2, us, hU2, hus⟩
        rw [List.length_map, les, List.take_length] at hus
        -- down
        refine ⟨_, rfl, p, rfl, ⟨_, SqL.of (s2 _ _ hp1)⟩, fun W hW => ?_⟩
        refine lc_list (K := K) (a := p) (xs := es.map V.ref) (fun j H3 => Same H2 H3 ∧ ∃ ds : List Addr, H3 W = some (.lst (ds.map V.ref)) ∧ Paired (EdgeAt H3) ds ((((edges t).take j).filter fun e => cutUp z (rev e)).map rev)) ⟨same_new hW, [], upd_same, .nil⟩ (fun j H3 _ ⟨s3, _⟩ => SqL.of (s3 _ _ (s2 _ _ hp1))) ?_ ?_
        · rintro j x H3 hj ⟨s3, ds, hW3, hds⟩
          obtain ⟨c, hc, rfl⟩ := map_at hj
          obtain ⟨e, he, hce⟩ := paired_at hes hc
          have hj3 : j < 3 := (List.getElem?_eq_some_iff.mp he).1
          have hce3 : EdgeAt H3 c e := hce.same (s2.trans s3)
          refine ⟨rfl, ?_⟩
          refine ⟨_, rfl, c, e, rfl, hce3, fun H4 q s4 hq => ?_⟩
          refine ⟨_, rfl, q, rev e, z, rfl, hq, _, rfl, ?_⟩
          have lds : ds.length ≤ 3 := by
            rw [Paired.length hds, List.length_map]
            refine Nat.le_trans (List.length_filter_le _ _) ?_
            rw [List.length_take]; omega
          refine ite2 (fun g => ?_) fun g => ?_
          · refine ⟨_, rfl, c, e, rfl, hce3.same s4, fun H5 r s5 hr5 => ?_⟩
            have hW5 := s5 _ _ (s4 _ _ hW3)
            refine ⟨_, hW5, by rw [List.length_map]; exact small1000 (by omega), same_upd ((s3.trans s4).trans s5) hW, ds ++ [r], by rw [upd_same, List.map_append]; rfl, ?_⟩
            rw [filter_take_succ (fun e => cutUp z (rev e)) he, if_pos g, List.map_append]
            have kp : ∀ b xs, H5 b = some (.tup xs) → upd H5 W (.lst (ds.map V.ref ++ [V.ref r])) b = some (.tup xs) := fun b xs e => by rw [upd_ne (ne_of e hW5 (fun z => nomatch z))]; exact e
            exact Paired.snoc (Paired.mapP hds fun _ _ z => (z.same (s4.trans s5)).tups kp) (hr5.tups kp)
          · refine ⟨s3.trans s4, ds, s4 _ _ hW3, ?_⟩
            rw [filter_take_succ (fun e => cutUp z (rev e)) he, if_neg g]
            exact Paired.mapP hds fun _ _ z => z.same s4
        · rintro H3 ⟨s3, ds, hW3, hds⟩
          rw [List.length_map, les, List.take_length] at hds
          have hU3 := s3 _ _ hU2
          have hd3 := s3 _ _ (s2 _ _ hd1)
          have sH : Same H' H3 := (s1.trans s2).trans s3
          have hpe3 : ∀ p ∈ ps, EdgeAt H3 p.2 (upI l z p.1) := fun p hp => (hpe p hp).same sH
          have hci : cut l z i = isCut z t := Solid.cut_at' ht
          have cps : ∀ p ∈ ps, cut l z p.1 = true := fun p hp => by
            have : p.1 ∈ ps.map (·.1) := List.mem_map.mpr ⟨p, hp, rfl⟩
            rw [hps] at this
            exact (List.mem_filter.mp this).2
          have nips : i ∉ ps.map (·.1) := fun q => by
            rw [hps] at q
            have := List.mem_range.mp (List.mem_filter.mp q).1
            omega
          have hus3 : Paired (EdgeAt H3) us ((edges t).filter (cutUp z)) := Paired.mapP hus fun _ _ z => z.same s3
          refine ⟨_, rfl, _, .inl ⟨_, SqL.of hU3, rfl⟩, ?_⟩
          rcases Solid.cut_cases z t with ⟨c1, c2, c3⟩ | ⟨c1, c2, c3⟩
          · rw [c2] at hus3
            rw [c3, List.map_cons, List.map_nil, Solid.rev_rev] at hds
            cases hus3 with
            | @cons u _ us' _ hu hun =>
              cases hun
              cases hds with
              | @cons g _ ds' _ hg hgn =>
                cases hgn
                refine iteT' rfl ?_
                obtain ⟨t', ht', _, eu, ed, _⟩ := Solid.cut_tri (l := l) (z := z) (i := i) (by rw [hci]; exact c1)
                have : t' = t := Option.some.inj (ht'.symm.trans ht)
                subst this
                rw [← eu] at hu
                rw [← ed] at hg
                have hlen : (ps.map (wKV l z)).length < sizeLine := by
                  rw [List.length_map, ← List.length_map (f := (·.1)), hps]
                  refine Nat.lt_of_le_of_lt (Nat.le_trans (List.length_filter_le _ _) ?_) (show 20000 < sizeLine by decide)
                  rw [List.length_range]; omega
                refine ⟨_, rfl, U, _, _, _, rfl, rfl, SqL.of hU3, rfl, _, rfl, _, rfl, W, _, _, _, rfl, rfl, SqL.of hW3, rfl, d, g, _, _, rfl, rfl, hd3, hg.key, hlen, ?_⟩
                have kp : ∀ b xs, H3 b = some (.tup xs) → upd H3 d (.dN (putK (ps.map (wKV l z)) (eK (dnI l z i)) (.ref u))) b = some (.tup xs) := fun b xs e => by rw [upd_ne (ne_of e hd3 (fun z => nomatch z))]; exact e
                refine ⟨_, _, _, _, _, rfl, same_upd (sm.trans sH) hd, ps ++ [(i, u)], ?_, ?_, ?_⟩
                · rw [upd_same, put_ways hcl cps (by rw [hci]; exact c1) nips]
                · rw [List.map_append, hps, range_filter_succ, if_pos (by rw [hci]; exact c1)]
                  rfl
                · intro p hp
                  rcases List.mem_append.mp hp with hp | hp
                  · exact (hpe3 p hp).tups kp
                  · rw [List.mem_singleton.mp hp]
                    exact hu.tups kp
          · rw [c2] at hus3
            cases hus3
            refine iteF' rfl ?_
            refine ⟨_, _, _, _, _, rfl, sm.trans sH, ps, hd3, ?_, hpe3⟩
            rw [hps, range_filter_succ, if_neg (by rw [hci, c1]; decide)]
    · rintro σ H' ⟨v3, v4, v5, v6, v7, rfl, sm, ps, hd', hps, hpe⟩
      rw [List.length_map, la] at hps
      exact ⟨_, rfl, k H' d ps sm hd hd' hps hpe⟩
end
end Sol
end
section
set_option Elab.async false
set_option linter.all false
set_option maxRecDepth 100000
set_option maxHeartbeats 4000000
namespace Sol
open PySem PySem.Spec PyProof.Rows L2
open Sa63 (Tri Corner Edge low whole nearest cornerAt triAt proper skinOf edges closed cutUp below along isCut)
open Solid (rev cut cuts upI dnI upT dnT nx pt turn Walking)
def PtAt (H : Hp) (q : Addr) (p : Int × Int) : Prop := H q = some (.tup [.int p.1, .int p.2])
def LoopAt (H : Hp) (a : Addr) (ps : List (Int × Int)) : Prop := ∃ qs : List Addr, H a = some (.lst (qs.map V.ref)) ∧ Paired (PtAt H) qs ps
theorem LoopAt.keep {H H' : Hp} {a : Addr} {ps : List (Int × Int)} (h : LoopAt H a ps) (ha : ∀ o, H a = some o → H' a = some o) (ht : ∀ b xs, H b = some (.tup xs) → H' b = some (.tup xs)) : LoopAt H' a ps := by
  obtain ⟨qs, h1, h2⟩ := h
  exact ⟨qs, ha _ h1, Paired.mapP h2 fun _ _ z => ht _ _ z⟩
theorem along_between {x y d n : Int} (h0 : 0 < d) (h1 : d < n) (hx : SmallI x) (hy : SmallI y) : SmallI (along x y d n) := by
  unfold Sa63.along
  obtain ⟨x1, x2⟩ := hx
  obtain ⟨y1, y2⟩ := hy
  have hn : 0 < n := by omega
  by_cases c : x ≤ y
  · have e1 : 0 ≤ (y - x) * d / n := Int.ediv_nonneg (Int.mul_nonneg (by omega) (by omega)) (by omega)
    have e2 : (y - x) * d / n ≤ y - x := Int.ediv_le_of_le_mul hn (Int.mul_le_mul_of_nonneg_left (by omega) (by omega))
    constructor <;> omega
  · have e1 : y - x ≤ (y - x) * d / n := (Int.le_ediv_iff_mul_le hn).mpr (by
      have : (x - y) * d ≤ (x - y) * n := Int.mul_le_mul_of_nonneg_left (by omega) (by omega)
      have a1 : (y - x) * d = -((x - y) * d) := by rw [← Int.neg_mul]; congr 1; omega
      have a2 : (y - x) * n = -((x - y) * n) := by rw [← Int.neg_mul]; congr 1; omega
      omega)
    have e2 : (y - x) * d / n ≤ 0 := Int.ediv_le_of_le_mul hn (by
      have : 0 ≤ (x - y) * d := Int.mul_nonneg (by omega) (by omega)
      have a1 : (y - x) * d = -((x - y) * d) := by rw [← Int.neg_mul]; congr 1; omega
      omega)
    constructor <;> omega
/-- what is known of a layer's loops -/
def LayFacts (lp : List (List (Int × Int))) : Prop := lp.length ≤ 20000 ∧ lp.flatten.length ≤ 20000 ∧ ∀ ps ∈ lp, ∀ p ∈ ps, SmallI p.1 ∧ SmallI p.2
def spLoops (K : PySem.W.Frag) : Sp := fun vs H Q _ => ∃ (a : Addr) (as : List Addr) (l : List Tri) (z : Int), vs = [.ref a, .int z] ∧ SqL K H a (as.map V.ref) ∧ Paired (TriAt H) as l ∧ l.length ≤ 20000 ∧ closed l = true ∧ (∀ t ∈ l, SmallT t) ∧
  ∀ (H' : Hp) (p : Addr) (bs : List Addr), Same H H' → H' p = some (.lst (bs.map V.ref)) → Paired (LoopAt H') bs (Sa63.layer l z) → LayFacts (Sa63.layer l z) → Q (.ref p) H'
theorem mem_dn {l : List Tri} {z : Int} (C : closed l = true) {P : List Nat} (hP : ∀ x ∈ P, cut l z x = true) {i : Nat} (hi : cut l z i = true) : dnI l z i ∈ P.map (dnI l z) ↔ i ∈ P := by
  constructor
  · intro h
    obtain ⟨j, hj, e⟩ := List.mem_map.mp h
    rw [← Solid.dn_inj C (hP j hj) hi e]; exact hj
  · intro h
    exact List.mem_map.mpr ⟨i, h, rfl⟩
theorem small_up {l : List Tri} {z : Int} {i : Nat} (hs : ∀ t ∈ l, SmallT t) (hi : cut l z i = true) : SmallC (upI l z i).1 ∧ SmallC (upI l z i).2 ∧ (upI l z i).1.2.2 ≤ z ∧ z < (upI l z i).2.2.2 := by
  obtain ⟨t, ht, hc, e1, _, _⟩ := Solid.cut_tri hi
  obtain ⟨_, m1, m2⟩ := Solid.up_some hc
  rw [← e1] at m1 m2
  rw [cutUp_eq, Bool.and_eq_true, decide_eq_true_iff, decide_eq_true_iff] at m2
  obtain ⟨sa, sb, sc⟩ := hs t (List.mem_of_getElem? ht)
  have : upI l z i ∈ [(t.a, t.b), (t.b, t.c), (t.c, t.a)] := m1
  simp only [List.mem_cons, List.not_mem_nil, or_false] at this
  rcases this with e | e | e
  · rw [e] at m2 ⊢; exact ⟨sa, sb, m2⟩
  · rw [e] at m2 ⊢; exact ⟨sb, sc, m2⟩
  · rw [e] at m2 ⊢; exact ⟨sc, sa, m2⟩
structure Outer (l : List Tri) (z : Int) (ls : List (List Nat)) : Prop where
  cuts : ∀ x ∈ ls.flatten, cut l z x = true
  nd : ls.flatten.Nodup
  pred : ∀ x ∈ ls.flatten, ∃ y ∈ ls.flatten, nx l z y = x
theorem Paired.mapM {α β : Type} {F G : α → β → Prop} : ∀ {l₁ : List α} {l₂ : List β}, Paired F l₁ l₂ → (∀ a b, a ∈ l₁ → F a b → G a b) → Paired G l₁ l₂
  | _, _, .nil, _ => .nil
  | _, _, .cons r t, f => .cons (f _ _ (by simp) r) (Paired.mapM t fun a b h => f a b (List.mem_cons_of_mem _ h))
/-- the heap while a loop is walked -/
def WalkAt (l : List Tri) (z : Int) (ls : List (List Nat)) (i0 : Nat) (a d L pd q0 lp : Addr) (H' : Hp) (s : List Nat) (σ : L2.St) (H2 : Hp) : Prop := ∃ (j : Nat) (q : Addr) (rs : List Addr),
  σ = [some (.ref a), some (.int z), some (.ref d), some (.ref L), some (.ref pd), some (.ref q0), some (.ref lp), some (.ref q)] ∧ Walking l z ls.flatten s i0 j ∧ EdgeAt H2 q (dnI l z j) ∧
  H2 lp = some (.lst (rs.map V.ref)) ∧ Paired (PtAt H2) rs (s.map (pt l z)) ∧ H2 pd = some (.dN (((ls.flatten ++ s).map (dnI l z)).map eKV)) ∧ (∀ c o, H' c = some o → c ≠ pd → H2 c = some o)
/-- the heap between two turns of the outer loop -/
structure Rounds (l : List Tri) (z : Int) (i : Nat) (H' : Hp) (L pd : Addr) : Prop where
  ex : ∃ (ls : List (List Nat)) (bs : List Addr), ls = ((cuts l z).take i).foldl (turn l z) [] ∧ Outer l z ls ∧ H' L = some (.lst (bs.map V.ref)) ∧ L ∉ bs ∧ Paired (LoopAt H') bs (ls.map fun s => s.map (pt l z)) ∧
    H' pd = some (.dN ((ls.flatten.map (dnI l z)).map eKV)) ∧ bs.length ≤ i
section
variable {P : Program} {w : World} {K : PySem.W.Frag} {mg : Str → Option Value} {base : Heap}
theorem scLoops : FnScope ["triangles", "z", "onward", "loops", "passed", "start", "loop", "edge"] ["triangles", "z"] (defScope sLoops) := ⟨rfl, rfl, rfl, by decide +kernel, rfl, by decide +kernel, by decide +kernel⟩
theorem ok_loops {f C : Addr} {fd : FuncData} (F : Fun K "cut_loops" "cut_loops" sLoops f fd) (T : Txt K mg C) (M : TxtM mg) (DW : Def P w K mg base CX0 2 "ways_onward" ["triangles", "z"] (spWays K))
    (DC : Def P w K mg base CX0 1 "cut_at" ["edge", "axis", "level", "asked"] spCut) : FnOk P w K mg base CX0 3 f fd ["triangles", "z"] (spLoops K) := by
  refine F.ok scLoops (fun vs H Q E h => ?_) (fun cdv A outer s H vs Q E hr h => ?_)
  · obtain ⟨a, as, l, z, rfl, _⟩ := h
    rfl
  · obtain ⟨a, as, l, z, rfl, hS, hT, hl, hcl, hsm, k⟩ := h
    have hu3 : _ + 3 < cLine := hu3_of hr
    have hr1 : Room 1 _ := hr.mono (by decide)
    refine ⟨_, pss_cons (ps_set (i := 2) scLoops.nd rfl (Or.inl rfl) (pe_def DW hr pass0 (pa_cons (pv 0) (pa_cons (pv 1) pa_nil))))
      (pss_cons (ps_set (i := 3) scLoops.nd rfl (Or.inl rfl) (pe_lst pa_nil))
      (pss_cons (ps_set (i := 4) scLoops.nd rfl (Or.inl rfl) pe_dnewN)
      (pss_cons (ps_lock (ps_for PassesOwn.never rfl (pi_keysN (pv 2)) (pg_name (i := 5) scLoops.nd rfl (Or.inl rfl))
        (pss_cons (ps_set (i := 6) scLoops.nd rfl (Or.inl rfl) (pe_lst pa_nil))
        (pss_cons (ps_set (i := 7) scLoops.nd rfl (Or.inl rfl) (pv 5))
        (pss_cons (ps_while PassesOwn.never (pt_cmp (pc_nnotin hu3 (pv 7) (pv 4)))
          (pss_cons (ps_nput hu3 (pv 4) (pv 7) pe_bl rfl)
          (pss_cons (ps_set (i := 7) scLoops.nd rfl (Or.inl rfl) (pe_nget hu3 (pv 2) (pv 7) (fun _ _ => rfl)))
          (pss_one (ps_expr (pe_bm PySem.F.plainAttrs_list PySem.F.slot_list_append PySem.F.type_list_append mt_append (pv 6) (pa_cons (pe_tup
            (pa_cons (pe_def DC hr1 pass0 (pa_cons (pv 7) (pa_cons (pe_con M.z) (pa_cons (pv 1) (pa_cons (pe_con M.x) pa_nil)))))
            (pa_cons (pe_def DC hr1 pass0 (pa_cons (pv 7) (pa_cons (pe_con M.z) (pa_cons (pv 1) (pa_cons (pe_con M.y) pa_nil))))) pa_nil))) pa_nil)))))))
        (pss_one (ps_if (pt_truth (pv 6) (fun _ => rfl)) (pss_one (ps_expr (pe_bm PySem.F.plainAttrs_list PySem.F.slot_list_append PySem.F.type_list_append mt_append (pv 3) (pa_cons (pv 6) pa_nil)))) pss_nil)))))))
      (pss_one (ps_ret (pv 3)))))), ?_⟩
    refine ⟨_, rfl, _, rfl, a, as, l, z, rfl, hS, hT, hl, hcl, fun Hw d ps sw hd0 hdw hps hpe => ?_⟩
    refine ⟨Nat.zero_le _, fun L hL => ?_⟩
    intro pd hpd
    have nL : H L = none := sw.free hL
    have s1 : Same Hw (upd Hw L (.lst [])) := same_new hL
    have npd : H pd = none := (sw.trans s1).free hpd
    have ldp : L ≠ pd := ne_of_none upd_same hpd
    have s2 : Same (upd Hw L (.lst [])) (upd (upd Hw L (.lst [])) pd (.dN [])) := same_new hpd
    have dL : d ≠ L := ne_of_none hdw hL
    have dpd : d ≠ pd := ne_of_none (s1 _ _ hdw) hpd
    have cps : ∀ p ∈ ps, cut l z p.1 = true := fun p hp => by
      have : p.1 ∈ ps.map (·.1) := List.mem_map.mpr ⟨p, hp, rfl⟩
      rw [hps] at this
      exact (List.mem_filter.mp this).2
    have lcut : (cuts l z).length ≤ 20000 := by
      unfold Solid.cuts
      refine Nat.le_trans (List.length_filter_le _ _) ?_
      rw [List.length_range]; exact hl
    have lps : ps.length = (cuts l z).length := by rw [← hps, List.length_map]
    refine ⟨d, _, (s1.trans s2) _ _ hdw, True.intro, fun od => ?_⟩
    have R0 : Rounds l z 0 (upd (upd (upd Hw L (.lst [])) pd (.dN [])) d (.frz od (.dN (ps.map (wKV l z))))) L pd := by
      refine ⟨[], [], rfl, ⟨fun x hx => (nomatch hx), List.nodup_nil, fun x hx => (nomatch hx)⟩, ?_, by simp, .nil, ?_, Nat.le_refl _⟩
      · rw [upd_ne (Ne.symm dL), upd_ne ldp]; exact upd_same
      · rw [upd_ne (Ne.symm dpd)]; exact upd_same
    have hpe0 : ∀ p ∈ ps, EdgeAt (upd (upd (upd Hw L (.lst [])) pd (.dN [])) d (.frz od (.dN (ps.map (wKV l z))))) p.2 (upI l z p.1) := fun p hp =>
      ((hpe p hp).same (s1.trans s2)).tups fun b xs e => by rw [upd_ne (ne_of e ((s1.trans s2) _ _ hdw) (fun z => nomatch z))]; exact e
    have hd1 : (upd (upd (upd Hw L (.lst [])) pd (.dN [])) d (.frz od (.dN (ps.map (wKV l z))))) d = some (.frz od (.dN (ps.map (wKV l z)))) := upd_same
    have sm1 : Same H (upd (upd (upd Hw L (.lst [])) pd (.dN [])) d (.frz od (.dN (ps.map (wKV l z))))) := same_upd ((sw.trans s1).trans s2) hd0
    generalize upd (upd (upd Hw L (.lst [])) pd (.dN [])) d (.frz od (.dN (ps.map (wKV l z)))) = H1 at R0 hpe0 hd1 sm1
    refine ⟨_, rfl, d, od, _, rfl, hd1, for_keysN (fun i σ H' => ∃ v5 v6 v7, σ = [some (.ref a), some (.int z), some (.ref d), some (.ref L), some (.ref pd), v5, v6, v7] ∧ Same H H' ∧ H' d = some (.frz od (.dN (ps.map (wKV l z)))) ∧ (∀ p ∈ ps, EdgeAt H' p.2 (upI l z p.1)) ∧ Rounds l z i H' L pd)
      ⟨none, none, none, rfl, sm1, hd1, hpe0, R0⟩ (fun i σ H' _ ⟨_, _, _, _, _, h, _⟩ => h) ?_ ?_⟩
    · rintro i kk v q0 σ H' hi hq0 ⟨v5, v6, v7, rfl, sm, hd', hpe', R⟩
      obtain ⟨⟨i0, qu⟩, hp, hpk⟩ := map_at hi
      obtain ⟨rfl, rfl⟩ : eK (dnI l z i0) = kk ∧ V.ref qu = v := Prod.mk.inj hpk
      have hi0 : (cuts l z)[i]? = some i0 := by rw [← hps, List.getElem?_map, hp]; rfl
      have c0 : cut l z i0 = true := cps _ (List.mem_of_getElem? hp)
      have hil : i < (cuts l z).length := (List.getElem?_eq_some_iff.mp hi0).1
      have hq0 : EdgeAt H' q0 (dnI l z i0) := EdgeAt.of_key hq0
      obtain ⟨ls, bs, hls, O, hL', nLb, hbs, hpd', hlb⟩ := R.ex
      refine ⟨Nat.zero_le _, fun lp hlp => ?_⟩
      have sL : Same H' (upd H' lp (.lst [])) := same_new hlp
      have plp : pd ≠ lp := ne_of_none hpd' hlp
      refine ⟨_, rfl, ?_⟩
      -- round the loop
      refine ⟨fun m σ H2 => ∃ s : List Nat, m = l.length - s.length ∧ WalkAt l z ls i0 a d L pd q0 lp H' s σ H2,
        ⟨_, [], rfl, i0, q0, [], rfl, Walking.start O.cuts c0 O.nd O.pred, hq0.same sL, upd_same, .nil, by rw [List.append_nil]; exact sL _ _ hpd', fun c o e _ => sL _ _ e⟩, ?_⟩
      rintro m σ H2 ⟨s, rfl, j, q, rs, rfl, W, hq, hlp2, hrs, hpd2, k2⟩
      have hmem := mem_dn hcl W.cuts W.ci
      refine ⟨_, rfl, _, rfl, pd, q, _, _, rfl, rfl, .inl hpd2, hq.key, _, rfl, ?_⟩
      rw [val_edges]
      have sm2 : Same H H2 := fun c o e => k2 c o (sm c o e) (fun z => by rw [z, npd] at e; cases e)
      have hd2 := k2 _ _ hd' dpd
      have hpe2 : ∀ p ∈ ps, EdgeAt H2 p.2 (upI l z p.1) := fun p hp => (hpe' p hp).tups fun b xs e => k2 b _ e (ne_of e hpd' (fun z => nomatch z))
      by_cases hin : j ∈ ls.flatten ++ s
      · rw [decide_eq_true (hmem.mpr hin)]
        refine iteF' rfl ?_
        -- the loop is done
        have lrs : rs.length = s.length := by rw [Paired.length hrs, List.length_map]
        refine ⟨_, rfl, _, .inl ⟨_, SqL.of hlp2, rfl⟩, ?_⟩
        have hbs2 : Paired (LoopAt H2) bs (ls.map fun s => s.map (pt l z)) := Paired.mapP hbs fun b' ps' z => z.keep (fun o e => k2 _ _ e (by
            obtain ⟨qs, e', _⟩ := z
            exact ne_of e' hpd' (fun z => nomatch z))) fun b xs e => k2 b _ e (ne_of e hpd' (fun z => nomatch z))
        have hL2 := k2 _ _ hL' ldp
        have Lne : L ≠ lp := ne_of_none hL' hlp
        by_cases hs : s = []
        · subst hs
          have : rs = [] := List.eq_nil_of_length_eq_zero lrs
          subst this
          refine iteF' rfl ?_
          have hj : j = i0 := by
            rcases W.cur with ⟨_, e⟩ | ⟨y, r, e, _⟩
            · exact e
            · simp at e
          subst hj
          rw [List.append_nil] at hin hpd2
          refine ⟨_, _, _, rfl, sm2, hd2, hpe2, ls, bs, ?_, O, hL2, nLb, hbs2, hpd2, by omega⟩
          rw [take_more hi0, List.foldl_append, ← hls]
          exact (Solid.turn_old hin).symm
        · have h0 : i0 ∉ ls.flatten := fun z' => by
            rcases W.cur with ⟨e, _⟩ | ⟨y, r, _, _, m0⟩
            · exact hs e
            · have nd := W.nd
              rw [List.nodup_append] at nd
              exact nd.2.2 i0 z' i0 m0 rfl
          obtain ⟨w1, w2, _⟩ := W.done hcl hin h0
          have hrs0 : rs ≠ [] := fun z' => hs (List.eq_nil_of_length_eq_zero (by rw [← lrs, z']; rfl))
          refine iteT' ?_ ?_
          · cases rs with
            | nil => exact absurd rfl hrs0
            | cons _ _ => rfl
          · refine ⟨_, rfl, .inl ⟨rfl, _, SqL.of hL2⟩, _, rfl, L, _, _, rfl, rfl, hL2, by rw [List.length_map]; exact Nat.lt_of_le_of_lt (show _ ≤ 20000 by omega) (by decide), ?_⟩
            have kp : ∀ b xs, H2 b = some (.tup xs) → upd H2 L (.lst (bs.map V.ref ++ [V.ref lp])) b = some (.tup xs) := fun b xs e => by rw [upd_ne (ne_of e hL2 (fun z => nomatch z))]; exact e
            have hln : ((cuts l z).take (i + 1)).foldl (turn l z) [] = ls ++ [s] := by
              rw [take_more hi0, List.foldl_append, ← hls]
              show turn l z ls i0 = _
              rw [Solid.turn_new h0, w1]
            refine ⟨_, _, _, rfl, same_upd sm2 nL, by rw [upd_ne dL]; exact hd2, fun p hp => (hpe2 p hp).tups kp, ls ++ [s], bs ++ [lp], hln.symm, ⟨?_, ?_, ?_⟩, by rw [upd_same, List.map_append]; rfl, ?_, ?_, ?_, by rw [List.length_append]; show _ + 1 ≤ _; omega⟩
            · rw [List.flatten_append]; simpa using W.cuts
            · rw [List.flatten_append]; simpa using W.nd
            · rw [List.flatten_append]; simpa using w2
            · rw [List.mem_append, List.mem_singleton]
              rintro (z' | z')
              · exact nLb z'
              · exact Lne z'
            · rw [List.map_append]
              refine Paired.snoc ?_ ⟨rs, by rw [upd_ne (Ne.symm Lne)]; exact hlp2, Paired.mapP hrs fun _ _ z => kp _ _ z⟩
              refine Paired.mapM hbs2 fun b' ps' hb' z' => z'.keep (fun o e => by
                have : b' ≠ L := fun q => nLb (by rw [← q]; exact hb')
                rw [upd_ne this]; exact e) kp
            · rw [upd_ne (Ne.symm ldp), hpd2, List.flatten_append]
              simp
      · rw [decide_eq_false (fun z => hin (hmem.mp z))]
        refine iteT' rfl ?_
        have W2 := W.step hcl hin
        have hlen2 := W2.len
        rw [List.length_append, List.length_append] at hlen2
        have hlen2 : ls.flatten.length + (s.length + 1) ≤ l.length := hlen2
        refine ⟨fun σ' H3 => WalkAt l z ls i0 a d L pd q0 lp H' (s ++ [j]) σ' H3, fun σ' H3 h => ⟨_, ?_, s ++ [j], rfl, h⟩, ?_⟩
        · rw [List.length_append]
          show l.length - (s.length + 1) < l.length - s.length
          omega
        have hjl : j < l.length := by
          obtain ⟨_, _, _, _, _, h⟩ := Solid.cut_tri W.ci
          exact h
        obtain ⟨p, hp, hpj, hval⟩ := (val_ways hcl cps W.ci).2 (by rw [hps]; exact List.mem_filter.mpr ⟨List.mem_range.mpr hjl, W.ci⟩)
        have hpu := hpe2 p hp
        rw [hpj] at hpu
        have hdn : dnI l z j ∉ (ls.flatten ++ s).map (dnI l z) := fun z => hin (hmem.mp z)
        have hlen : (((ls.flatten ++ s).map (dnI l z)).map eKV).length < sizeLine := by
          rw [List.length_map, List.length_map, List.length_append]
          exact Nat.lt_of_le_of_lt (show _ ≤ 20000 by omega) (by decide)
        refine ⟨_, rfl, _, rfl, pd, q, _, _, rfl, rfl, hpd2, hq.key, hlen, ?_⟩
        rw [put_edge hdn]
        have kt3 : ∀ b xs, H2 b = some (.tup xs) → upd H2 pd (.dN (((ls.flatten ++ s).map (dnI l z) ++ [dnI l z j]).map eKV)) b = some (.tup xs) := fun b xs e => by rw [upd_ne (ne_of e hpd2 (fun z => nomatch z))]; exact e
        have hd3 : upd H2 pd (.dN (((ls.flatten ++ s).map (dnI l z) ++ [dnI l z j]).map eKV)) d = some (.frz od (.dN (ps.map (wKV l z)))) := by rw [upd_ne dpd]; exact hd2
        have hlp3 : upd H2 pd (.dN (((ls.flatten ++ s).map (dnI l z) ++ [dnI l z j]).map eKV)) lp = some (.lst (rs.map V.ref)) := by rw [upd_ne (Ne.symm plp)]; exact hlp2
        have hpd3 : upd H2 pd (.dN (((ls.flatten ++ s).map (dnI l z) ++ [dnI l z j]).map eKV)) pd = some (.dN (((ls.flatten ++ s).map (dnI l z) ++ [dnI l z j]).map eKV)) := upd_same
        have k3 : ∀ c o, H' c = some o → c ≠ pd → upd H2 pd (.dN (((ls.flatten ++ s).map (dnI l z) ++ [dnI l z j]).map eKV)) c = some o := fun c o e n => by rw [upd_ne n]; exact k2 c o e n
        have hq3 := hq.tups kt3
        have hpu3 := hpu.tups kt3
        have hrs3 : Paired (PtAt (upd H2 pd (.dN (((ls.flatten ++ s).map (dnI l z) ++ [dnI l z j]).map eKV)))) rs (s.map (pt l z)) := Paired.mapP hrs fun _ _ z => kt3 _ _ z
        generalize upd H2 pd (.dN (((ls.flatten ++ s).map (dnI l z) ++ [dnI l z j]).map eKV)) = H3 at hd3 hlp3 hpd3 k3 hq3 hpu3 hrs3 ⊢
        refine ⟨_, rfl, _, rfl, d, q, _, _, _, rfl, rfl, .inr ⟨od, hd3⟩, hq3.key, hval, ?_⟩
        obtain ⟨⟨⟨a1, a1'⟩, ⟨a2, a2'⟩, ⟨a3, a3'⟩⟩, ⟨⟨b1, b1'⟩, ⟨b2, b2'⟩, ⟨b3, b3'⟩⟩, g1, g2⟩ := small_up hsm W.ci
        obtain ⟨p1, p2, h0, h1, h2⟩ := id hpu3
        refine ⟨_, rfl, .inl ⟨rfl, _, SqL.of hlp3⟩, _, rfl, _, rfl, p.2, p1, p2, [(upI l z j).1.1, (upI l z j).1.2.1, (upI l z j).1.2.2], [(upI l z j).2.1, (upI l z j).2.2.1, (upI l z j).2.2.2], 2, 0, z, _, _, _, _, rfl, h0, h1, h2, rfl, rfl, rfl, rfl, by omega, by omega, by omega, by omega, ?_⟩
        refine ⟨_, rfl, _, rfl, p.2, p1, p2, [(upI l z j).1.1, (upI l z j).1.2.1, (upI l z j).1.2.2], [(upI l z j).2.1, (upI l z j).2.2.1, (upI l z j).2.2.2], 2, 1, z, _, _, _, _, rfl, h0, h1, h2, rfl, rfl, rfl, rfl, by omega, by omega, by omega, by omega, ?_⟩
        refine ⟨(by show 2 ≤ sizeLine; decide), fun tq htq => ?_⟩
        have s4 : ∀ o : HO, Same H3 (upd H3 tq o) := fun o => same_new htq
        have lrs : rs.length = s.length := by rw [Paired.length hrs3, List.length_map]
        refine ⟨lp, _, _, rfl, rfl, s4 _ _ _ hlp3, by rw [List.length_map]; exact Nat.lt_of_le_of_lt (show _ ≤ 20000 by omega) (by decide), ?_⟩
        have tlp : lp ≠ tq := ne_of_none hlp3 htq
        refine ⟨nx l z j, p.2, rs ++ [tq], rfl, W2, ?_, by rw [upd_same, List.map_append]; rfl, ?_, ?_, ?_⟩
        · rw [(Solid.nx_ex hcl W.ci).2.2]
          exact (hpu3.same (s4 _)).tups fun b xs e => by rw [upd_ne (ne_of e (s4 _ _ _ hlp3) (fun z => nomatch z))]; exact e
        · rw [List.map_append]
          refine Paired.snoc (Paired.mapP hrs3 fun b _ e => ?_) ?_
          · show upd _ _ _ b = _
            rw [upd_ne (ne_of (show H3 b = some (.tup _) from e) hlp3 (fun z => nomatch z))]
            exact s4 _ _ _ e
          · show upd _ _ _ tq = _
            rw [upd_ne (Ne.symm tlp)]
            exact upd_same
        · rw [upd_ne plp, s4 _ _ _ hpd3, ← List.append_assoc, List.map_append (l₂ := [j])]
          rfl
        · intro c o e n
          have : c ≠ lp := ne_of_none e hlp
          rw [upd_ne this]
          exact s4 _ _ _ (k3 c o e n)
    · rintro σ H' ⟨v5, v6, v7, rfl, sm, hd', hpe', R⟩
      refine ⟨hd', _, rfl, ?_⟩
      obtain ⟨ls, bs, hls, O, hL', nLb, hbs, hpd', hlb⟩ := R.ex
      rw [List.length_map, lps, List.take_length, ← Solid.loops_cuts] at hls
      have e1 : Sa63.layer l z = ls.map fun s => s.map (pt l z) := by
        unfold Sa63.layer
        rw [← hls]
        refine List.map_congr_left fun s hs => ?_
        exact Solid.points_map fun x hx => O.cuts x (List.mem_flatten.mpr ⟨s, hs, hx⟩)
      refine k _ L bs (same_upd sm hd0) (by rw [upd_ne (Ne.symm dL)]; exact hL') ?_ ?_
      · rw [e1]
        exact Paired.mapP hbs fun b' ps' z' => z'.keep (fun o e => by
          obtain ⟨qs, e', _⟩ := z'
          rw [upd_ne (ne_of e' hd' (fun z => nomatch z))]; exact e) fun b xs e => by rw [upd_ne (ne_of e hd' (fun z => nomatch z))]; exact e
      · rw [e1]
        refine ⟨?_, ?_, fun ps' hp' p hp => ?_⟩
        · have := Paired.length hbs
          rw [List.length_map, lps] at hlb
          omega
        · have e2 : (ls.map fun s => s.map (pt l z)).flatten = ls.flatten.map (pt l z) := by rw [List.map_flatten]
          rw [e2, List.length_map]
          refine Nat.le_trans (Solid.nodup_le O.nd fun x hx => ?_) hl
          obtain ⟨_, _, _, _, _, h⟩ := Solid.cut_tri (O.cuts x hx)
          exact h
        · obtain ⟨s', hs', rfl⟩ := List.mem_map.mp hp'
          obtain ⟨i, hi, rfl⟩ := List.mem_map.mp hp
          obtain ⟨⟨a1, a2, a3⟩, ⟨b1, b2, b3⟩, g1, g2⟩ := small_up hsm (O.cuts i (List.mem_flatten.mpr ⟨s', hs', hi⟩))
          exact ⟨along_between (by omega) (by omega) a1 b1, along_between (by omega) (by omega) a2 b2⟩
end
end Sol
end
section
set_option Elab.async false
set_option linter.all false
set_option maxRecDepth 100000
namespace L2
open PySem PySem.Spec PyProof.Rows
section
variable {X : Cx} {pins : List (Addr × Obj)} {σ : St} {H : Hp} {s : Shared} {h' : Heap}
/-- an object laid where nothing was -/
theorem Inv.laidN {a : Addr} {o : HO} {t' : Nat} (I : Inv X pins σ H s) (k : ∀ b u, s.heap.get? b = some u → h'.get? b = some u) (hn : s.heap.get? a = none) (new : ObjOk X.prog X.w (upd H a o) h' a o) :
    Inv X pins σ (upd H a o) { s with heap := h', toks := t' } := by
  have nH : H a = none := I.noneOf hn
  have off : ∀ {b : Addr} {u : HO}, H b = some u → b ≠ a := fun {b u} e z => by rw [z, nH] at e; cases e
  refine I.un ⟨fun b u q _ _ _ => k b u q, fun b u q _ _ _ => ⟨u.slots, k b u q⟩, fun b u q n _ => ?_, fun b u q _ => ⟨u, k b u q⟩, fun b xs q => ?_, fun b u xs q => ?_, fun b ps q => ⟨#[], ?_⟩⟩ fun b u e => ?_
  · rw [upd_ne (fun z => by rw [z, hn] at q; cases q)]; exact n
  · rw [upd_ne (off q)]; exact q
  · rw [upd_ne (off q)]; exact q
  · rw [upd_ne (off q), q]; simp
  · by_cases hb : b = a
    · rw [hb] at e ⊢
      rw [upd_same] at e
      cases e
      exact new
    · rw [upd_ne hb] at e
      refine (I.hok b u e).stay (fun c v _ q => k c v q) (fun c q => ?_) fun c xs q => ?_
      · rw [upd_ne (off q)]; exact q
      · rw [upd_ne (off q)]; exact q
end
section
variable {X : Cx}
/-- sorted(xs) of a list of ints -/
def rSortedA (K : PySem.W.Frag) : List V → Hp → VK → Prop := fun vs H Q => ∃ (a : Addr) (ns : List Int), vs = [V.ref a] ∧ SqL K H a (ns.map V.int) ∧
  ∀ (ns' : List Int) (p : Addr), ns'.Perm ns → ns'.Pairwise (· ≤ ·) → H p = none → Q (.ref p) (upd H p (.lst (ns'.map V.int)))
theorem cr_sortedA : CallR X (.builtin "sorted") (rSortedA X.K) := by
  intro pins s σ H vs us Q I r h
  obtain ⟨a, ns, rfl, hs, q⟩ := h
  obtain ⟨its, rv, hl, hz⟩ := I.list hs
  rw [Vals.ref1 r]
  have hi := rv.ints
  have hlen := rv.length
  refine PyProof.Rows.sorted_intsAny hl.isList hi (by rw [← hlen]; exact hz) fun out ns' h1 h2 h3 => ?_
  obtain ⟨ep, he'⟩ := PyProof.Rows.sortedAll_at s.heap its out
  have hlen : (ns'.map V.int).length ≤ sizeLine := by rw [List.length_map, h2.length_eq, ← List.length_map (f := V.int)]; exact hz
  exact ⟨.ref _, upd H (s.heap.objs.size + 1) (.lst (ns'.map V.int)), I.laid (t' := s.toks) (fun _ _ => PyProof.Rows.sortedAll_old) (Nat.le_succ _) ⟨hlen, out.toList, ep, vals_of_ints h1, he'⟩, rfl, q ns' _ h2 h3 (I.hok.fresh (Nat.le_succ _))⟩
/-- sorted(d) of a dict of int keys -/
def rSortedD : List V → Hp → VK → Prop := fun vs H Q => ∃ (d : Addr) (kvs : List (Key × V)) (ns : List Int), vs = [V.ref d] ∧ H d = some (.dK kvs) ∧ kvs.map (·.1) = ns.map Sum.inl ∧
  ∀ (ns' : List Int) (p : Addr), ns'.Perm ns → ns'.Pairwise (· ≤ ·) → H p = none → Q (.ref p) (upd H p (.lst (ns'.map V.int)))
theorem ints_of_items {kvs : List (Key × Value)} {ns : List Int} (hk : kvs.map (·.1) = ns.map Sum.inl) {acc : Array Value} (h : ItemsOf (fun i v => ∃ k x, kvs[i]? = some (k, x) ∧ keyIs k v = true) acc kvs.length) : IntsAre acc.toList ns := by
  have step : ∀ m, m ≤ ns.length → IntsAre (acc.toList.take m) (ns.take m) := by
    intro m
    induction m with
    | zero => intro _; exact .nil
    | succ m ih =>
      intro hm
      have hlen : kvs.length = ns.length := by
        have := congrArg List.length hk
        simpa using this
      have hlt : m < acc.size := by rw [h.1]; omega
      obtain ⟨k, x, e1, e2⟩ := h.2 m acc[m] (Array.getElem?_eq_getElem hlt)
      have e3 : (kvs.map (·.1))[m]? = some k := by rw [List.getElem?_map, e1]; rfl
      rw [hk, List.getElem?_map] at e3
      obtain ⟨n, e4, rfl⟩ := Option.map_eq_some_iff.mp e3
      rcases keyIs_shape e2 with ⟨i, t, e5, e6⟩ | ⟨y, t, e5, _⟩
      · cases e5
        rw [List.take_add_one, List.take_add_one, e4, Array.getElem?_toList, Array.getElem?_eq_getElem hlt, e6]
        exact ksk_snoc (ih (by omega))
      · cases e5
  have hlen : kvs.length = ns.length := by
    have := congrArg List.length hk
    simpa using this
  have := step ns.length (Nat.le_refl _)
  rw [List.take_length, List.take_of_length_le (by rw [Array.length_toList, h.1, hlen]; exact Nat.le_refl _)] at this
  exact this
theorem cr_sortedD (hc : X.calm = true) : CallR X (.builtin "sorted") rSortedD := by
  intro pins s σ H vs us Q I r h
  obtain ⟨d, kvs, ns, rfl, hd, hk, q⟩ := h
  rw [Vals.ref1 r]
  obtain ⟨z, lo, vs, rel, dd⟩ := dk_of I.hok hd
  obtain ⟨ep, hat⟩ := dd.dictAt
  have hlv : kvs.length = vs.length := Paired.length rel
  have hkv : vs.map (·.1) = ns.map Sum.inl := by
    rw [← hk]
    have gen : ∀ {a : List (Key × V)} {b : List (Key × Value)}, KV a b → b.map (·.1) = a.map (·.1) := by
      intro a b r
      unfold KV at r
      induction r with
      | nil => rfl
      | cons h _ ih => rw [List.map_cons, List.map_cons, ih, h.1]
    exact gen rel
  refine Calls.call_function_entry kind_sorted plain_sorted entry_sorted (args_sorted1 _) ?_
  unfold Builtin.«sorted»
  refine wpAny_bind (m := checkCount "sorted" 1 1 _) (wpAny_pure ?_)
  refine wpAny_bind (PySem.W.kdu_collect (A := X.A.in1) (PySem.W.kdl_dict (knd := mixKind X.prog X.w) (kvs := vs) (ep := ep) lo) (I.ok.hd hc) hat (by rw [← hlv]; exact z) fun h' tk acc hkp hacc => ?_)
  have hints : IntsAre acc.toList ns := ints_of_items hkv hacc
  have hal : acc.toList.length = kvs.length := by rw [Array.length_toList, hacc.1, hlv]
  refine wpAny_bind (wpAny_newList ?_ (by rw [hal]; exact z))
  have hoL : (h'.push (seqObj "list" acc.toList.toArray 0)).get? h'.objs.size = some (seqObj "list" acc.toList.toArray 0) := Heap.get?_push_size _ rfl
  show wpAny _ _ _ _ _ { s with heap := h'.push (seqObj "list" acc.toList.toArray 0), toks := tk }
  refine wpAny_bind (wpAny_holding (wpAny_call_entry slot_list_sort ⟨_, hoL, rfl⟩ entry_list_sort (list_sort_treeAny hoL hints (by rw [hal]; exact z) fun out ns' h1 h2 h3 => ⟨_, rfl, ?_⟩) (args_list_sort _)))
  refine wpAny_pure ⟨_, rfl, ?_⟩
  obtain ⟨ep', he'⟩ := PyProof.Rows.sortedHeap_at (vs := acc.toList) (out := out) hoL
  have hlen : (ns'.map V.int).length ≤ sizeLine := by
    rw [List.length_map, h2.length_eq]
    have : ns.length = kvs.length := by have := congrArg List.length hk; simpa using this.symm
    rw [this]; exact z
  have hnone : s.heap.get? h'.objs.size = none := by
    cases e : s.heap.get? h'.objs.size with
    | none => rfl
    | some o => exact absurd (Heap.lt_size (hkp _ _ e)) (Nat.lt_irrefl _)
  refine ⟨.ref h'.objs.size, upd H h'.objs.size (.lst (ns'.map V.int)), I.laidN (t' := tk) (fun b o e => ?_) hnone ⟨hlen, out.toList, ep', vals_of_ints h1, he'⟩, rfl, q ns' _ h2 h3 (I.noneOf hnone)⟩
  have e1 := hkp b o e
  rw [PyProof.Rows.sortedHeap_old (Nat.ne_of_lt (Heap.lt_size e1)) (by rw [Heap.size_push]; exact Nat.lt_succ_of_lt (Heap.lt_size e1)), Heap.get?_push_of_some _ e1]
/-- d.setdefault(k, v), the key an int or a text -/
def rSetdK : V → List V → Hp → VK → Prop := fun x xs H Q => ∃ (d : Addr) (kvs : List (Key × V)) (k : Key) (v : V), x = .ref d ∧ xs = [kV k, v] ∧ H d = some (.dK kvs) ∧ kvs.length < sizeLine ∧
  (∀ v', valV kvs k = some v' → Q v' H) ∧ (valV kvs k = none → Q v (upd H d (.dK (kvs ++ [(k, v)]))))
theorem mt_setdK : MtR X "dict.setdefault" rSetdK := by
  intro pins s σ H x xs v us Q I rx rs h
  obtain ⟨d, kvs, k, dv, rfl, rfl, hd, hl, q1, q2⟩ := h
  obtain rfl : v = Value.ref d := rx
  cases rs with
  | cons r1 rs =>
    cases rs with
    | cons r2 rs =>
      cases rs
      rename_i u1 u2
      obtain ⟨z, lo, vs, rel, dd⟩ := dk_of I.hok hd
      have hval := rel.val k
      refine call_meetsIn PySem.F.slot_dict_setdefault dd.typeIs PySem.F.entry_dict_setdefault (PySem.F.args_dict_setdefault_3 _ _ _) (kt_meets_setdefault (mixKind X.prog X.w) d (kV_is r1) lo u2)
        ⟨vs, dd, by rw [← rel.length]; exact z, fun w' hw => ?_, fun hn h' dd' sb => ?_⟩
      · rw [hw] at hval
        cases e : valV kvs k with
        | none => rw [e] at hval; exact hval.elim
        | some v' =>
          rw [e] at hval
          exact ⟨v', H, I.tok _, hval, q1 v' e⟩
      · have hv : valV kvs k = none := by
          cases e : valV kvs k with
          | none => rfl
          | some v' => rw [e, hn] at hval; exact hval.elim
        have ep : putK kvs k dv = kvs ++ [(k, dv)] := by
          unfold putK
          rw [if_neg]
          rw [valV_any, hv]; simp
        have rel' := rel.put k r2
        rw [ep] at rel'
        have he : ∃ q, h'.get? d = some q := let ⟨q, _, _, hq, _⟩ := dd'; ⟨q, hq⟩
        exact ⟨dv, _, d_write I (by rw [hd]; exact True.intro) sb he (dk_new (by rw [List.length_append]; exact hl) lo rel' dd'), r2, q2 hv⟩
end
end L2
end
section
set_option Elab.async false
set_option linter.all false
set_option maxRecDepth 100000
namespace L2
open PySem PySem.Spec PyProof.Rows
theorem refs_of : ∀ {as : List Addr} {us : List Value}, Vals (as.map V.ref) us → us = as.map Value.ref
  | [], us, h => by rw [List.map_nil] at h; cases h; rfl
  | a :: as, us, h => by
    rw [List.map_cons] at h
    cases h with
    | cons r t =>
      cases (show _ = Value.ref _ from r)
      rw [refs_of t, List.map_cons]
theorem vals_refs : ∀ (as : List Addr), Vals (as.map V.ref) (as.map Value.ref)
  | [] => .nil
  | a :: as => .cons rfl (vals_refs as)
def pairAt (H : Hp) (q : Addr) (p : Int × Int) : Prop := H q = some (.tup [.int p.1, .int p.2])
def pairOf (H : Hp) (b : Addr) : Int × Int := match H b with
  | some (.tup [.int x, .int y]) => (x, y)
  | _ => (0, 0)
theorem pairOf_at {H : Hp} {b : Addr} {p : Int × Int} (h : pairAt H b p) : pairOf H b = p := by
  unfold pairOf
  rw [h]
theorem paired_of {α β : Type} {R : α → β → Prop} {g : α → β} : ∀ {l : List α}, (∀ a ∈ l, R a (g a)) → Paired R l (l.map g)
  | [], _ => .nil
  | a :: l, h => .cons (h a (by simp)) (paired_of fun b hb => h b (List.mem_cons_of_mem _ hb))
theorem pairsAt_of {H : Hp} {as : List Addr} {ps : List (Int × Int)} (h : Paired (pairAt H) as ps) : ps = as.map (pairOf H) ∧ ∀ b ∈ as, pairAt H b (pairOf H b) := by
  induction h with
  | nil => exact ⟨rfl, fun b hb => nomatch hb⟩
  | cons r _ ih =>
    obtain ⟨i1, i2⟩ := ih
    have e := pairOf_at r
    refine ⟨by rw [List.map_cons, e, ← i1], fun b hb => ?_⟩
    rcases List.mem_cons.mp hb with rfl | hb
    · rw [e]; exact r
    · exact i2 b hb
def refOf : Value → Addr
  | .ref b => b
  | _ => 0
section
variable {X : Cx}
/-- sorted(xs) of a list of pairs of ints -/
def rSortedT (K : PySem.W.Frag) : List V → Hp → VK → Prop := fun vs H Q => ∃ (a : Addr) (as : List Addr) (ps : List (Int × Int)), vs = [V.ref a] ∧ SqL K H a (as.map V.ref) ∧ Paired (pairAt H) as ps ∧
  ∀ (as' : List Addr) (ps' : List (Int × Int)) (r : Addr), ps'.Perm ps → ps'.Pairwise (fun p q => p.1 ≤ q.1) → Paired (pairAt H) as' ps' → H r = none → Q (.ref r) (upd H r (.lst (as'.map V.ref)))
theorem cr_sortedT : CallR X (.builtin "sorted") (rSortedT X.K) := by
  intro pins s σ H vs us Q I r h
  obtain ⟨a, as, ps, rfl, hs, hp, q⟩ := h
  obtain ⟨its, rv, hl, hz⟩ := I.list hs
  rw [Vals.ref1 r]
  have hits := refs_of rv
  subst hits
  obtain ⟨hps, hat⟩ := pairsAt_of hp
  have tup : ∀ b p, pairAt H b p → ∃ o n t u, s.heap.get? b = some o ∧ o.cls = .type "tuple" ∧ o.data = .seq #[.int p.1 t, .int p.2 u] n := by
    intro b p e
    obtain ⟨_, its', rv', o, e1, oc, n, od⟩ := I.hok b _ e
    obtain ⟨t, u, rfl⟩ := Vals.int2 rv'
    exact ⟨o, n, t, u, e1, oc, od⟩
  have key : ∀ b p, pairAt H b p → G.tupKeyC s.heap (fun _ => false) (.ref b) = some [Sum.inl p.1, Sum.inl p.2] := by
    intro b p e
    obtain ⟨o, n, t, u, e1, oc, od⟩ := tup b p e
    unfold G.tupKeyC
    rw [if_pos (by unfold G.isTupObj; dsimp only; rw [e1]; dsimp only; rw [oc]; rfl)]
    unfold tupKey
    dsimp only
    rw [e1]
    dsimp only
    rw [od]
    rfl
  have tups : ∀ {l : List Addr}, (∀ b ∈ l, pairAt H b (pairOf H b)) → ∃ fs, TupsOf s.heap (fun _ => false) (l.map Value.ref) fs := by
    intro l
    induction l with
    | nil => intro _; exact ⟨[], .nil⟩
    | cons b l ih =>
      intro hb
      obtain ⟨fs, hf⟩ := ih fun c hc => hb c (List.mem_cons_of_mem _ hc)
      obtain ⟨o, n, t, u, e1, oc, od⟩ := tup b _ (hb b (by simp))
      exact ⟨_, .cons ⟨b, o, _, n, rfl, e1, oc, od, rfl, fun _ => ⟨_, _, rfl⟩, fun z => absurd z (by decide)⟩ hf⟩
  obtain ⟨fs, hf⟩ := tups hat
  have hlenV : (as.map Value.ref).length ≤ sizeLine := by rw [List.length_map]; rw [List.length_map] at hz; exact hz
  refine G.sorted_tups hl.isList hf (fun v hv => ?_) hlenV fun st' hperm hsort _ => ?_
  · obtain ⟨b, hb, rfl⟩ := List.mem_map.mp hv
    exact ⟨_, key b _ (hat b hb)⟩
  · -- what stands in the array
    have hpl : (arrOf st').toList.Perm ((as.map Value.ref).zip (as.map Value.ref)) := by
      have := hperm.toList
      rwa [pairsOf_toList] at this
    have hmem : ∀ e ∈ (arrOf st').toList, ∃ b ∈ as, e = (.ref b, .ref b) := by
      intro e he
      obtain ⟨e1, e2⟩ := mem_zip_self (hpl.mem_iff.mp he)
      obtain ⟨b, hb, e3⟩ := List.mem_map.mp e2
      refine ⟨b, hb, ?_⟩
      obtain ⟨x, y⟩ := e
      dsimp only at e1 e3
      rw [← e3] at e1 ⊢
      rw [e1]
    generalize harr : (arrOf st').toList = arr at hpl hmem
    have hout : ((arrOf st').map (·.2)).toList = (arr.map fun e => refOf e.2).map Value.ref := by
      rw [Array.toList_map, harr, List.map_map]
      refine List.map_congr_left fun e he => ?_
      obtain ⟨b, _, rfl⟩ := hmem e he
      rfl
    have hpa : (arr.map fun e => refOf e.2).Perm as := by
      refine (hpl.map _).trans (List.Perm.of_eq ?_)
      rw [List.zip_map', List.map_map]
      show as.map (fun b => refOf (Value.ref b)) = as
      exact List.map_id' as
    have hmemA : ∀ b ∈ (arr.map fun e => refOf e.2), pairAt H b (pairOf H b) := fun b hb => hat b (hpa.mem_iff.mp hb)
    obtain ⟨ep, he'⟩ := PyProof.Rows.sortedAll_at s.heap (as.map Value.ref) ((arrOf st').map (·.2))
    have hlen : ((arr.map fun e => refOf e.2).map V.ref).length ≤ sizeLine := by
      rw [List.length_map, hpa.length_eq]
      rw [List.length_map] at hlenV
      exact hlenV
    refine ⟨.ref _, upd H (s.heap.objs.size + 1) (.lst ((arr.map fun e => refOf e.2).map V.ref)), I.laid (t' := s.toks) (fun _ _ => PyProof.Rows.sortedAll_old) (Nat.le_succ _) ⟨hlen, (arr.map fun e => refOf e.2).map Value.ref, ep, vals_refs _, ?_⟩, rfl,
      q _ ((arr.map fun e => refOf e.2).map (pairOf H)) _ ?_ ?_ (paired_of hmemA) (I.hok.fresh (Nat.le_succ _))⟩
    · rw [he', ← hout]
    · rw [hps]
      exact hpa.map _
    · rw [List.pairwise_iff_getElem]
      intro i j hi hj hij
      rw [List.length_map, List.length_map] at hi hj
      have hsz : (pairsOf (as.map Value.ref)).size = arr.length := by
        rw [← harr, Array.length_toList]
        exact hperm.size_eq.symm
      have hk := hsort i j (Nat.le_of_lt hij) (by rw [hsz]; exact hj)
      have kk : ∀ (m : Nat) (hm : m < arr.length), KK (G.tupKindC s.heap fun _ => false) (arrOf st') m = [Sum.inl (pairOf H (refOf arr[m].2)).1, Sum.inl (pairOf H (refOf arr[m].2)).2] := by
        intro m hm
        obtain ⟨b, hb, e⟩ := hmem arr[m] (List.getElem_mem hm)
        have e2 : (arrOf st')[m]? = some (.ref b, .ref b) := by
          rw [← Array.getElem?_toList, harr, List.getElem?_eq_getElem hm, e]
        unfold KK
        rw [e2]
        show (G.tupKeyC s.heap (fun _ => false) (.ref b)).getD [] = _
        rw [key b _ (hat b hb), e]
        rfl
      rw [kk i hi, kk j hj] at hk
      have hk2 : lexLt itemOrd [Sum.inl (pairOf H (refOf arr[j].2)).1, Sum.inl (pairOf H (refOf arr[j].2)).2] [Sum.inl (pairOf H (refOf arr[i].2)).1, Sum.inl (pairOf H (refOf arr[i].2)).2] = false := hk
      have h1 := (lex_false.mp hk2).1
      have h2 := of_decide_eq_false (show decide ((pairOf H (refOf arr[j].2)).1 < (pairOf H (refOf arr[i].2)).1) = false from h1)
      simp only [List.getElem_map]
      omega
end
end L2
end
section
set_option linter.all false
namespace Solid
open Sa63
abbrev Pt := Int × Int
abbrev Side := Pt × Pt
def orient (s : Side) : Side := if s.1.2 ≤ s.2.2 then s else (s.2, s.1)
def prevs (ps : List Pt) : List Pt := ps.drop (ps.length - 1) ++ ps.take (ps.length - 1)
def rot (ps : List Pt) : List Side := (prevs ps).zip ps
def rsides (lp : List (List Pt)) : List Side := lp.flatMap fun ps => (rot ps).map orient
def cutX (s : Side) (y : Int) : Int := along s.1.1 s.2.1 (2 * y + 1 - 2 * s.1.2) (2 * (s.2.2 - s.1.2))
theorem orient_le (s : Side) : (orient s).1.2 ≤ (orient s).2.2 := by
  unfold orient
  by_cases h : s.1.2 ≤ s.2.2
  · rw [if_pos h]; exact h
  · rw [if_neg h]; dsimp only; omega
theorem crossed_low {s : Side} (y : Int) (h : s.1.2 ≤ s.2.2) : crossed y s = if s.1.2 ≤ y ∧ y < s.2.2 then some (cutX s y) else none := by
  unfold crossed
  by_cases h1 : s.1.2 ≤ y
  · by_cases h2 : s.2.2 ≤ y
    · have a : decide (2 * s.1.2 < 2 * y + 1) = true := decide_eq_true (by omega)
      have b : decide (2 * s.2.2 < 2 * y + 1) = true := decide_eq_true (by omega)
      simp only [a, b, if_true]
      rw [if_neg (by omega)]
    · have a : decide (2 * s.1.2 < 2 * y + 1) = true := decide_eq_true (by omega)
      have b : decide (2 * s.2.2 < 2 * y + 1) = false := decide_eq_false (by omega)
      simp only [a, b, if_true]
      rw [if_neg (by decide), if_pos (by omega)]
      rfl
  · have a : decide (2 * s.1.2 < 2 * y + 1) = false := decide_eq_false (by omega)
    have b : decide (2 * s.2.2 < 2 * y + 1) = false := decide_eq_false (by omega)
    simp only [a, b, if_true]
    rw [if_neg (by omega)]
theorem crossed_swap (y : Int) (p q : Pt) : crossed y (p, q) = crossed y (q, p) := by
  unfold crossed
  dsimp only
  rcases Bool.eq_false_or_eq_true (decide (2 * p.2 < 2 * y + 1)) with a | a <;> rcases Bool.eq_false_or_eq_true (decide (2 * q.2 < 2 * y + 1)) with b | b <;> rw [a, b] <;> simp
theorem crossed_orient (y : Int) (s : Side) : crossed y (orient s) = crossed y s := by
  unfold orient
  by_cases h : s.1.2 ≤ s.2.2
  · rw [if_pos h]
  · rw [if_neg h]; exact crossed_swap y s.2 s.1
theorem rot_perm (ps : List Pt) : (rot ps).Perm (sides ps) := by
  cases ps with
  | nil => exact List.Perm.refl _
  | cons a r =>
    have hne : a :: r ≠ [] := by simp
    have e0 : a :: r = (a :: r).dropLast ++ [(a :: r).getLast hne] := (List.dropLast_concat_getLast hne).symm
    have e1 : prevs (a :: r) = (a :: r).getLast hne :: (a :: r).dropLast := by
      unfold prevs
      have l1 : (a :: r).length - 1 = (a :: r).dropLast.length := by rw [List.length_dropLast]
      rw [l1]
      conv => lhs; rw [e0]
      rw [List.dropLast_concat, List.drop_left, List.take_left]
      rfl
    have e2 : rot (a :: r) = ((a :: r).getLast hne, a) :: (a :: r).dropLast.zip r := by
      unfold rot
      rw [e1, List.zip_cons_cons]
    have e3 : sides (a :: r) = (a :: r).dropLast.zip r ++ [((a :: r).getLast hne, a)] := by
      unfold sides
      show (a :: r).zip (r ++ [a]) = _
      conv => lhs; rw [e0]
      rw [List.zip_append (by rw [List.length_dropLast]; rfl)]
      rfl
    rw [e2, e3]
    exact (List.perm_append_singleton _ _).symm
theorem flat_perm : ∀ lp : List (List Pt), (lp.flatMap rot).Perm (lp.flatMap sides)
  | [] => List.Perm.refl _
  | ps :: lp => by
    rw [List.flatMap_cons, List.flatMap_cons]
    exact (rot_perm ps).append (flat_perm lp)
theorem rsides_eq (lp : List (List Pt)) : rsides lp = (lp.flatMap rot).map orient := by
  unfold rsides
  rw [List.map_flatMap]
theorem rsides_cross (lp : List (List Pt)) (y : Int) : ((rsides lp).filterMap (crossed y)).Perm ((lp.flatMap sides).filterMap (crossed y)) := by
  rw [rsides_eq, List.filterMap_map]
  have e : crossed y ∘ orient = crossed y := by funext s; exact crossed_orient y s
  rw [e]
  exact (flat_perm lp).filterMap _
theorem rsides_low {lp : List (List Pt)} {s : Side} (h : s ∈ rsides lp) : s.1.2 ≤ s.2.2 := by
  rw [rsides_eq] at h
  obtain ⟨t, _, rfl⟩ := List.mem_map.mp h
  exact orient_le t
theorem sorted_uniq : ∀ {a b : List Int}, a.Perm b → a.Pairwise (· ≤ ·) → b.Pairwise (· ≤ ·) → a = b
  | [], b, p, _, _ => by rw [List.nil_perm.mp p]
  | x :: a, b, p, ha, hb => by
    cases b with
    | nil => exact absurd p.symm (by simp)
    | cons y b =>
      have hx := List.pairwise_cons.mp ha
      have hy := List.pairwise_cons.mp hb
      have e : x = y := by
        have m1 : x ∈ y :: b := p.mem_iff.mp (by simp)
        have m2 : y ∈ x :: a := p.mem_iff.mpr (by simp)
        have l1 : y ≤ x := by
          rcases List.mem_cons.mp m1 with q | q
          · omega
          · exact hy.1 x q
        have l2 : x ≤ y := by
          rcases List.mem_cons.mp m2 with q | q
          · omega
          · exact hx.1 y q
        omega
      subst e
      rw [sorted_uniq (List.Perm.cons_inv p) hx.2 hy.2]
theorem crossings_is {lp : List (List Pt)} {y : Int} {xs : List Int} (p : xs.Perm ((rsides lp).filterMap (crossed y))) (o : xs.Pairwise (· ≤ ·)) : xs = crossings lp y := by
  refine sorted_uniq (p.trans ((rsides_cross lp y).trans (List.mergeSort_perm _ _).symm)) o ?_
  have := List.pairwise_mergeSort (le := fun (a b : Int) => decide (a ≤ b)) (fun a b c h1 h2 => decide_eq_true (by have := of_decide_eq_true h1; have := of_decide_eq_true h2; omega)) (fun a b => by
    rw [Bool.or_eq_true, decide_eq_true_iff, decide_eq_true_iff]; omega) ((lp.flatMap sides).filterMap (crossed y))
  exact this.imp fun h => of_decide_eq_true h
theorem crossings_len (lp : List (List Pt)) (y : Int) : (crossings lp y).length = ((rsides lp).filterMap (crossed y)).length := by
  unfold crossings
  rw [List.length_mergeSort, (rsides_cross lp y).length_eq]
def lb (first step y : Int) : Int := max 0 ((y - first + step - 1) / step)
theorem lb_iff {first step y : Int} (hs : 0 < step) (k : Nat) : (k : Int) < lb first step y ↔ first + step * k < y := by
  unfold lb
  have e : ((k : Int) + 1 ≤ (y - first + step - 1) / step) ↔ first + step * k < y := by
    rw [Int.le_ediv_iff_mul_le hs, Int.add_mul, Int.one_mul, Int.mul_comm]
    omega
  omega
theorem lb_nonneg (first step y : Int) : 0 ≤ lb first step y := by unfold lb; omega
theorem lb_mono {first step y y' : Int} (hs : 0 < step) (h : y ≤ y') : lb first step y ≤ lb first step y' := by
  by_cases c : lb first step y ≤ lb first step y'
  · exact c
  · have h0 := lb_nonneg first step y'
    have hk : ((lb first step y').toNat : Int) = lb first step y' := Int.toNat_of_nonneg h0
    have h1 : ((lb first step y').toNat : Int) < lb first step y := by omega
    rw [lb_iff hs] at h1
    have h2 : ¬ ((lb first step y').toNat : Int) < lb first step y' := by omega
    rw [lb_iff hs] at h2
    omega
def nLines (first step : Int) : Nat := ((1000000 - first) / step + 1).toNat
theorem lb_le {first step y : Int} (hs : 0 < step) (hf : first ≤ 1000000) (hy : y ≤ 1000000) : lb first step y ≤ nLines first step := by
  by_cases c : lb first step y ≤ nLines first step
  · exact c
  · have h1 : ((nLines first step : Nat) : Int) < lb first step y := by omega
    rw [lb_iff hs] at h1
    have h0 : 0 ≤ (1000000 - first) / step := Int.ediv_nonneg (by omega) (by omega)
    have e : ((nLines first step : Nat) : Int) = (1000000 - first) / step + 1 := Int.toNat_of_nonneg (by omega)
    rw [e] at h1
    have h2 := Int.lt_ediv_add_one_mul_self (1000000 - first) hs
    rw [Int.mul_comm] at h2
    omega
def covers (k : Nat) (sp : Int × Int) : Bool := decide (sp.1 ≤ (k : Int)) && decide ((k : Int) < sp.2)
def span (first step : Int) (s : Side) : Int × Int := (lb first step s.1.2, lb first step s.2.2)
def lineY (first step : Int) (k : Nat) : Int := first + step * k
theorem crossed_span {first step : Int} (hs : 0 < step) {s : Side} (h : s.1.2 ≤ s.2.2) (k : Nat) : crossed (lineY first step k) s = if covers k (span first step s) = true then some (cutX s (lineY first step k)) else none := by
  rw [crossed_low _ h]
  have e : (s.1.2 ≤ lineY first step k ∧ lineY first step k < s.2.2) ↔ covers k (span first step s) = true := by
    unfold covers span lineY
    dsimp only
    have h1 := lb_iff (first := first) (y := s.1.2) hs k
    have h2 := lb_iff (first := first) (y := s.2.2) hs k
    rw [Bool.and_eq_true, decide_eq_true_iff, decide_eq_true_iff, h2]
    omega
  by_cases c : covers k (span first step s) = true
  · rw [if_pos c, if_pos (e.mpr c)]
  · rw [if_neg c, if_neg (fun z => c (e.mp z))]
theorem cross_count {first step : Int} (hs : 0 < step) (k : Nat) : ∀ {rs : List Side}, (∀ s ∈ rs, s.1.2 ≤ s.2.2) → (rs.filterMap (crossed (lineY first step k))).length = ((rs.map (span first step)).filter (covers k)).length
  | [], _ => rfl
  | s :: rs, h => by
    have ih := cross_count (first := first) hs k (rs := rs) fun t ht => h t (List.mem_cons_of_mem _ ht)
    have e := crossed_span (first := first) hs (h s (by simp)) k
    rw [List.map_cons, List.filter_cons]
    by_cases c : covers k (span first step s) = true
    · rw [if_pos c] at e ⊢
      rw [List.filterMap_cons_some e, List.length_cons, List.length_cons, ih]
    · rw [if_neg c] at e ⊢
      rw [List.filterMap_cons_none e, ih]
theorem interval (a b : Int) (ha : 0 ≤ a) : ∀ N : Nat, (((List.range N).filter fun k => covers k (a, b)).length : Int) = max 0 (min b N - a)
  | 0 => by simp; omega
  | N + 1 => by
    have ih := interval a b ha N
    rw [List.range_succ, List.filter_append, List.length_append, List.filter_cons, List.filter_nil]
    by_cases c : covers N (a, b) = true
    · have c' := c
      unfold covers at c'
      rw [Bool.and_eq_true, decide_eq_true_iff, decide_eq_true_iff] at c'
      rw [if_pos c]
      simp only [List.length_cons, List.length_nil]
      dsimp only at c'
      omega
    · have c' := c
      unfold covers at c'
      rw [Bool.and_eq_true, decide_eq_true_iff, decide_eq_true_iff] at c'
      rw [if_neg c]
      simp only [List.length_nil]
      dsimp only at c'
      omega
theorem filter_or {α : Type} (p q : α → Bool) : ∀ l : List α, (l.filter fun x => p x || q x).length = (l.filter p).length + (l.filter fun x => q x && !p x).length
  | [] => rfl
  | x :: l => by
    have ih := filter_or p q l
    rw [List.filter_cons, List.filter_cons, List.filter_cons]
    cases p x <;> cases q x <;> simp <;> omega
def reach (A : List (Int × Int)) : Int := A.foldl (fun r sp => max r sp.2) 0
theorem reach_snoc (A : List (Int × Int)) (sp : Int × Int) : reach (A ++ [sp]) = max (reach A) sp.2 := by unfold reach; rw [List.foldl_append]; rfl
theorem reach_facts (A : List (Int × Int)) : 0 ≤ reach A ∧ (∀ sp ∈ A, sp.2 ≤ reach A) ∧ (reach A = 0 ∨ ∃ sp ∈ A, sp.2 = reach A) := by
  have gen : ∀ (A : List (Int × Int)) (r : Int), r ≤ A.foldl (fun r sp => max r sp.2) r ∧ (∀ sp ∈ A, sp.2 ≤ A.foldl (fun r sp => max r sp.2) r) ∧ (A.foldl (fun r sp => max r sp.2) r = r ∨ ∃ sp ∈ A, sp.2 = A.foldl (fun r sp => max r sp.2) r) := by
    intro A
    induction A with
    | nil => intro r; exact ⟨Int.le_refl _, fun _ h => (nomatch h), .inl rfl⟩
    | cons x A ih =>
      intro r
      obtain ⟨h1, h2, h3⟩ := ih (max r x.2)
      rw [List.foldl_cons]
      refine ⟨by omega, fun sp hsp => ?_, ?_⟩
      · rcases List.mem_cons.mp hsp with rfl | hsp
        · omega
        · exact h2 sp hsp
      · rcases h3 with h3 | ⟨sp, hsp, e⟩
        · by_cases c : x.2 ≤ r
          · left; omega
          · right; exact ⟨x, by simp, by omega⟩
        · right; exact ⟨sp, List.mem_cons_of_mem _ hsp, e⟩
  exact gen A 0
def union (N : Nat) (A : List (Int × Int)) : Nat := ((List.range N).filter fun k => A.any (covers k)).length
theorem union_snoc {N : Nat} {A : List (Int × Int)} {sp : Int × Int} (h0 : 0 ≤ sp.1) (hN : sp.2 ≤ N) (hA : ∀ q ∈ A, q.1 ≤ sp.1) : (union N (A ++ [sp]) : Int) = union N A + max 0 (sp.2 - max sp.1 (reach A)) := by
  obtain ⟨r0, r1, r2⟩ := reach_facts A
  unfold union
  have e1 : (fun k => (A ++ [sp]).any (covers k)) = fun k => A.any (covers k) || covers k sp := by
    funext k
    rw [List.any_append]
    simp
  rw [e1, filter_or]
  have e2 : ∀ k : Nat, (covers k sp && !A.any (covers k)) = covers k (max sp.1 (reach A), sp.2) := by
    intro k
    rw [Bool.eq_iff_iff, Bool.and_eq_true, Bool.not_eq_true']
    unfold covers
    dsimp only
    rw [Bool.and_eq_true, Bool.and_eq_true, decide_eq_true_iff, decide_eq_true_iff, decide_eq_true_iff]
    constructor
    · rintro ⟨⟨c1, c2⟩, c3⟩
      refine ⟨?_, c2⟩
      by_cases c : reach A ≤ k
      · omega
      · exfalso
        rcases r2 with r2 | ⟨q, hq, e⟩
        · omega
        · rw [List.any_eq_false] at c3
          refine c3 q hq ?_
          have := hA q hq
          rw [Bool.and_eq_true, decide_eq_true_iff, decide_eq_true_iff]
          omega
    · rintro ⟨c1, c2⟩
      refine ⟨⟨by omega, c2⟩, ?_⟩
      rw [List.any_eq_false]
      intro q hq
      have := r1 q hq
      rw [Bool.and_eq_true, decide_eq_true_iff, decide_eq_true_iff]
      omega
  simp only [e2]
  have := interval (max sp.1 (reach A)) sp.2 (by omega) N
  rw [Int.natCast_add, this]
  omega
theorem union_perm {N : Nat} {A B : List (Int × Int)} (p : A.Perm B) : union N A = union N B := by
  unfold union
  congr 2
  funext k
  rw [Bool.eq_iff_iff, List.any_eq_true, List.any_eq_true]
  constructor
  · rintro ⟨x, h1, h2⟩; exact ⟨x, p.mem_iff.mp h1, h2⟩
  · rintro ⟨x, h1, h2⟩; exact ⟨x, p.mem_iff.mpr h1, h2⟩
theorem sum_ind (N : Nat) (p : Nat → Bool) (f : Nat → Nat) : (((List.range N).map fun k => (if p k = true then 1 else 0) + f k).sum : Nat) = ((List.range N).filter p).length + ((List.range N).map f).sum := by
  induction N with
  | zero => rfl
  | succ N ih =>
    rw [List.range_succ, List.map_append, List.map_append, List.filter_append, List.sum_append, List.sum_append, List.length_append, ih, List.filter_cons, List.filter_nil]
    by_cases c : p N = true
    · simp [c]; omega
    · simp [c]; omega
theorem sum_spans {N : Nat} : ∀ {sps : List (Int × Int)}, (∀ sp ∈ sps, 0 ≤ sp.1 ∧ sp.1 ≤ sp.2 ∧ sp.2 ≤ N) → ((((List.range N).map fun k => (sps.filter (covers k)).length).sum : Nat) : Int) = (sps.map fun sp => sp.2 - sp.1).sum
  | [], _ => by
    have : ∀ N : Nat, ((List.range N).map fun _ => 0).sum = 0 := by
      intro N
      induction N with
      | zero => rfl
      | succ N ih => rw [List.range_succ, List.map_append, List.sum_append, ih]; rfl
    simp [this]
  | sp :: sps, h => by
    have ih := sum_spans (N := N) (sps := sps) fun q hq => h q (List.mem_cons_of_mem _ hq)
    obtain ⟨h0, h1, h2⟩ := h sp (by simp)
    have e : (fun k => ((sp :: sps).filter (covers k)).length) = fun k => (if covers k sp = true then 1 else 0) + (sps.filter (covers k)).length := by
      funext k
      rw [List.filter_cons]
      by_cases c : covers k sp = true
      · rw [if_pos c, if_pos c, List.length_cons]; omega
      · rw [if_neg c, if_neg c]; omega
    rw [e, sum_ind, List.map_cons, List.sum_cons, Int.natCast_add, ih]
    have := interval sp.1 sp.2 h0 N
    have e2 : (fun k => covers k sp) = fun k => covers k (sp.1, sp.2) := rfl
    show (((List.range N).filter fun k => covers k (sp.1, sp.2)).length : Int) + _ = _
    rw [this]
    omega
def yNums (lp : List (List Pt)) (y : Int) : List Int := y :: ((crossings lp y).length / 2 : Nat) :: crossings lp y
def hit (lp : List (List Pt)) (first step : Int) (k : Nat) : Bool := crossings lp (lineY first step k) != []
def hits (lp : List (List Pt)) (first step : Int) : List Nat := (List.range (nLines first step)).filter (hit lp first step)
def fillNums (lp : List (List Pt)) (first step : Int) : List Int := (fill lp first step).flatMap fun x => x.1 :: (x.2.length / 2 : Nat) :: x.2
theorem fill_nums (lp : List (List Pt)) (first step : Int) : fillNums lp first step = ((hits lp first step).map (lineY first step)).flatMap (yNums lp) := by
  unfold fillNums fill hits
  rw [List.filter_map, List.flatMap_map, List.flatMap_map]
  rfl
theorem hit_any {lp : List (List Pt)} {first step : Int} (hs : 0 < step) (k : Nat) : hit lp first step k = ((rsides lp).map (span first step)).any (covers k) := by
  have e := crossings_len lp (lineY first step k)
  rw [cross_count hs k fun s h => rsides_low h] at e
  unfold hit
  rw [Bool.eq_iff_iff, bne_iff_ne, List.any_eq_true]
  constructor
  · intro h
    have h1 : 0 < (((rsides lp).map (span first step)).filter (covers k)).length := by
      rw [← e]
      exact List.length_pos_iff.mpr h
    obtain ⟨x, hx⟩ := List.exists_mem_of_length_pos h1
    obtain ⟨m1, m2⟩ := List.mem_filter.mp hx
    exact ⟨x, m1, m2⟩
  · rintro ⟨x, m1, m2⟩ h
    have h1 : 0 < (((rsides lp).map (span first step)).filter (covers k)).length := List.length_pos_of_mem (List.mem_filter.mpr ⟨m1, m2⟩)
    rw [← e, h] at h1
    exact absurd h1 (by decide)
theorem flat_count {α : Type} (p : Nat → Bool) (f : Nat → List α) (c : Nat → Nat) (h1 : ∀ k, p k = true → (f k).length = 2 + c k) (h2 : ∀ k, p k = false → c k = 0) : ∀ N : Nat, (((List.range N).filter p).flatMap f).length = 2 * ((List.range N).filter p).length + ((List.range N).map c).sum
  | 0 => rfl
  | N + 1 => by
    have ih := flat_count p f c h1 h2 N
    rw [List.range_succ, List.filter_append, List.flatMap_append, List.length_append, ih, List.map_append, List.sum_append, List.length_append, List.filter_cons, List.filter_nil]
    cases q : p N with
    | true =>
      have := h1 N q
      simp
      omega
    | false =>
      have := h2 N q
      simp
      omega
/-- points that are no farther than the farthest -/
def NearY (lp : List (List Pt)) : Prop := ∀ ps ∈ lp, ∀ p ∈ ps, p.2 ≤ 1000000
theorem mem_prevs {ps : List Pt} {p : Pt} (h : p ∈ prevs ps) : p ∈ ps := by
  unfold prevs at h
  rcases List.mem_append.mp h with h | h
  · exact List.mem_of_mem_drop h
  · exact List.mem_of_mem_take h
theorem rsides_mem {lp : List (List Pt)} {s : Side} (h : s ∈ rsides lp) : ∃ ps ∈ lp, s.1 ∈ ps ∧ s.2 ∈ ps := by
  unfold rsides at h
  obtain ⟨ps, hps, h⟩ := List.mem_flatMap.mp h
  obtain ⟨t, ht, rfl⟩ := List.mem_map.mp h
  refine ⟨ps, hps, ?_⟩
  obtain ⟨x, y⟩ := t
  have h1 : x ∈ ps := mem_prevs (List.of_mem_zip ht).1
  have h2 : y ∈ ps := (List.of_mem_zip ht).2
  unfold orient
  by_cases c : x.2 ≤ y.2
  · rw [if_pos c]; exact ⟨h1, h2⟩
  · rw [if_neg c]; exact ⟨h2, h1⟩
theorem spans_ok {lp : List (List Pt)} {first step : Int} (hs : 0 < step) (hf : first ≤ 1000000) (hn : NearY lp) : ∀ sp ∈ (rsides lp).map (span first step), 0 ≤ sp.1 ∧ sp.1 ≤ sp.2 ∧ sp.2 ≤ (nLines first step : Nat) := by
  intro sp h
  obtain ⟨s, hm, rfl⟩ := List.mem_map.mp h
  obtain ⟨ps, hps, _, m2⟩ := rsides_mem hm
  exact ⟨lb_nonneg _ _ _, lb_mono hs (rsides_low hm), lb_le hs hf (hn ps hps _ m2)⟩
theorem hits_union {lp : List (List Pt)} {first step : Int} (hs : 0 < step) : (hits lp first step).length = union (nLines first step) ((rsides lp).map (span first step)) := by
  unfold hits union
  congr 2
  funext k
  exact hit_any hs k
theorem fill_len {lp : List (List Pt)} {first step : Int} (hs : 0 < step) (hf : first ≤ 1000000) (hn : NearY lp) :
    ((fillNums lp first step).length : Int) = 2 * (union (nLines first step) ((rsides lp).map (span first step)) : Nat) + (((rsides lp).map (span first step)).map fun sp => sp.2 - sp.1).sum := by
  rw [fill_nums, List.flatMap_map]
  have e := flat_count (hit lp first step) (fun k => yNums lp (lineY first step k)) (fun k => (((rsides lp).map (span first step)).filter (covers k)).length) (fun k _ => by
    unfold yNums
    rw [List.length_cons, List.length_cons, crossings_len, cross_count hs k fun s h => rsides_low h]
    omega) (fun k h => by
    rw [hit_any hs, List.any_eq_false] at h
    rw [List.length_eq_zero_iff, List.filter_eq_nil_iff]
    exact h) (nLines first step)
  have e' : (((hits lp first step).flatMap fun a => yNums lp (lineY first step a)).length : Int) = (2 * (hits lp first step).length + ((List.range (nLines first step)).map fun k => (((rsides lp).map (span first step)).filter (covers k)).length).sum : Nat) := by
    exact congrArg Int.ofNat e
  rw [e', Int.natCast_add, sum_spans (spans_ok hs hf hn), hits_union hs]
  omega
theorem strict_eq : ∀ {a b : List Int}, a.Pairwise (· < ·) → b.Pairwise (· < ·) → (∀ x, x ∈ a ↔ x ∈ b) → a = b
  | [], [], _, _, _ => rfl
  | [], y :: b, _, _, h => absurd ((h y).mpr (by simp)) (by simp)
  | x :: a, [], _, _, h => absurd ((h x).mp (by simp)) (by simp)
  | x :: a, y :: b, ha, hb, h => by
    have hx := List.pairwise_cons.mp ha
    have hy := List.pairwise_cons.mp hb
    have e : x = y := by
      have m1 := (h x).mp (by simp)
      have m2 := (h y).mpr (by simp)
      rcases List.mem_cons.mp m1 with q | q
      · exact q
      · rcases List.mem_cons.mp m2 with q2 | q2
        · exact q2.symm
        · have := hy.1 x q
          have := hx.1 y q2
          omega
    subst e
    rw [strict_eq hx.2 hy.2 fun z => ?_]
    constructor
    · intro hz
      rcases List.mem_cons.mp ((h z).mp (List.mem_cons_of_mem _ hz)) with q | q
      · have := hx.1 z hz
        omega
      · exact q
    · intro hz
      rcases List.mem_cons.mp ((h z).mpr (List.mem_cons_of_mem _ hz)) with q | q
      · have := hy.1 z hz
        omega
      · exact q
theorem lineY_lt {first step : Int} (hs : 0 < step) {i j : Nat} (h : i < j) : lineY first step i < lineY first step j := by
  unfold lineY
  have : step * (i : Int) < step * (j : Int) := Int.mul_lt_mul_of_pos_left (by omega) hs
  omega
theorem lineY_inj {first step : Int} (hs : 0 < step) {i j : Nat} (h : lineY first step i = lineY first step j) : i = j := by
  rcases Nat.lt_trichotomy i j with c | c | c
  · have := lineY_lt (first := first) hs c; omega
  · exact c
  · have := lineY_lt (first := first) hs c; omega
theorem hits_sorted (lp : List (List Pt)) {first step : Int} (hs : 0 < step) : ((hits lp first step).map (lineY first step)).Pairwise (· < ·) := by
  rw [List.pairwise_map]
  unfold hits
  refine List.Pairwise.filter _ ?_
  refine List.Pairwise.imp ?_ List.pairwise_lt_range
  intro i j h
  exact lineY_lt hs h
/-- the lines that are crossed, rising: they are the lines of the specification -/
theorem keys_eq {lp : List (List Pt)} {first step : Int} (hs : 0 < step) (hf : first ≤ 1000000) (hn : NearY lp) {ys : List Int} (nd : ys.Nodup) (o : ys.Pairwise (· ≤ ·))
    (hm : ∀ y, y ∈ ys ↔ ∃ k : Nat, y = lineY first step k ∧ (rsides lp).filterMap (crossed y) ≠ []) : ys = (hits lp first step).map (lineY first step) := by
  refine strict_eq ?_ (hits_sorted lp hs) fun y => ?_
  · have := o.and nd
    exact this.imp fun h => by
      obtain ⟨h1, h2⟩ := h
      omega
  · rw [hm, List.mem_map]
    unfold hits
    constructor
    · rintro ⟨k, rfl, h⟩
      refine ⟨k, List.mem_filter.mpr ⟨List.mem_range.mpr ?_, ?_⟩, rfl⟩
      · have h1 : 0 < ((rsides lp).filterMap (crossed (lineY first step k))).length := List.length_pos_iff.mpr h
        rw [cross_count hs k fun s h => rsides_low h] at h1
        obtain ⟨sp, hx⟩ := List.exists_mem_of_length_pos h1
        obtain ⟨m1, m2⟩ := List.mem_filter.mp hx
        have := (spans_ok hs hf hn sp m1).2.2
        unfold covers at m2
        rw [Bool.and_eq_true, decide_eq_true_iff, decide_eq_true_iff] at m2
        omega
      · unfold hit
        rw [bne_iff_ne]
        intro q
        have := crossings_len lp (lineY first step k)
        rw [q] at this
        exact h (List.length_eq_zero_iff.mp this.symm)
    · rintro ⟨k, h1, rfl⟩
      refine ⟨k, rfl, fun q => ?_⟩
      have h2 := (List.mem_filter.mp h1).2
      unfold hit at h2
      rw [bne_iff_ne] at h2
      have := crossings_len lp (lineY first step k)
      rw [q] at this
      exact h2 (List.length_eq_zero_iff.mp this)
end Solid
end
section
set_option Elab.async false
set_option linter.all false
set_option maxRecDepth 100000
set_option maxHeartbeats 4000000
namespace Sol
open PySem PySem.Spec PyProof.Rows L2
open Sa63 (Tri Corner Edge)
open Solid (Side orient prevs rot rsides)
def SideAt (H : Hp) (q : Addr) (s : Side) : Prop := ∃ p1 p2, H q = some (.tup [.ref p1, .ref p2]) ∧ PtAt H p1 s.1 ∧ PtAt H p2 s.2
theorem SideAt.tups {H H' : Hp} {q : Addr} {s : Side} (h : SideAt H q s) (k : ∀ b xs, H b = some (.tup xs) → H' b = some (.tup xs)) : SideAt H' q s := by
  obtain ⟨p1, p2, h0, h1, h2⟩ := h
  exact ⟨p1, p2, k _ _ h0, k _ _ h1, k _ _ h2⟩
theorem SideAt.same {H H' : Hp} {q : Addr} {s : Side} (h : SideAt H q s) (k : Same H H') : SideAt H' q s := h.tups fun b xs e => k _ _ e
def spOtherP : Sp := fun vs H Q _ => ∃ (a : Addr) (x y : V), vs = [.ref a] ∧ H a = some (.tup [x, y]) ∧ ∀ p, H p = none → Q (.ref p) (upd H p (.tup [y, x]))
def spSides (K : PySem.W.Frag) : Sp := fun vs H Q _ => ∃ (a : Addr) (bs : List Addr) (lp : List (List (Int × Int))), vs = [.ref a] ∧ SqL K H a (bs.map V.ref) ∧ Paired (LoopAt H) bs lp ∧ lp.flatten.length ≤ 20000 ∧
  ∀ (H' : Hp) (p : Addr) (qs : List Addr), Same H H' → H' p = some (.lst (qs.map V.ref)) → Paired (SideAt H') qs (rsides lp) → Q (.ref p) H'
theorem rot_len (ps : List (Int × Int)) : (rot ps).length = ps.length := by
  unfold Solid.rot Solid.prevs
  rw [List.length_zip, List.length_append, List.length_drop, List.length_take]
  omega
theorem rsides_len : ∀ lp : List (List (Int × Int)), (rsides lp).length = lp.flatten.length
  | [] => rfl
  | ps :: lp => by
    have ih := rsides_len lp
    unfold Solid.rsides at ih ⊢
    rw [List.flatMap_cons, List.length_append, ih, List.length_map, rot_len, List.flatten_cons, List.length_append]
theorem prev_at {R : Addr → Int × Int → Prop} {ws : List Addr} {ps : List (Int × Int)} (h : Paired R ws ps) {j : Nat} (hj : j < ps.length) : ∃ c p, atI (ws.map V.ref) ((j : Int) - 1) = some (.ref c) ∧ (prevs ps)[j]? = some p ∧ R c p := by
  have lw : ws.length = ps.length := Paired.length h
  obtain ⟨m, hm, e1, e2⟩ : ∃ m, m < ps.length ∧ ixN (ws.map V.ref).length ((j : Int) - 1) = some m ∧ (prevs ps)[j]? = ps[m]? := by
    unfold Solid.prevs ixN
    rw [List.length_map, lw]
    cases j with
    | zero =>
      refine ⟨ps.length - 1, by omega, ?_, ?_⟩
      · rw [if_neg (by omega), if_pos (by omega)]
        congr 1
        omega
      · rw [List.getElem?_append_left (by rw [List.length_drop]; omega), List.getElem?_drop]
        rfl
    | succ j =>
      refine ⟨j, by omega, ?_, ?_⟩
      · rw [if_pos (by omega), if_pos (by omega)]
        congr 1
        omega
      · rw [List.getElem?_append_right (by rw [List.length_drop]; omega), List.length_drop, List.getElem?_take_of_lt (by omega)]
        congr 1
        omega
  obtain ⟨c, hc⟩ : ∃ c, ws[m]? = some c := ⟨_, List.getElem?_eq_getElem (by omega)⟩
  obtain ⟨p, hp, r⟩ := paired_at h hc
  refine ⟨c, p, ?_, e2.trans hp, r⟩
  unfold atI
  rw [e1]
  show (ws.map V.ref)[m]? = _
  rw [List.getElem?_map, hc]
  rfl
section
variable {P : Program} {w : World} {K : PySem.W.Frag} {mg : Str → Option Value} {base : Heap}
theorem ok_otherP {f C : Addr} {fd : FuncData} (F : Fun K "other_way" "other_way" sOther f fd) (T : Txt K mg C) : FnOk P w K mg base CX0 1 f fd ["edge"] spOtherP := by
  refine F.ok scOther (fun vs H Q E h => ?_) (fun cdv A outer s H vs Q E hr h => ?_)
  · obtain ⟨a, x, y, rfl, _⟩ := h
    rfl
  · obtain ⟨a, x, y, rfl, h0, k⟩ := h
    refine ⟨_, pss_one (ps_ret (pe_tup (pa_cons (pe_ix ix_tup (pv 0) pe_int (fun _ _ => rfl)) (pa_cons (pe_ix ix_tup (pv 0) pe_int (fun _ _ => rfl)) pa_nil)))), ?_⟩
    have i0 : atI [x, y] 0 = some x := rfl
    have i1 : atI [x, y] 1 = some y := rfl
    exact ⟨_, rfl, a, _, _, _, rfl, rfl, SqT.of h0, i1, _, rfl, a, _, _, _, rfl, rfl, SqT.of h0, i0, (by show 2 ≤ sizeLine; decide), fun a1 n1 => k a1 n1⟩
theorem scSides : FnScope ["loops", "sides", "loop", "number", "point", "side"] ["loops"] (defScope sSides) := ⟨rfl, rfl, rfl, by decide +kernel, rfl, by decide +kernel, by decide +kernel⟩
theorem ok_sides {f C : Addr} {fd : FuncData} (F : Fun K "rising_sides" "rising_sides" sSides f fd) (T : Txt K mg C) (M : TxtM mg) (DO : Def P w K mg base CX0 1 "other_way" ["edge"] spOtherP) : FnOk P w K mg base CX0 2 f fd ["loops"] (spSides K) := by
  refine F.ok scSides (fun vs H Q E h => ?_) (fun cdv A outer s H vs Q E hr h => ?_)
  · obtain ⟨a, bs, lp, rfl, _⟩ := h
    rfl
  · obtain ⟨a, bs, lp, rfl, hS, hB, hl, k⟩ := h
    refine ⟨_, pss_cons (ps_set (i := 1) scSides.nd rfl (Or.inl rfl) (pe_lst pa_nil))
      (pss_cons (ps_for PassesOwn.never rfl (pi_list (pv 0)) (pg_name (i := 2) scSides.nd rfl (Or.inl rfl))
        (pss_one (ps_for PassesOwn.never rfl (pi_enum rfl T.enum (pa_cons (pv 2) pa_nil)) (pg_tup rfl (pgs_cons (pg_name (i := 3) scSides.nd rfl (Or.inl rfl)) (pgs_cons (pg_name (i := 4) scSides.nd rfl (Or.inl rfl)) pgs_nil)))
          (pss_cons (ps_set (i := 5) scSides.nd rfl (Or.inl rfl) (pe_tup (pa_cons (pe_ix ix_list (pv 2) (pe_op op_sub (pv 3) pe_int) (fun _ _ => rfl)) (pa_cons (pv 4) pa_nil))))
          (pss_one (ps_expr (pe_bm PySem.F.plainAttrs_list PySem.F.slot_list_append PySem.F.type_list_append mt_append (pv 1) (pa_cons
            (pe_ifExp (pt_cmpR op_le (pe_ix ix_tup (pe_ix ix_tup (pv 5) pe_int (fun _ _ => rfl)) (pe_con M.y) (fun _ _ => rfl)) (pe_ix ix_tup (pe_ix ix_tup (pv 5) pe_int (fun _ _ => rfl)) (pe_con M.y) (fun _ _ => rfl)) (nomark _))
              (pv 5) (pe_def DO hr pass0 (pa_cons (pv 5) pa_nil))) pa_nil))))))))
      (pss_one (ps_ret (pv 1)))), ?_⟩
    refine ⟨Nat.zero_le _, fun S hS0 => ?_⟩
    have lb : bs.length = lp.length := Paired.length hB
    refine ⟨_, rfl, a, rfl, ⟨_, (same_new hS0).seq hS⟩, for_list (K := K) (a := a) (xs := bs.map V.ref) (fun i σ H' => ∃ v2 v3 v4 v5, σ = [some (.ref a), some (.ref S), v2, v3, v4, v5] ∧ Same H H' ∧ ∃ qs : List Addr, H' S = some (.lst (qs.map V.ref)) ∧ Paired (SideAt H') qs (rsides (lp.take i)))
      ⟨none, none, none, none, rfl, same_new hS0, [], upd_same, .nil⟩ (fun i σ H' _ ⟨_, _, _, _, _, sm, _⟩ => sm.seq hS) ?_ ?_⟩
    · rintro i y σ H' hi ⟨v2, v3, v4, v5, rfl, sm, qs0, hq0, hqs0⟩
      obtain ⟨b, hb, rfl⟩ := map_at hi
      obtain ⟨ps, hps, ws, hbl, hws⟩ := paired_at hB hb
      have lw : ws.length = ps.length := Paired.length hws
      have f1 : rsides (lp.take (i + 1)) = rsides (lp.take i) ++ (rot ps).map orient := by
        rw [take_more hps]
        unfold Solid.rsides
        rw [List.flatMap_append]
        simp
      have f2 : (rsides (lp.take (i + 1))).length ≤ 20000 := by
        rw [rsides_len]
        have : lp.flatten = (lp.take (i + 1)).flatten ++ (lp.drop (i + 1)).flatten := by rw [← List.flatten_append, List.take_append_drop]
        rw [this, List.length_append] at hl
        omega
      rw [f1, List.length_append, List.length_map, rot_len] at f2
      refine ⟨_, rfl, b, _, rfl, SqL.of (sm _ _ hbl), for_enum (K := K) (a := b) (xs := ws.map V.ref) (fun j σ H2 => ∃ v3 v4 v5, σ = [some (.ref a), some (.ref S), some (.ref b), v3, v4, v5] ∧ Same H H2 ∧ ∃ qs : List Addr, H2 S = some (.lst (qs.map V.ref)) ∧ Paired (SideAt H2) qs (rsides (lp.take i) ++ ((rot ps).take j).map orient))
        ⟨v3, v4, v5, rfl, sm, qs0, hq0, by rw [List.take_zero, List.map_nil, List.append_nil]; exact hqs0⟩ (fun j σ H2 _ ⟨_, _, _, _, sm2, _⟩ => SqL.of (sm2 _ _ hbl)) ?_ ?_⟩
      · rintro j y Tu σ H2 hj hTu ⟨v3', v4', v5', rfl, sm2, qs, hq2, hqs⟩
        obtain ⟨c, hc, rfl⟩ := map_at hj
        obtain ⟨x, hx, hcx⟩ := paired_at hws hc
        have hjl : j < ps.length := (List.getElem?_eq_some_iff.mp hx).1
        obtain ⟨cp, p, hat, hpv, hcp⟩ := prev_at hws hjl
        have hrot : (rot ps)[j]? = some (p, x) := by
          unfold Solid.rot
          rw [List.getElem?_zip_eq_some]
          exact ⟨hpv, hx⟩
        refine ⟨Tu, _, rfl, SqT.of upd_same, rfl, _, _, rfl, _, _, rfl, rfl, ?_⟩
        have sT : ∀ o : HO, Same H2 (upd H2 Tu o) := fun o => same_new hTu
        refine ⟨_, rfl, _, rfl, _, _, rfl, rfl, b, _, _, _, rfl, rfl, SqL.of (sT _ _ _ (sm2 _ _ hbl)), hat, _, rfl, (by show 2 ≤ sizeLine; decide), fun sd hsd => ?_⟩
        have sA : Same H2 (upd (upd H2 Tu (.tup [.int (j : Nat), .ref c])) sd (.tup [.ref cp, .ref c])) := (sT _).trans (same_new hsd)
        have hsd1 : upd (upd H2 Tu (.tup [.int (j : Nat), .ref c])) sd (.tup [.ref cp, .ref c]) sd = some (.tup [.ref cp, .ref c]) := upd_same
        generalize upd (upd H2 Tu (.tup [.int (j : Nat), .ref c])) sd (.tup [.ref cp, .ref c]) = H3 at sA hsd1 ⊢
        have hcp3 : PtAt H3 cp p := sA _ _ (sm2 _ _ hcp)
        have hcx3 : PtAt H3 c x := sA _ _ (sm2 _ _ hcx)
        have hS3 := sA _ _ hq2
        have i0 : atI [V.ref cp, V.ref c] 0 = some (.ref cp) := rfl
        have i1 : atI [V.ref cp, V.ref c] 1 = some (.ref c) := rfl
        have y1 : ∀ q : Int × Int, atI [V.int q.1, V.int q.2] 1 = some (.int q.2) := fun _ => rfl
        have lq : qs.length < sizeLine := by
          rw [Paired.length hqs, List.length_append, List.length_map, List.length_take]
          exact Nat.lt_of_le_of_lt (show _ ≤ 40000 by omega) (by decide)
        have fin : ∀ (q : Addr) (H4 : Hp), Same H3 H4 → SideAt H4 q (orient (p, x)) → ∃ v3 v4 v5, ([some (.ref a), some (.ref S), some (.ref b), some (.int (j : Nat)), some (.ref c), some (.ref sd)] : L2.St) = [some (.ref a), some (.ref S), some (.ref b), v3, v4, v5] ∧ Same H (upd H4 S (.lst (qs.map V.ref ++ [V.ref q]))) ∧
            ∃ qs' : List Addr, (upd H4 S (.lst (qs.map V.ref ++ [V.ref q]))) S = some (.lst (qs'.map V.ref)) ∧ Paired (SideAt (upd H4 S (.lst (qs.map V.ref ++ [V.ref q])))) qs' (rsides (lp.take i) ++ ((rot ps).take (j + 1)).map orient) := by
          intro q H4 s4 hq
          have hS4 := s4 _ _ hS3
          have kp : ∀ b xs, H4 b = some (.tup xs) → upd H4 S (.lst (qs.map V.ref ++ [V.ref q])) b = some (.tup xs) := fun b xs e => by rw [upd_ne (ne_of e hS4 (fun z => nomatch z))]; exact e
          refine ⟨_, _, _, rfl, same_upd ((sm2.trans sA).trans s4) hS0, qs ++ [q], by rw [upd_same, List.map_append]; rfl, ?_⟩
          rw [take_more hrot, List.map_append, ← List.append_assoc]
          exact Paired.snoc (Paired.mapP hqs fun _ _ z => ((z.same sA).same s4).tups kp) (hq.tups kp)
        refine ⟨_, rfl, .inl ⟨rfl, _, SqL.of hS3⟩, ?_⟩
        refine ⟨_, rfl, sd, _, _, _, rfl, rfl, SqT.of hsd1, i0, cp, _, _, _, rfl, rfl, SqT.of hcp3, y1 p, _, rfl, sd, _, _, _, rfl, rfl, SqT.of hsd1, i1, c, _, _, _, rfl, rfl, SqT.of hcx3, y1 x, _, _, rfl, rfl, _, rfl, ?_⟩
        refine ite2 (fun q => ?_) fun q => ?_
        · have q : p.2 ≤ x.2 := of_decide_eq_true q
          refine ⟨_, rfl, S, _, _, rfl, rfl, hS3, by rw [List.length_map]; exact lq, fin sd H3 (Same.refl _) ?_⟩
          unfold Solid.orient
          rw [if_pos q]
          exact ⟨cp, c, hsd1, hcp3, hcx3⟩
        · have q : ¬ p.2 ≤ x.2 := fun z => q (decide_eq_true z)
          refine ⟨_, rfl, sd, _, _, rfl, hsd1, fun q' hq' => ?_⟩
          have s4 : Same H3 (upd H3 q' (.tup [.ref c, .ref cp])) := same_new hq'
          refine ⟨S, _, _, rfl, rfl, s4 _ _ hS3, by rw [List.length_map]; exact lq, fin q' _ s4 ?_⟩
          unfold Solid.orient
          rw [if_neg q]
          exact ⟨c, cp, upd_same, s4 _ _ hcx3, s4 _ _ hcp3⟩
      · rintro σ H2 ⟨v3', v4', v5', rfl, sm2, qs, hq2, hqs⟩
        have et : (rot ps).take ps.length = rot ps := List.take_of_length_le (by rw [rot_len]; exact Nat.le_refl _)
        rw [List.length_map, lw, et, ← f1] at hqs
        exact ⟨_, _, _, _, rfl, sm2, qs, hq2, hqs⟩
    · rintro σ H' ⟨v2, v3, v4, v5, rfl, sm, qs, hq, hqs⟩
      rw [List.length_map, lb, List.take_length] at hqs
      exact ⟨_, rfl, k H' S qs sm hq hqs⟩
end
end Sol
end
section
set_option Elab.async false
set_option linter.all false
set_option maxRecDepth 100000
set_option maxHeartbeats 4000000
namespace Sol
open PySem PySem.Spec PyProof.Rows L2
open Solid (Side orient rsides lb nLines span union reach)
def spBelow : Sp := fun vs H Q _ => ∃ (y first step : Int), vs = [.int y, .int first, .int step] ∧ 0 < step ∧ step ≤ 1000000 ∧ Q (.int (lb first step y)) H
def spCountLines (K : PySem.W.Frag) : Sp := fun vs H Q _ => ∃ (a : Addr) (as : List Addr) (sps : List (Int × Int)) (N : Nat), vs = [.ref a] ∧ SqL K H a (as.map V.ref) ∧ Paired (pairAt H) as sps ∧ (∀ sp ∈ sps, 0 ≤ sp.1 ∧ sp.1 ≤ sp.2 ∧ sp.2 ≤ (N : Int)) ∧
  ∀ H', Same H H' → Q (.int (union N sps : Nat)) H'
def spCountNums (K : PySem.W.Frag) : Sp := fun vs H Q _ => ∃ (a : Addr) (qs : List Addr) (rs : List Side) (first step : Int), vs = [.ref a, .int first, .int step] ∧ SqL K H a (qs.map V.ref) ∧ Paired (SideAt H) qs rs ∧ rs.length ≤ 20000 ∧ (∀ s ∈ rs, s.1.2 ≤ s.2.2 ∧ s.2.2 ≤ 1000000) ∧
  0 < step ∧ step ≤ 1000000 ∧ first ≤ 1000000 ∧ ∀ H', Same H H' → Q (.int (2 * (union (nLines first step) (rs.map (span first step)) : Nat) + ((rs.map (span first step)).map fun sp => sp.2 - sp.1).sum)) H'
theorem max_if (i j : Int) : (if j > i then j else i) = max i j := by
  by_cases h : j > i
  · rw [if_pos h]; omega
  · rw [if_neg h]; omega
section
variable {P : Program} {w : World} {K : PySem.W.Frag} {mg : Str → Option Value} {base : Heap}
theorem scBelow : FnScope ["y", "first", "step"] ["y", "first", "step"] (defScope sBelow) := ⟨rfl, rfl, rfl, by decide +kernel, rfl, by decide +kernel, by decide +kernel⟩
theorem ok_below {f C : Addr} {fd : FuncData} (F : Fun K "lines_below" "lines_below" sBelow f fd) (T : Txt K mg C) : FnOk P w K mg base CX0 1 f fd ["y", "first", "step"] spBelow := by
  refine F.ok scBelow (fun vs H Q E h => ?_) (fun cdv A outer s H vs Q E hr h => ?_)
  · obtain ⟨y, first, step, rfl, _⟩ := h
    rfl
  · obtain ⟨y, first, step, rfl, h1, h2, k⟩ := h
    refine ⟨_, pss_one (ps_ret (pe_callB (call_max2 rfl) rfl T.max boot_max (pa_cons pe_int (pa_cons (pe_op op_fdiv (pe_op op_sub (pe_op op_add (pe_op op_sub (pv 0) (pv 1)) (pv 2)) pe_int) (pv 2)) pa_nil)))), ?_⟩
    refine ⟨_, rfl, _, rfl, _, _, rfl, rfl, _, rfl, _, _, rfl, rfl, _, _, rfl, rfl, _, rfl, _, _, rfl, rfl, ⟨h1, by show step < (1073741824 : Int); omega⟩, _, _, rfl, ?_⟩
    rw [max_if]
    exact k
theorem scCountLines : FnScope ["spans", "lines", "reached", "start", "end"] ["spans"] (defScope sCountLines) := ⟨rfl, rfl, rfl, by decide +kernel, rfl, by decide +kernel, by decide +kernel⟩
theorem ok_countlines {f C : Addr} {fd : FuncData} (F : Fun K "count_crossed_lines" "count_crossed_lines" sCountLines f fd) (T : Txt K mg C) : FnOk P w K mg base CX0 1 f fd ["spans"] (spCountLines K) := by
  refine F.ok scCountLines (fun vs H Q E h => ?_) (fun cdv A outer s H vs Q E hr h => ?_)
  · obtain ⟨a, as, sps, N, rfl, _⟩ := h
    rfl
  · obtain ⟨a, as, sps, N, rfl, hS, hP, hok, k⟩ := h
    refine ⟨_, pss_cons (ps_set (i := 1) scCountLines.nd rfl (Or.inl rfl) pe_int)
      (pss_cons (ps_set (i := 2) scCountLines.nd rfl (Or.inl rfl) pe_int)
      (pss_cons (ps_for PassesOwn.never rfl (pi_list (pe_callB cr_sortedT rfl T.sorted boot_sorted (pa_cons (pv 0) pa_nil))) (pg_tup rfl (pgs_cons (pg_name (i := 3) scCountLines.nd rfl (Or.inl rfl)) (pgs_cons (pg_name (i := 4) scCountLines.nd rfl (Or.inl rfl)) pgs_nil)))
        (pss_cons (ps_aug (i := 1) scCountLines.nd rfl (Or.inl rfl) (pe_callB (call_max2 rfl) rfl T.max boot_max (pa_cons pe_int (pa_cons (pe_op op_sub (pv 4) (pe_callB (call_max2 rfl) rfl T.max boot_max (pa_cons (pv 3) (pa_cons (pv 2) pa_nil)))) pa_nil))) ip_add)
        (pss_one (ps_set (i := 2) scCountLines.nd rfl (Or.inl rfl) (pe_callB (call_max2 rfl) rfl T.max boot_max (pa_cons (pv 2) (pa_cons (pv 4) pa_nil)))))))
      (pss_one (ps_ret (pv 1))))), ?_⟩
    refine ⟨_, rfl, a, as, sps, rfl, hS, hP, fun as' ps' r hperm hsort hP' hr0 => ?_⟩
    have sm : Same H (upd H r (.lst (as'.map V.ref))) := same_new hr0
    have la : as'.length = ps'.length := Paired.length hP'
    have hok' : ∀ sp ∈ ps', 0 ≤ sp.1 ∧ sp.1 ≤ sp.2 ∧ sp.2 ≤ (N : Int) := fun sp h => hok sp (hperm.mem_iff.mp h)
    refine ⟨r, rfl, ⟨_, SqL.of upd_same⟩, for_list (K := K) (a := r) (xs := as'.map V.ref) (fun i σ H' => ∃ v3 v4, σ = [some (.ref a), some (.int (union N (ps'.take i) : Nat)), some (.int (reach (ps'.take i))), v3, v4] ∧ H' = upd H r (.lst (as'.map V.ref)))
      ⟨none, none, ?_, rfl⟩ (fun i σ H' _ ⟨_, _, _, e⟩ => by rw [e]; exact SqL.of upd_same) ?_ ?_⟩
    · have : union N ([] : List (Int × Int)) = 0 := by
        unfold Solid.union
        rw [List.length_eq_zero_iff, List.filter_eq_nil_iff]
        intro k _
        simp
      show [some (V.ref a), some (V.int 0), some (V.int 0), none, none] = [some (V.ref a), some (V.int (union N ([] : List (Int × Int)) : Nat)), some (V.int (reach [])), none, none]
      rw [this]
      rfl
    · rintro i y σ H' hi ⟨v3, v4, rfl, rfl⟩
      obtain ⟨q, hq, rfl⟩ := map_at hi
      obtain ⟨sp, hsp, hqs⟩ := paired_at hP' hq
      have hmem := List.mem_of_getElem? hsp
      obtain ⟨o1, o2, o3⟩ := hok' sp hmem
      refine ⟨q, _, rfl, SqT.of (sm _ _ hqs), rfl, _, _, rfl, _, _, rfl, rfl, ?_⟩
      refine ⟨_, rfl, _, rfl, _, rfl, _, rfl, _, _, rfl, _, _, rfl, rfl, _, _, rfl, _, _, rfl, rfl, ?_⟩
      refine ⟨_, rfl, _, rfl, _, _, rfl, some (.int sp.1), some (.int sp.2), ?_, rfl⟩
      have hprev : ∀ q ∈ ps'.take i, q.1 ≤ sp.1 := by
        intro q hq
        rw [List.mem_take_iff_getElem] at hq
        obtain ⟨j, hj, e⟩ := hq
        obtain ⟨hil, ei⟩ := List.getElem?_eq_some_iff.mp hsp
        have := List.pairwise_iff_getElem.mp hsort j i (by omega) hil (by omega)
        rw [← e, ← ei]
        exact this
      have eu := Solid.union_snoc (N := N) (A := ps'.take i) (sp := sp) o1 o3 hprev
      have er := Solid.reach_snoc (ps'.take i) sp
      rw [← take_more hsp] at eu er
      show [some (V.ref a), some (V.int ((union N (ps'.take i) : Nat) + (if (sp.2 - if reach (ps'.take i) > sp.1 then reach (ps'.take i) else sp.1) > 0 then sp.2 - if reach (ps'.take i) > sp.1 then reach (ps'.take i) else sp.1 else 0))), some (V.int (if sp.2 > reach (ps'.take i) then sp.2 else reach (ps'.take i))), some (V.int sp.1), some (V.int sp.2)] = _
      rw [max_if, max_if, max_if, er, eu]
    · rintro σ H' ⟨v3, v4, rfl, rfl⟩
      rw [List.length_map, la, List.take_length]
      refine ⟨_, rfl, ?_⟩
      rw [Solid.union_perm hperm]
      exact k _ sm
theorem scCountNums : FnScope ["sides", "first", "step", "spans", "crossings", "low", "high", "start", "end"] ["sides", "first", "step"] (defScope sCountNums) := ⟨rfl, rfl, rfl, by decide +kernel, rfl, by decide +kernel, by decide +kernel⟩
theorem ok_countnums {f C : Addr} {fd : FuncData} (F : Fun K "count_line_numbers" "count_line_numbers" sCountNums f fd) (T : Txt K mg C) (M : TxtM mg) (DB : Def P w K mg base CX0 1 "lines_below" ["y", "first", "step"] spBelow)
    (DC : Def P w K mg base CX0 1 "count_crossed_lines" ["spans"] (spCountLines K)) : FnOk P w K mg base CX0 2 f fd ["sides", "first", "step"] (spCountNums K) := by
  refine F.ok scCountNums (fun vs H Q E h => ?_) (fun cdv A outer s H vs Q E hr h => ?_)
  · obtain ⟨a, qs, rs, first, step, rfl, _⟩ := h
    rfl
  · obtain ⟨a, qs, rs, first, step, rfl, hS, hP, hl, hok, h1, h2, h3, k⟩ := h
    refine ⟨_, pss_cons (ps_setLc (i := 3) (own := [("low", 5), ("high", 6)]) (g := gTup K 2 (gCons (gName 5) (gCons (gName 6) gNil))) rfl scCountNums.nd rfl rfl (sw_true rfl rfl rfl (by decide +kernel)) (pi_list (pv 0)) (blkOk_by (by show blkC ["sides", "first", "step", "spans", "crossings", "low", "high", "start", "end"] (defScope sCountNums) _ _ = true; decide +kernel))
        (fun _ _ _ _ _ => pg_tup rfl (pgs_cons (pg_name (i := 5) scCountNums.nd rfl (Or.inl rfl)) (pgs_cons (pg_name (i := 6) scCountNums.nd rfl (Or.inl rfl)) pgs_nil))) (fun _ _ _ _ _ => pts_nil)
        (fun _ _ _ _ _ => pe_tup (pa_cons (pe_def DB hr pass0 (pa_cons (pe_ix (r := rIxT K) ix_tup (pv 5) (pe_con M.y) (fun _ _ => rfl)) (pa_cons (pv 1) (pa_cons (pv 2) pa_nil)))) (pa_cons (pe_def DB hr pass0 (pa_cons (pe_ix (r := rIxT K) ix_tup (pv 6) (pe_con M.y) (fun _ _ => rfl)) (pa_cons (pv 1) (pa_cons (pv 2) pa_nil)))) pa_nil))))
      (pss_cons (ps_set (i := 4) scCountNums.nd rfl (Or.inl rfl) (pe_callB (cr_sum rfl) rfl T.sum boot_sum (pa_cons (pe_lc (own := [("start", 7), ("end", 8)]) (g := gTup K 2 (gCons (gName 7) (gCons (gName 8) gNil))) rfl scCountNums.nd (pi_list (pv 3)) (blkOk_by (by show blkC ["sides", "first", "step", "spans", "crossings", "low", "high", "start", "end"] (defScope sCountNums) _ _ = true; decide +kernel))
        (fun _ _ _ _ _ => pg_tup rfl (pgs_cons (pg_name (i := 7) scCountNums.nd rfl (Or.inl rfl)) (pgs_cons (pg_name (i := 8) scCountNums.nd rfl (Or.inl rfl)) pgs_nil))) (fun _ _ _ _ _ => pts_nil) (fun _ _ _ _ _ => pe_op op_sub (pv 8) (pv 7))) pa_nil)))
      (pss_one (ps_ret (pe_op op_add (pe_op op_mul pe_int (pe_def DC hr pass0 (pa_cons (pv 3) pa_nil))) (pv 4))))), ?_⟩
    have lq : qs.length = rs.length := Paired.length hP
    refine ⟨_, rfl, a, rfl, ⟨_, hS⟩, fun D hD => ?_⟩
    refine lc_list (K := K) (a := a) (xs := qs.map V.ref) (fun i H2 => Same H H2 ∧ ∃ ts : List Addr, H2 D = some (.lst (ts.map V.ref)) ∧ Paired (pairAt H2) ts ((rs.take i).map (span first step))) ⟨same_new hD, [], upd_same, .nil⟩ (fun i H2 _ ⟨s2, _⟩ => s2.seq hS) ?_ ?_
    · rintro i x H2 hi ⟨s2, ts, hD2, hts⟩
      obtain ⟨b, hb, rfl⟩ := map_at hi
      obtain ⟨sd, hsd, p1, p2, g0, g1, g2⟩ := paired_at hP hb
      have y1 : ∀ q : Int × Int, atI [V.int q.1, V.int q.2] 1 = some (.int q.2) := fun _ => rfl
      refine ⟨b, _, rfl, SqT.of (s2 _ _ g0), rfl, _, _, rfl, _, _, rfl, rfl, rfl, ?_⟩
      dsimp only [tYes]
      rw [if_pos rfl]
      refine ⟨_, rfl, p1, _, _, _, rfl, rfl, SqT.of (s2 _ _ g1), y1 sd.1, _, rfl, _, rfl, _, _, _, rfl, h1, h2, ?_⟩
      refine ⟨_, rfl, p2, _, _, _, rfl, rfl, SqT.of (s2 _ _ g2), y1 sd.2, _, rfl, _, rfl, _, _, _, rfl, h1, h2, ?_⟩
      refine ⟨(by show 2 ≤ sizeLine; decide), fun t ht => ?_⟩
      have s3 : ∀ o : HO, Same H2 (upd H2 t o) := fun o => same_new ht
      have hD3 := s3 (.tup [.int (lb first step sd.1.2), .int (lb first step sd.2.2)]) _ _ hD2
      refine ⟨_, hD3, ?_, same_upd (s2.trans (s3 _)) hD, ts ++ [t], by rw [upd_same, List.map_append]; rfl, ?_⟩
      · rw [List.length_map, Paired.length hts, List.length_map, List.length_take]
        exact Nat.lt_of_le_of_lt (show _ ≤ 20000 by omega) (by decide)
      · rw [take_more hsd, List.map_append]
        have kp : ∀ b xs, upd H2 t (.tup [.int (lb first step sd.1.2), .int (lb first step sd.2.2)]) b = some (.tup xs) → upd (upd H2 t (.tup [.int (lb first step sd.1.2), .int (lb first step sd.2.2)])) D (.lst (ts.map V.ref ++ [V.ref t])) b = some (.tup xs) := fun b xs e => by rw [upd_ne (ne_of e hD3 (fun z => nomatch z))]; exact e
        exact Paired.snoc (Paired.mapP hts fun _ _ z => kp _ _ (s3 _ _ _ z)) (kp t _ upd_same)
    · rintro H2 ⟨s2, ts, hD2, hts⟩
      rw [List.length_map, lq, List.take_length] at hts
      have lt : ts.length = rs.length := by rw [Paired.length hts, List.length_map]
      refine ⟨_, rfl, D, rfl, ⟨_, SqL.of hD2⟩, fun D2 hD2n => ?_⟩
      refine lc_list (K := K) (a := D) (xs := ts.map V.ref) (fun i H3 => Same H2 H3 ∧ H3 D2 = some (.lst (((((rs.map (span first step)).take i).map fun sp => sp.2 - sp.1)).map V.int))) ⟨same_new hD2n, upd_same⟩ (fun i H3 _ ⟨s3, _⟩ => SqL.of (s3 _ _ hD2)) ?_ ?_
      · rintro i x H3 hi ⟨s3, hD3⟩
        obtain ⟨t, ht, rfl⟩ := map_at hi
        obtain ⟨sp, hsp, hpt⟩ := paired_at hts ht
        refine ⟨t, _, rfl, SqT.of (s3 _ _ hpt), rfl, _, _, rfl, _, _, rfl, rfl, rfl, ?_⟩
        dsimp only [tYes]
        rw [if_pos rfl]
        refine ⟨_, rfl, _, rfl, _, _, rfl, rfl, _, hD3, ?_, same_upd s3 hD2n, ?_⟩
        · rw [List.length_map, List.length_map, List.length_take, List.length_map]
          exact Nat.lt_of_le_of_lt (show _ ≤ 20000 by omega) (by decide)
        · rw [upd_same, take_more hsp, List.map_append, List.map_append]
          rfl
      · rintro H3 ⟨s3, hD3⟩
        rw [List.length_map, lt, List.take_of_length_le (by rw [List.length_map]; exact Nat.le_refl _)] at hD3
        refine ⟨D2, _, rfl, SqL.of hD3, ?_⟩
        refine ⟨_, rfl, D, ts, rs.map (span first step), nLines first step, rfl, SqL.of (s3 _ _ hD2), Paired.mapP hts fun _ _ z => s3 _ _ z, ?_, fun H4 s4 => ?_⟩
        · intro sp hsp
          obtain ⟨sd, hm, rfl⟩ := List.mem_map.mp hsp
          obtain ⟨o1, o2⟩ := hok sd hm
          exact ⟨Solid.lb_nonneg _ _ _, Solid.lb_mono h1 o1, Solid.lb_le h1 h3 o2⟩
        · refine ⟨_, _, rfl, rfl, .inl ⟨by decide, by decide⟩, _, rfl, _, _, rfl, rfl, ?_⟩
          exact k H4 ((s2.trans s3).trans s4)
end
end Sol
end
section
set_option Elab.async false
set_option linter.all false
set_option maxRecDepth 100000
set_option maxHeartbeats 4000000
namespace Sol
open PySem PySem.Spec PyProof.Rows L2
open Sa63 (crossed along)
open Solid (Side orient rsides lb nLines span union lineY covers cutX lb_iff)
theorem small_step {a b c : Int} {n : Nat} (hc : 0 < c) (hc' : c ≤ 1000000) (ha : -(2 ^ 50) ≤ a) (ha' : a < 2 ^ 50) (hb : -(2 ^ 50) ≤ b) (hb' : b < 2 ^ 50) (hn : Builtin.Range.rangeSize a b c = n) (hn' : n < 2 ^ 50) : Builtin.Range.small a b c = true := by
  unfold Builtin.Range.small
  rw [hn]
  simp only [Builtin.Range.rangeFitsLong, Bool.and_eq_true, Bool.or_eq_true, decide_eq_true_eq, beq_iff_eq, show c > 0 from hc, if_true]
  omega
theorem range_lines {first step y1 y2 : Int} (hs : 0 < step) (hle : y1 ≤ y2) : Builtin.Range.rangeSize (first + step * lb first step y1) y2 step = ((lb first step y2 - lb first step y1).toNat : Nat) := by
  have m := Solid.lb_mono (first := first) hs hle
  have n1 := Solid.lb_nonneg first step y1
  have e1 : ((lb first step y1).toNat : Int) = lb first step y1 := Int.toNat_of_nonneg n1
  generalize hk : (lb first step y1).toNat = k0 at e1
  rw [← e1] at m ⊢
  unfold Builtin.Range.rangeSize
  rw [if_pos hs]
  by_cases c : first + step * (k0 : Int) < y2
  · rw [if_pos c]
    have q0 : 0 ≤ (y2 - (first + step * k0) - 1) / step := Int.ediv_nonneg (by omega) (by omega)
    have q1 : (y2 - (first + step * k0) - 1) / step * step ≤ y2 - (first + step * k0) - 1 := Int.ediv_mul_le _ (by omega)
    have q2 := Int.lt_ediv_add_one_mul_self (y2 - (first + step * k0) - 1) hs
    obtain ⟨q, eq⟩ : ∃ q : Nat, (y2 - (first + step * k0) - 1) / step = (q : Int) := ⟨_, (Int.toNat_of_nonneg q0).symm⟩
    rw [eq] at q1 q2 ⊢
    have l1 := lb_iff (first := first) (y := y2) hs (k0 + q)
    have l2 := lb_iff (first := first) (y := y2) hs (k0 + q + 1)
    have a1 : step * ((k0 + q : Nat) : Int) = step * k0 + q * step := by rw [Int.natCast_add, Int.mul_add, Int.mul_comm step (q : Int)]
    have a2 : step * ((k0 + q + 1 : Nat) : Int) = step * k0 + (q + 1) * step := by
      rw [show ((k0 + q + 1 : Nat) : Int) = k0 + (q + 1) by omega, Int.mul_add, Int.mul_comm step ((q : Int) + 1)]
    rw [a1] at l1
    rw [a2] at l2
    omega
  · rw [if_neg c]
    have l1 := lb_iff (first := first) (y := y2) hs k0
    omega
/-- a dict of lines: keys and lists -/
def ckv (first step : Int) (p : Nat × Addr) : Key × V := (Sum.inl (lineY first step p.1), .ref p.2)
structure CrossAt (first step : Int) (H : Hp) (d : Addr) (ps : List (Nat × Addr)) (g : Nat → List Int) : Prop where
  dict : H d = some (.dK (ps.map (ckv first step)))
  nd : (ps.map (·.1)).Nodup
  one : ∀ p ∈ ps, ∀ q ∈ ps, p.2 = q.2 → p = q
  keys : ∀ k, k ∈ ps.map (·.1) ↔ g k ≠ []
  vals : ∀ p ∈ ps, H p.2 = some (.lst ((g p.1).map V.int))
theorem val_ckv {first step : Int} (hs : 0 < step) {ps : List (Nat × Addr)} (nd : (ps.map (·.1)).Nodup) (k : Nat) :
    (k ∉ ps.map (·.1) → valV (ps.map (ckv first step)) (Sum.inl (lineY first step k)) = none) ∧ (∀ a, (k, a) ∈ ps → valV (ps.map (ckv first step)) (Sum.inl (lineY first step k)) = some (.ref a)) := by
  induction ps with
  | nil => exact ⟨fun _ => rfl, fun a h => nomatch h⟩
  | cons p ps ih =>
    rw [List.map_cons, List.nodup_cons] at nd
    obtain ⟨ih1, ih2⟩ := ih nd.2
    by_cases e : p.1 = k
    · refine ⟨fun h => absurd (by rw [← e]; simp) h, fun a h => ?_⟩
      rcases List.mem_cons.mp h with h | h
      · rw [List.map_cons, valV_pos (show (ckv first step p).1 = _ by unfold ckv; rw [e]), ← h]
        rfl
      · exact absurd (List.mem_map.mpr ⟨_, h, rfl⟩) (by rw [e] at nd; exact nd.1)
    · have ne : ¬ (ckv first step p).1 = Sum.inl (lineY first step k) := fun q => e (Solid.lineY_inj hs (Sum.inl.inj q))
      rw [List.map_cons, List.map_cons, valV_neg ne]
      refine ⟨fun h => ih1 fun q => h (List.mem_cons_of_mem _ q), fun a h => ?_⟩
      rcases List.mem_cons.mp h with h | h
      · rw [← h] at e; exact absurd rfl e
      · exact ih2 a h
def gTo (first step : Int) (rs : List Side) (i : Nat) (k : Nat) : List Int := (rs.take i).filterMap (crossed (lineY first step k))
def gIn (first step : Int) (rs : List Side) (i : Nat) (s : Side) (k0 j : Nat) (k : Nat) : List Int := gTo first step rs i k ++ (if k0 ≤ k ∧ k < k0 + j then [cutX s (lineY first step k)] else [])
theorem gIn_zero {first step : Int} {rs : List Side} {i : Nat} {s : Side} {k0 : Nat} : gIn first step rs i s k0 0 = gTo first step rs i := by
  funext k
  unfold gIn
  rw [if_neg (by omega), List.append_nil]
theorem gIn_last {first step : Int} (hs : 0 < step) {rs : List Side} {i : Nat} {s : Side} (hi : rs[i]? = some s) (hle : s.1.2 ≤ s.2.2) {k0 n : Nat} (h0 : (k0 : Int) = lb first step s.1.2) (hn : ((k0 + n : Nat) : Int) = lb first step s.2.2) : gIn first step rs i s k0 n = gTo first step rs (i + 1) := by
  funext k
  unfold gIn gTo
  rw [take_more hi, List.filterMap_append]
  congr 1
  have e := Solid.crossed_span (first := first) hs hle k
  have c : covers k (span first step s) = true ↔ (k0 ≤ k ∧ k < k0 + n) := by
    unfold Solid.covers Solid.span
    dsimp only
    rw [Bool.and_eq_true, decide_eq_true_iff, decide_eq_true_iff, ← h0, ← hn]
    omega
  by_cases z : k0 ≤ k ∧ k < k0 + n
  · rw [if_pos z]
    rw [if_pos (c.mpr z)] at e
    rw [List.filterMap_cons_some e]
    rfl
  · rw [if_neg z]
    rw [if_neg (fun q => z (c.mp q))] at e
    rw [List.filterMap_cons_none e]
    rfl
theorem gIn_succ {first step : Int} {rs : List Side} {i : Nat} {s : Side} {k0 j : Nat} (k : Nat) : gIn first step rs i s k0 (j + 1) k = gIn first step rs i s k0 j k ++ (if k = k0 + j then [cutX s (lineY first step k)] else []) := by
  unfold gIn
  by_cases c : k = k0 + j
  · rw [if_pos c, if_pos (by omega), if_neg (by omega), List.append_nil]
  · rw [if_neg c, List.append_nil]
    by_cases d : k0 ≤ k ∧ k < k0 + j
    · rw [if_pos d, if_pos (by omega)]
    · rw [if_neg d, if_neg (by omega)]
theorem gTo_len (first step : Int) (rs : List Side) (i k : Nat) : (gTo first step rs i k).length ≤ rs.length := by
  unfold gTo
  refine Nat.le_trans (List.length_filterMap_le _ _) ?_
  rw [List.length_take]
  omega
theorem gTo_cov {first step : Int} (hs : 0 < step) {rs : List Side} (hle : ∀ s ∈ rs, s.1.2 ≤ s.2.2) {i k : Nat} (h : gTo first step rs i k ≠ []) : (rs.map (span first step)).any (covers k) = true := by
  have h1 : 0 < (gTo first step rs i k).length := List.length_pos_iff.mpr h
  unfold gTo at h1
  rw [Solid.cross_count hs k fun s m => hle s (List.mem_of_mem_take m)] at h1
  obtain ⟨sp, hx⟩ := List.exists_mem_of_length_pos h1
  obtain ⟨m1, m2⟩ := List.mem_filter.mp hx
  rw [List.any_eq_true]
  obtain ⟨s, m3, rfl⟩ := List.mem_map.mp m1
  exact ⟨_, List.mem_map.mpr ⟨s, List.mem_of_mem_take m3, rfl⟩, m2⟩
/-- as long as keys are lines that are covered, they are no more than those -/
theorem keys_few {first step : Int} {rs : List Side} {N : Nat} (hN : ∀ s ∈ rs, lb first step s.2.2 ≤ (N : Int)) {ks : List Nat} (nd : ks.Nodup) (h : ∀ k ∈ ks, (rs.map (span first step)).any (covers k) = true) : ks.length ≤ union N (rs.map (span first step)) := by
  unfold Solid.union
  refine Solid.length_le_of_inj (fun x => x) nd (fun k hk => ?_) (fun a _ b _ e => e)
  have hc := h k hk
  refine List.mem_filter.mpr ⟨List.mem_range.mpr ?_, hc⟩
  rw [List.any_eq_true] at hc
  obtain ⟨sp, m1, m2⟩ := hc
  obtain ⟨s, m3, rfl⟩ := List.mem_map.mp m1
  have := hN s m3
  unfold Solid.covers Solid.span at m2
  rw [Bool.and_eq_true, decide_eq_true_iff, decide_eq_true_iff] at m2
  have m2 := m2.2
  dsimp only at m2
  omega
def SmallS (s : Side) : Prop := SmallI s.1.1 ∧ SmallI s.1.2 ∧ SmallI s.2.1 ∧ SmallI s.2.2
def spCross (K : PySem.W.Frag) : Sp := fun vs H Q _ => ∃ (a : Addr) (qs : List Addr) (rs : List Side) (first step : Int), vs = [.ref a, .int first, .int step] ∧ SqL K H a (qs.map V.ref) ∧ Paired (SideAt H) qs rs ∧ rs.length ≤ 20000 ∧ (∀ s ∈ rs, s.1.2 ≤ s.2.2 ∧ SmallS s) ∧
  0 < step ∧ step ≤ 1000000 ∧ SmallI first ∧ union (nLines first step) (rs.map (span first step)) ≤ 1000000 ∧
  ∀ (H' : Hp) (d : Addr) (ps : List (Nat × Addr)), Same H H' → CrossAt first step H' d ps (fun k => rs.filterMap (crossed (lineY first step k))) → Q (.ref d) H'
theorem rSetdK_of {d : Addr} {kvs : List (Key × V)} {k : Key} {v : V} {H : Hp} {Q : VK} (hd : H d = some (.dK kvs)) (hl : kvs.length < sizeLine)
    (h : ∀ v' H4, ((valV kvs k = some v' ∧ H4 = H) ∨ (valV kvs k = none ∧ v' = v ∧ H4 = upd H d (.dK (kvs ++ [(k, v)])))) → Q v' H4) : rSetdK (.ref d) [kV k, v] H Q :=
  ⟨d, kvs, k, v, rfl, rfl, hd, hl, fun v' e => h v' H (.inl ⟨e, rfl⟩), fun e => h v _ (.inr ⟨e, rfl, rfl⟩)⟩
theorem nodup_fst {α β : Type} : ∀ {l : List (α × β)}, (l.map (·.1)).Nodup → ∀ {p q : α × β}, p ∈ l → q ∈ l → p.1 = q.1 → p = q
  | [], _, p, q, h, _, _ => nomatch h
  | x :: l, nd, p, q, hp, hq, e => by
    rw [List.map_cons, List.nodup_cons] at nd
    rcases List.mem_cons.mp hp with hp1 | hp1
    · rcases List.mem_cons.mp hq with hq1 | hq1
      · rw [hp1, hq1]
      · exact absurd (List.mem_map.mpr ⟨q, hq1, by rw [← e, hp1]⟩) nd.1
    · rcases List.mem_cons.mp hq with hq1 | hq1
      · exact absurd (List.mem_map.mpr ⟨p, hp1, by rw [e, hq1]⟩) nd.1
      · exact nodup_fst nd.2 hp1 hq1 e
section
variable {P : Program} {w : World} {K : PySem.W.Frag} {mg : Str → Option Value} {base : Heap}
theorem scCross : FnScope ["sides", "first", "step", "crossings", "side", "start", "y"] ["sides", "first", "step"] (defScope sCross) := ⟨rfl, rfl, rfl, by decide +kernel, rfl, by decide +kernel, by decide +kernel⟩
theorem ok_cross {f C : Addr} {fd : FuncData} (F : Fun K "crossings_by_line" "crossings_by_line" sCross f fd) (T : Txt K mg C) (M : TxtM mg) (DB : Def P w K mg base CX0 1 "lines_below" ["y", "first", "step"] spBelow)
    (DC : Def P w K mg base CX0 1 "cut_at" ["edge", "axis", "level", "asked"] spCut) : FnOk P w K mg base CX0 2 f fd ["sides", "first", "step"] (spCross K) := by
  refine F.ok scCross (fun vs H Q E h => ?_) (fun cdv A outer s H vs Q E hr h => ?_)
  · obtain ⟨a, qs, rs, first, step, rfl, _⟩ := h
    rfl
  · obtain ⟨a, qs, rs, first, step, rfl, hS, hP, hl, hok, h1, h2, h3, hfew, k⟩ := h
    refine ⟨_, pss_cons (ps_set (i := 3) scCross.nd rfl (Or.inl rfl) pe_dnewK)
      (pss_cons (ps_for PassesOwn.never rfl (pi_list (pv 0)) (pg_name (i := 4) scCross.nd rfl (Or.inl rfl))
        (pss_cons (ps_set (i := 5) scCross.nd rfl (Or.inl rfl) (pe_op op_add (pv 1) (pe_op op_mul (pv 2) (pe_def DB hr pass0 (pa_cons (pe_ix ix_tup (pe_ix ix_tup (pv 4) pe_int (fun _ _ => rfl)) (pe_con M.y) (fun _ _ => rfl)) (pa_cons (pv 1) (pa_cons (pv 2) pa_nil)))))))
        (pss_one (ps_for PassesOwn.never rfl (pi_range3 rfl T.range (pa_cons (pv 5) (pa_cons (pe_ix ix_tup (pe_ix ix_tup (pv 4) pe_int (fun _ _ => rfl)) (pe_con M.y) (fun _ _ => rfl)) (pa_cons (pv 2) pa_nil)))) (pg_name (i := 6) scCross.nd rfl (Or.inl rfl))
          (pss_one (ps_expr (pe_bm PySem.F.plainAttrs_list PySem.F.slot_list_append PySem.F.type_list_append mt_append
            (pe_bm PySem.F.plainAttrs_dict PySem.F.slot_dict_setdefault PySem.F.type_dict_setdefault mt_setdK (pv 3) (pa_cons (pv 6) (pa_cons (pe_lst pa_nil) pa_nil)))
            (pa_cons (pe_def DC hr pass0 (pa_cons (pv 4) (pa_cons (pe_con M.y) (pa_cons (pv 6) (pa_cons (pe_con M.x) pa_nil))))) pa_nil))))))))
      (pss_one (ps_ret (pv 3)))), ?_⟩
    intro d hd
    have lq : qs.length = rs.length := Paired.length hP
    have c0 : CrossAt first step (upd H d (.dK [])) d [] (gTo first step rs 0) :=
      ⟨upd_same, List.nodup_nil, fun p hp => (nomatch hp), fun k => ⟨fun h => (nomatch h), fun h => absurd rfl h⟩, fun p hp => (nomatch hp)⟩
    have i0 : ∀ p1 p2 : Addr, atI [V.ref p1, V.ref p2] 0 = some (.ref p1) := fun _ _ => rfl
    have i1 : ∀ p1 p2 : Addr, atI [V.ref p1, V.ref p2] 1 = some (.ref p2) := fun _ _ => rfl
    have y1 : ∀ q : Int × Int, atI [V.int q.1, V.int q.2] 1 = some (.int q.2) := fun _ => rfl
    have hN : ∀ s ∈ rs, lb first step s.2.2 ≤ (nLines first step : Int) := fun s hs => Solid.lb_le h1 h3.2 (hok s hs).2.2.2.2.2
    refine ⟨_, rfl, a, rfl, ⟨_, (same_new hd).seq hS⟩, for_list (K := K) (a := a) (xs := qs.map V.ref) (fun i σ H' => ∃ v4 v5 v6, σ = [some (.ref a), some (.int first), some (.int step), some (.ref d), v4, v5, v6] ∧ Same H H' ∧ ∃ ps, CrossAt first step H' d ps (gTo first step rs i) ∧ ∀ p ∈ ps, H p.2 = none)
      ⟨none, none, none, rfl, same_new hd, [], c0, fun p hp => (nomatch hp)⟩ (fun i σ H' _ ⟨_, _, _, _, sm, _⟩ => sm.seq hS) ?_ ?_⟩
    · rintro i y σ H' hi ⟨v4, v5, v6, rfl, sm, ps, cr, fr⟩
      obtain ⟨b, hb, rfl⟩ := map_at hi
      obtain ⟨sd, hsd, p1, p2, g0, g1, g2⟩ := paired_at hP hb
      obtain ⟨hle, ⟨a1, a1'⟩, ⟨a2, a2'⟩, ⟨b1, b1'⟩, ⟨b2, b2'⟩⟩ := hok sd (List.mem_of_getElem? hsd)
      refine ⟨_, rfl, _, rfl, _, rfl, b, _, _, _, rfl, rfl, SqT.of (sm _ _ g0), i0 p1 p2, p1, _, _, _, rfl, rfl, SqT.of (sm _ _ g1), y1 sd.1, _, rfl, _, rfl, _, _, _, rfl, h1, h2, _, _, rfl, rfl, .inl ⟨by show -(2 ^ 64 : Int) < step; omega, by show step < (2 ^ 64 : Int); omega⟩, _, _, rfl, rfl, ?_⟩
      have nlo := Solid.lb_nonneg first step sd.1.2
      have mono := Solid.lb_mono (first := first) h1 hle
      have hhi := hN sd (List.mem_of_getElem? hsd)
      obtain ⟨k0, hk0⟩ : ∃ k0 : Nat, (k0 : Int) = lb first step sd.1.2 := ⟨_, Int.toNat_of_nonneg nlo⟩
      obtain ⟨n, hn⟩ : ∃ n : Nat, n = (lb first step sd.2.2 - lb first step sd.1.2).toNat := ⟨_, rfl⟩
      have hkn : ((k0 + n : Nat) : Int) = lb first step sd.2.2 := by omega
      have hrs := range_lines (first := first) h1 hle
      rw [← hn] at hrs
      -- the first line is not far
      have blo : step * lb first step sd.1.2 ≤ 4000000 := by
        unfold Solid.lb
        by_cases c : 0 ≤ (sd.1.2 - first + step - 1) / step
        · rw [Int.max_eq_right c, Int.mul_comm]
          have := Int.ediv_mul_le (sd.1.2 - first + step - 1) (show step ≠ 0 by omega)
          have := h3.1
          omega
        · rw [Int.max_eq_left (by omega), Int.mul_zero]
          omega
      have blo2 : 0 ≤ step * lb first step sd.1.2 := Int.mul_nonneg (by omega) nlo
      have nsmall : n < 2 ^ 50 := by
        have hb : nLines first step ≤ 2000001 := by
          unfold Solid.nLines
          have : (1000000 - first) / step ≤ 1000000 - first := Int.ediv_le_self _ (by have := h3.2; omega)
          have := h3.1
          omega
        omega
      have hf1 := h3.1
      have hf2 := h3.2
      refine ⟨_, rfl, _, rfl, b, _, _, _, rfl, rfl, SqT.of (sm _ _ g0), i1 p1 p2, p2, _, _, _, rfl, rfl, SqT.of (sm _ _ g2), y1 sd.2, _, rfl, _, _, _, n, rfl,
        ⟨by omega, by show step.natAbs < 1073741824; omega, small_step h1 h2 (by omega) (by omega) (by omega) (by omega) hrs nsmall, hrs⟩, ?_⟩
      refine for_rangeC (lo := first + step * lb first step sd.1.2) (c := step) (n := n) (fun j σ H2 => ∃ v6, σ = [some (.ref a), some (.int first), some (.int step), some (.ref d), some (.ref b), some (.int (first + step * lb first step sd.1.2)), v6] ∧ Same H H2 ∧ ∃ ps, CrossAt first step H2 d ps (gIn first step rs i sd k0 j) ∧ ∀ p ∈ ps, H p.2 = none)
        ⟨v6, rfl, sm, ps, by rw [gIn_zero]; exact cr, fr⟩ ?_ ?_
      · rintro j σ H2 hj ⟨v6', rfl, sm2, ps2, C2, fr2⟩
        have ey : first + step * lb first step sd.1.2 + (j : Int) * step = lineY first step (k0 + j) := by
          unfold Solid.lineY
          rw [← hk0, Int.natCast_add, Int.mul_add, Int.mul_comm step (j : Int)]
          omega
        rw [ey]
        have lo1 : sd.1.2 ≤ lineY first step (k0 + j) := by
          have := lb_iff (first := first) (y := sd.1.2) h1 (k0 + j)
          unfold Solid.lineY
          omega
        have hi1 : lineY first step (k0 + j) < sd.2.2 := by
          have := lb_iff (first := first) (y := sd.2.2) h1 (k0 + j)
          unfold Solid.lineY
          omega
        have few : (ps2.map (ckv first step)).length ≤ 1000000 := by
          rw [List.length_map, ← List.length_map (f := (·.1))]
          refine Nat.le_trans (keys_few hN C2.nd fun k hk => ?_) hfew
          have hg := (C2.keys k).mp hk
          unfold gIn at hg
          by_cases c : k0 ≤ k ∧ k < k0 + j
          · rw [List.any_eq_true]
            refine ⟨_, List.mem_map.mpr ⟨sd, List.mem_of_getElem? hsd, rfl⟩, ?_⟩
            unfold Solid.covers Solid.span
            dsimp only
            rw [Bool.and_eq_true, decide_eq_true_iff, decide_eq_true_iff]
            omega
          · rw [if_neg c, List.append_nil] at hg
            exact gTo_cov h1 (fun s hs => (hok s hs).1) hg
        have glen : (gIn first step rs i sd k0 j (k0 + j)).length ≤ 20001 := by
          unfold gIn
          rw [List.length_append]
          have := gTo_len first step rs i (k0 + j)
          rw [if_neg (by omega)]
          show _ + 0 ≤ _
          omega
        generalize hgg : gIn first step rs i sd k0 j = g at C2 glen
        have gnext : gIn first step rs i sd k0 (j + 1) = fun k => g k ++ (if k = k0 + j then [cutX sd (lineY first step k)] else []) := by
          funext k
          rw [gIn_succ, hgg]
        rw [gnext]
        generalize hkk : k0 + j = kk at *
        refine ⟨_, rfl, .inr (.inr (.inl ⟨rfl, .inl ⟨_, C2.dict⟩⟩)), _, rfl, Nat.zero_le _, fun nl hnl => ?_⟩
        have sN : Same H2 (upd H2 nl (.lst [])) := same_new hnl
        dsimp only [tNil]
        refine rSetdK_of (k := Sum.inl (lineY first step kk)) (v := .ref nl) (sN _ _ C2.dict) (Nat.lt_of_le_of_lt few (by decide)) fun v' H4 hcase => ?_
        obtain ⟨hv1, hv2⟩ := val_ckv (first := first) h1 C2.nd kk
        have pne : ∀ p ∈ ps2, p.2 ≠ d ∧ p.2 ≠ nl := fun p hp => ⟨ne_of (C2.vals p hp) C2.dict (fun z => nomatch z), ne_of_none (C2.vals p hp) hnl⟩
        obtain ⟨al, ps', rfl, hd4, nd4, one4, key4, mem4, val4, sm4, fr4⟩ : ∃ (al : Addr) (ps' : List (Nat × Addr)), v' = .ref al ∧ H4 d = some (.dK (ps'.map (ckv first step))) ∧ (ps'.map (·.1)).Nodup ∧ (∀ p ∈ ps', ∀ q ∈ ps', p.2 = q.2 → p = q) ∧
            (∀ k, k ∈ ps'.map (·.1) ↔ (g k ≠ [] ∨ k = kk)) ∧ (kk, al) ∈ ps' ∧ (∀ p ∈ ps', H4 p.2 = some (.lst ((g p.1).map V.int))) ∧ Same H H4 ∧ (∀ p ∈ ps', H p.2 = none) := by
          by_cases hin : kk ∈ ps2.map (·.1)
          · obtain ⟨⟨k', al⟩, hm, e⟩ := List.mem_map.mp hin
            have e : k' = kk := e
            subst e
            have hv := hv2 al hm
            rcases hcase with ⟨hc, rfl⟩ | ⟨hc, _⟩
            · rw [hv] at hc
              cases hc
              refine ⟨al, ps2, rfl, sN _ _ C2.dict, C2.nd, C2.one, fun k => ?_, hm, fun p hp => sN _ _ (C2.vals p hp), sm2.trans sN, fr2⟩
              rw [C2.keys]
              constructor
              · exact .inl
              · rintro (h | rfl)
                · exact h
                · exact (C2.keys _).mp hin
            · rw [hv] at hc; cases hc
          · have hv := hv1 hin
            have gnil : g kk = [] := by
              by_cases z : g kk = []
              · exact z
              · exact absurd ((C2.keys kk).mpr z) hin
            rcases hcase with ⟨hc, _⟩ | ⟨_, rfl, rfl⟩
            · rw [hv] at hc; cases hc
            · have dnl : d ≠ nl := ne_of_none C2.dict hnl
              refine ⟨nl, ps2 ++ [(kk, nl)], rfl, by rw [upd_same, List.map_append]; rfl, ?_, ?_, fun k => ?_, by simp, fun p hp => ?_, same_upd (sm2.trans sN) hd, fun p hp => ?_⟩
              · rw [List.map_append, List.nodup_append]
                exact ⟨C2.nd, by simp, fun x hx y hy => by
                  have hy : y = kk := by simpa using hy
                  rw [hy]; exact fun e => hin (e ▸ hx)⟩
              · intro p hp q hq e
                rcases List.mem_append.mp hp with hp | hp
                · rcases List.mem_append.mp hq with hq | hq
                  · exact C2.one p hp q hq e
                  · rw [List.mem_singleton.mp hq] at e
                    exact absurd e (pne p hp).2
                · rcases List.mem_append.mp hq with hq | hq
                  · rw [List.mem_singleton.mp hp] at e
                    exact absurd e.symm (pne q hq).2
                  · rw [List.mem_singleton.mp hp, List.mem_singleton.mp hq]
              · rw [List.map_append, List.mem_append, C2.keys]
                simp
              · rcases List.mem_append.mp hp with hp | hp
                · rw [upd_ne (pne p hp).1]
                  exact sN _ _ (C2.vals p hp)
                · rw [List.mem_singleton.mp hp, upd_ne (Ne.symm dnl), upd_same, gnil]
                  rfl
              · rcases List.mem_append.mp hp with hp | hp
                · exact fr2 p hp
                · rw [List.mem_singleton.mp hp]
                  exact sm2.free hnl
        have hal := val4 _ mem4
        have dal : d ≠ al := ne_of hd4 hal (fun z => nomatch z)
        have nal : H al = none := fr4 _ mem4
        refine ⟨.inl ⟨rfl, _, SqL.of hal⟩, _, rfl, _, rfl, b, p1, p2, [sd.1.1, sd.1.2], [sd.2.1, sd.2.2], 1, 0, lineY first step kk, _, _, _, _, rfl, sm4 _ _ g0, sm4 _ _ g1, sm4 _ _ g2, rfl, rfl, rfl, rfl, by omega, by omega, by omega, by omega, ?_⟩
        refine ⟨al, _, _, rfl, rfl, hal, by rw [List.length_map]; exact Nat.lt_of_le_of_lt glen (by decide), ?_⟩
        refine ⟨_, rfl, same_upd sm4 nal, ps', ⟨by rw [upd_ne dal]; exact hd4, nd4, one4, fun k => ?_, fun p hp => ?_⟩, fr4⟩
        · rw [key4]
          by_cases z : k = kk
          · rw [if_pos z]; simp [z]
          · rw [if_neg z]; simp [z]
        · by_cases z : p.2 = al
          · have ep := one4 p hp _ mem4 z
            rw [ep, upd_same, if_pos rfl, List.map_append]
            rfl
          · have zk : p.1 ≠ kk := fun q => z (by rw [nodup_fst nd4 hp mem4 q])
            rw [upd_ne z, if_neg zk, List.append_nil]
            exact val4 p hp
      · rintro σ H2 ⟨v6', rfl, sm2, ps2, C2, fr2⟩
        rw [gIn_last h1 hsd hle hk0 hkn] at C2
        exact ⟨_, _, _, rfl, sm2, ps2, C2, fr2⟩
    · rintro σ H' ⟨v4, v5, v6, rfl, sm, ps, cr, _⟩
      rw [List.length_map, lq] at cr
      refine ⟨_, rfl, k H' d ps sm ?_⟩
      have e : gTo first step rs rs.length = fun k => rs.filterMap (crossed (lineY first step k)) := by
        funext k
        unfold gTo
        rw [List.take_length]
      rw [e] at cr
      exact cr
end
end Sol
end
section
set_option Elab.async false
set_option linter.all false
set_option maxRecDepth 100000
set_option maxHeartbeats 4000000
namespace Sol
open PySem PySem.Spec PyProof.Rows L2
open Solid (lineY)
def sortI (l : List Int) : List Int := l.mergeSort fun a b => decide (a ≤ b)
theorem sortI_is {a l : List Int} (p : a.Perm l) (o : a.Pairwise (· ≤ ·)) : a = sortI l := by
  refine Solid.sorted_uniq (p.trans (List.mergeSort_perm _ _).symm) o ?_
  have := List.pairwise_mergeSort (le := fun (a b : Int) => decide (a ≤ b)) (fun a b c h1 h2 => decide_eq_true (by have := of_decide_eq_true h1; have := of_decide_eq_true h2; omega)) (fun a b => by
    rw [Bool.or_eq_true, decide_eq_true_iff, decide_eq_true_iff]; omega) l
  exact this.imp fun h => of_decide_eq_true h
def lineF (gy : Int → List Int) (y : Int) : List Int := y :: ((gy y).length / 2 : Nat) :: sortI (gy y)
def spLineNums (K : PySem.W.Frag) : Sp := fun vs H Q _ => ∃ (d : Addr) (first step : Int) (ps : List (Nat × Addr)) (gy : Int → List Int), vs = [.ref d] ∧ 0 < step ∧ CrossAt first step H d ps (fun k => gy (lineY first step k)) ∧
  (∀ ys : List Int, ys.Perm (ps.map fun p => lineY first step p.1) → ys.Pairwise (· ≤ ·) → (ys.flatMap (lineF gy)).length ≤ 1000000 ∧
    ∀ (H' : Hp) (r : Addr), Same H H' → H' r = some (.lst ((ys.flatMap (lineF gy)).map V.int)) → Q (.ref r) H')
section
variable {P : Program} {w : World} {K : PySem.W.Frag} {mg : Str → Option Value} {base : Heap}
theorem scLineNums : FnScope ["crossings", "numbers", "y"] ["crossings"] (defScope sLineNums) := ⟨rfl, rfl, rfl, by decide +kernel, rfl, by decide +kernel, by decide +kernel⟩
theorem ok_linenums {f C : Addr} {fd : FuncData} (F : Fun K "line_numbers" "line_numbers" sLineNums f fd) (T : Txt K mg C) : FnOk P w K mg base CX0 1 f fd ["crossings"] (spLineNums K) := by
  refine F.ok scLineNums (fun vs H Q E h => ?_) (fun cdv A outer s H vs Q E hr h => ?_)
  · obtain ⟨d, first, step, ps, gy, rfl, _⟩ := h
    rfl
  · obtain ⟨d, first, step, ps, gy, rfl, h1, cr, k⟩ := h
    have hu := hu_of hr
    refine ⟨_, pss_cons (ps_set (i := 1) scLineNums.nd rfl (Or.inl rfl) (pe_lst pa_nil))
      (pss_cons (ps_for PassesOwn.never rfl (pi_list (pe_callB (cr_sortedD rfl) rfl T.sorted boot_sorted (pa_cons (pv 0) pa_nil))) (pg_name (i := 2) scLineNums.nd rfl (Or.inl rfl))
        (pss_cons (ps_expr (pe_bm PySem.F.plainAttrs_list PySem.F.slot_list_append PySem.F.type_list_append mt_append (pv 1) (pa_cons (pv 2) pa_nil)))
        (pss_cons (ps_expr (pe_bm PySem.F.plainAttrs_list PySem.F.slot_list_append PySem.F.type_list_append mt_append (pv 1) (pa_cons (pe_op op_fdiv (pe_callB call_len_seq rfl T.len PySem.boot_len (pa_cons (pe_dget hu (pv 0) (pv 2) (fun _ _ => rfl)) pa_nil)) pe_int) pa_nil)))
        (pss_one (ps_expr (pe_bm PySem.F.plainAttrs_list PySem.F.slot_list_extend PySem.F.type_list_extend mt_extend (pv 1) (pa_cons (pe_callB cr_sortedA rfl T.sorted boot_sorted (pa_cons (pe_dget hu (pv 0) (pv 2) (fun _ _ => rfl)) pa_nil)) pa_nil)))))))
      (pss_one (ps_ret (pv 1)))), ?_⟩
    refine ⟨Nat.zero_le _, fun nb hnb => ?_⟩
    have s0 : Same H (upd H nb (.lst [])) := same_new hnb
    refine ⟨_, rfl, d, _, ps.map fun p => lineY first step p.1, rfl, s0 _ _ cr.dict, by rw [List.map_map, List.map_map]; rfl, fun ys r hperm hsort hr0 => ?_⟩
    obtain ⟨hlen, k⟩ := k ys hperm hsort
    have s1 : Same (upd H nb (.lst [])) (upd (upd H nb (.lst [])) r (.lst (ys.map V.int))) := same_new hr0
    have nbr : nb ≠ r := ne_of_none (upd_same (H := H) (o := .lst [])) hr0
    refine ⟨r, rfl, ⟨_, SqL.of upd_same⟩, for_list (K := K) (a := r) (xs := ys.map V.int) (fun i σ H' => ∃ v2, σ = [some (.ref d), some (.ref nb), v2] ∧ Same H H' ∧ H' r = some (.lst (ys.map V.int)) ∧ H' nb = some (.lst (((ys.take i).flatMap (lineF gy)).map V.int)))
      ⟨none, rfl, s0.trans s1, upd_same, by rw [upd_ne nbr]; exact upd_same⟩ (fun i σ H' _ ⟨_, _, _, h, _⟩ => SqL.of h) ?_ ?_⟩
    · rintro i v σ H' hi ⟨v2, rfl, sm, hr', hn'⟩
      obtain ⟨y, hy, rfl⟩ := map_at hi
      have hmem := hperm.mem_iff.mp (List.mem_of_getElem? hy)
      obtain ⟨⟨kk, al⟩, hp, rfl⟩ := List.mem_map.mp hmem
      have hal := cr.vals _ hp
      have hval := (val_ckv (first := first) h1 cr.nd kk).2 al hp
      have f1 : (ys.take (i + 1)).flatMap (lineF gy) = (ys.take i).flatMap (lineF gy) ++ lineF gy (lineY first step kk) := by
        rw [take_more hy, List.flatMap_append]
        simp
      have f2 : ((ys.take (i + 1)).flatMap (lineF gy)).length ≤ 1000000 := by
        refine Nat.le_trans ?_ hlen
        have : ys.flatMap (lineF gy) = (ys.take (i + 1)).flatMap (lineF gy) ++ (ys.drop (i + 1)).flatMap (lineF gy) := by rw [← List.flatMap_append, List.take_append_drop]
        rw [this, List.length_append]
        omega
      rw [f1, List.length_append] at f2
      have ll : (lineF gy (lineY first step kk)).length = 2 + (gy (lineY first step kk)).length := by
        unfold lineF sortI
        rw [List.length_cons, List.length_cons, List.length_mergeSort]
        omega
      have hz : (1000001 : Nat) < sizeLine := by decide
      generalize hpre : (ys.take i).flatMap (lineF gy) = pre at hn' f1 f2
      have dnb : d ≠ nb := ne_of_none cr.dict hnb
      have rnb : r ≠ nb := Ne.symm nbr
      have anb : al ≠ nb := ne_of_none hal hnb
      -- numbers.append(y)
      refine ⟨_, rfl, .inl ⟨rfl, _, SqL.of hn'⟩, _, rfl, nb, _, _, rfl, rfl, hn', by rw [List.length_map]; exact Nat.lt_of_le_of_lt (show _ ≤ 1000001 by omega) hz, ?_⟩
      have e1 : pre.map V.int ++ [V.int (lineY first step kk)] = (pre ++ [lineY first step kk]).map V.int := by rw [List.map_append]; rfl
      rw [show (kk, al).1 = kk from rfl, e1]
      have sA : Same H (upd H' nb (.lst ((pre ++ [lineY first step kk]).map V.int))) := same_upd sm hnb
      have rA : upd H' nb (.lst ((pre ++ [lineY first step kk]).map V.int)) r = some (.lst (ys.map V.int)) := by rw [upd_ne rnb]; exact hr'
      have nA : upd H' nb (.lst ((pre ++ [lineY first step kk]).map V.int)) nb = some (.lst ((pre ++ [lineY first step kk]).map V.int)) := upd_same
      generalize upd H' nb (.lst ((pre ++ [lineY first step kk]).map V.int)) = HA at sA rA nA
      have dget : ∀ {H0 : Hp}, Same H H0 → DGet H0 d (.int (lineY first step kk)) (some (.ref al)) := fun {H0} s0 => by
        have := DGet.k (k := Sum.inl (lineY first step kk)) (s0 _ _ cr.dict)
        rw [hval] at this
        exact this
      -- numbers.append(len(crossings[y]) // 2)
      refine ⟨_, rfl, .inl ⟨rfl, _, SqL.of nA⟩, _, rfl, _, rfl, d, _, rfl, dget sA, al, _, rfl, .inl (SqL.of (sA _ _ hal)), _, _, rfl, rfl, ⟨by decide, by decide⟩, nb, _, _, rfl, rfl, nA, by rw [List.length_map, List.length_append]; exact Nat.lt_of_le_of_lt (show _ + 1 ≤ 1000001 by omega) hz, ?_⟩
      have e2 : (pre ++ [lineY first step kk]).map V.int ++ [V.int ((((gy (lineY first step kk)).map V.int).length : Int) / 2)] = (pre ++ [lineY first step kk] ++ [(((gy (lineY first step kk)).length / 2 : Nat) : Int)]).map V.int := by
        rw [List.map_append (l₂ := [(((gy (lineY first step kk)).length / 2 : Nat) : Int)]), List.length_map, Int.natCast_ediv]
        rfl
      rw [e2]
      have sB : Same H (upd HA nb (.lst ((pre ++ [lineY first step kk] ++ [(((gy (lineY first step kk)).length / 2 : Nat) : Int)]).map V.int))) := same_upd sA hnb
      have rB : upd HA nb (.lst ((pre ++ [lineY first step kk] ++ [(((gy (lineY first step kk)).length / 2 : Nat) : Int)]).map V.int)) r = some (.lst (ys.map V.int)) := by rw [upd_ne rnb]; exact rA
      have nB : upd HA nb (.lst ((pre ++ [lineY first step kk] ++ [(((gy (lineY first step kk)).length / 2 : Nat) : Int)]).map V.int)) nb = some (.lst ((pre ++ [lineY first step kk] ++ [(((gy (lineY first step kk)).length / 2 : Nat) : Int)]).map V.int)) := upd_same
      generalize upd HA nb (.lst ((pre ++ [lineY first step kk] ++ [(((gy (lineY first step kk)).length / 2 : Nat) : Int)]).map V.int)) = HB at sB rB nB
      -- numbers.extend(sorted(crossings[y]))
      refine ⟨_, rfl, .inl ⟨rfl, _, SqL.of nB⟩, _, rfl, _, rfl, d, _, rfl, dget sB, al, _, rfl, SqL.of (sB _ _ hal), fun ns' p hp1 hp2 hp0 => ?_⟩
      have es := sortI_is hp1 hp2
      have ln : ns'.length = (gy (lineY first step kk)).length := hp1.length_eq
      have sC : Same HB (upd HB p (.lst (ns'.map V.int))) := same_new hp0
      refine ⟨nb, p, _, _, rfl, rfl, sC _ _ nB, upd_same, ?_, ?_⟩
      · rw [List.length_map, List.length_map, List.length_append, List.length_append, ln]
        refine Nat.le_of_lt (Nat.lt_of_le_of_lt ?_ hz)
        show _ + 1 + 1 + _ ≤ _
        omega
      · refine ⟨_, rfl, same_upd (sB.trans sC) hnb, by rw [upd_ne rnb]; exact sC _ _ rB, ?_⟩
        rw [upd_same, f1, es, ← List.map_append]
        unfold lineF
        simp
    · rintro σ H' ⟨v2, rfl, sm, hr', hn'⟩
      rw [List.length_map, List.take_length] at hn'
      exact ⟨_, rfl, k H' nb sm hn'⟩
end
end Sol
end
section
set_option Elab.async false
set_option linter.all false
set_option maxRecDepth 100000
set_option maxHeartbeats 4000000
namespace Sol
open PySem PySem.Spec PyProof.Rows L2
open Sa63 (Tri skinOf closed crossed crossings)
open Solid (Side rsides lb nLines span union lineY fillNums hits yNums NearY)
theorem inInt_byte {x : Int} (h : PySem.W.Codec.inInt 0 255 x = true) : 0 ≤ x ∧ x ≤ 255 := PySem.W.Codec.inInt_iff.mp h
theorem fill_eq (z first step most : Int) (file : List Int) : PySa63.fill z first step most file = (Sa63.does (.fill (Sa63Neutral.nats file) file.length z first step most)).v :: (Sa63.does (.fill (Sa63Neutral.nats file) file.length z first step most)).l := rfl
def inRange (z first step most : Int) : Bool := Sa63.within z (-Sa63.FAR) Sa63.FAR && (Sa63.within first (-Sa63.FAR) Sa63.FAR && (Sa63.within step 1 Sa63.FAR && decide (0 ≤ most)))
theorem fill_out {z first step most : Int} {file : List Int} (h : inRange z first step most = false) : PySa63.fill z first step most file = [-2] := by
  have hg : Sa63.good (.fill (Sa63Neutral.nats file) file.length z first step most) = false := by
    show (Sa63.within _ _ _ && inRange z first step most) = false
    rw [h, Bool.and_false]
  rw [fill_eq]
  unfold Sa63.does
  rw [if_pos hg]
  rfl
theorem fill_does {z first step most : Int} {file : List Int} (hn : file.length ≤ 60000) (h : inRange z first step most = true) : Sa63.does (.fill (Sa63Neutral.nats file) file.length z first step most) = match skinOf (Solid.nats file) with
    | none => Sa63.ok (-3)
    | some l => if closed l = false then Sa63.ok (-4) else Sa63.fits (fillNums (Sa63.layer l z) first step) most := by
  have hg : Sa63.good (.fill (Sa63Neutral.nats file) file.length z first step most) = true := by
    show (Sa63.within _ _ _ && inRange z first step most) = true
    rw [Solid.len_ok hn, h]
    rfl
  unfold Sa63.does
  rw [if_neg (by rw [hg]; decide)]
  rfl
theorem fill_none {z first step most : Int} {file : List Int} (hn : file.length ≤ 60000) (h : inRange z first step most = true) (e : skinOf (Solid.nats file) = none) : PySa63.fill z first step most file = [-3] := by
  rw [fill_eq, fill_does hn h, e]
  rfl
theorem fill_open {z first step most : Int} {file : List Int} {l : List Tri} (hn : file.length ≤ 60000) (h : inRange z first step most = true) (e : skinOf (Solid.nats file) = some l) (hc : closed l = false) : PySa63.fill z first step most file = [-4] := by
  rw [fill_eq, fill_does hn h, e]
  dsimp only
  rw [if_pos hc]
  rfl
theorem fill_some {z first step most : Int} {file : List Int} {l : List Tri} (hn : file.length ≤ 60000) (h : inRange z first step most = true) (e : skinOf (Solid.nats file) = some l) (hc : closed l = true) :
    PySa63.fill z first step most file = if most < ((fillNums (Sa63.layer l z) first step).length : Int) then [-1] else ((fillNums (Sa63.layer l z) first step).length : Int) :: fillNums (Sa63.layer l z) first step := by
  rw [fill_eq, fill_does hn h, e]
  dsimp only
  rw [if_neg (by rw [hc]; decide)]
  unfold Sa63.fits
  by_cases c : most < ((fillNums (Sa63.layer l z) first step).length : Int)
  · rw [if_pos c, if_pos c]; rfl
  · rw [if_neg c, if_neg c]
theorem asked_few {z first step most : Int} {file : List Int} (h : PySa63.fill_asked z first step most file = true) : (PySa63.fill z first step most file).length < 1000000 := by
  have h' : (Sa63Neutral.file (file.length : Int) file && (Sa63Neutral.whole32 z && (Sa63Neutral.whole32 first && (Sa63Neutral.whole32 step && (Sa63Neutral.whole32 most && decide ((PySa63.fill z first step most file).length < 1000000)))))) = true := h
  simp only [Bool.and_eq_true] at h'
  exact of_decide_eq_true h'.2.2.2.2.2
theorem sum_nonneg : ∀ {l : List Int}, (∀ x ∈ l, 0 ≤ x) → 0 ≤ l.sum
  | [], _ => by simp
  | a :: l, h => by
    have ih := sum_nonneg (l := l) fun x hx => h x (List.mem_cons_of_mem _ hx)
    have := h a (by simp)
    rw [List.sum_cons]
    omega
theorem lineF_is (lp : List (List (Int × Int))) (y : Int) : lineF (fun y => (rsides lp).filterMap (crossed y)) y = yNums lp y := by
  have e : sortI ((rsides lp).filterMap (crossed y)) = crossings lp y := by
    refine Solid.crossings_is (List.mergeSort_perm _ _) ?_
    have := List.pairwise_mergeSort (le := fun (a b : Int) => decide (a ≤ b)) (fun a b c h1 h2 => decide_eq_true (by have := of_decide_eq_true h1; have := of_decide_eq_true h2; omega)) (fun a b => by
      rw [Bool.or_eq_true, decide_eq_true_iff, decide_eq_true_iff]; omega) ((rsides lp).filterMap (crossed y))
    exact this.imp fun h => of_decide_eq_true h
  unfold lineF Solid.yNums
  rw [e, Solid.crossings_len]
def spFill (K : PySem.W.Frag) : Sp := fun vs H Q _ => ∃ (z first step most : Int) (a : Addr) (ns : List Int), vs = [.int z, .int first, .int step, .int most, .ref a] ∧ SqL K H a (ns.map V.int) ∧ Bytes ns ∧ ns.length ≤ 60000 ∧ (PySa63.fill z first step most ns).length < 1000000 ∧
  ∀ (H' : Hp) (p : Addr), H' p = some (.lst ((PySa63.fill z first step most ns).map V.int)) → Q (.ref p) H'
section
variable {P : Program} {w : World} {K : PySem.W.Frag} {mg : Str → Option Value} {base : Heap}
theorem scFill : FnScope ["z", "first", "step", "most", "file", "triangles", "sides", "numbers"] ["z", "first", "step", "most", "file"] (defScope sFill) := ⟨rfl, rfl, rfl, by decide +kernel, rfl, by decide +kernel, by decide +kernel⟩
theorem ok_fill {f C C2 : Addr} {fd : FuncData} (F : Fun K "fill" "fill" sFill f fd) (T : Txt K mg C) (O : TxtO K mg C C2) (M : TxtM mg) (DR : Def P w K mg base CX0 1 "is_within_reach" ["number"] spReach)
    (DS : Def P w K mg base (CXF P w) 6 "read_closed_skin" ["file"] (spSkin K C C2)) (DL : Def P w K mg base CX0 3 "cut_loops" ["triangles", "z"] (spLoops K)) (DG : Def P w K mg base CX0 2 "rising_sides" ["loops"] (spSides K))
    (DN : Def P w K mg base CX0 2 "count_line_numbers" ["sides", "first", "step"] (spCountNums K)) (DX : Def P w K mg base CX0 2 "crossings_by_line" ["sides", "first", "step"] (spCross K)) (DM : Def P w K mg base CX0 1 "line_numbers" ["crossings"] (spLineNums K)) :
    FnOk P w K mg base CX0 7 f fd ["z", "first", "step", "most", "file"] (spFill K) := by
  refine F.ok scFill (fun vs H Q E h => ?_) (fun cdv A outer s H vs Q E hr h => ?_)
  · obtain ⟨z, first, step, most, a, ns, rfl, _⟩ := h
    rfl
  · obtain ⟨z, first, step, most, a, ns, rfl, hS, hB, hn, hask, k⟩ := h
    have hr1 : Room 1 _ := hr.mono (by decide)
    have hr2 : Room 2 _ := hr.mono (by decide)
    have hr3 : Room 3 _ := hr.mono (by decide)
    refine ⟨_, pss_cons (ps_if (pt_not (pw_and (pt_val (pe_def DR hr1 pass0 (pa_cons (pv 0) pa_nil))) (pw_and (pt_val (pe_def DR hr1 pass0 (pa_cons (pv 1) pa_nil))) (pw_and (pt_chain op_le op_le pe_int (pv 2) (pe_con T.farthest)) (pw_and1 (pt_cmpR op_ge (pv 3) pe_int (nomark _)))))).pt)
        (pss_one (ps_ret (pe_lst (pa_cons (pe_con M.outOf) pa_nil)))) pss_nil)
      (pss_cons (ps_try2 (E := fun c _ H' => (c = .ref C ∧ PySa63.fill z first step most ns = [-3]) ∨ (c = .ref C2 ∧ PySa63.fill z first step most ns = [-4])) ⟨_, _, _, rfl, rfl, rfl⟩ rfl T.wrong rfl O.opn O.m11 O.m21 O.m22
        (fun pn => pss_one (ps_set (i := 5) scFill.nd rfl (Or.inl rfl) (pe_def DS hr (passes_of takes_tried) (pa_cons (pv 4) pa_nil))))
        (fun pn e => pss_one (ps_ret (pe_lst (pa_cons (pe_con T.fileWrong) pa_nil)))) (fun pn e => pss_one (ps_ret (pe_lst (pa_cons (pe_con O.skinOpen) pa_nil)))))
      (pss_cons (ps_set (i := 6) scFill.nd rfl (Or.inl rfl) (pe_def DG hr2 pass0 (pa_cons (pe_def DL hr3 pass0 (pa_cons (pv 5) (pa_cons (pv 0) pa_nil))) pa_nil)))
      (pss_cons (ps_if (pt_cmpR op_gt (pe_def DN hr2 pass0 (pa_cons (pv 6) (pa_cons (pv 1) (pa_cons (pv 2) pa_nil)))) (pv 3) (nomark _)) (pss_one (ps_ret (pe_lst (pa_cons (pe_con M.moreMost) pa_nil)))) pss_nil)
      (pss_cons (ps_set (i := 7) scFill.nd rfl (Or.inl rfl) (pe_def DM hr1 pass0 (pa_cons (pe_def DX hr2 pass0 (pa_cons (pv 6) (pa_cons (pv 1) (pa_cons (pv 2) pa_nil)))) pa_nil)))
      (pss_one (ps_ret (pe_op op_cat (pe_lst (pa_cons (pe_callB call_len_seq rfl T.len PySem.boot_len (pa_cons (pv 7) pa_nil)) pa_nil)) (pv 7)))))))), ?_⟩
    have out : inRange z first step most = false → ∀ (p : Addr) (H0 : Hp), Q (.ref p) (upd H0 p (.lst [.int (-2)])) := fun hh p H0 => k _ p (by rw [upd_same, fill_out hh]; rfl)
    have hr0 : inRange z first step most = (Sa63.within z (-Sa63.FAR) Sa63.FAR && (Sa63.within first (-Sa63.FAR) Sa63.FAR && ((decide (1 ≤ step) && decide (step ≤ 1000000)) && decide (0 ≤ most)))) := rfl
    refine ⟨_, rfl, z, rfl, _, rfl, ?_⟩
    cases hz : Sa63.within z (-Sa63.FAR) Sa63.FAR with
    | false => exact iteF' rfl (iteT' rfl ⟨by decide, fun p hp => out (by rw [hr0, hz]; rfl) p _⟩)
    | true =>
    refine iteT' rfl ?_
    refine ⟨_, rfl, first, rfl, _, rfl, ?_⟩
    cases hf : Sa63.within first (-Sa63.FAR) Sa63.FAR with
    | false => exact iteF' rfl (iteT' rfl ⟨by decide, fun p hp => out (by rw [hr0, hz, hf]; rfl) p _⟩)
    | true =>
    refine iteT' rfl ?_
    refine ⟨_, rfl, _, _, rfl, rfl, _, rfl, ?_⟩
    cases hs1 : decide (1 ≤ step) with
    | false => exact iteF' rfl ⟨_, rfl, iteF' rfl (iteT' rfl ⟨by decide, fun p hp => out (by rw [hr0, hz, hf, hs1]; rfl) p _⟩)⟩
    | true =>
    refine iteT' rfl ?_
    refine ⟨_, _, rfl, rfl, _, rfl, ?_⟩
    cases hs2 : decide (step ≤ 1000000) with
    | false => exact iteF' rfl (iteT' rfl ⟨by decide, fun p hp => out (by rw [hr0, hz, hf, hs1, hs2]; rfl) p _⟩)
    | true =>
    refine iteT' rfl ?_
    refine ⟨_, rfl, _, _, rfl, rfl, _, rfl, ?_⟩
    cases hm0 : decide (0 ≤ most) with
    | false => exact iteT' rfl ⟨by decide, fun p hp => out (by rw [hr0, hz, hf, hs1, hs2, hm0]; rfl) p _⟩
    | true =>
    refine iteF' rfl ?_
    have hin : inRange z first step most = true := by rw [hr0, hz, hf, hs1, hs2, hm0]; rfl
    have st1 : 0 < step := by have := of_decide_eq_true hs1; omega
    have st2 : step ≤ 1000000 := of_decide_eq_true hs2
    have fsm : SmallI first := by
      unfold Sa63.within Sa63.FAR at hf
      rw [Bool.and_eq_true, decide_eq_true_iff, decide_eq_true_iff] at hf
      exact hf
    refine ⟨⟨_, rfl, a, ns, rfl, hS, hB, fun l hl hc hn1 H1 p as s1 hp hT => ?_, fun e H1 s1 => .inl ⟨rfl, fill_none hn hin e⟩, fun l e hc H1 s1 => .inr ⟨rfl, fill_open hn hin e hc⟩⟩, ?_⟩
    · obtain ⟨small, _⟩ := skin_facts hl
      have hsome := fill_some hn hin hl hc
      refine ⟨_, rfl, _, rfl, p, as, l, z, rfl, SqL.of hp, hT, hn1, hc, fun t ht => (small t ht).1, fun H2 q bs s2 hq hbs lf => ?_⟩
      generalize Sa63.layer l z = lp at hsome hbs lf
      obtain ⟨lf1, lf2, lf3⟩ := lf
      refine ⟨q, bs, lp, rfl, SqL.of hq, hbs, lf2, fun H3 r qs s3 hr3' hqs => ?_⟩
      have near : NearY lp := fun ps hps pt hpt => (lf3 ps hps pt hpt).2.2
      have rl : (rsides lp).length ≤ 20000 := by rw [rsides_len]; exact lf2
      have rsm : ∀ s ∈ rsides lp, s.1.2 ≤ s.2.2 ∧ SmallS s := fun s hs => by
        obtain ⟨ps, hps, m1, m2⟩ := Solid.rsides_mem hs
        obtain ⟨x1, x2⟩ := lf3 ps hps _ m1
        obtain ⟨x3, x4⟩ := lf3 ps hps _ m2
        exact ⟨Solid.rsides_low hs, x1, x2, x3, x4⟩
      have flen := Solid.fill_len (lp := lp) (first := first) st1 fsm.2 near
      have sumnn : 0 ≤ (((rsides lp).map (span first step)).map fun sp => sp.2 - sp.1).sum := sum_nonneg fun x hx => by
        obtain ⟨sp, hsp, rfl⟩ := List.mem_map.mp hx
        have := Solid.spans_ok st1 fsm.2 near sp hsp
        omega
      refine ⟨_, rfl, _, rfl, _, rfl, r, qs, rsides lp, first, step, rfl, SqL.of hr3', hqs, rl, fun s hs => ⟨(rsm s hs).1, (rsm s hs).2.2.2.2.2⟩, st1, st2, fsm.2, fun H4 s4 => ?_⟩
      rw [← flen]
      refine ⟨_, rfl, _, _, rfl, rfl, _, rfl, ?_⟩
      refine ite2 (fun c => ?_) fun c => ?_
      · have c : most < ((fillNums lp first step).length : Int) := of_decide_eq_true c
        rw [if_pos c] at hsome
        exact ⟨by decide, fun p hp => k _ p (by rw [upd_same, hsome]; rfl)⟩
      · have c : ¬ most < ((fillNums lp first step).length : Int) := fun q => c (decide_eq_true q)
        rw [if_neg c] at hsome
        have few : (fillNums lp first step).length ≤ 1000000 := by
          rw [hsome, List.length_cons] at hask
          omega
        have hqs4 : Paired (SideAt H4) qs (rsides lp) := Paired.mapP hqs fun _ _ z => z.same s4
        refine ⟨_, rfl, _, rfl, _, rfl, r, qs, rsides lp, first, step, rfl, SqL.of (s4 _ _ hr3'), hqs4, rl, rsm, st1, st2, fsm, by omega, fun H5 d ps s5 cr => ?_⟩
        refine ⟨d, first, step, ps, fun y => (rsides lp).filterMap (crossed y), rfl, st1, cr, fun ys hperm hsort => ?_⟩
        have hnd : ys.Nodup := by
          refine hperm.symm.nodup ?_
          have e : (ps.map fun p => lineY first step p.1) = (ps.map (·.1)).map (lineY first step) := by rw [List.map_map]; rfl
          rw [e]
          exact List.Pairwise.map _ (fun x y hxy he => hxy (Solid.lineY_inj st1 he)) cr.nd
        have hys : ys = (hits lp first step).map (lineY first step) := by
          refine Solid.keys_eq st1 fsm.2 near hnd hsort fun y => ?_
          rw [hperm.mem_iff, List.mem_map]
          constructor
          · rintro ⟨p, hp, rfl⟩
            exact ⟨p.1, rfl, (cr.keys p.1).mp (List.mem_map.mpr ⟨p, hp, rfl⟩)⟩
          · rintro ⟨kk, rfl, h⟩
            obtain ⟨p, hp, e⟩ := List.mem_map.mp ((cr.keys kk).mpr h)
            exact ⟨p, hp, by rw [e]⟩
        have hnums : ys.flatMap (lineF fun y => (rsides lp).filterMap (crossed y)) = fillNums lp first step := by
          rw [Solid.fill_nums, ← hys]
          congr 1
          funext y
          exact lineF_is lp y
        rw [hnums]
        refine ⟨few, fun H6 g s6 hg => ?_⟩
        generalize fillNums lp first step = nums at hsome few hg
        refine ⟨_, rfl, g, _, rfl, .inl (SqL.of hg), (by show 1 ≤ sizeLine; decide), fun g2 hg2 => ?_⟩
        rw [List.length_map]
        refine ⟨_, rfl, g2, g, _, _, rfl, rfl, upd_same, same_new hg2 _ _ hg, ?_, fun y hy => k _ y ?_⟩
        · rw [List.length_map]
          show 1 + nums.length ≤ sizeLine
          exact Nat.le_of_lt (Nat.lt_of_le_of_lt (show 1 + nums.length ≤ 1000001 by omega) (by decide))
        · rw [upd_same, hsome]
          rfl
    · rintro C' σ' H' (⟨e, q⟩ | ⟨e, q⟩)
      · cases e
        exact .inl ⟨rfl, by decide, fun p hp => k _ p (by rw [upd_same, q]; rfl)⟩
      · cases e
        exact .inr ⟨rfl, by decide, fun p hp => k _ p (by rw [upd_same, q]; rfl)⟩
end
end Sol
end
section
set_option maxRecDepth 100000
namespace Sol
open PySem PySem.W
theorem ask_fill (a : Codec.denoteAll PySem.Challenge.rw_solidlayers_s04_fill.args) (hask : Codec.app PySem.Challenge.rw_solidlayers_s04_fill.args PySem.Challenge.rw_solidlayers_s04_fill.asked a = true) : PySa63.fill_asked a.1 a.2.1 a.2.2.1 a.2.2.2.1 a.2.2.2.2.1 = true := by
  have key : ∀ g : Int → Int → Int → Int → List Int → Bool, Codec.app PySem.Challenge.fa_solidlayers_s04_fill g a = g a.1 a.2.1 a.2.2.1 a.2.2.2.1 a.2.2.2.2.1 := fun g => rfl
  unfold PySem.Challenge.rw_solidlayers_s04_fill at hask
  dsimp only at hask
  exact (key _).symm.trans hask
end Sol
end
section
set_option Elab.async false
set_option linter.all false
set_option maxRecDepth 100000
set_option maxHeartbeats 2000000
namespace Sol
open PySem PySem.Spec PyProof.Rows L2
open PySem.W (Codec)
theorem all_mk {P : Program} {w : World} {K : PySem.W.Frag} {h : Heap} {mg : Str → Option Value} {fa C C2 f0 f1 f2 f3 f4 f5 f6 f7 f8 f9 f10 f11 f12 f13 f14 f15 f16 f17 f18 f19 f20 f21 f22 f23 : Addr} (X : K.In h) (G : h.Ns mainGlobals mg) (hfa : mg "fill" = some (.ref fa))
    {od0 an0 od1 an1 od2 an2 od3 an3 od4 an4 od5 an5 od6 an6 od7 an7 od8 an8 od9 an9 od10 an10 od11 an11 od12 an12 od13 an13 od14 an14 od15 an15 od16 an16 od17 an17 od18 an18 od19 an19 od20 an20 od21 an21 od22 an22 od23 an23 : Option Addr} {sl0 sl1 sl2 sl3 sl4 sl5 sl6 sl7 sl8 sl9 sl10 sl11 sl12 sl13 sl14 sl15 sl16 sl17 sl18 sl19 sl20 sl21 sl22 sl23 : Array (Option Value)} {u0 u1 u2 u3 u4 u5 u6 u7 u8 u9 u10 u11 u12 u13 u14 u15 u16 u17 : Tok}
    {oc0 kV0 dc0 pm0 cd0 ct0 oc1 kV1 dc1 pm1 cd1 ct1 oc2 kV2 dc2 pm2 cd2 ct2 oc3 kV3 dc3 pm3 cd3 ct3 oc4 kV4 dc4 pm4 cd4 ct4 oc5 kV5 dc5 pm5 cd5 ct5 oc6 kV6 dc6 pm6 cd6 ct6 oc7 kV7 dc7 pm7 cd7 ct7 oc8 kV8 dc8 pm8 cd8 ct8 oc9 kV9 dc9 pm9 cd9 ct9 oc10 kV10 dc10 pm10 cd10 ct10 oc11 kV11 dc11 pm11 cd11 ct11 oc12 kV12 dc12 pm12 cd12 ct12 oc13 kV13 dc13 pm13 cd13 ct13 oc14 kV14 dc14 pm14 cd14 ct14 oc15 kV15 dc15 pm15 cd15 ct15 oc16 kV16 dc16 pm16 cd16 ct16 oc17 kV17 dc17 pm17 cd17 ct17 oc18 kV18 dc18 pm18 cd18 ct18 oc19 kV19 dc19 pm19 cd19 ct19 oc20 kV20 dc20 pm20 cd20 ct20 oc21 kV21 dc21 pm21 cd21 ct21 oc22 kV22 dc22 pm22 cd22 ct22 oc23 kV23 dc23 pm23 cd23 ct23 : Value}
    (aC : PySem.W.nsIn K mainGlobals "WrongFile" = some (some (.ref C)))
    (xC : PySem.W.excIn K C [.type "Exception", .type "BaseException", .type "object"] "Exception.__new__" = true)
    (aO : PySem.W.nsIn K mainGlobals "OpenSkin" = some (some (.ref C2)))
    (xO : PySem.W.excIn K C2 [.type "Exception", .type "BaseException", .type "object"] "Exception.__new__" = true)
    (m11 : PySem.W.exmOne K (.ref C) (.ref C) = some true)
    (m21 : PySem.W.exmOne K (.ref C2) (.ref C) = some false)
    (m22 : PySem.W.exmOne K (.ref C2) (.ref C2) = some true)
    (nu0 : PySem.W.nsIn K mainGlobals "FILE_IS_WRONG" = some (some (.int (-3) u0)))
    (nu1 : PySem.W.nsIn K mainGlobals "COUNT_START" = some (some (.int 80 u1)))
    (nu2 : PySem.W.nsIn K mainGlobals "TRIANGLES_START" = some (some (.int 84 u2)))
    (nu3 : PySem.W.nsIn K mainGlobals "TRIANGLE_BYTES" = some (some (.int 50 u3)))
    (nu4 : PySem.W.nsIn K mainGlobals "FIRST_CORNER" = some (some (.int 12 u4)))
    (nu5 : PySem.W.nsIn K mainGlobals "CORNER_BYTES" = some (some (.int 12 u5)))
    (nu6 : PySem.W.nsIn K mainGlobals "SINGLE_BYTES" = some (some (.int 4 u6)))
    (nu7 : PySem.W.nsIn K mainGlobals "MOST_TRIANGLES" = some (some (.int 20000 u7)))
    (nu8 : PySem.W.nsIn K mainGlobals "FARTHEST" = some (some (.int 1000000 u8)))
    (nu9 : PySem.W.nsIn K mainGlobals "FRACTION_BITS" = some (some (.int 23 u9)))
    (nu10 : PySem.W.nsIn K mainGlobals "HIDDEN_BIT" = some (some (.int 8388608 u10)))
    (nu11 : PySem.W.nsIn K mainGlobals "WHOLE_EXPONENT" = some (some (.int 150 u11)))
    (nu12 : PySem.W.nsIn K mainGlobals "SKIN_IS_OPEN" = some (some (.int (-4) u12)))
    (nu13 : PySem.W.nsIn K mainGlobals "MORE_THAN_MOST" = some (some (.int (-1) u13)))
    (nu14 : PySem.W.nsIn K mainGlobals "OUT_OF_RANGE" = some (some (.int (-2) u14)))
    (nu15 : PySem.W.nsIn K mainGlobals "X" = some (some (.int 0 u15)))
    (nu16 : PySem.W.nsIn K mainGlobals "Y" = some (some (.int 1 u16)))
    (nu17 : PySem.W.nsIn K mainGlobals "Z" = some (some (.int 2 u17)))
    (b_range : PySem.W.nsIn K mainGlobals "range" = some none)
    (b_tuple : PySem.W.nsIn K mainGlobals "tuple" = some none)
    (b_len : PySem.W.nsIn K mainGlobals "len" = some none)
    (b_list : PySem.W.nsIn K mainGlobals "list" = some none)
    (b_min : PySem.W.nsIn K mainGlobals "min" = some none)
    (b_max : PySem.W.nsIn K mainGlobals "max" = some none)
    (b_all : PySem.W.nsIn K mainGlobals "all" = some none)
    (b_enumerate : PySem.W.nsIn K mainGlobals "enumerate" = some none)
    (b_sum : PySem.W.nsIn K mainGlobals "sum" = some none)
    (b_sorted : PySem.W.nsIn K mainGlobals "sorted" = some none)
    (a0 : PySem.W.nsIn K mainGlobals "is_within_reach" = some (some (.ref f0)))
    (l0 : K.lookup f0 = some ⟨oc0, od0, .func (PySem.W.fnOf "is_within_reach" "is_within_reach" (defArgs sReach) (defBody sReach) (defScope sReach) .none kV0 dc0 pm0 an0 cd0 ct0), sl0⟩)
    (c0 : PySem.W.codeIn K cd0 "is_within_reach" = true)
    (k0 : PySem.W.keepIn K (.ref f0) = true)
    (a1 : PySem.W.nsIn K mainGlobals "read_bits" = some (some (.ref f1)))
    (l1 : K.lookup f1 = some ⟨oc1, od1, .func (PySem.W.fnOf "read_bits" "read_bits" (defArgs sReadBits) (defBody sReadBits) (defScope sReadBits) .none kV1 dc1 pm1 an1 cd1 ct1), sl1⟩)
    (c1 : PySem.W.codeIn K cd1 "read_bits" = true)
    (k1 : PySem.W.keepIn K (.ref f1) = true)
    (a2 : PySem.W.nsIn K mainGlobals "read_count" = some (some (.ref f2)))
    (l2 : K.lookup f2 = some ⟨oc2, od2, .func (PySem.W.fnOf "read_count" "read_count" (defArgs sReadCount) (defBody sReadCount) (defScope sReadCount) .none kV2 dc2 pm2 an2 cd2 ct2), sl2⟩)
    (c2 : PySem.W.codeIn K cd2 "read_count" = true)
    (k2 : PySem.W.keepIn K (.ref f2) = true)
    (a3 : PySem.W.nsIn K mainGlobals "shift_to_nearest" = some (some (.ref f3)))
    (l3 : K.lookup f3 = some ⟨oc3, od3, .func (PySem.W.fnOf "shift_to_nearest" "shift_to_nearest" (defArgs sNear) (defBody sNear) (defScope sNear) .none kV3 dc3 pm3 an3 cd3 ct3), sl3⟩)
    (c3 : PySem.W.codeIn K cd3 "shift_to_nearest" = true)
    (k3 : PySem.W.keepIn K (.ref f3) = true)
    (a4 : PySem.W.nsIn K mainGlobals "coordinate" = some (some (.ref f4)))
    (l4 : K.lookup f4 = some ⟨oc4, od4, .func (PySem.W.fnOf "coordinate" "coordinate" (defArgs sCoord) (defBody sCoord) (defScope sCoord) .none kV4 dc4 pm4 an4 cd4 ct4), sl4⟩)
    (c4 : PySem.W.codeIn K cd4 "coordinate" = true)
    (k4 : PySem.W.keepIn K (.ref f4) = true)
    (a5 : PySem.W.nsIn K mainGlobals "read_corner" = some (some (.ref f5)))
    (l5 : K.lookup f5 = some ⟨oc5, od5, .func (PySem.W.fnOf "read_corner" "read_corner" (defArgs sReadCorner) (defBody sReadCorner) (defScope sReadCorner) .none kV5 dc5 pm5 an5 cd5 ct5), sl5⟩)
    (c5 : PySem.W.codeIn K cd5 "read_corner" = true)
    (k5 : PySem.W.keepIn K (.ref f5) = true)
    (a6 : PySem.W.nsIn K mainGlobals "read_triangle" = some (some (.ref f6)))
    (l6 : K.lookup f6 = some ⟨oc6, od6, .func (PySem.W.fnOf "read_triangle" "read_triangle" (defArgs sReadTri) (defBody sReadTri) (defScope sReadTri) .none kV6 dc6 pm6 an6 cd6 ct6), sl6⟩)
    (c6 : PySem.W.codeIn K cd6 "read_triangle" = true)
    (k6 : PySem.W.keepIn K (.ref f6) = true)
    (a7 : PySem.W.nsIn K mainGlobals "counts" = some (some (.ref f7)))
    (l7 : K.lookup f7 = some ⟨oc7, od7, .func (PySem.W.fnOf "counts" "counts" (defArgs sCounts) (defBody sCounts) (defScope sCounts) .none kV7 dc7 pm7 an7 cd7 ct7), sl7⟩)
    (c7 : PySem.W.codeIn K cd7 "counts" = true)
    (k7 : PySem.W.keepIn K (.ref f7) = true)
    (a8 : PySem.W.nsIn K mainGlobals "read_triangles" = some (some (.ref f8)))
    (l8 : K.lookup f8 = some ⟨oc8, od8, .func (PySem.W.fnOf "read_triangles" "read_triangles" (defArgs sReadTris) (defBody sReadTris) (defScope sReadTris) .none kV8 dc8 pm8 an8 cd8 ct8), sl8⟩)
    (c8 : PySem.W.codeIn K cd8 "read_triangles" = true)
    (k8 : PySem.W.keepIn K (.ref f8) = true)
    (a9 : PySem.W.nsIn K mainGlobals "edges_of" = some (some (.ref f9)))
    (l9 : K.lookup f9 = some ⟨oc9, od9, .func (PySem.W.fnOf "edges_of" "edges_of" (defArgs sEdges) (defBody sEdges) (defScope sEdges) .none kV9 dc9 pm9 an9 cd9 ct9), sl9⟩)
    (c9 : PySem.W.codeIn K cd9 "edges_of" = true)
    (k9 : PySem.W.keepIn K (.ref f9) = true)
    (a10 : PySem.W.nsIn K mainGlobals "other_way" = some (some (.ref f10)))
    (l10 : K.lookup f10 = some ⟨oc10, od10, .func (PySem.W.fnOf "other_way" "other_way" (defArgs sOther) (defBody sOther) (defScope sOther) .none kV10 dc10 pm10 an10 cd10 ct10), sl10⟩)
    (c10 : PySem.W.codeIn K cd10 "other_way" = true)
    (k10 : PySem.W.keepIn K (.ref f10) = true)
    (a11 : PySem.W.nsIn K mainGlobals "is_closed" = some (some (.ref f11)))
    (l11 : K.lookup f11 = some ⟨oc11, od11, .func (PySem.W.fnOf "is_closed" "is_closed" (defArgs sClosed) (defBody sClosed) (defScope sClosed) .none kV11 dc11 pm11 an11 cd11 ct11), sl11⟩)
    (c11 : PySem.W.codeIn K cd11 "is_closed" = true)
    (k11 : PySem.W.keepIn K (.ref f11) = true)
    (a12 : PySem.W.nsIn K mainGlobals "read_closed_skin" = some (some (.ref f12)))
    (l12 : K.lookup f12 = some ⟨oc12, od12, .func (PySem.W.fnOf "read_closed_skin" "read_closed_skin" (defArgs sSkin) (defBody sSkin) (defScope sSkin) .none kV12 dc12 pm12 an12 cd12 ct12), sl12⟩)
    (c12 : PySem.W.codeIn K cd12 "read_closed_skin" = true)
    (k12 : PySem.W.keepIn K (.ref f12) = true)
    (a13 : PySem.W.nsIn K mainGlobals "rises_through" = some (some (.ref f13)))
    (l13 : K.lookup f13 = some ⟨oc13, od13, .func (PySem.W.fnOf "rises_through" "rises_through" (defArgs sRises) (defBody sRises) (defScope sRises) .none kV13 dc13 pm13 an13 cd13 ct13), sl13⟩)
    (c13 : PySem.W.codeIn K cd13 "rises_through" = true)
    (k13 : PySem.W.keepIn K (.ref f13) = true)
    (a14 : PySem.W.nsIn K mainGlobals "ways_onward" = some (some (.ref f14)))
    (l14 : K.lookup f14 = some ⟨oc14, od14, .func (PySem.W.fnOf "ways_onward" "ways_onward" (defArgs sWays) (defBody sWays) (defScope sWays) .none kV14 dc14 pm14 an14 cd14 ct14), sl14⟩)
    (c14 : PySem.W.codeIn K cd14 "ways_onward" = true)
    (k14 : PySem.W.keepIn K (.ref f14) = true)
    (a15 : PySem.W.nsIn K mainGlobals "cut_at" = some (some (.ref f15)))
    (l15 : K.lookup f15 = some ⟨oc15, od15, .func (PySem.W.fnOf "cut_at" "cut_at" (defArgs sCut) (defBody sCut) (defScope sCut) .none kV15 dc15 pm15 an15 cd15 ct15), sl15⟩)
    (c15 : PySem.W.codeIn K cd15 "cut_at" = true)
    (k15 : PySem.W.keepIn K (.ref f15) = true)
    (a16 : PySem.W.nsIn K mainGlobals "cut_loops" = some (some (.ref f16)))
    (l16 : K.lookup f16 = some ⟨oc16, od16, .func (PySem.W.fnOf "cut_loops" "cut_loops" (defArgs sLoops) (defBody sLoops) (defScope sLoops) .none kV16 dc16 pm16 an16 cd16 ct16), sl16⟩)
    (c16 : PySem.W.codeIn K cd16 "cut_loops" = true)
    (k16 : PySem.W.keepIn K (.ref f16) = true)
    (a17 : PySem.W.nsIn K mainGlobals "rising_sides" = some (some (.ref f17)))
    (l17 : K.lookup f17 = some ⟨oc17, od17, .func (PySem.W.fnOf "rising_sides" "rising_sides" (defArgs sSides) (defBody sSides) (defScope sSides) .none kV17 dc17 pm17 an17 cd17 ct17), sl17⟩)
    (c17 : PySem.W.codeIn K cd17 "rising_sides" = true)
    (k17 : PySem.W.keepIn K (.ref f17) = true)
    (a18 : PySem.W.nsIn K mainGlobals "lines_below" = some (some (.ref f18)))
    (l18 : K.lookup f18 = some ⟨oc18, od18, .func (PySem.W.fnOf "lines_below" "lines_below" (defArgs sBelow) (defBody sBelow) (defScope sBelow) .none kV18 dc18 pm18 an18 cd18 ct18), sl18⟩)
    (c18 : PySem.W.codeIn K cd18 "lines_below" = true)
    (k18 : PySem.W.keepIn K (.ref f18) = true)
    (a19 : PySem.W.nsIn K mainGlobals "count_crossed_lines" = some (some (.ref f19)))
    (l19 : K.lookup f19 = some ⟨oc19, od19, .func (PySem.W.fnOf "count_crossed_lines" "count_crossed_lines" (defArgs sCountLines) (defBody sCountLines) (defScope sCountLines) .none kV19 dc19 pm19 an19 cd19 ct19), sl19⟩)
    (c19 : PySem.W.codeIn K cd19 "count_crossed_lines" = true)
    (k19 : PySem.W.keepIn K (.ref f19) = true)
    (a20 : PySem.W.nsIn K mainGlobals "count_line_numbers" = some (some (.ref f20)))
    (l20 : K.lookup f20 = some ⟨oc20, od20, .func (PySem.W.fnOf "count_line_numbers" "count_line_numbers" (defArgs sCountNums) (defBody sCountNums) (defScope sCountNums) .none kV20 dc20 pm20 an20 cd20 ct20), sl20⟩)
    (c20 : PySem.W.codeIn K cd20 "count_line_numbers" = true)
    (k20 : PySem.W.keepIn K (.ref f20) = true)
    (a21 : PySem.W.nsIn K mainGlobals "crossings_by_line" = some (some (.ref f21)))
    (l21 : K.lookup f21 = some ⟨oc21, od21, .func (PySem.W.fnOf "crossings_by_line" "crossings_by_line" (defArgs sCross) (defBody sCross) (defScope sCross) .none kV21 dc21 pm21 an21 cd21 ct21), sl21⟩)
    (c21 : PySem.W.codeIn K cd21 "crossings_by_line" = true)
    (k21 : PySem.W.keepIn K (.ref f21) = true)
    (a22 : PySem.W.nsIn K mainGlobals "line_numbers" = some (some (.ref f22)))
    (l22 : K.lookup f22 = some ⟨oc22, od22, .func (PySem.W.fnOf "line_numbers" "line_numbers" (defArgs sLineNums) (defBody sLineNums) (defScope sLineNums) .none kV22 dc22 pm22 an22 cd22 ct22), sl22⟩)
    (c22 : PySem.W.codeIn K cd22 "line_numbers" = true)
    (k22 : PySem.W.keepIn K (.ref f22) = true)
    (a23 : PySem.W.nsIn K mainGlobals "fill" = some (some (.ref f23)))
    (l23 : K.lookup f23 = some ⟨oc23, od23, .func (PySem.W.fnOf "fill" "fill" (defArgs sFill) (defBody sFill) (defScope sFill) .none kV23 dc23 pm23 an23 cd23 ct23), sl23⟩)
    (c23 : PySem.W.codeIn K cd23 "fill" = true)
    (k23 : PySem.W.keepIn K (.ref f23) = true)
    : ∃ fd : FuncData, (∀ (s : Shared) (us : List Value), us.length = (["z", "first", "step", "most", "file"] : List Str).length → BindsTo s fd ⟨us, []⟩ ((["z", "first", "step", "most", "file"] : List Str).zip us)) ∧ ∀ base : Heap, K.In base → base.Ns mainGlobals mg → FnOk P w K mg base CX0 7 fa fd ["z", "first", "step", "most", "file"] (spFill K) := by
  have e := hfa.symm.trans (PySem.W.mg_of X G a23)
  cases e
  have T : Txt K mg C := ⟨PySem.W.mg_of X G aC, xC, ⟨_, PySem.W.mg_of X G nu0⟩, ⟨_, PySem.W.mg_of X G nu1⟩, ⟨_, PySem.W.mg_of X G nu2⟩, ⟨_, PySem.W.mg_of X G nu3⟩, ⟨_, PySem.W.mg_of X G nu4⟩, ⟨_, PySem.W.mg_of X G nu5⟩, ⟨_, PySem.W.mg_of X G nu6⟩, ⟨_, PySem.W.mg_of X G nu7⟩, ⟨_, PySem.W.mg_of X G nu8⟩, ⟨_, PySem.W.mg_of X G nu9⟩, ⟨_, PySem.W.mg_of X G nu10⟩, ⟨_, PySem.W.mg_of X G nu11⟩, PySem.W.mg_none_of X G b_range, PySem.W.mg_none_of X G b_tuple, PySem.W.mg_none_of X G b_len, PySem.W.mg_none_of X G b_list, PySem.W.mg_none_of X G b_min, PySem.W.mg_none_of X G b_max, PySem.W.mg_none_of X G b_all, PySem.W.mg_none_of X G b_enumerate, PySem.W.mg_none_of X G b_sum, PySem.W.mg_none_of X G b_sorted⟩
  have O : TxtO K mg C C2 := ⟨PySem.W.mg_of X G aO, xO, m11, m21, m22, ⟨_, PySem.W.mg_of X G nu12⟩⟩
  have M : TxtM mg := ⟨⟨_, PySem.W.mg_of X G nu13⟩, ⟨_, PySem.W.mg_of X G nu14⟩, ⟨_, PySem.W.mg_of X G nu15⟩, ⟨_, PySem.W.mg_of X G nu16⟩, ⟨_, PySem.W.mg_of X G nu17⟩⟩
  have F0 := fun_mk (st := sReach) l0 c0 k0
  have b0 := F0.binds (ps := ["number"]) fun _ _ _ _ _ _ us hl => match us, hl with | [_], _ => rfl
  have F1 := fun_mk (st := sReadBits) l1 c1 k1
  have b1 := F1.binds (ps := ["file", "start"]) fun _ _ _ _ _ _ us hl => match us, hl with | [_, _], _ => rfl
  have F2 := fun_mk (st := sReadCount) l2 c2 k2
  have b2 := F2.binds (ps := ["file"]) fun _ _ _ _ _ _ us hl => match us, hl with | [_], _ => rfl
  have F3 := fun_mk (st := sNear) l3 c3 k3
  have b3 := F3.binds (ps := ["amount", "shift"]) fun _ _ _ _ _ _ us hl => match us, hl with | [_, _], _ => rfl
  have F4 := fun_mk (st := sCoord) l4 c4 k4
  have b4 := F4.binds (ps := ["bits"]) fun _ _ _ _ _ _ us hl => match us, hl with | [_], _ => rfl
  have F5 := fun_mk (st := sReadCorner) l5 c5 k5
  have b5 := F5.binds (ps := ["file", "start"]) fun _ _ _ _ _ _ us hl => match us, hl with | [_, _], _ => rfl
  have F6 := fun_mk (st := sReadTri) l6 c6 k6
  have b6 := F6.binds (ps := ["file", "start"]) fun _ _ _ _ _ _ us hl => match us, hl with | [_, _], _ => rfl
  have F7 := fun_mk (st := sCounts) l7 c7 k7
  have b7 := F7.binds (ps := ["triangle"]) fun _ _ _ _ _ _ us hl => match us, hl with | [_], _ => rfl
  have F8 := fun_mk (st := sReadTris) l8 c8 k8
  have b8 := F8.binds (ps := ["file"]) fun _ _ _ _ _ _ us hl => match us, hl with | [_], _ => rfl
  have F9 := fun_mk (st := sEdges) l9 c9 k9
  have b9 := F9.binds (ps := ["triangle"]) fun _ _ _ _ _ _ us hl => match us, hl with | [_], _ => rfl
  have F10 := fun_mk (st := sOther) l10 c10 k10
  have b10 := F10.binds (ps := ["edge"]) fun _ _ _ _ _ _ us hl => match us, hl with | [_], _ => rfl
  have F11 := fun_mk (st := sClosed) l11 c11 k11
  have b11 := F11.binds (ps := ["triangles"]) fun _ _ _ _ _ _ us hl => match us, hl with | [_], _ => rfl
  have F12 := fun_mk (st := sSkin) l12 c12 k12
  have b12 := F12.binds (ps := ["file"]) fun _ _ _ _ _ _ us hl => match us, hl with | [_], _ => rfl
  have F13 := fun_mk (st := sRises) l13 c13 k13
  have b13 := F13.binds (ps := ["edge", "axis", "level"]) fun _ _ _ _ _ _ us hl => match us, hl with | [_, _, _], _ => rfl
  have F14 := fun_mk (st := sWays) l14 c14 k14
  have b14 := F14.binds (ps := ["triangles", "z"]) fun _ _ _ _ _ _ us hl => match us, hl with | [_, _], _ => rfl
  have F15 := fun_mk (st := sCut) l15 c15 k15
  have b15 := F15.binds (ps := ["edge", "axis", "level", "asked"]) fun _ _ _ _ _ _ us hl => match us, hl with | [_, _, _, _], _ => rfl
  have F16 := fun_mk (st := sLoops) l16 c16 k16
  have b16 := F16.binds (ps := ["triangles", "z"]) fun _ _ _ _ _ _ us hl => match us, hl with | [_, _], _ => rfl
  have F17 := fun_mk (st := sSides) l17 c17 k17
  have b17 := F17.binds (ps := ["loops"]) fun _ _ _ _ _ _ us hl => match us, hl with | [_], _ => rfl
  have F18 := fun_mk (st := sBelow) l18 c18 k18
  have b18 := F18.binds (ps := ["y", "first", "step"]) fun _ _ _ _ _ _ us hl => match us, hl with | [_, _, _], _ => rfl
  have F19 := fun_mk (st := sCountLines) l19 c19 k19
  have b19 := F19.binds (ps := ["spans"]) fun _ _ _ _ _ _ us hl => match us, hl with | [_], _ => rfl
  have F20 := fun_mk (st := sCountNums) l20 c20 k20
  have b20 := F20.binds (ps := ["sides", "first", "step"]) fun _ _ _ _ _ _ us hl => match us, hl with | [_, _, _], _ => rfl
  have F21 := fun_mk (st := sCross) l21 c21 k21
  have b21 := F21.binds (ps := ["sides", "first", "step"]) fun _ _ _ _ _ _ us hl => match us, hl with | [_, _, _], _ => rfl
  have F22 := fun_mk (st := sLineNums) l22 c22 k22
  have b22 := F22.binds (ps := ["crossings"]) fun _ _ _ _ _ _ us hl => match us, hl with | [_], _ => rfl
  have F23 := fun_mk (st := sFill) l23 c23 k23
  have D0 : ∀ base : Heap, Def P w K mg base CX0 1 "is_within_reach" ["number"] spReach := fun base => ⟨⟨_, _, ok_reach F0 T, PySem.W.mg_of X G a0, k0, b0⟩⟩
  have D1 : ∀ base : Heap, Def P w K mg base CX0 1 "read_bits" ["file", "start"] (spBits K) := fun base => ⟨⟨_, _, ok_bits F1 T, PySem.W.mg_of X G a1, k1, b1⟩⟩
  have D2 : ∀ base : Heap, Def P w K mg base (CXF P w) 2 "read_count" ["file"] (spCount K C) := fun base => ⟨⟨_, _, ok_count F2 T (D1 base), PySem.W.mg_of X G a2, k2, b2⟩⟩
  have D3 : ∀ base : Heap, Def P w K mg base CX0 1 "shift_to_nearest" ["amount", "shift"] spNear := fun base => ⟨⟨_, _, ok_near F3 T, PySem.W.mg_of X G a3, k3, b3⟩⟩
  have D4 : ∀ base : Heap, Def P w K mg base (CXF P w) 2 "coordinate" ["bits"] (spCoord C) := fun base => ⟨⟨_, _, ok_coord F4 T (D3 base), PySem.W.mg_of X G a4, k4, b4⟩⟩
  have D5 : ∀ base : Heap, Def P w K mg base (CXF P w) 3 "read_corner" ["file", "start"] (spCorner K C) := fun base => ⟨⟨_, _, ok_corner F5 T (D4 base) (D1 base), PySem.W.mg_of X G a5, k5, b5⟩⟩
  have D6 : ∀ base : Heap, Def P w K mg base (CXF P w) 4 "read_triangle" ["file", "start"] (spTri K C) := fun base => ⟨⟨_, _, ok_tri F6 T (D5 base), PySem.W.mg_of X G a6, k6, b6⟩⟩
  have D7 : ∀ base : Heap, Def P w K mg base CX0 1 "counts" ["triangle"] spCounts := fun base => ⟨⟨_, _, ok_counts F7 T, PySem.W.mg_of X G a7, k7, b7⟩⟩
  have D8 : ∀ base : Heap, Def P w K mg base (CXF P w) 5 "read_triangles" ["file"] (spTris K C) := fun base => ⟨⟨_, _, ok_tris F8 T (D2 base) (D6 base) (D7 base), PySem.W.mg_of X G a8, k8, b8⟩⟩
  have D9 : ∀ base : Heap, Def P w K mg base CX0 1 "edges_of" ["triangle"] spEdges := fun base => ⟨⟨_, _, ok_edges F9 T, PySem.W.mg_of X G a9, k9, b9⟩⟩
  have D10 : ∀ base : Heap, Def P w K mg base CX0 1 "other_way" ["edge"] spOther := fun base => ⟨⟨_, _, ok_other F10 T, PySem.W.mg_of X G a10, k10, b10⟩⟩
  have D10P : ∀ base : Heap, Def P w K mg base CX0 1 "other_way" ["edge"] spOtherP := fun base => ⟨⟨_, _, ok_otherP F10 T, PySem.W.mg_of X G a10, k10, b10⟩⟩
  have D11 : ∀ base : Heap, Def P w K mg base CX0 2 "is_closed" ["triangles"] (spClosed K) := fun base => ⟨⟨_, _, ok_closed F11 T (D9 base) (D10 base), PySem.W.mg_of X G a11, k11, b11⟩⟩
  have D12 : ∀ base : Heap, Def P w K mg base (CXF P w) 6 "read_closed_skin" ["file"] (spSkin K C C2) := fun base => ⟨⟨_, _, ok_skin F12 T O (D8 base) (D11 base), PySem.W.mg_of X G a12, k12, b12⟩⟩
  have D13 : ∀ base : Heap, Def P w K mg base CX0 1 "rises_through" ["edge", "axis", "level"] spRises := fun base => ⟨⟨_, _, ok_rises F13 T, PySem.W.mg_of X G a13, k13, b13⟩⟩
  have D14 : ∀ base : Heap, Def P w K mg base CX0 2 "ways_onward" ["triangles", "z"] (spWays K) := fun base => ⟨⟨_, _, ok_ways F14 T M (D9 base) (D10 base) (D13 base), PySem.W.mg_of X G a14, k14, b14⟩⟩
  have D15 : ∀ base : Heap, Def P w K mg base CX0 1 "cut_at" ["edge", "axis", "level", "asked"] spCut := fun base => ⟨⟨_, _, ok_cut F15 T, PySem.W.mg_of X G a15, k15, b15⟩⟩
  have D16 : ∀ base : Heap, Def P w K mg base CX0 3 "cut_loops" ["triangles", "z"] (spLoops K) := fun base => ⟨⟨_, _, ok_loops F16 T M (D14 base) (D15 base), PySem.W.mg_of X G a16, k16, b16⟩⟩
  have D17 : ∀ base : Heap, Def P w K mg base CX0 2 "rising_sides" ["loops"] (spSides K) := fun base => ⟨⟨_, _, ok_sides F17 T M (D10P base), PySem.W.mg_of X G a17, k17, b17⟩⟩
  have D18 : ∀ base : Heap, Def P w K mg base CX0 1 "lines_below" ["y", "first", "step"] spBelow := fun base => ⟨⟨_, _, ok_below F18 T, PySem.W.mg_of X G a18, k18, b18⟩⟩
  have D19 : ∀ base : Heap, Def P w K mg base CX0 1 "count_crossed_lines" ["spans"] (spCountLines K) := fun base => ⟨⟨_, _, ok_countlines F19 T, PySem.W.mg_of X G a19, k19, b19⟩⟩
  have D20 : ∀ base : Heap, Def P w K mg base CX0 2 "count_line_numbers" ["sides", "first", "step"] (spCountNums K) := fun base => ⟨⟨_, _, ok_countnums F20 T M (D18 base) (D19 base), PySem.W.mg_of X G a20, k20, b20⟩⟩
  have D21 : ∀ base : Heap, Def P w K mg base CX0 2 "crossings_by_line" ["sides", "first", "step"] (spCross K) := fun base => ⟨⟨_, _, ok_cross F21 T M (D18 base) (D15 base), PySem.W.mg_of X G a21, k21, b21⟩⟩
  have D22 : ∀ base : Heap, Def P w K mg base CX0 1 "line_numbers" ["crossings"] (spLineNums K) := fun base => ⟨⟨_, _, ok_linenums F22 T, PySem.W.mg_of X G a22, k22, b22⟩⟩
  exact ⟨_, fun s us hu => match us, hu with | [_, _, _, _, _], _ => .of_eq rfl, fun base _ _ => ok_fill F23 T O M (D0 base) (D12 base) (D16 base) (D17 base) (D20 base) (D21 base) (D22 base)⟩
end Sol
open PySem PySem.W PyProof.Rows
set_option maxRecDepth 100000 in
set_option maxHeartbeats 0 in
theorem PySem.Challenge.cw_solidlayers_s04_fill_holds : PySem.Challenge.rw_solidlayers_s04_fill.Holds := by
  w_on; k_headS; (case hw => exact ⟨[.int 0, .int 0, .int 1, .int 0, .list []], by decide +kernel, by decide +kernel⟩)
  k_fillS
  refine L2.walk_specK (r := PySem.Challenge.rw_solidlayers_s04_fill) (k := 7) (CX := L2.CX0) (ps := ["z", "first", "step", "most", "file"]) (sp := Sol.spFill) (by decide +kernel) rfl rfl ⟨rfl, by decide, by decide⟩ (fun w h Y => PySem.W.kIn_of Y) ?F ?S (fun _ _ _ _ z => z)
  case F =>
    intro w mg fa h Y KX G hmg
    refine' Sol.all_mk KX G hmg ?aC ?xC ?aO ?xO ?m11 ?m21 ?m22 ?nu0 ?nu1 ?nu2 ?nu3 ?nu4 ?nu5 ?nu6 ?nu7 ?nu8 ?nu9 ?nu10 ?nu11 ?nu12 ?nu13 ?nu14 ?nu15 ?nu16 ?nu17 ?b_range ?b_tuple ?b_len ?b_list ?b_min ?b_max ?b_all ?b_enumerate ?b_sum ?b_sorted ?a0 ?l0 ?c0 ?k0 ?a1 ?l1 ?c1 ?k1 ?a2 ?l2 ?c2 ?k2 ?a3 ?l3 ?c3 ?k3 ?a4 ?l4 ?c4 ?k4 ?a5 ?l5 ?c5 ?k5 ?a6 ?l6 ?c6 ?k6 ?a7 ?l7 ?c7 ?k7 ?a8 ?l8 ?c8 ?k8 ?a9 ?l9 ?c9 ?k9 ?a10 ?l10 ?c10 ?k10 ?a11 ?l11 ?c11 ?k11 ?a12 ?l12 ?c12 ?k12 ?a13 ?l13 ?c13 ?k13 ?a14 ?l14 ?c14 ?k14 ?a15 ?l15 ?c15 ?k15 ?a16 ?l16 ?c16 ?k16 ?a17 ?l17 ?c17 ?k17 ?a18 ?l18 ?c18 ?k18 ?a19 ?l19 ?c19 ?k19 ?a20 ?l20 ?c20 ?k20 ?a21 ?l21 ?c21 ?k21 ?a22 ?l22 ?c22 ?k22 ?a23 ?l23 ?c23 ?k23
    (case aC => k_is)
    (case xC => k_exc)
    (case aO => k_is)
    (case xO => k_exc)
    (case m11 => kts_exm)
    (case m21 => kts_exm)
    (case m22 => kts_exm)
    (case nu0 => k_is)
    (case nu1 => k_is)
    (case nu2 => k_is)
    (case nu3 => k_is)
    (case nu4 => k_is)
    (case nu5 => k_is)
    (case nu6 => k_is)
    (case nu7 => k_is)
    (case nu8 => k_is)
    (case nu9 => k_is)
    (case nu10 => k_is)
    (case nu11 => k_is)
    (case nu12 => k_is)
    (case nu13 => k_is)
    (case nu14 => k_is)
    (case nu15 => k_is)
    (case nu16 => k_is)
    (case nu17 => k_is)
    (case b_range => k_is)
    (case b_tuple => k_is)
    (case b_len => k_is)
    (case b_list => k_is)
    (case b_min => k_is)
    (case b_max => k_is)
    (case b_all => k_is)
    (case b_enumerate => k_is)
    (case b_sum => k_is)
    (case b_sorted => k_is)
    (case a0 => k_is)
    (case l0 => k_is)
    (case c0 => k_is)
    (case k0 => k_is)
    (case a1 => k_is)
    (case l1 => k_is)
    (case c1 => k_is)
    (case k1 => k_is)
    (case a2 => k_is)
    (case l2 => k_is)
    (case c2 => k_is)
    (case k2 => k_is)
    (case a3 => k_is)
    (case l3 => k_is)
    (case c3 => k_is)
    (case k3 => k_is)
    (case a4 => k_is)
    (case l4 => k_is)
    (case c4 => k_is)
    (case k4 => k_is)
    (case a5 => k_is)
    (case l5 => k_is)
    (case c5 => k_is)
    (case k5 => k_is)
    (case a6 => k_is)
    (case l6 => k_is)
    (case c6 => k_is)
    (case k6 => k_is)
    (case a7 => k_is)
    (case l7 => k_is)
    (case c7 => k_is)
    (case k7 => k_is)
    (case a8 => k_is)
    (case l8 => k_is)
    (case c8 => k_is)
    (case k8 => k_is)
    (case a9 => k_is)
    (case l9 => k_is)
    (case c9 => k_is)
    (case k9 => k_is)
    (case a10 => k_is)
    (case l10 => k_is)
    (case c10 => k_is)
    (case k10 => k_is)
    (case a11 => k_is)
    (case l11 => k_is)
    (case c11 => k_is)
    (case k11 => k_is)
    (case a12 => k_is)
    (case l12 => k_is)
    (case c12 => k_is)
    (case k12 => k_is)
    (case a13 => k_is)
    (case l13 => k_is)
    (case c13 => k_is)
    (case k13 => k_is)
    (case a14 => k_is)
    (case l14 => k_is)
    (case c14 => k_is)
    (case k14 => k_is)
    (case a15 => k_is)
    (case l15 => k_is)
    (case c15 => k_is)
    (case k15 => k_is)
    (case a16 => k_is)
    (case l16 => k_is)
    (case c16 => k_is)
    (case k16 => k_is)
    (case a17 => k_is)
    (case l17 => k_is)
    (case c17 => k_is)
    (case k17 => k_is)
    (case a18 => k_is)
    (case l18 => k_is)
    (case c18 => k_is)
    (case k18 => k_is)
    (case a19 => k_is)
    (case l19 => k_is)
    (case c19 => k_is)
    (case k19 => k_is)
    (case a20 => k_is)
    (case l20 => k_is)
    (case c20 => k_is)
    (case k20 => k_is)
    (case a21 => k_is)
    (case l21 => k_is)
    (case c21 => k_is)
    (case k21 => k_is)
    (case a22 => k_is)
    (case l22 => k_is)
    (case c22 => k_is)
    (case k22 => k_is)
    (case a23 => k_is)
    (case l23 => k_is)
    (case c23 => k_is)
    (case k23 => k_is)
  case S =>
    intro K H xs a hO hwi hask hx
    cases hx with
    | cons h1 h2 =>
      cases h2 with
      | cons h2 h3 =>
        cases h3 with
        | cons h3 h4 =>
          cases h4 with
          | cons h4 h5 =>
            cases h5 with
            | cons h5 h6 =>
              cases h6
              cases h1
              cases h2
              cases h3
              cases h4
              cases h5 with
              | lst hs ha =>
                have e := L2.ints_dw a.2.2.2.2.1 _ ha
                subst e
                have q : (Codec.inInt (-2147483648) 2147483647 a.1 && (Codec.inInt (-2147483648) 2147483647 a.2.1 && (Codec.inInt (-2147483648) 2147483647 a.2.2.1 && (Codec.inInt (-2147483648) 2147483647 a.2.2.2.1 && ((Codec.inLen 0 60000 a.2.2.2.2.1 && a.2.2.2.2.1.all (Codec.inInt 0 255)) && true))))) = true := hwi
                simp only [Bool.and_eq_true] at q
                have hask2 := Sol.ask_fill a hask
                exact ⟨a.1, a.2.1, a.2.2.1, a.2.2.2.1, _, a.2.2.2.2.1, rfl, hs, (fun x hx => Sol.inInt_byte (List.all_eq_true.mp q.2.2.2.2.1.2 x hx)), (Codec.inNat_iff.mp q.2.2.2.2.1.1).2, Sol.asked_few hask2, fun H' p hp => .lst (L2.SqL.of hp) (L2.dw_ints _)⟩
end
