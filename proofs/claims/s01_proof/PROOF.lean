import PyProof.Rows.All
import Wide.All
import OpenK.AllK
import Wide.FinOn
import PyProof.EqAt
import PyProof.EqKinds
import PyProof.TupleCall
import KE.BitLaws
import PyProof.DictRoadsH
import PyProof.CompTup
import PyProof.DictItems
import PyProof.MeetsDict
import PyProof.P3In
import KE.KDictSum
import PyProof.Rows.SortShellAny
import PyProof.MinMaxWalk
import PyProof.DictTruth
import PyProof.DictUpdate
import KE.KTryMore
import KE.OsGo
import PySem.Challenge.RW_shipradio_s01_answers
set_option Elab.async false
set_option linter.all false
set_option maxRecDepth 100000
namespace L2
open PySem PySem.Spec PyProof.Rows
abbrev Key := Sum Int Str
def keyIs : Key → Value → Bool
  | .inl k, v => Value.isInt k v
  | .inr x, v => Value.isStrOf x v
def keyH (w : World) : Key → Int
  | .inl k => hashInt k
  | .inr x => hashStr w x
theorem keyIs_shape : ∀ {k : Key} {v : Value}, keyIs k v = true → (∃ i t, k = Sum.inl i ∧ v = Value.int i t) ∨ (∃ x t, k = Sum.inr x ∧ v = Value.str x t)
  | .inl i, v, h => by
    obtain ⟨t, e⟩ := Value.isInt_shape (k := i) (v := v) h
    exact .inl ⟨i, t, rfl, e⟩
  | .inr x, v, h => by
    obtain ⟨t, e⟩ := Value.isStrOf_shape (x := x) (v := v) h
    exact .inr ⟨x, t, rfl, e⟩
theorem keyIs_int (i : Int) (t : Tok) : keyIs (.inl i) (.int i t) = true := by simp [keyIs, Value.isInt]
theorem keyIs_str (x : Str) (t : Tok) : keyIs (.inr x) (.str x t) = true := by simp [keyIs, Value.isStrOf]
theorem key_ll (a b : Int) : decide ((Sum.inl a : Key) = Sum.inl b) = (a == b) := by
  by_cases e : a = b
  · subst e; simp
  · have h : ¬ (Sum.inl a : Key) = Sum.inl b := fun q => e (Sum.inl.inj q)
    rw [decide_eq_false h]
    exact (beq_eq_false_iff_ne.mpr e).symm
theorem key_rr (a b : Str) : decide ((Sum.inr a : Key) = Sum.inr b) = decide (a = b) := by
  by_cases e : a = b
  · subst e; simp
  · have h : ¬ (Sum.inr a : Key) = Sum.inr b := fun q => e (Sum.inr.inj q)
    rw [decide_eq_false h, decide_eq_false e]
theorem key_lr (a : Int) (b : Str) : decide ((Sum.inl a : Key) = Sum.inr b) = false := decide_eq_false (fun q => nomatch q)
theorem key_rl (a : Str) (b : Int) : decide ((Sum.inr a : Key) = Sum.inl b) = false := decide_eq_false (fun q => nomatch q)
def mixKind (prog : Program) (w : World) : PySem.KeyKind prog w Key where
  is := keyIs
  hash := keyH w
  inj := fun v a b ha hb => by
    rcases keyIs_shape ha with ⟨i, t, rfl, rfl⟩ | ⟨x, t, rfl, rfl⟩
    · rcases keyIs_shape hb with ⟨j, u, rfl, e⟩ | ⟨y, u, rfl, e⟩
      · injection e with e1 _; rw [e1]
      · exact nomatch e
    · rcases keyIs_shape hb with ⟨j, u, rfl, e⟩ | ⟨y, u, rfl, e⟩
      · exact nomatch e
      · injection e with e1 _; rw [e1]
  byValue := fun k v h => by
    rcases keyIs_shape h with ⟨i, t, rfl, rfl⟩ | ⟨x, t, rfl, rfl⟩ <;> rfl
  pyHash := fun hv h => by
    rcases keyIs_shape hv with ⟨i, t, rfl, rfl⟩ | ⟨x, t, rfl, rfl⟩
    · exact wpAny_pyHash_int h
    · exact wpAny_pyHash_str h
  eqBool := fun hu hv h => by
    rcases keyIs_shape hu with ⟨i, t, rfl, rfl⟩ | ⟨x, t, rfl, rfl⟩
    · rcases keyIs_shape hv with ⟨j, u, rfl, rfl⟩ | ⟨y, u, rfl, rfl⟩
      · rw [key_ll] at h; exact wpAny_eqBool_int h
      · rw [key_lr] at h; exact SeqAt.EqAt.int_str i t y u _ _ _ _ h
    · rcases keyIs_shape hv with ⟨j, u, rfl, rfl⟩ | ⟨y, u, rfl, rfl⟩
      · rw [key_rl] at h; exact SeqAt.EqAt.str_int x t j u _ _ _ _ h
      · rw [key_rr] at h; exact wpAny_eqBool_str h
  «strs» := fun k x t v h => by
    rcases keyIs_shape h with ⟨i, u, rfl, e⟩ | ⟨y, u, rfl, e⟩
    · exact nomatch e
    · injection e with e1 _
      subst e1
      cases v <;> rfl
theorem mixKind_int (prog : Program) (w : World) (i : Int) (t : Tok) : (mixKind prog w).is (.inl i) (.int i t) = true := keyIs_int i t
theorem mixKind_str (prog : Program) (w : World) (x : Str) (t : Tok) : (mixKind prog w).is (.inr x) (.str x t) = true := keyIs_str x t
end L2
namespace L2
open PySem
section
variable {prog : Program} {w : World} {K : Type} [DecidableEq K] (knd : KeyKind prog w K)
def NItems (h : Heap) : List (List K) → List Value → Prop := Paired fun ks v => ∃ r, v = Value.ref r ∧ IsTupleKey knd h ks r
def IsNest (h : Heap) (k : List (List K)) (a : Addr) : Prop := ∃ ob its n, h.get? a = some ob ∧ ob.cls = .type "tuple" ∧ ob.data = .seq its n ∧ NItems knd h k its.toList
variable {knd}
theorem NItems.inj {h : Heap} : ∀ {x y : List (List K)} {vs : List Value}, NItems knd h x vs → NItems knd h y vs → x = y
  | _, _, _, .nil, .nil => rfl
  | _, _, _, .cons ⟨r, e, a⟩ t, .cons ⟨r2, e2, b⟩ t2 => by
    rw [e] at e2
    cases e2
    rw [a.inj b, NItems.inj t t2]
theorem IsNest.typ {s : Shared} {k : List (List K)} {a : Addr} (x : IsNest knd s.heap k a) : s.TypeIs (.ref a) "tuple" := let ⟨ob, _, _, e, c, _⟩ := x; ⟨ob, e, c⟩
theorem IsNest.same {h : Heap} {a : Addr} {x y : List (List K)} (hx : IsNest knd h x a) (hy : IsNest knd h y a) : x = y := by
  obtain ⟨ob, its, n, e, _, d, q⟩ := hx
  obtain ⟨ob2, its2, n2, e2, _, d2, q2⟩ := hy
  rw [e] at e2
  cases e2
  rw [d] at d2
  cases d2
  exact q.inj q2
theorem NItems.stay {h h' : Heap} {d : Addr} {ob : Obj} {es ep} (ho : h.get? d = some ob) (hd : ob.data = .dict es ep) (hs : Heap.SameBut d h h') {k : List (List K)} {vs : List Value} (x : NItems knd h k vs) : NItems knd h' k vs :=
  Paired.mono (fun _ _ ⟨r, e, z⟩ => ⟨r, e, z.keeps ho hd hs⟩) x
theorem IsNest.stay {h h' : Heap} {k : List (List K)} {a d : Addr} {ob : Obj} {es ep} (x : IsNest knd h k a) (ho : h.get? d = some ob) (hd : ob.data = .dict es ep) (hs : Heap.SameBut d h h') : IsNest knd h' k a := by
  obtain ⟨o2, its, n, e, c, dt, q⟩ := x
  have ne : a ≠ d := fun z => by
    rw [z, ho] at e
    cases e
    rw [hd] at dt
    cases dt
  exact ⟨o2, its, n, (hs.2 a ne).trans e, c, dt, q.stay ho hd hs⟩
def nestHash (knd : KeyKind prog w K) (k : List (List K)) : Int := reduceHash (Builtin.Tuple.tupleHashOf (k.map (tupleKeyHash knd)))
def nestDraws (k : List (List K)) : Nat := (k.map fun ks => ks.length + 1).sum
variable {A : Around} {E : Value → Shared → Prop} {s : Shared}
theorem nest_hash {k : List (List K)} {a : Addr} {Q : Int → Shared → Prop} (hu : A.units + 1 < cLine) (hk : IsNest knd s.heap k a) (h : Q (nestHash knd k) { s with toks := s.toks + (nestDraws k + 1) }) :
    wpAny (model prog w) A (pyHash (.ref a)) Q E s := by
  have hT := hk.typ
  obtain ⟨ob, its, n, e, _, dt, hi⟩ := hk
  unfold pyHash
  first | unfold pyHashByItsType | skip
  first | (refine wpAny_bind (wpAny_cRoomFor_or (.inr (by omega)) ?_)) | skip
  refine wpAny_bind (wpAny_specialOf hT F.slot_tuple_hash.lookup ?_)
  show wpAny _ _ (if (some (Value.builtin "tuple.__hash__") == some Value.none) = true then _ else _) _ _ _
  rw [if_neg (by rw [beq_builtin_none]; exact Bool.false_ne_true)]
  refine wpAny_bind (wpAny_specialOf hT F.slot_tuple_hash.lookup ?_)
  show wpAny _ _ (callSpecialIfBoundUnlessNone? (.ref a) "__hash__" _ >>= _) _ _ _
  refine wpAny_bind (wpAny_callSpecialIfBoundUnlessNone?_slot hT F.slot_tuple_hash (wpAny_call_entry F.slot_tuple_hash hT F.entry_tuple_hash ?_ (F.args_tuple_hash_1 _)))
  show wpAny _ _ (Builtin.Tuple.tupleItemsOf (.ref a) >>= _) _ _ _
  refine wpAny_bind (wpAny_tupleItemsOf e dt ?_)
  refine wpAny_bind ?_
  rw [← Array.forIn_toList]
  refine wpAny_forIn_list _
    (fun rest (b : Array Int) s' => ∃ done left, k = done ++ left ∧ NItems knd s.heap left rest ∧ b.toList = done.map (tupleKeyHash knd) ∧ s' = { s with toks := s.toks + nestDraws done })
    _ ?_ ?_ _ _ ⟨[], k, rfl, hi, rfl, rfl⟩
  · rintro x rest b s' ⟨done, left, rfl, hl, hb, rfl⟩
    cases hl with
    | @cons ks _ more _ h1 hl' =>
      obtain ⟨r, rfl, hr⟩ := h1
      refine wpAny_bind (wpAny_pyHash_tuple (by show A.units + 1 < cLine; exact hu) hr ?_)
      have ed : s.toks + nestDraws done + (ks.length + 1) = s.toks + nestDraws (done ++ [ks]) := by simp [nestDraws, Nat.add_assoc]
      first
        | exact wpAny_pure ⟨done ++ [ks], more, by simp, hl', by simp [hb], by simp only [ed]⟩
        | exact wpAny_bind (wpAny_pure (wpAny_pure ⟨done ++ [ks], more, by simp, hl', by simp [hb], by simp only [ed]⟩))
  · rintro b s' ⟨done, left, rfl, hl, hb, rfl⟩
    cases hl
    rw [List.append_nil] at h
    show wpAny _ _ (retInt (Builtin.Tuple.tupleHashOf b.toList)) _ _ _
    rw [hb]
    refine wpAny_ret_mkInt ?_
    show wpAny _ _ (if (decide (-(2 : Int) ^ 63 ≤ Builtin.Tuple.tupleHashOf (done.map (tupleKeyHash knd))) && decide (Builtin.Tuple.tupleHashOf (done.map (tupleKeyHash knd)) < 2 ^ 63)) = true then _ else _) _ _ _
    unfold nestHash reduceHash at h
    by_cases hr : (decide (-(2 : Int) ^ 63 ≤ Builtin.Tuple.tupleHashOf (done.map (tupleKeyHash knd))) && decide (Builtin.Tuple.tupleHashOf (done.map (tupleKeyHash knd)) < 2 ^ 63)) = true
    · rw [if_pos hr] at h ⊢
      exact wpAny_pure (by simpa [Nat.add_assoc] using h)
    · rw [if_neg hr] at h ⊢
      exact wpAny_bind (wpAny_rule (wpAny_pure (by simpa [Nat.add_assoc] using h)))
theorem nest_eqTree {x y : List (List K)} {a b : Addr} {R : Fin → Shared → Prop} (hu : A.units < cLine) (hx : IsNest knd s.heap x a) (hy : IsNest knd s.heap y b) (h : R (.done (.ret (.bool (decide (x = y))))) s) :
    wpAny (model prog w) A (Builtin.«tuple.__eq__» ⟨[.ref a, .ref b], []⟩) R E s := by
  have hTb := hy.typ
  obtain ⟨oa, xs, na, ea, _, da, ia⟩ := hx
  obtain ⟨ob, ys, nb, eb, _, db, ib⟩ := hy
  show wpAny _ _ (isInstance (.ref b) (.type "tuple") >>= _) _ _ _
  refine wpAny_bind (wpAny_isInstance hTb isSubtype_tuple_tuple ?_)
  simp only [Bool.not_true, Bool.false_eq_true, if_false]
  refine wpAny_bind (wpAny_tupleItemsOf ea da ?_)
  refine wpAny_bind (wpAny_tupleItemsOf eb db ?_)
  refine wpAny_bind ?_
  refine wpAny_forIn_list _
    (fun rest r s' => r.1 = none ∧ s' = s ∧ ∃ x' y' xs' ys', rest = List.zip xs' ys' ∧ NItems knd s.heap x' xs' ∧ NItems knd s.heap y' ys' ∧ decide (x' = y') = decide (x = y) ∧ (xs'.length == ys'.length) = (xs.size == ys.size))
    _ ?_ ?_ _ _ ⟨rfl, rfl, x, y, xs.toList, ys.toList, rfl, ia, ib, rfl, by simp⟩
  · rintro ⟨u, v⟩ rest r s' ⟨hr, rfl, x', y', xs', ys', hz, hx', hy', hdec, hlen⟩
    cases hx' with
    | nil => simp at hz
    | @cons k1 u' x'' xs'' h1 hx'' =>
      cases hy' with
      | nil => simp at hz
      | @cons k2 v' y'' ys'' h2 hy'' =>
        simp only [List.zip_cons_cons, List.cons.injEq, Prod.mk.injEq] at hz
        obtain ⟨⟨rfl, rfl⟩, rfl⟩ := hz
        obtain ⟨r1, rfl, h1⟩ := h1
        obtain ⟨r2, rfl, h2⟩ := h2
        refine wpAny_bind (wpAny_eqBool_tuple hu h1 h2 ?_)
        by_cases hk : k1 = k2
        · subst hk
          rw [decide_eq_true rfl]
          simp only [Bool.not_true, Bool.false_eq_true, if_false]
          refine wpAny_pure ⟨rfl, rfl, x'', y'', xs'', ys'', rfl, hx'', hy'', ?_, by simpa using hlen⟩
          rw [← hdec]
          by_cases hxy : x'' = y'' <;> simp [hxy]
        · rw [decide_eq_false hk]
          simp only [Bool.not_false, if_true]
          have hf : decide (x = y) = false := by rw [← hdec]; simp [hk]
          rw [hf] at h
          exact wpAny_bind (wpAny_pure (wpAny_pure (wpAny_pure h)))
  · rintro ⟨r1, r2⟩ s' ⟨hr, rfl, x', y', xs', ys', hz, hx', hy', hdec, hlen⟩
    simp only at hr
    subst hr
    refine wpAny_pure ?_
    have hfin : (xs.size == ys.size) = decide (x = y) := by
      rw [← hdec, ← hlen]
      cases hx' with
      | nil => cases hy' <;> simp
      | cons _ _ =>
        cases hy' with
        | nil => simp
        | cons _ _ => simp at hz
    show R (.done (.ret (.bool (xs.size == ys.size)))) s'
    rw [hfin]
    exact h
theorem nest_eq {x y : List (List K)} {a b : Addr} {Q : Bool → Shared → Prop} (hu : A.units + 1 < cLine) (hx : IsNest knd s.heap x a) (hy : IsNest knd s.heap y b) (h : Q (decide (x = y)) s) :
    wpAny (model prog w) A (eqBool (.ref a) (.ref b)) Q E s := by
  unfold eqBool
  try with_reducible refine wpAny_holding ?_
  show wpAny _ _ (if (Value.ref a == Value.ref b) = true then _ else _) _ _ _
  by_cases hab : (Value.ref a == Value.ref b) = true
  · rw [if_pos hab]
    have z : a = b := by have := eq_of_beq hab; injection this
    subst z
    obtain rfl := hx.same hy
    exact wpAny_bind (wpAny_rule (wpAny_pure (by simpa using h)))
  · rw [if_neg hab]
    exact wpAny_bind (wpAny_richCompare_same_room (op := .Eq) hx.typ hy.typ F.slot_tuple_eq
      (wpAny_call_entry F.slot_tuple_eq hx.typ F.entry_tuple_eq (nest_eqTree (A := A.in1) hu hx hy ⟨_, rfl, (fun e => nomatch e), wpAny_truthy_bool h⟩) (F.args_tuple_eq_2 _ _)) (by omega))
theorem quiet_tup {d : Nat} {ks : List K} {a : Addr} {Q : Bool → Shared → Prop} (hk : IsTupleKey knd s.heap ks a) (h : Q true s) : wpAny (model prog w) A (eqIsQuiet (d + 1) (.ref a)) Q E s := by
  have hT := hk.typeIs
  obtain ⟨ob, its, n, e, _, dt, hi⟩ := hk
  unfold eqIsQuiet
  refine wpAny_bind (wpAny_specialOf hT F.slot_tuple_eq.lookup ?_)
  show wpAny _ _ (isInstance (.ref a) (.type "tuple") >>= _) _ _ _
  refine wpAny_bind (wpAny_isInstance hT isSubtype_tuple_tuple ?_)
  simp only [Bool.not_true, Bool.false_eq_true, if_false]
  refine wpAny_bind (wpAny_seqItems e dt ?_)
  refine wpAny_bind ?_
  show wpAny _ _ (forIn its _ _) _ _ _
  rw [← Array.forIn_toList]
  refine wpAny_forIn_list _ (fun rest r s' => r.1 = none ∧ s' = s ∧ ∀ v ∈ rest, carriedByValue v = true) _ ?_ ?_ _ _ ⟨rfl, rfl, hi.byValue⟩
  · rintro v rest r s' ⟨hr, rfl, all⟩
    rw [eqIsQuiet_byValue _ (all v List.mem_cons_self)]
    refine wpAny_bind (wpAny_pure ?_)
    simp only [Bool.not_true, Bool.false_eq_true, if_false]
    exact wpAny_pure ⟨rfl, rfl, fun u q => all u (List.mem_cons_of_mem _ q)⟩
  · rintro ⟨r1, r2⟩ s' ⟨hr, rfl, _⟩
    simp only at hr
    subst hr
    exact wpAny_pure h
theorem nest_quiet {k : List (List K)} {a : Addr} {Q : Bool → Shared → Prop} (hk : IsNest knd s.heap k a) (h : Q true s) : wpAny (model prog w) A (eqIsQuiet 8 (.ref a)) Q E s := by
  have hT := hk.typ
  obtain ⟨ob, its, n, e, _, dt, hi⟩ := hk
  unfold eqIsQuiet
  refine wpAny_bind (wpAny_specialOf hT F.slot_tuple_eq.lookup ?_)
  show wpAny _ _ (isInstance (.ref a) (.type "tuple") >>= _) _ _ _
  refine wpAny_bind (wpAny_isInstance hT isSubtype_tuple_tuple ?_)
  simp only [Bool.not_true, Bool.false_eq_true, if_false]
  refine wpAny_bind (wpAny_seqItems e dt ?_)
  refine wpAny_bind ?_
  show wpAny _ _ (forIn its _ _) _ _ _
  rw [← Array.forIn_toList]
  refine wpAny_forIn_list _ (fun rest r s' => r.1 = none ∧ s' = s ∧ ∃ left, NItems knd s.heap left rest) _ ?_ ?_ _ _ ⟨rfl, rfl, k, hi⟩
  · rintro v rest r s' ⟨hr, rfl, left, hl⟩
    cases hl with
    | cons h1 hl' =>
      obtain ⟨q, rfl, hq⟩ := h1
      refine wpAny_bind (quiet_tup hq ?_)
      simp only [Bool.not_true, Bool.false_eq_true, if_false]
      exact wpAny_pure ⟨rfl, rfl, _, hl'⟩
  · rintro ⟨r1, r2⟩ s' ⟨hr, rfl, _⟩
    simp only at hr
    subst hr
    exact wpAny_pure h
end
def nestOf {prog : Program} {w : World} {K : Type} [DecidableEq K] (knd : KeyKind prog w K) : HeapKind prog w (List (List K)) where
  is := IsNest knd
  hash := nestHash knd
  draws := fun k => nestDraws k + 1
  room := fun A => A.units + 1 < cLine
  inj := fun hx hy => hx.same hy
  keeps := fun x ho hd hs => x.stay ho hd hs
  pyHash := fun hu hk h => nest_hash hu hk h
  eqBool := fun hu hx hy h => nest_eq hu hx hy h
  quiet := fun hk h => nest_quiet hk h
end L2
namespace L2
open PySem PySem.Spec PyProof.Rows
abbrev NK := List (List Key)
abbrev nestKind (P : Program) (w : World) : HeapKind P w NK := nestOf (mixKind P w)
inductive V where
  | non | bl (b : Bool) | int (i : Int) | str (x : Str) | byt (b : Array UInt8) | flt (b : UInt64) | ref (a : Addr) | ty (n : String)
  deriving DecidableEq
def RelV : V → Value → Prop
  | .non, u => u = Value.none
  | .bl b, u => u = Value.bool b
  | .int i, u => ∃ t, u = Value.int i t
  | .str x, u => ∃ t, u = Value.str x t
  | .byt b, u => ∃ t, u = Value.bytes b t
  | .flt b, u => ∃ t, u = Value.float b t
  | .ref a, u => u = Value.ref a
  | .ty n, u => u = Value.type n
abbrev Vals : List V → List Value → Prop := Paired RelV
theorem Vals.length {xs : List V} {us : List Value} (r : Vals xs us) : xs.length = us.length := Paired.length r
theorem Vals.get : ∀ {xs : List V} {us : List Value} {i : Nat} {x : V}, Vals xs us → xs[i]? = some x → ∃ u, us[i]? = some u ∧ RelV x u
  | _, _, _, _, .nil, e => by simp at e
  | _, _, 0, _, .cons r _, e => by simp at e; subst e; exact ⟨_, rfl, r⟩
  | _, _, i + 1, x, .cons _ t, e => by
    obtain ⟨u, h1, h2⟩ := Vals.get (i := i) (x := x) t (by simpa using e)
    exact ⟨u, by simpa using h1, h2⟩
theorem Vals.append : ∀ {xs ys : List V} {us ws : List Value}, Vals xs us → Vals ys ws → Vals (xs ++ ys) (us ++ ws)
  | _, _, _, _, .nil, s => s
  | _, _, _, _, .cons r t, s => .cons r (Vals.append t s)
theorem Vals.take : ∀ {xs : List V} {us : List Value} (n : Nat), Vals xs us → Vals (xs.take n) (us.take n)
  | _, _, 0, _ => .nil
  | _, _, _ + 1, .nil => .nil
  | _, _, n + 1, .cons r t => .cons r (Vals.take n t)
theorem Vals.drop : ∀ {xs : List V} {us : List Value} (n : Nat), Vals xs us → Vals (xs.drop n) (us.drop n)
  | _, _, 0, r => r
  | _, _, _ + 1, .nil => .nil
  | _, _, n + 1, .cons _ t => Vals.drop n t
def RelO : Option V → Option Value → Prop
  | some v, some u => RelV v u
  | none, none => True
  | _, _ => False
def KV {κ : Type} : List (κ × V) → List (κ × Value) → Prop := Paired fun (p : κ × V) (q : κ × Value) => p.1 = q.1 ∧ RelV p.2 q.2
def kV : Key → V
  | .inl i => .int i
  | .inr x => .str x
inductive HO where
  | lst (xs : List V)
  | tup (xs : List V)
  | dK (kvs : List (Key × V)) | dT (kvs : List (NK × V))
  | set (S : Int → Bool) (n : Nat)
  | ins (C dx : Addr) (fs : List (Str × V))
  | own (x : Addr)
  | xd (fs : List (Str × V))
  | met (f x : Addr)
  | rng (lo hi : Int)
  | frz (o : Obj) (u : HO)
  | tbl (ps : Array Value)
  | ext (φ : Heap → Prop)
abbrev Hp := Addr → Option HO
def NTup (H : Hp) (b : Addr) (k : NK) : Prop := ∃ rs : List Addr, H b = some (.tup (rs.map V.ref)) ∧ Paired (fun r ks => H r = some (.tup (ks.map kV))) rs k
theorem NTup.keeps {H H' : Hp} {b : Addr} {k : NK} (x : NTup H b k) (ht : ∀ c ys, H c = some (.tup ys) → H' c = some (.tup ys)) : NTup H' b k :=
  let ⟨rs, e, q⟩ := x; ⟨rs, ht _ _ e, Paired.mono (fun _ _ z => ht _ _ z) q⟩
def upd (H : Hp) (a : Addr) (o : HO) : Hp := fun b => if b = a then some o else H b
theorem upd_same {H : Hp} {a : Addr} {o : HO} : upd H a o a = some o := by unfold upd; rw [if_pos rfl]
theorem upd_ne {H : Hp} {a b : Addr} {o : HO} (h : b ≠ a) : upd H a o b = H b := by unfold upd; rw [if_neg h]
theorem upd_upd {H : Hp} {a : Addr} {o u : HO} : upd (upd H a o) a u = upd H a u := by
  funext b; unfold upd; split <;> rfl
theorem ne_of {H : Hp} {a b : Addr} {o u : HO} (h : H a = some o) (h' : H b = some u) (d : o ≠ u) : a ≠ b := by
  intro e; subst e; rw [h] at h'; exact d (Option.some.inj h')
theorem ne_of_none {H : Hp} {a b : Addr} {o : HO} (h : H a = some o) (h' : H b = none) : a ≠ b := by
  intro e; subst e; rw [h] at h'; cases h'
section
variable (P : Program) (w : World)
def ObjOk (H : Hp) (h : Heap) (a : Addr) : HO → Prop
  | .lst xs => xs.length ≤ sizeLine ∧ ∃ (its : List Value) (n : Nat), Vals xs its ∧ h.get? a = some { cls := .type "list", data := .seq its.toArray n }
  | .tup xs => xs.length ≤ sizeLine ∧ ∃ its : List Value, Vals xs its ∧ IsTup h a its.toArray
  | .dK kvs => kvs.length ≤ sizeLine ∧ (a == sysModules) = false ∧ ∃ vs, KV kvs vs ∧ h.DictOf (mixKind P w) a vs
  | .dT kvs => kvs.length ≤ sizeLine ∧ (a == sysModules) = false ∧ ∃ xs : List (NK × Addr × Value),
      Paired (fun (p : NK × V) (q : NK × Addr × Value) => p.1 = q.1 ∧ NTup H q.2.1 p.1 ∧ RelV p.2 q.2.2) kvs xs ∧
      ∃ o es ep, h.get? a = some o ∧ o.ExactDict ∧ o.data = .dict es ep ∧ es.toList = xs.map (entryOfKey (nestKind P w)) ∧ (xs.map (·.1)).Nodup
  | .set S n => h.SetOf (intKind P w) a S n
  | .ins C dx fs => H dx = some (.own a) ∧ fs.length ≤ 1000 ∧ dx ≠ a ∧ h.get? a = some (PySem.W.instObj C dx) ∧
      ∃ mA, h.Ns1 dx mA ∧ (∀ f, RelO (fs.lookup f) (mA f)) ∧ PySem.Within mA (fs.map (·.1))
  | .own _ => ∃ o, h.get? a = some o
  | .xd fs => ∃ mA, h.Ns1 a mA ∧ ∀ f, RelO (fs.lookup f) (mA f)
  | .rng lo hi => ∃ t u v, h.get? a = some { cls := .type "range", data := .fields #[.int lo t, .int hi u, .int 1 v] }
  | .frz o u => h.get? a = some o ∧ ObjOk H h a u
  | .tbl ps => h.get? a = some { cls := .none, data := .fields ps }
  | .met f x => h.get? a = some (PySem.W.methodObj (.ref f) (.ref x))
  | .ext φ => φ h ∧ (∃ o, h.get? a = some o) ∧ ∀ h1 h2 : Heap, φ h1 → (∀ o, h1.get? a = some o → h2.get? a = some o) → φ h2
def HOk (H : Hp) (h : Heap) : Prop := ∀ a o, H a = some o → ObjOk P w H h a o
end
section
variable {P : Program} {w : World} {H H' : Hp} {h h' : Heap} {a : Addr} {o : HO}
theorem ObjOk.lt (x : ObjOk P w H h a o) : a < h.objs.size := by
  cases o with
  | lst xs => obtain ⟨_, _, _, _, e⟩ := x; exact Heap.lt_size e
  | tup xs => obtain ⟨_, _, _, p⟩ := x; exact p.lt
  | dK kvs => obtain ⟨_, _, _, _, o, _, _, e, _⟩ := x; exact Heap.lt_size e
  | dT kvs => obtain ⟨_, _, _, _, o, _, _, e, _⟩ := x; exact Heap.lt_size e
  | set S n => obtain ⟨o, _, _, _, e, _⟩ := x; exact Heap.lt_size e
  | ins C dx fs => obtain ⟨_, _, _, e, _⟩ := x; exact Heap.lt_size e
  | own y => obtain ⟨_, e⟩ := x; exact Heap.lt_size e
  | xd fs => obtain ⟨_, ⟨_, _, _, e, _⟩, _⟩ := x; exact Heap.lt_size e
  | rng lo hi => obtain ⟨_, _, _, e⟩ := x; exact Heap.lt_size e
  | frz ob u => obtain ⟨e, _⟩ := x; exact Heap.lt_size e
  | tbl ps => exact Heap.lt_size (show h.get? a = some _ from x)
  | met f y => exact Heap.lt_size (show h.get? a = some _ from x)
  | ext φ => obtain ⟨_, ⟨_, e⟩, _⟩ := x; exact Heap.lt_size e
theorem Paired.mapP {α β : Type} {F G : α → β → Prop} : ∀ {l₁ : List α} {l₂ : List β}, Paired F l₁ l₂ → (∀ a b, F a b → G a b) → Paired G l₁ l₂
  | _, _, .nil, _ => .nil
  | _, _, .cons r t, f => .cons (f _ _ r) (Paired.mapP t f)
theorem ObjOk.stay (x : ObjOk P w H h a o) (k : ∀ b u, (b = a ∨ H b = some (.own a)) → h.get? b = some u → h'.get? b = some u)
    (ho : ∀ b, H b = some (.own a) → H' b = some (.own a)) (ht : ∀ b xs, H b = some (.tup xs) → H' b = some (.tup xs)) : ObjOk P w H' h' a o := by
  induction o with
  | lst xs => obtain ⟨z, its, n, r, e⟩ := x; exact ⟨z, its, n, r, k _ _ (.inl rfl) e⟩
  | tup xs => obtain ⟨z, its, r, ob, e, c⟩ := x; exact ⟨z, its, r, ob, k _ _ (.inl rfl) e, c⟩
  | dK kvs => obtain ⟨z, y, vs, r, ob, es, ep, e, c⟩ := x; exact ⟨z, y, vs, r, ob, es, ep, k _ _ (.inl rfl) e, c⟩
  | dT kvs =>
    obtain ⟨z, y, xs, r, ob, es, ep, e, c⟩ := x
    exact ⟨z, y, xs, Paired.mapP r fun p q z => ⟨z.1, z.2.1.keeps ht, z.2.2⟩, ob, es, ep, k _ _ (.inl rfl) e, c⟩
  | set S n => obtain ⟨ob, es, ep, t, e, c⟩ := x; exact ⟨ob, es, ep, t, k _ _ (.inl rfl) e, c⟩
  | ins C dx fs =>
    obtain ⟨d, z, ne, e, mA, ⟨od, es, ep, e2, c⟩, r⟩ := x
    exact ⟨ho _ d, z, ne, k _ _ (.inl rfl) e, mA, ⟨od, es, ep, k _ _ (.inr d) e2, c⟩, r⟩
  | own y => obtain ⟨ob, e⟩ := x; exact ⟨ob, k _ _ (.inl rfl) e⟩
  | xd fs => obtain ⟨mA, ⟨od, es, ep, e, c⟩, r⟩ := x; exact ⟨mA, ⟨od, es, ep, k _ _ (.inl rfl) e, c⟩, r⟩
  | rng lo hi => obtain ⟨t, u, v, e⟩ := x; exact ⟨t, u, v, k _ _ (.inl rfl) e⟩
  | frz ob u ih => obtain ⟨e, q⟩ := x; exact ⟨k _ _ (.inl rfl) e, ih q⟩
  | tbl ps =>
    have e : h.get? a = some { cls := .none, data := .fields ps } := x
    show h'.get? a = some { cls := .none, data := .fields ps }
    exact k a _ (.inl rfl) e
  | met f y =>
    have e : h.get? a = some (PySem.W.methodObj (.ref f) (.ref y)) := x
    show h'.get? a = some (PySem.W.methodObj (.ref f) (.ref y))
    exact k a _ (.inl rfl) e
  | ext φ => obtain ⟨p, ⟨o, e⟩, st⟩ := x; exact ⟨st _ _ p fun o q => k _ _ (.inl rfl) q, ⟨o, k _ _ (.inl rfl) e⟩, st⟩
theorem HOk.lt (x : HOk P w H h) (e : H a = some o) : a < h.objs.size := (x a o e).lt
theorem HOk.fresh (x : HOk P w H h) (e : h.objs.size ≤ a) : H a = none := by
  cases q : H a with
  | none => rfl
  | some u => exact absurd (Nat.lt_of_lt_of_le (x.lt q) e) (Nat.lt_irrefl _)
theorem HOk.kept (x : HOk P w H h) (k : ∀ b u, h.get? b = some u → h'.get? b = some u) : HOk P w H h' := fun a o e =>
  (x a o e).stay (fun b u _ q => k b u q) (fun _ q => q) fun _ _ q => q
theorem HOk.laid (x : HOk P w H h) (k : ∀ b u, h.get? b = some u → h'.get? b = some u) (hp : h.objs.size ≤ a) (new : ObjOk P w (upd H a o) h' a o) : HOk P w (upd H a o) h' := fun b u e => by
  have hn := x.fresh hp
  by_cases hb : b = a
  · subst hb; rw [upd_same] at e; cases e; exact new
  · rw [upd_ne hb] at e
    exact (x b u e).stay (fun c v _ q => k c v q) (fun c q => by rw [upd_ne (ne_of_none q hn)]; exact q) fun c xs q => by rw [upd_ne (ne_of_none q hn)]; exact q
end
def Rd (H : Hp) (a : Addr) (u : HO) : Prop := H a = some u ∨ ∃ o, H a = some (.frz o u)
theorem Rd.ok {P : Program} {w : World} {H : Hp} {h : Heap} {a : Addr} {u : HO} (r : Rd H a u) (x : HOk P w H h) : ObjOk P w H h a u := by
  rcases r with r | ⟨o, r⟩
  · exact x a u r
  · obtain ⟨_, q⟩ := x a _ r
    exact q
def Mut : Option HO → Prop
  | some (.lst _) => True
  | some (.dK _) => True
  | some (.dT _) => True
  | some (.set _ _) => True
  | some (.ins _ _ _) => True
  | some (.ext _) => True
  | _ => False
section
variable {P : Program} {w : World} {H : Hp} {h h' : Heap} {x e : Addr} {o' : HO}
theorem HOk.write (ok : HOk P w H h) (mu : Mut (H x)) (he : e = x ∨ H e = some (.own x)) (k : ∀ b u, b ≠ e → h.get? b = some u → h'.get? b = some u) (heo : ∃ u, h'.get? e = some u)
    (new : ObjOk P w (upd H x o') h' x o') : HOk P w (upd H x o') h' := fun b u q => by
  have nown : ∀ c y, H c = some (.own y) → c ≠ x := fun c y r z => by subst z; rw [r] at mu; exact mu
  have ntup : ∀ c xs, H c = some (.tup xs) → c ≠ x := fun c xs r z => by subst z; rw [r] at mu; exact mu
  by_cases hb : b = x
  · subst hb; rw [upd_same] at q; cases q; exact new
  · rw [upd_ne hb] at q
    by_cases hbe : b = e
    · have q' : H b = some (.own x) := by
        rcases he with z | z
        · exact absurd (hbe.trans z) hb
        · rw [hbe]; exact z
      rw [q] at q'; cases q'
      obtain ⟨v, hv⟩ := heo
      exact ⟨v, by rw [hbe]; exact hv⟩
    · refine (ok b u q).stay (fun c v hc r => k c v ?_ r) (fun c r => by rw [upd_ne (nown c b r)]; exact r) fun c xs r => by rw [upd_ne (ntup c xs r)]; exact r
      rcases hc with rfl | hc
      · exact hbe
      · rintro rfl
        rcases he with z | z
        · exact nown c b hc z
        · rw [hc] at z; cases z; exact hb rfl
end
structure Un (fs ex : List Addr) (H H' : Hp) (h h' : Heap) : Prop where
  keep : ∀ b o, h.get? b = some o → H b = none → b ∉ fs → b ∉ ex → h'.get? b = some o
  slot : ∀ b o, h.get? b = some o → H b = none → b ∈ fs → b ∉ ex → ∃ sl, h'.get? b = some { o with slots := sl }
  free : ∀ b o, h.get? b = some o → H b = none → b ∉ ex → H' b = none
  there : ∀ b o, h.get? b = some o → b ∉ ex → ∃ o', h'.get? b = some o'
  tups : ∀ b xs, H b = some (.tup xs) → H' b = some (.tup xs)
  frzs : ∀ b o u, H b = some (.frz o u) → H' b = some (.frz o u)
  tbls : ∀ b ps, H b = some (.tbl ps) → ∃ more, H' b = some (.tbl (ps ++ more))
section
variable {fs fs' ex ex' : List Addr} {H H1 H2 : Hp} {h h1 h2 h' : Heap} {a x e : Addr} {o : HO}
theorem Un.any (u : Un fs ex H H1 h h1) {b : Addr} {ob : Obj} (q : h.get? b = some ob) (n : H b = none) (hx : b ∉ ex) : ∃ sl, h1.get? b = some { ob with slots := sl } := by
  by_cases hb : b ∈ fs
  · exact u.slot b ob q n hb hx
  · exact ⟨ob.slots, u.keep b ob q n hb hx⟩
theorem Un.kept (k : ∀ b u, h.get? b = some u → h'.get? b = some u) : Un fs ex H H h h' :=
  ⟨fun b ob q _ _ _ => k b ob q, fun b ob q _ _ _ => ⟨ob.slots, k b ob q⟩, fun _ _ _ n _ => n, fun b ob q _ => ⟨ob, k b ob q⟩, fun _ _ q => q, fun _ _ _ q => q, fun _ ps q => ⟨#[], by rw [q]; simp⟩⟩
theorem Un.refl : Un fs ex H H h h := Un.kept fun _ _ q => q
theorem Un.laid (k : ∀ b u, h.get? b = some u → h'.get? b = some u) (hp : h.objs.size ≤ a) (hn : H a = none) : Un fs ex H (upd H a o) h h' where
  keep := fun b u q _ _ _ => k b u q
  slot := fun b u q _ _ _ => ⟨u.slots, k b u q⟩
  free := fun b u q n _ => by rw [upd_ne (Nat.ne_of_lt (Nat.lt_of_lt_of_le (Heap.lt_size q) hp))]; exact n
  there := fun b u q _ => ⟨u, k b u q⟩
  tups := fun b xs q => by rw [upd_ne (ne_of_none q hn)]; exact q
  frzs := fun b u xs q => by rw [upd_ne (ne_of_none q hn)]; exact q
  tbls := fun b ps q => ⟨#[], by rw [upd_ne (ne_of_none q hn), q]; simp⟩
theorem Un.write (mu : Mut (H x)) (he : e = x ∨ H e = some (.own x)) (k : ∀ b u, b ≠ e → h.get? b = some u → h'.get? b = some u) (heo : ∃ u, h'.get? e = some u) : Un fs ex H (upd H x o) h h' := by
  have hx : ∀ b, H b = none → b ≠ x := fun b n z => by subst z; rw [n] at mu; exact mu
  have hb : ∀ b, H b = none → b ≠ e := fun b n z => by
    subst z
    rcases he with r | r
    · exact hx b n r
    · rw [n] at r; cases r
  have hm : ∀ b u, H b = some u → ¬ Mut (some u) → b ≠ x := fun b u q nm z => by subst z; rw [q] at mu; exact nm mu
  refine ⟨fun b u q n _ _ => k b u (hb b n) q, fun b u q n _ _ => ⟨u.slots, k b u (hb b n) q⟩, fun b u q n _ => by rw [upd_ne (hx b n)]; exact n, fun b u q _ => ?_,
    fun b xs q => by rw [upd_ne (hm b _ q fun z => z)]; exact q, fun b u xs q => by rw [upd_ne (hm b _ q fun z => z)]; exact q, fun b ps q => ⟨#[], by rw [upd_ne (hm b _ q fun z => z), q]; simp⟩⟩
  by_cases hbe : b = e
  · subst hbe; exact heo
  · exact ⟨u, k b u hbe q⟩
end
def trk (h : Heap) (H : Hp) : List Addr := (List.range h.objs.size).filter fun a => (H a).isSome
def hidT (h : Heap) (H : Hp) : Heap := PySem.W.hideAll h (trk h H)
theorem hidT_size (h : Heap) (H : Hp) : (hidT h H).objs.size = h.objs.size := PySem.W.hideAll_size _ _
theorem hidT_get {h : Heap} {H : Hp} {b : Addr} {o : Obj} (e : h.get? b = some o) (n : H b = none) : (hidT h H).get? b = some o :=
  PySem.W.hideAll_get _ e fun hm => by
    have q : (H b).isSome = true := (List.mem_filter.mp hm).2
    rw [n] at q; simp at q
theorem of_hidT {h : Heap} {H : Hp} {b : Addr} {o : Obj} (e : (hidT h H).get? b = some o) : h.get? b = some o ∧ H b = none := by
  have e' : h.get? b = some o := PySem.W.of_hideAll (trk h H) e
  refine ⟨e', ?_⟩
  cases q : H b with
  | none => rfl
  | some x =>
    have hm : b ∈ trk h H := List.mem_filter.mpr ⟨List.mem_range.mpr (Heap.lt_size e'), by simp [q]⟩
    have z : (hidT h H).get? b = none := PySem.W.hideAll_none (trk h H) hm
    rw [z] at e; cases e
end L2
namespace L2
open PySem PySem.Spec PyProof.Rows
structure Mod (K : PySem.W.Frag) (mg : Str → Option Value) (base : Heap) : Prop where
  kin : K.In base
  glob : base.Ns mainGlobals mg
  blt : ∃ mb, base.Ns builtinsNs mb ∧ ∀ x : Str, x ≠ "__name__" → mb x = bootBuiltins x
  nolimit : base.NoLimit
structure Cx where
  prog : Program
  w : World
  K : PySem.W.Frag
  mg : Str → Option Value
  base : Heap
  A : Around
  N : List Str
  s₀ : Shared
  H₀ : Hp
  env : Env
  outer : List Env
  stack : List Env
  ex : List Addr
  fn : Str → Bool
  calm : Bool
  pn : List (Addr × Obj)
  xe : Value → Shared → Prop
def frs (l : List Env) : List Addr := l.filterMap (·.frame)
abbrev Cx.fs (X : Cx) : List Addr := frs X.outer
def Vis (sc : Scope) (x : Str) : Prop := sc.names.lookup x = some .local ∨ sc.names.lookup x = some .cell ∨ sc.names.lookup x = some .free
def Loc (sc : Scope) (x : Str) : Prop := sc.names.lookup x = some .local ∨ sc.names.lookup x = some .cell
def Look (env : Env) (h : Heap) (m : Str → Option Value) (x : Str) (u : Value) : Prop :=
  (env.kindOf x = some .local ∧ m x = some u) ∨ ((env.kindOf x = some .cell ∨ env.kindOf x = some .free) ∧ ∃ c, env.cells.lookup x = some c ∧ h.IsCell c (some u))
structure Cx.Ok (X : Cx) : Prop where
  mod : Mod X.K X.mg X.base
  kind : X.env.scope.kind = .function
  glob : X.env.globals = mainGlobals
  blt : X.env.builtins = builtinsNs
  above : X.s₀.heap.objs.size ≤ X.env.locals
  inj : ∀ x y c, X.env.cells.lookup x = some c → X.env.cells.lookup y = some c → x = y
  has : ∀ x, (X.env.kindOf x = some .cell ∨ X.env.kindOf x = some .free) → ∃ c, X.env.cells.lookup x = some c
  cab : ∀ x c, X.fn x = true → X.env.cells.lookup x = some c → X.s₀.heap.objs.size ≤ c
  hd : X.calm = true → X.A.handled = none
  frames : X.A.frames = some X.stack
  stk : X.stack = X.outer ∨ (X.stack = X.env :: X.outer ∧ X.env.frame = some X.env.locals)
  exf : ∀ b ∈ X.ex, b ≠ X.env.locals ∧ ∀ x c, X.env.cells.lookup x = some c → c ≠ b
  bs : ∀ b o, X.base.get? b = some o → X.s₀.heap.get? b = some o ∧ X.H₀ b = none
  bsz : X.base.objs.size ≤ X.s₀.heap.objs.size
  noex : ∀ b o, X.base.get? b = some o → b ∉ X.ex
  exfs : ∀ b ∈ X.ex, b ∉ X.fs
  funs : X.s₀.heap.FunFrames X.base X.outer
  frf : ∀ b ∈ X.fs, X.H₀ b = none
structure Inv (X : Cx) (pins : List (Addr × Obj)) (σ : List (Option V)) (H : Hp) (s : Shared) : Prop where
  ok : X.Ok
  os : s.os = X.s₀.os
  bare : AllBare s.gens
  base : Un X.fs X.ex X.H₀ H X.s₀.heap s.heap
  loc : ∃ m, s.heap.Ns X.env.locals m ∧ ∀ (i : Nat) (x : Str) (v : V), X.N[i]? = some x → σ[i]? = some (some v) → Vis X.env.scope x → ∃ u, RelV v u ∧ Look X.env s.heap m x u
  cell : ∀ x c, X.env.cells.lookup x = some c → ∃ v, s.heap.IsCell c v
  free : H X.env.locals = none
  freeC : ∀ x c, X.env.cells.lookup x = some c → H c = none
  pin : ∀ p ∈ X.pn ++ pins, s.heap.get? p.1 = some p.2 ∧ H p.1 = none ∧ p.1 ≠ X.env.locals ∧ p.1 ∉ X.fs ∧ ∀ v, p.2.data ≠ .cell v
  hok : HOk X.prog X.w H s.heap
  len : σ.length = X.N.length
section
variable {X : Cx} {pins : List (Addr × Obj)} {σ : List (Option V)} {H H' : Hp} {s : Shared} {h' : Heap}
theorem Cx.Ok.nofr (ok : X.Ok) {b : Addr} {o : Obj} (e : X.base.get? b = some o) : b ∉ X.fs := fun hb => by
  have := (ok.funs.mem hb).1
  rw [e] at this; cases this
theorem Inv.bs (I : Inv X pins σ H s) : ∀ b o, X.base.get? b = some o → s.heap.get? b = some o ∧ H b = none := fun b o e =>
  ⟨I.base.keep b o (I.ok.bs b o e).1 (I.ok.bs b o e).2 (I.ok.nofr e) (I.ok.noex b o e), I.base.free b o (I.ok.bs b o e).1 (I.ok.bs b o e).2 (I.ok.noex b o e)⟩
theorem Inv.bk (I : Inv X pins σ H s) : ∀ b o, X.base.get? b = some o → s.heap.get? b = some o := fun b o e => (I.bs b o e).1
theorem Inv.mod (I : Inv X pins σ H s) : Mod X.K X.mg X.base := I.ok.mod
theorem Inv.kIn (I : Inv X pins σ H s) : X.K.In s.heap := I.ok.mod.kin.keeps I.bk
theorem Inv.fr (I : Inv X pins σ H s) : ∃ m, Fr X.base X.env.locals s.heap m :=
  let ⟨m, hn, _⟩ := I.loc
  ⟨m, hn, I.bk, Nat.le_trans I.ok.bsz I.ok.above⟩
theorem Inv.lt (I : Inv X pins σ H s) : X.env.locals < s.heap.objs.size := let ⟨_, hn, _⟩ := I.loc; hn.lt
theorem Inv.sz (I : Inv X pins σ H s) : X.s₀.heap.objs.size ≤ s.heap.objs.size := Nat.le_trans I.ok.above (Nat.le_of_lt I.lt)
theorem Inv.nofs (I : Inv X pins σ H s) {a : Addr} (h : s.heap.objs.size ≤ a) : a ∉ X.fs := fun hb => by
  obtain ⟨_, o, ho, _⟩ := I.ok.funs.mem hb
  exact absurd (Nat.lt_of_lt_of_le (Heap.lt_size ho) (Nat.le_trans I.sz h)) (Nat.lt_irrefl _)
theorem Inv.cne (I : Inv X pins σ H s) : ∀ x c, X.env.cells.lookup x = some c → c ≠ X.env.locals := fun x c e z => by
  obtain ⟨v, o, ho, hd⟩ := I.cell x c e
  obtain ⟨m, ⟨o', es, ep, ho', hd', _⟩, _⟩ := I.loc
  rw [z, ho'] at ho; cases ho; rw [hd'] at hd; cases hd
theorem Inv.funs (I : Inv X pins σ H s) : s.heap.FunFrames X.base X.outer := by
  have all : ∀ (l : List Env), (∀ b ∈ frs l, b ∈ X.fs) → X.s₀.heap.FunFrames X.base l → s.heap.FunFrames X.base l := by
    intro l
    induction l with
    | nil => intro _ _; trivial
    | cons env r ih =>
      intro hs hl
      obtain ⟨hk, ⟨L, o, hf, hn, ho, hd⟩, hr⟩ := hl
      have hL : L ∈ X.fs := hs L (by unfold frs; rw [List.filterMap_cons, hf]; exact List.mem_cons_self)
      obtain ⟨sl, e⟩ := I.base.slot L o ho (I.ok.frf L hL) hL fun z => I.ok.exfs L z hL
      exact ⟨hk, ⟨L, _, hf, hn, e, hd⟩, ih (fun b hb => hs b (by unfold frs; rw [List.filterMap_cons, hf]; exact List.mem_cons_of_mem _ hb)) hr⟩
  exact all X.outer (fun _ hb => hb) I.ok.funs
theorem Inv.stack (I : Inv X pins σ H s) : s.heap.FunFrames X.base X.stack := by
  rcases I.ok.stk with e | ⟨e, hf⟩
  · rw [e]; exact I.funs
  · rw [e]
    obtain ⟨m, hn, _⟩ := I.loc
    refine .cons (by rw [I.ok.kind]; decide) hf hn ?_ I.funs
    exact Heap.get?_none_of_le (Nat.le_trans I.ok.bsz I.ok.above)
theorem Inv.stkSub (I : Inv X pins σ H s) : ∀ b ∈ frs X.stack, b ∈ X.env.locals :: X.fs := fun b hb => by
  rcases I.ok.stk with e | ⟨e, hf⟩
  · rw [e] at hb; exact List.mem_cons_of_mem _ hb
  · rw [e] at hb
    unfold frs at hb
    rw [List.filterMap_cons, hf] at hb
    exact hb
theorem Inv.stkFree (I : Inv X pins σ H s) : ∀ b ∈ frs X.stack, H b = none := fun b hb => by
  rcases List.mem_cons.mp (I.stkSub b hb) with e | hb
  · rw [e]; exact I.free
  · obtain ⟨_, o, ho, _⟩ := I.ok.funs.mem hb
    exact I.base.free b o ho (I.ok.frf b hb) fun z => I.ok.exfs b z hb
theorem Inv.step {g' : Array GenState} {t' : Nat} {d' : Drawn} {ch : List Addr} (I : Inv X pins σ H s)
    (hch : ∀ b ∈ ch, (b ∈ X.ex ∨ X.s₀.heap.objs.size ≤ b) ∧ b ≠ X.env.locals ∧ (∀ x c, X.env.cells.lookup x = some c → c ≠ b) ∧ ∀ p ∈ X.pn ++ pins, p.1 ≠ b)
    (keep : ∀ b o, b ≠ X.env.locals → b ∉ X.fs → b ∉ ch → s.heap.get? b = some o → H b = none → h'.get? b = some o)
    (slot : ∀ b o, b ≠ X.env.locals → b ∈ X.fs → b ∉ ch → s.heap.get? b = some o → H b = none → ∃ sl, h'.get? b = some { o with slots := sl }) (free : ∀ b o, b ∉ ch → s.heap.get? b = some o → H b = none → H' b = none)
    (there : ∀ b o, b ∉ ch → s.heap.get? b = some o → ∃ o', h'.get? b = some o')
    (tups : ∀ b xs, H b = some (.tup xs) → H' b = some (.tup xs)) (frzs : ∀ b o u, H b = some (.frz o u) → H' b = some (.frz o u)) (tbls : ∀ b ps, H b = some (.tbl ps) → ∃ more, H' b = some (.tbl (ps ++ more)))
    (ns : ∀ m, s.heap.Ns X.env.locals m → h'.Ns X.env.locals m) (hok : HOk X.prog X.w H' h') (hg : AllBare g') :
    Inv X pins σ H' { s with heap := h', gens := g', drawn := d', toks := t' } := by
  have neL : ∀ b o, X.s₀.heap.get? b = some o → b ≠ X.env.locals := fun b o e => Nat.ne_of_lt (Nat.lt_of_lt_of_le (Heap.lt_size e) I.ok.above)
  have neC : ∀ b o, X.s₀.heap.get? b = some o → b ∉ X.ex → b ∉ ch := fun b o e hx hb => by
    rcases (hch b hb).1 with z | z
    · exact hx z
    · exact absurd (Nat.lt_of_lt_of_le (Heap.lt_size e) z) (Nat.lt_irrefl _)
  have cellK : ∀ x c, X.env.cells.lookup x = some c → ∀ v, s.heap.IsCell c v → h'.IsCell c v := fun x c e v ⟨o, ho, hd⟩ => by
    have nch : c ∉ ch := fun z => (hch c z).2.2.1 x c e rfl
    by_cases hc : c ∈ X.fs
    · obtain ⟨sl, q⟩ := slot c o (I.cne x c e) hc nch ho (I.freeC x c e)
      exact ⟨_, q, hd⟩
    · exact ⟨o, keep c o (I.cne x c e) hc nch ho (I.freeC x c e), hd⟩
  refine ⟨I.ok, I.os, hg, ⟨fun b o e n hb hx => ?_, fun b o e n hb hx => ?_, fun b o e n hx => ?_, fun b o e hx => ?_, fun b xs e => tups b xs (I.base.tups b xs e), fun b o xs e => frzs b o xs (I.base.frzs b o xs e), fun b ps e => ?_⟩, ?_, fun x c e => ?_, ?_, fun x c e => ?_, fun p hp => ?_, hok, I.len⟩
  · exact keep b o (neL b o e) hb (neC b o e hx) (I.base.keep b o e n hb hx) (I.base.free b o e n hx)
  · obtain ⟨sl, e1⟩ := I.base.slot b o e n hb hx
    obtain ⟨sl', e2⟩ := slot b _ (neL b o e) hb (neC b o e hx) e1 (I.base.free b o e n hx)
    exact ⟨sl', e2⟩
  · obtain ⟨o', e1⟩ := I.base.there b o e hx
    exact free b o' (neC b o e hx) e1 (I.base.free b o e n hx)
  · obtain ⟨o', e1⟩ := I.base.there b o e hx
    exact there b o' (neC b o e hx) e1
  · obtain ⟨m1, e1⟩ := I.base.tbls b ps e
    obtain ⟨m2, e2⟩ := tbls b _ e1
    exact ⟨m1 ++ m2, by rw [e2, Array.append_assoc]⟩
  · obtain ⟨m, hn, hl⟩ := I.loc
    refine ⟨m, ns m hn, fun i x v e1 e2 e3 => ?_⟩
    obtain ⟨u, r, l⟩ := hl i x v e1 e2 e3
    refine ⟨u, r, ?_⟩
    rcases l with l | ⟨k, c, e, z⟩
    · exact .inl l
    · exact .inr ⟨k, c, e, cellK x c e _ z⟩
  · obtain ⟨v, z⟩ := I.cell x c e
    exact ⟨v, cellK x c e v z⟩
  · obtain ⟨m, ⟨o, _, _, ho, _⟩, _⟩ := I.loc
    exact free _ o (fun z => (hch _ z).2.1 rfl) ho I.free
  · obtain ⟨v, o, ho, hd⟩ := I.cell x c e
    exact free c o (fun z => (hch c z).2.2.1 x c e rfl) ho (I.freeC x c e)
  · obtain ⟨e, n, ne, nf, d⟩ := I.pin p hp
    have nch : p.1 ∉ ch := fun z => (hch p.1 z).2.2.2 p hp rfl
    exact ⟨keep p.1 p.2 ne nf nch e n, free p.1 p.2 nch e n, ne, nf, d⟩
theorem Inv.un {t' : Nat} (I : Inv X pins σ H s) (u : Un X.fs [] H H' s.heap h') (hok : HOk X.prog X.w H' h') : Inv X pins σ H' { s with heap := h', toks := t' } := by
  obtain ⟨m, ⟨o, es, ep, ho, r⟩, _⟩ := id I.loc
  obtain ⟨sl, hL⟩ := u.any ho I.free (by simp)
  exact I.step (g' := s.gens) (d' := s.drawn) (ch := []) (fun _ z => nomatch z) (fun b o _ hb _ e n => u.keep b o e n hb (by simp)) (fun b o _ hb _ e n => u.slot b o e n hb (by simp)) (fun b o _ e n => u.free b o e n (by simp)) (fun b o _ e => u.there b o e (by simp)) u.tups u.frzs u.tbls (fun m' hm => by
    obtain ⟨o', es', ep', ho', r'⟩ := hm
    rw [ho] at ho'; cases ho'
    exact ⟨_, es', ep', hL, r'⟩) hok I.bare
theorem Inv.call {g' : Array GenState} {t' : Nat} {d' : Drawn} {ch : List Addr} (I : Inv X pins σ H s) (u : Un (frs X.stack) ch H H' s.heap h') (hok : HOk X.prog X.w H' h') (hg : AllBare g')
    (hch : ∀ b ∈ ch, (b ∈ X.ex ∨ X.s₀.heap.objs.size ≤ b) ∧ b ≠ X.env.locals ∧ (∀ x c, X.env.cells.lookup x = some c → c ≠ b) ∧ ∀ p ∈ X.pn ++ pins, p.1 ≠ b) :
    Inv X pins σ H' { s with heap := h', gens := g', drawn := d', toks := t' } := by
  obtain ⟨m, ⟨o, es, ep, ho, r⟩, _⟩ := id I.loc
  obtain ⟨sl, hL⟩ := u.any ho I.free fun z => (hch _ z).2.1 rfl
  exact I.step (ch := ch) hch (fun b o hL hb hc e n => u.keep b o e n (fun z => (List.mem_cons.mp (I.stkSub b z)).elim hL hb) hc) (fun b o _ _ hc e n => u.any e n hc) (fun b o hc e n => u.free b o e n hc) (fun b o hc e => u.there b o e hc) u.tups u.frzs u.tbls (fun m' hm => by
    obtain ⟨o', es', ep', ho', r'⟩ := hm
    rw [ho] at ho'; cases ho'
    exact ⟨_, es', ep', hL, r'⟩) hok hg
theorem Inv.turned {t' : Nat} {it : Addr} (I : Inv X pins σ H s) (k : ∀ b o, b ≠ it → s.heap.get? b = some o → h'.get? b = some o) (hn : H it = none) (hL : it ≠ X.env.locals)
    (h1 : it ∈ X.ex ∨ X.s₀.heap.objs.size ≤ it) (h2 : ∀ x c, X.env.cells.lookup x = some c → c ≠ it) (h3 : ∀ p ∈ X.pn ++ pins, p.1 ≠ it) : Inv X pins σ H { s with heap := h', toks := t' } := by
  have nit : ∀ b u, H b = some u → b ≠ it := fun b u e z => by rw [z, hn] at e; cases e
  refine I.step (g' := s.gens) (d' := s.drawn) (ch := [it]) (fun b hb => ?_) (fun b o _ _ hc e _ => k b o (fun z => hc (by simp [z])) e) (fun b o _ _ hc e _ => ⟨o.slots, k b o (fun z => hc (by simp [z])) e⟩) (fun _ _ _ _ n => n)
    (fun b o hc e => ⟨o, k b o (fun z => hc (by simp [z])) e⟩) (fun _ _ e => e) (fun _ _ _ e => e) (fun b ps e => ⟨#[], by rw [e]; simp⟩) (fun m hm => ?_) (fun b u e => ?_) I.bare
  · have e : b = it := by simpa using hb
    subst e
    exact ⟨h1, hL, h2, h3⟩
  · obtain ⟨o, es, ep, ho, r⟩ := hm
    exact ⟨o, es, ep, k _ o (Ne.symm hL) ho, r⟩
  · refine (I.hok b u e).stay (fun c v hc q => k c v ?_ q) (fun _ q => q) fun _ _ q => q
    rcases hc with z | z
    · rw [z]; exact nit b u e
    · exact nit c _ z
theorem Inv.tok (I : Inv X pins σ H s) (t : Nat) : Inv X pins σ H { s with toks := t } := I.un (h' := s.heap) (t' := t) Un.refl I.hok
theorem Inv.kept {t' : Nat} (I : Inv X pins σ H s) (k : ∀ b u, s.heap.get? b = some u → h'.get? b = some u) : Inv X pins σ H { s with heap := h', toks := t' } := I.un (Un.kept k) (I.hok.kept k)
theorem Inv.laid {a : Addr} {o : HO} {t' : Nat} (I : Inv X pins σ H s) (k : ∀ b u, s.heap.get? b = some u → h'.get? b = some u) (hp : s.heap.objs.size ≤ a) (new : ObjOk X.prog X.w (upd H a o) h' a o) :
    Inv X pins σ (upd H a o) { s with heap := h', toks := t' } := I.un (Un.laid k hp (I.hok.fresh hp)) (I.hok.laid k hp new)
theorem Inv.write {x e : Addr} {o : HO} {t' : Nat} (I : Inv X pins σ H s) (mu : Mut (H x)) (he : e = x ∨ H e = some (.own x)) (k : ∀ b u, b ≠ e → s.heap.get? b = some u → h'.get? b = some u) (heo : ∃ u, h'.get? e = some u)
    (new : ObjOk X.prog X.w (upd H x o) h' x o) : Inv X pins σ (upd H x o) { s with heap := h', toks := t' } := I.un (Un.write mu he k heo) (I.hok.write mu he k heo new)
theorem Inv.weak {σ' : List (Option V)} (I : Inv X pins σ H s) (hl : σ'.length = σ.length) (w : ∀ (i : Nat) v, σ'[i]? = some (some v) → σ[i]? = some (some v)) : Inv X pins σ' H s :=
  ⟨I.ok, I.os, I.bare, I.base, let ⟨m, hn, hl'⟩ := I.loc; ⟨m, hn, fun i x v e1 e2 e3 => hl' i x v e1 (w i v e2) e3⟩, I.cell, I.free, I.freeC, I.pin, I.hok, hl.trans I.len⟩
theorem Inv.pins_of {pins' : List (Addr × Obj)} (I : Inv X pins σ H s) (h : ∀ p ∈ pins', s.heap.get? p.1 = some p.2 ∧ H p.1 = none ∧ p.1 ≠ X.env.locals ∧ p.1 ∉ X.fs ∧ ∀ v, p.2.data ≠ .cell v) : Inv X pins' σ H s :=
  ⟨I.ok, I.os, I.bare, I.base, I.loc, I.cell, I.free, I.freeC, fun p hp => (List.mem_append.mp hp).elim (fun z => I.pin p (List.mem_append_left _ z)) (h p), I.hok, I.len⟩
theorem nodup_ix {N : List Str} (hN : N.Nodup) {i j : Nat} {x : Str} (a : N[i]? = some x) (b : N[j]? = some x) : i = j := by
  obtain ⟨h1, e1⟩ := List.getElem?_eq_some_iff.mp a
  obtain ⟨h2, e2⟩ := List.getElem?_eq_some_iff.mp b
  exact (List.getElem_inj hN).mp (e1.trans e2.symm)
theorem store_ok2 {M : Model} {A : Around} {E : Value → Shared → Prop} {i : Nat} {x : Str} {v : V} {u : Value} {Q : Unit → Shared → Prop} (I : Inv X pins σ H s) (hN : X.N.Nodup) (hi : X.N[i]? = some x) (hx : Loc X.env.scope x) (r : RelV v u)
    (h : ∀ s', Inv X pins (σ.set i (some v)) H s' → (∃ a, Heap.SameBut a s.heap s'.heap ∧ (a = X.env.locals ∨ X.env.cells.lookup x = some a)) → Q () s') (hf : X.fn x = true ∨ X.env.scope.names.lookup x = some .local := by first | exact .inl rfl | exact .inr rfl | assumption) : wpAny M A (storeName X.env x u) Q E s := by
  obtain ⟨m, hn, hl⟩ := id I.loc
  have hcls : (X.env.scope.kind == .class || (X.env.scope.kind == .module && X.env.locals != X.env.globals)) = false := by rw [I.ok.kind]; rfl
  have hiσ : i < σ.length := by rw [I.len]; exact (List.getElem?_eq_some_iff.mp hi).1
  have cne := I.cne
  have tracked : ∀ {a : Addr} {h' : Heap}, (∃ o, s.heap.get? a = some o ∧ H a = none) → Heap.SameBut a s.heap h' → HOk X.prog X.w H h' := fun {a h'} ha hs b ob e => by
    obtain ⟨_, _, hfree⟩ := ha
    refine (I.hok b ob e).stay (fun c w' hc q => (hs.2 c ?_).trans q) (fun _ q => q) fun _ _ q => q
    rintro rfl
    rcases hc with rfl | hc
    · rw [hfree] at e; cases e
    · rw [hfree] at hc; cases hc
  rcases hx with hk | hk
  · refine wpAny_storeName_local hk hn (fun h' hn' hs => ?_) hcls
    obtain ⟨oL, _, _, hoL, _⟩ := id hn
    refine h _ ⟨I.ok, I.os, I.bare, ⟨fun b o e n hb hx => ?_, fun b o e n hb hx => ?_, I.base.free, fun b o e hx => ?_, I.base.tups, I.base.frzs, I.base.tbls⟩, ⟨_, hn', fun j y v' e1 e2 e3 => ?_⟩, fun y c e => ?_, I.free, I.freeC, fun p hp => ?_, tracked ⟨oL, hoL, I.free⟩ hs, by simpa using I.len⟩ ⟨_, hs, .inl rfl⟩
    · exact (hs.2 b (Nat.ne_of_lt (Nat.lt_of_lt_of_le (Heap.lt_size e) I.ok.above))).trans (I.base.keep b o e n hb hx)
    · obtain ⟨sl, e1⟩ := I.base.slot b o e n hb hx
      exact ⟨sl, (hs.2 b (Nat.ne_of_lt (Nat.lt_of_lt_of_le (Heap.lt_size e) I.ok.above))).trans e1⟩
    · obtain ⟨o', e1⟩ := I.base.there b o e hx
      exact ⟨o', (hs.2 b (Nat.ne_of_lt (Nat.lt_of_lt_of_le (Heap.lt_size e) I.ok.above))).trans e1⟩
    · by_cases hj : j = i
      · subst hj
        rw [hi] at e1; cases e1
        rw [List.getElem?_set_self hiσ] at e2
        cases e2
        exact ⟨u, r, .inl ⟨hk, by simp⟩⟩
      · rw [List.getElem?_set_ne (Ne.symm hj)] at e2
        obtain ⟨u', r', q⟩ := hl j y v' e1 e2 e3
        refine ⟨u', r', ?_⟩
        rcases q with ⟨k, e⟩ | ⟨k, c, e, z⟩
        · refine .inl ⟨k, ?_⟩
          have : y ≠ x := fun e => hj (nodup_ix hN e1 (e ▸ hi))
          simp [this, e]
        · exact .inr ⟨k, c, e, z.sameBut hs (cne y c e)⟩
    · obtain ⟨w', z⟩ := I.cell y c e
      exact ⟨w', z.sameBut hs (cne y c e)⟩
    · obtain ⟨e, n, ne, nf, d⟩ := I.pin p hp
      exact ⟨(hs.2 p.1 ne).trans e, n, ne, nf, d⟩
  · have hfn : X.fn x = true := by
      rcases hf with z | z
      · exact z
      · rw [z] at hk; cases hk
    obtain ⟨c, hc⟩ := I.ok.has x (.inl hk)
    obtain ⟨w', z⟩ := I.cell x c hc
    refine wpAny_storeName_cell I.ok.kind hk hc z (fun h' hc' hs => ?_)
    obtain ⟨oc, hoc, hocd⟩ := id z
    refine h { s with heap := h' } ⟨I.ok, I.os, I.bare, ⟨fun b o e n hb hx => ?_, fun b o e n hb hx => ?_, I.base.free, fun b o e hx => ?_, I.base.tups, I.base.frzs, I.base.tbls⟩, ⟨m, hn.sameBut hs (Ne.symm (cne x c hc)), fun j y v' e1 e2 e3 => ?_⟩, fun y c' e => ?_, I.free, I.freeC, fun p hp => ?_, tracked ⟨oc, hoc, I.freeC x c hc⟩ hs, by simpa using I.len⟩ ⟨c, hs, .inr hc⟩
    · exact (hs.2 b (Nat.ne_of_lt (Nat.lt_of_lt_of_le (Heap.lt_size e) (I.ok.cab x c hfn hc)))).trans (I.base.keep b o e n hb hx)
    · obtain ⟨sl, e1⟩ := I.base.slot b o e n hb hx
      exact ⟨sl, (hs.2 b (Nat.ne_of_lt (Nat.lt_of_lt_of_le (Heap.lt_size e) (I.ok.cab x c hfn hc)))).trans e1⟩
    · obtain ⟨o', e1⟩ := I.base.there b o e hx
      exact ⟨o', (hs.2 b (Nat.ne_of_lt (Nat.lt_of_lt_of_le (Heap.lt_size e) (I.ok.cab x c hfn hc)))).trans e1⟩
    · by_cases hj : j = i
      · subst hj
        rw [hi] at e1; cases e1
        rw [List.getElem?_set_self hiσ] at e2
        cases e2
        exact ⟨u, r, .inr ⟨.inl hk, c, hc, hc'⟩⟩
      · rw [List.getElem?_set_ne (Ne.symm hj)] at e2
        obtain ⟨u', r', q⟩ := hl j y v' e1 e2 e3
        refine ⟨u', r', ?_⟩
        rcases q with q | ⟨k, c', e, z'⟩
        · exact .inl q
        · refine .inr ⟨k, c', e, z'.sameBut hs ?_⟩
          rintro rfl
          exact hj (nodup_ix hN e1 (I.ok.inj _ _ _ e hc ▸ hi))
    · by_cases hcc : c' = c
      · subst hcc; exact ⟨_, hc'⟩
      · obtain ⟨w2, z2⟩ := I.cell y c' e
        exact ⟨w2, z2.sameBut hs hcc⟩
    · obtain ⟨e, n, ne, nf, d⟩ := I.pin p hp
      refine ⟨(hs.2 p.1 ?_).trans e, n, ne, nf, d⟩
      intro q
      rw [q, hoc] at e
      have q' : oc = p.2 := Option.some.inj e
      exact d w' (by rw [← q']; exact hocd)
theorem store_ok {M : Model} {A : Around} {E : Value → Shared → Prop} {i : Nat} {x : Str} {v : V} {u : Value} {Q : Unit → Shared → Prop} (I : Inv X pins σ H s) (hN : X.N.Nodup) (hi : X.N[i]? = some x) (hx : Loc X.env.scope x) (r : RelV v u)
    (h : ∀ s', Inv X pins (σ.set i (some v)) H s' → Q () s') (hf : X.fn x = true ∨ X.env.scope.names.lookup x = some .local := by first | exact .inl rfl | exact .inr rfl | assumption) : wpAny M A (storeName X.env x u) Q E s :=
  store_ok2 I hN hi hx r (fun s' I' _ => h s' I') hf
theorem Inv.call' {s' : Shared} {ch : List Addr} (I : Inv X pins σ H s) (ho : s'.os = s.os) (u : Un (frs X.stack) ch H H' s.heap s'.heap) (hok : HOk X.prog X.w H' s'.heap) (hg : AllBare s'.gens)
    (hch : ∀ b ∈ ch, (b ∈ X.ex ∨ X.s₀.heap.objs.size ≤ b) ∧ b ≠ X.env.locals ∧ (∀ x c, X.env.cells.lookup x = some c → c ≠ b) ∧ ∀ p ∈ X.pn ++ pins, p.1 ≠ b) : Inv X pins σ H' s' := by
  obtain ⟨h', g', d', t', o'⟩ := s'
  have e : o' = s.os := ho
  subst e
  exact I.call (g' := g') (t' := t') (d' := d') u hok hg hch
end
abbrev XK := Value → Option Addr → Hp → Prop
abbrev St := List (Option V)
abbrev VK := V → Hp → Prop
abbrev TE := St → Hp → VK → Prop
abbrev TT := St → Hp → (Bool → Hp → Prop) → Prop
abbrev TA := St → Hp → (List V → Hp → Prop) → Prop
structure Ends where
  nx : St → Hp → Prop
  rt : VK
  bk : St → Hp → Prop := fun _ _ => False
  ct : St → Hp → Prop := fun _ _ => False
abbrev TS := Ends → St → Hp → Prop
def EP (X : Cx) (pins : List (Addr × Obj)) (σ : St) (Q : VK) (u : Value) (s' : Shared) : Prop := ∃ v H', Inv X pins σ H' s' ∧ RelV v u ∧ Q v H'
def TP (X : Cx) (pins : List (Addr × Obj)) (σ : St) (Q : Bool → Hp → Prop) (b : Bool) (s' : Shared) : Prop := ∃ H', Inv X pins σ H' s' ∧ Q b H'
def AP (X : Cx) (pins : List (Addr × Obj)) (σ : St) (Q : List V → Hp → Prop) (us : List Value) (s' : Shared) : Prop := ∃ vs H', Inv X pins σ H' s' ∧ Vals vs us ∧ Q vs H'
def SP (X : Cx) (pins : List (Addr × Obj)) (D : Ends) (f : Flow) (s' : Shared) : Prop :=
  match f with
  | .next => ∃ σ' H', Inv X pins σ' H' s' ∧ D.nx σ' H'
  | .brk => ∃ σ' H', Inv X pins σ' H' s' ∧ D.bk σ' H'
  | .cont => ∃ σ' H', Inv X pins σ' H' s' ∧ D.ct σ' H'
  | .ret u => ∃ v σ' H', Inv X pins σ' H' s' ∧ RelV v u ∧ D.rt v H'
def PE (X : Cx) (e : Expr) (t : TE) : Prop :=
  ∀ (pins : List (Addr × Obj)) (s : Shared) (σ : St) (H : Hp) (Q : VK), Inv X pins σ H s → t σ H Q → wpAny (model X.prog X.w) X.A (eval e X.env) (EP X pins σ Q) X.xe s
def PT (X : Cx) (e : Expr) (t : TT) : Prop :=
  ∀ (pins : List (Addr × Obj)) (s : Shared) (σ : St) (H : Hp) (Q : Bool → Hp → Prop), Inv X pins σ H s → t σ H Q → wpAny (model X.prog X.w) X.A (isTrue e X.env (eval e X.env)) (TP X pins σ Q) X.xe s
def PW (X : Cx) (e : Expr) (t : TT) : Prop :=
  ∀ (whole : Sem Value) (pins : List (Addr × Obj)) (s : Shared) (σ : St) (H : Hp) (Q : Bool → Hp → Prop), Inv X pins σ H s → t σ H Q → wpAny (model X.prog X.w) X.A (isTrue e X.env whole) (TP X pins σ Q) X.xe s
theorem PW.pt {X : Cx} {e : Expr} {t : TT} (h : PW X e t) : PT X e t := h _
def PA (X : Cx) (es : List Expr) (t : TA) : Prop :=
  ∀ (pos : Pos) (pins : List (Addr × Obj)) (s : Shared) (σ : St) (H : Hp) (Q : List V → Hp → Prop), Inv X pins σ H s → t σ H Q → wpAny (model X.prog X.w) X.A (spliced (backTo pos (starEach es X.env))) (AP X pins σ Q) X.xe s
def PS (X : Cx) (st : Stmt) (t : TS) : Prop :=
  ∀ (pins : List (Addr × Obj)) (s : Shared) (σ : St) (H : Hp) (D : Ends), Inv X pins σ H s → t D σ H → wpAny (model X.prog X.w) X.A (exec st X.env) (SP X pins D) X.xe s
def PSs (X : Cx) (st : List Stmt) (t : TS) : Prop :=
  ∀ (pins : List (Addr × Obj)) (s : Shared) (σ : St) (H : Hp) (D : Ends), Inv X pins σ H s → t D σ H → wpAny (model X.prog X.w) X.A (execs st X.env) (SP X pins D) X.xe s
theorem thn {α : Type} {t : Sem α} {Q Q' : α → Shared → Prop} {M : Model} {A : Around} {E : Value → Shared → Prop} {s : Shared} (h : wpAny M A t Q E s) (hQ : ∀ a s, Q a s → Q' a s) : wpAny M A t Q' E s := wpAny_mono h hQ fun _ _ x => x
end L2
namespace L2
open PySem PySem.Spec PyProof.Rows
section
variable {X : Cx}
theorem bin {a b : Expr} {ta tb : TE} (ha : PE X a ta) (hb : PE X b tb) {pins : List (Addr × Obj)} {s : Shared} {σ : St} {H : Hp} {R : V → V → Hp → Prop} (I : Inv X pins σ H s) (h : ta σ H fun x H1 => tb σ H1 fun y H2 => R x y H2)
    {α : Type} {Q : α → Shared → Prop} {f : Value → Value → Sem α}
    (hf : ∀ v u s2 x y H2, Inv X pins σ H2 s2 → RelV x v → RelV y u → R x y H2 → wpAny (model X.prog X.w) X.A (f v u) Q X.xe s2) :
    wpAny (model X.prog X.w) X.A (eval a X.env) (fun v s₁ => wpAny (model X.prog X.w) X.A (eval b X.env) (fun u s₂ => wpAny (model X.prog X.w) X.A (f v u) Q X.xe s₂) X.xe s₁) X.xe s := by
  refine thn (ha pins s σ H _ I h) fun v s1 ⟨x, H1, I1, r1, q1⟩ => ?_
  refine thn (hb pins s1 σ H1 _ I1 q1) fun u s2 ⟨y, H2, I2, r2, q2⟩ => ?_
  exact hf v u s2 x y H2 I2 r1 r2 q2
def tVar (i : Nat) : TE := fun σ H Q => ∃ v, σ[i]? = some (some v) ∧ Q v H
def tC (v : V) : TE := fun _ H Q => Q v H
theorem pe_var {i : Nat} {x : Str} {pos : Pos} (hN : X.N[i]? = some x) (hv : Vis X.env.scope x) (hd : (x == ("__debug__" : Str)) = false := by decide) (hcd : (x == ("__classdict__" : Str)) = false := by decide) : PE X (.Name x pos) (tVar i) := by
  intro pins s σ H Q I h
  obtain ⟨v, e, h⟩ := h
  obtain ⟨m, hn, hl⟩ := I.loc
  obtain ⟨u, r, l⟩ := hl i x v hN e hv
  have fin : EP X pins σ Q u s := ⟨v, H, I, r, h⟩
  rcases l with ⟨hk, hm⟩ | ⟨hk, c, hc, hcell⟩
  · exact wpAny_Name (wpAny_loadName_local I.ok.kind hk hn hm fin) hd
  · rcases hk with hk | hk
    · exact wpAny_Name (wpAny_loadName_cell I.ok.kind hk hc hcell fin) hd
    · exact wpAny_Name (wpAny_loadName_free I.ok.kind hk hc hcell fin hcd) hd
theorem pe_int {i j pos} : PE X (.Constant (.int i) j pos) (tC (.int i)) := fun _ _ _ H _ I h => wpAny_Constant_int ⟨.int i, H, I.tok _, ⟨_, rfl⟩, h⟩
theorem pe_non {j pos} : PE X (.Constant .none j pos) (tC .non) := fun _ _ _ H _ I h => Constant_none ⟨.non, H, I, rfl, h⟩
theorem pe_str {x j pos} : PE X (.Constant (.str x) j pos) (tC (.str x)) := fun _ _ _ H _ I h => Calls.Constant_str ⟨.str x, H, I.tok _, ⟨_, rfl⟩, h⟩
def Gl (X : Cx) (x : Str) : Prop := X.env.kindOf x = some .globalImplicit
theorem ld_glob {E : Value → Shared → Prop} {pins : List (Addr × Obj)} {s : Shared} {σ : St} {H : Hp} {x : Str} {u : Value} {pos : Pos} {Q : Value → Shared → Prop} (I : Inv X pins σ H s) (hg : Gl X x) (hm : X.mg x = some u) (h : Q u s)
    (hd : (x == ("__debug__" : Str)) = false := by decide) : wpAny (model X.prog X.w) X.A (eval (.Name x pos) X.env) Q E s :=
  Calls.Name_function_global I.ok.kind hg (Calls.loadGlobal_global (by rw [I.ok.glob]; exact I.mod.glob.keeps I.bk) hm h) hd
theorem ld_blt {E : Value → Shared → Prop} {pins : List (Addr × Obj)} {s : Shared} {σ : St} {H : Hp} {x : Str} {u : Value} {pos : Pos} {Q : Value → Shared → Prop} (I : Inv X pins σ H s) (hg : Gl X x) (hm : X.mg x = none) (hv : bootBuiltins x = some u) (h : Q u s)
    (hn : x ≠ "__name__" := by decide) (hd : (x == ("__debug__" : Str)) = false := by decide) : wpAny (model X.prog X.w) X.A (eval (.Name x pos) X.env) Q E s := by
  obtain ⟨mb, h1, h2⟩ := I.mod.blt
  exact Calls.Name_function_global I.ok.kind hg (Calls.loadGlobal_builtin (by rw [I.ok.glob]; exact I.mod.glob.keeps I.bk) hm (by rw [I.ok.blt]; exact h1.keeps I.bk) ((h2 x hn).trans hv) h) hd
theorem pe_glob {x : Str} {v : V} {u : Value} {pos : Pos} (hg : Gl X x) (hm : X.mg x = some u) (r : RelV v u) (hd : (x == ("__debug__" : Str)) = false := by decide) : PE X (.Name x pos) (tC v) :=
  fun _ _ _ H _ I h => ld_glob I hg hm ⟨v, H, I, r, h⟩ hd
variable {a b : Expr} {ta tb : TE} {pos : Pos}
def PC (X : Cx) (op : CmpOp) (a b : Expr) (t : TE) : Prop :=
  ∀ (pins : List (Addr × Obj)) (s : Shared) (σ : St) (H : Hp) (Q : VK), Inv X pins σ H s → t σ H Q →
    wpAny (model X.prog X.w) X.A (eval a X.env) (fun v s₁ => wpAny (model X.prog X.w) X.A (eval b X.env) (fun u s₂ => wpAny (model X.prog X.w) X.A (compareOp op v u) (EP X pins σ Q) X.xe s₂) X.xe s₁) X.xe s
theorem nobehind (b : Expr) {op : CmpOp} (h : op ≠ .In) (h2 : op ≠ .NotIn) : behindInMarks op b = false := by
  have e1 : (op == CmpOp.In) = false := by cases op <;> first | rfl | exact absurd rfl h
  have e2 : (op == CmpOp.NotIn) = false := by cases op <;> first | rfl | exact absurd rfl h2
  cases b <;> simp [behindInMarks, e1, e2]
def tIsN (ta : TE) : TE := fun σ H Q => ta σ H fun x H1 => Q (.bl (decide (x = .non))) H1
def tNotN (ta : TE) : TE := fun σ H Q => ta σ H fun x H1 => Q (.bl (!decide (x = .non))) H1
theorem RelV.none_iff {x : V} {v : Value} (r : RelV x v) : (v == Value.none) = decide (x = .non) := by
  cases x with
  | non => cases r; rfl
  | bl _ => cases r; rfl
  | int _ => obtain ⟨t, rfl⟩ := r; rfl
  | str _ => obtain ⟨t, rfl⟩ := r; rfl
  | byt _ => obtain ⟨t, rfl⟩ := r; rfl
  | flt _ => obtain ⟨t, rfl⟩ := r; rfl
  | ref _ => cases r; rfl
  | ty _ => cases r; rfl
theorem pc_isN {j pos'} (ha : PE X a ta) : PC X .Is a (.Constant .none j pos') (tIsN ta) := by
  intro pins s σ H Q I h
  refine thn (ha pins s σ H _ I h) fun v s1 ⟨x, H1, I1, r1, q1⟩ => ?_
  exact Constant_none (is_none_gen ⟨.bl _, H1, I1, by rw [r1.none_iff]; rfl, q1⟩)
theorem pc_notN {j pos'} (ha : PE X a ta) : PC X .IsNot a (.Constant .none j pos') (tNotN ta) := by
  intro pins s σ H Q I h
  refine thn (ha pins s σ H _ I h) fun v s1 ⟨x, H1, I1, r1, q1⟩ => ?_
  exact Constant_none (isnot_none_gen ⟨.bl _, H1, I1, by rw [r1.none_iff]; rfl, q1⟩)
def tB (t : TE) : TT := fun σ H Q => t σ H fun x H1 => ∃ c, x = .bl c ∧ Q c H1
theorem pt_cmp {op : CmpOp} {t : TE} (h : PC X op a b t) (h1 : behindInMarks op b = false := by first | exact nobehind _ (by decide) (by decide) | rfl) : PT X (.Compare a [op] [b] pos) (tB t) := by
  intro pins s σ H Q I hw
  refine wpAny_isTrue_Compare1 (thn (h pins s σ H _ I hw) fun v s1 h1 => thn h1 fun u s2 h2 => thn h2 fun c s3 ⟨x, H1, I1, r1, q1⟩ => ?_) h1
  obtain ⟨d, rfl, q⟩ := q1
  cases r1
  exact wpAny_truthy_bool ⟨H1, I1, q⟩
theorem pt_val {e : Expr} {t : TE} (h : PE X e t) (he : ∀ whole, isTrue e X.env whole = (do let v ← whole; standAt e.pos; holding [v] (truthy v)) := by intro _; rfl) : PT X e (tB t) := by
  intro pins s σ H Q I hw
  refine isTrue_plain (thn (h pins s σ H _ I hw) fun v s1 ⟨x, H1, I1, r1, q1⟩ => ?_) (he _)
  obtain ⟨d, rfl, q⟩ := q1
  cases r1
  exact wpAny_truthy_bool ⟨H1, I1, q⟩
variable {tA tB' : TT} {rest : List Expr}
def tAnd (t u : TT) : TT := fun σ H Q => t σ H fun c H1 => if c = true then u σ H1 Q else Q false H1
def tOr (t u : TT) : TT := fun σ H Q => t σ H fun c H1 => if c = true then Q true H1 else u σ H1 Q
def tNot (t : TT) : TT := fun σ H Q => t σ H fun c H1 => Q (!c) H1
theorem pw_and1 (ha : PT X a tA) : PW X (.BoolOp .And [a] pos) tA := by
  intro wh pins s σ H Q I h
  refine isTrue_and (thn (ha pins s σ H Q I h) fun c s1 e => ?_)
  cases c with
  | true => exact isTrue_and_nil e
  | false => exact e
theorem pw_or1 (ha : PT X a tA) : PW X (.BoolOp .Or [a] pos) tA := by
  intro wh pins s σ H Q I h
  refine isTrue_or (thn (ha pins s σ H Q I h) fun c s1 e => ?_)
  cases c with
  | false => exact isTrue_or_nil e
  | true => exact e
theorem pw_and (ha : PT X a tA) (hb : PW X (.BoolOp .And (b :: rest) pos) tB') : PW X (.BoolOp .And (a :: b :: rest) pos) (tAnd tA tB') := by
  intro wh pins s σ H Q I h
  refine isTrue_and (thn (ha pins s σ H _ I h) fun c s1 ⟨H1, I1, q1⟩ => ?_)
  cases c with
  | true => exact hb wh pins s1 σ H1 Q I1 q1
  | false => exact ⟨H1, I1, q1⟩
theorem pw_or (ha : PT X a tA) (hb : PW X (.BoolOp .Or (b :: rest) pos) tB') : PW X (.BoolOp .Or (a :: b :: rest) pos) (tOr tA tB') := by
  intro wh pins s σ H Q I h
  refine isTrue_or (thn (ha pins s σ H _ I h) fun c s1 ⟨H1, I1, q1⟩ => ?_)
  cases c with
  | true => exact ⟨H1, I1, q1⟩
  | false => exact hb wh pins s1 σ H1 Q I1 q1
theorem pt_not (ha : PT X a tA) : PT X (.UnaryOp .Not a pos) (tNot tA) := by
  intro pins s σ H Q I h
  exact isTrue_not (ha pins s σ H (fun c H1 => Q (!c) H1) I h)
def tOrV (ta tb : TE) : TE := fun σ H Q => ta σ H fun x H1 => ∃ c, x = .bl c ∧ if c = true then Q (.bl true) H1 else tb σ H1 Q
theorem pe_one {op} {t : TE} (h : PE X a t) : PE X (.BoolOp op [a] pos) t := fun pins s σ H Q I hw => BoolOp_one (h pins s σ H Q I hw)
theorem pe_or (ha : PE X a ta) (hb : PE X (.BoolOp .Or (b :: rest) pos) tb) : PE X (.BoolOp .Or (a :: b :: rest) pos) (tOrV ta tb) := by
  intro pins s σ H Q I h
  refine BoolOp_or (thn (ha pins s σ H _ I h) fun v s1 ⟨x, H1, I1, r1, q1⟩ => ?_)
  obtain ⟨c, rfl, q1⟩ := q1
  cases r1
  refine wpAny_truthy_bool ?_
  cases c with
  | false => exact hb pins s1 σ H1 Q I1 q1
  | true => exact ⟨.bl true, H1, I1, rfl, q1⟩
def tIf (t : TT) (ta tb : TE) : TE := fun σ H Q => t σ H fun c H1 => if c = true then ta σ H1 Q else tb σ H1 Q
theorem pe_ifExp {c : Expr} (hc : PT X c tA) (ha : PE X a ta) (hb : PE X b tb) : PE X (.IfExp c a b pos) (tIf tA ta tb) := by
  intro pins s σ H Q I h
  refine wpAny_IfExp (thn (hc pins s σ H _ I h) fun d s1 ⟨H1, I1, q1⟩ => ?_)
  cases d with
  | true => exact ha pins s1 σ H1 Q I1 q1
  | false => exact hb pins s1 σ H1 Q I1 q1
end
end L2
namespace L2
open PySem PySem.Spec PyProof.Rows
def SqL (K : PySem.W.Frag) (H : Hp) (a : Addr) (xs : List V) : Prop :=
  Rd H a (.lst xs) ∨
    ∃ (o : Obj) (its : Array Value) (n : Nat), K.lookup a = some o ∧ o.cls = .type "list" ∧ o.dict = none ∧ o.data = .seq its n ∧ its.size ≤ sizeLine ∧ Vals xs its.toList
def SqT (K : PySem.W.Frag) (H : Hp) (a : Addr) (xs : List V) : Prop :=
  Rd H a (.tup xs) ∨
    ∃ (o : Obj) (its : Array Value) (n : Nat), K.lookup a = some o ∧ o.cls = .type "tuple" ∧ o.data = .seq its n ∧ its.size ≤ sizeLine ∧ Vals xs its.toList
def absV : Value → Option V
  | .none => some .non
  | .bool b => some (.bl b)
  | .int i _ => some (.int i)
  | .str x _ => some (.str x)
  | .bytes b _ => some (.byt b)
  | .float b _ => some (.flt b)
  | .ref a => some (.ref a)
  | .type n => some (.ty n)
  | _ => none
theorem RelV.abs {x : V} {u : Value} (r : RelV x u) : absV u = some x := by
  cases x with
  | non => cases r; rfl
  | bl _ => cases r; rfl
  | int _ => obtain ⟨t, rfl⟩ := r; rfl
  | str _ => obtain ⟨t, rfl⟩ := r; rfl
  | byt _ => obtain ⟨t, rfl⟩ := r; rfl
  | flt _ => obtain ⟨t, rfl⟩ := r; rfl
  | ref _ => cases r; rfl
  | ty _ => cases r; rfl
theorem RelV.inj {x y : V} {u : Value} (r : RelV x u) (q : RelV y u) : x = y := Option.some.inj (r.abs.symm.trans q.abs)
theorem Vals.inj : ∀ {xs ys : List V} {us : List Value}, Vals xs us → Vals ys us → xs = ys
  | _, _, _, .nil, .nil => rfl
  | _, _, _, .cons r t, .cons r' t' => by rw [r.inj r', Vals.inj t t']
section
variable {X : Cx} {pins : List (Addr × Obj)} {σ : St} {H : Hp} {s : Shared} {a : Addr} {xs ys : List V}
theorem SqL.of {K : PySem.W.Frag} (h : H a = some (.lst xs)) : SqL K H a xs := .inl (.inl h)
theorem SqT.of {K : PySem.W.Frag} (h : H a = some (.tup xs)) : SqT K H a xs := .inl (.inl h)
theorem Inv.list (I : Inv X pins σ H s) (h : SqL X.K H a xs) : ∃ its : List Value, Vals xs its ∧ PlainL s.heap a its.toArray ∧ xs.length ≤ sizeLine := by
  rcases h with h | ⟨o, its, n, hk, hc, hd, hs, hz, r⟩
  · obtain ⟨z, its, n, r, e⟩ := h.ok I.hok
    exact ⟨its, r, ⟨_, n, e, rfl, rfl, rfl⟩, z⟩
  · refine ⟨its.toList, r, ⟨o, n, I.kIn a o hk, hc, hd, by simpa using hs⟩, ?_⟩
    have e := r.length
    simp only [Array.length_toList] at e
    omega
theorem Inv.tuple (I : Inv X pins σ H s) (h : SqT X.K H a xs) : ∃ its : List Value, Vals xs its ∧ IsTup s.heap a its.toArray ∧ xs.length ≤ sizeLine := by
  rcases h with h | ⟨o, its, n, hk, hc, hs, hz, r⟩
  · obtain ⟨z, its, r, p⟩ := h.ok I.hok
    exact ⟨its, r, p, z⟩
  · refine ⟨its.toList, r, ⟨o, I.kIn a o hk, hc, n, by simpa using hs⟩, ?_⟩
    have e := r.length
    simp only [Array.length_toList] at e
    omega
theorem Inv.list_inj (I : Inv X pins σ H s) (h : SqL X.K H a xs) (h' : SqL X.K H a ys) : xs = ys := by
  obtain ⟨its, r, ⟨o, n, e, _, _, d⟩, _⟩ := I.list h
  obtain ⟨its', r', ⟨o', n', e', _, _, d'⟩, _⟩ := I.list h'
  rw [e] at e'; cases e'
  rw [d] at d'
  injection d' with d1 _
  have : its = its' := by simpa using congrArg Array.toList d1
  subst this
  exact r.inj r'
theorem Inv.tuple_inj (I : Inv X pins σ H s) (h : SqT X.K H a xs) (h' : SqT X.K H a ys) : xs = ys := by
  obtain ⟨its, r, ⟨o, e, _, n, d⟩, _⟩ := I.tuple h
  obtain ⟨its', r', ⟨o', e', _, n', d'⟩, _⟩ := I.tuple h'
  rw [e] at e'; cases e'
  rw [d] at d'
  injection d' with d1 _
  have : its = its' := by simpa using congrArg Array.toList d1
  subst this
  exact r.inj r'
end
abbrev Cx.wish (X : Cx) (E : Value → Shared → Prop) : Cx := { X with xe := E }
abbrev Cx.nox (X : Cx) : Cx := X.wish fun _ _ => False
theorem Cx.Ok.wish {X : Cx} (ok : X.Ok) (E : Value → Shared → Prop) : (X.wish E).Ok :=
  ⟨ok.mod, ok.kind, ok.glob, ok.blt, ok.above, ok.inj, ok.has, ok.cab, ok.hd, ok.frames, ok.stk, ok.exf, ok.bs, ok.bsz, ok.noex, ok.exfs, ok.funs, ok.frf⟩
theorem Cx.Ok.unwish {X : Cx} {E : Value → Shared → Prop} (ok : (X.wish E).Ok) : X.Ok :=
  ⟨ok.mod, ok.kind, ok.glob, ok.blt, ok.above, ok.inj, ok.has, ok.cab, ok.hd, ok.frames, ok.stk, ok.exf, ok.bs, ok.bsz, ok.noex, ok.exfs, ok.funs, ok.frf⟩
section
variable {X : Cx} {pins : List (Addr × Obj)} {σ : St} {H : Hp} {s : Shared} {E : Value → Shared → Prop}
theorem Inv.wish (I : Inv X pins σ H s) (E : Value → Shared → Prop) : Inv (X.wish E) pins σ H s := ⟨I.ok.wish E, I.os, I.bare, I.base, I.loc, I.cell, I.free, I.freeC, I.pin, I.hok, I.len⟩
theorem Inv.unwish (I : Inv (X.wish E) pins σ H s) : Inv X pins σ H s := ⟨I.ok.unwish, I.os, I.bare, I.base, I.loc, I.cell, I.free, I.freeC, I.pin, I.hok, I.len⟩
theorem SP.unwish {D : Ends} {f : Flow} {s' : Shared} (h : SP (X.wish E) pins D f s') : SP X pins D f s' := by
  cases f with
  | next => obtain ⟨σ', H', I, q⟩ := h; exact ⟨σ', H', I.unwish, q⟩
  | brk => obtain ⟨σ', H', I, q⟩ := h; exact ⟨σ', H', I.unwish, q⟩
  | cont => obtain ⟨σ', H', I, q⟩ := h; exact ⟨σ', H', I.unwish, q⟩
  | ret u => obtain ⟨v, σ', H', I, r, q⟩ := h; exact ⟨v, σ', H', I.unwish, r, q⟩
theorem PSs.nox {st : List Stmt} {t : TS} (h : PSs X.nox st t) : PSs X st t := fun pins s σ H D I hw =>
  wpAny_mono (h pins s σ H D (I.wish _) hw) (fun _ _ q => q.unwish) fun _ _ z => False.elim z
end
section
variable {X : Cx} {st : Stmt} {rest : List Stmt} {t u : TS} {e : Expr} {te : TE} {pos : Pos}
def tNext : TS := fun D σ H => D.nx σ H
def tSeq (t u : TS) : TS := fun D σ H => t { D with nx := u D } σ H
theorem pss_nil : PSs X [] tNext := fun _ _ σ H _ I h => wpAny_execs_nil ⟨σ, H, I, h⟩
theorem pss_cons (h1 : PS X st t) (h2 : PSs X rest u) : PSs X (st :: rest) (tSeq t u) := by
  intro pins s σ H D I h
  refine wpAny_execs_cons (thn (h1 pins s σ H { D with nx := u D } I h) fun f s1 q => ?_)
  cases f with
  | next =>
    obtain ⟨σ', H', I', q⟩ := q
    exact h2 pins s1 σ' H' D I' q
  | ret v => exact q
  | brk => exact q
  | cont => exact q
theorem pss_one (h1 : PS X st t) : PSs X [st] t := by
  intro pins s σ H D I h
  refine wpAny_execs_cons (thn (h1 pins s σ H D I h) fun f s1 q => ?_)
  cases f with
  | next => exact wpAny_execs_nil q
  | ret v => exact q
  | brk => exact q
  | cont => exact q
def tBreak : TS := fun D σ H => D.bk σ H
theorem ps_break : PS X (.Break pos) tBreak := fun _ _ σ H _ I h => wpAny_Break ⟨σ, H, I, h⟩
theorem Inv.quiet {pins : List (Addr × Obj)} {σ : St} {H : Hp} {s : Shared} (I : Inv X pins σ H s) : interactive X.env = false := by simp [interactive, I.ok.kind]
def tDrop (te : TE) : TS := fun D σ H => te σ H fun _ H1 => D.nx σ H1
theorem ps_expr (he : PE X e te) (hs : swapsWith e none pos.line X.env = pure false := by rfl) : PS X (.Expr e pos) (tDrop te) := by
  intro pins s σ H D I h
  exact wpAny_Expr_any (thn (he pins s σ H _ I h) fun v s1 ⟨x, H1, I1, r1, q1⟩ => ⟨σ, H1, I1, q1⟩) I.quiet hs
def tRet (te : TE) : TS := fun D σ H => te σ H D.rt
theorem ps_ret (he : PE X e te) : PS X (.Return (some e) pos) (tRet te) := by
  intro pins s σ H D I h
  exact wpAny_Return_some (thn (he pins s σ H _ I h) fun v s1 ⟨x, H1, I1, r1, q1⟩ => ⟨x, σ, H1, I1, r1, q1⟩)
def tRetN : TS := fun D _ H => D.rt .non H
theorem ps_retN : PS X (.Return none pos) tRetN := fun _ _ σ H _ I h => wpAny_Return_none ⟨.non, σ, H, I, rfl, h⟩
def tIfS (c : TT) (t u : TS) : TS := fun D σ H => c σ H fun b H1 => if b = true then t D σ H1 else u D σ H1
theorem ps_if {c : Expr} {a b : List Stmt} {tc : TT} (hc : PT X c tc) (ha : PSs X a t) (hb : PSs X b u) : PS X (.If c a b pos) (tIfS tc t u) := by
  intro pins s σ H D I h
  refine wpAny_If (thn (hc pins s σ H _ I h) fun d s1 ⟨H1, I1, q1⟩ => ?_)
  cases d with
  | true => exact ha pins s1 σ H1 D I1 q1
  | false => exact hb pins s1 σ H1 D I1 q1
end
abbrev TG := V → St → Hp → (St → Hp → Prop) → Prop
abbrev TGs := List V → St → Hp → (St → Hp → Prop) → Prop
def PG (X : Cx) (target : Expr) (t : TG) : Prop :=
  ∀ (pins : List (Addr × Obj)) (s : Shared) (σ : St) (H : Hp) (v : V) (u : Value) (Q : St → Hp → Prop), Inv X pins σ H s → RelV v u → t v σ H Q →
    wpAny (model X.prog X.w) X.A (assign target X.env u) (fun _ s' => ∃ σ' H', Inv X pins σ' H' s' ∧ Q σ' H') X.xe s
def PGs (X : Cx) (ts : List Expr) (t : TGs) : Prop :=
  ∀ (pins : List (Addr × Obj)) (s : Shared) (σ : St) (H : Hp) (vs : List V) (us : List Value) (Q : St → Hp → Prop), Inv X pins σ H s → Vals vs us → t vs σ H Q →
    wpAny (model X.prog X.w) X.A (assignInOrder ((assignEach ts X.env).map (·.2)) us) (fun _ s' => ∃ σ' H', Inv X pins σ' H' s' ∧ Q σ' H') X.xe s
section
variable {X : Cx} {pos : Pos}
def gName (i : Nat) : TG := fun v σ H Q => Q (σ.set i (some v)) H
theorem pg_name {i : Nat} {x : Str} (hN : X.N.Nodup) (hi : X.N[i]? = some x) (hx : Loc X.env.scope x) (hf : X.fn x = true ∨ X.env.scope.names.lookup x = some .local := by first | exact .inl rfl | exact .inr rfl | assumption) : PG X (.Name x pos) (gName i) := by
  intro pins s σ H v u Q I r h
  exact wpAny_assign_Name (store_ok I hN hi hx r (fun s' I' => ⟨_, H, I', h⟩) hf)
def gNil : TGs := fun vs σ H Q => vs = [] ∧ Q σ H
def gCons (t : TG) (u : TGs) : TGs := fun vs σ H Q => ∃ v r, vs = v :: r ∧ t v σ H fun σ' H' => u r σ' H' Q
theorem pgs_nil : PGs X [] gNil := by
  intro pins s σ H vs us Q I r h
  obtain ⟨e, h⟩ := h
  subst e
  cases r
  exact assignInOrder_nil ⟨σ, H, I, h⟩
theorem pgs_cons {e : Expr} {es : List Expr} {t : TG} {u : TGs} (h1 : PG X e t) (h2 : PGs X es u)
    (hs : (assignEach (e :: es) X.env).map (·.2) = assign e X.env :: (assignEach es X.env).map (·.2) := by rfl) : PGs X (e :: es) (gCons t u) := by
  intro pins s σ H vs us Q I r h
  obtain ⟨v, vr, e1, h⟩ := h
  subst e1
  cases r with
  | cons r rr =>
    rw [hs]
    refine assignInOrder_cons (thn (h1 pins s σ H _ _ _ I r h) fun _ s1 ⟨σ1, H1, I1, q1⟩ => ?_)
    exact h2 pins s1 σ1 H1 _ _ Q I1 rr q1
def gTup (K : PySem.W.Frag) (n : Nat) (t : TGs) : TG := fun v σ H Q => ∃ a xs, v = .ref a ∧ SqT K H a xs ∧ xs.length = n ∧ t xs σ H Q
theorem pg_tup {es : List Expr} {k : Nat} {t : TGs} {n : Nat} (hc : X.calm = true) (h : PGs X es t)
    (hn : (assignEach es X.env).length = n := by rfl) (hst : (assignEach es X.env).findIdx? (·.1) = none := by rfl) : PG X (.Tuple es k pos) (gTup X.K n t) := by
  intro pins s σ H v u Q I r hw
  obtain ⟨a, xs, e1, hq, hl, hw⟩ := hw
  subst e1
  cases r
  obtain ⟨its, rv, ht, hz⟩ := I.tuple hq
  refine assign_Tuple_tuple (I.ok.hd hc) ht (by simp [hn, ← hl, rv.length]) hst fun h' hx => ?_
  have I1 : Inv X pins σ H { s with heap := h' } := I.kept (t' := s.toks) fun b o e => hx b o (Nat.ne_of_lt (Heap.lt_size e)) e
  exact h pins _ σ H xs _ Q I1 (by simpa using rv) hw
def tAsg (te : TE) (g : TG) : TS := fun D σ H => te σ H fun x H1 => g x σ H1 D.nx
theorem ps_set {i : Nat} {x : Str} {e : Expr} {te : TE} {pos' : Pos} (hN : X.N.Nodup) (hi : X.N[i]? = some x) (hx : Loc X.env.scope x) (he : PE X e te) (hs : swapsWith e (some (.Name x pos')) pos.line X.env = pure false := by rfl) (hf : X.fn x = true ∨ X.env.scope.names.lookup x = some .local := by first | exact .inl rfl | exact .inr rfl | assumption) :
    PS X (.Assign [.Name x pos'] e pos) (tAsg te (gName i)) := by
  intro pins s σ H D I h
  refine wpAny_Assign_Name (thn (he pins s σ H _ I h) fun v s1 ⟨y, H1, I1, r1, q1⟩ => ?_) hs
  exact store_ok I1 hN hi hx r1 (fun s2 I2 => ⟨_, H1, I2, q1⟩) hf
end
section
variable {X : Cx} {pos : Pos}
def tWhile (c : TT) (tb : TS) : TS := fun D σ H => ∃ W : Nat → St → Hp → Prop, (∃ m, W m σ H) ∧ ∀ m σ H, W m σ H →
  c σ H fun b H1 => if b = true then ∃ N : St → Hp → Prop, (∀ σ' H', N σ' H' → ∃ m', m' < m ∧ W m' σ' H') ∧ tb { D with nx := N, ct := N, bk := D.nx } σ H1 else D.nx σ H1
theorem ps_while {c : Expr} {body : List Stmt} {tc : TT} {tb : TS} (hp : PassesOwn (model X.prog X.w) X.A X.env X.xe) (hc : PT X c tc) (hb : PSs X body tb) : PS X (.While c body [] pos) (tWhile tc tb) := by
  intro pins s σ H D I h
  obtain ⟨W, ⟨m0, w0⟩, turn⟩ := h
  refine wpAny_While (codeAny_whileLoop (fun n s' => ∃ σ' H', Inv X pins σ' H' s' ∧ W n σ' H') ?_ m0 ⟨σ, H, I, w0⟩)
  rintro n s1 ⟨σ1, H1, I1, w1⟩
  refine wpAny_passesOwn hp (thn (hc pins s1 σ1 H1 _ I1 (turn n σ1 H1 w1)) fun b s2 ⟨H2, I2, q2⟩ => ?_)
  cases b with
  | true =>
    obtain ⟨N, hN, q2⟩ := q2
    rw [if_pos rfl]
    refine wpAny_passesOwn hp (thn (hb pins s2 σ1 H2 _ I2 q2) fun f s3 q3 => ?_)
    cases f with
    | next =>
      obtain ⟨σ3, H3, I3, n3⟩ := q3
      obtain ⟨m', hm, w3⟩ := hN σ3 H3 n3
      exact ⟨m', hm, σ3, H3, I3, w3⟩
    | cont =>
      obtain ⟨σ3, H3, I3, n3⟩ := q3
      obtain ⟨m', hm, w3⟩ := hN σ3 H3 n3
      exact ⟨m', hm, σ3, H3, I3, w3⟩
    | brk => exact q3
    | ret v => exact q3
  | false =>
    rw [if_neg Bool.false_ne_true]
    exact wpAny_execs_nil ⟨σ1, H2, I2, q2⟩
end
structure It where
  go : Nat → Hp → Prop
  yld : Nat → Hp → V → Hp → Prop
  stop : Nat → Hp → Prop
def FpOk (X : Cx) (pins : List (Addr × Obj)) (H : Hp) (b : Addr) : Prop :=
  H b = none ∧ b ≠ X.env.locals ∧ b ∉ X.fs ∧ (b ∈ X.ex ∨ X.s₀.heap.objs.size ≤ b) ∧ (∀ x c, X.env.cells.lookup x = some c → c ≠ b) ∧ ∀ p ∈ X.pn ++ pins, p.1 ≠ b
theorem Inv.fpOk {X : Cx} {pins : List (Addr × Obj)} {σ : St} {H H' : Hp} {s : Shared} {b : Addr} (I : Inv X pins σ H s) (hb : s.heap.objs.size ≤ b) (hn : H' b = none) : FpOk X pins H' b := by
  refine ⟨hn, Nat.ne_of_gt (Nat.lt_of_lt_of_le I.lt hb), I.nofs hb, .inr (Nat.le_trans I.sz hb), fun x c e z => ?_, fun p hp z => ?_⟩
  · obtain ⟨v, q⟩ := I.cell x c e
    exact absurd (Nat.lt_of_lt_of_le q.lt (by rw [z]; exact hb)) (Nat.lt_irrefl _)
  · exact absurd (Nat.lt_of_lt_of_le (Heap.lt_size (I.pin p hp).1) (by rw [z]; exact hb)) (Nat.lt_irrefl _)
structure Turn (P : Program) (w : World) (K : PySem.W.Frag) (tg : Expr) (J : It) (fp : List Addr) (it : Addr) (tn : Nat → Heap → Prop) : Prop where
  mem : it ∈ fp
  obj : ∀ i h, tn i h → ∀ b ∈ fp, ∃ o, h.get? b = some o ∧ ∀ v, o.data ≠ .cell v
  keep : ∀ i h h', tn i h → (∀ b ∈ fp, ∀ o, h.get? b = some o → h'.get? b = some o) → tn i h'
  item : ∀ (X : Cx), X.prog = P → X.w = w → X.K = K → X.calm = true → ∀ (i : Nat) (pins : List (Addr × Obj)) (s : Shared) (σ : St) (H : Hp) (E : Value → Shared → Prop), Inv X pins σ H s → (∀ b ∈ fp, FpOk X pins H b) → tn i s.heap → J.go i H →
    wpAny (model P w) X.A (pyNext (.ref it)) (fun r s1 => ∃ u, r = some u ∧
      wpAny (model P w) X.A (letOwnedTupleGo tg (.ref it) u) (fun _ s2 => ∃ x H', Inv X pins σ H' s2 ∧ RelV x u ∧ J.yld i H x H' ∧ tn (i + 1) s2.heap ∧ ∀ b ∈ fp, H' b = none) E s1) E s
  done : ∀ (X : Cx), X.prog = P → X.w = w → X.K = K → X.calm = true → ∀ (i : Nat) (pins : List (Addr × Obj)) (s : Shared) (σ : St) (H : Hp) (E : Value → Shared → Prop), Inv X pins σ H s → (∀ b ∈ fp, FpOk X pins H b) → tn i s.heap → J.stop i H →
    wpAny (model P w) X.A (pyNext (.ref it)) (fun r s1 => r = none ∧ Inv X pins σ H s1) E s
  self : ∀ (A : Around) (i : Nat) (s : Shared) (Q : Value → Shared → Prop) (E : Value → Shared → Prop), tn i s.heap → Q (.ref it) s → wpAny (model P w) A (pyIter (.ref it)) Q E s
abbrev TI := St → Hp → (It → Hp → Prop) → Prop
def PIE (X : Cx) (pins : List (Addr × Obj)) (σ : St) (tg : Expr) (R : It → Hp → Prop) (itv : Value) (s2 : Shared) : Prop :=
  ∃ (it : Addr) (fp : List Addr) (tn : Nat → Heap → Prop) (J : It) (H' : Hp), itv = .ref it ∧ Inv X pins σ H' s2 ∧ Turn X.prog X.w X.K tg J fp it tn ∧ tn 0 s2.heap ∧ (∀ b ∈ fp, FpOk X pins H' b) ∧ R J H'
def PI (X : Cx) (tg iter : Expr) (wi : TI) : Prop :=
  ∀ (pins : List (Addr × Obj)) (s : Shared) (σ : St) (H : Hp) (R : It → Hp → Prop), Inv X pins σ H s → wi σ H R →
    wpAny (model X.prog X.w) X.A (eval iter X.env) (fun v s1 => wpAny (model X.prog X.w) X.A (pyIter v) (PIE X pins σ tg R) X.xe s1) X.xe s
theorem go_of {M : Model} {A : Around} {E : Value → Shared → Prop} {s : Shared} {tg : Expr} {it : Addr} {u : Value} {o : Obj} {n : String} {vs : Array Value} {Q : Unit → Shared → Prop} (ho : s.heap.get? it = some o) (hc : o.cls = .type n) (hd : o.data = .fields vs)
    (hn : ["enumerate", "zip", "dict_itemiterator", "dict_reverseitemiterator", "odict_iterator", "itertools.zip_longest", "itertools.pairwise"].contains n = false) (hQ : Q () s) : wpAny M A (letOwnedTupleGo tg (.ref it) u) Q E s := by
  unfold letOwnedTupleGo
  cases tg <;> first
    | exact wpAny_pure hQ
    | (cases u <;> first
        | exact wpAny_pure hQ
        | (refine wpAny_bind (wpAny_load ho ?_)
           rw [hc, hd]
           show wpAny M A (if (["enumerate", "zip", "dict_itemiterator", "dict_reverseitemiterator", "odict_iterator", "itertools.zip_longest", "itertools.pairwise"].contains n && vs[0]? == some (rawInt _)) = true then _ else _) Q E s
           rw [if_neg (by intro h; rw [hn, Bool.false_and] at h; cases h)]
           exact wpAny_pure hQ))
def Itl (K : PySem.W.Frag) (a : Addr) : It :=
  ⟨fun i H => ∃ xs x, SqL K H a xs ∧ xs[i]? = some x, fun i H x H' => H' = H ∧ ∀ xs, SqL K H a xs → xs[i]? = some x, fun i H => ∃ xs, SqL K H a xs ∧ xs.length ≤ i⟩
def Itt (K : PySem.W.Frag) (a : Addr) : It :=
  ⟨fun i H => ∃ xs x, SqT K H a xs ∧ xs[i]? = some x, fun i H x H' => H' = H ∧ ∀ xs, SqT K H a xs → xs[i]? = some x, fun i H => ∃ xs, SqT K H a xs ∧ xs.length ≤ i⟩
def Itr (lo : Int) (n : Nat) : It := ⟨fun i _ => i < n, fun i H x H' => H' = H ∧ x = .int (lo + i), fun i _ => n ≤ i⟩
theorem turn_list {P : Program} {w : World} {K : PySem.W.Frag} {tg : Expr} (a it : Addr) : Turn P w K tg (Itl K a) [it] it (fun i h => h.IsListIter it a i) where
  mem := by simp
  obj := fun i h st b hb => by
    have e : b = it := by simpa using hb
    subst e
    obtain ⟨o, e, c, d⟩ := st
    exact ⟨o, e, fun v z => by rw [d] at z; cases z⟩
  keep := fun i h h' st k => st.at fun o e => k it (by simp) o e
  item := by
    intro X hP hw hK hc i pins s σ H E I hf st hg
    subst hP hw hK
    obtain ⟨xs, x, hq, hx⟩ := hg
    obtain ⟨its, rv, p, hz⟩ := I.list hq
    obtain ⟨u, hu, ru⟩ := rv.get hx
    obtain ⟨f0, f1, f2, f3, f4, f5⟩ := hf it (by simp)
    refine wpAny_pyNext_list_item st p.isList (x := u) (by simpa using hu) fun h' st' sb => ?_
    have I1 : Inv X pins σ H { s with heap := h' } := I.turned (t' := s.toks) (fun b o hb e => (sb.2 b hb).trans e) f0 f1 f3 f4 f5
    obtain ⟨o, e, c, d⟩ := id st'
    exact ⟨u, rfl, go_of (s := { s with heap := h' }) e c d (by decide) ⟨x, H, I1, ru, ⟨rfl, fun ys hy => by rw [I.list_inj hy hq]; exact hx⟩, st', fun b hb => (hf b hb).1⟩⟩
  done := by
    intro X hP hw hK hc i pins s σ H E I hf st hg
    subst hP hw hK
    obtain ⟨xs, hq, hx⟩ := hg
    obtain ⟨its, rv, p, hz⟩ := I.list hq
    obtain ⟨f0, f1, f2, f3, f4, f5⟩ := hf it (by simp)
    have hl := rv.length
    exact wpAny_pyNext_list_end (I.ok.hd hc) st p.isList (by simp; omega) fun h' eb => ⟨rfl, I.turned (t' := s.toks) (fun b o hb e => eb b o hb e) f0 f1 f3 f4 f5⟩
  self := fun _ _ _ _ _ st h => wpAny_pyIter_listiter st h
theorem turn_tuple {P : Program} {w : World} {K : PySem.W.Frag} {tg : Expr} (a it : Addr) : Turn P w K tg (Itt K a) [it] it (fun i h => h.IsTupleIter it a i) where
  mem := by simp
  obj := fun i h st b hb => by
    have e : b = it := by simpa using hb
    subst e
    obtain ⟨o, e, c, d⟩ := st
    exact ⟨o, e, fun v z => by rw [d] at z; cases z⟩
  keep := fun i h h' st k => st.at fun o e => k it (by simp) o e
  item := by
    intro X hP hw hK hc i pins s σ H E I hf st hg
    subst hP hw hK
    obtain ⟨xs, x, hq, hx⟩ := hg
    obtain ⟨its, rv, p, hz⟩ := I.tuple hq
    obtain ⟨u, hu, ru⟩ := rv.get hx
    obtain ⟨f0, f1, f2, f3, f4, f5⟩ := hf it (by simp)
    refine wpAny_pyNext_tuple_item st (show s.heap.IsTuple a its.toArray from p) (x := u) (by simpa using hu) fun h' st' sb => ?_
    have I1 : Inv X pins σ H { s with heap := h' } := I.turned (t' := s.toks) (fun b o hb e => (sb.2 b hb).trans e) f0 f1 f3 f4 f5
    obtain ⟨o, e, c, d⟩ := id st'
    exact ⟨u, rfl, go_of (s := { s with heap := h' }) e c d (by decide) ⟨x, H, I1, ru, ⟨rfl, fun ys hy => by rw [I.tuple_inj hy hq]; exact hx⟩, st', fun b hb => (hf b hb).1⟩⟩
  done := by
    intro X hP hw hK hc i pins s σ H E I hf st hg
    subst hP hw hK
    obtain ⟨xs, hq, hx⟩ := hg
    obtain ⟨its, rv, p, hz⟩ := I.tuple hq
    obtain ⟨f0, f1, f2, f3, f4, f5⟩ := hf it (by simp)
    have hl := rv.length
    exact wpAny_pyNext_tuple_end (I.ok.hd hc) st (show s.heap.IsTuple a its.toArray from p) (by simp; omega) fun h' eb => ⟨rfl, I.turned (t' := s.toks) (fun b o hb e => eb b o hb e) f0 f1 f3 f4 f5⟩
  self := fun _ _ _ _ _ st h => wpAny_pyIter_tupleiter st h
theorem turn_range {P : Program} {w : World} {K : PySem.W.Frag} {tg : Expr} (it : Addr) (lo : Int) (n : Nat) : Turn P w K tg (Itr lo n) [it] it (fun i h => IsRangeIter h it (lo + (i : Nat) * 1) ((n : Int) - (i : Nat)) 1) where
  mem := by simp
  obj := fun i h st b hb => by
    have e : b = it := by simpa using hb
    subst e
    exact ⟨_, st, fun v z => by
      have z' : Data.fields _ = Data.cell v := z
      cases z'⟩
  keep := fun i h h' st k => k it (by simp) _ st
  item := by
    intro X hP hw hK hc i pins s σ H E I hf st hg
    subst hP hw hK
    obtain ⟨f0, f1, f2, f3, f4, f5⟩ := hf it (by simp)
    have W := Walks.range (prog := X.prog) (w := X.w) (I.ok.hd hc) it lo 1 n
    refine W.item i s _ _ hg st fun v h' tk hv st' kk => ?_
    obtain ⟨t, rfl⟩ := hv
    have I1 : Inv X pins σ H { s with heap := h', toks := tk } := I.turned (fun b o hb e => kk b o (by simpa using hb) e) f0 f1 f3 f4 f5
    refine ⟨_, rfl, go_of (s := { s with heap := h', toks := tk }) (n := "range_iterator") st' rfl rfl (by decide) ⟨.int (lo + i), H, I1, ⟨t, ?_⟩, ⟨rfl, rfl⟩, st', fun b hb => (hf b hb).1⟩⟩
    rw [Int.mul_one]
  done := by
    intro X hP hw hK hc i pins s σ H E I hf st hg
    subst hP hw hK
    obtain ⟨f0, f1, f2, f3, f4, f5⟩ := hf it (by simp)
    exact wpAny_pyNext_range_end (I.ok.hd hc) st (by have : n ≤ i := hg; omega) fun h' eb => ⟨rfl, I.turned (t' := s.toks) (fun b o hb e => eb b o hb e) f0 f1 f3 f4 f5⟩
  self := fun _ _ _ _ _ st h => wpAny_pyIter_rangeiter st h
end L2
namespace L2
open PySem PySem.Spec PyProof.Rows
section
variable {X : Cx} {tg : Expr}
def iList (K : PySem.W.Frag) (tl : TE) : TI := fun σ H R => tl σ H fun x H1 => ∃ a, x = .ref a ∧ (∃ xs, SqL K H1 a xs) ∧ R (Itl K a) H1
def iTup (K : PySem.W.Frag) (tl : TE) : TI := fun σ H R => tl σ H fun x H1 => ∃ a, x = .ref a ∧ (∃ xs, SqT K H1 a xs) ∧ R (Itt K a) H1
theorem pi_list {l : Expr} {tl : TE} (hl : PE X l tl) : PI X tg l (iList X.K tl) := by
  intro pins s σ H R I h
  refine thn (hl pins s σ H _ I h) fun v s1 ⟨x, H1, I1, r1, q1⟩ => ?_
  obtain ⟨a, e, ⟨xs, hq⟩, q⟩ := q1
  subst e
  cases r1
  obtain ⟨its, rv, p, hz⟩ := I1.list hq
  refine wpAny_pyIter_list p.isList ?_
  refine ⟨s1.heap.objs.size, [s1.heap.objs.size], _, _, H1, rfl, I1.kept (t' := s1.toks) fun b o e => Heap.get?_push_of_some _ e, turn_list a _, ⟨_, Heap.get?_push_size _ rfl, rfl, rfl⟩, fun b hb => ?_, q⟩
  have e : b = s1.heap.objs.size := by simpa using hb
  subst e
  exact I1.fpOk (Nat.le_refl _) (I1.hok.fresh (Nat.le_refl _))
theorem pi_tup {l : Expr} {tl : TE} (hl : PE X l tl) : PI X tg l (iTup X.K tl) := by
  intro pins s σ H R I h
  refine thn (hl pins s σ H _ I h) fun v s1 ⟨x, H1, I1, r1, q1⟩ => ?_
  obtain ⟨a, e, ⟨xs, hq⟩, q⟩ := q1
  subst e
  cases r1
  obtain ⟨its, rv, p, hz⟩ := I1.tuple hq
  refine wpAny_pyIter_tuple (show s1.heap.IsTuple a its.toArray from p) ?_
  refine ⟨s1.heap.objs.size, [s1.heap.objs.size], _, _, H1, rfl, I1.kept (t' := s1.toks) fun b o e => Heap.get?_push_of_some _ e, turn_tuple a _, ⟨_, Heap.get?_push_size _ rfl, rfl, rfl⟩, fun b hb => ?_, q⟩
  have e : b = s1.heap.objs.size := by simpa using hb
  subst e
  exact I1.fpOk (Nat.le_refl _) (I1.hok.fresh (Nat.le_refl _))
def tFor (wi : TI) (g : TG) (tb : TS) : TS := fun D σ H => wi σ H fun J H1 => ∃ W : Nat → Nat → St → Hp → Prop, (∃ m, W 0 m σ H1) ∧ ∀ i m σ H, W i m σ H →
  (J.stop i H ∧ D.nx σ H) ∨ (J.go i H ∧ ∃ N : St → Hp → Prop, (∀ σ' H', N σ' H' → ∃ m', m' < m ∧ W (i + 1) m' σ' H') ∧ ∀ x H', J.yld i H x H' → g x σ H' fun σ2 H2 => tb { D with nx := N, ct := N, bk := D.nx } σ2 H2)
def pinsAt (fp : List Addr) (h : Heap) : List (Addr × Obj) := fp.filterMap fun b => (h.get? b).map fun o => (b, o)
theorem mem_pinsAt {fp : List Addr} {h : Heap} {b : Addr} {o : Obj} (hb : b ∈ fp) (e : h.get? b = some o) : (b, o) ∈ pinsAt fp h := List.mem_filterMap.mpr ⟨b, hb, by rw [e]; rfl⟩
theorem of_pinsAt {fp : List Addr} {h : Heap} {p : Addr × Obj} (hp : p ∈ pinsAt fp h) : p.1 ∈ fp ∧ h.get? p.1 = some p.2 := by
  obtain ⟨b, hb, e⟩ := List.mem_filterMap.mp hp
  cases q : h.get? b with
  | none => rw [q] at e; cases e
  | some o =>
    rw [q] at e
    have e' : (b, o) = p := Option.some.inj e
    subst e'
    exact ⟨hb, q⟩
theorem Inv.pinned {pins : List (Addr × Obj)} {σ : St} {H : Hp} {s : Shared} {fp : List Addr} (I : Inv X pins σ H s) (hf : ∀ b ∈ fp, FpOk X pins H b) (ho : ∀ b ∈ fp, ∃ o, s.heap.get? b = some o ∧ ∀ v, o.data ≠ .cell v) : Inv X (pins ++ pinsAt fp s.heap) σ H s :=
  I.pins_of fun p hp => (List.mem_append.mp hp).elim (fun z => I.pin p (List.mem_append_right _ z)) fun z => by
    obtain ⟨hb, e⟩ := of_pinsAt z
    obtain ⟨f0, f1, f2, _⟩ := hf p.1 hb
    obtain ⟨o, e', d⟩ := ho p.1 hb
    rw [e] at e'; cases e'
    exact ⟨e, f0, f1, f2, d⟩
theorem Inv.unpinned {pins pl : List (Addr × Obj)} {σ : St} {H : Hp} {s : Shared} (I : Inv X (pins ++ pl) σ H s) : Inv X pins σ H s := I.pins_of fun p hp => I.pin p (List.mem_append_right _ (List.mem_append_left _ hp))
theorem ps_for {iter : Expr} {body : List Stmt} {wi : TI} {g : TG} {tb : TS} {pos : Pos} (hp : PassesOwn (model X.prog X.w) X.A X.env X.xe) (hc : X.calm = true) (hi : PI X tg iter wi) (hg : PG X tg g) (hb : PSs X body tb)
    (hs : ∀ x, foldedSetIterable iter X.env x = pure x := by intro _; rfl) : PS X (.For tg iter body [] pos) (tFor wi g tb) := by
  intro pins s σ H D I h
  refine wpAny_For (thn (hi pins s σ H _ I h) fun v s1 h1 => thn h1 fun itv s2 h2 => ?_) hs
  obtain ⟨it, fp, tn, J, H2, e, I2, T, st2, f2, W, ⟨m0, w0⟩, turn⟩ := h2
  subst e
  have stat : ∀ {H' : Hp}, (∀ b ∈ fp, H' b = none) → ∀ b ∈ fp, FpOk X pins H' b := fun hn b hb => ⟨hn b hb, (f2 b hb).2⟩
  refine codeAny_forLoop_any (fun n s' => ∃ i σ' H', Inv X pins σ' H' s' ∧ tn i s'.heap ∧ (∀ b ∈ fp, H' b = none) ∧ W i n σ' H') ?_ m0 ⟨0, σ, H2, I2, st2, fun b hb => (f2 b hb).1, w0⟩
  rintro n s3 ⟨i, σ3, H3, I3, st3, fr3, w3⟩
  rcases turn i n σ3 H3 w3 with ⟨stop, qn⟩ | ⟨go, N, hN, step⟩
  · refine wpAny_passesOwn hp (thn (T.done X rfl rfl rfl hc i pins s3 σ3 H3 X.xe I3 (stat fr3) st3 stop) fun r s4 ⟨hr, I4⟩ => ?_)
    subst hr
    exact wpAny_execs_nil ⟨σ3, H3, I4, qn⟩
  · refine wpAny_passesOwn hp (thn (T.item X rfl rfl rfl hc i pins s3 σ3 H3 X.xe I3 (stat fr3) st3 go) fun r s4 ⟨u, hr, h4⟩ => ?_)
    subst hr
    refine wpAny_passesOwn hp (thn h4 fun _ s5 ⟨x, H5, I5, r5, y5, st5, fr5⟩ => ?_)
    have I5' := I5.pinned (stat fr5) (T.obj _ _ st5)
    refine wpAny_passesOwn hp (thn (hg _ s5 σ3 H5 x u _ I5' r5 (step x H5 y5)) fun _ s6 ⟨σ6, H6, I6, q6⟩ => ?_)
    refine wpAny_passesOwn hp (thn (hb _ s6 σ6 H6 _ I6 q6) fun f s7 q7 => ?_)
    have again : ∀ {σ7 : St} {H7 : Hp}, Inv X (pins ++ pinsAt fp s5.heap) σ7 H7 s7 → N σ7 H7 → ∃ m, m < n ∧ ∃ i σ' H', Inv X pins σ' H' s7 ∧ tn i s7.heap ∧ (∀ b ∈ fp, H' b = none) ∧ W i m σ' H' := fun {σ7 H7} I7 n7 => by
      obtain ⟨m', hm, w7⟩ := hN σ7 H7 n7
      refine ⟨m', hm, i + 1, σ7, H7, I7.unpinned, T.keep _ _ _ st5 fun b hb o e => (I7.pin (b, o) (List.mem_append_right _ (List.mem_append_right _ (mem_pinsAt hb e)))).1, fun b hb => ?_, w7⟩
      obtain ⟨o, e, d⟩ := T.obj _ _ st5 b hb
      exact (I7.pin (b, o) (List.mem_append_right _ (List.mem_append_right _ (mem_pinsAt hb e)))).2.1
    cases f with
    | next => obtain ⟨σ7, H7, I7, n7⟩ := q7; exact again I7 n7
    | cont => obtain ⟨σ7, H7, I7, n7⟩ := q7; exact again I7 n7
    | brk => obtain ⟨σ7, H7, I7, q7⟩ := q7; exact ⟨σ7, H7, I7.unpinned, q7⟩
    | ret v => obtain ⟨x7, σ7, H7, I7, r7, q7⟩ := q7; exact ⟨x7, σ7, H7, I7.unpinned, r7, q7⟩
end
theorem for_list {K : PySem.W.Frag} {a : Addr} {xs : List V} {g : TG} {tb : TS} {D : Ends} {σ : St} {H : Hp} (Pv : Nat → St → Hp → Prop) (h0 : Pv 0 σ H) (hl : ∀ i σ H, i ≤ xs.length → Pv i σ H → SqL K H a xs)
    (hs : ∀ i x σ H, xs[i]? = some x → Pv i σ H → g x σ H fun σ2 H2 => tb { D with nx := Pv (i + 1), ct := Pv (i + 1), bk := D.nx } σ2 H2) (hd : ∀ σ H, Pv xs.length σ H → D.nx σ H) :
    ∃ W : Nat → Nat → St → Hp → Prop, (∃ m, W 0 m σ H) ∧ ∀ i m σ H, W i m σ H →
      ((Itl K a).stop i H ∧ D.nx σ H) ∨ ((Itl K a).go i H ∧ ∃ N : St → Hp → Prop, (∀ σ' H', N σ' H' → ∃ m', m' < m ∧ W (i + 1) m' σ' H') ∧ ∀ x H', (Itl K a).yld i H x H' → g x σ H' fun σ2 H2 => tb { D with nx := N, ct := N, bk := D.nx } σ2 H2) := by
  refine ⟨fun i m σ H => m = xs.length - i ∧ i ≤ xs.length ∧ Pv i σ H, ⟨xs.length, by simp, Nat.zero_le _, h0⟩, ?_⟩
  rintro i m σ H ⟨rfl, hi, p⟩
  have q := hl i σ H hi p
  by_cases hlt : i < xs.length
  · refine .inr ⟨⟨xs, xs[i], q, by simp [hlt]⟩, Pv (i + 1), fun σ' H' p' => ⟨xs.length - (i + 1), by omega, rfl, hlt, p'⟩, fun x H' y => ?_⟩
    obtain ⟨e, y⟩ := y
    subst e
    exact hs i x σ _ (y xs q) p
  · have e : i = xs.length := by omega
    subst e
    exact .inl ⟨⟨xs, q, Nat.le_refl _⟩, hd σ H p⟩
theorem for_tup {K : PySem.W.Frag} {a : Addr} {xs : List V} {g : TG} {tb : TS} {D : Ends} {σ : St} {H : Hp} (Pv : Nat → St → Hp → Prop) (h0 : Pv 0 σ H) (hl : ∀ i σ H, i ≤ xs.length → Pv i σ H → SqT K H a xs)
    (hs : ∀ i x σ H, xs[i]? = some x → Pv i σ H → g x σ H fun σ2 H2 => tb { D with nx := Pv (i + 1), ct := Pv (i + 1), bk := D.nx } σ2 H2) (hd : ∀ σ H, Pv xs.length σ H → D.nx σ H) :
    ∃ W : Nat → Nat → St → Hp → Prop, (∃ m, W 0 m σ H) ∧ ∀ i m σ H, W i m σ H →
      ((Itt K a).stop i H ∧ D.nx σ H) ∨ ((Itt K a).go i H ∧ ∃ N : St → Hp → Prop, (∀ σ' H', N σ' H' → ∃ m', m' < m ∧ W (i + 1) m' σ' H') ∧ ∀ x H', (Itt K a).yld i H x H' → g x σ H' fun σ2 H2 => tb { D with nx := N, ct := N, bk := D.nx } σ2 H2) := by
  refine ⟨fun i m σ H => m = xs.length - i ∧ i ≤ xs.length ∧ Pv i σ H, ⟨xs.length, by simp, Nat.zero_le _, h0⟩, ?_⟩
  rintro i m σ H ⟨rfl, hi, p⟩
  have q := hl i σ H hi p
  by_cases hlt : i < xs.length
  · refine .inr ⟨⟨xs, xs[i], q, by simp [hlt]⟩, Pv (i + 1), fun σ' H' p' => ⟨xs.length - (i + 1), by omega, rfl, hlt, p'⟩, fun x H' y => ?_⟩
    obtain ⟨e, y⟩ := y
    subst e
    exact hs i x σ _ (y xs q) p
  · have e : i = xs.length := by omega
    subst e
    exact .inl ⟨⟨xs, q, Nat.le_refl _⟩, hd σ H p⟩
theorem for_range {lo : Int} {n : Nat} {g : TG} {tb : TS} {D : Ends} {σ : St} {H : Hp} (Pv : Nat → St → Hp → Prop) (h0 : Pv 0 σ H)
    (hs : ∀ i σ H, i < n → Pv i σ H → g (.int (lo + i)) σ H fun σ2 H2 => tb { D with nx := Pv (i + 1), ct := Pv (i + 1), bk := D.nx } σ2 H2) (hd : ∀ σ H, Pv n σ H → D.nx σ H) :
    ∃ W : Nat → Nat → St → Hp → Prop, (∃ m, W 0 m σ H) ∧ ∀ i m σ H, W i m σ H →
      ((Itr lo n).stop i H ∧ D.nx σ H) ∨ ((Itr lo n).go i H ∧ ∃ N : St → Hp → Prop, (∀ σ' H', N σ' H' → ∃ m', m' < m ∧ W (i + 1) m' σ' H') ∧ ∀ x H', (Itr lo n).yld i H x H' → g x σ H' fun σ2 H2 => tb { D with nx := N, ct := N, bk := D.nx } σ2 H2) := by
  refine ⟨fun i m σ H => m = n - i ∧ i ≤ n ∧ Pv i σ H, ⟨n, by simp, Nat.zero_le _, h0⟩, ?_⟩
  rintro i m σ H ⟨rfl, hi, p⟩
  by_cases hlt : i < n
  · refine .inr ⟨hlt, Pv (i + 1), fun σ' H' p' => ⟨n - (i + 1), by omega, rfl, hlt, p'⟩, fun x H' y => ?_⟩
    obtain ⟨e, y⟩ := y
    subst e y
    exact hs i σ _ hlt p
  · have e : i = n := by omega
    subst e
    exact .inl ⟨Nat.le_refl _, hd σ H p⟩
end L2
namespace L2
open PySem PySem.Spec PyProof.Rows
abbrev R2 := V → V → Hp → VK → Prop
def OpR (X : Cx) (f : Value → Value → Sem Value) (r : R2) : Prop :=
  ∀ (pins : List (Addr × Obj)) (s : Shared) (σ : St) (H : Hp) (x y : V) (v u : Value) (Q : VK), Inv X pins σ H s → RelV x v → RelV y u → r x y H Q →
    wpAny (model X.prog X.w) X.A (f v u) (EP X pins σ Q) X.xe s
def UnR (X : Cx) (f : Value → Sem Value) (r : V → Hp → VK → Prop) : Prop :=
  ∀ (pins : List (Addr × Obj)) (s : Shared) (σ : St) (H : Hp) (x : V) (v : Value) (Q : VK), Inv X pins σ H s → RelV x v → r x H Q →
    wpAny (model X.prog X.w) X.A (f v) (EP X pins σ Q) X.xe s
def CallR (X : Cx) (f : Value) (r : List V → Hp → VK → Prop) : Prop :=
  ∀ (pins : List (Addr × Obj)) (s : Shared) (σ : St) (H : Hp) (xs : List V) (us : List Value) (Q : VK), Inv X pins σ H s → Vals xs us → r xs H Q →
    wpAny (model X.prog X.w) X.A (call f us) (EP X pins σ Q) X.xe s
def tOp (r : R2) (ta tb : TE) : TE := fun σ H Q => ta σ H fun x H1 => tb σ H1 fun y H2 => r x y H2 Q
def tUn (r : V → Hp → VK → Prop) (ta : TE) : TE := fun σ H Q => ta σ H fun x H1 => r x H1 Q
def rI (C : Int → Int → Prop) (g : Int → Int → V) : R2 := fun x y H Q => ∃ i j, x = .int i ∧ y = .int j ∧ C i j ∧ Q (g i j) H
def rI0 (g : Int → Int → V) : R2 := fun x y H Q => ∃ i j, x = .int i ∧ y = .int j ∧ Q (g i j) H
def rU (g : Int → V) : V → Hp → VK → Prop := fun x H Q => ∃ i, x = .int i ∧ Q (g i) H
section
variable {X : Cx} {a b c : Expr} {ta tb tc : TE} {pos : Pos}
theorem binT (ha : PE X a ta) (hb : PE X b tb) {pins : List (Addr × Obj)} {s : Shared} {σ : St} {H : Hp} {R : V → V → Hp → Prop} (I : Inv X pins σ H s)
    (h : ta σ H fun x H1 => tb σ H1 fun y H2 => R x y H2) {Q : Value → Shared → Prop} {f : Value → Value → Sem Value}
    (hf : ∀ v u s2 x y H2, Inv X pins σ H2 s2 → RelV x v → RelV y u → R x y H2 → wpAny (model X.prog X.w) X.A (f v u) Q X.xe s2) :
    wpAny (model X.prog X.w) X.A (eval a X.env) (fun v s₁ => wpAny (model X.prog X.w) X.A (eval b X.env) (fun u s₂ => wpAny (model X.prog X.w) X.A (f v u) Q X.xe s₂) X.xe s₁) X.xe s := by
  refine thn (ha pins s σ H _ I h) fun v s1 ⟨x, H1, I1, r1, q1⟩ => ?_
  refine thn (hb pins s1 σ H1 _ I1 q1) fun u s2 ⟨y, H2, I2, r2, q2⟩ => ?_
  exact hf v u s2 x y H2 I2 r1 r2 q2
theorem pe_op {op : Operator} {r : R2} (ho : OpR X (binaryOp op) r) (ha : PE X a ta) (hb : PE X b tb) : PE X (.BinOp a op b pos) (tOp r ta tb) := by
  intro pins s σ H Q I h
  exact wpAny_BinOp (binT ha hb I h fun v u s2 x y H2 I2 rx ry q => ho pins s2 σ H2 x y v u Q I2 rx ry q)
theorem pe_un {op : UnaryOp} {r : V → Hp → VK → Prop} (ho : UnR X (unaryOp op) r) (ha : PE X a ta) : PE X (.UnaryOp op a pos) (tUn r ta) := by
  intro pins s σ H Q I h
  exact UnaryOp_ (thn (ha pins s σ H _ I h) fun v s1 ⟨x, H1, I1, r1, q1⟩ => ho pins s1 σ H1 x v Q I1 r1 q1)
theorem opI {f : Value → Value → Sem Value} {C : Int → Int → Prop} {g : Int → Int → Int}
    (rule : ∀ (i j : Int) (t u : Tok) (s : Shared) (Q : Value → Shared → Prop) (E : Value → Shared → Prop), C i j → Q (.int (g i j) s.toks) { s with toks := s.toks + 1 } → wpAny (model X.prog X.w) X.A (f (.int i t) (.int j u)) Q E s) :
    OpR X f (rI C fun i j => .int (g i j)) := by
  intro pins s σ H x y v u Q I rx ry h
  obtain ⟨i, j, rfl, rfl, hc, q⟩ := h
  obtain ⟨t, rfl⟩ := rx
  obtain ⟨t', rfl⟩ := ry
  exact rule i j t t' s _ _ hc ⟨.int (g i j), H, I.tok _, ⟨_, rfl⟩, q⟩
theorem opI0 {f : Value → Value → Sem Value} {g : Int → Int → Int}
    (rule : ∀ (i j : Int) (t u : Tok) (s : Shared) (Q : Value → Shared → Prop) (E : Value → Shared → Prop), Q (.int (g i j) s.toks) { s with toks := s.toks + 1 } → wpAny (model X.prog X.w) X.A (f (.int i t) (.int j u)) Q E s) :
    OpR X f (rI0 fun i j => .int (g i j)) := by
  intro pins s σ H x y v u Q I rx ry h
  obtain ⟨i, j, rfl, rfl, q⟩ := h
  obtain ⟨t, rfl⟩ := rx
  obtain ⟨t', rfl⟩ := ry
  exact rule i j t t' s _ _ ⟨.int (g i j), H, I.tok _, ⟨_, rfl⟩, q⟩
theorem opB0 {f : Value → Value → Sem Value} {g : Int → Int → Bool}
    (rule : ∀ (i j : Int) (t u : Tok) (s : Shared) (Q : Value → Shared → Prop) (E : Value → Shared → Prop), Q (.bool (g i j)) s → wpAny (model X.prog X.w) X.A (f (.int i t) (.int j u)) Q E s) :
    OpR X f (rI0 fun i j => .bl (g i j)) := by
  intro pins s σ H x y v u Q I rx ry h
  obtain ⟨i, j, rfl, rfl, q⟩ := h
  obtain ⟨t, rfl⟩ := rx
  obtain ⟨t', rfl⟩ := ry
  exact rule i j t t' s _ _ ⟨.bl (g i j), H, I, rfl, q⟩
def CDiv (i j : Int) : Prop := 0 < j ∧ j < 1073741824
def CMul (i j : Int) : Prop := (-(2 ^ 64) < i ∧ i < 2 ^ 64) ∨ (-(2 ^ 64) < j ∧ j < 2 ^ 64)
theorem CMul.ok {i j : Int} (h : CMul i j) : IntMulOk i j := by
  rcases h with ⟨h1, h2⟩ | ⟨h1, h2⟩
  · exact .of_left (intBits_le_64 h1 h2)
  · exact .of_right (intBits_le_64 h1 h2)
theorem op_add : OpR X (binaryOp .Add) (rI0 fun i j => .int (i + j)) := opI0 fun _ _ _ _ _ _ _ q => add_int q
theorem op_sub : OpR X (binaryOp .Sub) (rI0 fun i j => .int (i - j)) := opI0 fun _ _ _ _ _ _ _ q => sub_int q
theorem op_mul : OpR X (binaryOp .Mult) (rI CMul fun i j => .int (i * j)) := opI fun _ _ _ _ _ _ _ hc q => mul_int q hc.ok
theorem op_fdiv : OpR X (binaryOp .FloorDiv) (rI CDiv fun i j => .int (i / j)) := opI fun i j _ _ _ _ _ hc q => by
  have h1 : (0 : Int) < j := hc.1
  have h2 : j < 1073741824 := hc.2
  exact floordiv_int (by omega) (by rw [Int.fdiv_eq_ediv_of_nonneg i (by omega)]; exact q) (.inl (PyProof.noPylong_small (by omega)))
theorem op_mod : OpR X (binaryOp .Mod) (rI (fun _ j => 0 < j) fun i j => .int (i % j)) := opI fun i j _ _ _ _ _ hc q => by
  have h1 : (0 : Int) < j := hc
  exact mod_int' (by omega) (by rw [Int.fmod_eq_emod_of_nonneg i (by omega)]; exact q)
theorem op_xor : OpR X (binaryOp .BitXor) (rI0 fun i j => .int (Builtin.bitXor i j)) := opI0 fun _ _ _ _ _ _ _ q => xor_int q
theorem unI {f : Value → Sem Value} {g : Int → Int}
    (rule : ∀ (i : Int) (t : Tok) (s : Shared) (Q : Value → Shared → Prop) (E : Value → Shared → Prop), Q (.int (g i) s.toks) { s with toks := s.toks + 1 } → wpAny (model X.prog X.w) X.A (f (.int i t)) Q E s) :
    UnR X f (rU fun i => .int (g i)) := by
  intro pins s σ H x v Q I rx h
  obtain ⟨i, rfl, q⟩ := h
  obtain ⟨t, rfl⟩ := rx
  exact rule i t s _ _ ⟨.int (g i), H, I.tok _, ⟨_, rfl⟩, q⟩
theorem un_neg : UnR X (unaryOp .USub) (rU fun i => .int (-i)) := unI fun _ _ _ _ _ q => neg_int q
end
def scal : V → V → Bool
  | .non, .non => true | .non, .int _ => true | .int _, .non => true | .non, .bl _ => true | .bl _, .non => true | .non, .str _ => true | .str _, .non => true
  | .int _, .int _ => true | .bl _, .bl _ => true | .str _, .str _ => true | .byt _, .byt _ => true
  | .int _, .str _ => true | .str _, .int _ => true | .bl _, .str _ => true | .str _, .bl _ => true
  | _, _ => false
def rEq : R2 := fun x y H Q => scal x y = true ∧ Q (.bl (decide (x = y))) H
def rNe : R2 := fun x y H Q => scal x y = true ∧ Q (.bl (!decide (x = y))) H
theorem dec_int {i j : Int} : decide (V.int i = V.int j) = (i == j) := by
  rw [Bool.eq_iff_iff]
  simp
theorem dec_bl {i j : Bool} : decide (V.bl i = V.bl j) = (i == j) := by
  rw [Bool.eq_iff_iff]
  simp
theorem dec_str {i j : Str} : decide (V.str i = V.str j) = (i == j) := by
  rw [Bool.eq_iff_iff]
  simp
theorem dec_byt {i j : Array UInt8} : decide (V.byt i = V.byt j) = (i.toList == j.toList) := by
  rw [Bool.eq_iff_iff]
  cases i
  cases j
  simp
section
variable {X : Cx} {a b c : Expr} {ta tb tc : TE} {pos : Pos}
theorem fin_bl {pins : List (Addr × Obj)} {σ : St} {H : Hp} {s : Shared} {Q : VK} {k k' : Bool} (I : Inv X pins σ H s) (q : Q (.bl k) H) (e : k = k') : EP X pins σ Q (.bool k') s := by
  subst e
  exact ⟨.bl k, H, I, rfl, q⟩
theorem op_eq : OpR X (compareOp .Eq) rEq := by
  intro pins s σ H x y v u Q I rx ry h
  obtain ⟨hs, q⟩ := h
  cases x with
  | non =>
    cases rx
    cases y with
    | non => cases ry; exact PySem.EqNone.eq_none_none (fin_bl I q (by simp))
    | bl j => cases ry; exact PySem.EqNone.eq_none_bool (fin_bl I q (by simp))
    | int j => obtain ⟨t', rfl⟩ := ry; exact PySem.EqNone.eq_none_int (fin_bl I q (by simp))
    | str j => obtain ⟨t', rfl⟩ := ry; exact PySem.EqNone.eq_none_str (fin_bl I q (by simp))
    | _ => exact absurd (show false = true from hs) Bool.false_ne_true
  | bl i =>
    cases rx
    cases y with
    | non => cases ry; exact PySem.EqNone.eq_bool_none (fin_bl I q (by simp))
    | bl j => cases ry; exact eq_bool (fin_bl I q dec_bl)
    | str j => obtain ⟨t', rfl⟩ := ry; exact PySem.EqMixed.eq_bool_str (fin_bl I q (by simp))
    | _ => exact absurd (show false = true from hs) Bool.false_ne_true
  | int i =>
    obtain ⟨t, rfl⟩ := rx
    cases y with
    | non => cases ry; exact PySem.EqNone.eq_int_none (fin_bl I q (by simp))
    | int j => obtain ⟨t', rfl⟩ := ry; exact eq_int (fin_bl I q dec_int)
    | str j => obtain ⟨t', rfl⟩ := ry; exact PySem.EqMixed.eq_int_str (fin_bl I q (by simp))
    | _ => exact absurd (show false = true from hs) Bool.false_ne_true
  | str i =>
    obtain ⟨t, rfl⟩ := rx
    cases y with
    | non => cases ry; exact PySem.EqNone.eq_str_none (fin_bl I q (by simp))
    | bl j => cases ry; exact PySem.EqMixed.eq_str_bool (fin_bl I q (by simp))
    | int j => obtain ⟨t', rfl⟩ := ry; exact PySem.EqMixed.eq_str_int (fin_bl I q (by simp))
    | str j => obtain ⟨t', rfl⟩ := ry; exact eq_str (fin_bl I q dec_str)
    | _ => exact absurd (show false = true from hs) Bool.false_ne_true
  | byt i =>
    obtain ⟨t, rfl⟩ := rx
    cases y with
    | byt j => obtain ⟨t', rfl⟩ := ry; exact PySem.W.eq_bytes (fin_bl I q dec_byt)
    | _ => exact absurd (show false = true from hs) Bool.false_ne_true
  | _ => cases y <;> exact absurd (show false = true from hs) Bool.false_ne_true
theorem op_ne : OpR X (compareOp .NotEq) rNe := by
  intro pins s σ H x y v u Q I rx ry h
  obtain ⟨hs, q⟩ := h
  cases x with
  | non =>
    cases rx
    cases y with
    | non => cases ry; exact PySem.EqNone.ne_none_none (fin_bl I q (by simp))
    | bl j => cases ry; exact PySem.EqNone.ne_none_bool (fin_bl I q (by simp))
    | int j => obtain ⟨t', rfl⟩ := ry; exact PySem.EqNone.ne_none_int (fin_bl I q (by simp))
    | str j => obtain ⟨t', rfl⟩ := ry; exact PySem.EqNone.ne_none_str (fin_bl I q (by simp))
    | _ => exact absurd (show false = true from hs) Bool.false_ne_true
  | bl i =>
    cases rx
    cases y with
    | non => cases ry; exact PySem.EqNone.ne_bool_none (fin_bl I q (by simp))
    | bl j => cases ry; exact ne_bool (fin_bl I q (congrArg not dec_bl))
    | str j => obtain ⟨t', rfl⟩ := ry; exact PySem.EqMixed.ne_bool_str (fin_bl I q (by simp))
    | _ => exact absurd (show false = true from hs) Bool.false_ne_true
  | int i =>
    obtain ⟨t, rfl⟩ := rx
    cases y with
    | non => cases ry; exact PySem.EqNone.ne_int_none (fin_bl I q (by simp))
    | int j => obtain ⟨t', rfl⟩ := ry; exact ne_int (fin_bl I q (congrArg not dec_int))
    | str j => obtain ⟨t', rfl⟩ := ry; exact PySem.EqMixed.ne_int_str (fin_bl I q (by simp))
    | _ => exact absurd (show false = true from hs) Bool.false_ne_true
  | str i =>
    obtain ⟨t, rfl⟩ := rx
    cases y with
    | non => cases ry; exact PySem.EqNone.ne_str_none (fin_bl I q (by simp))
    | bl j => cases ry; exact PySem.EqMixed.ne_str_bool (fin_bl I q (by simp))
    | int j => obtain ⟨t', rfl⟩ := ry; exact PySem.EqMixed.ne_str_int (fin_bl I q (by simp))
    | str j => obtain ⟨t', rfl⟩ := ry; exact ne_str (fin_bl I q (congrArg not dec_str))
    | _ => exact absurd (show false = true from hs) Bool.false_ne_true
  | byt i =>
    obtain ⟨t, rfl⟩ := rx
    cases y with
    | byt j => obtain ⟨t', rfl⟩ := ry; exact PySem.W.ne_bytes (fin_bl I q (congrArg not dec_byt))
    | _ => exact absurd (show false = true from hs) Bool.false_ne_true
  | _ => cases y <;> exact absurd (show false = true from hs) Bool.false_ne_true
theorem op_lt : OpR X (compareOp .Lt) (rI0 fun i j => .bl (decide (i < j))) := opB0 fun _ _ _ _ _ _ _ q => lt_int q
theorem op_le : OpR X (compareOp .LtE) (rI0 fun i j => .bl (decide (i ≤ j))) := opB0 fun _ _ _ _ _ _ _ q => le_int q
theorem op_gt : OpR X (compareOp .Gt) (rI0 fun i j => .bl (decide (j < i))) := opB0 fun _ _ _ _ _ _ _ q => gt_int q
theorem nomark (b : Expr) {op : CmpOp} (h : op ≠ .In := by decide) (h2 : op ≠ .NotIn := by decide) : behindInMarks op b = false := by
  have e1 : (op == CmpOp.In) = false := by cases op <;> first | rfl | exact absurd rfl h
  have e2 : (op == CmpOp.NotIn) = false := by cases op <;> first | rfl | exact absurd rfl h2
  cases b <;> simp [behindInMarks, e1, e2]
def tTest (t : TE) : TT := fun σ H Q => t σ H fun x H' => ∃ k, x = .bl k ∧ Q k H'
theorem pt_cmpR {op : CmpOp} {r : R2} (ho : OpR X (compareOp op) r) (ha : PE X a ta) (hb : PE X b tb) (hm : behindInMarks op b = false) : PT X (.Compare a [op] [b] pos) (tTest (tOp r ta tb)) := by
  intro pins s σ H Q I h
  refine wpAny_isTrue_Compare1 (thn (ha pins s σ H _ I h) fun v s1 ⟨x, H1, I1, r1, q1⟩ => thn (hb pins s1 σ H1 _ I1 q1) fun u s2 ⟨y, H2, I2, r2, q2⟩ =>
    thn (ho pins s2 σ H2 x y v u _ I2 r1 r2 q2) fun c s3 ⟨z, H3, I3, r3, k, e, q3⟩ => ?_) hm
  subst e
  cases r3
  exact wpAny_truthy_bool ⟨H3, I3, q3⟩
def tChain (r r' : R2) (ta tb tc : TE) : TE := fun σ H Q => ta σ H fun x H1 => tb σ H1 fun y H2 => r x y H2 fun z H3 => ∃ k, z = .bl k ∧
  (if k = true then tc σ H3 fun w' H4 => r' y w' H4 Q else Q (.bl false) H3)
theorem pe_chain {op op' : CmpOp} {r r' : R2} (ho : OpR X (compareOp op) r) (ho' : OpR X (compareOp op') r') (ha : PE X a ta) (hb : PE X b tb) (hc : PE X c tc)
    (hm : lastMarks [op, op'] [b, c] = false := by with_unfolding_all rfl) : PE X (.Compare a [op, op'] [b, c] pos) (tChain r r' ta tb tc) := by
  intro pins s σ H Q I h
  refine Compare_chain (thn (ha pins s σ H _ I h) fun v s1 ⟨x, H1, I1, r1, q1⟩ => chain_link (thn (hb pins s1 σ H1 _ I1 q1) fun u s2 ⟨y, H2, I2, r2, q2⟩ =>
    thn (ho pins s2 σ H2 x y v u _ I2 r1 r2 q2) fun d s3 ⟨z, H3, I3, r3, k, e, q3⟩ => ?_)) hm
  subst e
  cases r3
  refine wpAny_truthy_bool ?_
  cases k with
  | false => exact ite_ff ⟨.bl false, H3, I3, rfl, q3⟩
  | true => exact ite_tt (chain_last (thn (hc pins s3 σ H3 _ I3 q3) fun w' s4 ⟨z', H4, I4, r4, q4⟩ => ho' pins s4 σ H4 y z' u w' Q I4 r2 r4 q4))
theorem pt_chain {op op' : CmpOp} {r r' : R2} (ho : OpR X (compareOp op) r) (ho' : OpR X (compareOp op') r') (ha : PE X a ta) (hb : PE X b tb) (hc : PE X c tc)
    (hm : lastMarks [op, op'] [b, c] = false := by with_unfolding_all rfl) : PT X (.Compare a [op, op'] [b, c] pos) (tTest (tChain r r' ta tb tc)) := by
  intro pins s σ H Q I h
  refine isTrue_chain (thn (ha pins s σ H _ I h) fun v s1 ⟨x, H1, I1, r1, q1⟩ => test_link (thn (hb pins s1 σ H1 _ I1 q1) fun u s2 ⟨y, H2, I2, r2, q2⟩ =>
    thn (ho pins s2 σ H2 x y v u _ I2 r1 r2 q2) fun d s3 ⟨z, H3, I3, r3, k, e, q3⟩ => ?_)) hm
  subst e
  cases r3
  refine wpAny_truthy_bool ?_
  cases k with
  | false =>
    obtain ⟨k', e', q'⟩ := q3
    cases e'
    exact ite_ff ⟨H3, I3, q'⟩
  | true =>
    refine ite_tt (test_last (thn (hc pins s3 σ H3 _ I3 q3) fun w' s4 ⟨z', H4, I4, r4, q4⟩ => thn (ho' pins s4 σ H4 y z' u w' _ I4 r2 r4 q4) fun d' s5 ⟨z2, H5, I5, r5, k2, e2, q5⟩ => ?_))
    subst e2
    cases r5
    exact wpAny_truthy_bool ⟨H5, I5, q5⟩
theorem line63 : (sizeLine : Nat) < 2 ^ 63 := by rw [sizeLine_eq]; decide
theorem vals1 {x : V} {us : List Value} (r : Vals [x] us) : ∃ u, us = [u] ∧ RelV x u := by
  cases r with
  | cons r1 r2 => cases r2; exact ⟨_, rfl, r1⟩
theorem vals2 {x y : V} {us : List Value} (r : Vals [x, y] us) : ∃ u w', us = [u, w'] ∧ RelV x u ∧ RelV y w' := by
  cases r with
  | cons r1 r2 =>
    cases r2 with
    | cons r3 r4 => cases r4; exact ⟨_, _, rfl, r1, r3⟩
theorem call_abs : CallR X (.builtin "abs") (fun xs H Q => ∃ i, xs = [.int i] ∧ Q (.int (if i < 0 then -i else i)) H) := by
  intro pins s σ H xs us Q I r h
  obtain ⟨i, rfl, q⟩ := h
  obtain ⟨u, rfl, t, rfl⟩ := vals1 r
  exact call_abs_int fun u tk => ⟨.int (if i < 0 then -i else i), H, I.tok _, ⟨_, rfl⟩, q⟩
theorem call_max2 (hc : X.calm = true) : CallR X (.builtin "max") (fun xs H Q => ∃ i j, xs = [.int i, .int j] ∧ Q (.int (if j > i then j else i)) H) := by
  intro pins s σ H xs us Q I r h
  obtain ⟨i, j, rfl, q⟩ := h
  obtain ⟨u, w', rfl, ⟨t, rfl⟩, ⟨t', rfl⟩⟩ := vals2 r
  refine max_two_ints (I.ok.hd hc) fun h' tk k => ⟨_, H, I.kept k, ?_, q⟩
  by_cases hj : j > i
  · rw [if_pos hj, if_pos hj]; exact ⟨_, rfl⟩
  · rw [if_neg hj, if_neg hj]; exact ⟨_, rfl⟩
theorem call_str_int : CallR X (.type "str") (fun xs H Q => ∃ i, xs = [.int i] ∧ i.natAbs.log2 < 1920 ∧ Q (.str (toString i)) H) := by
  intro pins s σ H xs us Q I r h
  obtain ⟨i, rfl, hz, q⟩ := h
  obtain ⟨u, rfl, t, rfl⟩ := vals1 r
  exact PySem.P.str_of_int hz ⟨.str _, H, I.tok _, ⟨_, rfl⟩, q⟩
theorem call_ord : CallR X (.builtin "ord") (fun xs H Q => ∃ x, xs = [.str x] ∧ x.length = 1 ∧ Q (.int (x.cps.getD 0 0 : Nat)) H) := by
  intro pins s σ H xs us Q I r h
  obtain ⟨x, rfl, hz, q⟩ := h
  obtain ⟨u, rfl, t, rfl⟩ := vals1 r
  exact ord_of_one hz ⟨.int _, H, I.tok _, ⟨_, rfl⟩, q⟩
end
end L2
namespace L2
open PySem PySem.Spec PyProof.Rows
structure ObjM (h : Heap) (x dx C : Addr) (mA : Str → Option Value) : Prop where
  obj : h.get? x = some (PySem.W.instObj C dx)
  ns : h.Ns1 dx mA
  ne : dx ≠ x
theorem lookIn_ns {h : Heap} {dx : Addr} {mA : Str → Option Value} (n : h.Ns1 dx mA) : ∃ od, h.get? dx = some od ∧ ∀ name, PySem.W.lookIn name od = some (mA name) := by
  obtain ⟨o, es, ep, ho, hd, hk, _, hm⟩ := n
  refine ⟨o, ho, fun name => ?_⟩
  have e := hm name
  unfold nsFind findBy at e
  rw [← Array.find?_toList] at e
  unfold PySem.W.lookIn
  rw [hd]
  dsimp only
  split
  · rename_i y q
    rw [q] at e
    exact congrArg some e
  · rename_i q
    rw [q] at e
    have a : es.toList.any (·.refKey) = false := by
      rw [List.any_eq_false]
      intro y hy
      obtain ⟨z, t, hkey⟩ := hk y (Array.mem_toList_iff.mp hy)
      simp [DictEntry.refKey, hkey]
    have a' : ¬ es.toList.any (·.refKey) = true := by rw [a]; exact Bool.false_ne_true
    rw [if_neg a']
    exact congrArg some e
theorem ObjM.look {h : Heap} {x dx C : Addr} {mA : Str → Option Value} (I : ObjM h x dx C mA) : ∃ od, PySem.W.InstAt h x (PySem.W.instObj C dx) C (some od) ∧ ∀ name, PySem.W.lookIn name od = some (mA name) :=
  let ⟨od, ho, hl⟩ := lookIn_ns I.ns
  ⟨od, ⟨I.obj, rfl, rfl, ho⟩, hl⟩
section
variable {prog : Program} {w : World} {A : Around} {E : Value → Shared → Prop} {s : Shared} {K : PySem.W.Frag} {x dx C f : Addr} {mA : Str → Option Value} {name : Str} {v : Value}
theorem get_map {expr : Bool} {Q : Value → Shared → Prop} (X : K.In s.heap) (I : ObjM s.heap x dx C mA) (hg : PySem.W.plainGet K C name = true) (hh : PySem.W.hasDictIn K C = true)
    (ha : PySem.W.findIn K (.ref C) name = some none) (hv : mA name = some v) (hv' : PySem.W.handedIn v = true) (h : Q v { s with toks := s.toks + 1 }) :
    wpAny (model prog w) A (getAttr (.ref x) name expr) Q E s := by
  obtain ⟨od, J, hl⟩ := I.look
  exact PySem.W.get_value X J (PySem.W.plainGet_of hg).1 (PySem.W.findObj_own hh ha rfl (by rw [hl, hv])) hv' h
theorem get_meth {pl : Sem Bool} {Q : Value × List Value → Shared → Prop} (X : K.In s.heap) (I : ObjM s.heap x dx C mA) (hg : PySem.W.plainGet K C name = true)
    (hf : PySem.W.findIn K (.ref C) name = some (some (.ref f))) (ht : PySem.W.isFn K (.ref f) = true) (hv : mA name = none) (h : Q (.ref f, [.ref x]) s) :
    wpAny (model prog w) A (getMethod (.ref x) name pl) Q E s := by
  obtain ⟨od, J, hl⟩ := I.look
  exact PySem.W.method_fn X J (PySem.W.plainGet_of hg).1 (PySem.W.plainGet_of hg).2 hf (beq_iff_eq.mp ht) (by show (PySem.W.lookIn name od).map (·.isSome) = some false; rw [hl, hv]; rfl) h
theorem set_map {ns : List Str} {Q : Unit → Shared → Prop} (X : K.In s.heap) (I : ObjM s.heap x dx C mA)
    (hs : PySem.W.findIn K (.ref C) "__setattr__" = some (some (.builtin "object.__setattr__"))) (hp : PySem.W.plainOver K C = true) (ht : PySem.W.takerIn K C name = some none) (hh : PySem.W.hasDictIn K C = true)
    (hw : PySem.Within mA ns) (hsz : ns.length ≤ sizeLine)
    (h : ∀ h', ObjM h' x dx C (fun y => if y = name then some v else mA y) → Heap.SameBut dx s.heap h' → Q () { s with heap := h', toks := s.toks + 2 }) :
    wpAny (model prog w) A (setAttr (.ref x) name v) Q E s := by
  obtain ⟨od, J, hl⟩ := I.look
  refine PySem.W.set_plain X J hs (PySem.W.osa_open (s := { s with toks := s.toks + 1 }) (r := none) X J hp ht fun b => ?_)
  obtain ⟨cd, hc, hd'⟩ := PySem.W.any_some hh
  have hx : s.heap.get? x = some ⟨.ref C, some dx, .plain, #[]⟩ := I.obj
  refine wpAny_bind (wpAny_pure (wpAny_bind (wpAny_bind (wpAny_loadPart hx (wpAny_bind (PySem.W.Looks.here (s := { s with toks := s.toks + 1 }) (PySem.W.looks_clsIn X hc) ?_))))))
  rw [hd']
  refine wpAny_pure (a := some dx) (wpAny_bind (wpAny_pure (wpAny_bind ?_)))
  refine wpAny_nsSet1 (s := { s with toks := s.toks + 1 }) I.ns fun h' hn2 hs2 => ?_
  obtain ⟨oD, esD, epD, hoD, hdD, hcD⟩ := hn2.count (PySem.Within.cons name v hw)
  refine wpAny_bind (wpAny_lookBehind hoD (by rw [hdD]; exact pastItsLine_dict (Nat.le_trans hcD (by rw [List.length_cons]; omega))) ?_)
  exact wpAny_pure (h _ ⟨(hs2.2 _ (Ne.symm I.ne)).trans I.obj, hn2, I.ne⟩ hs2)
theorem make_map {R : Result → Shared → Prop} {vs : List Value} {kw : List (Str × Value)} (X : K.In s.heap) (hm : PySem.W.makesIn K C = true)
    (hi : PySem.W.findIn K (.ref C) "__init__" = some (some (.ref f))) (hf : PySem.W.typeIn K (.ref f) = some (.type "function"))
    (h : codeAny (model prog w) (A.under (.builtin "type.__call__" ⟨.ref C :: vs, kw⟩)) (.call (.ref f) ⟨.ref (s.heap.objs.size + 1) :: vs, kw⟩) (PySem.W.InitBack (s.heap.objs.size + 1) R)
      { s with heap := (s.heap.push PySem.W.emptyDict).push (PySem.W.instObj C s.heap.objs.size) }) :
    codeAny (model prog w) A (.call (.ref C) ⟨vs, kw⟩) R s := by
  obtain ⟨hh, g, d, t, os⟩ := s
  exact PySem.W.make_core (PySem.W.makes_of X hm) (PySem.W.looks_findIn X hi) (fun self => PySem.W.bind_fn X self hf) (.inl rfl) h
end
def putF (f : Str) (v : V) : List (Str × V) → List (Str × V)
  | [] => [(f, v)]
  | (g, x) :: r => if g = f then (g, v) :: r else (g, x) :: putF f v r
theorem lookup_putF (f g : Str) (v : V) : ∀ fs : List (Str × V), (putF f v fs).lookup g = if g = f then some v else fs.lookup g
  | [] => by
    show List.lookup g [(f, v)] = _
    by_cases h : g = f
    · have hb : (g == f) = true := beq_iff_eq.mpr h
      simp only [List.lookup, hb, if_pos h]
    · have hb : (g == f) = false := beq_eq_false_iff_ne.mpr h
      simp only [List.lookup, hb, if_neg h]
  | (k, x) :: r => by
    have ih := lookup_putF f g v r
    rw [show putF f v ((k, x) :: r) = (if k = f then (k, v) :: r else (k, x) :: putF f v r) from rfl]
    by_cases hk : k = f
    · rw [if_pos hk]
      by_cases h : g = k
      · have hb : (g == k) = true := beq_iff_eq.mpr h
        simp only [List.lookup, hb, if_pos (h.trans hk)]
      · have hb : (g == k) = false := beq_eq_false_iff_ne.mpr h
        simp only [List.lookup, hb, if_neg (fun e : g = f => h (e.trans hk.symm))]
    · rw [if_neg hk]
      by_cases h : g = k
      · have hb : (g == k) = true := beq_iff_eq.mpr h
        simp only [List.lookup, hb, if_neg (fun e : g = f => hk (h.symm.trans e))]
      · have hb : (g == k) = false := beq_eq_false_iff_ne.mpr h
        simp only [List.lookup, hb]
        exact ih
theorem keys_putF (f : Str) (v : V) : ∀ fs : List (Str × V), f ∈ (putF f v fs).map (·.1) ∧ ∀ g, g ∈ fs.map (·.1) → g ∈ (putF f v fs).map (·.1)
  | [] => ⟨by simp [putF], fun g h => by simp at h⟩
  | (k, x) :: r => by
    obtain ⟨i1, i2⟩ := keys_putF f v r
    rw [show putF f v ((k, x) :: r) = (if k = f then (k, v) :: r else (k, x) :: putF f v r) from rfl]
    by_cases hk : k = f
    · rw [if_pos hk]
      subst hk
      exact ⟨by simp, fun g h => by simpa using h⟩
    · rw [if_neg hk]
      refine ⟨?_, fun g h => ?_⟩
      · rw [List.map_cons]
        exact List.mem_cons_of_mem _ i1
      · rw [List.map_cons] at h ⊢
        rcases List.mem_cons.mp h with e | e
        · exact List.mem_cons.mpr (.inl e)
        · exact List.mem_cons_of_mem _ (i2 g e)
theorem length_putF (f : Str) (v : V) : ∀ fs : List (Str × V), (putF f v fs).length ≤ fs.length + 1
  | [] => by simp [putF]
  | (k, x) :: r => by
    have ih := length_putF f v r
    rw [show putF f v ((k, x) :: r) = (if k = f then (k, v) :: r else (k, x) :: putF f v r) from rfl]
    by_cases hk : k = f
    · rw [if_pos hk, List.length_cons, List.length_cons]; omega
    · rw [if_neg hk, List.length_cons, List.length_cons]; omega
theorem RelO.some_of {v : V} {o : Option Value} (r : RelO (some v) o) : ∃ u, o = some u ∧ RelV v u := by
  cases o with
  | none => exact (show False from r).elim
  | some u => exact ⟨u, rfl, r⟩
theorem RelO.none_of {o : Option Value} (r : RelO none o) : o = none := by
  cases o with
  | none => rfl
  | some u => exact (show False from r).elim
theorem handed_of {v : V} {u : Value} (r : RelV v u) : PySem.W.handedIn u = true := by
  cases v with
  | non => cases (show u = Value.none from r); rfl
  | bl b => cases (show u = Value.bool b from r); rfl
  | int i => obtain ⟨t, e⟩ := (show ∃ t, u = Value.int i t from r); cases e; rfl
  | str x => obtain ⟨t, e⟩ := (show ∃ t, u = Value.str x t from r); cases e; rfl
  | byt b => obtain ⟨t, e⟩ := (show ∃ t, u = Value.bytes b t from r); cases e; rfl
  | flt b => obtain ⟨t, e⟩ := (show ∃ t, u = Value.float b t from r); cases e; rfl
  | ref a => cases (show u = Value.ref a from r); rfl
  | ty n => cases (show u = Value.type n from r); rfl
section
variable {P : Program} {w : World} {H H' : Hp} {h h' : Heap} {a C dx : Addr} {fs fs' : List (Str × V)}
theorem ins_get (hok : HOk P w H h) (e : H a = some (.ins C dx fs)) : ∃ mA, ObjM h a dx C mA ∧ (∀ f, RelO (fs.lookup f) (mA f)) ∧ PySem.Within mA (fs.map (·.1)) ∧ fs.length ≤ 1000 ∧ H dx = some (.own a) := by
  obtain ⟨d, z, ne, ob, mA, n, r, q⟩ := (show ObjOk P w H h a (.ins C dx fs) from hok a _ e)
  exact ⟨mA, ⟨ob, n, ne⟩, r, q, z, d⟩
end
structure Cls (K : PySem.W.Frag) (C : Addr) : Prop where
  pg : PySem.W.plainGet K C Str.empty = true
  hd : PySem.W.hasDictIn K C = true
  po : PySem.W.plainOver K C = true
  sa : PySem.W.findIn K (.ref C) "__setattr__" = some (some (.builtin "object.__setattr__"))
theorem Cls.get {K : PySem.W.Frag} {C : Addr} (c : Cls K C) (f : Str) : PySem.W.plainGet K C f = true := c.pg
def NoAttr (K : PySem.W.Frag) (C : Addr) (f : Str) : Prop := PySem.W.findIn K (.ref C) f = some none
theorem NoAttr.taker {K : PySem.W.Frag} {C : Addr} {f : Str} (n : NoAttr K C f) : PySem.W.takerIn K C f = some none := by
  unfold PySem.W.takerIn
  rw [show PySem.W.findIn K (.ref C) f = some none from n]
  rfl
structure Meth (K : PySem.W.Frag) (C : Addr) (m : Str) (f : Addr) : Prop where
  at_ : PySem.W.findIn K (.ref C) m = some (some (.ref f))
  fn : PySem.W.isFn K (.ref f) = true
  kp : PySem.W.keepIn K (.ref f) = true
section
variable {X : Cx} {pins : List (Addr × Obj)} {σ : St} {H : Hp} {s : Shared} {a C dx : Addr} {fs : List (Str × V)} {f : Str} {v : V} {A : Around} {E : Value → Shared → Prop}
theorem getattr_ok {b : Bool} {Q : Value → Shared → Prop} (I : Inv X pins σ H s) (e : H a = some (.ins C dx fs)) (c : Cls X.K C) (n : NoAttr X.K C f) (l : fs.lookup f = some v)
    (h : ∀ u s', Inv X pins σ H s' → RelV v u → Q u s') : wpAny (model X.prog X.w) A (getAttr (.ref a) f b) Q E s := by
  obtain ⟨mA, O, r, _, _, _⟩ := ins_get I.hok e
  obtain ⟨u, hu, ru⟩ := RelO.some_of (v := v) (o := mA f) (by rw [← l]; exact r f)
  exact get_map I.kIn O (c.get f) c.hd n hu (handed_of ru) (h u _ (I.tok _) ru)
theorem getmeth_ok {m : Str} {g : Addr} {pl : Sem Bool} {Q : Value × List Value → Shared → Prop} (I : Inv X pins σ H s) (e : H a = some (.ins C dx fs)) (c : Cls X.K C) (k : Meth X.K C m g) (l : fs.lookup m = none)
    (h : Q (.ref g, [.ref a]) s) : wpAny (model X.prog X.w) A (getMethod (.ref a) m pl) Q E s := by
  obtain ⟨mA, O, r, _, _, _⟩ := ins_get I.hok e
  have hn : mA m = none := RelO.none_of (by rw [← l]; exact r m)
  exact get_meth I.kIn O (c.get m) k.at_ k.fn hn h
theorem setattr_ok {y : V} {u : Value} {Q : Unit → Shared → Prop} (I : Inv X pins σ H s) (e : H a = some (.ins C dx fs)) (c : Cls X.K C) (n : NoAttr X.K C f) (hl : fs.length < 1000) (ry : RelV y u)
    (h : ∀ s', Inv X pins σ (upd H a (.ins C dx (putF f y fs))) s' → Q () s') : wpAny (model X.prog X.w) A (setAttr (.ref a) f u) Q E s := by
  obtain ⟨mA, O, r, wi, _, ho⟩ := ins_get I.hok e
  have hz : (fs.map (·.1)).length ≤ sizeLine := by rw [List.length_map, sizeLine_eq]; omega
  refine set_map I.kIn O c.sa c.po n.taker c.hd wi hz fun h' O' sb => h _ ?_
  have hd : ∃ o, h'.get? dx = some o := let ⟨o, _, _, e', _⟩ := O'.ns; ⟨o, e'⟩
  refine I.write (x := a) (e := dx) (by rw [e]; exact True.intro) (.inr ho) (fun b q hb z => (sb.2 b hb).trans z) hd ?_
  refine ⟨by rw [upd_ne O.ne]; exact ho, ?_, O.ne, O'.obj, _, O'.ns, fun g => ?_, fun g hg => ?_⟩
  · have := length_putF f y fs; omega
  · show RelO ((putF f y fs).lookup g) (if g = f then some u else mA g)
    rw [lookup_putF]
    by_cases q : g = f
    · rw [if_pos q, if_pos q]; exact ry
    · rw [if_neg q, if_neg q]; exact r g
  · by_cases q : g = f
    · rw [q]; exact (keys_putF f y fs).1
    · refine (keys_putF f y fs).2 g (wi g fun z => hg ?_)
      show (if g = f then some u else mA g) = none
      rw [if_neg q]; exact z
theorem Inv.made (I : Inv X pins σ H s) : Inv X pins σ (upd (upd H s.heap.objs.size (.own (s.heap.objs.size + 1))) (s.heap.objs.size + 1) (.ins C s.heap.objs.size []))
    { s with heap := (s.heap.push PySem.W.emptyDict).push (PySem.W.instObj C s.heap.objs.size) } := by
  have e1 : (s.heap.push PySem.W.emptyDict).get? s.heap.objs.size = some PySem.W.emptyDict := Heap.get?_push_size s.heap rfl
  have e2 : ((s.heap.push PySem.W.emptyDict).push (PySem.W.instObj C s.heap.objs.size)).get? (s.heap.objs.size + 1) = some (PySem.W.instObj C s.heap.objs.size) := by
    have := Heap.get?_push_size (s.heap.push PySem.W.emptyDict) (o := PySem.W.instObj C s.heap.objs.size) rfl
    rwa [Heap.size_push] at this
  have e3 : (s.heap.push PySem.W.emptyDict).Ns s.heap.objs.size (fun _ => none) := ⟨PySem.W.emptyDict, #[], _, e1, rfl, (fun e he => absurd he (by simp)), fun _ => rfl⟩
  have I1 := I.laid (a := s.heap.objs.size) (o := .own (s.heap.objs.size + 1)) (h' := s.heap.push PySem.W.emptyDict) (t' := s.toks) (fun b u q => Heap.get?_push_of_some _ q) (Nat.le_refl _) ⟨_, e1⟩
  refine I1.laid (a := s.heap.objs.size + 1) (o := .ins C s.heap.objs.size []) (t' := s.toks) (fun b u q => Heap.get?_push_of_some _ q) (Nat.le_of_eq (Heap.size_push _ _)) ?_
  have ne : s.heap.objs.size ≠ s.heap.objs.size + 1 := Nat.ne_of_lt (Nat.lt_succ_self _)
  refine ⟨by rw [upd_ne ne, upd_same], Nat.zero_le _, ne, e2, fun _ => none, (Heap.Ns1.of_empty e3).at fun o q => Heap.get?_push_of_some _ q, fun _ => True.intro, fun y hy => absurd rfl hy⟩
theorem attr_of {prog : Program} {w : World} {env : Env} {e : Expr} {f : Str} {pos : Pos} {s : Shared} {Q : Value → Shared → Prop} (hb : attributeBase e f env (eval e env) = eval e env)
    (h : wpAny (model prog w) A (eval e env) (fun o s₁ => wpAny (model prog w) A (getAttr o f true) Q E s₁) E s) : wpAny (model prog w) A (eval (.Attribute e f pos) env) Q E s :=
  Attribute_any_ h (by rw [arm_eval_Attribute, hb])
end
def tFld (K : PySem.W.Frag) (ta : TE) (f : Str) : TE := fun σ H Q => ta σ H fun x H1 => ∃ a C dx fs v, x = .ref a ∧ H1 a = some (.ins C dx fs) ∧ Cls K C ∧ NoAttr K C f ∧ fs.lookup f = some v ∧ Q v H1
def sFld (K : PySem.W.Frag) (ta tv : TE) (f : Str) : TS := fun D σ H => tv σ H fun y H1 => ta σ H1 fun x H2 => ∃ a C dx fs, x = .ref a ∧ H2 a = some (.ins C dx fs) ∧ Cls K C ∧ NoAttr K C f ∧ fs.length < 1000 ∧
  D.nx σ (upd H2 a (.ins C dx (putF f y fs)))
section
variable {X : Cx} {o e value : Expr} {f : Str} {pos pos' tpos : Pos} {ta tv : TE}
theorem pe_fld (he : PE X e ta) (hb : attributeBase e f X.env (eval e X.env) = eval e X.env) : PE X (.Attribute e f pos) (tFld X.K ta f) := by
  intro pins s σ H Q I h
  refine attr_of hb (thn (he pins s σ H _ I h) fun u s1 ⟨x, H1, I1, rx, a, C, dx, fs, v, ex, ea, c, n, l, q⟩ => ?_)
  subst ex
  obtain rfl : u = Value.ref a := rx
  exact getattr_ok I1 ea c n l fun u' s2 I2 ru => ⟨v, H1, I2, ru, q⟩
theorem ps_fld (ha : PE X o ta) (hv : PE X value tv) (hs : swapsWith value (some (.Attribute o f pos')) pos.line X.env = pure false) : PS X (.Assign [.Attribute o f pos'] value pos) (sFld X.K ta tv f) := by
  intro pins s σ H D I h
  refine plainObj_wpAny_Assign_Attribute (thn (hv pins s σ H _ I h) fun u s1 ⟨y, H1, I1, ry, q⟩ => thn (ha pins s1 σ H1 _ I1 q) fun ov s2 ⟨x, H2, I2, rx, a, C, dx, fs, ex, ea, c, n, l, q2⟩ => ?_) hs
  subst ex
  obtain rfl : ov = Value.ref a := rx
  exact setattr_ok I2 ea c n l ry fun s3 I3 => ⟨σ, _, I3, q2⟩
theorem methcall_of {pl : Sem Bool} {m : Str} {apos : Pos} {args : List Expr} {pins : List (Addr × Obj)} {s : Shared} {σ : St} {H : Hp} {Q : Value → Shared → Prop} {te : TE} (he : PE X e te) (I : Inv X pins σ H s)
    (h : te σ H fun x H1 => ∃ a C dx fs g, x = .ref a ∧ H1 a = some (.ins C dx fs) ∧ Cls X.K C ∧ Meth X.K C m g ∧ fs.lookup m = none ∧
      ∀ s1, Inv X pins σ H1 s1 → wpAny (model X.prog X.w) X.A (callWith pos (.ref g) [.ref a] (backTo pos (starEach args X.env)) (backToKw pos (keywordEach [] X.env))) Q X.xe s1)
    (ht : eval (.Call (.Attribute e m apos) args [] pos) X.env = (do
      let ov ← eval e X.env
      standAt apos.atName
      let (f, first) ← holding [ov] (getMethod ov m pl)
      callWith pos f first (backTo pos (starEach args X.env)) (backToKw pos (keywordEach [] X.env)))) :
    wpAny (model X.prog X.w) X.A (eval (.Call (.Attribute e m apos) args [] pos) X.env) Q X.xe s := by
  refine PySem.W.methodCall_KW (pl := pl) (thn (he pins s σ H _ I h) fun u s1 ⟨x, H1, I1, rx, a, C, dx, fs, g, ex, ea, c, k, l, q⟩ => ?_) ht
  subst ex
  obtain rfl : u = Value.ref a := rx
  exact getmeth_ok I1 ea c k l (q s1 I1)
end
section
variable {X : Cx} {pins : List (Addr × Obj)} {σ : St} {H : Hp} {s : Shared} {A : Around} {E : Value → Shared → Prop} {Q : Value → Shared → Prop} {c : Value} {b : Bool}
end
end L2
namespace L2
open PySem PySem.Spec PyProof.Rows
structure Room (k : Nat) (A : Around) : Prop where
  hd : A.handled = none
  dp : A.depth + 3 * k + 5 < recursionLimit
  un : A.units + 16 * k + 200 < cLine
theorem Room.mono {j k : Nat} {A : Around} (r : Room k A) (h : j ≤ k) : Room j A := ⟨r.hd, by have := r.dp; omega, by have := r.un; omega⟩
theorem Room.deeper {k : Nat} {A : Around} (r : Room (k + 1) A) (env : Env) : Room k (A.deeper env) :=
  ⟨r.hd, by have := r.dp; show A.depth + 1 + 3 * k + 5 < _; omega, by have := r.un; show A.units + 3 + 16 * k + 200 < _; omega⟩
theorem make_depth {A : Around} {C : Addr} {us : List Value} {kw : List (Str × Value)} : (A.under (.builtin "type.__call__" ⟨.ref C :: us, kw⟩)).depth = A.depth + 1 := by
  first | rfl | simp [Around.under, Code.weight, Code.isCreation, Code.isGuard, Code.isCaller, Code.frames, Code.isFrame, guardIds]
theorem make_units {A : Around} {C : Addr} {us : List Value} {kw : List (Str × Value)} : (A.under (.builtin "type.__call__" ⟨.ref C :: us, kw⟩)).units = A.units + 1 := by
  first | rfl | simp [Around.under, Code.cUnits, Code.frames, Code.isFrame]
theorem Room.make {k : Nat} {A : Around} (r : Room (k + 1) A) (C : Addr) (us : List Value) (kw : List (Str × Value)) : Room k (A.under (.builtin "type.__call__" ⟨.ref C :: us, kw⟩)) :=
  ⟨r.hd, by have := r.dp; rw [make_depth]; omega, by have := r.un; rw [make_units]; omega⟩
theorem Room.depth {k : Nat} {A : Around} (r : Room k A) : A.depth < recursionLimit := by have := r.dp; omega
theorem Room.units {k : Nat} {A : Around} (r : Room k A) : A.units + 64 < cLine := by have := r.un; omega
def tNil : TA := fun _ H Q => Q [] H
def tCons (ta : TE) (tr : TA) : TA := fun σ H Q => ta σ H fun x H1 => tr σ H1 fun xs H2 => Q (x :: xs) H2
section
variable {X : Cx} {e : Expr} {es : List Expr} {te : TE} {t : TA} {pos : Pos}
theorem pa_nil : PA X [] tNil := fun _ _ _ _ H Q I h => Calls.spliced_nil ⟨[], H, I, .nil, h⟩
theorem pa_cons (ha : PE X e te) (hr : PA X es t) (hs : starEach (e :: es) X.env = (false, eval e X.env) :: starEach es X.env := by rfl) : PA X (e :: es) (tCons te t) := by
  intro pos pins s σ H Q I h
  rw [hs]
  show wpAny _ _ (spliced ((false, eval e X.env) :: backTo pos (starEach es X.env))) _ _ s
  refine Calls.spliced_cons (thn (ha pins s σ H _ I h) fun u s1 ⟨x, H1, I1, r1, q1⟩ => ?_)
  exact thn (hr pos pins s1 σ H1 _ I1 q1) fun us s2 ⟨xs, H2, I2, r2, q2⟩ => ⟨x :: xs, H2, I2, .cons r1 r2, q2⟩
def tTup (t : TA) : TE := fun σ H Q => t σ H fun xs H1 => xs.length ≤ sizeLine ∧ ∀ p, H1 p = none → Q (.ref p) (upd H1 p (.tup xs))
def tLst (t : TA) : TE := fun σ H Q => t σ H fun xs H1 => xs.length ≤ sizeLine ∧ ∀ p, H1 p = none → Q (.ref p) (upd H1 p (.lst xs))
theorem pe_tup {x1} (h : PA X es t) : PE X (.Tuple es x1 pos) (tTup t) := by
  intro pins s σ H Q I hq
  refine wpAny_Tuple_spliced (thn (h pos pins s σ H _ I hq) fun us s1 ⟨xs, H1, I1, r, z, q⟩ => ⟨by rw [← r.length]; exact z, ?_⟩)
  have hf : H1 s1.heap.objs.size = none := I1.hok.fresh (Nat.le_refl _)
  refine ⟨.ref s1.heap.objs.size, upd H1 s1.heap.objs.size (.tup xs), I1.laid (t' := s1.toks) (fun b u e => Heap.get?_push_of_some _ e) (Nat.le_refl _) ?_, rfl, q _ hf⟩
  exact ⟨z, us, r, ⟨_, Heap.get?_push_size _ rfl, rfl, _, rfl⟩⟩
theorem pe_lst (h : PA X es t) : PE X (.List es pos) (tLst t) := by
  intro pins s σ H Q I hq
  refine wpAny_List_spliced (thn (h pos pins s σ H _ I hq) fun us s1 ⟨xs, H1, I1, r, z, q⟩ => ⟨by rw [← r.length]; exact z, ?_⟩)
  have hf : H1 s1.heap.objs.size = none := I1.hok.fresh (Nat.le_refl _)
  refine ⟨.ref s1.heap.objs.size, upd H1 s1.heap.objs.size (.lst xs), I1.laid (t' := s1.toks) (fun b u e => Heap.get?_push_of_some _ e) (Nat.le_refl _) ?_, rfl, q _ hf⟩
  exact ⟨z, us, 0, r, Heap.get?_push_size _ rfl⟩
end
abbrev Sp := List V → Hp → VK → XK → Prop
abbrev CXT := List Env → Hp → Shared → XK → Value → Shared → Prop
structure Env0 (P : Program) (w : World) (K : PySem.W.Frag) (mg : Str → Option Value) (base : Heap) (A : Around) (outer : List Env) (s : Shared) (H : Hp) : Prop where
  frames : A.frames = some outer
  mod : Mod K mg base
  bs : ∀ b o, base.get? b = some o → s.heap.get? b = some o ∧ H b = none
  bsz : base.objs.size ≤ s.heap.objs.size
  funs : s.heap.FunFrames base outer
  frf : ∀ b ∈ frs outer, H b = none
  hok : HOk P w H s.heap
  bare : AllBare s.gens
def CE (outer : List Env) (P : Program) (w : World) (H : Hp) (s : Shared) (Q : VK) (u : Value) (s' : Shared) : Prop :=
  ∃ v H', s'.os = s.os ∧ AllBare s'.gens ∧ Un (frs outer) [] H H' s.heap s'.heap ∧ HOk P w H' s'.heap ∧ RelV v u ∧ Q v H'
def CR (CX : CXT) (outer : List Env) (P : Program) (w : World) (H : Hp) (s : Shared) (Q : VK) (E : XK) (r : Result) (s' : Shared) : Prop :=
  match r with
  | .ok (.ret u) => CE outer P w H s Q u s'
  | .ok _ => False
  | .error e => CX outer H s E e s'
structure FnOk (P : Program) (w : World) (K : PySem.W.Frag) (mg : Str → Option Value) (base : Heap) (CX : CXT) (k : Nat) (f : Addr) (fd : FuncData) (ps : List Str) (sp : Sp) : Prop where
  len : ∀ vs H Q E, sp vs H Q E → vs.length = ps.length
  run : ∀ (A : Around) (outer : List Env) (s : Shared) (H : Hp) (args : Args) (us : List Value) (vs : List V) (Q : VK) (E : XK), Room k A → Env0 P w K mg base A outer s H → BindsTo s fd args (ps.zip us) → Vals vs us → sp vs H Q E →
    codeAny (model P w) A (.call (.ref f) args) (CR CX outer P w H s Q E) s
theorem Env0.make {P : Program} {w : World} {K : PySem.W.Frag} {mg : Str → Option Value} {base : Heap} {A : Around} {outer : List Env} {s : Shared} {H : Hp} (e : Env0 P w K mg base A outer s H) (C : Addr) (us : List Value) (kw : List (Str × Value)) :
    Env0 P w K mg base (A.under (.builtin "type.__call__" ⟨.ref C :: us, kw⟩)) outer s H := ⟨by first | exact e.frames | (simpa [Around.under, Code.envs, Code.isFrame, pushEnvs] using e.frames), e.mod, e.bs, e.bsz, e.funs, e.frf, e.hok, e.bare⟩
section
variable {X : Cx} {pins : List (Addr × Obj)} {σ : St} {H : Hp} {s s' : Shared}
theorem Inv.env0 (I : Inv X pins σ H s) : Env0 X.prog X.w X.K X.mg X.base X.A X.stack s H :=
  ⟨I.ok.frames, I.ok.mod, I.bs, Nat.le_trans I.ok.bsz I.sz, I.stack, I.stkFree, I.hok, I.bare⟩
theorem Inv.after {Q : VK} {u : Value} (I : Inv X pins σ H s) (h : CE X.stack X.prog X.w H s Q u s') : EP X pins σ Q u s' := by
  obtain ⟨v, H', os, bare, un, hok, r, q⟩ := h
  obtain ⟨hh, g, d, t, os'⟩ := s'
  obtain rfl : os' = s.os := os
  exact ⟨v, H', I.call (h' := hh) (g' := g) (d' := d) (t' := t) (ch := []) un hok bare (fun b z => absurd z (by simp)), r, q⟩
end
def tCall (sp : Sp) (dvs : List V) (E : XK) (t : TA) : TE := fun σ H Q => t σ H fun vs H1 => sp (vs ++ dvs) H1 Q E
def tMeth (C : Addr) (m : Str) (sp : Sp) (dvs : List V) (E : XK) (ta : TE) (t : TA) : TE := fun σ H Q => ta σ H fun x H1 => ∃ a dx fs, x = .ref a ∧ H1 a = some (.ins C dx fs) ∧ fs.lookup m = none ∧
  t σ H1 fun vs H2 => sp (x :: (vs ++ dvs)) H2 Q E
def tMake (C : Addr) (sp : Sp) (dvs : List V) (E : XK) (t : TA) : TE := fun σ H Q => t σ H fun vs H1 => ∀ x dx, H1 x = none → H1 dx = none → dx ≠ x →
  sp (.ref x :: (vs ++ dvs)) (upd (upd H1 dx (.own x)) x (.ins C dx [])) (fun v H2 => v = .non ∧ Q (.ref x) H2) E
def Binds (K : PySem.W.Frag) (fd : FuncData) (ps : List Str) (ds : List Value) : Prop :=
  ∀ (s : Shared) (us : List Value), K.In s.heap → (us ++ ds).length = ps.length → BindsTo s fd ⟨us, []⟩ (ps.zip (us ++ ds))
theorem Binds.all {K : PySem.W.Frag} {fd : FuncData} {ps : List Str} (h : ∀ us : List Value, us.length = ps.length → bindArgs fd ⟨us, []⟩ = pure (ps.zip us)) : Binds K fd ps [] := fun s us _ hl => by
  rw [List.append_nil] at hl ⊢
  exact .of_eq (h us hl)
def Passes (CX : CXT) (X : Cx) (E : XK) : Prop := ∀ (pins : List (Addr × Obj)) (σ : St) (H : Hp) (s : Shared) (e : Value) (s' : Shared), Inv X pins σ H s → CX X.stack H s E e s' → X.xe e s'
section
variable {X : Cx} {CX : CXT} {k : Nat} {f C : Addr} {fd : FuncData} {ps : List Str} {sp : Sp} {dvs : List V} {ds : List Value} {E : XK} {x m : Str} {p pos apos : Pos} {e o : Expr} {es : List Expr} {ta : TE} {t : TA}
theorem run_fn {pins : List (Addr × Obj)} {σ : St} {H : Hp} {s : Shared} {Q : VK} {us : List Value} {vs : List V} (F : FnOk X.prog X.w X.K X.mg X.base CX k f fd ps sp) (hr : Room k X.A) (hb : Binds X.K fd ps ds) (hd : Vals dvs ds) (hx : Passes CX X E)
    (I : Inv X pins σ H s) (r : Vals vs us) (h : sp (vs ++ dvs) H Q E) : wpAny (model X.prog X.w) X.A (call (.ref f) us) (EP X pins σ Q) X.xe s := by
  have r2 : Vals (vs ++ dvs) (us ++ ds) := r.append hd
  have hl : (us ++ ds).length = ps.length := by rw [← r2.length]; exact F.len _ _ _ _ h
  refine wpAny_call (codeAny_mono (F.run X.A X.stack s H ⟨us, []⟩ (us ++ ds) (vs ++ dvs) Q E hr I.env0 (hb s us I.kIn hl) r2 h) fun r s' hq => ?_)
  cases r with
  | error e => exact hx pins σ H s e s' I hq
  | ok fl =>
    cases fl with
    | ret u => exact I.after hq
    | next => exact False.elim hq
    | brk => exact False.elim hq
    | cont => exact False.elim hq
theorem pe_call (F : FnOk X.prog X.w X.K X.mg X.base CX k f fd ps sp) (hr : Room k X.A) (hg : Gl X x) (hm : X.mg x = some (.ref f)) (hk : PySem.W.keepIn X.K (.ref f) = true) (hb : Binds X.K fd ps ds) (hd : Vals dvs ds) (hx : Passes CX X E)
    (ha : PA X (e :: es) t) (hdb : (x == ("__debug__" : Str)) = false := by decide) (he : starEach (e :: es) X.env = (false, eval e X.env) :: starEach es X.env := by rfl) (hpl : (backTo pos (starEach es X.env)).any (·.1) = false := by rfl) :
    PE X (.Call (.Name x p) (e :: es) [] pos) (tCall sp dvs E t) := by
  intro pins s σ H Q I h
  refine wpAny_Call_Name_kw (ld_glob I hg hm ?_ hdb)
  refine PySem.W.callWith_K (h₀ := X.base) I.ok.mod.kin hk (thn (ha pos pins s σ H _ I h) fun us s1 ⟨vs, H1, I1, r, q⟩ => ⟨I1.kIn, ?_⟩) he hpl
  exact run_fn F hr hb hd hx I1 r q
theorem pe_meth {pl : Sem Bool} (he : PE X o ta) (c : Cls X.K C) (hm : Meth X.K C m f) (F : FnOk X.prog X.w X.K X.mg X.base CX k f fd ps sp) (hr : Room k X.A) (hb : Binds X.K fd ps ds) (hd : Vals dvs ds) (hx : Passes CX X E) (ha : PA X (e :: es) t)
    (hst : starEach (e :: es) X.env = (false, eval e X.env) :: starEach es X.env := by rfl) (hpl : (backTo pos (starEach es X.env)).any (·.1) = false := by rfl)
    (ht : eval (.Call (.Attribute o m apos) (e :: es) [] pos) X.env = (do
      let ov ← eval o X.env
      standAt apos.atName
      let (f, first) ← holding [ov] (getMethod ov m pl)
      callWith pos f first (backTo pos (starEach (e :: es) X.env)) (backToKw pos (keywordEach [] X.env))) := by rfl) :
    PE X (.Call (.Attribute o m apos) (e :: es) [] pos) (tMeth C m sp dvs E ta t) := by
  intro pins s σ H Q I h
  refine PySem.W.methodCall_KW (pl := pl) (thn (he pins s σ H _ I h) fun u s1 ⟨x, H1, I1, rx, a, dx, fs, ex, ea, l, q⟩ => ?_) ht
  subst ex
  obtain rfl : u = Value.ref a := rx
  refine getmeth_ok I1 ea c hm l ?_
  refine PySem.W.callWith_K (first := [.ref a]) (h₀ := X.base) I.ok.mod.kin hm.kp (thn (ha pos pins s1 σ H1 _ I1 q) fun us s2 ⟨vs, H2, I2, r, q2⟩ => ⟨I2.kIn, ?_⟩) hst hpl
  exact run_fn (us := .ref a :: us) (vs := .ref a :: vs) F hr hb hd hx I2 (.cons rfl r) q2
theorem pe_meth0 {pl : Sem Bool} (he : PE X o ta) (c : Cls X.K C) (hm : Meth X.K C m f) (F : FnOk X.prog X.w X.K X.mg X.base CX k f fd ps sp) (hr : Room k X.A) (hb : Binds X.K fd ps ds) (hd : Vals dvs ds) (hx : Passes CX X E)
    (ht : eval (.Call (.Attribute o m apos) [] [] pos) X.env = (do
      let ov ← eval o X.env
      standAt apos.atName
      let (f, first) ← holding [ov] (getMethod ov m pl)
      callWith pos f first (backTo pos (starEach [] X.env)) (backToKw pos (keywordEach [] X.env))) := by rfl) :
    PE X (.Call (.Attribute o m apos) [] [] pos) (tMeth C m sp dvs E ta tNil) := by
  intro pins s σ H Q I h
  refine PySem.W.methodCall_KW (pl := pl) (thn (he pins s σ H _ I h) fun u s1 ⟨x, H1, I1, rx, a, dx, fs, ex, ea, l, q⟩ => ?_) ht
  subst ex
  obtain rfl : u = Value.ref a := rx
  refine getmeth_ok I1 ea c hm l ?_
  exact PySem.W.callWith_K0 (first := [.ref a]) I1.kIn hm.kp (run_fn (us := [.ref a]) (vs := [.ref a]) F hr hb hd hx I1 (.cons rfl .nil) q)
structure Mk (K : PySem.W.Frag) (C f : Addr) : Prop where
  makes : PySem.W.makesIn K C = true
  init : PySem.W.findIn K (.ref C) "__init__" = some (some (.ref f))
  fn : PySem.W.isFn K (.ref f) = true
  kp : PySem.W.keepIn K (.ref C) = true
theorem run_make {pins : List (Addr × Obj)} {σ : St} {H : Hp} {s : Shared} {Q : VK} {us : List Value} {vs : List V} (M : Mk X.K C f) (F : FnOk X.prog X.w X.K X.mg X.base CX k f fd ps sp) (hr : Room (k + 1) X.A) (hb : Binds X.K fd ps ds) (hd : Vals dvs ds)
    (hx : Passes CX X E) (I : Inv X pins σ H s) (r : Vals vs us)
    (h : ∀ x dx, H x = none → H dx = none → dx ≠ x → sp (.ref x :: (vs ++ dvs)) (upd (upd H dx (.own x)) x (.ins C dx [])) (fun v H2 => v = .non ∧ Q (.ref x) H2) E) :
    wpAny (model X.prog X.w) X.A (call (.ref C) us) (EP X pins σ Q) X.xe s := by
  have hq := h (s.heap.objs.size + 1) s.heap.objs.size (I.hok.fresh (Nat.le_succ _)) (I.hok.fresh (Nat.le_refl _)) (Nat.ne_of_lt (Nat.lt_succ_self _))
  have I2 := Inv.made (C := C) I
  have r2 : Vals (V.ref (s.heap.objs.size + 1) :: (vs ++ dvs)) (Value.ref (s.heap.objs.size + 1) :: (us ++ ds)) := .cons rfl (r.append hd)
  have hl : (Value.ref (s.heap.objs.size + 1) :: us ++ ds).length = ps.length := by
    have e := r2.length
    rw [F.len _ _ _ _ hq] at e
    exact e.symm
  refine wpAny_call (make_map (f := f) I.kIn M.makes M.init (beq_iff_eq.mp M.fn) (codeAny_mono (F.run _ X.stack _ _ ⟨Value.ref (s.heap.objs.size + 1) :: us, []⟩ (Value.ref (s.heap.objs.size + 1) :: (us ++ ds)) _ _ E (hr.make C us [])
    (I2.env0.make C us []) (hb _ (Value.ref (s.heap.objs.size + 1) :: us) I2.kIn hl) r2 hq) fun r s' hq' => ?_))
  cases r with
  | error e => exact hx pins σ _ _ e s' I2 hq'
  | ok fl =>
    cases fl with
    | ret u =>
      obtain ⟨v, H', I3, rv, ev, q3⟩ := I2.after hq'
      subst ev
      exact ⟨rv, ⟨V.ref (s.heap.objs.size + 1), H', I3, rfl, q3⟩⟩
    | next => exact False.elim hq'
    | brk => exact False.elim hq'
    | cont => exact False.elim hq'
theorem pe_make (M : Mk X.K C f) (F : FnOk X.prog X.w X.K X.mg X.base CX k f fd ps sp) (hr : Room (k + 1) X.A) (hg : Gl X x) (hm : X.mg x = some (.ref C)) (hb : Binds X.K fd ps ds) (hd : Vals dvs ds) (hx : Passes CX X E)
    (ha : PA X (e :: es) t) (hdb : (x == ("__debug__" : Str)) = false := by decide) (he : starEach (e :: es) X.env = (false, eval e X.env) :: starEach es X.env := by rfl) (hpl : (backTo pos (starEach es X.env)).any (·.1) = false := by rfl) :
    PE X (.Call (.Name x p) (e :: es) [] pos) (tMake C sp dvs E t) := by
  intro pins s σ H Q I h
  refine wpAny_Call_Name_kw (ld_glob I hg hm ?_ hdb)
  refine PySem.W.callWith_K (h₀ := X.base) I.ok.mod.kin M.kp (thn (ha pos pins s σ H _ I h) fun us s1 ⟨vs, H1, I1, r, q⟩ => ⟨I1.kIn, ?_⟩) he hpl
  exact run_make M F hr hb hd hx I1 r q
theorem pe_make0 (M : Mk X.K C f) (F : FnOk X.prog X.w X.K X.mg X.base CX k f fd ps sp) (hr : Room (k + 1) X.A) (hg : Gl X x) (hm : X.mg x = some (.ref C)) (hb : Binds X.K fd ps ds) (hd : Vals dvs ds) (hx : Passes CX X E)
    (hdb : (x == ("__debug__" : Str)) = false := by decide) : PE X (.Call (.Name x p) [] [] pos) (tMake C sp dvs E tNil) := by
  intro pins s σ H Q I h
  refine wpAny_Call_Name_kw (ld_glob I hg hm ?_ hdb)
  exact PySem.W.callWith_K0 I.kIn M.kp (run_make (us := []) M F hr hb hd hx I .nil h)
end
section
variable {X : Cx} {CX : CXT} {k : Nat} {f C : Addr} {fd : FuncData} {ps ks : List Str} {sp : Sp} {E : XK} {x m : Str} {p pos apos kpos : Pos} {e o : Expr} {es : List Expr} {kws : List Keyword} {te ta : TE} {t tk : TA} {nm : Option Str}
variable {g : List Value → List Value → List Value} {gV : List V → List V → List V}
end
structure FnScope (N P : List Str) (sc : Scope) : Prop where
  kind : sc.kind = .function
  co : sc.isCoroutine = false
  gen : sc.isGenerator = false
  nd : N.Nodup
  pre : N.take P.length = P
  par : ∀ x ∈ P, sc.names.lookup x = some .local ∨ sc.names.lookup x = some .cell
  nofree : ∀ y ∈ sc.names, y.2 ≠ .free
theorem bindL_out {kindOf : Str → Option NameKind} {x : Str} : ∀ {binds : List (Str × Value)} {m : Str → Option Value}, (∀ v, (x, v) ∉ binds) → bindL kindOf binds m x = m x
  | [], _, _ => rfl
  | (n, v) :: r, m, h => by
    unfold bindL
    rw [bindL_out fun w hw => h w (List.mem_cons_of_mem _ hw)]
    split
    · have : x ≠ n := by rintro rfl; exact h v List.mem_cons_self
      simp [this]
    · rfl
theorem bindC_out {kindOf : Str → Option NameKind} {x : Str} : ∀ {binds : List (Str × Value)} {m : Str → Option Value}, (∀ v, (x, v) ∉ binds) → bindC kindOf binds m x = m x
  | [], _, _ => rfl
  | (n, v) :: r, m, h => by
    unfold bindC
    rw [bindC_out fun w hw => h w (List.mem_cons_of_mem _ hw)]
    split
    · rfl
    · have : x ≠ n := by rintro rfl; exact h v List.mem_cons_self
      simp [this]
theorem bindL_get {kindOf : Str → Option NameKind} {x : Str} {v : Value} : ∀ {P : List Str} {vs : List Value} {i : Nat} {m : Str → Option Value}, P.Nodup → P[i]? = some x → vs[i]? = some v → kindOf x = some .local →
    bindL kindOf (P.zip vs) m x = some v
  | [], _, _, _, _, h, _, _ => by simp at h
  | _ :: _, [], _, _, _, _, h, _ => by simp at h
  | p :: P, w :: vs, 0, m, nd, h1, h2, hk => by
    simp at h1 h2; subst h1; subst h2
    show bindL kindOf ((p, w) :: P.zip vs) m p = _
    unfold bindL
    rw [bindL_out fun v hv => (List.nodup_cons.mp nd).1 (List.of_mem_zip hv).1, if_pos hk]
    simp
  | p :: P, w :: vs, i + 1, m, nd, h1, h2, hk => by
    show bindL kindOf ((p, w) :: P.zip vs) m x = _
    unfold bindL
    exact bindL_get (i := i) (List.nodup_cons.mp nd).2 (by simpa using h1) (by simpa using h2) hk
theorem bindC_get {kindOf : Str → Option NameKind} {x : Str} {v : Value} : ∀ {P : List Str} {vs : List Value} {i : Nat} {m : Str → Option Value}, P.Nodup → P[i]? = some x → vs[i]? = some v → kindOf x ≠ some .local →
    bindC kindOf (P.zip vs) m x = some v
  | [], _, _, _, _, h, _, _ => by simp at h
  | _ :: _, [], _, _, _, _, h, _ => by simp at h
  | p :: P, w :: vs, 0, m, nd, h1, h2, hk => by
    simp at h1 h2; subst h1; subst h2
    show bindC kindOf ((p, w) :: P.zip vs) m p = _
    unfold bindC
    rw [bindC_out fun v hv => (List.nodup_cons.mp nd).1 (List.of_mem_zip hv).1, if_neg hk]
    simp
  | p :: P, w :: vs, i + 1, m, nd, h1, h2, hk => by
    show bindC kindOf ((p, w) :: P.zip vs) m x = _
    unfold bindC
    exact bindC_get (i := i) (List.nodup_cons.mp nd).2 (by simpa using h1) (by simpa using h2) hk
def start (N : List Str) (vs : List V) : St := vs.map some ++ List.replicate (N.length - vs.length) none
def cxOf (CX : CXT) (P : Program) (w : World) (K : PySem.W.Frag) (mg : Str → Option Value) (base : Heap) (N : List Str) (qual : Str) (scope : Scope) (f : Addr) (cd : Value) (A : Around) (outer : List Env) (s : Shared) (H : Hp) (E : XK) : Cx where
  prog := P
  w := w
  K := K
  mg := mg
  base := base
  A := A.deeper (envOfC qual scope s.heap.objs.size f cd)
  N := N
  s₀ := s
  H₀ := H
  env := envOfC qual scope s.heap.objs.size f cd
  outer := outer
  stack := envOfC qual scope s.heap.objs.size f cd :: outer
  ex := []
  calm := true
  fn := fun _ => true
  pn := []
  xe := fun e s' => wpAny (model P w) (A.deeper (envOfC qual scope s.heap.objs.size f cd)) (leaving (envOfC qual scope s.heap.objs.size f cd) e) (fun _ s'' => CX outer H s E e s'') (fun e' s'' => CX outer H s E e' s'') s'
theorem cell_has {sc : Scope} {n : Nat} {x : Str} (h : sc.names.lookup x = some .cell) : ∃ c, (cellsFrom n sc.names []).lookup x = some c := by
  have q := PySem.W.cellsFrom_some sc.names n [] (.inl h)
  exact Option.isSome_iff_exists.mp q
theorem inv_start {CX : CXT} {P : Program} {w : World} {K : PySem.W.Frag} {mg : Str → Option Value} {base : Heap} {N ps : List Str} {qual : Str} {scope : Scope} {f : Addr} {cd : Value} {A : Around} {outer : List Env} {s s1 : Shared} {H : Hp} {E : XK} {us : List Value} {vs : List V}
    (S : FnScope N ps scope) (hd : A.handled = none) (e0 : Env0 P w K mg base A outer s H) (hl : vs.length = ps.length) (r : Vals vs us)
    (x : InCallC s s.heap.objs.size (bindL (envOfC qual scope s.heap.objs.size f cd).kindOf (ps.zip us) fun _ => none) (cellsFrom (s.heap.objs.size + 1) scope.names []) (bindC (envOfC qual scope s.heap.objs.size f cd).kindOf (ps.zip us) fun _ => none) s1) :
    Inv (cxOf CX P w K mg base N qual scope f cd A outer s H E) [] (start N vs) H s1 := by
  have hpl : ps.length ≤ N.length := by have := congrArg List.length S.pre; rw [List.length_take] at this; omega
  obtain ⟨h1, tk, rfl, hk⟩ := x.done
  have noA : ∀ b : Addr, b ∉ (cxOf CX P w K mg base N qual scope f cd A outer s H E).ex := fun b z => absurd (show b ∈ ([] : List Addr) from z) (by simp)
  refine ⟨⟨e0.mod, S.kind, rfl, rfl, Nat.le_refl _, fun y z c h1 h2 => ?_, fun y hy => ?_, fun y c _ h => ?_, fun _ => hd, Around.frames_deeper e0.frames, .inr ⟨rfl, rfl⟩, fun b z => absurd z (noA b), e0.bs, e0.bsz, fun b _ _ => noA b, fun b z => absurd z (noA b), e0.funs, e0.frf⟩,
    rfl, e0.bare, Un.kept hk, ⟨_, x.toInCall.ns, fun i y v h1 h2 h3 => ?_⟩, fun y c h => ⟨_, x.cell y c h⟩, e0.hok.fresh (Nat.le_refl _), fun y c h => ?_, fun p hp => absurd (show p ∈ ([] : List (Addr × Obj)) from hp) (by simp), e0.hok.kept hk, ?_⟩
  · exact name_of_addr x.apart (PySem.mem_of_lookup h1) (PySem.mem_of_lookup h2)
  · have hy : scope.names.lookup y = some .cell ∨ scope.names.lookup y = some .free := hy
    rcases hy with hy | hy
    · exact cell_has hy
    · exact absurd rfl (S.nofree _ (PySem.mem_of_lookup hy))
  · exact Nat.le_of_lt (x.above y c (PySem.mem_of_lookup h))
  · have hi : i < vs.length := by
      unfold start at h2
      by_cases hi : i < vs.length
      · exact hi
      · rw [List.getElem?_append_right (by simpa using hi)] at h2
        rw [List.getElem?_replicate] at h2
        split at h2 <;> cases h2
    have ha : vs[i]? = some v := by
      unfold start at h2
      rw [List.getElem?_append_left (by simpa using hi), List.getElem?_map] at h2
      cases e : vs[i]? with
      | none => rw [e] at h2; cases h2
      | some a => rw [e] at h2; cases h2; rfl
    obtain ⟨u, hu, rv⟩ := r.get ha
    have hp : ps[i]? = some y := by
      rw [← S.pre, List.getElem?_take_of_lt (by omega)]; exact h1
    have ndP : ps.Nodup := by rw [← S.pre]; exact S.nd.sublist (List.take_sublist _ _)
    refine ⟨u, rv, ?_⟩
    rcases S.par y (List.mem_of_getElem? hp) with k | k
    · exact .inl ⟨k, bindL_get ndP hp hu k⟩
    · obtain ⟨c, e⟩ := cell_has (n := s.heap.objs.size + 1) k
      refine .inr ⟨.inl k, c, e, ?_⟩
      have q := x.cell y c e
      rw [bindC_get ndP hp hu (by show scope.names.lookup y ≠ _; rw [k]; decide)] at q
      exact q
  · exact e0.hok.fresh (Nat.le_of_lt (x.above y c (PySem.mem_of_lookup h)))
  · unfold start
    show _ = N.length
    rw [List.length_append, List.length_map, List.length_replicate]
    omega
theorem fn_of {CX : CXT} {P : Program} {w : World} {K : PySem.W.Frag} {mg : Str → Option Value} {base : Heap} {k : Nat} {f : Addr} {name qual : Str} {params : Arguments} {body : List Stmt} {scope : Scope} {dV kV doc pm cdv ct oc : Value} {an od : Option Addr}
    {osl : Array (Option Value)} {N ps : List Str} {sp : Sp} (lk : K.lookup f = some ⟨oc, od, .func (PySem.W.fnOf name qual params body scope dV kV doc pm an cdv ct), osl⟩) (hcd : PySem.W.codeIn K cdv qual = true) (S : FnScope N ps scope)
    (len : ∀ vs H Q E, sp vs H Q E → vs.length = ps.length)
    (hbody : ∀ (A : Around) (outer : List Env) (s : Shared) (H : Hp) (vs : List V) (Q : VK) (E : XK), Room k (A.deeper (envOfC qual scope s.heap.objs.size f cdv)) → sp vs H Q E →
      ∃ t, PSs (cxOf CX P w K mg base N qual scope f cdv A outer s H E) body t ∧ t { nx := fun _ H' => Q .non H', rt := Q } (start N vs) H) :
    FnOk P w K mg base CX (k + 1) f (PySem.W.fnOf name qual params body scope dV kV doc pm an cdv ct) ps sp := by
  refine ⟨len, fun A outer s H args us vs Q E hr e0 hb r hsp => ?_⟩
  have hl := len _ _ _ _ hsp
  have KX : K.In s.heap := e0.mod.kin.keeps fun b o e => (e0.bs b o e).1
  have lim : s.heap.NoLimit := e0.mod.nolimit.keeps fun b o e => (e0.bs b o e).1
  have hkind : ∀ y ∈ ps.zip us, scope.names.lookup y.1 = some .local ∨ (scope.names.lookup y.1 = some .cell ∧ ((cellsFrom (s.heap.objs.size + 1) scope.names []).lookup y.1).isSome = true) := fun ⟨n, v⟩ hy => by
    rcases S.par n (List.of_mem_zip hy).1 with q | q
    · exact .inl q
    · exact .inr ⟨q, PySem.W.cellsFrom_some _ _ _ (.inl q)⟩
  refine codeAny_call_function hr.depth (KX _ _ lk) rfl S.co S.gen rfl (PySem.W.codeRec_of KX hcd) (hb _ _ _ _ ?_)
  refine wpAny_newFunctionEnv_cells S.kind hkind fun env he s1 x => ?_
  subst he
  refine ⟨lim.keeps x.toInCall.keep, codeAny_func ?_⟩
  obtain ⟨t, ht, hq⟩ := hbody A outer s H vs Q E (hr.deeper _) hsp
  have I : Inv (cxOf CX P w K mg base N qual scope f cdv A outer s H E) [] (start N vs) H s1 := inv_start S hr.hd e0 hl r x
  refine wpAny_mono (ht [] s1 (start N vs) H _ I hq) (fun fl s' hs => ?_) fun e s' hs => hs
  have fin : ∀ {σ' : St} {H' : Hp} {v : V} {u : Value}, Inv (cxOf CX P w K mg base N qual scope f cdv A outer s H E) [] σ' H' s' → RelV v u → Q v H' → CE outer P w H s Q u s' :=
    fun {σ' H' v u} J rv q => ⟨v, H', J.os, J.bare, J.base, J.hok, rv, q⟩
  cases fl with
  | ret u =>
    obtain ⟨v, σ', H', J, rv, q⟩ := hs
    exact fin J rv q
  | next =>
    obtain ⟨σ', H', J, q⟩ := hs
    exact fin (v := V.non) (u := Value.none) J rfl q
  | brk =>
    obtain ⟨_, _, _, q⟩ := hs
    exact False.elim q
  | cont =>
    obtain ⟨_, _, _, q⟩ := hs
    exact False.elim q
end L2
namespace L2
open PySem PySem.Spec PyProof.Rows
section
variable {X : Cx} {x : Str} {p pos : Pos} {e : Expr} {es : List Expr} {t : TA} {id T : String} {r : List V → Hp → VK → Prop}
def tCB (r : List V → Hp → VK → Prop) (t : TA) : TE := fun σ H Q => t σ H fun vs H1 => r vs H1 Q
theorem pe_callB (hc : CallR X (.builtin id) r) (hg : Gl X x) (hm : X.mg x = none) (hv : bootBuiltins x = some (.builtin id)) (ha : PA X (e :: es) t) (hn : x ≠ "__name__" := by decide) (hdb : (x == ("__debug__" : Str)) = false := by decide)
    (he : starEach (e :: es) X.env = (false, eval e X.env) :: starEach es X.env := by rfl) (hpl : (backTo pos (starEach es X.env)).any (·.1) = false := by rfl) : PE X (.Call (.Name x p) (e :: es) [] pos) (tCB r t) := by
  intro pins s σ H Q I h
  refine wpAny_Call_Name_kw (ld_blt I hg hm hv ?_ hn hdb)
  exact PyProof.Rows.callWith_builtin1 (thn (ha pos pins s σ H _ I h) fun us s1 ⟨vs, H1, I1, r1, q1⟩ => hc pins s1 σ H1 vs us Q I1 r1 q1) he hpl
theorem pe_callTy (hc : CallR X (.type T) r) (hg : Gl X x) (hm : X.mg x = none) (hv : bootBuiltins x = some (.type T)) (ha : PA X (e :: es) t) (hn : x ≠ "__name__" := by decide) (hdb : (x == ("__debug__" : Str)) = false := by decide)
    (he : starEach (e :: es) X.env = (false, eval e X.env) :: starEach es X.env := by rfl) (hpl : (backTo pos (starEach es X.env)).any (·.1) = false := by rfl) : PE X (.Call (.Name x p) (e :: es) [] pos) (tCB r t) := by
  intro pins s σ H Q I h
  refine wpAny_Call_Name_kw (ld_blt I hg hm hv ?_ hn hdb)
  exact PyProof.Rows.callWith_type1 (thn (ha pos pins s σ H _ I h) fun us s1 ⟨vs, H1, I1, r1, q1⟩ => hc pins s1 σ H1 vs us Q I1 r1 q1) he hpl
end
end L2
namespace HT
open PySem PyProof.Rows
def lexLt : List Int → List Int → Bool
  | [], [] => false
  | [], _ :: _ => true
  | _ :: _, [] => false
  | x :: xs, y :: ys => if x = y then lexLt xs ys else decide (x < y)
theorem lexLt_cons (x y : Int) (xs ys : List Int) : lexLt (x :: xs) (y :: ys) = if x = y then lexLt xs ys else decide (x < y) := rfl
theorem lexLt_nil_nil : lexLt [] [] = false := rfl
theorem lexLt_nil_cons (y : Int) (ys : List Int) : lexLt [] (y :: ys) = true := rfl
theorem lexLt_cons_nil (x : Int) (xs : List Int) : lexLt (x :: xs) [] = false := rfl
theorem eqAt_int (A : Around) (s : Shared) (a : Int) (t : Tok) (c : Int) (u : Tok) : ∃ e, SeqAt.EqAt A s (.int a t) (.int c u) e ∧ (e = true ↔ a = c) :=
  ⟨(a == c), SeqAt.EqAt.int_int a t c u, by simp⟩
theorem rcLt_int (A : Around) (s : Shared) (a : Int) (t : Tok) (c : Int) (u : Tok) (prog : Program) (w : World) (E : Value → Shared → Prop) (Q : Value → Shared → Prop) (h : Q (.bool (decide (a < c))) s) :
    wpAny (model prog w) A (richCompare .Lt (.int a t) (.int c u)) Q E s :=
  (PyProof.Rows.lt_int h : wpAny (model prog w) A (compareOp .Lt (.int a t) (.int c u)) Q E s)
section
open PySem.SeqAt
open PySem.AutoSeq1 (wpAny_loadPart')
open PySem.MeetsSeq PySem.MeetsSeq2 PySem.MeetsSeq3
theorem tuple_lt_ints (l b : Addr) (items items2 : Array Value) (n n2 : Nat) (dd dd2 : Option Addr) (sl sl2 : Array (Option Value)) (ns ms : List Int) (hi : IntsAre items.toList ns) (hj : IntsAre items2.toList ms) :
    Meets (Builtin.«tuple.__lt__» ⟨[.ref l, .ref b], []⟩)
      (fun _ R s => s.heap.get? l = some { cls := .type "tuple", dict := dd, data := .seq items n, slots := sl } ∧ s.heap.get? b = some { cls := .type "tuple", dict := dd2, data := .seq items2 n2, slots := sl2 } ∧
        R (.ok (.ret (.bool (lexLt ns ms)))) s) :=
  .of_wp fun prog w A R s h => by
    obtain ⟨hp, g, d, tk, os⟩ := s; obtain ⟨hl, hb, h⟩ := h
    have f2 := AutoSeq1.sub_tuple_tuple
    have z1 : items.size = ns.length := by rw [← hi.length]; simp
    have z2 : items2.size = ms.length := by rw [← hj.length]; simp
    wp_walk using wpAny_loadPart' hl, wpAny_loadPart' hb, wpAny_forIn_list _ (fun rest b s' => b.1 = none ∧ s' = ⟨hp, g, d, tk, os⟩ ∧ ∃ (vs ws : List Value) (ns' ms' : List Int), rest = vs.zip ws ∧
      IntsAre vs ns' ∧ IntsAre ws ms' ∧ ns'.length + items2.size = ms'.length + items.size ∧ R (.ok (.ret (.bool (lexLt ns' ms')))) ⟨hp, g, d, tk, os⟩) _
    case turn =>
      rintro ⟨y, x⟩ rest b s' ⟨hb', rfl, vs, ws, ns', ms', hz, hvi, hwi, hlen, hR⟩
      cases hvi with
      | nil => rw [List.zip_nil_left] at hz; cases hz
      | cons a t hvi' =>
        cases hwi with
        | nil => rw [List.zip_nil_right] at hz; cases hz
        | cons c u hwi' =>
          rw [List.zip_cons_cons] at hz
          injection hz with hyx hrest
          injection hyx with hy hx
          subst hy hx
          rw [lexLt_cons] at hR
          simp only [List.length_cons] at hlen
          obtain ⟨e, he, hiff⟩ := eqAt_int A.in1 ⟨hp, g, d, tk, os⟩ a t c u
          refine wpAny_bind (he prog w _ _ ?_)
          cases e with
          | true =>
            rw [if_pos (hiff.mp rfl)] at hR
            wp_walk
            exact ⟨rfl, rfl, _, _, _, _, hrest, hvi', hwi', by omega, hR⟩
          | false =>
            rw [if_neg (fun q => absurd (hiff.mpr q) Bool.false_ne_true)] at hR
            have hri := rcLt_int A.in1 ⟨hp, g, d, tk, os⟩ a t c u prog w
            wp_walk using hri
            exact ⟨_, rfl, by simpa using hR⟩
    case fin =>
      rintro ⟨b1, b2⟩ s' ⟨hb', rfl, vs, ws, ns', ms', hz, hvi, hwi, hlen, hR⟩
      simp only at hb'
      subst hb'
      have hv : lexLt ns' ms' = decide (items.size < items2.size) := by
        cases hvi with
        | nil =>
          cases hwi with
          | nil =>
            simp only [List.length_nil] at hlen
            rw [lexLt_nil_nil]
            exact (decide_eq_false (by omega)).symm
          | cons c u hw =>
            simp only [List.length_nil, List.length_cons] at hlen
            rw [lexLt_nil_cons]
            exact (decide_eq_true (by omega)).symm
        | cons a t hv =>
          cases hwi with
          | nil =>
            simp only [List.length_nil, List.length_cons] at hlen
            rw [lexLt_cons_nil]
            exact (decide_eq_false (by omega)).symm
          | cons c u hw =>
            rw [List.zip_cons_cons] at hz
            cases hz
      rw [hv] at hR
      wp_walk
      exact ⟨_, rfl, by simpa [Builtin.Tuple.tupleCompareSizes] using hR⟩
    case h =>
      exact ⟨rfl, rfl, items.toList, items2.toList, ns, ms, rfl, hi, hj, by omega, h⟩
end
section
variable {prog : Program} {w : World} {A : Around} {E : Value → Shared → Prop} {s : Shared}
theorem lt_tupInts {l b : Addr} {items items2 : Array Value} {ns ms : List Int} {Q : Value → Shared → Prop} (hl : IsTup s.heap l items) (hb : IsTup s.heap b items2) (hi : IntsAre items.toList ns) (hj : IntsAre items2.toList ms)
    (hu : A.units < cLine) (h : Q (.bool (lexLt ns ms)) s) : wpAny (model prog w) A (compareOp .Lt (.ref l) (.ref b)) Q E s := by
  obtain ⟨⟨cls, dd, data, sl⟩, ho, hc, n, hd⟩ := id hl
  obtain ⟨⟨cls2, dd2, data2, sl2⟩, ho2, hc2, n2, hd2⟩ := id hb
  simp only at hc hd hc2 hd2
  subst hc hd hc2 hd2
  exact richCompare_meets_room (op := .Lt) ⟨_, ho, rfl⟩ ⟨_, ho2, rfl⟩ PySem.F.slot_tuple_lt PySem.F.entry_tuple_lt (PySem.F.args_tuple_lt_2 _ _) (tuple_lt_ints l b items items2 n n2 dd dd2 sl sl2 ns ms hi hj)
    ⟨ho, ho2, show Value.bool (lexLt ns ms) ≠ Value.notImplemented ∧ Q (.bool (lexLt ns ms)) s from ⟨(fun x => nomatch x), h⟩⟩ hu
def sIx (n d : Nat) : Option Int → Nat
  | none => d
  | some v => if v < 0 then (v + (n : Int)).toNat else min v.toNat n
theorem sIx_none (n d : Nat) : sIx n d none = d := rfl
theorem sIx_nat (n d k : Nat) : sIx n d (some (k : Int)) = min k n := by
  show (if (k : Int) < 0 then ((k : Int) + (n : Int)).toNat else min (k : Int).toNat n) = min k n
  rw [if_neg (by omega), Int.toNat_natCast]
end
end HT
namespace L2
open PySem PySem.Spec PyProof.Rows
abbrev TO := St → Hp → (Option Int → Hp → Prop) → Prop
def PO (X : Cx) (e : Option Expr) (t : TO) : Prop :=
  ∀ (pins : List (Addr × Obj)) (s : Shared) (σ : St) (H : Hp) (Q : Option Int → Hp → Prop), Inv X pins σ H s → t σ H Q →
    wpAny (model X.prog X.w) X.A (evalPart e X.env) (fun u s' => ∃ o H', Inv X pins σ H' s' ∧ IsPart u o ∧ Q o H') X.xe s
def tNoPart : TO := fun _ H Q => Q none H
def tPart (t : TE) : TO := fun σ H Q => t σ H fun x H1 => ∃ i, x = .int i ∧ Q (some i) H1
theorem intsAre_of {ns : List Int} : ∀ {us : List Value}, Vals (ns.map V.int) us → IntsAre us ns := by
  induction ns with
  | nil => intro us r; rw [List.map_nil] at r; cases r; exact .nil
  | cons n ns ih =>
    intro us r
    rw [List.map_cons] at r
    cases r with
    | cons r1 r2 =>
      obtain ⟨t, e⟩ := r1
      subst e
      exact .cons n t (ih r2)
section
variable {X : Cx} {e : Expr} {te : TE} {lo hi : Option Expr} {tl th : TO} {pos p2 : Pos}
theorem po_none : PO X none tNoPart := by
  intro pins s σ H Q I h
  rw [evalPart_none]
  exact wpAny_pure ⟨none, H, I, .none, h⟩
theorem po_some (h : PE X e te) : PO X (some e) (tPart te) := by
  intro pins s σ H Q I hw
  rw [evalPart_some]
  refine thn (h pins s σ H _ I hw) fun u s1 ⟨x, H1, I1, r1, q1⟩ => ?_
  obtain ⟨i, rfl, q⟩ := q1
  obtain ⟨t, rfl⟩ := r1
  exact ⟨some i, H1, I1, .int i t, q⟩
def SlR (X : Cx) (r : V → Option Int → Option Int → Hp → VK → Prop) : Prop :=
  ∀ (pins : List (Addr × Obj)) (s : Shared) (σ : St) (H : Hp) (x : V) (v vl vu : Value) (lo hi : Option Int) (sl : Addr) (Q : VK), Inv X pins σ H s → RelV x v → s.heap.IsSliceOf sl vl vu .none → IsPart vl lo → IsPart vu hi → r x lo hi H Q →
    ∃ T id, typeLookup (.type T) "__getitem__" = pure (some (.builtin id)) ∧ s.TypeIs v T ∧ wpAny (model X.prog X.w) X.A (getItem v (.ref sl)) (EP X pins σ Q) X.xe s
def tSl (r : V → Option Int → Option Int → Hp → VK → Prop) (te : TE) (tl th : TO) : TE := fun σ H Q => te σ H fun x H1 => tl σ H1 fun l H2 => th σ H2 fun u H3 => r x l u H3 Q
theorem pe_slice {r : V → Option Int → Option Int → Hp → VK → Prop} (hr : SlR X r) (he : PE X e te) (hl : PO X lo tl) (hu : PO X hi th) : PE X (.Subscript e (.Slice lo hi none p2) pos) (tSl r te tl th) := by
  intro pins s σ H Q I h
  refine Subscript_ (thn (he pins s σ H _ I h) fun v s1 ⟨x, H1, I1, r1, q1⟩ => ?_)
  refine wpAny_Slice (thn (hl pins s1 σ H1 _ I1 q1) fun vl s2 ⟨l, H2, I2, pl, q2⟩ => thn (hu pins s2 σ H2 _ I2 q2) fun vu s3 ⟨u, H3, I3, pu, q3⟩ => ?_)
  rw [evalPart_none]
  refine wpAny_pure ?_
  have I4 : Inv X pins σ H3 { s3 with heap := s3.heap.push { cls := .type "slice", data := .fields #[vl, vu, .none] } } := I3.kept (t' := s3.toks) fun b ob q => Heap.get?_push_of_some _ q
  obtain ⟨T, id, hT, ht, hg⟩ := hr pins { s3 with heap := s3.heap.push { cls := .type "slice", data := .fields #[vl, vu, .none] } } σ H3 x v vl vu l u s3.heap.objs.size Q I4 r1 (Heap.IsSliceOf.new ..) pl pu q3
  show wpAny (model X.prog X.w) X.A (subscriptTail e (.Slice lo hi none p2) v (.ref s3.heap.objs.size)) (EP X pins σ Q) X.xe { s3 with heap := s3.heap.push { cls := .type "slice", data := .fields #[vl, vu, .none] } }
  exact tail_any (ops := [.ref s3.heap.objs.size, v]) ht hT hg (by with_unfolding_all rfl)
def cutV (xs : List V) (lo hi : Option Int) : List V := (xs.drop (HT.sIx xs.length 0 lo)).take (HT.sIx xs.length xs.length hi - HT.sIx xs.length 0 lo)
theorem cutV_length (xs : List V) (lo hi : Option Int) : (cutV xs lo hi).length ≤ xs.length := by
  unfold cutV
  rw [List.length_take, List.length_drop]
  omega
end
end L2
namespace L2
open PySem PySem.Spec PyProof.Rows
def ixN (n : Nat) (i : Int) : Option Nat := if 0 ≤ i then (if i < n then some i.toNat else none) else if -(n : Int) ≤ i then some (i + n).toNat else none
def atI {α : Type} (xs : List α) (i : Int) : Option α := (ixN xs.length i).bind fun j => xs[j]?
theorem ixN_seq {n : Nat} {i : Int} {j : Nat} (h : ixN n i = some j) : seqIndex? i n = some j ∧ j < n ∧ -(n : Int) ≤ i ∧ i < n := by
  unfold ixN at h
  by_cases h0 : 0 ≤ i
  · rw [if_pos h0] at h
    by_cases h1 : i < n
    · rw [if_pos h1] at h
      have e : i.toNat = j := Option.some.inj h
      exact ⟨by rw [seqIndex_of h0 h1, e], by omega, by omega, h1⟩
    · rw [if_neg h1] at h; cases h
  · rw [if_neg h0] at h
    by_cases h1 : -(n : Int) ≤ i
    · rw [if_pos h1] at h
      have e : (i + n).toNat = j := Option.some.inj h
      exact ⟨by rw [seqIndex_neg (by omega) h1, e], by omega, h1, by omega⟩
    · rw [if_neg h1] at h; cases h
theorem atI_get {α : Type} {xs : List α} {i : Int} {v : α} (h : atI xs i = some v) : ∃ j, seqIndex? i xs.length = some j ∧ xs[j]? = some v ∧ j < xs.length ∧ -(xs.length : Int) ≤ i ∧ i < xs.length := by
  unfold atI at h
  cases e : ixN xs.length i with
  | none => rw [e] at h; cases h
  | some j =>
    rw [e] at h
    obtain ⟨h1, h2, h3, h4⟩ := ixN_seq e
    exact ⟨j, h1, h, h2, h3, h4⟩
theorem atI_nat {α : Type} {xs : List α} {j : Nat} {v : α} (h : xs[j]? = some v) : atI xs (j : Int) = some v := by
  have hj : j < xs.length := (List.getElem?_eq_some_iff.mp h).1
  have e : ixN xs.length (j : Int) = some j := by
    unfold ixN
    rw [if_pos (by omega), if_pos (by omega)]; simp
  unfold atI; rw [e]; exact h
theorem atI_last {α : Type} (xs : List α) (v : α) : atI (xs ++ [v]) (-1) = some v := by
  have hl : (xs ++ [v]).length = xs.length + 1 := by simp
  have e : ixN (xs ++ [v]).length (-1) = some xs.length := by
    unfold ixN
    rw [hl, if_neg (by decide), if_pos (by omega)]
    congr 1
    omega
  unfold atI
  rw [e]
  show (xs ++ [v])[xs.length]? = some v
  simp
def PlainIx (b : Expr) : Prop := ∀ o i, subscripted b false o i = operate [o, i] (getItem o i)
def IxR (X : Cx) (r : R2) : Prop :=
  ∀ (value slice : Expr) (pins : List (Addr × Obj)) (s : Shared) (σ : St) (H : Hp) (x y : V) (v u : Value) (Q : VK), Inv X pins σ H s → RelV x v → RelV y u → r x y H Q →
    subscripted slice false v u = operate [v, u] (getItem v u) → wpAny (model X.prog X.w) X.A (subscriptTail value slice v u) (EP X pins σ Q) X.xe s
def MtR (X : Cx) (id : String) (r : V → List V → Hp → VK → Prop) : Prop :=
  ∀ (pins : List (Addr × Obj)) (s : Shared) (σ : St) (H : Hp) (x : V) (xs : List V) (v : Value) (us : List Value) (Q : VK), Inv X pins σ H s → RelV x v → Vals xs us → r x xs H Q →
    wpAny (model X.prog X.w) X.A (call (.builtin id) (v :: us)) (EP X pins σ Q) X.xe s
section
variable {X : Cx} {a b : Expr} {ta tb : TE} {pos : Pos}
theorem pe_ix {r : R2} (hr : IxR X r) (ha : PE X a ta) (hb : PE X b tb) (hs : PlainIx b) : PE X (.Subscript a b pos) (tOp r ta tb) := by
  intro pins s σ H Q I h
  exact Subscript_ (binT ha hb I h fun v u s2 x y H2 I2 rx ry q => hr a b pins s2 σ H2 x y v u Q I2 rx ry q (hs _ _))
def rIxL (K : PySem.W.Frag) : R2 := fun x y H Q => ∃ p xs i v, x = .ref p ∧ y = .int i ∧ SqL K H p xs ∧ atI xs i = some v ∧ Q v H
def rIxT (K : PySem.W.Frag) : R2 := fun x y H Q => ∃ p xs i v, x = .ref p ∧ y = .int i ∧ SqT K H p xs ∧ atI xs i = some v ∧ Q v H
theorem ix_list : IxR X (rIxL X.K) := by
  intro value slice pins s σ H x y v u Q I rx ry h hs
  obtain ⟨p, xs, i, z, rfl, rfl, hq, he, q⟩ := h
  cases rx
  obtain ⟨t, rfl⟩ := ry
  obtain ⟨its, r, pl, hz⟩ := I.list hq
  obtain ⟨j, h1, h2, h3, h4, h5⟩ := atI_get he
  obtain ⟨w, ew, rw'⟩ := r.get h2
  have hl := r.length
  have hn := line63
  have fin : EP X pins σ Q w s := ⟨z, H, I, rw', q⟩
  by_cases h0 : 0 ≤ i
  · have hj : i.toNat = j := by
      rw [seqIndex_of h0 h5] at h1
      exact Option.some.inj h1
    exact item_listR pl.isList h0 (by omega) (by rw [hj]; simpa using ew) fin hs
  · have hj : (i + (its.toArray.size : Int)).toNat = j := by
      rw [seqIndex_neg (by omega) h4] at h1
      rw [List.size_toArray, ← hl]
      exact Option.some.inj h1
    exact subscriptTail_builtinR (x := w) pl.isList.typeIs slot_list_getitem.lookup
      (wpAny_getItem_list_neg (Q := fun r s' => r = w ∧ EP X pins σ Q r s') pl.isList (by omega) (by rw [List.size_toArray] <;> omega) (by omega) (by rw [hj]; simpa using ew) ⟨rfl, fin⟩) hs
theorem ix_tup : IxR X (rIxT X.K) := by
  intro value slice pins s σ H x y v u Q I rx ry h hs
  obtain ⟨p, xs, i, z, rfl, rfl, hq, he, q⟩ := h
  cases rx
  obtain ⟨t, rfl⟩ := ry
  obtain ⟨its, r, pl, hz⟩ := I.tuple hq
  obtain ⟨j, h1, h2, h3, h4, h5⟩ := atI_get he
  obtain ⟨w, ew, rw'⟩ := r.get h2
  have hl := r.length
  have hn := line63
  have fin : EP X pins σ Q w s := ⟨z, H, I, rw', q⟩
  exact subscriptTail_builtinR (x := w) pl.typeIs slot_tuple_getitem.lookup
    (getItem_tuple (j := j) (Q := fun r s' => r = w ∧ EP X pins σ Q r s') pl (by omega) (by omega) (by rw [List.size_toArray, ← hl]; exact h1) (by simpa using ew) ⟨rfl, fin⟩) hs
theorem slice_bounds (lo hi : Option Int) (n : Nat) : (sliceBounds lo hi none n).1 = ((HT.sIx n 0 lo : Nat) : Int) ∧ (sliceBounds lo hi none n).2.1 = ((HT.sIx n n hi : Nat) : Int) ∧ (sliceBounds lo hi none n).2.2 = 1 := by
  refine ⟨?_, ?_, rfl⟩
  · cases lo with
    | none => simp [sliceBounds, HT.sIx]
    | some i =>
      simp only [sliceBounds, HT.sIx, Option.getD_none, show (1 : Int) > 0 by decide, if_true]
      by_cases h : i < 0
      · simp only [h, if_true] <;> omega
      · simp only [h, if_false] <;> omega
  · cases hi with
    | none => simp [sliceBounds, HT.sIx]
    | some i =>
      simp only [sliceBounds, HT.sIx, Option.getD_none, show (1 : Int) > 0 by decide, if_true]
      by_cases h : i < 0
      · simp only [h, if_true] <;> omega
      · simp only [h, if_false] <;> omega
theorem slicePick_cut (its : List Value) (lo hi : Option Int) : slicePick its.toArray lo hi none = ((its.drop (HT.sIx its.length 0 lo)).take (HT.sIx its.length its.length hi - HT.sIx its.length 0 lo)).toArray := by
  obtain ⟨h1, h2, h3⟩ := slice_bounds lo hi its.toArray.size
  unfold slicePick
  rw [h1, h2, h3]
  simp only [sliceRange_one, pick_run, List.size_toArray] <;> rfl
def rSlL (K : PySem.W.Frag) : V → Option Int → Option Int → Hp → VK → Prop := fun x lo hi H Q => ∃ a xs, x = .ref a ∧ SqL K H a xs ∧ ∀ p, H p = none → Q (.ref p) (upd H p (.lst (cutV xs lo hi)))
theorem sl_list : SlR X (rSlL X.K) := by
  intro pins s σ H x v vl vu lo hi sl Q I rx hs pl pu h
  obtain ⟨a, xs, rfl, hx, q⟩ := h
  cases rx
  obtain ⟨its, r, ht, hz⟩ := I.list hx
  have hlen := r.length
  refine ⟨"list", _, slot_list_getitem.lookup, ht.isList.typeIs, ?_⟩
  refine wpAny_getItem_list_slice ht.isList hs pl pu .none (by simp) ?_ (by rw [List.size_toArray] <;> omega)
  rw [slicePick_cut, ← hlen]
  refine ⟨.ref s.heap.objs.size, _, I.laid (t' := s.toks) (o := .lst (cutV xs lo hi)) (fun b ob q => Heap.get?_push_of_some _ q) (Nat.le_refl _) ?_, rfl, q _ (I.hok.fresh (Nat.le_refl _))⟩
  exact ⟨Nat.le_trans (cutV_length xs lo hi) hz, _, 0, (r.drop (HT.sIx xs.length 0 lo)).take (HT.sIx xs.length xs.length hi - HT.sIx xs.length 0 lo), Heap.get?_push_size _ rfl⟩
def flatV : V → Bool
  | .non => true
  | .bl _ => true
  | .int _ => true
  | .str _ => true
  | _ => false
def eqV : V → V → Bool
  | .non, .non => true
  | .bl a, .bl b => a == b
  | .bl a, .int b => (if a then 1 else 0) == b
  | .int a, .bl b => a == (if b then 1 else 0)
  | .int a, .int b => a == b
  | .str a, .str b => a == b
  | _, _ => false
theorem eqAt_V {A : Around} {s : Shared} {y x : V} {u v : Value} (ry : RelV y u) (rx : RelV x v) (fy : flatV y = true) (fx : flatV x = true) : SeqAt.EqAt A s u v (eqV y x) := by
  cases y with
  | non =>
    cases ry
    cases x with
    | non => cases rx; exact SeqAt.EqAt.same _
    | bl b => cases rx; exact SeqAt.EqAt.none_bool b
    | int b => obtain ⟨t, rfl⟩ := rx; exact SeqAt.EqAt.none_int b t
    | str b => obtain ⟨t, rfl⟩ := rx; exact SeqAt.EqAt.none_str b t
    | _ => exact absurd (show false = true from fx) Bool.false_ne_true
  | bl a =>
    cases ry
    cases x with
    | non => cases rx; exact SeqAt.EqAt.bool_none a
    | bl b => cases rx; exact SeqAt.EqAt.bool_bool a b
    | int b => obtain ⟨t, rfl⟩ := rx; exact SeqAt.EqAt.bool_int a b t
    | str b => obtain ⟨t, rfl⟩ := rx; exact SeqAt.EqAt.bool_str a b t
    | _ => exact absurd (show false = true from fx) Bool.false_ne_true
  | int a =>
    obtain ⟨t', rfl⟩ := ry
    cases x with
    | non => cases rx; exact SeqAt.EqAt.int_none a t'
    | bl b => cases rx; exact SeqAt.EqAt.int_bool a t' b
    | int b => obtain ⟨t, rfl⟩ := rx; exact SeqAt.EqAt.int_int a t' b t
    | str b => obtain ⟨t, rfl⟩ := rx; exact SeqAt.EqAt.int_str a t' b t
    | _ => exact absurd (show false = true from fx) Bool.false_ne_true
  | str a =>
    obtain ⟨t', rfl⟩ := ry
    cases x with
    | non => cases rx; exact SeqAt.EqAt.str_none a t'
    | bl b => cases rx; exact SeqAt.EqAt.str_bool a t' b
    | int b => obtain ⟨t, rfl⟩ := rx; exact SeqAt.EqAt.str_int a t' b t
    | str b => obtain ⟨t, rfl⟩ := rx; exact SeqAt.EqAt.str_str a t' b t
    | _ => exact absurd (show false = true from fx) Bool.false_ne_true
  | _ => exact absurd (show false = true from fy) Bool.false_ne_true
def eqU (x : V) (u : Value) : Bool := match u with
  | .none => eqV .non x
  | .bool b => eqV (.bl b) x
  | .int i _ => eqV (.int i) x
  | .str z _ => eqV (.str z) x
  | _ => false
theorem eqU_of {x y : V} {u : Value} (r : RelV y u) (f : flatV y = true) : eqU x u = eqV y x := by
  cases y with
  | non => cases r; rfl
  | bl b => cases r; rfl
  | int i => obtain ⟨t, rfl⟩ := r; rfl
  | str z => obtain ⟨t, rfl⟩ := r; rfl
  | _ => exact absurd (show false = true from f) Bool.false_ne_true
theorem any_eqU {x : V} : ∀ {xs : List V} {us : List Value}, Vals xs us → xs.all flatV = true → us.any (eqU x) = xs.any fun y => eqV y x
  | _, _, .nil, _ => rfl
  | y :: xs, u :: us, .cons r t, f => by
    rw [List.all_cons, Bool.and_eq_true] at f
    rw [List.any_cons, List.any_cons, eqU_of r f.1, any_eqU t f.2]
theorem mem_eqAt {A : Around} {s : Shared} {x : V} {v : Value} (rx : RelV x v) (fx : flatV x = true) : ∀ {xs : List V} {us : List Value}, Vals xs us → xs.all flatV = true → ∀ u ∈ us, SeqAt.EqAt A s u v (eqU x u)
  | _, _, .nil, _ => fun u hu => by cases hu
  | y :: xs, u :: us, .cons r t, f => fun u' hu => by
    rw [List.all_cons, Bool.and_eq_true] at f
    rcases List.mem_cons.mp hu with rfl | hu
    · rw [eqU_of r f.1]; exact eqAt_V r rx f.1 fx
    · exact mem_eqAt rx fx t f.2 u' hu
def inV (x : V) (xs : List V) : Bool := xs.any fun y => eqV y x
def rIn (K : PySem.W.Frag) (neg : Bool) : R2 := fun x y H Q => ∃ p xs, y = .ref p ∧ (SqL K H p xs ∨ SqT K H p xs) ∧ flatV x = true ∧ xs.all flatV = true ∧ Q (.bl (if neg then !inV x xs else inV x xs)) H
theorem op_in_seq : OpR X (compareOp .In) (rIn X.K false) := by
  intro pins s σ H x y v u Q I rx ry h
  obtain ⟨p, xs, rfl, hq, fx, fs, q⟩ := h
  cases ry
  rcases hq with hq | hq
  · obtain ⟨its, r, pl, hz⟩ := I.list hq
    refine SeqAt.in_listAt (eqU x) pl.isList (fun w hw => mem_eqAt rx fx r fs w (by simpa using hw)) ⟨.bl _, H, I, rfl, ?_⟩
    rw [show its.toArray.any (eqU x) = its.any (eqU x) by simp, any_eqU r fs]
    exact q
  · obtain ⟨its, r, pl, hz⟩ := I.tuple hq
    refine SeqAt.in_tupleAt (eqU x) pl (fun w hw => mem_eqAt rx fx r fs w (by simpa using hw)) ⟨.bl _, H, I, rfl, ?_⟩
    rw [show its.toArray.any (eqU x) = its.any (eqU x) by simp, any_eqU r fs]
    exact q
theorem op_notIn_seq : OpR X (compareOp .NotIn) (rIn X.K true) := by
  intro pins s σ H x y v u Q I rx ry h
  obtain ⟨p, xs, rfl, hq, fx, fs, q⟩ := h
  cases ry
  rcases hq with hq | hq
  · obtain ⟨its, r, pl, hz⟩ := I.list hq
    refine SeqAt.notIn_listAt (eqU x) pl.isList (fun w hw => mem_eqAt rx fx r fs w (by simpa using hw)) ⟨.bl _, H, I, rfl, ?_⟩
    rw [show its.toArray.any (eqU x) = its.any (eqU x) by simp, any_eqU r fs]
    exact q
  · obtain ⟨its, r, pl, hz⟩ := I.tuple hq
    refine SeqAt.notIn_tupleAt (eqU x) pl (fun w hw => mem_eqAt rx fx r fs w (by simpa using hw)) ⟨.bl _, H, I, rfl, ?_⟩
    rw [show its.toArray.any (eqU x) = its.any (eqU x) by simp, any_eqU r fs]
    exact q
theorem call_len_seq : CallR X (.builtin "len") (fun xs H Q => ∃ p ys, xs = [.ref p] ∧ (SqL X.K H p ys ∨ SqT X.K H p ys) ∧ Q (.int ys.length) H) := by
  intro pins s σ H xs us Q I r h
  obtain ⟨p, ys, rfl, hq, q⟩ := h
  obtain ⟨u, rfl, rx⟩ := vals1 r
  cases rx
  have hn := line63
  rcases hq with hq | hq
  · obtain ⟨its, r', pl, hz⟩ := I.list hq
    have hlen := r'.length
    exact Calls.call_len_list pl.isList (by simp only [List.size_toArray] <;> omega) ⟨.int ys.length, H, I.tok _, ⟨s.toks + 1, by rw [List.size_toArray, hlen]⟩, q⟩
  · obtain ⟨its, r', pl, hz⟩ := I.tuple hq
    have hlen := r'.length
    exact len_tuple pl (by simp only [List.size_toArray] <;> omega) ⟨.int ys.length, H, I.tok _, ⟨s.toks + 1, by rw [List.size_toArray, hlen]⟩, q⟩
theorem call_tuple_of : CallR X (.type "tuple") (fun xs H Q => ∃ p ys, xs = [.ref p] ∧ ((SqL X.K H p ys ∧ ∀ l, H l = none → Q (.ref l) (upd H l (.tup ys))) ∨ (SqT X.K H p ys ∧ Q (.ref p) H))) := by
  intro pins s σ H xs us Q I r h
  obtain ⟨p, ys, rfl, h⟩ := h
  obtain ⟨u, rfl, rx⟩ := vals1 r
  cases rx
  rcases h with ⟨hq, q⟩ | ⟨hq, q⟩
  · obtain ⟨its, r', pl, hz⟩ := I.list hq
    have hlen := r'.length
    refine call_tuple_list pl.isList (fun h' kp => ?_) (by simp only [List.size_toArray] <;> omega)
    have I1 : Inv X pins σ H { s with heap := h' } := I.kept (t' := s.toks) kp
    have I2 : Inv X pins σ (upd H h'.objs.size (.tup ys)) { s with heap := h'.push { cls := .type "tuple", data := .seq its.toArray } } :=
      I1.laid (t' := s.toks) (fun b o e => Heap.get?_push_of_some _ e) (Nat.le_refl _) (show ObjOk X.prog X.w _ _ _ (.tup ys) from ⟨hz, its, r', IsTup.new _ _⟩)
    exact ⟨.ref h'.objs.size, _, I2, rfl, q _ (I1.hok.fresh (Nat.le_refl _))⟩
  · obtain ⟨its, r', pl, hz⟩ := I.tuple hq
    exact call_tuple_same pl ⟨.ref p, H, I, rfl, q⟩
def tyV (K : PySem.W.Frag) (T : String) (x : V) (H : Hp) : Prop := match x with
  | .str _ => T = "str"
  | .int _ => T = "int"
  | .ref p => (T = "list" ∧ ∃ xs, SqL K H p xs) ∨ (T = "tuple" ∧ ∃ o, K.lookup p = some o ∧ o.cls = .type "tuple" ∧ o.dict = none) ∨
      (T = "dict" ∧ ((∃ kvs, H p = some (.dK kvs)) ∨ ∃ kvs, H p = some (.dT kvs))) ∨ (T = "set" ∧ ∃ S n, H p = some (.set S n))
  | _ => False
theorem tyV_is {pins : List (Addr × Obj)} {σ : St} {H : Hp} {s : Shared} {T : String} {x : V} {v : Value} (I : Inv X pins σ H s) (r : RelV x v) (ty : tyV X.K T x H) :
    s.TypeIs v T ∧ ∀ a, v = .ref a → ∃ ob, s.heap.get? a = some ob ∧ ob.dict = none := by
  cases x with
  | str z =>
    obtain ⟨t, rfl⟩ := r
    cases (show T = "str" from ty)
    exact ⟨typeIs_str s z t, fun _ e => nomatch e⟩
  | int i =>
    obtain ⟨t, rfl⟩ := r
    cases (show T = "int" from ty)
    exact ⟨typeIs_int s i t, fun _ e => nomatch e⟩
  | ref p =>
    cases r
    rcases ty with ⟨rfl, xs, hq⟩ | ⟨rfl, o, hk, hc, hd⟩ | ⟨rfl, hk⟩ | ⟨rfl, S, n, hk⟩
    · obtain ⟨its, _, pl, _⟩ := I.list hq
      refine ⟨pl.isList.typeIs, fun a e => ?_⟩
      cases e
      obtain ⟨o, n, e, c, hd, _⟩ := pl
      exact ⟨o, e, hd⟩
    · refine ⟨⟨o, I.kIn p o hk, hc⟩, fun a e => ?_⟩
      cases e
      exact ⟨o, I.kIn _ o hk, hd⟩
    · have z : ∃ o, s.heap.get? p = some o ∧ o.ExactDict := by
        rcases hk with ⟨kvs, hk⟩ | ⟨kvs, hk⟩
        · obtain ⟨_, _, _, _, o, _, _, e, ex, _⟩ := I.hok p _ hk
          exact ⟨o, e, ex⟩
        · obtain ⟨_, _, _, _, o, _, _, e, ex, _⟩ := I.hok p _ hk
          exact ⟨o, e, ex⟩
      obtain ⟨o, e, ex⟩ := z
      refine ⟨⟨o, e, ex.1⟩, fun a e2 => ?_⟩
      cases e2
      exact ⟨o, e, ex.2.1⟩
    · obtain ⟨o, _, _, _, e, ex, _⟩ := I.hok p _ hk
      refine ⟨⟨o, e, ex.1⟩, fun a e2 => ?_⟩
      cases e2
      exact ⟨o, e, ex.2.1⟩
  | _ => exact False.elim ty
def tBM0 (K : PySem.W.Frag) (T : String) (r : V → List V → Hp → VK → Prop) (to : TE) : TE := fun σ H Q => to σ H fun x H1 => tyV K T x H1 ∧ r x [] H1 Q
def tBM (K : PySem.W.Frag) (T : String) (r : V → List V → Hp → VK → Prop) (to : TE) (t : TA) : TE := fun σ H Q => to σ H fun x H1 => tyV K T x H1 ∧ t σ H1 fun xs H2 => r x xs H2 Q
variable {o e : Expr} {es : List Expr} {to : TE} {t : TA} {name : Str} {apos cpos : Pos} {T id : String} {r : V → List V → Hp → VK → Prop}
theorem pe_bm0 (pa : PlainAttrs T) (slot : Slot T name id) (hty : typeOf (.builtin id) = pure (.type "method_descriptor")) (hm : MtR X id r) (ho : PE X o to)
    (hbase : attributeBase o name X.env (eval o X.env) = eval o X.env := by rfl) (hline : (apos.endLine == cpos.line) = true := by rfl) : PE X (.Call (.Attribute o name apos) [] [] cpos) (tBM0 X.K T r to) := by
  intro pins s σ H Q I h
  refine wpAny_Call_method0_late hbase hline (thn (ho pins s σ H _ I h) fun v s1 ⟨x, H1, I1, r1, ty, q1⟩ => ?_)
  obtain ⟨h1, h2⟩ := tyV_is I1 r1 ty
  exact ⟨T, id, pa, slot, hty, h1, h2, Calls.callWith_builtin rfl (PySem.evalArgs_none (hm pins s1 σ H1 x [] v [] Q I1 r1 .nil q1))⟩
theorem pe_bm (pa : PlainAttrs T) (slot : Slot T name id) (hty : typeOf (.builtin id) = pure (.type "method_descriptor")) (hm : MtR X id r) (ho : PE X o to) (ha : PA X (e :: es) t)
    (hbase : attributeBase o name X.env (eval o X.env) = eval o X.env := by rfl)
    (hfew : ((backTo cpos (starEach (e :: es) X.env)).all (fun x => !x.1) && (backToKw cpos (keywordEach [] X.env)).all (fun x => x.1.isSome)
      && decide ((e :: es).length + ([] : List Keyword).length + (if ([] : List Keyword).isEmpty then 0 else 1) < 30)) = true := by rfl)
    (hline : (apos.endLine == cpos.line) = true := by rfl) (hs : starEach (e :: es) X.env = (false, eval e X.env) :: starEach es X.env := by rfl) (hplain : (backTo cpos (starEach es X.env)).any (·.1) = false := by rfl) :
    PE X (.Call (.Attribute o name apos) (e :: es) [] cpos) (tBM X.K T r to t) := by
  intro pins s σ H Q I h
  refine wpAny_Call_method_late hbase hfew hline rfl (thn (ho pins s σ H _ I h) fun v s1 ⟨x, H1, I1, r1, ty, q1⟩ => ?_)
  obtain ⟨h1, h2⟩ := tyV_is I1 r1 ty
  refine ⟨T, id, pa, slot, hty, h1, h2, ?_⟩
  have hA := ha cpos pins s1 σ H1 _ I1 q1
  rw [hs] at hA ⊢
  refine Calls.callWith_builtin (by show (false || (backTo cpos (starEach es X.env)).any (·.1)) = false; rw [hplain] <;> rfl) (Calls.evalArgs_plain ?_)
  exact thn hA fun us s2 ⟨vs, H2, I2, r2, q2⟩ => hm pins s2 σ H2 x vs v us Q I2 r1 r2 q2
end
end L2
namespace L2
open PySem PySem.Spec PyProof.Rows
def MtM (X : Cx) (id : String) (r : V → List V → Hp → VK → Prop) : Prop :=
  ∀ (pins : List (Addr × Obj)) (s : Shared) (σ : St) (H : Hp) (x : V) (xs : List V) (v : Value) (us : List Value) (Q : VK), Inv X pins σ H s → RelV x v → Vals xs us → r x xs H Q →
    wpAny (model X.prog X.w) X.A (call (.builtin id) (v :: us)) (EP X pins σ Q) X.xe s
theorem Vals.one : ∀ {x : V} {us : List Value}, Vals [x] us → ∃ u, us = [u] ∧ RelV x u
  | _, _, .cons r .nil => ⟨_, rfl, r⟩
theorem Vals.zero : ∀ {us : List Value}, Vals [] us → us = []
  | _, .nil => rfl
theorem Vals.dropLast {xs : List V} {us : List Value} (h : Vals xs us) : Vals xs.dropLast us.dropLast := by
  induction h with
  | nil => exact .nil
  | cons r t ih =>
    cases t with
    | nil => exact .nil
    | cons q t' => exact .cons r ih
theorem erase_last {α : Type} (l : List α) : l.eraseIdx (l.length - 1) = l.dropLast := by
  induction l with
  | nil => rfl
  | cons a r ih =>
    cases r with
    | nil => rfl
    | cons b r =>
      have e : (a :: b :: r).length - 1 = ((b :: r).length - 1) + 1 := by
        have h1 : (a :: b :: r).length = r.length + 2 := rfl
        have h2 : (b :: r).length = r.length + 1 := rfl
        omega
      rw [e, List.eraseIdx_cons_succ, ih]
      all_goals rfl
section
variable {X : Cx} {pins : List (Addr × Obj)} {σ : St} {H : Hp} {s : Shared} {l b : Addr} {xs ys zs : List V}
theorem Inv.lset {its its' : List Value} {n : Nat} {f : Array Value → Array Value} {t' : Nat} (I : Inv X pins σ H s) (hH : H l = some (.lst xs))
    (e : s.heap.get? l = some { cls := .type "list", data := .seq its.toArray n }) (hf : f its.toArray = its'.toArray) (hv : Vals ys its') (hz : ys.length ≤ sizeLine) :
    Inv X pins σ (upd H l (.lst ys)) { s with heap := s.heap.update l (Obj.mapSeq f), toks := t' } := by
  have q := PySem.IsL.update e f
  rw [hf] at q
  refine I.write (x := l) (e := l) (by rw [hH]; exact trivial) (.inl rfl) (fun b' u hb hu => (Heap.get?_update_other s.heap (Obj.mapSeq f) (Ne.symm hb)).trans hu) ⟨_, q⟩ ?_
  exact ⟨hz, its', _, hv, q⟩
theorem Inv.lnew {its : List Value} {t' : Nat} (I : Inv X pins σ H s) (hv : Vals ys its) (hz : ys.length ≤ sizeLine) :
    Inv X pins σ (upd H s.heap.objs.size (.lst ys)) { s with heap := s.heap.push { cls := .type "list", data := .seq its.toArray }, toks := t' } :=
  I.laid (fun _ _ q => Heap.get?_push_of_some _ q) (Nat.le_refl _) ⟨hz, its, 0, hv, Heap.get?_push_size _ rfl⟩
theorem Inv.fresh (I : Inv X pins σ H s) : H s.heap.objs.size = none := I.hok.fresh (Nat.le_refl _)
theorem Inv.lstM (I : Inv X pins σ H s) (hH : H l = some (.lst xs)) : xs.length ≤ sizeLine ∧ ∃ (its : List Value) (n : Nat), Vals xs its ∧ xs.length = its.length ∧ s.heap.get? l = some { cls := .type "list", data := .seq its.toArray n } := by
  obtain ⟨z, its, n, r, e⟩ := I.hok l _ hH
  exact ⟨z, its, n, r, r.length, e⟩
theorem notLongL {n : Nat} (h : n ≤ sizeLine) : Builtin.List.listTooLong n = false := by
  unfold Builtin.List.listTooLong
  exact decide_eq_false (by omega)
end
section
variable {X : Cx}
def rAppend : V → List V → Hp → VK → Prop := fun x vs H Q => ∃ l xs y, x = .ref l ∧ vs = [y] ∧ H l = some (.lst xs) ∧ xs.length < sizeLine ∧ Q .non (upd H l (.lst (xs ++ [y])))
theorem mt_append : MtM X "list.append" rAppend := by
  intro pins s σ H x vs v us Q I rx rv h
  obtain ⟨l, xs, y, rfl, rfl, hH, hz, q⟩ := h
  cases rx
  obtain ⟨u, rfl, ru⟩ := rv.one
  obtain ⟨z, its, n, r, hl, e⟩ := I.lstM hH
  refine call_meets F.slot_list_append ⟨_, e, rfl⟩ F.entry_list_append (F.args_list_append_2 _ _) (PySem.list_append l its.toArray n u (by rw [List.size_toArray]; omega)) ⟨e, ?_⟩
  refine ⟨.non, _, I.lset (its' := its ++ [u]) hH e (by simp) (r.append (.cons ru .nil)) ?_, rfl, q⟩
  rw [List.length_append, List.length_singleton]
  omega
def rExtend : V → List V → Hp → VK → Prop := fun x vs H Q => ∃ l b xs zs, x = .ref l ∧ vs = [.ref b] ∧ H l = some (.lst xs) ∧ H b = some (.lst zs) ∧ xs.length + zs.length ≤ sizeLine ∧ Q .non (upd H l (.lst (xs ++ zs)))
theorem mt_extend : MtM X "list.extend" rExtend := by
  intro pins s σ H x vs v us Q I rx rv h
  obtain ⟨l, b, xs, zs, rfl, rfl, hH, hB, hz, q⟩ := h
  cases rx
  obtain ⟨u, rfl, ru⟩ := rv.one
  cases ru
  obtain ⟨z, its, n, r, hl, e⟩ := I.lstM hH
  obtain ⟨z2, its2, n2, r2, hl2, e2⟩ := I.lstM hB
  have hsz : its.toArray.size + its2.toArray.size ≤ sizeLine := by rw [List.size_toArray, List.size_toArray]; omega
  have hlong : ¬ (!its.toArray.isEmpty && Builtin.List.listTooLong (its.toArray.size + its2.toArray.size)) = true := by
    rw [notLongL hsz, Bool.and_false]
    exact Bool.false_ne_true
  refine call_meets F.slot_list_extend ⟨_, e, rfl⟩ F.entry_list_extend (F.args_list_extend_2 _ _)
    (AutoSeq1.list_extend_list_list_0 l its.toArray n b its2.toArray n2 hlong (by rw [List.size_toArray]; omega) (by omega)) ⟨e, e2, ?_⟩
  refine ⟨.non, _, I.lset (its' := its ++ its2) hH e (by simp) (r.append r2) ?_, rfl, q⟩
  rw [List.length_append]
  omega
def rPop : V → List V → Hp → VK → Prop := fun x vs H Q => ∃ l xs y, x = .ref l ∧ vs = [] ∧ H l = some (.lst xs) ∧ xs[xs.length - 1]? = some y ∧ Q y (upd H l (.lst xs.dropLast))
theorem mt_pop : MtM X "list.pop" rPop := by
  intro pins s σ H x vs v us Q I rx rv h
  obtain ⟨l, xs, y, rfl, rfl, hH, hy, q⟩ := h
  cases rx
  have hus := rv.zero
  subst hus
  obtain ⟨z, its, n, r, hl, e⟩ := I.lstM hH
  obtain ⟨u, hu, ru⟩ := r.get hy
  have hy' : its.toArray[its.toArray.size - 1]? = some u := by
    show its.toArray[its.length - 1]? = some u
    rw [← Array.getElem?_toList, ← hl]
    exact hu
  refine call_meets F.slot_list_pop ⟨_, e, rfl⟩ F.entry_list_pop (F.args_list_pop_1 _) (MeetsSeq.list_pop_last l its.toArray n u hy' (by rw [List.size_toArray]; omega)) ⟨e, ?_⟩
  refine ⟨y, _, I.lset (its' := its.dropLast) hH e ?_ r.dropLast ?_, ru, q⟩
  · show its.toArray.eraseIdxIfInBounds (its.toArray.size - 1) = its.dropLast.toArray
    rw [List.size_toArray, List.eraseIdxIfInBounds_toArray, erase_last]
  · rw [List.length_dropLast]
    omega
def rCat : R2 := fun x y H Q => ∃ l b xs zs, x = .ref l ∧ y = .ref b ∧ H l = some (.lst xs) ∧ H b = some (.lst zs) ∧ xs.length + zs.length ≤ sizeLine ∧ ∀ p, H p = none → Q (.ref p) (upd H p (.lst (xs ++ zs)))
theorem op_cat : OpR X (binaryOp .Add) rCat := by
  intro pins s σ H x y v u Q I rx ry h
  obtain ⟨l, b, xs, zs, rfl, rfl, hH, hB, hz, q⟩ := h
  cases rx
  cases ry
  obtain ⟨z, its, n, r, hl, e⟩ := I.lstM hH
  obtain ⟨z2, its2, n2, r2, hl2, e2⟩ := I.lstM hB
  refine PySem.P.add_list e e2 ?_ (by rw [List.size_toArray, List.size_toArray]; omega)
  have ea : its.toArray ++ its2.toArray = (its ++ its2).toArray := by simp
  rw [ea]
  exact ⟨.ref _, _, I.lnew (t' := s.toks) (r.append r2) (by rw [List.length_append]; omega), rfl, q _ I.fresh⟩
end
section
variable {prog : Program} {w : World} {A : Around} {E : Value → Shared → Prop} {s : Shared}
end
section
variable {X : Cx}
end
end L2
namespace L2
open PySem PySem.Spec PyProof.Rows
theorem vals_of_ints : ∀ {us : List Value} {ns : List Int}, IntsAre us ns → Vals (ns.map V.int) us
  | _, _, .nil => by rw [List.map_nil]; exact Paired.nil
  | _, _, .cons n t h => by rw [List.map_cons]; exact Paired.cons (show RelV (V.int n) (Value.int n t) from ⟨t, rfl⟩) (vals_of_ints h)
theorem Vals.bls : ∀ {bs : List Bool} {us : List Value}, Vals (bs.map V.bl) us → us = bs.map Value.bool
  | [], us, h => by
    rw [List.map_nil] at h
    cases h
    rfl
  | b :: bs, us, h => by
    rw [List.map_cons] at h
    cases h with
    | cons r t =>
      cases r
      rw [Vals.bls t, List.map_cons]
theorem Vals.ref1 {a : Addr} {us : List Value} (r : Vals [V.ref a] us) : us = [Value.ref a] := by
  cases r with
  | cons r t =>
    cases t
    cases r
    rfl
section
variable {prog : Program} {w : World} {A : Around} {E : Value → Shared → Prop} {s : Shared} {l : Addr} {its : List Value} {ns : List Int} {Q : Value → Shared → Prop}
end
section
variable {X : Cx}
end
section
variable {X : Cx}
def rIndex (K : PySem.W.Frag) : V → List V → Hp → VK → Prop := fun x xs H Q => ∃ (a : Addr) (ys : List V) (y : V) (j : Nat) (z : V), x = V.ref a ∧ xs = [y] ∧ SqL K H a ys ∧ flatV y = true ∧ ys.all flatV = true ∧ ys[j]? = some z ∧ eqV z y = true ∧
  (∀ (m : Nat) (z' : V), m < j → ys[m]? = some z' → eqV z' y = false) ∧ Q (.int (j : Nat)) H
theorem flat_at {ys : List V} (f : ys.all flatV = true) {j : Nat} {z : V} (h : ys[j]? = some z) : flatV z = true := List.all_eq_true.mp f z (List.mem_of_getElem? h)
theorem mt_index : MtR X "list.index" (rIndex X.K) := by
  intro pins s σ H x xs v us Q I rx rxs h
  obtain ⟨a, ys, y, j, z, rfl, rfl, hs, fy, fys, hz, hzj, hno, q⟩ := h
  cases rx
  cases rxs with
  | cons ry rt =>
    rename_i uy ut
    cases rt
    obtain ⟨its, rv, ⟨⟨cls, dd, data, sl⟩, n, ho, hc, hdn, hd⟩, hlen⟩ := I.list hs
    simp only at hc hd
    subst hc hd
    obtain ⟨u, hu, ru⟩ := rv.get hz
    obtain ⟨hjl, hje⟩ := List.getElem?_eq_some_iff.mp hu
    have hvl := rv.length
    have hj : j < its.toArray.size := by simpa using hjl
    have hsl := sizeLine_eq
    refine call_meets PySem.F.slot_list_index ⟨_, ho, rfl⟩ PySem.F.entry_list_index (PySem.F.args_list_index_2 _ _)
      (SeqAt.list_indexAt a its.toArray n dd sl uy (eqU y) j hj (by omega) ?_ ?_) ⟨ho, fun u' hu' => mem_eqAt ry fy rv fys u' (by simpa using hu'), ?_⟩
    · have e1 : its.toArray[j] = u := by simpa using hje
      rw [e1, eqU_of ru (flat_at fys hz)]
      exact hzj
    · intro m hm hmj
      have hml : m < its.length := by simpa using hm
      have hmy : m < ys.length := by omega
      have hy' : ys[m]? = some ys[m] := List.getElem?_eq_getElem hmy
      obtain ⟨u2, hu2, ru2⟩ := rv.get hy'
      obtain ⟨_, hme⟩ := List.getElem?_eq_some_iff.mp hu2
      have e1 : its.toArray[m] = u2 := by simpa using hme
      rw [e1, eqU_of ru2 (flat_at fys hy')]
      exact hno m _ hmj hy'
    · exact ⟨.int (j : Nat), H, I.tok _, ⟨_, rfl⟩, q⟩
end
section
variable {X : Cx}
end
theorem iter_any {prog : Program} {w : World} {A : Around} {E : Value → Shared → Prop} {s : Shared} {l : Addr} {items : Array Value} {Q : Value → Shared → Prop} (hl : s.heap.IsList l items)
    (h : ∀ s₂ : Shared, s₂ = { s with heap := s.heap.push { cls := .type "list_iterator", data := .fields #[.ref l, .int 0 0] } } →
      (s₂.heap.IsListIter s.heap.objs.size l 0 ∧ s₂.heap.IsList l items) → l ≠ s.heap.objs.size → Q (.ref s.heap.objs.size) s₂) : wpAny (model prog w) A (pyIter (.ref l)) Q E s := by
  have hlt : l < s.heap.objs.size := by obtain ⟨_, e, _⟩ := hl; exact Heap.lt_size e
  exact wpAny_pyIter_list hl (h _ rfl ⟨⟨_, Heap.get?_push_size _ rfl, rfl, rfl⟩, hl.push _⟩ (Nat.ne_of_lt hlt))
theorem truth_bools {prog : Program} {w : World} {A : Around} {bs : List Bool} {its : List Value} (e : its = bs.map Value.bool) :
    TruthOf prog w A (fun i v => its.toArray[i]? = some v) (fun i => bs.getD i false) := fun i v s Q E hv hq => by
  have hv' : its[i]? = some v := by simpa using hv
  rw [e, List.getElem?_map] at hv'
  obtain ⟨b, hb, rfl⟩ := Option.map_eq_some_iff.mp hv'
  have hg : bs.getD i false = b := by rw [List.getD_eq_getElem?_getD, hb] <;> rfl
  have hq' : Q (bs.getD i false) s := hq
  rw [hg] at hq'
  exact wpAny_truthy_bool hq'
theorem any_range : ∀ bs : List Bool, (List.range bs.length).any (fun i => bs.getD i false) = bs.any id
  | [] => rfl
  | b :: bs => by
    rw [List.length_cons, List.range_succ_eq_map, List.any_cons, List.any_map, List.any_cons, ← any_range bs]
    all_goals rfl
theorem all_range : ∀ bs : List Bool, (List.range bs.length).all (fun i => bs.getD i false) = bs.all id
  | [] => rfl
  | b :: bs => by
    rw [List.length_cons, List.range_succ_eq_map, List.all_cons, List.all_map, List.all_cons, ← all_range bs]
    all_goals rfl
section
variable {X : Cx}
def rAll (K : PySem.W.Frag) : List V → Hp → VK → Prop := fun vs H Q => ∃ (a : Addr) (bs : List Bool), vs = [V.ref a] ∧ SqL K H a (bs.map V.bl) ∧ Q (.bl (bs.all id)) H
theorem cr_all (hc : X.calm = true) : CallR X (.builtin "all") (rAll X.K) := by
  intro pins s σ H vs us Q I r h
  obtain ⟨a, bs, rfl, hs, q⟩ := h
  obtain ⟨its, rv, hl, _⟩ := I.list hs
  rw [Vals.ref1 r]
  have hb := rv.bls
  refine call_all_walk (iter_any hl.isList fun s₂ e2 st hne => ?_)
  subst e2
  refine ⟨_, _, _, _, _, _, _, rfl, Walks.list (A := X.A.in1) (I.ok.hd hc) _ a hne its.toArray, st, truth_bools hb, fun h' tk hk => ?_⟩
  refine ⟨.bl _, H, I.kept fun b o eo => hk b o (fun hmem => ?_) (Heap.get?_push_of_some _ eo), ?_, q⟩
  · rcases List.mem_cons.mp hmem with e1 | hmem
    · exact absurd (e1 ▸ Heap.lt_size eo) (Nat.lt_irrefl _)
    · cases hmem
  · show Value.bool _ = Value.bool _
    rw [← all_range, hb, List.size_toArray, List.length_map]
end
mutual
inductive Dp (K : PySem.W.Frag) (H : Hp) : V → PyData → Prop
  | non : Dp K H .non .none
  | bl (b : Bool) : Dp K H (.bl b) (.bool b)
  | int (i : Int) : Dp K H (.int i) (.int i)
  | str (x : Str) : Dp K H (.str x) (.str x)
  | lst {a : Addr} {xs : List V} {ds : List PyData} : SqL K H a xs → DpAll K H xs ds → Dp K H (.ref a) (.list ds)
  | tup {a : Addr} {xs : List V} {ds : List PyData} : SqT K H a xs → DpAll K H xs ds → Dp K H (.ref a) (.tuple ds)
inductive DpAll (K : PySem.W.Frag) (H : Hp) : List V → List PyData → Prop
  | nil : DpAll K H [] []
  | cons {v : V} {vs : List V} {d : PyData} {ds : List PyData} : Dp K H v d → DpAll K H vs ds → DpAll K H (v :: vs) (d :: ds)
end
section
variable {X : Cx} {pins : List (Addr × Obj)} {σ : St} {H : Hp} {s : Shared}
mutual
theorem Dp.reads (I : Inv X pins σ H s) : ∀ (d : PyData) (v : V) (u : Value), Dp X.K H v d → RelV v u → ∃ as, Reads s.heap u d as
  | .none, _, _, h, r => by
    cases h
    cases r
    exact ⟨_, Reads.none⟩
  | .bool b, _, _, h, r => by
    cases h
    cases r
    exact ⟨_, Reads.bool b⟩
  | .int i, _, _, h, r => by
    cases h
    obtain ⟨t, rfl⟩ := r
    exact ⟨_, Reads.int i t⟩
  | .str x, _, _, h, r => by
    cases h
    obtain ⟨t, rfl⟩ := r
    exact ⟨_, Reads.str x t⟩
  | .list ds, _, _, h, r => by
    cases h with
    | lst hs ha =>
      cases r
      obtain ⟨its, rv, ⟨o, n, ho, hc, _, hd⟩, _⟩ := I.list hs
      obtain ⟨as, hr⟩ := Dp.readsAll I ds _ its ha rv
      exact ⟨_, Reads.list ho hc hd hr⟩
  | .tuple ds, _, _, h, r => by
    cases h with
    | tup hs ha =>
      cases r
      obtain ⟨its, rv, ⟨o, ho, hc, n, hd⟩, _⟩ := I.tuple hs
      obtain ⟨as, hr⟩ := Dp.readsAll I ds _ its ha rv
      exact ⟨_, Reads.tuple ho hc hd hr⟩
  | .dict _, _, _, h, _ => by cases h
theorem Dp.readsAll (I : Inv X pins σ H s) : ∀ (ds : List PyData) (vs : List V) (us : List Value), DpAll X.K H vs ds → Vals vs us → ∃ as, ReadsAll s.heap us ds as
  | [], _, _, h, r => by
    cases h
    cases r
    exact ⟨_, ReadsAll.nil⟩
  | d :: ds, _, _, h, r => by
    cases h with
    | cons h1 h2 =>
      cases r with
      | cons r1 r2 =>
        obtain ⟨as, q1⟩ := Dp.reads I d _ _ h1 r1
        obtain ⟨bs, q2⟩ := Dp.readsAll I ds _ _ h2 r2
        exact ⟨_, ReadsAll.cons q1 q2⟩
end
end
section
variable {X : Cx}
def rEqD (K : PySem.W.Frag) : R2 := fun x y H Q => ∃ d e, Dp K H x d ∧ Dp K H y e ∧ SeqAt.shaped d = true ∧ SeqAt.shaped e = true ∧ Q (.bl (PyData.eqv d e)) H
def rNeD (K : PySem.W.Frag) : R2 := fun x y H Q => ∃ d e, Dp K H x d ∧ Dp K H y e ∧ SeqAt.shaped d = true ∧ SeqAt.shaped e = true ∧ Q (.bl (!PyData.eqv d e)) H
theorem op_eqD (hu : X.A.units + 64 < cLine) : OpR X (compareOp .Eq) (rEqD X.K) := by
  intro pins s σ H x y v u Q I rx ry h
  obtain ⟨d, e, hd, he, sd, se, q⟩ := h
  obtain ⟨as, r1⟩ := Dp.reads I d x v hd rx
  obtain ⟨bs, r2⟩ := Dp.reads I e y u he ry
  exact SeqAt.compareEq_shaped r1 r2 sd se hu ⟨.bl _, H, I, rfl, q⟩
theorem op_neD (hu : X.A.units + 64 < cLine) : OpR X (compareOp .NotEq) (rNeD X.K) := by
  intro pins s σ H x y v u Q I rx ry h
  obtain ⟨d, e, hd, he, sd, se, q⟩ := h
  obtain ⟨as, r1⟩ := Dp.reads I d x v hd rx
  obtain ⟨bs, r2⟩ := Dp.reads I e y u he ry
  exact SeqAt.compareNe_shaped r1 r2 sd se hu ⟨.bl _, H, I, rfl, q⟩
end
end L2
namespace L2
open PySem PySem.Spec PyProof.Rows
abbrev CellAt (h : Heap) (c : Addr) (v : Option Value) : Prop := h.IsCell c v
def relS (scope sc : Scope) : Scope :=
  { scope with names := scope.names.map fun (n, k) => if (k == .free && sc.kind == .function && sc.names.lookup n == some .cell) then (n, .cell) else (n, k) }
def cloFrom (cells : List (Str × Addr)) : List (Str × NameKind) → List (Str × Addr) → List (Str × Addr)
  | [], acc => acc
  | (n, k) :: r, acc => if k == .free then cloFrom cells r ((n, (cells.lookup n).getD 0) :: acc) else cloFrom cells r acc
theorem closure_loop (env : Env) (f : Str × NameKind → List (Str × Addr) → Sem (ForInStep (List (Str × Addr))))
    (hf : ∀ n k c, f (n, k) c = if k == .free then (do let a ← cellOf env n; pure (.yield ((n, a) :: c))) else pure (.yield c)) :
    ∀ (names : List (Str × NameKind)) (acc : List (Str × Addr)), (∀ y ∈ names, y.2 = .free → ∃ c, env.cells.lookup y.1 = some c) → forIn names acc f = pure (cloFrom env.cells names acc)
  | [], acc, _ => by rw [List.forIn_nil]; rfl
  | (n, k) :: r, acc, h => by
    rw [List.forIn_cons, hf]
    have ih := fun acc => closure_loop env f hf r acc fun y hy => h y (List.mem_cons_of_mem _ hy)
    unfold cloFrom
    by_cases hk : (k == NameKind.free) = true
    · rw [if_pos hk, if_pos hk]
      obtain ⟨c, hc⟩ := h (n, k) List.mem_cons_self (by simpa using hk)
      have e : cellOf env n = pure c := by unfold cellOf; rw [hc]
      rw [e]
      have e2 : (env.cells.lookup n).getD 0 = c := by rw [hc]; rfl
      rw [e2]
      exact ih _
    · rw [if_neg hk, if_neg hk]
      exact ih _
theorem closure_ok {scope : Scope} {env : Env} (h : ∀ y ∈ scope.names, y.2 = .free → ∃ c, env.cells.lookup y.1 = some c) : closureFor scope env = pure (cloFrom env.cells scope.names []) := by
  simp only [closureFor]
  rw [closure_loop env _ (fun n k c => rfl) scope.names [] h]
  rfl
theorem mem_lookup {α : Type} : ∀ {l : List (Str × α)} {n : Str} {c : α}, (n, c) ∈ l → ∃ c', l.lookup n = some c'
  | (k, v) :: r, n, c, h => by
    rw [List.lookup_cons]
    cases hb : n == k with
    | true => exact ⟨_, rfl⟩
    | false =>
      rcases List.mem_cons.mp h with e | h
      · cases e; simp at hb
      · exact mem_lookup h
theorem cloFrom_mem {cells : List (Str × Addr)} : ∀ {names : List (Str × NameKind)} {acc : List (Str × Addr)} {n : Str} {c : Addr}, (n, c) ∈ cloFrom cells names acc → (n, c) ∈ acc ∨ ((n, .free) ∈ names ∧ c = (cells.lookup n).getD 0)
  | [], _, _, _, h => .inl h
  | (m, k) :: r, acc, n, c, h => by
    unfold cloFrom at h
    split at h
    · rename_i hk
      have hk : k = .free := by simpa using hk
      rcases cloFrom_mem h with h | ⟨h1, h2⟩
      · rcases List.mem_cons.mp h with e | h
        · cases e; exact .inr ⟨hk ▸ List.mem_cons_self, rfl⟩
        · exact .inl h
      · exact .inr ⟨List.mem_cons_of_mem _ h1, h2⟩
    · rcases cloFrom_mem h with h | ⟨h1, h2⟩
      · exact .inl h
      · exact .inr ⟨List.mem_cons_of_mem _ h1, h2⟩
theorem cloFrom_acc {cells : List (Str × Addr)} : ∀ {names : List (Str × NameKind)} {acc : List (Str × Addr)} {p : Str × Addr}, p ∈ acc → p ∈ cloFrom cells names acc
  | [], _, _, h => h
  | (m, k) :: r, acc, p, h => by
    unfold cloFrom
    split
    · exact cloFrom_acc (List.mem_cons_of_mem _ h)
    · exact cloFrom_acc h
theorem cloFrom_has {cells : List (Str × Addr)} : ∀ {names : List (Str × NameKind)} {acc : List (Str × Addr)} {n : Str}, (n, .free) ∈ names → (n, (cells.lookup n).getD 0) ∈ cloFrom cells names acc
  | (m, k) :: r, acc, n, h => by
    unfold cloFrom
    rcases List.mem_cons.mp h with e | h
    · cases e
      exact cloFrom_acc List.mem_cons_self
    · split
      · exact cloFrom_has h
      · exact cloFrom_has h
theorem cells_mem : ∀ {names : List (Str × NameKind)} {h : Heap} {acc : List (Str × Addr)} {x : Str} {c : Addr}, (x, c) ∈ cellsFrom h.objs.size names acc →
    (x, c) ∈ acc ∨ ((x, .cell) ∈ names ∧ h.objs.size ≤ c ∧ CellAt (pushCells h names) c none)
  | [], _, _, _, _, h => .inl h
  | (n, k) :: r, h, acc, x, c, hm => by
    unfold cellsFrom at hm
    unfold pushCells
    split at hm
    · rename_i hk
      rw [if_pos hk]
      have hk : k = .cell := by simpa using hk
      rw [← Heap.size_push h { cls := .type "cell", data := .cell none }] at hm
      rcases cells_mem hm with hm | ⟨h1, h2, h3⟩
      · rcases List.mem_cons.mp hm with e | hm
        · cases e
          exact .inr ⟨hk ▸ List.mem_cons_self, Nat.le_refl _, _, pushCells_keeps r _ _ _ (Heap.get?_push_size _ rfl), rfl⟩
        · exact .inl hm
      · rw [Heap.size_push] at h2
        exact .inr ⟨List.mem_cons_of_mem _ h1, Nat.le_of_succ_le h2, h3⟩
    · rename_i hk
      rw [if_neg hk]
      rcases cells_mem hm with hm | ⟨h1, h2, h3⟩
      · exact .inl hm
      · exact .inr ⟨List.mem_cons_of_mem _ h1, h2, h3⟩
theorem cells_acc : ∀ {names : List (Str × NameKind)} {n : Nat} {acc : List (Str × Addr)} {p : Str × Addr}, p ∈ acc → p ∈ cellsFrom n names acc
  | [], _, _, _, h => h
  | (m, k) :: r, n, acc, p, h => by
    unfold cellsFrom
    split
    · exact cells_acc (List.mem_cons_of_mem _ h)
    · exact cells_acc h
theorem cells_has : ∀ {names : List (Str × NameKind)} {n : Nat} {acc : List (Str × Addr)} {x : Str}, (x, .cell) ∈ names → ∃ c, (x, c) ∈ cellsFrom n names acc
  | (m, k) :: r, n, acc, x, h => by
    unfold cellsFrom
    rcases List.mem_cons.mp h with e | h
    · cases e
      exact ⟨n, cells_acc List.mem_cons_self⟩
    · split
      · exact cells_has h
      · exact cells_has h
theorem cells_inj : ∀ {names : List (Str × NameKind)} {h : Heap} {acc : List (Str × Addr)} {x y : Str} {c : Addr}, (∀ p ∈ acc, p.2 < h.objs.size) → (∀ x y c, (x, c) ∈ acc → (y, c) ∈ acc → x = y) →
    (x, c) ∈ cellsFrom h.objs.size names acc → (y, c) ∈ cellsFrom h.objs.size names acc → x = y
  | [], _, _, _, _, _, _, hi, h1, h2 => hi _ _ _ h1 h2
  | (n, k) :: r, h, acc, x, y, c, hl, hi, h1, h2 => by
    unfold cellsFrom at h1 h2
    split at h1
    · rename_i hk
      rw [if_pos hk] at h2
      rw [← Heap.size_push h { cls := .type "cell", data := .cell none }] at h1 h2
      refine cells_inj (h := h.push _) (fun p hp => ?_) (fun x y c a b => ?_) h1 h2
      · rw [Heap.size_push]
        rcases List.mem_cons.mp hp with rfl | hp
        · exact Nat.lt_succ_self _
        · exact Nat.lt_succ_of_lt (hl p hp)
      · rcases List.mem_cons.mp a with e | a <;> rcases List.mem_cons.mp b with e' | b
        · cases e; cases e'; rfl
        · cases e; exact absurd (hl _ b) (Nat.lt_irrefl _)
        · cases e'; exact absurd (hl _ a) (Nat.lt_irrefl _)
        · exact hi _ _ _ a b
    · rename_i hk
      rw [if_neg hk] at h2
      exact cells_inj hl hi h1 h2
theorem newEnv_comp {M : Model} {A : Around} {E : Value → Shared → Prop} {s : Shared} {scope : Scope} {globals : Addr} {closure : List (Str × Addr)} {qual : Str} {func : Option Addr} {code : Value} {around : Env} {builtins : Addr} {Q : Env → Shared → Prop}
    (h : Q (newEnv scope s.heap.objs.size globals (cellsFrom (s.heap.objs.size + 1) scope.names closure) qual func code (some around) builtins)
      { s with heap := pushCells (s.heap.push { cls := .type "dict", data := .dict #[] }) scope.names }) :
    wpAny M A (newFunctionEnv scope globals closure [] qual func code (some around) builtins) Q E s := by
  simp only [newFunctionEnv, Option.isSome_some, if_true]
  refine wpAny_bind (wpAny_alloc ?_)
  refine wpAny_bind (wpAny_layCells _ (fun n k c => rfl) scope.names closure _ _ ?_)
  rw [show ({ s with heap := s.heap.push { cls := .type "dict", data := .dict #[] } } : Shared).heap.objs.size = s.heap.objs.size + 1 from Heap.size_push ..]
  rw [List.forIn_nil]
  exact wpAny_bind (wpAny_pure (wpAny_pure h))
theorem lookup_relS {sc : Scope} : ∀ {names : List (Str × NameKind)} {x : Str} {k : NameKind},
    (names.map fun (n, k) => if (k == NameKind.free && sc.kind == .function && sc.names.lookup n == some .cell) then (n, NameKind.cell) else (n, k)).lookup x = some k →
    ∃ k', names.lookup x = some k' ∧ (k = k' ∨ (k' = .free ∧ k = .cell))
  | [], _, _, h => by simp at h
  | (n, k₀) :: r, x, k, h => by
    have ih := @lookup_relS sc r x k
    have h' : List.lookup x ((if (k₀ == NameKind.free && sc.kind == .function && sc.names.lookup n == some .cell) = true then (n, NameKind.cell) else (n, k₀)) :: (r.map _)) = some k := h
    cases hx : x == n with
    | true =>
      simp only [List.lookup_cons, hx]
      by_cases hc : (k₀ == NameKind.free && sc.kind == .function && sc.names.lookup n == some .cell) = true
      · rw [if_pos hc] at h'
        simp only [List.lookup_cons, hx] at h'
        cases h'
        simp only [Bool.and_eq_true, beq_iff_eq] at hc
        exact ⟨k₀, rfl, .inr ⟨hc.1.1, rfl⟩⟩
      · rw [if_neg hc] at h'
        simp only [List.lookup_cons, hx] at h'
        cases h'
        exact ⟨_, rfl, .inl rfl⟩
    | false =>
      simp only [List.lookup_cons, hx]
      by_cases hc : (k₀ == NameKind.free && sc.kind == .function && sc.names.lookup n == some .cell) = true
      · rw [if_pos hc] at h'
        simp only [List.lookup_cons, hx] at h'
        exact ih h'
      · rw [if_neg hc] at h'
        simp only [List.lookup_cons, hx] at h'
        exact ih h'
structure BlkOk (N : List Str) (sc scope : Scope) (own : List (Str × Nat)) : Prop where
  kind : scope.kind = .function
  uniq : ∀ y ∈ scope.names, scope.names.lookup y.1 = some y.2
  ix : ∀ p ∈ own, N[p.2]? = some p.1
  free : ∀ y ∈ scope.names, y.2 = .free → sc.names.lookup y.1 = some .cell ∨ sc.names.lookup y.1 = some .free
  own : ∀ y ∈ scope.names, y.2 = .local ∨ y.2 = .cell → y.1 ∈ own.map (·.1) ∨ y.1 ∉ N
def wipe (σ : St) : List Nat → St
  | [] => σ
  | v :: vs => (wipe σ vs).set v none
theorem wipe_length (σ : St) : ∀ vs : List Nat, (wipe σ vs).length = σ.length
  | [] => rfl
  | v :: vs => by unfold wipe; rw [List.length_set, wipe_length σ vs]
theorem wipe_some {σ : St} {i : Nat} {x : V} : ∀ {vs : List Nat}, (wipe σ vs)[i]? = some (some x) → σ[i]? = some (some x) ∧ i ∉ vs
  | [], h => ⟨h, by simp⟩
  | v :: vs, h => by
    unfold wipe at h
    by_cases hi : v = i
    · subst hi
      by_cases hv : v < (wipe σ vs).length
      · rw [List.getElem?_set_self hv] at h; cases h
      · rw [List.getElem?_eq_none (by simpa using hv)] at h; cases h
    · rw [List.getElem?_set_ne hi] at h
      obtain ⟨h1, h2⟩ := wipe_some h
      exact ⟨h1, by simp only [List.mem_cons, not_or]; exact ⟨fun e => hi e.symm, h2⟩⟩
abbrev Cx.blk (X : Cx) (s : Shared) (H : Hp) (scope : Scope) (cenv : Env) (fp : List Addr) : Cx := { X with s₀ := s, H₀ := H, env := cenv, outer := X.stack, ex := fp, fn := fun x => scope.names.lookup x == some .cell, pn := [], xe := fun _ _ => False }
section
variable {X : Cx} {pins : List (Addr × Obj)} {σ : St} {H : Hp} {s : Shared}
theorem block_start {scope : Scope} {own : List (Str × Nat)} {fp : List Addr} (I : Inv X pins σ H s) (ok : BlkOk X.N X.env.scope scope own) (hN : X.N.Nodup) (hfp : ∀ b ∈ fp, FpOk X pins H b ∧ b < s.heap.objs.size) :
    Inv (X.blk s H scope (compEnvC scope (cellsFrom (s.heap.objs.size + 1) scope.names (cloFrom X.env.cells scope.names [])) s.heap.objs.size X.env) fp) [] (wipe σ (own.map (·.2))) H { s with heap := pushCells (s.heap.push { cls := .type "dict", data := .dict #[] }) scope.names } := by
  have hfree : ∀ y ∈ scope.names, y.2 = .free → ∃ c, X.env.cells.lookup y.1 = some c := fun y hy e => by
    rcases ok.free y hy e with k | k
    · exact I.ok.has _ (.inl k)
    · exact I.ok.has _ (.inr k)
  generalize hcenv : compEnvC scope (cellsFrom (s.heap.objs.size + 1) scope.names (cloFrom X.env.cells scope.names [])) s.heap.objs.size X.env = cenv
  have kp : ∀ b o, s.heap.get? b = some o → (pushCells (s.heap.push { cls := .type "dict", data := .dict #[] }) scope.names).get? b = some o := fun b o e => pushCells_keeps _ _ _ _ (Heap.get?_push_of_some _ e)
  have hL : cenv.locals = s.heap.objs.size := by rw [← hcenv]; rfl
  have hcl : cenv.cells = cellsFrom (s.heap.objs.size + 1) scope.names (cloFrom X.env.cells scope.names []) := by rw [← hcenv]; rfl
  have hsc : cenv.scope = relS scope X.env.scope := by rw [← hcenv]; rfl
  rw [← Heap.size_push s.heap { cls := .type "dict", data := .dict #[] }] at hcl
  have cm : ∀ {y c}, (y, c) ∈ cloFrom X.env.cells scope.names [] → X.env.cells.lookup y = some c ∧ c < s.heap.objs.size := fun {y c} hm => by
    rcases cloFrom_mem hm with hm | ⟨h1, rfl⟩
    · cases hm
    · obtain ⟨c, hc⟩ := hfree _ h1 rfl
      rw [hc]
      obtain ⟨w, z⟩ := I.cell _ _ hc
      exact ⟨rfl, z.lt⟩
  have mem : ∀ {y c}, cenv.cells.lookup y = some c → (X.env.cells.lookup y = some c ∧ c < s.heap.objs.size) ∨ (s.heap.objs.size + 1 ≤ c ∧ CellAt (pushCells (s.heap.push { cls := .type "dict", data := .dict #[] }) scope.names) c none) := fun {y c} e => by
    rw [hcl] at e
    rcases cells_mem (PySem.mem_of_lookup e) with hm | ⟨_, h2, h3⟩
    · exact .inl (cm hm)
    · rw [Heap.size_push] at h2; exact .inr ⟨h2, h3⟩
  have look : ∀ {y}, scope.names.lookup y = some .free → ∃ c, cenv.cells.lookup y = some c ∧ X.env.cells.lookup y = some c := fun {y} hl => by
    have hy : (y, NameKind.free) ∈ scope.names := PySem.mem_of_lookup hl
    obtain ⟨c', e'⟩ := mem_lookup (cells_acc (names := scope.names) (n := (s.heap.push { cls := .type "dict", data := .dict #[] }).objs.size) (cloFrom_has (cells := X.env.cells) (acc := []) hy))
    rw [← hcl] at e'
    refine ⟨c', e', ?_⟩
    rw [hcl] at e'
    rcases cells_mem (PySem.mem_of_lookup e') with hm | ⟨h1, _, _⟩
    · exact (cm hm).1
    · have := ok.uniq _ h1
      rw [hl] at this; cases this
  have okB : (X.blk s H scope cenv fp).Ok := by
    refine ⟨I.ok.mod, by show cenv.scope.kind = _; rw [hsc]; exact ok.kind, by show cenv.globals = _; rw [← hcenv]; exact I.ok.glob, by show cenv.builtins = _; rw [← hcenv]; exact I.ok.blt, by show s.heap.objs.size ≤ cenv.locals; rw [hL]; exact Nat.le_refl _,
      fun y z c e1 e2 => ?_, fun y hy => ?_, fun y c z e => ?_, I.ok.hd, I.ok.frames, .inl rfl, fun b hb => ⟨?_, fun y c e z => ?_⟩, I.bs, Nat.le_trans I.ok.bsz I.sz, fun b o e hb => ?_, fun b hb z => ?_, I.stack, I.stkFree⟩
    · have e1 : cenv.cells.lookup y = some c := e1
      have e2 : cenv.cells.lookup z = some c := e2
      rw [hcl] at e1 e2
      refine cells_inj (fun p hp => ?_) (fun y z c a b => I.ok.inj y z c (cm a).1 (cm b).1) (PySem.mem_of_lookup e1) (PySem.mem_of_lookup e2)
      rw [Heap.size_push]
      exact Nat.lt_succ_of_lt (cm (y := p.1) (c := p.2) hp).2
    · show ∃ c, cenv.cells.lookup y = some c
      have key : ∀ k, cenv.kindOf y = some k → (k = .cell ∨ k = .free) → ∃ c, cenv.cells.lookup y = some c := fun k hk hk' => by
        unfold Env.kindOf at hk
        rw [hsc] at hk
        obtain ⟨k', e, r⟩ := lookup_relS hk
        have : k' = .cell ∨ k' = .free := by
          rcases r with rfl | ⟨rfl, _⟩
          · exact hk'
          · exact .inr rfl
        rcases this with rfl | rfl
        · obtain ⟨c, hm⟩ := cells_has (n := (s.heap.push { cls := .type "dict", data := .dict #[] }).objs.size) (acc := cloFrom X.env.cells scope.names []) (PySem.mem_of_lookup e)
          obtain ⟨c', e'⟩ := mem_lookup hm
          exact ⟨c', by rw [hcl]; exact e'⟩
        · obtain ⟨c, h1, _⟩ := look e
          exact ⟨c, h1⟩
      rcases hy with hy | hy
      · exact key _ hy (.inl rfl)
      · exact key _ hy (.inr rfl)
    · have z : (scope.names.lookup y == some NameKind.cell) = true := z
      have z : scope.names.lookup y = some .cell := by simpa using z
      have e : cenv.cells.lookup y = some c := e
      rw [hcl] at e
      rcases cells_mem (PySem.mem_of_lookup e) with hm | ⟨_, h2, _⟩
      · rcases cloFrom_mem hm with hm | ⟨h1, _⟩
        · cases hm
        · have q := ok.uniq _ h1
          rw [z] at q; cases q
      · rw [Heap.size_push] at h2
        exact Nat.le_of_succ_le h2
    · show b ≠ cenv.locals
      rw [hL]; exact Nat.ne_of_lt (hfp b hb).2
    · have e : cenv.cells.lookup y = some c := e
      rcases mem e with ⟨h1, _⟩ | ⟨h1, _⟩
      · exact (hfp b hb).1.2.2.2.2.1 y c h1 z
      · have h2 : s.heap.objs.size + 1 ≤ b := by rw [← z]; exact h1
        exact absurd (Nat.lt_of_lt_of_le (hfp b hb).2 (Nat.le_of_succ_le h2)) (Nat.lt_irrefl _)
    · rcases (hfp b hb).1.2.2.2.1 with z | z
      · exact I.ok.noex b o e z
      · exact absurd (Nat.lt_of_lt_of_le (Heap.lt_size e) (Nat.le_trans I.ok.bsz z)) (Nat.lt_irrefl _)
    · rcases List.mem_cons.mp (I.stkSub b z) with z | z
      · exact (hfp b hb).1.2.1 z
      · exact (hfp b hb).1.2.2.1 z
  refine ⟨okB, rfl, I.bare, Un.kept kp, ⟨fun _ => none, ?_, fun i y av e1 e2 e3 => ?_⟩, fun y c e => ?_, ?_, fun y c e => ?_, fun p hp => ?_, I.hok.kept kp, by rw [wipe_length]; exact I.len⟩
  · show Heap.Ns _ cenv.locals _
    rw [hL]
    exact Heap.Ns.keeps (Heap.Ns.new ..) fun b o e => pushCells_keeps _ _ _ _ e
  · obtain ⟨e2, hne⟩ := wipe_some e2
    have hfr : scope.names.lookup y = some .free ∧ (cenv.kindOf y = some .cell ∨ cenv.kindOf y = some .free) := by
      have key : ∀ k, cenv.scope.names.lookup y = some k → k = .local ∨ k = .cell ∨ k = .free → scope.names.lookup y = some .free ∧ (cenv.kindOf y = some .cell ∨ cenv.kindOf y = some .free) := fun k hk hk' => by
        have hk0 := hk
        rw [hsc] at hk
        obtain ⟨k', e, r⟩ := lookup_relS hk
        have no : ¬ (k' = .local ∨ k' = .cell) := fun hh => by
          rcases ok.own _ (PySem.mem_of_lookup e) hh with e' | e'
          · obtain ⟨p, hp, hpy⟩ := List.mem_map.mp e'
            have e3 := ok.ix p hp
            have : p.1 = y := hpy
            rw [this] at e3
            exact hne (List.mem_map.mpr ⟨p, hp, nodup_ix hN e3 e1⟩)
          · exact e' (List.mem_of_getElem? e1)
        rcases r with rfl | ⟨rfl, rfl⟩
        · rcases hk' with rfl | rfl | rfl
          · exact absurd (.inl rfl) no
          · exact absurd (.inr rfl) no
          · exact ⟨e, .inr hk0⟩
        · exact ⟨e, .inl hk0⟩
      have e3 : Vis cenv.scope y := e3
      rcases e3 with e3 | e3 | e3
      · exact key _ e3 (.inl rfl)
      · exact key _ e3 (.inr (.inl rfl))
      · exact key _ e3 (.inr (.inr rfl))
    obtain ⟨m, hn, hl⟩ := I.loc
    have hvis : Vis X.env.scope y := (ok.free _ (PySem.mem_of_lookup hfr.1) rfl).elim (fun k => .inr (.inl k)) (fun k => .inr (.inr k))
    obtain ⟨w, r, q⟩ := hl i y av e1 e2 hvis
    refine ⟨w, r, .inr ⟨hfr.2, ?_⟩⟩
    obtain ⟨c, h1, h2⟩ := look hfr.1
    rcases q with ⟨k, _⟩ | ⟨_, c', e', z⟩
    · have k : X.env.scope.names.lookup y = some .local := k
      rcases ok.free _ (PySem.mem_of_lookup hfr.1) rfl with k' | k' <;> rw [show X.env.scope.names.lookup y = _ from k'] at k <;> cases k
    · rw [h2] at e'; cases e'
      exact ⟨c, h1, z.keeps kp⟩
  · have e : cenv.cells.lookup y = some c := e
    rcases mem e with ⟨h1, _⟩ | ⟨_, z⟩
    · obtain ⟨w, z⟩ := I.cell y c h1
      exact ⟨w, z.keeps kp⟩
    · exact ⟨_, z⟩
  · show H cenv.locals = none
    rw [hL]; exact I.hok.fresh (Nat.le_refl _)
  · have e : cenv.cells.lookup y = some c := e
    rcases mem e with ⟨h1, _⟩ | ⟨h1, _⟩
    · exact I.freeC y c h1
    · exact I.hok.fresh (Nat.le_of_succ_le h1)
  · exact absurd (show p ∈ ([] : List (Addr × Obj)) ++ [] from hp) (by simp)
theorem app_ok {E : Value → Shared → Prop} {D : Addr} {xs : List V} {y : V} {v : Value} {Q : Value → Shared → Prop} (I : Inv X pins σ H s) (hD : H D = some (.lst xs)) (hz : xs.length < sizeLine) (r : RelV y v)
    (h : ∀ s', Inv X pins σ (upd H D (.lst (xs ++ [y]))) s' → Q .none s') : wpAny (model X.prog X.w) X.A (call (.builtin "list.append") [.ref D, v]) Q E s := by
  obtain ⟨hz', its, n, ri, e⟩ := I.hok D _ hD
  have hl := ri.length
  refine append_at (hsz := by rw [List.size_toArray]; omega) e fun h' sb ho' => ?_
  refine h { s with heap := h' } (I.write (t' := s.toks) (by rw [hD]; trivial) (.inl rfl) (fun b u hb q => (sb.2 b hb).trans q) ⟨_, ho'⟩ ⟨by rw [List.length_append]; exact hz, its ++ [v], n + 1, ri.append (.cons r .nil), ?_⟩)
  rw [ho']
  simp
def PTs (X : Cx) (ifs : List Expr) (t : TT) : Prop :=
  ∀ (pins : List (Addr × Obj)) (s : Shared) (σ : St) (H : Hp) (Q : Bool → Hp → Prop), Inv X pins σ H s → t σ H Q →
    wpAny (model X.prog X.w) X.A (forIn ifs true fun c r => if r = true then do let ok ← isTrue c X.env (eval c X.env); pure (ForInStep.yield ok) else pure (ForInStep.yield r)) (TP X pins σ Q) X.xe s
def tYes : TT := fun _ H Q => Q true H
theorem pts_nil : PTs X [] tYes := fun _ _ _ H _ I h => wpAny_tests_nil ⟨H, I, h⟩
end
theorem thnF {α : Type} {t : Sem α} {Q Q' : α → Shared → Prop} {M : Model} {A : Around} {E : Value → Shared → Prop} {s : Shared} (h : wpAny M A t Q (fun _ _ => False) s) (hQ : ∀ a s, Q a s → Q' a s) : wpAny M A t Q' E s := wpAny_mono h hQ fun _ _ z => False.elim z
theorem compLoop_any {prog : Program} {w : World} {A : Around} {R : Result → Shared → Prop} {s : Shared} {elt target iter : Expr} {ifs : List Expr} {scope : Scope} {pos : Pos} {it acc : Value} {env : Env} (I : Nat → Shared → Prop)
    (turn : ∀ n s, I n s → wpAny (model prog w) A (pyNext it) (fun r s₁ => match r with
      | none => R (.ok .next) s₁
      | some v => wpAny (model prog w) A (letOwnedTupleGo target it v) (fun _ s₁' => wpAny (model prog w) A (assign target env v) (fun _ s₂ =>
          wpAny (model prog w) A (forIn ifs true fun c r => if r = true then do let ok ← isTrue c env (eval c env); pure (ForInStep.yield ok) else pure (ForInStep.yield r)) (fun ok s₃ =>
            if ok = true then wpAny (model prog w) A (eval elt env) (fun x s₄ =>
              wpAny (model prog w) A (call (.builtin "list.append") [acc, x]) (fun _ s₅ => ∃ m, m < n ∧ I m s₅) (notedBy (model prog w) A env fun e s' => R (.error e) s') s₄) (notedBy (model prog w) A env fun e s' => R (.error e) s') s₃
            else ∃ m, m < n ∧ I m s₃) (notedBy (model prog w) A env fun e s' => R (.error e) s') s₂) (notedBy (model prog w) A env fun e s' => R (.error e) s') s₁') (notedBy (model prog w) A env fun e s' => R (.error e) s') s₁) (notedBy (model prog w) A env fun e s' => R (.error e) s') s)
    (n : Nat) (h : I n s) :
    codeAny (model prog w) A (.compLoop (.ListComp elt [⟨target, iter, ifs, 0⟩] scope pos) 0 it acc env) R s := by
  refine codeAny_loop rfl I (fun n s hI => ?_) n h
  show wpAny _ A ((compTurn (.ListComp elt [⟨target, iter, ifs, 0⟩] scope pos) 0 it acc env).onRaise (fun x => do noteFrame x env; theTreesLotGoes x)) _ _ s
  refine wpAny_noted ?_
  rw [compTurn_list]
  refine wpAny_bind (wpAny_standAt (wpAny_bind (wpAny_mono (turn n s hI) (fun r s₁ h₁ => ?_) fun _ _ h' => h')))
  cases r with
  | none => exact wpAny_pure h₁
  | some v =>
    refine wpAny_bind (wpAny_mono h₁ (fun _ s₁' h₁' => ?_) fun _ _ h' => h')
    refine wpAny_bind (wpAny_mono h₁' (fun _ s₂ h₂ => wpAny_bind (wpAny_mono h₂ (fun ok s₃ h₃ => ?_) fun _ _ h' => h')) fun _ _ h' => h')
    cases ok with
    | false => exact wpAny_pure ⟨rfl, h₃⟩
    | true =>
      exact wpAny_bind (wpAny_bind (wpAny_mono h₃ (fun x s₄ h₄ => wpAny_bind (wpAny_mono h₄ (fun _ s₅ h₅ => wpAny_pure (wpAny_pure ⟨rfl, h₅⟩)) fun _ _ h' => h')) fun _ _ h' => h'))
section
variable {X : Cx}
def tLc (wi : TI) (g : TG) (tt : TT) (te : TE) (vs : List Nat) : TE := fun σ H Q => wi σ H fun J H1 => ∀ D, H1 D = none → ∃ W : Nat → Nat → Hp → Prop, (∃ m, W 0 m (upd H1 D (.lst []))) ∧ ∀ i m H, W i m H →
  (J.stop i H ∧ Q (.ref D) H) ∨ (J.go i H ∧ ∃ Nx : Hp → Prop, (∀ H', Nx H' → ∃ m', m' < m ∧ W (i + 1) m' H') ∧ ∀ x H', J.yld i H x H' → g x (wipe σ vs) H' fun σ2 H2 => wipe σ2 vs = wipe σ vs ∧ tt σ2 H2 fun b H3 =>
    if b = true then te σ2 H3 fun y H4 => ∃ acc, H4 D = some (.lst acc) ∧ acc.length < sizeLine ∧ Nx (upd H4 D (.lst (acc ++ [y]))) else Nx H3)
theorem lc_core {pins : List (Addr × Obj)} {s : Shared} {σ : St} {H : Hp} {Q : VK} {elt tg iter : Expr} {ifs : List Expr} {scope : Scope} {own : List (Str × Nat)} {pos pos' : Pos} {wi : TI} {g : TG} {tt : TT} {te : TE} {use : Option (Value → Sem Unit)} {Qf : Value → Shared → Prop}
    (hc : X.calm = true) (hN : X.N.Nodup) (I : Inv X pins σ H s) (hi : PI X tg iter wi) (ok : BlkOk X.N X.env.scope scope own)
    (hg : ∀ (s : Shared) (H : Hp) (C : Addr) (cl : List (Str × Addr)) (fp : List Addr), PG (X.blk s H scope (compEnvC scope cl C X.env) fp) tg g) (ht : ∀ (s : Shared) (H : Hp) (C : Addr) (cl : List (Str × Addr)) (fp : List Addr), PTs (X.blk s H scope (compEnvC scope cl C X.env) fp) ifs tt)
    (he : ∀ (s : Shared) (H : Hp) (C : Addr) (cl : List (Str × Addr)) (fp : List Addr), PE (X.blk s H scope (compEnvC scope cl C X.env) fp) elt te) (hs : ∀ x, foldedSetIterable iter X.env x = pure x)
    (h : tLc wi g tt te (own.map (·.2)) σ H Q)
    (hRR : ∀ D C s' m H', Inv X pins σ H' s' → Q (.ref D) H' → s'.heap.Ns C m → FpOk X pins H' C → compPost (model X.prog X.w) X.A X.xe use Qf (.ref D) C (.ok .next) s') :
    wpAny (model X.prog X.w) X.A (comprehension (.ListComp elt [⟨tg, iter, ifs, 0⟩] scope pos) scope X.env pos' (newList []) false (eval iter X.env) use) Qf X.xe s := by
  have hfree : ∀ y ∈ scope.names, y.2 = .free → ∃ c, X.env.cells.lookup y.1 = some c := fun y hy e => by
    rcases ok.free y hy e with k | k
    · exact I.ok.has _ (.inl k)
    · exact I.ok.has _ (.inr k)
  refine wpAny_comprehension_free (use := use) rfl hs (closure_ok hfree) ok.kind (fun y hy e => by rw [ok.uniq y hy, e])
    (thn (hi pins s σ H _ I h) fun xv s1 hx => thn hx fun itv s2 h2 => ?_)
  obtain ⟨it, fp, tn, J, H2, e, I2, T, st2, f2, q⟩ := h2
  subst e
  refine wpAny_newObj_type (newEnv_comp ?_) (by show 0 ≤ sizeLine; decide)
  generalize hD : s2.heap.objs.size = D
  have hDn : H2 D = none := I2.hok.fresh (Nat.le_of_eq hD)
  obtain ⟨W, ⟨m0, w0⟩, turn⟩ := q D hDn
  generalize hs3 : ({ s2 with heap := s2.heap.push { cls := .type "list", data := .seq ([] : List Value).toArray } } : Shared) = s3
  have I3 : Inv X pins σ (upd H2 D (.lst [])) s3 := by
    rw [← hs3]
    refine I2.laid (t' := s2.toks) (fun b o e => Heap.get?_push_of_some _ e) (Nat.le_of_eq hD) ⟨Nat.zero_le _, [], 0, .nil, ?_⟩
    rw [← hD]
    exact Heap.get?_push_size _ rfl
  have h3 : s3.heap = s2.heap.push { cls := .type "list", data := .seq ([] : List Value).toArray } := by rw [← hs3]
  have sz : ∀ b ∈ fp, b < s2.heap.objs.size := fun b hb => by
    obtain ⟨o, e, _⟩ := T.obj _ _ st2 b hb
    exact Heap.lt_size e
  have f3 : ∀ b ∈ fp, FpOk X pins (upd H2 D (.lst [])) b ∧ b < s3.heap.objs.size := fun b hb => by
    have hlt := sz b hb
    refine ⟨⟨?_, (f2 b hb).2⟩, by rw [h3, Heap.size_push]; exact Nat.lt_succ_of_lt hlt⟩
    rw [upd_ne (by rw [← hD]; exact Nat.ne_of_lt hlt)]
    exact (f2 b hb).1
  have st3 : tn 0 s3.heap := T.keep _ _ _ st2 fun b _ o e => by rw [h3]; exact Heap.get?_push_of_some _ e
  have I4 := block_start I3 ok hN f3
  have pg := hg s3 (upd H2 D (.lst [])) s3.heap.objs.size (cellsFrom (s3.heap.objs.size + 1) scope.names (cloFrom X.env.cells scope.names [])) fp
  have pt := ht s3 (upd H2 D (.lst [])) s3.heap.objs.size (cellsFrom (s3.heap.objs.size + 1) scope.names (cloFrom X.env.cells scope.names [])) fp
  have pe := he s3 (upd H2 D (.lst [])) s3.heap.objs.size (cellsFrom (s3.heap.objs.size + 1) scope.names (cloFrom X.env.cells scope.names [])) fp
  show codeAny _ _ (.compStart (.ListComp elt [⟨tg, iter, ifs, 0⟩] scope pos) 0 (.ref it) (.ref D) (compEnvC scope (cellsFrom (s3.heap.objs.size + 1) scope.names (cloFrom X.env.cells scope.names [])) s3.heap.objs.size X.env)) (compPost (model X.prog X.w) X.A X.xe use Qf (.ref D) s3.heap.objs.size) { s3 with heap := pushCells (s3.heap.push { cls := .type "dict", data := .dict #[] }) scope.names }
  have nfp : ∀ b ∈ fp, (upd H2 D (.lst [])) b = none := fun b hb => (f3 b hb).1.1
  generalize hce : compEnvC scope (cellsFrom (s3.heap.objs.size + 1) scope.names (cloFrom X.env.cells scope.names [])) s3.heap.objs.size X.env = ce at I4 pg pt pe ⊢
  have cL : ce.locals = s3.heap.objs.size := by subst hce; rfl
  generalize hH3 : upd H2 D (.lst []) = H3 at I3 I4 pg pt pe w0 nfp f3
  generalize hs4 : ({ s3 with heap := pushCells (s3.heap.push { cls := .type "dict", data := .dict #[] }) scope.names } : Shared) = s4 at I4 ⊢
  have st4 : tn 0 s4.heap := T.keep _ _ _ st3 fun b _ o e => by rw [← hs4]; exact pushCells_keeps _ _ _ _ (Heap.get?_push_of_some _ e)
  have stat : ∀ {σ' : St} {H' : Hp} {s' : Shared}, Inv (X.blk s3 H3 scope ce fp) [] σ' H' s' → (∀ b ∈ fp, H' b = none) → ∀ b ∈ fp, FpOk (X.blk s3 H3 scope ce fp) [] H' b := fun {σ' H' s'} I' hn b hb =>
    ⟨hn b hb, (I'.ok.exf b hb).1, I'.ok.exfs b hb, .inl hb, fun x c e => (I'.ok.exf b hb).2 x c e, fun p hp => absurd (show p ∈ ([] : List (Addr × Obj)) ++ [] from hp) (by simp)⟩
  have loop : codeAny (model X.prog X.w) X.A (.compLoop (.ListComp elt [⟨tg, iter, ifs, 0⟩] scope pos) 0 (.ref it) (.ref D) ce) (compPost (model X.prog X.w) X.A X.xe use Qf (.ref D) s3.heap.objs.size) s4 := by
    refine compLoop_any (fun n s' => ∃ i H', Inv (X.blk s3 H3 scope ce fp) [] (wipe σ (own.map (·.2))) H' s' ∧ tn i s'.heap ∧ (∀ b ∈ fp, H' b = none) ∧ W i n H') ?_ m0 ⟨0, H3, I4, st4, nfp, w0⟩
    rintro n s5 ⟨i, H5, I5, st5, n5, w5⟩
    rcases turn i n H5 w5 with ⟨stop, qq⟩ | ⟨go, Nx, hNx, step⟩
    · have td := T.done (X.blk s3 H3 scope ce fp) rfl rfl rfl hc i [] s5 _ H5 (fun _ _ => False) I5 (stat I5 n5) st5 stop
      refine thnF td fun r s6 ⟨hr, I6⟩ => ?_
      subst hr
      have I7 : Inv X pins σ H5 s6 := I3.call' (ch := fp) I6.os I6.base I6.hok I6.bare fun b hb => ⟨(f3 b hb).1.2.2.2.1, (f3 b hb).1.2.1, (f3 b hb).1.2.2.2.2.1, (f3 b hb).1.2.2.2.2.2⟩
      have nC : H5 s3.heap.objs.size = none := by
        have z : H5 ce.locals = none := I6.free
        rw [cL] at z
        exact z
      obtain ⟨m, hn, _⟩ := I6.loc
      have hn : s6.heap.Ns ce.locals m := hn
      rw [cL] at hn
      exact hRR D s3.heap.objs.size s6 m H5 I7 qq hn (I3.fpOk (Nat.le_refl _) nC)
    · have ti := T.item (X.blk s3 H3 scope ce fp) rfl rfl rfl hc i [] s5 _ H5 (fun _ _ => False) I5 (stat I5 n5) st5 go
      refine thnF ti fun r s6 ⟨u, hr, h6⟩ => ?_
      subst hr
      refine thnF h6 fun _ s7 ⟨x, H7, I7, r7, y7, st7, n7⟩ => ?_
      have I7' := I7.pinned (stat I7 n7) (T.obj _ _ st7)
      refine thnF (pg _ s7 _ H7 x u _ I7' r7 (step x H7 y7)) fun _ s8 ⟨σ8, H8, I8, hw8, q8⟩ => ?_
      refine thnF (pt _ s8 σ8 H8 _ I8 q8) fun b s9 ⟨H9, I9, q9⟩ => ?_
      have fin : ∀ {s' : Shared} {H' : Hp}, Inv (X.blk s3 H3 scope ce fp) ([] ++ pinsAt fp s7.heap) σ8 H' s' → Nx H' → ∃ m, m < n ∧ ∃ i H', Inv (X.blk s3 H3 scope ce fp) [] (wipe σ (own.map (·.2))) H' s' ∧ tn i s'.heap ∧ (∀ b ∈ fp, H' b = none) ∧ W i m H' := fun {s' H'} I' nx => by
        obtain ⟨m', hm, w'⟩ := hNx H' nx
        have pin' : ∀ b ∈ fp, ∀ o, s7.heap.get? b = some o → s'.heap.get? b = some o ∧ H' b = none := fun b hb o e =>
          let z := I'.pin (b, o) (List.mem_append_right _ (List.mem_append_right _ (mem_pinsAt hb e)))
          ⟨z.1, z.2.1⟩
        have hl : (wipe σ (own.map (·.2))).length = σ8.length := by rw [← hw8, wipe_length]
        refine ⟨m', hm, i + 1, H', (I'.unpinned (pins := [])).weak hl (fun j v e => ?_), T.keep _ _ _ st7 fun b hb o e => (pin' b hb o e).1, fun b hb => ?_, w'⟩
        · rw [← hw8] at e
          exact (wipe_some e).1
        · obtain ⟨o, e, _⟩ := T.obj _ _ st7 b hb
          exact (pin' b hb o e).2
      cases b with
      | false =>
        simp only [Bool.false_eq_true, if_false] at q9 ⊢
        exact fin I9 q9
      | true =>
        simp only [if_true] at q9 ⊢
        refine thnF (pe _ s9 σ8 H9 _ I9 q9) fun z s10 ⟨yv, H10, I10, r10, acc, hD10, hz10, nx⟩ => ?_
        exact app_ok (X := X.blk s3 H3 scope ce fp) I10 hD10 hz10 r10 fun s11 I11 => fin I11 nx
  exact codeAny_compStart_list loop (T.self X.A 0 _ _ _ st4 loop)
theorem pe_lc {elt tg iter : Expr} {ifs : List Expr} {scope : Scope} {own : List (Str × Nat)} {pos : Pos} {wi : TI} {g : TG} {tt : TT} {te : TE} (hc : X.calm = true) (hN : X.N.Nodup) (hi : PI X tg iter wi) (ok : BlkOk X.N X.env.scope scope own)
    (hg : ∀ (s : Shared) (H : Hp) (C : Addr) (cl : List (Str × Addr)) (fp : List Addr), PG (X.blk s H scope (compEnvC scope cl C X.env) fp) tg g) (ht : ∀ (s : Shared) (H : Hp) (C : Addr) (cl : List (Str × Addr)) (fp : List Addr), PTs (X.blk s H scope (compEnvC scope cl C X.env) fp) ifs tt)
    (he : ∀ (s : Shared) (H : Hp) (C : Addr) (cl : List (Str × Addr)) (fp : List Addr), PE (X.blk s H scope (compEnvC scope cl C X.env) fp) elt te) (hs : ∀ x, foldedSetIterable iter X.env x = pure x := by intro _; rfl) :
    PE X (.ListComp elt [⟨tg, iter, ifs, 0⟩] scope pos) (tLc wi g tt te (own.map (·.2))) := by
  intro pins s σ H Q I h
  rw [eval_ListComp]
  refine lc_core hc hN I hi ok hg ht he hs h fun D C s' m H' I' q hn f => ⟨m, hn, fun h'' sb => ?_⟩
  obtain ⟨f0, f1, f2, f3, f4, f5⟩ := f
  exact ⟨.ref D, H', I'.turned (t' := s'.toks) (fun b o hb e => (sb.2 b hb).trans e) f0 f1 f3 f4 f5, rfl, q⟩
end
theorem lc_list {K : PySem.W.Frag} {a : Addr} {xs : List V} {g : TG} {tt : TT} {te : TE} {vs : List Nat} {σ : St} {H1 : Hp} {D : Addr} {Qd : Hp → Prop} (Pv : Nat → Hp → Prop) (h0 : Pv 0 (upd H1 D (.lst []))) (hl : ∀ i H, i ≤ xs.length → Pv i H → SqL K H a xs)
    (hs : ∀ i x H, xs[i]? = some x → Pv i H → g x (wipe σ vs) H fun σ2 H2 => wipe σ2 vs = wipe σ vs ∧ tt σ2 H2 fun b H3 =>
      if b = true then te σ2 H3 fun y H4 => ∃ acc, H4 D = some (.lst acc) ∧ acc.length < sizeLine ∧ Pv (i + 1) (upd H4 D (.lst (acc ++ [y]))) else Pv (i + 1) H3) (hd : ∀ H, Pv xs.length H → Qd H) :
    ∃ W : Nat → Nat → Hp → Prop, (∃ m, W 0 m (upd H1 D (.lst []))) ∧ ∀ i m H, W i m H →
      ((Itl K a).stop i H ∧ Qd H) ∨ ((Itl K a).go i H ∧ ∃ Nx : Hp → Prop, (∀ H', Nx H' → ∃ m', m' < m ∧ W (i + 1) m' H') ∧ ∀ x H', (Itl K a).yld i H x H' → g x (wipe σ vs) H' fun σ2 H2 => wipe σ2 vs = wipe σ vs ∧ tt σ2 H2 fun b H3 =>
        if b = true then te σ2 H3 fun y H4 => ∃ acc, H4 D = some (.lst acc) ∧ acc.length < sizeLine ∧ Nx (upd H4 D (.lst (acc ++ [y]))) else Nx H3) := by
  refine ⟨fun i m H => m = xs.length - i ∧ i ≤ xs.length ∧ Pv i H, ⟨xs.length, by simp, Nat.zero_le _, h0⟩, ?_⟩
  rintro i m H ⟨rfl, hi, p⟩
  have q := hl i H hi p
  by_cases hlt : i < xs.length
  · refine .inr ⟨⟨xs, xs[i], q, by simp [hlt]⟩, Pv (i + 1), fun H' p' => ⟨xs.length - (i + 1), by omega, rfl, hlt, p'⟩, fun x H' y => ?_⟩
    obtain ⟨e, y⟩ := y
    subst e
    exact hs i x _ (y xs q) p
  · have e : i = xs.length := by omega
    subst e
    exact .inl ⟨⟨xs, q, Nat.le_refl _⟩, hd H p⟩
theorem lc_tup {K : PySem.W.Frag} {a : Addr} {xs : List V} {g : TG} {tt : TT} {te : TE} {vs : List Nat} {σ : St} {H1 : Hp} {D : Addr} {Qd : Hp → Prop} (Pv : Nat → Hp → Prop) (h0 : Pv 0 (upd H1 D (.lst []))) (hl : ∀ i H, i ≤ xs.length → Pv i H → SqT K H a xs)
    (hs : ∀ i x H, xs[i]? = some x → Pv i H → g x (wipe σ vs) H fun σ2 H2 => wipe σ2 vs = wipe σ vs ∧ tt σ2 H2 fun b H3 =>
      if b = true then te σ2 H3 fun y H4 => ∃ acc, H4 D = some (.lst acc) ∧ acc.length < sizeLine ∧ Pv (i + 1) (upd H4 D (.lst (acc ++ [y]))) else Pv (i + 1) H3) (hd : ∀ H, Pv xs.length H → Qd H) :
    ∃ W : Nat → Nat → Hp → Prop, (∃ m, W 0 m (upd H1 D (.lst []))) ∧ ∀ i m H, W i m H →
      ((Itt K a).stop i H ∧ Qd H) ∨ ((Itt K a).go i H ∧ ∃ Nx : Hp → Prop, (∀ H', Nx H' → ∃ m', m' < m ∧ W (i + 1) m' H') ∧ ∀ x H', (Itt K a).yld i H x H' → g x (wipe σ vs) H' fun σ2 H2 => wipe σ2 vs = wipe σ vs ∧ tt σ2 H2 fun b H3 =>
        if b = true then te σ2 H3 fun y H4 => ∃ acc, H4 D = some (.lst acc) ∧ acc.length < sizeLine ∧ Nx (upd H4 D (.lst (acc ++ [y]))) else Nx H3) := by
  refine ⟨fun i m H => m = xs.length - i ∧ i ≤ xs.length ∧ Pv i H, ⟨xs.length, by simp, Nat.zero_le _, h0⟩, ?_⟩
  rintro i m H ⟨rfl, hi, p⟩
  have q := hl i H hi p
  by_cases hlt : i < xs.length
  · refine .inr ⟨⟨xs, xs[i], q, by simp [hlt]⟩, Pv (i + 1), fun H' p' => ⟨xs.length - (i + 1), by omega, rfl, hlt, p'⟩, fun x H' y => ?_⟩
    obtain ⟨e, y⟩ := y
    subst e
    exact hs i x _ (y xs q) p
  · have e : i = xs.length := by omega
    subst e
    exact .inl ⟨⟨xs, q, Nat.le_refl _⟩, hd H p⟩
def blkC (N : List Str) (sc scope : Scope) (own : List (Str × Nat)) : Bool :=
  (match scope.kind with | .function => true | _ => false) && (scope.names.all fun y => decide (scope.names.lookup y.1 = some y.2)) && (own.all fun p => decide (N[p.2]? = some p.1)) &&
    (scope.names.all fun y => match y.2 with
      | .free => (match sc.names.lookup y.1 with | some .cell => true | some .free => true | _ => false)
      | .local => decide (y.1 ∈ own.map (·.1)) || decide (y.1 ∉ N)
      | .cell => decide (y.1 ∈ own.map (·.1)) || decide (y.1 ∉ N)
      | _ => true)
theorem blkOk_by {N : List Str} {sc scope : Scope} {own : List (Str × Nat)} (h : blkC N sc scope own = true) : BlkOk N sc scope own := by
  unfold blkC at h
  simp only [Bool.and_eq_true, List.all_eq_true, decide_eq_true_eq] at h
  obtain ⟨⟨⟨h1, h2⟩, h3⟩, h4⟩ := h
  refine ⟨?_, h2, h3, fun y hy e => ?_, fun y hy e => ?_⟩
  · split at h1
    · assumption
    · cases h1
  · have q := h4 y hy
    simp only [e] at q
    split at q <;> first | exact .inl (by assumption) | exact .inr (by assumption) | cases q
  · have q := h4 y hy
    rcases e with e | e <;> (simp only [e, Bool.or_eq_true, decide_eq_true_eq] at q; exact q)
end L2
namespace L2
open PySem PySem.Spec PyProof.Rows
section
variable {prog : Program} {w : World} {A : Around} {R : Result → Shared → Prop} {s : Shared} {elt t0 i0 t1 i1 : Expr} {ifs0 ifs1 : List Expr} {scope : Scope} {pos : Pos} {it acc : Value} {env : Env}
end
section
variable {X : Cx}
end
end L2
namespace L2
open PySem PySem.Spec PyProof.Rows
section
variable {κ : Type} [DecidableEq κ]
def valV (kvs : List (κ × V)) (k : κ) : Option V := (kvs.find? fun kv => decide (kv.1 = k)).map (·.2)
def putK (kvs : List (κ × V)) (k : κ) (v : V) : List (κ × V) :=
  if (kvs.any fun kv => decide (kv.1 = k)) = true then kvs.map (fun kv => if kv.1 = k then (kv.1, v) else kv) else kvs ++ [(k, v)]
def dropK (kvs : List (κ × V)) (k : κ) : List (κ × V) := kvs.filter fun kv => decide (kv.1 ≠ k)
theorem valV_pos {p : κ × V} {r : List (κ × V)} {k : κ} (e : p.1 = k) : valV (p :: r) k = some p.2 := by simp [valV, List.find?_cons, e]
theorem valV_neg {p : κ × V} {r : List (κ × V)} {k : κ} (e : ¬ p.1 = k) : valV (p :: r) k = valV r k := by simp [valV, List.find?_cons, e]
theorem valV_any (k : κ) : ∀ kvs : List (κ × V), (kvs.any fun kv => decide (kv.1 = k)) = (valV kvs k).isSome
  | [] => rfl
  | p :: r => by
    rw [List.any_cons]
    by_cases e : p.1 = k
    · simp only [valV_pos e, decide_eq_true e, Bool.true_or, Option.isSome_some]
    · rw [valV_neg e, decide_eq_false e, Bool.false_or]; exact valV_any k r
theorem valV_map (k j : κ) (y : V) : ∀ kvs : List (κ × V), valV (kvs.map fun kv => if kv.1 = k then (kv.1, y) else kv) j = (valV kvs j).map fun x => if j = k then y else x
  | [] => rfl
  | p :: r => by
    have ih := valV_map k j y r
    rw [List.map_cons]
    by_cases h : p.1 = k
    · rw [if_pos h]
      by_cases e : p.1 = j
      · rw [valV_pos (p := (p.1, y)) e, valV_pos e, Option.map_some, if_pos (e.symm.trans h)]
      · rw [valV_neg (p := (p.1, y)) e, valV_neg e, ih]
    · rw [if_neg h]
      by_cases e : p.1 = j
      · rw [valV_pos (p := p) e, valV_pos e, Option.map_some, if_neg (fun z => h (e.trans z))]
      · rw [valV_neg (p := p) e, valV_neg e, ih]
theorem valV_snoc (k j : κ) (y : V) : ∀ kvs : List (κ × V), valV kvs k = none → valV (kvs ++ [(k, y)]) j = if j = k then some y else valV kvs j
  | [], _ => by
    by_cases e : k = j
    · rw [if_pos e.symm]; exact valV_pos (p := (k, y)) e
    · rw [if_neg (fun z => e z.symm)]; exact valV_neg (p := (k, y)) e
  | p :: r, hn => by
    rw [List.cons_append]
    have hk : ¬ p.1 = k := fun z => by rw [valV_pos z] at hn; cases hn
    rw [valV_neg hk] at hn
    have ih := valV_snoc k j y r hn
    by_cases e : p.1 = j
    · rw [valV_pos e, valV_pos e, if_neg (fun z => hk (e.trans z))]
    · rw [valV_neg e, valV_neg e, ih]
theorem valV_put (kvs : List (κ × V)) (k j : κ) (y : V) : valV (putK kvs k y) j = if j = k then some y else valV kvs j := by
  unfold putK
  by_cases a : (kvs.any fun kv => decide (kv.1 = k)) = true
  · rw [if_pos a, valV_map]
    rw [valV_any] at a
    by_cases e : j = k
    · obtain ⟨x, hx⟩ := Option.isSome_iff_exists.mp a
      rw [if_pos e, e, hx, Option.map_some, if_pos rfl]
    · rw [if_neg e]
      cases valV kvs j with
      | none => rfl
      | some x => rw [Option.map_some, if_neg e]
  · rw [if_neg a]
    refine valV_snoc k j y kvs ?_
    rw [valV_any] at a
    cases q : valV kvs k with
    | none => rfl
    | some x => rw [q] at a; exact (a rfl).elim
theorem length_putK (kvs : List (κ × V)) (k : κ) (v : V) : (putK kvs k v).length ≤ kvs.length + 1 := by
  unfold putK
  split
  · rw [List.length_map]; omega
  · rw [List.length_append, List.length_cons, List.length_nil]; omega
theorem RelO.isSome_eq {o : Option V} {u : Option Value} (r : RelO o u) : o.isSome = u.isSome := by
  cases o with
  | none => cases u with
    | none => rfl
    | some _ => exact (show False from r).elim
  | some _ => cases u with
    | none => exact (show False from r).elim
    | some _ => rfl
theorem KV.val {kvs : List (κ × V)} {vs : List (κ × Value)} (r : KV kvs vs) (k : κ) : RelO (valV kvs k) (valueAt vs k) := by
  unfold KV at r
  induction r with
  | nil => exact True.intro
  | @cons p q ps qs h t ih =>
    obtain ⟨h1, h2⟩ := h
    by_cases e : p.1 = k
    · have e' : q.1 = k := h1.symm.trans e
      have b : valueAt (q :: qs) k = some q.2 := by simp [valueAt, List.find?_cons, e']
      rw [valV_pos e, b]; exact h2
    · have e' : ¬ q.1 = k := fun z => e (h1.trans z)
      have b : valueAt (q :: qs) k = valueAt qs k := by simp [valueAt, List.find?_cons, e']
      rw [valV_neg e, b]; exact ih
theorem KV.any {kvs : List (κ × V)} {vs : List (κ × Value)} (r : KV kvs vs) (k : κ) : (kvs.any fun kv => decide (kv.1 = k)) = vs.any fun kv => decide (kv.1 = k) := by
  unfold KV at r
  induction r with
  | nil => rfl
  | cons h t ih => rw [List.any_cons, List.any_cons, ih, h.1]
theorem KV.repl {kvs : List (κ × V)} {vs : List (κ × Value)} (r : KV kvs vs) (k : κ) {y : V} {u : Value} (ry : RelV y u) :
    KV (kvs.map fun kv => if kv.1 = k then (kv.1, y) else kv) (vs.map fun kv => if kv.1 = k then (kv.1, u) else kv) := by
  unfold KV at r ⊢
  induction r with
  | nil => exact .nil
  | @cons p q ps qs h t ih =>
    rw [List.map_cons, List.map_cons]
    refine .cons ?_ ih
    obtain ⟨h1, h2⟩ := h
    by_cases e : p.1 = k
    · rw [if_pos e, if_pos (h1.symm.trans e)]; exact ⟨h1, ry⟩
    · rw [if_neg e, if_neg (fun z => e (h1.trans z))]; exact ⟨h1, h2⟩
theorem KV.put {kvs : List (κ × V)} {vs : List (κ × Value)} (r : KV kvs vs) (k : κ) {y : V} {u : Value} (ry : RelV y u) : KV (putK kvs k y) (stored vs k u) := by
  unfold putK stored
  rw [r.any k]
  by_cases e : (vs.any fun kv => decide (kv.1 = k)) = true
  · rw [if_pos e, if_pos e]; exact r.repl k ry
  · rw [if_neg e, if_neg e]; exact Paired.snoc r ⟨rfl, ry⟩
theorem KV.drop {kvs : List (κ × V)} {vs : List (κ × Value)} (r : KV kvs vs) (k : κ) : KV (dropK kvs k) (without vs k) := by
  unfold KV at r ⊢
  unfold dropK without
  induction r with
  | nil => exact .nil
  | @cons p q ps qs h t ih =>
    obtain ⟨h1, h2⟩ := h
    rw [List.filter_cons, List.filter_cons]
    by_cases e : p.1 = k
    · have a : ¬ decide (p.1 ≠ k) = true := by simp [e]
      have b : ¬ decide (q.1 ≠ k) = true := by simp [h1.symm.trans e]
      rw [if_neg a, if_neg b]; exact ih
    · have e' : ¬ q.1 = k := fun z => e (h1.trans z)
      have a : decide (p.1 ≠ k) = true := by simp [e]
      have b : decide (q.1 ≠ k) = true := by simp [e']
      rw [if_pos a, if_pos b]; exact .cons ⟨h1, h2⟩ ih
theorem KV.keys {kvs : List (κ × V)} {vs : List (κ × Value)} (r : KV kvs vs) : kvs.map (·.1) = vs.map (·.1) := by
  unfold KV at r
  induction r with
  | nil => rfl
  | cons h t ih => rw [List.map_cons, List.map_cons, ih, h.1]
theorem KV.length {kvs : List (κ × V)} {vs : List (κ × Value)} (r : KV kvs vs) : kvs.length = vs.length := Paired.length r
theorem dropK_le (kvs : List (κ × V)) (k : κ) : (dropK kvs k).length ≤ kvs.length := List.length_filter_le _ _
end
theorem kV_is {P : Program} {w : World} {k : Key} {u : Value} (r : RelV (kV k) u) : (mixKind P w).is k u = true := by
  cases k with
  | inl i => obtain ⟨t, e⟩ := (show ∃ t, u = Value.int i t from r); subst e; exact mixKind_int P w i t
  | inr x => obtain ⟨t, e⟩ := (show ∃ t, u = Value.str x t from r); subst e; exact mixKind_str P w x t
theorem items_are {P : Program} {w : World} : ∀ {ks : List Key} {us : List Value}, Vals (ks.map kV) us → ItemsAre (mixKind P w) ks us
  | [], _, r => by rw [List.map_nil] at r; cases r; exact .nil
  | k :: ks, _, r => by
    rw [List.map_cons] at r
    cases r with
    | cons h t => exact .cons (kV_is h) (items_are t)
abbrev KT (H : Hp) : List (NK × V) → List (NK × Addr × Value) → Prop := Paired fun p q => p.1 = q.1 ∧ NTup H q.2.1 p.1 ∧ RelV p.2 q.2.2
theorem KT.val {H : Hp} {kvs : List (NK × V)} {xs : List (NK × Addr × Value)} (r : KT H kvs xs) (k : NK) : RelO (valV kvs k) ((atKey xs k).map (·.2)) := by
  induction r with
  | nil => exact True.intro
  | @cons p q ps qs h t ih =>
    obtain ⟨h1, _, h2⟩ := h
    by_cases e : p.1 = k
    · have e' : q.1 = k := h1.symm.trans e
      have b : atKey (q :: qs) k = some q.2 := by simp [atKey, List.find?_cons, e']
      rw [valV_pos e, b]; exact h2
    · have e' : ¬ q.1 = k := fun z => e (h1.trans z)
      have b : atKey (q :: qs) k = atKey qs k := by simp [atKey, List.find?_cons, e']
      rw [valV_neg e, b]; exact ih
theorem KT.repl {H : Hp} {kvs : List (NK × V)} {xs : List (NK × Addr × Value)} (r : KT H kvs xs) (k : NK) {y : V} {u : Value} (ry : RelV y u) :
    KT H (kvs.map fun kv => if kv.1 = k then (kv.1, y) else kv) (xs.map (putAt k u)) := by
  induction r with
  | nil => exact .nil
  | @cons p q ps qs h t ih =>
    rw [List.map_cons, List.map_cons]
    refine .cons ?_ ih
    obtain ⟨h1, h2, h3⟩ := h
    unfold putAt
    by_cases e : p.1 = k
    · rw [if_pos e, if_pos (h1.symm.trans e)]; exact ⟨h1, h2, ry⟩
    · rw [if_neg e, if_neg (fun z => e (h1.trans z))]; exact ⟨h1, h2, h3⟩
theorem KT.put {H : Hp} {kvs : List (NK × V)} {xs : List (NK × Addr × Value)} (r : KT H kvs xs) (k : NK) {b : Addr} {y : V} {u : Value} (hb : NTup H b k) (ry : RelV y u) :
    KT H (putK kvs k y) (storedH xs k b u) := by
  have e : (kvs.any fun kv => decide (kv.1 = k)) = (atKey xs k).isSome := by
    rw [valV_any, (r.val k).isSome_eq, Option.isSome_map]
  unfold putK storedH
  rw [e]
  by_cases q : (atKey xs k).isSome = true
  · rw [if_pos q, if_pos q]; exact r.repl k ry
  · rw [if_neg q, if_neg q]; exact Paired.snoc r ⟨rfl, hb, ry⟩
theorem KT.keeps {H H' : Hp} {kvs : List (NK × V)} {xs : List (NK × Addr × Value)} (r : KT H kvs xs) (ht : ∀ b ys, H b = some (.tup ys) → H' b = some (.tup ys)) : KT H' kvs xs :=
  Paired.mapP r fun _ _ z => ⟨z.1, z.2.1.keeps ht, z.2.2⟩
section
variable {P : Program} {w : World} {H : Hp} {h : Heap} {a : Addr}
theorem rd_of {u : HO} (ok : HOk P w H h) (e : Rd H a u) : ObjOk P w H h a u := e.ok ok
theorem dk_rd {kvs : List (Key × V)} (ok : HOk P w H h) (e : Rd H a (.dK kvs)) : kvs.length ≤ sizeLine ∧ (a == sysModules) = false ∧ ∃ vs, KV kvs vs ∧ h.DictOf (mixKind P w) a vs :=
  show ObjOk P w H h a (.dK kvs) from rd_of ok e
theorem dk_of {kvs : List (Key × V)} (ok : HOk P w H h) (e : H a = some (.dK kvs)) : kvs.length ≤ sizeLine ∧ (a == sysModules) = false ∧ ∃ vs, KV kvs vs ∧ h.DictOf (mixKind P w) a vs := dk_rd ok (.inl e)
theorem key_one {ks : List Key} (ok : HOk P w H h) (e : H a = some (.tup (ks.map kV))) : (tupleKind (mixKind P w)).is h ks a := by
  obtain ⟨_, its, r, o, h1, h2, n, h3⟩ := (show ObjOk P w H h a (.tup (ks.map kV)) from ok a _ e)
  exact ⟨o, its.toArray, n, h1, h2, h3, by simpa using items_are r⟩
theorem key_of {k : NK} (ok : HOk P w H h) (e : NTup H a k) : (nestKind P w).is h k a := by
  obtain ⟨rs, e, q⟩ := e
  obtain ⟨_, its, r, o, h1, h2, n, h3⟩ := (show ObjOk P w H h a (.tup (rs.map V.ref)) from ok a _ e)
  have all : ∀ {rs : List Addr} {k : NK} {us : List Value}, Paired (fun r ks => H r = some (.tup (ks.map kV))) rs k → Vals (rs.map V.ref) us → NItems (mixKind P w) h k us := by
    intro rs k us q
    induction q generalizing us with
    | nil => intro r; rw [List.map_nil] at r; cases r; exact .nil
    | cons z t ih =>
      intro r
      rw [List.map_cons] at r
      cases r with
      | cons x y => exact .cons ⟨_, x, key_one ok z⟩ (ih y)
  exact ⟨o, its.toArray, n, h1, h2, h3, by simpa using all q r⟩
theorem dt_rd {kvs : List (NK × V)} (ok : HOk P w H h) (e : Rd H a (.dT kvs)) : kvs.length ≤ sizeLine ∧ (a == sysModules) = false ∧
    ∃ xs, KT H kvs xs ∧ h.DictOfH (nestKind P w) a xs := by
  obtain ⟨z, y, xs, r, o, es, ep, h1, h2, h3, h4, h5⟩ := (show ObjOk P w H h a (.dT kvs) from rd_of ok e)
  refine ⟨z, y, xs, r, o, es, ep, h1, h2, h3, h4, fun x hx => ?_, h5⟩
  have all : ∀ {l : List (NK × V)} {m : List (NK × Addr × Value)}, KT H l m → ∀ x ∈ m, (nestKind P w).is h x.1 x.2.1 := by
    intro l m q
    induction q with
    | nil => intro x hx; exact nomatch hx
    | @cons p q ps qs hq t ih =>
      intro x hx
      rcases List.mem_cons.mp hx with e | hx
      · subst e
        exact key_of ok (by rw [← hq.1]; exact hq.2.1)
      · exact ih x hx
  exact all r x hx
theorem dt_of {kvs : List (NK × V)} (ok : HOk P w H h) (e : H a = some (.dT kvs)) : kvs.length ≤ sizeLine ∧ (a == sysModules) = false ∧
    ∃ xs, KT H kvs xs ∧ h.DictOfH (nestKind P w) a xs := dt_rd ok (.inl e)
end
def DGet (H : Hp) (a : Addr) (y : V) (r : Option V) : Prop :=
  (∃ kvs k, Rd H a (.dK kvs) ∧ y = kV k ∧ r = valV kvs k) ∨ ∃ kvs k b, Rd H a (.dT kvs) ∧ y = .ref b ∧ NTup H b k ∧ r = valV kvs k
def DPut (H : Hp) (a : Addr) (y v : V) (H' : Hp) : Prop :=
  (∃ kvs k, H a = some (.dK kvs) ∧ y = kV k ∧ kvs.length < sizeLine ∧ H' = upd H a (.dK (putK kvs k v))) ∨
  ∃ kvs k b, H a = some (.dT kvs) ∧ y = .ref b ∧ NTup H b k ∧ kvs.length < sizeLine ∧ H' = upd H a (.dT (putK kvs k v))
theorem DGet.k {H : Hp} {a : Addr} {kvs : List (Key × V)} {k : Key} (e : H a = some (.dK kvs)) : DGet H a (kV k) (valV kvs k) := .inl ⟨kvs, k, .inl e, rfl, rfl⟩
theorem DGet.t {H : Hp} {a b : Addr} {kvs : List (NK × V)} {k : NK} (e : H a = some (.dT kvs)) (eb : NTup H b k) : DGet H a (.ref b) (valV kvs k) := .inr ⟨kvs, k, b, .inl e, rfl, eb, rfl⟩
theorem DPut.k {H : Hp} {a : Addr} {kvs : List (Key × V)} {k : Key} {v : V} (e : H a = some (.dK kvs)) (hl : kvs.length < sizeLine) : DPut H a (kV k) v (upd H a (.dK (putK kvs k v))) := .inl ⟨kvs, k, e, rfl, hl, rfl⟩
theorem DPut.t {H : Hp} {a b : Addr} {kvs : List (NK × V)} {k : NK} {v : V} (e : H a = some (.dT kvs)) (eb : NTup H b k) (hl : kvs.length < sizeLine) :
    DPut H a (.ref b) v (upd H a (.dT (putK kvs k v))) := .inr ⟨kvs, k, b, e, rfl, eb, hl, rfl⟩
section
variable {X : Cx} {pins : List (Addr × Obj)} {σ : St} {H : Hp} {s : Shared} {a : Addr} {y v : V} {u r : Value} {o : Option V} {A : Around} {E : Value → Shared → Prop}
theorem nest_room {P : Program} {w : World} {A : Around} (hu : A.units + 16 < cLine) : (nestKind P w).room A.in1 := by
  show A.units + 1 + 1 < cLine
  omega
theorem Inv.big (I : Inv X pins σ H s) : sysModules < s.heap.objs.size := by
  have h : mainGlobals < s.heap.objs.size := (I.mod.glob.keeps I.bk).lt
  exact Nat.lt_trans (by decide) h
theorem d_getItem {Q : Value → Shared → Prop} (hu : A.units + 16 < cLine) (I : Inv X pins σ H s) (g : DGet H a y (some v)) (ry : RelV y u) (h : ∀ w' s', Inv X pins σ H s' → RelV v w' → Q w' s') :
    wpAny (model X.prog X.w) A (getItem (.ref a) u) Q E s := by
  rcases g with ⟨kvs, k, e, ey, l⟩ | ⟨kvs, k, b, e, ey, eb, l⟩
  · subst ey
    obtain ⟨z, hd, vs, rel, dd⟩ := dk_rd I.hok e
    obtain ⟨w', hw, rw'⟩ := RelO.some_of (v := v) (o := valueAt vs k) (by rw [l]; exact rel.val k)
    exact wpAny_getItem_of (kV_is ry) dd.mapOf hw (h w' _ (I.tok _) rw')
  · subst ey
    cases (show u = Value.ref b from ry)
    obtain ⟨z, hd, xs, rel, dd⟩ := dt_rd I.hok e
    obtain ⟨w', hw, rw'⟩ := RelO.some_of (v := v) (o := (atKey xs k).map (·.2)) (by rw [l]; exact rel.val k)
    obtain ⟨p, hp, hp2⟩ := Option.map_eq_some_iff.mp hw
    refine wpAny_getItem_heap (nest_room hu) (key_of I.hok eb) dd hp ?_
    rw [hp2]
    exact h w' _ (I.tok _) rw'
theorem d_in {Q : Value → Shared → Prop} (hu : A.units + 16 < cLine) (I : Inv X pins σ H s) (g : DGet H a y o) (ry : RelV y u) (h : ∀ s', Inv X pins σ H s' → Q (.bool o.isSome) s') :
    wpAny (model X.prog X.w) A (compareOp .In u (.ref a)) Q E s := by
  rcases g with ⟨kvs, k, e, ey, l⟩ | ⟨kvs, k, b, e, ey, eb, l⟩
  · subst ey
    obtain ⟨z, hd, vs, rel, dd⟩ := dk_rd I.hok e
    refine wpAny_in_of (kV_is ry) hd dd.mapOf ?_
    rw [← (rel.val k).isSome_eq, ← l]
    exact h _ (I.tok _)
  · subst ey
    cases (show u = Value.ref b from ry)
    obtain ⟨z, hd, xs, rel, dd⟩ := dt_rd I.hok e
    refine wpAny_in_heap (nest_room hu) (key_of I.hok eb) hd dd ?_
    have q := (rel.val k).isSome_eq
    rw [Option.isSome_map] at q
    rw [← q, ← l]
    exact h _ (I.tok _)
theorem d_notIn {Q : Value → Shared → Prop} (hu : A.units + 16 < cLine) (I : Inv X pins σ H s) (g : DGet H a y o) (ry : RelV y u) (h : ∀ s', Inv X pins σ H s' → Q (.bool (!o.isSome)) s') :
    wpAny (model X.prog X.w) A (compareOp .NotIn u (.ref a)) Q E s := by
  rcases g with ⟨kvs, k, e, ey, l⟩ | ⟨kvs, k, b, e, ey, eb, l⟩
  · subst ey
    obtain ⟨z, hd, vs, rel, dd⟩ := dk_rd I.hok e
    refine wpAny_notIn_of (kV_is ry) hd dd.mapOf ?_
    rw [← (rel.val k).isSome_eq, ← l]
    exact h _ (I.tok _)
  · subst ey
    cases (show u = Value.ref b from ry)
    obtain ⟨z, hd, xs, rel, dd⟩ := dt_rd I.hok e
    refine wpAny_notIn_heap (nest_room hu) (key_of I.hok eb) hd dd ?_
    have q := (rel.val k).isSome_eq
    rw [Option.isSome_map] at q
    rw [← q, ← l]
    exact h _ (I.tok _)
theorem d_write {h' : Heap} {t' : Nat} {ob : HO} (I : Inv X pins σ H s) (mu : Mut (H a)) (hs : Heap.SameBut a s.heap h') (he : ∃ q, h'.get? a = some q) (new : ObjOk X.prog X.w (upd H a ob) h' a ob) :
    Inv X pins σ (upd H a ob) { s with heap := h', toks := t' } :=
  I.write (x := a) (e := a) mu (.inl rfl) (fun b q hb z => (hs.2 b hb).trans z) he new
theorem dk_new {P : Program} {w : World} {H' : Hp} {h' : Heap} {kvs : List (Key × V)} {vs : List (Key × Value)} (z : kvs.length ≤ sizeLine) (hd : (a == sysModules) = false) (rel : KV kvs vs) (dd : h'.DictOf (mixKind P w) a vs) :
    ObjOk P w H' h' a (.dK kvs) := ⟨z, hd, vs, rel, dd⟩
theorem d_setItem {H' : Hp} {Q : Unit → Shared → Prop} (hu : A.units + 16 < cLine) (I : Inv X pins σ H s) (g : DPut H a y v H') (ry : RelV y u) (rv : RelV v r) (h : ∀ s', Inv X pins σ H' s' → Q () s') :
    wpAny (model X.prog X.w) A (setItem (.ref a) u r) Q E s := by
  rcases g with ⟨kvs, k, e, ey, l, eH⟩ | ⟨kvs, k, b, e, ey, eb, l, eH⟩
  · subst ey eH
    obtain ⟨z, hd, vs, rel, dd⟩ := dk_of I.hok e
    have hz : vs.length ≤ sizeLine := by rw [← rel.length]; exact z
    have hl : (putK kvs k v).length ≤ sizeLine := by have := length_putK kvs k v; omega
    refine wpAny_setItem_pairs (hsz := hz) (kV_is ry) dd fun h' dd' hs => h _ ?_
    have he : ∃ q, h'.get? a = some q := let ⟨q, _, _, hq, _⟩ := dd'; ⟨q, hq⟩
    exact d_write I (by rw [e]; exact True.intro) hs he (dk_new hl hd (rel.put k rv) dd')
  · subst ey eH
    cases (show u = Value.ref b from ry)
    obtain ⟨z, hd, xs, rel, dd⟩ := dt_of I.hok e
    have hz : xs.length ≤ sizeLine := by rw [← Paired.length rel]; exact z
    have hl : (putK kvs k v).length ≤ sizeLine := by have := length_putK kvs k v; omega
    refine wpAny_setItem_heap (hsz := hz) (nest_room hu) (key_of I.hok eb) dd fun h' dd' hs => h _ ?_
    obtain ⟨q, es, ep, hq, h2, h3, h4, _, h5⟩ := dd'
    refine d_write I (by rw [e]; exact True.intro) hs ⟨q, hq⟩ ⟨hl, hd, _, (rel.put k eb rv).keeps fun c ys ec => ?_, q, es, ep, hq, h2, h3, h4, h5⟩
    rw [upd_ne (ne_of ec e (fun z => nomatch z))]
    exact ec
end
section
variable {X : Cx} {pins : List (Addr × Obj)} {σ : St} {H : Hp} {s : Shared} {a : Addr} {kvs : List (Key × V)} {k : Key} {u : Value} {A : Around} {E : Value → Shared → Prop}
theorem d_delItem {Q : Unit → Shared → Prop} (I : Inv X pins σ H s) (e : H a = some (.dK kvs)) (ry : RelV (kV k) u) (l : (valV kvs k).isSome = true) (h : ∀ s', Inv X pins σ (upd H a (.dK (dropK kvs k))) s' → Q () s') :
    wpAny (model X.prog X.w) A (delItem (.ref a) u) Q E s := by
  obtain ⟨z, hd, vs, rel, dd⟩ := dk_of I.hok e
  refine wpAny_delItem_slot dd.typeIs (by decide) PySem.F.slot_dict_delitem
    (call_meetsIn PySem.F.slot_dict_delitem dd.typeIs PySem.F.entry_dict_delitem (PySem.F.args_dict_delitem_2 _ _) (meets_dict_delitem_pairs (mixKind X.prog X.w) a (kV_is ry)) ⟨vs, dd, by rw [← rel.length]; exact z, by rw [← (rel.val k).isSome_eq]; exact l, fun h' dd' hs => h _ ?_⟩)
  have he : ∃ q, h'.get? a = some q := let ⟨q, _, _, hq, _⟩ := dd'; ⟨q, hq⟩
  exact d_write I (by rw [e]; exact True.intro) hs he (dk_new (Nat.le_trans (dropK_le kvs k) z) hd (rel.drop k) dd')
theorem d_pop {v : V} {more : List Value} {Q : Value → Shared → Prop} (I : Inv X pins σ H s) (e : H a = some (.dK kvs)) (ry : RelV (kV k) u) (l : valV kvs k = some v) (hm : more = [] ∨ ∃ x, more = [x])
    (h : ∀ w' s', Inv X pins σ (upd H a (.dK (dropK kvs k))) s' → RelV v w' → Q w' s') : wpAny (model X.prog X.w) A (call (.builtin "dict.pop") (.ref a :: u :: more)) Q E s := by
  obtain ⟨z, hd, vs, rel, dd⟩ := dk_of I.hok e
  obtain ⟨w', hw, rw'⟩ := RelO.some_of (v := v) (o := valueAt vs k) (by rw [← l]; exact rel.val k)
  have hp : (keyPart u).isSome = true := by
    cases k with
    | inl i => obtain ⟨t, q⟩ := (show ∃ t, u = Value.int i t from ry); subst q; rfl
    | inr x => obtain ⟨t, q⟩ := (show ∃ t, u = Value.str x t from ry); subst q; rfl
  have ha : argsOk "dict.pop" ⟨.ref a :: u :: more, []⟩ := by
    rcases hm with q | ⟨x, q⟩
    · subst q; exact PySem.F.args_dict_pop_2 _ _
    · subst q; exact PySem.F.args_dict_pop_3 _ _ _
  refine call_meetsIn PySem.F.slot_dict_pop dd.typeIs PySem.F.entry_dict_pop ha (meets_dict_pop_there (mixKind X.prog X.w) a (kV_is ry) more hm hp)
    ⟨vs, w', dd, by rw [← rel.length]; exact z, hw, fun h' dd' hs => h w' _ ?_ rw'⟩
  have he : ∃ q, h'.get? a = some q := let ⟨q, _, _, hq, _⟩ := dd'; ⟨q, hq⟩
  exact d_write I (by rw [e]; exact True.intro) hs he (dk_new (Nat.le_trans (dropK_le kvs k) z) hd (rel.drop k) dd')
theorem d_len {Q : Value → Shared → Prop} (I : Inv X pins σ H s) (e : Rd H a (.dK kvs)) (h : ∀ t s', Inv X pins σ H s' → Q (.int kvs.length t) s') : wpAny (model X.prog X.w) A (call (.builtin "len") [.ref a]) Q E s := by
  obtain ⟨z, hd, vs, rel, dd⟩ := dk_rd I.hok e
  refine call_len_dict hd dd (by rw [← rel.length]; rw [sizeLine_eq] at z; omega) ?_
  rw [← rel.length]
  exact h _ _ (I.tok _)
end
def NoSl (i : Expr) : Prop := ∀ ov iv, subscripted i false ov iv = operate [ov, iv] (getItem ov iv)
theorem subD_of {prog : Program} {w : World} {A : Around} {E : Value → Shared → Prop} {s : Shared} {env : Env} {value slice : Expr} {pos : Pos} {T id : String} {Q : Value → Shared → Prop}
    (hl : typeLookup (.type T) "__getitem__" = pure (some (.builtin id))) (hs : NoSl slice)
    (h : wpAny (model prog w) A (eval value env) (fun o s₁ => wpAny (model prog w) A (eval slice env) (fun i s₂ => s₂.TypeIs o T ∧ wpAny (model prog w) A (getItem o i) Q E s₂) E s₁) E s) :
    wpAny (model prog w) A (eval (.Subscript value slice pos) env) Q E s := by
  refine Subscript_ (wpAny_mono h (fun o s₁ h₁ => wpAny_mono h₁ (fun i s₂ h₂ => ?_) fun _ _ x => x) fun _ _ x => x)
  obtain ⟨hT, h₂⟩ := h₂
  unfold subscriptTail
  refine wpAny_bind ?_
  rw [getitemInPython_of_ne hT.not_modules]
  refine wpAny_bind (wpAny_specialOf hT hl ?_)
  have fin : wpAny (model prog w) A (subscripted slice false o i) (fun r s₃ => wpAny (model prog w) A (letTemporaryGo value o r >>= fun _ => pure r) Q E s₃) E s₂ := by
    rw [hs o i]
    exact wpAny_operating (wpAny_mono h₂ (fun r s₃ h₃ => wpAny_bind (wpAny_letTemporaryGo (wpAny_pure h₃))) fun _ _ x => x)
  first
    | exact wpAny_pure (wpAny_bind fin)
    | exact wpAny_bind (wpAny_pure (wpAny_bind fin))
    | exact wpAny_bind fin
theorem dict_typeIs {X : Cx} {pins : List (Addr × Obj)} {σ : St} {H : Hp} {s : Shared} {a : Addr} {y : V} {o : Option V} (I : Inv X pins σ H s) (g : DGet H a y o) : s.TypeIs (.ref a) "dict" := by
  rcases g with ⟨kvs, k, e, _, _⟩ | ⟨kvs, k, b, e, _, _, _⟩
  · obtain ⟨_, _, vs, _, dd⟩ := dk_rd I.hok e
    exact dd.typeIs
  · obtain ⟨_, _, xs, _, dd⟩ := dt_rd I.hok e
    exact dd.typeIs
def tDGet (td ty : TE) : TE := fun σ H Q => td σ H fun x H1 => ty σ H1 fun y H2 => ∃ a v, x = .ref a ∧ DGet H2 a y (some v) ∧ Q v H2
def tDIn (ty td : TE) : TE := fun σ H Q => ty σ H fun y H1 => td σ H1 fun x H2 => ∃ a o, x = .ref a ∧ DGet H2 a y o ∧ Q (.bl o.isSome) H2
def tDNotIn (ty td : TE) : TE := fun σ H Q => ty σ H fun y H1 => td σ H1 fun x H2 => ∃ a o, x = .ref a ∧ DGet H2 a y o ∧ Q (.bl (!o.isSome)) H2
def sDPut (td ty tv : TE) : TS := fun D σ H => tv σ H fun v H1 => td σ H1 fun x H2 => ty σ H2 fun y H3 => ∃ a H4, x = .ref a ∧ DPut H3 a y v H4 ∧ D.nx σ H4
section
variable {X : Cx} {o i e value : Expr} {pos pos' tpos : Pos} {td ty tv : TE}
theorem pe_dget (hu : X.A.units + 16 < cLine) (ho : PE X o td) (hi : PE X i ty) (hs : NoSl i) : PE X (.Subscript o i pos) (tDGet td ty) := by
  intro pins s σ H Q I h
  refine subD_of PySem.F.slot_dict_getitem.lookup hs (thn (ho pins s σ H _ I h) fun u s1 ⟨x, H1, I1, rx, q1⟩ => thn (hi pins s1 σ H1 _ I1 q1) fun iv s2 ⟨y, H2, I2, ry, a, v, ex, g, q2⟩ => ?_)
  subst ex
  obtain rfl : u = Value.ref a := rx
  exact ⟨dict_typeIs I2 g, d_getItem hu I2 g ry fun w' s3 I3 rw' => ⟨v, H2, I3, rw', q2⟩⟩
theorem pc_din (hu : X.A.units + 16 < cLine) (hi : PE X i ty) (ho : PE X o td) : PC X .In i o (tDIn ty td) := by
  intro pins s σ H Q I h
  refine thn (hi pins s σ H _ I h) fun iv s1 ⟨y, H1, I1, ry, q1⟩ => thn (ho pins s1 σ H1 _ I1 q1) fun u s2 ⟨x, H2, I2, rx, a, ov, ex, g, q2⟩ => ?_
  subst ex
  obtain rfl : u = Value.ref a := rx
  exact d_in hu I2 g ry fun s3 I3 => ⟨.bl ov.isSome, H2, I3, rfl, q2⟩
theorem pc_dnotin (hu : X.A.units + 16 < cLine) (hi : PE X i ty) (ho : PE X o td) : PC X .NotIn i o (tDNotIn ty td) := by
  intro pins s σ H Q I h
  refine thn (hi pins s σ H _ I h) fun iv s1 ⟨y, H1, I1, ry, q1⟩ => thn (ho pins s1 σ H1 _ I1 q1) fun u s2 ⟨x, H2, I2, rx, a, ov, ex, g, q2⟩ => ?_
  subst ex
  obtain rfl : u = Value.ref a := rx
  exact d_notIn hu I2 g ry fun s3 I3 => ⟨.bl (!ov.isSome), H2, I3, rfl, q2⟩
theorem ps_dput (hu : X.A.units + 16 < cLine) (ho : PE X o td) (hi : PE X i ty) (hv : PE X value tv) (hs : swapsWith value (some (.Subscript o i pos')) pos.line X.env = pure false) :
    PS X (.Assign [.Subscript o i pos'] value pos) (sDPut td ty tv) := by
  intro pins s σ H D I h
  refine wpAny_Assign_Subscript (thn (hv pins s σ H _ I h) fun r s1 ⟨v, H1, I1, rv, q1⟩ => thn (ho pins s1 σ H1 _ I1 q1) fun u s2 ⟨x, H2, I2, rx, q2⟩ => thn (hi pins s2 σ H2 _ I2 q2) fun iv s3 ⟨y, H3, I3, ry, a, H4, ex, g, q3⟩ => ?_) hs
  subst ex
  obtain rfl : u = Value.ref a := rx
  exact d_setItem hu I3 g ry rv fun s4 I4 => ⟨σ, H4, I4, q3⟩
end
theorem dk_empty {P : Program} {w : World} {H : Hp} (h : Heap) (hb : sysModules < h.objs.size) : ObjOk P w H (h.push { cls := .type "dict", data := .dict #[] }) h.objs.size (.dK []) :=
  ⟨Nat.zero_le _, beq_eq_false_iff_ne.mpr (Ne.symm (Nat.ne_of_lt hb)), [], .nil, Heap.DictOf.new h⟩
theorem dt_empty {P : Program} {w : World} {H : Hp} (h : Heap) (hb : sysModules < h.objs.size) : ObjOk P w H (h.push { cls := .type "dict", data := .dict #[] }) h.objs.size (.dT []) :=
  ⟨Nat.zero_le _, beq_eq_false_iff_ne.mpr (Ne.symm (Nat.ne_of_lt hb)), [], .nil, _, #[], 0, Heap.get?_push_size _ rfl, ⟨rfl, rfl, rfl⟩, rfl, rfl, List.nodup_nil⟩
def tDNewK : TE := fun _ H Q => ∀ p, H p = none → Q (.ref p) (upd H p (.dK []))
def tDNewT : TE := fun _ H Q => ∀ p, H p = none → Q (.ref p) (upd H p (.dT []))
section
variable {X : Cx} {pos : Pos}
theorem pe_dnewK : PE X (.Dict [] [] pos) tDNewK := fun pins s σ H Q I h =>
  wpAny_Dict_empty ⟨.ref s.heap.objs.size, _, I.laid (a := s.heap.objs.size) (o := .dK []) (t' := s.toks) (fun _ _ q => Heap.get?_push_of_some _ q) (Nat.le_refl _) (dk_empty s.heap I.big), rfl, h _ (I.hok.fresh (Nat.le_refl _))⟩
theorem pe_dnewT : PE X (.Dict [] [] pos) tDNewT := fun pins s σ H Q I h =>
  wpAny_Dict_empty ⟨.ref s.heap.objs.size, _, I.laid (a := s.heap.objs.size) (o := .dT []) (t' := s.toks) (fun _ _ q => Heap.get?_push_of_some _ q) (Nat.le_refl _) (dt_empty s.heap I.big), rfl, h _ (I.hok.fresh (Nat.le_refl _))⟩
end
def mergeK (kvs more : List (Key × V)) : List (Key × V) := more.foldl (fun acc kv => putK acc kv.1 kv.2) kvs
theorem KV.merge : ∀ {more : List (Key × V)} {rs : List (Key × Value)} {kvs : List (Key × V)} {vs : List (Key × Value)}, KV more rs → KV kvs vs → KV (mergeK kvs more) (merged vs rs) := by
  intro more rs kvs vs r
  unfold KV at r
  induction r generalizing kvs vs with
  | nil => intro q; exact q
  | @cons p q ps qs h t ih =>
    intro r0
    have e : KV (putK kvs p.1 p.2) (stored vs q.1 q.2) := by
      have := r0.put p.1 h.2
      rw [← h.1]; exact this
    exact ih e
theorem length_mergeK : ∀ (more kvs : List (Key × V)), (mergeK kvs more).length ≤ kvs.length + more.length
  | [], kvs => by show kvs.length ≤ kvs.length + 0; omega
  | p :: r, kvs => by
    have h1 := length_mergeK r (putK kvs p.1 p.2)
    have h2 := length_putK kvs p.1 p.2
    show (mergeK (putK kvs p.1 p.2) r).length ≤ _
    rw [List.length_cons]; omega
structure M1 (X : Cx) (o : Expr) (m : Str) (apos : Pos) (e : Expr) (cpos : Pos) : Prop where
  base : attributeBase o m X.env (eval o X.env) = eval o X.env
  few : ((backTo cpos (starEach [e] X.env)).all (fun x => !x.1) && (backToKw cpos (keywordEach [] X.env)).all (fun x => x.1.isSome)
    && decide (([e] : List Expr).length + ([] : List Keyword).length + (if ([] : List Keyword).isEmpty then 0 else 1) < 30)) = true
  line : (apos.endLine == cpos.line) = true
  trees : backTo cpos (starEach [e] X.env) = [(false, eval e X.env)]
def IsD (H : Hp) (a : Addr) : Prop := (∃ kvs, Rd H a (.dK kvs)) ∨ ∃ kvs, Rd H a (.dT kvs)
theorem isD_at {X : Cx} {pins : List (Addr × Obj)} {σ : St} {H : Hp} {s : Shared} {a : Addr} (I : Inv X pins σ H s) (d : IsD H a) :
    s.TypeIs (.ref a) "dict" ∧ (∀ b, Value.ref a = .ref b → ∃ ob, s.heap.get? b = some ob ∧ ob.dict = none) ∧ (a == sysModules) = false := by
  rcases d with ⟨kvs, e⟩ | ⟨kvs, e⟩
  · obtain ⟨_, hd, vs, _, dd⟩ := dk_rd I.hok e
    refine ⟨dd.typeIs, fun b q => ?_, hd⟩
    cases q
    obtain ⟨ob, _, _, h1, h2, _⟩ := dd
    exact ⟨ob, h1, h2.2.1⟩
  · obtain ⟨_, hd, xs, _, dd⟩ := dt_rd I.hok e
    refine ⟨dd.typeIs, fun b q => ?_, hd⟩
    cases q
    obtain ⟨ob, _, _, h1, h2, _⟩ := dd
    exact ⟨ob, h1, h2.2.1⟩
section
variable {X : Cx} {pins : List (Addr × Obj)} {σ : St} {H : Hp} {s : Shared} {a : Addr} {y d : V} {u r : Value} {o : Option V} {A : Around} {E : Value → Shared → Prop}
end
def tDPop1 (td ty : TE) : TE := fun σ H Q => td σ H fun x H1 => ∃ a, x = .ref a ∧ IsD H1 a ∧ ty σ H1 fun y H2 => ∃ kvs k v, H2 a = some (.dK kvs) ∧ y = kV k ∧ valV kvs k = some v ∧ Q v (upd H2 a (.dK (dropK kvs k)))
section
variable {X : Cx} {o e f : Expr} {apos cpos : Pos} {td ty tx : TE}
theorem pe_dpop1 (ho : PE X o td) (he : PE X e ty) (m : M1 X o "pop" apos e cpos) : PE X (.Call (.Attribute o "pop" apos) [e] [] cpos) (tDPop1 td ty) := by
  intro pins s σ H Q I h
  refine wpAny_Call_method m.base m.few m.line PySem.F.plainAttrs_dict PySem.F.slot_dict_pop PySem.F.type_dict_pop (thn (ho pins s σ H _ I h) fun u s1 ⟨x, H1, I1, rx, a, ex, d, q1⟩ => ?_)
  subst ex
  obtain rfl : u = Value.ref a := rx
  obtain ⟨t1, t2, _⟩ := isD_at I1 d
  refine ⟨t1, t2, ?_⟩
  rw [m.trees]
  refine Calls.callWith_builtin rfl (Calls.evalArgs_plain (Calls.spliced_cons (thn (he pins s1 σ H1 _ I1 q1) fun iv s2 ⟨y, H2, I2, ry, kvs, k, v, ea, ey, l, q2⟩ => Calls.spliced_nil ?_)))
  subst ey
  exact d_pop I2 ea ry l (.inl rfl) fun w' s3 I3 rw' => ⟨v, _, I3, rw', q2⟩
end
section
variable {X : Cx} {pins : List (Addr × Obj)} {σ : St} {H : Hp} {s : Shared} {a : Addr} {kvs : List (Key × V)} {A : Around} {E : Value → Shared → Prop}
end
section
variable {X : Cx} {pins : List (Addr × Obj)} {σ : St} {H : Hp} {s : Shared} {a : Addr} {y : V} {u : Value} {A : Around} {E : Value → Shared → Prop}
end
end L2
namespace L2
open PySem PySem.Spec PyProof.Rows
section
variable {prog : Program} {w : World} {A : Around} {E : Value → Shared → Prop}
end
section
variable {X : Cx}
end
end L2
namespace L2
open PySem PySem.Spec PyProof.Rows
section
variable {X : Cx} {pins : List (Addr × Obj)} {σ : St} {H : Hp} {s : Shared} {h' : Heap}
theorem Inv.turnedNew {t' : Nat} {ch : List Addr} {T : Addr} {ob : HO} (I : Inv X pins σ H s) (k : ∀ b o, b ∉ ch → s.heap.get? b = some o → h'.get? b = some o) (hf : ∀ b ∈ ch, FpOk X pins H b) (hT : s.heap.objs.size ≤ T)
    (new : ObjOk X.prog X.w (upd H T ob) h' T ob) : Inv X pins σ (upd H T ob) { s with heap := h', toks := t' } := by
  have hn : H T = none := I.hok.fresh hT
  have nit : ∀ b u, H b = some u → b ∉ ch := fun b u e z => by
    have q := (hf b z).1
    rw [q] at e; cases e
  refine I.step (g' := s.gens) (d' := s.drawn) (ch := ch) (fun b hb => ⟨(hf b hb).2.2.2.1, (hf b hb).2.1, (hf b hb).2.2.2.2.1, (hf b hb).2.2.2.2.2⟩) (fun b o _ _ hc e _ => k b o hc e) (fun b o _ _ hc e _ => ⟨o.slots, k b o hc e⟩)
    (fun b o _ e n => ?_) (fun b o hc e => ⟨o, k b o hc e⟩) (fun b xs e => ?_) (fun b o u e => ?_) (fun b ps e => ⟨#[], ?_⟩) (fun m hm => ?_) (fun b u e => ?_) I.bare
  · rw [upd_ne (Nat.ne_of_lt (Nat.lt_of_lt_of_le (Heap.lt_size e) hT))]; exact n
  · rw [upd_ne (ne_of_none e hn)]; exact e
  · rw [upd_ne (ne_of_none e hn)]; exact e
  · rw [upd_ne (ne_of_none e hn), e]; simp
  · obtain ⟨o, es, ep, ho, r⟩ := hm
    exact ⟨o, es, ep, k _ o (fun z => (hf _ z).2.1 rfl) ho, r⟩
  · by_cases hb : b = T
    · subst hb
      rw [upd_same] at e
      cases e
      exact new
    · rw [upd_ne hb] at e
      refine (I.hok b u e).stay (fun c v hc q => k c v ?_ q) (fun c q => by rw [upd_ne (ne_of_none q hn)]; exact q) fun c xs q => by rw [upd_ne (ne_of_none q hn)]; exact q
      rcases hc with z | z
      · rw [z]; exact nit b u e
      · exact nit c _ z
theorem Inv.lock {d : Addr} {u : HO} (I : Inv X pins σ H s) (h : H d = some u) (mu : Mut (some u)) : ∃ od, Inv X pins σ (upd H d (.frz od u)) s := by
  have x := I.hok d u h
  have ex : ∃ od, s.heap.get? d = some od := by
    cases u with
    | lst xs => obtain ⟨_, _, _, _, e⟩ := x; exact ⟨_, e⟩
    | dK kvs => obtain ⟨_, _, _, _, o, _, _, e, _⟩ := x; exact ⟨o, e⟩
    | dT kvs => obtain ⟨_, _, _, _, o, _, _, e, _⟩ := x; exact ⟨o, e⟩
    | set S n => obtain ⟨o, _, _, _, e, _⟩ := x; exact ⟨o, e⟩
    | ins C dx fs => obtain ⟨_, _, _, e, _⟩ := x; exact ⟨_, e⟩
    | ext φ => obtain ⟨_, ⟨_, e⟩, _⟩ := x; exact ⟨_, e⟩
    | _ => exact False.elim mu
  obtain ⟨od, e⟩ := ex
  have new : ObjOk X.prog X.w (upd H d (.frz od u)) s.heap d (.frz od u) := by
    refine ⟨e, x.stay (fun b v _ q => q) (fun b q => ?_) fun b xs q => ?_⟩
    · rw [upd_ne (fun z => by rw [z, h] at q; cases q; exact mu)]; exact q
    · rw [upd_ne (fun z => by rw [z, h] at q; cases q; exact mu)]; exact q
  exact ⟨od, I.write (x := d) (e := d) (t' := s.toks) (h' := s.heap) (by rw [h]; exact mu) (.inl rfl) (fun b v _ q => q) ⟨od, e⟩ new⟩
theorem Inv.nofrz {d : Addr} {u : HO} (I : Inv X pins σ H s) (h : H d = some u) (mu : Mut (some u)) : ∀ o' u', X.H₀ d ≠ some (.frz o' u') := fun o' u' e => by
  have q := I.base.frzs d o' u' e
  rw [h] at q
  cases q
  exact mu
theorem Inv.unlock {d : Addr} {od : Obj} {u : HO} (I : Inv X pins σ H s) (h : H d = some (.frz od u)) (hn : ∀ o' u', X.H₀ d ≠ some (.frz o' u')) : Inv X pins σ (upd H d u) s := by
  have neH : ∀ b o, H b = some o → (∀ o' u', o ≠ .frz o' u') → b ≠ d := fun b o e hne z => by
    rw [z, h] at e
    cases e
    exact hne _ _ rfl
  have neN : ∀ b, H b = none → b ≠ d := fun b e z => by rw [z, h] at e; cases e
  refine ⟨I.ok, I.os, I.bare, ⟨I.base.keep, I.base.slot, fun b o e n hx => ?_, I.base.there, fun b xs e => ?_, fun b o x e => ?_, fun b ps e => ?_⟩, I.loc, I.cell, ?_, fun x c e => ?_, fun p hp => ?_, fun b o e => ?_, I.len⟩
  · rw [upd_ne (neN b (I.base.free b o e n hx))]; exact I.base.free b o e n hx
  · have q := I.base.tups b xs e
    rw [upd_ne (neH b _ q (fun _ _ z => nomatch z))]; exact q
  · have q := I.base.frzs b o x e
    rw [upd_ne (fun z => by rw [z] at e; exact hn _ _ e)]; exact q
  · obtain ⟨m, q⟩ := I.base.tbls b ps e
    exact ⟨m, by rw [upd_ne (neH b _ q (fun _ _ z => nomatch z))]; exact q⟩
  · rw [upd_ne (neN _ I.free)]; exact I.free
  · rw [upd_ne (neN c (I.freeC x c e))]; exact I.freeC x c e
  · obtain ⟨e, n, r⟩ := I.pin p hp
    exact ⟨e, by rw [upd_ne (neN _ n)]; exact n, r⟩
  · by_cases hb : b = d
    · rw [hb, upd_same] at e
      cases e
      rw [hb]
      obtain ⟨_, x⟩ := I.hok d _ h
      exact x.stay (fun c v _ q => q) (fun c q => by rw [upd_ne (neH c _ q (fun _ _ z => nomatch z))]; exact q) fun c xs q => by rw [upd_ne (neH c _ q (fun _ _ z => nomatch z))]; exact q
    · rw [upd_ne hb] at e
      exact (I.hok b o e).stay (fun c v _ q => q) (fun c q => by rw [upd_ne (neH c _ q (fun _ _ z => nomatch z))]; exact q) fun c xs q => by rw [upd_ne (neH c _ q (fun _ _ z => nomatch z))]; exact q
end
def tLock (t : TS) : TS := fun D σ H => ∃ d u, H d = some u ∧ Mut (some u) ∧ ∀ od, t ⟨fun σ' H' => H' d = some (.frz od u) ∧ D.nx σ' (upd H' d u), fun v H' => H' d = some (.frz od u) ∧ D.rt v (upd H' d u), fun σ' H' => H' d = some (.frz od u) ∧ D.bk σ' (upd H' d u), fun σ' H' => H' d = some (.frz od u) ∧ D.ct σ' (upd H' d u)⟩ σ (upd H d (.frz od u))
def tLockE (t : TE) : TE := fun σ H Q => ∃ d u, H d = some u ∧ Mut (some u) ∧ ∀ od, t σ (upd H d (.frz od u)) fun v H' => H' d = some (.frz od u) ∧ Q v (upd H' d u)
section
variable {X : Cx}
theorem ps_lock {st : Stmt} {t : TS} (h : PS X st t) : PS X st (tLock t) := by
  intro pins s σ H D I hw
  obtain ⟨d, u, hd, mu, hw⟩ := hw
  obtain ⟨od, I1⟩ := I.lock hd mu
  refine thn (h pins s σ _ _ I1 (hw od)) fun f s1 q => ?_
  cases f with
  | next => obtain ⟨σ', H', I2, e, q⟩ := q; exact ⟨σ', _, I2.unlock e (I.nofrz hd mu), q⟩
  | brk => obtain ⟨σ', H', I2, e, q⟩ := q; exact ⟨σ', _, I2.unlock e (I.nofrz hd mu), q⟩
  | cont => obtain ⟨σ', H', I2, e, q⟩ := q; exact ⟨σ', _, I2.unlock e (I.nofrz hd mu), q⟩
  | ret v => obtain ⟨x, σ', H', I2, r, e, q⟩ := q; exact ⟨x, σ', _, I2.unlock e (I.nofrz hd mu), r, q⟩
theorem pe_lock {e : Expr} {t : TE} (h : PE X e t) : PE X e (tLockE t) := by
  intro pins s σ H Q I hw
  obtain ⟨d, u, hd, mu, hw⟩ := hw
  obtain ⟨od, I1⟩ := I.lock hd mu
  refine thn (h pins s σ _ _ I1 (hw od)) fun v s1 ⟨x, H1, I2, r, e2, q⟩ => ?_
  exact ⟨x, _, I2.unlock e2 (I.nofrz hd mu), r, q⟩
theorem pi_one {tg : Expr} {pins : List (Addr × Obj)} {σ : St} {H : Hp} {s : Shared} {R : It → Hp → Prop} {J : It} {tn : Nat → Heap → Prop} {tk : Nat} (I : Inv X pins σ H s) (o : Obj)
    (T : Turn X.prog X.w X.K tg J [s.heap.objs.size] s.heap.objs.size tn) (st : tn 0 (s.heap.push o)) (q : R J H) : PIE X pins σ tg R (.ref s.heap.objs.size) { s with heap := s.heap.push o, toks := tk } := by
  refine ⟨s.heap.objs.size, [s.heap.objs.size], tn, J, H, rfl, I.kept fun b ob e => Heap.get?_push_of_some _ e, T, st, fun b hb => ?_, q⟩
  have e : b = s.heap.objs.size := by simpa using hb
  subst e
  exact I.fpOk (Nat.le_refl _) (I.hok.fresh (Nat.le_refl _))
end
def Itc (lo c : Int) (n : Nat) : It := ⟨fun i _ => i < n, fun i H x H' => H' = H ∧ x = .int (lo + (i : Nat) * c), fun i _ => n ≤ i⟩
theorem turn_rangeC {P : Program} {w : World} {K : PySem.W.Frag} {tg : Expr} (it : Addr) (lo c : Int) (n : Nat) : Turn P w K tg (Itc lo c n) [it] it (fun i h => IsRangeIter h it (lo + (i : Nat) * c) ((n : Int) - (i : Nat)) c) where
  mem := by simp
  obj := fun i h st b hb => by
    have e : b = it := by simpa using hb
    subst e
    exact ⟨_, st, fun v z => nomatch z⟩
  keep := fun i h h' st k => k it (by simp) _ st
  item := by
    intro X hP hw hK hc i pins s σ H E I hf st hg
    subst hP hw hK
    obtain ⟨f0, f1, f2, f3, f4, f5⟩ := hf it (by simp)
    have W := Walks.range (prog := X.prog) (w := X.w) (I.ok.hd hc) it lo c n
    refine W.item i s _ _ hg st fun v h' tk hv st' kk => ?_
    obtain ⟨t, rfl⟩ := hv
    have I1 : Inv X pins σ H { s with heap := h', toks := tk } := I.turned (fun b o hb e => kk b o (by simpa using hb) e) f0 f1 f3 f4 f5
    exact ⟨_, rfl, go_of (s := { s with heap := h', toks := tk }) (n := "range_iterator") st' rfl rfl (by decide) ⟨.int (lo + (i : Nat) * c), H, I1, ⟨t, rfl⟩, ⟨rfl, rfl⟩, st', fun b hb => (hf b hb).1⟩⟩
  done := by
    intro X hP hw hK hc i pins s σ H E I hf st hg
    subst hP hw hK
    obtain ⟨f0, f1, f2, f3, f4, f5⟩ := hf it (by simp)
    exact wpAny_pyNext_range_end (I.ok.hd hc) st (by have : n ≤ i := hg; omega) fun h' eb => ⟨rfl, I.turned (t' := s.toks) (fun b o hb e => eb b o hb e) f0 f1 f3 f4 f5⟩
  self := fun A i s Q E st h => wpAny_pyIter_rangeiter st h
def RgC (i j c : Int) (n : Nat) : Prop := c ≠ 0 ∧ c.natAbs < 1073741824 ∧ Builtin.Range.small i j c = true ∧ Builtin.Range.rangeSize i j c = n
def iRng3 (ta : TA) : TI := fun σ H R => ta σ H fun vs H1 => ∃ (i j c : Int) (n : Nat), vs = [.int i, .int j, .int c] ∧ RgC i j c n ∧ R (Itc i c n) H1
section
variable {X : Cx} {tg : Expr}
theorem pi_range3 {a b c : Expr} {ta : TA} {p pos : Pos} (hg : Gl X "range") (hm : X.mg "range" = none) (ha : PA X [a, b, c] ta)
    (hs : starEach [a, b, c] X.env = (false, eval a X.env) :: starEach [b, c] X.env := by rfl) (hpl : (backTo pos (starEach [b, c] X.env)).any (·.1) = false := by rfl) :
    PI X tg (.Call (.Name "range" p) [a, b, c] [] pos) (iRng3 ta) := by
  intro pins s σ H R I h
  refine Call_ (ld_blt I hg hm boot_range (PyProof.Rows.callWith_type1 (thn (ha pos pins s σ H _ I h) fun us s1 ⟨vs, H1, I1, r1, q1⟩ => ?_) hs hpl))
  obtain ⟨i, j, k, n, e, ⟨c0, c1, c2, c3⟩, q⟩ := q1
  subst e
  cases r1 with
  | cons r rr =>
    cases rr with
    | cons r' rr =>
      cases rr with
      | cons r'' rr =>
        cases rr
        obtain ⟨t, rfl⟩ := r
        obtain ⟨t', rfl⟩ := r'
        obtain ⟨t'', rfl⟩ := r''
        refine call_range_3 c0 ?_ (.inl (PyProof.noPylong_small c1))
        refine wpAny_pyIter_range (IsRange.new ..) c2 ?_
        have I2 : Inv X pins σ H1 { s1 with heap := s1.heap.push { cls := .type "range", data := .fields #[.int i t, .int j t', .int k t''] } } := I1.kept (t' := s1.toks) fun b o e => Heap.get?_push_of_some _ e
        refine pi_one (tk := s1.toks) I2 _ (turn_rangeC _ i k n) ?_ q
        have e1 : i + ((0 : Nat) : Int) * k = i := by simp
        have e2 : (n : Int) - ((0 : Nat) : Int) = Builtin.Range.rangeSize i j k := by rw [c3]; simp
        show IsRangeIter _ _ (i + ((0 : Nat) : Int) * k) ((n : Int) - ((0 : Nat) : Int)) k
        rw [e1, e2]
        exact Heap.get?_push_size _ rfl
end
theorem for_rangeC {lo c : Int} {n : Nat} {g : TG} {tb : TS} {D : Ends} {σ : St} {H : Hp} (Pv : Nat → St → Hp → Prop) (h0 : Pv 0 σ H)
    (hs : ∀ i σ H, i < n → Pv i σ H → g (.int (lo + (i : Nat) * c)) σ H fun σ2 H2 => tb { D with nx := Pv (i + 1), ct := Pv (i + 1), bk := D.nx } σ2 H2) (hd : ∀ σ H, Pv n σ H → D.nx σ H) :
    ∃ W : Nat → Nat → St → Hp → Prop, (∃ m, W 0 m σ H) ∧ ∀ i m σ H, W i m σ H →
      ((Itc lo c n).stop i H ∧ D.nx σ H) ∨ ((Itc lo c n).go i H ∧ ∃ N : St → Hp → Prop, (∀ σ' H', N σ' H' → ∃ m', m' < m ∧ W (i + 1) m' σ' H') ∧ ∀ x H', (Itc lo c n).yld i H x H' → g x σ H' fun σ2 H2 => tb { D with nx := N, ct := N, bk := D.nx } σ2 H2) := by
  refine ⟨fun i m σ H => m = n - i ∧ i ≤ n ∧ Pv i σ H, ⟨n, by simp, Nat.zero_le _, h0⟩, ?_⟩
  rintro i m σ H ⟨rfl, hi, p⟩
  by_cases hlt : i < n
  · refine .inr ⟨hlt, Pv (i + 1), fun σ' H' p' => ⟨n - (i + 1), by omega, rfl, hlt, p'⟩, fun x H' y => ?_⟩
    obtain ⟨e, y⟩ := y
    subst e y
    exact hs i σ _ hlt p
  · have e : i = n := by omega
    subst e
    exact .inl ⟨Nat.le_refl _, hd σ H p⟩
section
variable {X : Cx} {tg : Expr}
end
def Its (x : Str) : It := ⟨fun i _ => i < x.cps.size, fun i H v H' => H' = H ∧ ∃ c, x.cps[i]? = some c ∧ v = .str ⟨#[c]⟩, fun i _ => x.cps.size ≤ i⟩
theorem turn_str {P : Program} {w : World} {K : PySem.W.Frag} {tg : Expr} (it : Addr) (x : Str) (t : Tok) (ty : String) (hty : ty = "str_ascii_iterator" ∨ ty = "str_iterator") :
    Turn P w K tg (Its x) [it] it (fun i h => h.IsStrIter it ty x t i) where
  mem := by simp
  obj := fun i h st b hb => by
    have e : b = it := by simpa using hb
    subst e
    obtain ⟨o, e, c, d⟩ := st
    exact ⟨o, e, fun v z => by rw [d] at z; cases z⟩
  keep := fun i h h' st k => let ⟨o, ho, r⟩ := st; ⟨o, k it (by simp) o ho, r⟩
  item := by
    intro X hP hw hK hc i pins s σ H E I hf st hg
    subst hP hw hK
    obtain ⟨f0, f1, f2, f3, f4, f5⟩ := hf it (by simp)
    have W : Walks X.prog X.w X.A it [it] [it] x.cps.size (SignAt x) (fun i h => h.IsStrIter it ty x t i) := by
      rcases hty with e | e
      · rw [e]; exact Walks.strAscii (I.ok.hd hc) it x t
      · rw [e]; exact Walks.strWide (I.ok.hd hc) it x t
    have hno : ["enumerate", "zip", "dict_itemiterator", "dict_reverseitemiterator", "odict_iterator", "itertools.zip_longest", "itertools.pairwise"].contains ty = false := by
      rcases hty with e | e
      · rw [e]; decide
      · rw [e]; decide
    refine W.item i s _ _ hg st fun v h' tk hv st' kk => ?_
    obtain ⟨c, u, hcx, rfl⟩ := hv
    have I1 : Inv X pins σ H { s with heap := h', toks := tk } := I.turned (fun b o hb e => kk b o (by simpa using hb) e) f0 f1 f3 f4 f5
    obtain ⟨oi, e, cc, dd⟩ := id st'
    exact ⟨_, rfl, go_of (s := { s with heap := h', toks := tk }) e cc dd hno ⟨.str ⟨#[c]⟩, H, I1, ⟨u, rfl⟩, ⟨rfl, c, hcx, rfl⟩, st', fun b hb => (hf b hb).1⟩⟩
  done := by
    intro X hP hw hK hc i pins s σ H E I hf st hg
    subst hP hw hK
    obtain ⟨f0, f1, f2, f3, f4, f5⟩ := hf it (by simp)
    have hx : x.cps[i]? = none := Array.getElem?_eq_none hg
    rcases hty with e | e
    · rw [e] at st
      exact wpAny_pyNext_ascii_end (I.ok.hd hc) st hx fun h' eb => ⟨rfl, I.turned (t' := s.toks) (fun b o hb e => eb b o hb e) f0 f1 f3 f4 f5⟩
    · rw [e] at st
      exact wpAny_pyNext_wide_end (I.ok.hd hc) st hx fun h' eb => ⟨rfl, I.turned (t' := s.toks) (fun b o hb e => eb b o hb e) f0 f1 f3 f4 f5⟩
  self := fun A i s Q E st h => by
    rcases hty with e | e
    · rw [e] at st; exact wpAny_pyIter_striter_ascii st h
    · rw [e] at st; exact wpAny_pyIter_striter_wide st h
def iStr (te : TE) : TI := fun σ H R => te σ H fun v H1 => ∃ x, v = .str x ∧ R (Its x) H1
theorem pi_str {X : Cx} {tg e : Expr} {te : TE} (he : PE X e te) : PI X tg e (iStr te) := by
  intro pins s σ H R I h
  refine thn (he pins s σ H _ I h) fun v s1 ⟨y, H1, I1, r1, x, ex, q⟩ => ?_
  subst ex
  obtain ⟨t, rfl⟩ := r1
  cases ha : x.cps.all (· < 128)
  · exact wpAny_pyIter_wide ha (pi_one (tk := s1.toks) I1 _ (turn_str _ x t "str_iterator" (.inr rfl)) ⟨_, Heap.get?_push_size _ rfl, rfl, rfl⟩ q)
  · exact wpAny_pyIter_ascii ha (pi_one (tk := s1.toks) I1 _ (turn_str _ x t "str_ascii_iterator" (.inl rfl)) ⟨_, Heap.get?_push_size _ rfl, rfl, rfl⟩ q)
section
variable {prog : Program} {w : World} {A : Around} {E : Value → Shared → Prop} {s : Shared}
theorem iter_keys {d : Addr} {o : Obj} {es : Array DictEntry} {ep : Nat} {Q : Value → Shared → Prop} (hd : (d == sysModules) = false) (ho : s.heap.get? d = some o) (hc : o.ExactDict) (hdat : o.data = .dict es ep)
    (hQ : Q (.ref s.heap.objs.size) { s with heap := s.heap.push { cls := .type "dict_keyiterator", data := .fields #[.ref d, .int 0 0, .int es.size 0, .int ep 0] } }) :
    wpAny (model prog w) A (pyIter (.ref d)) Q E s := by
  have hT : s.TypeIs (.ref d) "dict" := ⟨o, ho, hc.1⟩
  refine wpAny_pyIter_slot hT F.slot_dict_iter (wpAny_call_entry F.slot_dict_iter hT F.entry_dict_iter ?_ (F.args_dict_iter_1 _))
  unfold Builtin.«dict.__iter__»
  refine wpAny_bind ?_
  unfold Builtin.Dict.dictSlotNone
  refine wpAny_bind (wpAny_notOrdered_dict hT ?_)
  show wpAny _ _ (pure (Value.ref d)) _ _ s
  refine wpAny_pure ?_
  show wpAny _ _ (Builtin.Dict.showsAll d >>= _) _ _ s
  unfold Builtin.Dict.showsAll
  rw [if_neg (by rw [hd]; exact Bool.false_ne_true)]
  refine wpAny_bind (wpAny_pure ?_)
  refine wpAny_bind (wpAny_dictEntries ho hdat ?_)
  refine wpAny_bind (wpAny_dictEpoch ho hdat ?_)
  refine wpAny_bind (wpAny_newObj_type (wpAny_pure ⟨_, rfl, "dict_keyiterator", _, ⟨_, Heap.get?_push_size _ rfl, rfl⟩, F.slot_dict_keyiterator_next.lookup, ?_⟩))
  simpa [rawInt] using hQ
theorem next_key_item {it d : Addr} {i n ep : Nat} {od : Obj} {es : Array DictEntry} {en : DictEntry} {Q : Option Value → Shared → Prop} (hit : s.heap.IsKeyIter it d i n ep) (hod : s.heap.get? d = some od) (hdd : od.data = .dict es ep)
    (hsz : es.size = n) (hx : es[i]? = some en) (hQ : ∀ h', h'.IsKeyIter it d (i + 1) n ep → Heap.SameBut it s.heap h' → Q (some en.key) { s with heap := h' }) : wpAny (model prog w) A (pyNext (.ref it)) Q E s := by
  obtain ⟨o, ho, hc, hd⟩ := id hit
  unfold pyNext
  refine wpAny_bind (wpAny_attempt (wpAny_callSpecial?_slot (name := Str.ofString "__next__") hit.typeIs F.slot_dict_keyiterator_next
    (wpAny_call_entry F.slot_dict_keyiterator_next hit.typeIs F.entry_dict_keyiterator_next ?_ (F.args_dict_keyiterator_next_1 _))))
  refine wpAny_bind (wpAny_pure ?_)
  refine wpAny_bind ?_
  refine wpAny_bind ?_
  first | refine wpAny_bind (wpAny_typeNameOfWhole_keyiter hit.typeIs (wpAny_pure ?_)) | refine wpAny_bind (wpAny_typeNameOf_keyiter hit.typeIs (wpAny_pure ?_))
  refine wpAny_bind (wpAny_fieldsOf ho hd ?_)
  have hown : Builtin.Dict_items.ownsTuple "dict_keyiterator" = false := by decide
  simp only [hown, Bool.false_eq_true, if_false]
  show wpAny _ _ (if (Value.ref d == Value.none) = true then _ else _) _ _ s
  rw [if_neg (show ¬ ((Value.ref d == Value.none) = true) from Bool.false_ne_true)]
  refine wpAny_bind (wpAny_pure ?_)
  refine wpAny_bind (wpAny_dictEntries hod hdd ?_)
  rw [if_neg (by rw [hsz]; simp)]
  refine wpAny_bind (wpAny_pure ?_)
  refine wpAny_bind (wpAny_dictEpoch hod hdd ?_)
  rw [if_neg (by simp)]
  refine wpAny_pure ?_
  obtain ⟨hlt', hen⟩ := Array.getElem?_eq_some_iff.mp hx
  simp only [show ¬ ((i : Int) < 0) from by omega, if_false, Int.toNat_natCast, Array.getElem?_eq_getElem hlt']
  refine wpAny_bind ?_
  first | refine wpAny_bind (wpAny_typeNameOfWhole_keyiter hit.typeIs (wpAny_pure ?_)) | refine wpAny_bind (wpAny_typeNameOf_keyiter hit.typeIs (wpAny_pure ?_))
  refine wpAny_bind (wpAny_isOneOf_keyiter hit.typeIs ?_)
  show wpAny _ _ (setField (.ref it) 1 (rawInt ((i : Int) + 1)) >>= _) _ _ s
  refine wpAny_bind (wpAny_setField ho hd (by simp) ?_)
  have hit' : (s.heap.update it (Obj.mapFields (·.setIfInBounds 1 (rawInt ((i : Int) + 1))))).IsKeyIter it d (i + 1) n ep :=
    ⟨_, Heap.get?_update_self _ ho (Obj.isFreed_of_fields (Obj.data_mapFields hd _)), (Obj.cls_mapFields ..).trans hc, by rw [Obj.data_mapFields hd]; simp [rawInt]⟩
  refine wpAny_bind (wpAny_holding ?_)
  refine wpAny_bind (wpAny_isOneOf_keyiter (s := { s with heap := s.heap.update it (Obj.mapFields (·.setIfInBounds 1 (rawInt ((i : Int) + 1)))) }) hit'.typeIs ?_)
  show wpAny _ _ (pure es[i].key) _ _ _
  rw [hen]
  exact wpAny_pure (wpAny_pure ⟨_, rfl, wpAny_pure (hQ _ hit' (Heap.SameBut.update ..))⟩)
theorem next_key_end {it d : Addr} {i n ep : Nat} {od : Obj} {es : Array DictEntry} {Q : Option Value → Shared → Prop} (hh : A.handled = none) (hit : s.heap.IsKeyIter it d i n ep) (hod : s.heap.get? d = some od) (hdd : od.data = .dict es ep)
    (hsz : es.size = n) (hge : n ≤ i) (hQ : ∀ h', Heap.ExtBut it s.heap h' → Q none { s with heap := h' }) : wpAny (model prog w) A (pyNext (.ref it)) Q E s := by
  obtain ⟨o, ho, hc, hd⟩ := id hit
  unfold pyNext
  refine wpAny_bind (wpAny_attempt (wpAny_callSpecial?_slot (name := Str.ofString "__next__") hit.typeIs F.slot_dict_keyiterator_next
    (wpAny_call_entry F.slot_dict_keyiterator_next hit.typeIs F.entry_dict_keyiterator_next ?_ (F.args_dict_keyiterator_next_1 _))))
  refine wpAny_bind (wpAny_pure ?_)
  refine wpAny_bind ?_
  refine wpAny_bind ?_
  first | refine wpAny_bind (wpAny_typeNameOfWhole_keyiter hit.typeIs (wpAny_pure ?_)) | refine wpAny_bind (wpAny_typeNameOf_keyiter hit.typeIs (wpAny_pure ?_))
  refine wpAny_bind (wpAny_fieldsOf ho hd ?_)
  have hown : Builtin.Dict_items.ownsTuple "dict_keyiterator" = false := by decide
  simp only [hown, Bool.false_eq_true, if_false]
  show wpAny _ _ (if (Value.ref d == Value.none) = true then _ else _) _ _ s
  rw [if_neg (show ¬ ((Value.ref d == Value.none) = true) from Bool.false_ne_true)]
  refine wpAny_bind (wpAny_pure ?_)
  refine wpAny_bind (wpAny_dictEntries hod hdd ?_)
  rw [if_neg (by rw [hsz]; simp)]
  refine wpAny_bind (wpAny_pure ?_)
  refine wpAny_bind (wpAny_dictEpoch hod hdd ?_)
  rw [if_neg (by simp)]
  refine wpAny_pure ?_
  have hge' : es.size ≤ i := by rw [hsz]; exact hge
  simp only [show ¬ ((i : Int) < 0) from by omega, if_false, Int.toNat_natCast, Array.getElem?_eq_none hge']
  refine wpAny_bind ?_
  first | refine wpAny_bind (wpAny_typeNameOfWhole_keyiter hit.typeIs (wpAny_pure ?_)) | refine wpAny_bind (wpAny_typeNameOf_keyiter hit.typeIs (wpAny_pure ?_))
  show wpAny _ _ (setField (.ref it) 0 .none >>= _) _ _ s
  refine wpAny_bind (wpAny_setField ho hd (by simp) ?_)
  show wpAny _ _ (newExc (.type "StopIteration") [] >>= _) _ _ _
  refine wpAny_bind ?_
  simp only [newExc, newTuple]
  refine wpAny_bind (wpAny_newObj_type ?_ (by size_fits))
  refine wpAny_bind (m := firstArgMember _ _) (wpAny_of_eq (a := Value.none) (by first | rfl | (simp only [firstArgMember]; rfl)) ?_)
  refine wpAny_newObj_type ?_ (by size_fits)
  simp only [raiseNew]
  refine wpAny_bind (wpAny_handled ?_)
  rw [show A.in1.handled = none from hh]
  refine wpAny_bind (wpAny_pure (wpAny_throw ?_))
  refine wpAny_bind (wpAny_isInstance (T := "StopIteration") (b := true) ⟨_, Heap.get?_push_size _ rfl, rfl⟩ isSubtype_stop ?_)
  exact wpAny_pure (hQ _ (((Heap.SameBut.update ..).extBut.push _).push _))
end
theorem kv_get {κ : Type} {kvs : List (κ × V)} {vs : List (κ × Value)} (h : KV kvs vs) : ∀ {i : Nat} {k : κ} {v : V}, kvs[i]? = some (k, v) → ∃ u, vs[i]? = some (k, u) ∧ RelV v u := by
  unfold KV at h
  induction h with
  | nil => intro i k v e; simp at e
  | @cons a b l₁ l₂ r t ih =>
    intro i k v e
    cases i with
    | zero =>
      simp only [List.getElem?_cons_zero, Option.some.injEq] at e
      subst e
      refine ⟨b.2, ?_, r.2⟩
      simp only [List.getElem?_cons_zero]
      exact congrArg some (Prod.ext r.1.symm rfl)
    | succ j =>
      simp only [List.getElem?_cons_succ] at e ⊢
      exact ih e
theorem paired_get {α β : Type} {G : α → β → Prop} {l₁ : List α} {l₂ : List β} (h : Paired G l₁ l₂) : ∀ {i : Nat} {a : α}, l₁[i]? = some a → ∃ b, l₂[i]? = some b ∧ G a b := by
  induction h with
  | nil => intro i a e; simp at e
  | @cons a b l₁ l₂ r t ih =>
    intro i a' e
    cases i with
    | zero =>
      simp only [List.getElem?_cons_zero, Option.some.injEq] at e
      subst e
      exact ⟨b, rfl, r⟩
    | succ j =>
      simp only [List.getElem?_cons_succ] at e ⊢
      exact ih e
theorem relV_key {k : Key} {u : Value} (h : keyIs k u = true) : RelV (kV k) u := by
  rcases keyIs_shape h with ⟨i, t, rfl, rfl⟩ | ⟨x, t, rfl, rfl⟩
  · exact ⟨t, rfl⟩
  · exact ⟨t, rfl⟩
section
variable {X : Cx} {pins : List (Addr × Obj)} {σ : St} {H : Hp} {s : Shared} {d : Addr} {o : Obj}
theorem Inv.frzK {kvs : List (Key × V)} (I : Inv X pins σ H s) (h : H d = some (.frz o (.dK kvs))) :
    (d == sysModules) = false ∧ s.heap.get? d = some o ∧ o.ExactDict ∧ ∃ (es : Array DictEntry) (ep : Nat) (vs : List (Key × Value)), o.data = .dict es ep ∧ es.size = kvs.length ∧ KV kvs vs ∧ s.heap.DictAt (mixKind X.prog X.w) d vs ep := by
  obtain ⟨hd, z, hs, vs, kv, o', es, ep, ho, hx, hdt, r⟩ := I.hok d _ h
  rw [hd] at ho
  cases ho
  refine ⟨hs, hd, hx, es, ep, vs, hdt, ?_, kv, o, es, hd, hx, hdt, r⟩
  have l1 := r.2.1.length
  have l2 : kvs.length = vs.length := Paired.length kv
  rw [Array.length_toList] at l1
  omega
theorem Inv.frzT {kvs : List (NK × V)} (I : Inv X pins σ H s) (h : H d = some (.frz o (.dT kvs))) :
    (d == sysModules) = false ∧ s.heap.get? d = some o ∧ o.ExactDict ∧ ∃ (es : Array DictEntry) (ep : Nat), o.data = .dict es ep ∧ es.size = kvs.length ∧
      ∀ (i : Nat) (k : NK) (v : V), kvs[i]? = some (k, v) → ∃ (en : DictEntry) (q : Addr), es[i]? = some en ∧ en.key = .ref q ∧ NTup H q k ∧ RelV v en.val := by
  obtain ⟨hd, z, hs, xs, pr, o', es, ep, ho, hx, hdt, he, _⟩ := I.hok d _ h
  rw [hd] at ho
  cases ho
  refine ⟨hs, hd, hx, es, ep, hdt, ?_, fun i k v e => ?_⟩
  · have l1 : es.size = xs.length := size_of_entries he
    have l2 : kvs.length = xs.length := Paired.length pr
    omega
  · obtain ⟨b, hb, e1, e2, e3⟩ := paired_get pr e
    have q := entry_at he i
    rw [hb] at q
    exact ⟨_, b.2.1, q, rfl, e2, e3⟩
end
def Itd (d : Addr) (o : Obj) (kvs : List (Key × V)) : It :=
  ⟨fun i H => H d = some (.frz o (.dK kvs)) ∧ i < kvs.length, fun i H x H' => H' = H ∧ ∃ k, kvs[i]? = some (k, x), fun i H => H d = some (.frz o (.dK kvs)) ∧ kvs.length ≤ i⟩
def Iti (d : Addr) (o : Obj) (kvs : List (Key × V)) : It :=
  ⟨fun i H => H d = some (.frz o (.dK kvs)) ∧ i < kvs.length, fun i H x H' => ∃ T k v, kvs[i]? = some (k, v) ∧ x = .ref T ∧ H T = none ∧ H' = upd H T (.tup [kV k, v]), fun i H => H d = some (.frz o (.dK kvs)) ∧ kvs.length ≤ i⟩
theorem dict_ep {o : Obj} {es es' : Array DictEntry} {ep ep' : Nat} (h : o.data = .dict es ep) (h' : o.data = .dict es' ep') : es' = es ∧ ep' = ep := by
  rw [h] at h'
  cases h'
  exact ⟨rfl, rfl⟩
section
variable {P : Program} {w : World} {K : PySem.W.Frag} {tg : Expr} {d : Addr} {o : Obj} {es : Array DictEntry} {ep : Nat}
theorem turn_vals {kvs : List (Key × V)} (it : Addr) (hod : o.data = .dict es ep) : Turn P w K tg (Itd d o kvs) [it] it (fun i h => h.IsValIter it d i kvs.length ep) where
  mem := by simp
  obj := fun i h st b hb => by
    have e : b = it := by simpa using hb
    subst e
    obtain ⟨oi, e, c, dd⟩ := st
    exact ⟨oi, e, fun v z => by rw [dd] at z; cases z⟩
  keep := fun i h h' st k => st.at fun oi e => k it (by simp) oi e
  item := by
    intro X hP hw hK hc i pins s σ H E I hf st hg
    subst hP hw hK
    obtain ⟨hd, hi⟩ := hg
    obtain ⟨f0, f1, f2, f3, f4, f5⟩ := hf it (by simp)
    obtain ⟨hs, hgd, hx, es', ep', vs, hdt, hsz, kv, hm⟩ := I.frzK hd
    obtain ⟨rfl, rfl⟩ := dict_ep hod hdt
    obtain ⟨⟨k, v⟩, hkv⟩ : ∃ p, kvs[i]? = some p := ⟨kvs[i], List.getElem?_eq_getElem hi⟩
    obtain ⟨u, hu, ru⟩ := kv_get kv hkv
    have hl : kvs.length = vs.length := Paired.length kv
    rw [hl] at st
    refine wpAny_pyNext_values_item st hm hu fun h' st' sb => ?_
    have I1 : Inv X pins σ H { s with heap := h' } := I.turned (t' := s.toks) (fun b ob hb e => (sb.2 b hb).trans e) f0 f1 f3 f4 f5
    obtain ⟨oi, e, c, dd⟩ := id st'
    refine ⟨u, rfl, go_of (s := { s with heap := h' }) e c dd (by decide) ⟨v, H, I1, ru, ⟨rfl, k, hkv⟩, ?_, fun b hb => (hf b hb).1⟩⟩
    show h'.IsValIter it d (i + 1) kvs.length _
    rw [hl]
    exact st'
  done := by
    intro X hP hw hK hc i pins s σ H E I hf st hg
    subst hP hw hK
    obtain ⟨hd, hi⟩ := hg
    obtain ⟨f0, f1, f2, f3, f4, f5⟩ := hf it (by simp)
    obtain ⟨hs, hgd, hx, es', ep', vs, hdt, hsz, kv, hm⟩ := I.frzK hd
    obtain ⟨rfl, rfl⟩ := dict_ep hod hdt
    have hl : kvs.length = vs.length := Paired.length kv
    rw [hl] at st
    exact wpAny_pyNext_values_end (I.ok.hd hc) st hm (List.getElem?_eq_none (by omega)) fun h' eb => ⟨rfl, I.turned (t' := s.toks) (fun b ob hb e => eb b ob hb e) f0 f1 f3 f4 f5⟩
  self := fun A i s Q E st h => wpAny_pyIter_valiter st h
theorem turn_items {kvs : List (Key × V)} {elts : List Expr} {kk : Nat} {tpos : Pos} (it : Addr) (hod : o.data = .dict es ep) :
    Turn P w K (.Tuple elts kk tpos) (Iti d o kvs) [it] it (fun i h => ∃ ok ov, IsItemIter h it d i kvs.length ep ok ov) where
  mem := by simp
  obj := fun i h st b hb => by
    have e : b = it := by simpa using hb
    subst e
    obtain ⟨ok, ov, e⟩ := st
    exact ⟨_, e, fun v z => nomatch z⟩
  keep := fun i h h' st k => let ⟨ok, ov, e⟩ := st; ⟨ok, ov, k it (by simp) _ e⟩
  item := by
    intro X hP hw hK hc i pins s σ H E I hf st hg
    subst hP hw hK
    obtain ⟨hd, hi⟩ := hg
    obtain ⟨hs, hgd, hx, es', ep', vs, hdt, hsz, kv, hm⟩ := I.frzK hd
    obtain ⟨rfl, rfl⟩ := dict_ep hod hdt
    obtain ⟨⟨k, v⟩, hkv⟩ : ∃ p, kvs[i]? = some p := ⟨kvs[i], List.getElem?_eq_getElem hi⟩
    obtain ⟨u, hu, ru⟩ := kv_get kv hkv
    have hl : kvs.length = vs.length := Paired.length kv
    obtain ⟨ok, ov, he⟩ := st
    rw [hl] at he
    have hlt : it < s.heap.objs.size := Heap.lt_size he
    refine wpAny_pyNext_items_item he hm hu fun key h' hkey ho hT hz hk => ?_
    refine ⟨_, rfl, wpAny_letOwnedTupleGo_items (s := { s with heap := h' }) ho fun h'' he' sb => ?_⟩
    have hT2 : h''.get? s.heap.objs.size = some { cls := .type "tuple", data := .seq #[key, u] } := (sb.2 _ (Nat.ne_of_gt hlt)).trans hT
    have new : ObjOk X.prog X.w (upd H s.heap.objs.size (.tup [kV k, v])) h'' s.heap.objs.size (.tup [kV k, v]) :=
      ⟨by show 2 ≤ sizeLine; decide, [key, u], .cons (relV_key (show keyIs k key = true from hkey)) (.cons ru .nil), ⟨_, hT2, rfl, _, rfl⟩⟩
    have I1 : Inv X pins σ (upd H s.heap.objs.size (.tup [kV k, v])) { s with heap := h'' } :=
      I.turnedNew (t' := s.toks) (ch := [it]) (fun b ob hb e => (sb.2 b (by simpa using hb)).trans (hk b ob (by simpa using hb) e)) hf (Nat.le_refl _) new
    refine ⟨.ref s.heap.objs.size, _, I1, rfl, ⟨_, k, v, hkv, rfl, I.hok.fresh (Nat.le_refl _), rfl⟩, ⟨key, u, ?_⟩, fun b hb => ?_⟩
    · rw [hl]; exact he'
    · have e : b = it := by simpa using hb
      rw [e, upd_ne (Nat.ne_of_lt hlt)]
      exact (hf it (by simp)).1
  done := by
    intro X hP hw hK hc i pins s σ H E I hf st hg
    subst hP hw hK
    obtain ⟨hd, hi⟩ := hg
    obtain ⟨f0, f1, f2, f3, f4, f5⟩ := hf it (by simp)
    obtain ⟨hs, hgd, hx, es', ep', vs, hdt, hsz, kv, hm⟩ := I.frzK hd
    obtain ⟨rfl, rfl⟩ := dict_ep hod hdt
    have hl : kvs.length = vs.length := Paired.length kv
    obtain ⟨ok, ov, he⟩ := st
    rw [hl] at he
    exact wpAny_pyNext_items_end (I.ok.hd hc) he hm (List.getElem?_eq_none (by omega)) fun h' eb => ⟨rfl, I.turned (t' := s.toks) (fun b ob hb e => eb b ob hb e) f0 f1 f3 f4 f5⟩
  self := fun A i s Q E st h => let ⟨_, _, e⟩ := st; PySem.W.kcp_self e h
end
def iItems (td : TE) : TI := fun σ H R => td σ H fun x H1 => ∃ d o kvs, x = .ref d ∧ H1 d = some (.frz o (.dK kvs)) ∧ R (Iti d o kvs) H1
section
variable {X : Cx} {tg e : Expr} {td : TE} {apos cpos : Pos}
theorem pi_items {elts : List Expr} {kk : Nat} {tpos : Pos} (he : PE X e td) (hbase : attributeBase e "items" X.env (eval e X.env) = eval e X.env := by rfl) (hline : (apos.endLine == cpos.line) = true := by rfl) :
    PI X (.Tuple elts kk tpos) (.Call (.Attribute e "items" apos) [] [] cpos) (iItems td) := by
  intro pins s σ H R I h
  refine wpAny_Call_method (T := "dict") (id := "dict.items") hbase rfl hline F.plainAttrs_dict F.slot_dict_items F.type_dict_items (thn (he pins s σ H _ I h) fun u s1 ⟨x, H1, I1, rx, d, o, kvs, ex, hd, q⟩ => ?_)
  subst ex
  obtain rfl : u = Value.ref d := rx
  obtain ⟨hs, hgd, hx, es, ep, vs, hdt, hsz, kv, hm⟩ := I1.frzK hd
  have hl : kvs.length = vs.length := Paired.length kv
  refine ⟨hm.dictOf.typeIs, hm.dictOf.mapOf.noDict, ?_⟩
  have I2 : Inv X pins σ H1 { s1 with heap := s1.heap.push { cls := .type "dict_items", data := .fields #[.ref d] } } := I1.kept (t' := s1.toks) fun b ob q => Heap.get?_push_of_some _ q
  have fin : wpAny (model X.prog X.w) X.A (pyIter (.ref s1.heap.objs.size)) (PIE X pins σ (.Tuple elts kk tpos) R) X.xe { s1 with heap := s1.heap.push { cls := .type "dict_items", data := .fields #[.ref d] } } := by
    refine wpAny_pyIter_items (d := d) (knd := mixKind X.prog X.w) ⟨_, Heap.get?_push_size _ rfl, rfl, rfl⟩ (hm.push _) (pi_one (tk := s1.toks) I2 _ (turn_items _ hdt) ⟨.none, .none, ?_⟩ q)
    rw [hl]
    exact Heap.get?_push_size _ rfl
  show wpAny _ _ (callWith cpos (.builtin "dict.items") [.ref d] [] []) _ X.xe s1
  exact method_meetsIn F.slot_dict_items F.entry_dict_items rfl (PySem.evalArgs_none ⟨rfl, hm.dictOf.typeIs, F.args_dict_items_1 _, _, meets_dict_items (mixKind X.prog X.w) d hs, ⟨vs, hm.dictOf⟩, fin⟩)
end
end L2
section 
namespace Bits
open PySem PyProof.Rows
end Bits
end 
section 
namespace TL
open PySem PySem.Builtin PySem.Builtin.Str PySem.StrLaws
abbrev tl (x : Str) : List Nat := x.cps.toList
theorem ext_tl {x y : Str} (h : tl x = tl y) : x = y := Str.ext' (Array.toList_inj.mp h)
theorem tl_append (x y : Str) : tl (x ++ y) = tl x ++ tl y := by
  show (x ++ y).cps.toList = _
  rw [Str.cps_append, Array.toList_append]
theorem tl_ofString (s : String) : tl (Str.ofString s) = s.toList.map Char.toNat := PyProof.Rows.signs_ofString s
end TL
end 
namespace L2
open PySem PySem.Spec PyProof.Rows
section
variable {X : Cx} {pins : List (Addr × Obj)} {σ : St} {H : Hp} {s : Shared} {Q : VK}
end
section
variable {X : Cx}
end
section
variable {X : Cx} {o e : Expr} {to te : TE}
end
end L2
namespace L2
open PySem PySem.Spec PyProof.Rows
section
variable {X : Cx}
end
end L2
namespace Att
open PySem PySem.W PySem.Calls PyProof.Rows
theorem ints_of_wellAll {P : Params} {h : Heap} : ∀ (ns : List Int) (vs : List Value), WellAll P h vs (ns.map WData.int) → IntsAre vs ns := by
  intro ns
  induction ns with
  | nil =>
    intro vs w
    rw [List.map_nil] at w
    cases w
    exact .nil
  | cons n ns ih =>
    intro vs w
    rw [List.map_cons] at w
    cases w with
    | cons a b =>
      cases a
      exact .cons _ _ (ih _ b)
section
variable {prog : Program} {w : World} {A : Around} {E : Value → Shared → Prop} {s : Shared} {K : Frag}
end
end Att
namespace L2
open PySem PySem.Spec PyProof.Rows
theorem vals_ints : ∀ {vs : List Value} {ns : List Int}, IntsAre vs ns → Vals (ns.map V.int) vs
  | _, _, .nil => .nil
  | _, _, .cons n t h => .cons ⟨t, rfl⟩ (vals_ints h)
def Only (H : Hp) : Prop := ∀ b, H b = none ∨ ∃ o xs, H b = some (.frz o (.lst xs))
end L2
namespace L2
open PySem PySem.Spec PyProof.Rows
abbrev KOf {K : PySem.W.Frag} {h : Heap} (_ : K.In h) : PySem.W.Frag := K
end L2
namespace L2
open PySem PySem.Spec PyProof.Rows
def inClass (s : Stmt) (j : Nat) : Stmt := match s with
  | .ClassDef _ _ _ body _ _ _ _ _ _ _ => body.getD j (.Pass ⟨0, 0, 0, 0⟩)
  | _ => .Pass ⟨0, 0, 0, 0⟩
def defArgs (s : Stmt) : Arguments := match s with
  | .FunctionDef _ a _ _ _ _ _ _ _ _ => a
  | _ => { posonlyargs := [], args := [], vararg := none, kwonlyargs := [], kw_defaults := [], kwarg := none, defaults := [] }
def defBody (s : Stmt) : List Stmt := match s with
  | .FunctionDef _ _ b _ _ _ _ _ _ _ => b
  | _ => []
def defScope (s : Stmt) : Scope := match s with
  | .FunctionDef _ _ _ _ _ _ sc _ _ _ => sc
  | _ => { kind := .function, names := [], isGenerator := false, isCoroutine := false }
abbrev E0 : XK := fun _ _ _ => False
section
variable {P : Program} {w : World} {K : PySem.W.Frag} {mg : Str → Option Value} {base : Heap}
end
theorem hu_of {A : Around} {k : Nat} (hr : Room k A) : A.units + 16 < cLine := Nat.lt_of_le_of_lt (Nat.add_le_add_left (by decide : 16 ≤ 64) _) hr.units
theorem small1000 {n : Nat} (h : n ≤ 1000) : n < sizeLine := Nat.lt_of_le_of_lt h (by decide)
section
variable {X : Cx}
theorem pv (i : Nat) {x : Str} {pos : Pos} (hN : X.N[i]? = some x := by rfl) (hv : Vis X.env.scope x := by first | exact Or.inl rfl | exact Or.inr (Or.inl rfl) | exact Or.inr (Or.inr rfl)) (hd : (x == ("__debug__" : Str)) = false := by decide)
    (hcd : (x == ("__classdict__" : Str)) = false := by decide) : PE X (.Name x pos) (tVar i) := pe_var hN hv hd hcd
theorem call_lenD : CallR X (.builtin "len") (fun xs H Q => ∃ a kvs, xs = [V.ref a] ∧ H a = some (.dK kvs) ∧ Q (.int kvs.length) H) := by
  intro pins s σ H xs us Q I r h
  obtain ⟨a, kvs, rfl, ha, q⟩ := h
  obtain ⟨u, rfl, ru⟩ := vals1 r
  cases ru
  exact d_len I (.inl ha) fun t s' I' => ⟨.int kvs.length, H, I', ⟨t, rfl⟩, q⟩
end
theorem iteF {A B : Prop} (h : B) : if false = true then A else B := by
  rw [if_neg Bool.false_ne_true]
  exact h
theorem iteT {A B : Prop} (h : A) : if true = true then A else B := by
  rw [if_pos rfl]
  exact h
def Same (H H' : Hp) : Prop := ∀ b o, H b = some o → H' b = some o
theorem Same.refl (H : Hp) : Same H H := fun _ _ h => h
theorem Same.trans {H H1 H2 : Hp} (a : Same H H1) (b : Same H1 H2) : Same H H2 := fun c o h => b c o (a c o h)
theorem Same.free {H H' : Hp} (e : Same H H') {l : Addr} (h : H' l = Option.none) : H l = Option.none := by
  cases q : H l with
  | none => rfl
  | some o =>
    rw [e l o q] at h
    cases h
theorem Same.seq {K : PySem.W.Frag} {H H' : Hp} {a : Addr} {xs : List V} (e : Same H H') (h : SqL K H a xs) : SqL K H' a xs := by
  rcases h with (h | ⟨o, h⟩) | h
  · exact .inl (.inl (e _ _ h))
  · exact .inl (.inr ⟨o, e _ _ h⟩)
  · exact .inr h
section
variable {κ : Type} [DecidableEq κ]
theorem dropK_pos {p : κ × V} {r : List (κ × V)} {k : κ} (e : p.1 = k) : dropK (p :: r) k = dropK r k := by
  unfold dropK
  rw [List.filter_cons, if_neg (by simp [e])]
theorem dropK_neg {p : κ × V} {r : List (κ × V)} {k : κ} (e : ¬ p.1 = k) : dropK (p :: r) k = p :: dropK r k := by
  unfold dropK
  rw [List.filter_cons, if_pos (by simp [e])]
theorem dropK_no : ∀ {kvs : List (κ × V)} {k : κ}, ¬ k ∈ kvs.map (·.1) → dropK kvs k = kvs
  | [], _, _ => rfl
  | p :: r, k, h => by
    have h' : ¬ k ∈ r.map (·.1) := fun m => by
      obtain ⟨q, hq, e⟩ := List.mem_map.mp m
      exact h (List.mem_map.mpr ⟨q, List.mem_cons.mpr (Or.inr hq), e⟩)
    rw [dropK_neg fun e => h (List.mem_map.mpr ⟨p, List.mem_cons.mpr (Or.inl rfl), e⟩), dropK_no h']
end
theorem at_of {xs : List V} {z : Int} {j : Nat} {v : V} (e : z = (j : Int)) (h : xs[j]? = some v) : atI xs z = some v := by
  rw [e]
  exact atI_nat h
theorem nd_ix {α : Type} {l : List α} (hN : l.Nodup) {i j : Nat} {x : α} (a : l[i]? = some x) (b : l[j]? = some x) : i = j := by
  obtain ⟨h1, e1⟩ := List.getElem?_eq_some_iff.mp a
  obtain ⟨h2, e2⟩ := List.getElem?_eq_some_iff.mp b
  exact (List.getElem_inj hN).mp (e1.trans e2.symm)
end L2
namespace PySem
section
variable {prog : Program} {w : World} {K : Type} [DecidableEq K] {knd : HeapKind prog w K} {A : Around} {E : Value → Shared → Prop} {s : Shared}
def lessH (xs : List (K × Addr × Value)) (k : K) : List (K × Addr × Value) := xs.filter fun x => decide (x.1 ≠ k)
theorem lessH_no : ∀ {xs : List (K × Addr × Value)} {k : K}, k ∉ xs.map (·.1) → lessH xs k = xs
  | [], _, _ => rfl
  | x :: r, k, h => by
    have h1 : x.1 ≠ k := fun e => h (by simp [e])
    have h2 : k ∉ r.map (·.1) := fun e => h (by simp at e ⊢; exact .inr e)
    show (x :: r).filter _ = _
    rw [List.filter_cons, if_pos (by simpa using h1)]
    exact congrArg _ (lessH_no h2)
theorem erase_lessH : ∀ {xs : List (K × Addr × Value)} {k : K} {j : Nat} {p : Addr × Value}, (xs.map (·.1)).Nodup → xs[j]? = some (k, p) → xs.eraseIdx j = lessH xs k
  | [], _, _, _, _, h => by simp at h
  | x :: r, k, 0, p, hn, h => by
    have hx : x = (k, p) := by simpa using h
    rw [List.map_cons, List.nodup_cons] at hn
    show r = (x :: r).filter _
    rw [List.filter_cons, if_neg (by simp [hx])]
    exact (lessH_no (by rw [hx] at hn; exact hn.1)).symm
  | x :: r, k, j + 1, p, hn, h => by
    rw [List.map_cons, List.nodup_cons] at hn
    have h' : r[j]? = some (k, p) := by simpa using h
    have hk : k ∈ r.map (·.1) := List.mem_map.mpr ⟨(k, p), List.mem_of_getElem? h', rfl⟩
    have hne : x.1 ≠ k := fun e => hn.1 (e ▸ hk)
    show x :: r.eraseIdx j = (x :: r).filter _
    rw [List.filter_cons, if_pos (by simpa using hne), erase_lessH hn.2 h']
    rfl
theorem erase_map {α β : Type} (f : α → β) : ∀ (l : List α) (j : Nat), (l.map f).eraseIdx j = (l.eraseIdx j).map f
  | [], _ => by simp
  | _ :: _, 0 => by simp
  | x :: r, j + 1 => by simp [erase_map f r j]
theorem takeOutH {d a : Addr} {xs : List (K × Addr × Value)} {k : K} {p : Addr × Value} {Q : Option DictEntry → Shared → Prop} (hu : knd.room A) (hkey : knd.is s.heap k a) (hm : s.heap.DictOfH knd d xs) (hp : atKey xs k = some p) (hsz : xs.length ≤ sizeLine)
    (hQ : ∀ e h', e.val = p.2 → h'.DictOfH knd d (lessH xs k) → Heap.SameBut d s.heap h' → Q (some e) { s with heap := h', toks := s.toks + knd.draws k }) : wpAny (model prog w) A (Builtin.Dict.takeOut d (.ref a)) Q E s := by
  obtain ⟨ob, es, ep, eo, cx, dt, he, his, hn⟩ := hm
  unfold Builtin.Dict.takeOut
  try with_reducible refine wpAny_holding ?_
  refine wpAny_bind (knd.pyHash hu hkey (wpAny_bind (wpAny_dictFind_heap (s := { s with toks := s.toks + knd.draws k }) hu hkey eo dt he his hn ?_ ?_)))
  · intro no
    rw [atKey_none_of_get no] at hp
    cases hp
  · intro j q hj
    have e1 := atKey_of_get hn hj
    rw [hp] at e1
    cases e1
    refine wpAny_bind (wpAny_dictEntries (s := { s with toks := s.toks + knd.draws k }) eo dt ?_)
    rw [entry_at he j, hj]
    refine wpAny_bind (wpAny_updateDictKeys (hz := by have e := size_of_entries he; omega) (s := { s with toks := s.toks + knd.draws k }) eo dt (wpAny_pure (hQ (entryOfKey knd (k, p)) _ rfl ⟨_, _, ep + 1,
      Heap.get?_update_self _ eo (Obj.isFreed_of_dict (Obj.data_mapDictKeys dt _)), cx.mapDictKeys _, Obj.data_mapDictKeys dt _, ?_, fun x hx => ?_, ?_⟩ (Heap.SameBut.update ..))))
    · have hl : j < es.size := by
        rw [size_of_entries he]
        exact (List.getElem?_eq_some_iff.mp hj).1
      rw [← erase_lessH hn hj]
      obtain ⟨l⟩ := es
      have he' : l = xs.map (entryOfKey knd) := he
      subst he'
      simp only [List.eraseIdxIfInBounds_toArray]
      exact erase_map _ _ _
    · exact knd.keeps (his x (List.mem_filter.mp hx).1) eo dt (Heap.SameBut.update ..)
    · exact (hn.sublist (List.filter_sublist.map _))
theorem meetsH_pop (knd : HeapKind prog w K) (d a : Addr) :
    MeetsIn prog w (Builtin.«dict.pop» ⟨[.ref d, .ref a], []⟩) (fun A R s => knd.room A.in1 ∧ ∃ k xs p, knd.is s.heap k a ∧ s.heap.DictOfH knd d xs ∧ xs.length ≤ sizeLine ∧ atKey xs k = some p ∧
      ∀ h', h'.DictOfH knd d (lessH xs k) → Heap.SameBut d s.heap h' → R (.ok (.ret p.2)) { s with heap := h', toks := s.toks + knd.draws k }) :=
  .of_wp fun A R s ⟨hu, k, xs, p, hkey, hm, hsz, hp, h⟩ => by
    obtain ⟨ob, es, ep, eo, cx, dt, he, his, hn⟩ := id hm
    unfold Builtin.«dict.pop»
    refine wpAny_bind ?_
    unfold Builtin.Dict.keyAndDefault
    refine wpAny_bind (wpAny_notOrdered_dict hm.typeIs ?_)
    show wpAny _ _ (pure (d, Value.ref a, none)) _ _ _
    refine wpAny_pure ?_
    have kp : (keyPart (Value.ref a)).isSome = false := rfl
    simp only [kp, Bool.false_eq_true, if_false]
    refine wpAny_bind (wpAny_dictEntries eo dt (wpAny_bind (wpAny_pure ?_)))
    have ne : es.isEmpty = false := by
      cases q : es.isEmpty with
      | false => rfl
      | true =>
        have z : es.size = 0 := by simpa using q
        have z2 : xs = [] := List.length_eq_zero_iff.mp ((size_of_entries he).symm.trans z)
        rw [z2] at hp
        cases hp
    simp only [ne, Bool.false_eq_true, if_false]
    refine wpAny_bind (takeOutH hu hkey hm hp hsz fun e h' ev hm' hs' => ?_)
    simp only [Option.isNone_some, Bool.false_eq_true, if_false]
    exact wpAny_bind (wpAny_letGo (wpAny_pure ⟨e.val, rfl, by rw [ev]; exact h h' hm' hs'⟩))
end
section
variable {prog : Program} {w : World} {A : Around} {E : Value → Shared → Prop} {s : Shared}
theorem meetsD_items (d : Addr) (hd : (d == sysModules) = false) :
    MeetsIn prog w (Builtin.«dict.items» ⟨[.ref d], []⟩) (fun _ R s => s.TypeIs (.ref d) "dict" ∧ R (.ok (.ret (.ref s.heap.objs.size))) { s with heap := s.heap.push { cls := .type "dict_items", data := .fields #[.ref d] } }) :=
  .of_wp fun A R s ⟨ty, h⟩ => by
    unfold Builtin.«dict.items»
    refine wpAny_bind ?_
    unfold Builtin.Dict.noArgs
    refine wpAny_bind (wpAny_notOrdered_dict ty ?_)
    show wpAny _ _ (pure d) _ _ _
    refine wpAny_pure ?_
    show wpAny _ _ (Builtin.Dict.showsAll d >>= _) _ _ _
    unfold Builtin.Dict.showsAll
    rw [if_neg (by rw [hd]; exact Bool.false_ne_true)]
    exact wpAny_bind (wpAny_pure (wpAny_bind (wpAny_newObj_type (wpAny_pure ⟨_, rfl, h⟩))))
theorem iterD_items {v d : Addr} {ob : Obj} {es : Array DictEntry} {ep : Nat} {Q : Value → Shared → Prop} (hv : s.heap.IsItemsView v d) (eo : s.heap.get? d = some ob) (dt : ob.data = .dict es ep)
    (hQ : Q (.ref s.heap.objs.size) { s with heap := s.heap.push { cls := .type "dict_itemiterator", data := .fields #[.none, .bool false, .ref d, .int 0 0, .int es.size 0, .int ep 0, .none, .none] } }) :
    wpAny (model prog w) A (pyIter (.ref v)) Q E s := by
  obtain ⟨ov, hov, hcv, hdv⟩ := id hv
  refine wpAny_pyIter_slot hv.typeIs F.slot_dict_items_iter (wpAny_call_entry F.slot_dict_items_iter hv.typeIs F.entry_dict_items_iter ?_ (F.args_dict_items_iter_1 _))
  unfold Builtin.«dict_items.__iter__»
  refine wpAny_bind (wpAny_pure ?_)
  refine wpAny_bind ?_
  unfold Builtin.Dict_items.dictOf
  refine wpAny_bind (wpAny_field hov hdv (x := .ref d) rfl (wpAny_pure ?_))
  refine wpAny_bind ?_
  unfold Builtin.Dict_items.newIterator
  refine wpAny_bind (wpAny_dictEntries eo dt ?_)
  refine wpAny_bind (wpAny_dictEpoch eo dt ?_)
  have own : Builtin.Dict_items.ownsTuple "dict_itemiterator" = true := by decide
  simp only [own, if_true]
  refine wpAny_newObj_type (wpAny_pure ⟨_, rfl, "dict_itemiterator", _, ⟨_, Heap.get?_push_size _ rfl, rfl⟩, F.slot_dict_itemiterator_next.lookup, ?_⟩)
    (by simp only [sizeOk, Builtin.Dict_items.ownedTupleFields, List.size_toArray, List.length_append, List.length_cons, List.length_nil, sizeLine_eq]; omega)
  simpa [rawInt, Builtin.Dict_items.ownedTupleFields] using hQ
theorem nextD_item {it d : Addr} {i ep : Nat} {ob : Obj} {es : Array DictEntry} {en : DictEntry} {ok ov : Value} {Q : Option Value → Shared → Prop} (hit : IsItemIter s.heap it d i es.size ep ok ov)
    (eo : s.heap.get? d = some ob) (dt : ob.data = .dict es ep) (hx : es[i]? = some en)
    (hQ : ∀ h', IsItemIterOut h' it d (i + 1) es.size ep en.key en.val s.heap.objs.size → h'.get? s.heap.objs.size = some { cls := .type "tuple", data := .seq #[en.key, en.val] } → h'.objs.size = s.heap.objs.size + 1 →
      (∀ b o, b ≠ it → s.heap.get? b = some o → h'.get? b = some o) → Q (some (.ref s.heap.objs.size)) { s with heap := h' }) :
    wpAny (model prog w) A (pyNext (.ref it)) Q E s := by
  obtain ⟨hp, g, dr, tk, os⟩ := s
  have ty : Shared.TypeIs ⟨hp, g, dr, tk, os⟩ (.ref it) "dict_itemiterator" := ⟨_, hit, rfl⟩
  unfold pyNext
  refine wpAny_bind (wpAny_attempt (wpAny_callSpecial?_slot (name := Str.ofString "__next__") ty F.slot_dict_itemiterator_next
    (wpAny_call_entry F.slot_dict_itemiterator_next ty F.entry_dict_itemiterator_next ?_ (F.args_dict_itemiterator_next_1 _))))
  refine wpAny_bind (wpAny_pure ?_)
  refine wpAny_bind ?_
  refine wpAny_bind ?_
  first | refine wpAny_bind (wpAny_typeNameOfWhole_itemiter ty (wpAny_pure ?_)) | refine wpAny_bind (wpAny_typeNameOf_itemiter ty (wpAny_pure ?_))
  refine wpAny_bind (wpAny_fieldsOf hit rfl ?_)
  have own : Builtin.Dict_items.ownsTuple "dict_itemiterator" = true := by decide
  simp only [own, if_true]
  show wpAny _ _ (if (Value.ref d == Value.none) = true then _ else _) _ _ _
  rw [if_neg (show ¬ ((Value.ref d == Value.none) = true) from Bool.false_ne_true)]
  refine wpAny_bind (wpAny_pure ?_)
  refine wpAny_bind (wpAny_dictEntries eo dt ?_)
  rw [if_neg (by simp)]
  refine wpAny_bind (wpAny_pure ?_)
  refine wpAny_bind (wpAny_dictEpoch eo dt ?_)
  rw [if_neg (by simp)]
  refine wpAny_pure ?_
  obtain ⟨lt, en'⟩ := Array.getElem?_eq_some_iff.mp hx
  simp only [show ¬ ((i : Int) < 0) from by omega, if_false, Int.toNat_natCast, Array.getElem?_eq_getElem lt]
  rw [en']
  refine wpAny_bind ?_
  first | refine wpAny_bind (wpAny_typeNameOfWhole_itemiter ty (wpAny_pure ?_)) | refine wpAny_bind (wpAny_typeNameOf_itemiter ty (wpAny_pure ?_))
  refine wpAny_bind (wpAny_isOneOf_itemiter ty ?_)
  show wpAny _ _ (setField (.ref it) 3 (rawInt ((i : Int) + 1)) >>= _) _ _ _
  refine wpAny_bind (wpAny_setField_rec hit (by simp) fun h₁ he₁ hs₁ => ?_)
  replace hs₁ : Heap.SameBut it hp h₁ := hs₁
  replace he₁ : IsItemIter h₁ it d (i + 1) es.size ep ok ov := by
    have e : ((i + 1 : Nat) : Int) = (i : Int) + 1 := by omega
    unfold IsItemIter
    rw [e]
    simpa [rawInt] using he₁
  have ty₁ : Shared.TypeIs ⟨h₁, g, dr, tk, os⟩ (.ref it) "dict_itemiterator" := ⟨_, he₁, rfl⟩
  refine wpAny_bind (wpAny_holding ?_)
  refine wpAny_bind (wpAny_isOneOf_itemiter ty₁ ?_)
  refine wpAny_bind (wpAny_isOneOf_itemiter ty₁ ?_)
  show wpAny _ _ (Builtin.Dict_items.pairFromOwner (.ref it) 6 en.key en.val) _ _ _
  unfold Builtin.Dict_items.pairFromOwner
  refine wpAny_bind (wpAny_newTuple ?_)
  have he₂ : IsItemIter (h₁.push { cls := .type "tuple", data := .seq #[en.key, en.val] }) it d (i + 1) es.size ep ok ov := Heap.get?_push_of_some _ he₁
  generalize hh₂ : h₁.push { cls := .type "tuple", data := .seq #[en.key, en.val] } = h₂ at he₂
  have z₁ : h₁.objs.size = hp.objs.size := hs₁.1
  have il : it < hp.objs.size := Heap.lt_size hit
  have t₂ : h₂.get? hp.objs.size = some { cls := .type "tuple", data := .seq #[en.key, en.val] } := by rw [← hh₂, ← z₁]; exact Heap.get?_push_size _ rfl
  have z₂ : h₂.objs.size = hp.objs.size + 1 := by rw [← hh₂, Heap.size_push, z₁]
  have k₂ : ∀ b o, b ≠ it → hp.get? b = some o → h₂.get? b = some o := fun b o hb e => by rw [← hh₂]; exact Heap.get?_push_of_some _ (hs₁.extBut b o hb e)
  show wpAny _ _ (Builtin.Dict_items.ownedTupleIsFree (.ref it) >>= _) _ _ ⟨h₂, g, dr, tk, os⟩
  rw [z₁]
  clear hh₂ he₁ hs₁ ty₁ z₁ h₁
  refine wpAny_bind ?_
  unfold Builtin.Dict_items.ownedTupleIsFree
  refine wpAny_bind (wpAny_field he₂ rfl (x := .none) rfl (wpAny_pure ?_))
  simp only [if_true]
  refine wpAny_bind (wpAny_field he₂ rfl (x := ok) rfl ?_)
  refine wpAny_bind (wpAny_field he₂ rfl (x := ov) rfl ?_)
  refine wpAny_bind (wpAny_setField_rec he₂ (by simp) fun h₃ he₃ hs₃ => ?_)
  replace hs₃ : Heap.SameBut it h₂ h₃ := hs₃
  replace he₃ : IsItemIter h₃ it d (i + 1) es.size ep en.key ov := he₃
  refine wpAny_bind (wpAny_setField_rec he₃ (by simp) fun h₄ he₄ hs₄ => ?_)
  replace hs₄ : Heap.SameBut it h₃ h₄ := hs₄
  replace he₄ : IsItemIter h₄ it d (i + 1) es.size ep en.key en.val := he₄
  refine wpAny_bind (wpAny_setField_rec he₄ (by simp) fun h₅ he₅ hs₅ => ?_)
  replace hs₅ : Heap.SameBut it h₄ h₅ := hs₅
  replace he₅ : IsItemIterOut h₅ it d (i + 1) es.size ep en.key en.val hp.objs.size := he₅
  refine wpAny_bind (wpAny_setField_rec he₅ (by simp) fun h₆ he₆ hs₆ => ?_)
  replace hs₆ : Heap.SameBut it h₅ h₆ := hs₆
  replace he₆ : IsItemIterOut h₆ it d (i + 1) es.size ep en.key en.val hp.objs.size := he₆
  refine wpAny_bind (wpAny_letGo (wpAny_pure (wpAny_pure ⟨_, rfl, wpAny_pure (hQ h₆ he₆ ?_ ?_ ?_)⟩)))
  · exact hs₆.extBut _ _ (Nat.ne_of_gt il) (hs₅.extBut _ _ (Nat.ne_of_gt il) (hs₄.extBut _ _ (Nat.ne_of_gt il) (hs₃.extBut _ _ (Nat.ne_of_gt il) t₂)))
  · show h₆.objs.size = hp.objs.size + 1
    rw [hs₆.1, hs₅.1, hs₄.1, hs₃.1, z₂]
  · exact fun b o hb e => hs₆.extBut b o hb (hs₅.extBut b o hb (hs₄.extBut b o hb (hs₃.extBut b o hb (k₂ b o hb e))))
theorem nextD_end {it d : Addr} {i ep : Nat} {ob : Obj} {es : Array DictEntry} {ok ov : Value} {Q : Option Value → Shared → Prop} (hh : A.handled = none) (hit : IsItemIter s.heap it d i es.size ep ok ov)
    (eo : s.heap.get? d = some ob) (dt : ob.data = .dict es ep) (hge : es.size ≤ i) (hQ : ∀ h', Heap.ExtBut it s.heap h' → Q none { s with heap := h' }) : wpAny (model prog w) A (pyNext (.ref it)) Q E s := by
  have ty : s.TypeIs (.ref it) "dict_itemiterator" := ⟨_, hit, rfl⟩
  unfold pyNext
  refine wpAny_bind (wpAny_attempt (wpAny_callSpecial?_slot (name := Str.ofString "__next__") ty F.slot_dict_itemiterator_next
    (wpAny_call_entry F.slot_dict_itemiterator_next ty F.entry_dict_itemiterator_next ?_ (F.args_dict_itemiterator_next_1 _))))
  refine wpAny_bind (wpAny_pure ?_)
  refine wpAny_bind ?_
  refine wpAny_bind ?_
  first | refine wpAny_bind (wpAny_typeNameOfWhole_itemiter ty (wpAny_pure ?_)) | refine wpAny_bind (wpAny_typeNameOf_itemiter ty (wpAny_pure ?_))
  refine wpAny_bind (wpAny_fieldsOf hit rfl ?_)
  have own : Builtin.Dict_items.ownsTuple "dict_itemiterator" = true := by decide
  simp only [own, if_true]
  show wpAny _ _ (if (Value.ref d == Value.none) = true then _ else _) _ _ _
  rw [if_neg (show ¬ ((Value.ref d == Value.none) = true) from Bool.false_ne_true)]
  refine wpAny_bind (wpAny_pure ?_)
  refine wpAny_bind (wpAny_dictEntries eo dt ?_)
  rw [if_neg (by simp)]
  refine wpAny_bind (wpAny_pure ?_)
  refine wpAny_bind (wpAny_dictEpoch eo dt ?_)
  rw [if_neg (by simp)]
  refine wpAny_pure ?_
  simp only [show ¬ ((i : Int) < 0) from by omega, if_false, Int.toNat_natCast, Array.getElem?_eq_none hge]
  refine wpAny_bind ?_
  first | refine wpAny_bind (wpAny_typeNameOfWhole_itemiter ty (wpAny_pure ?_)) | refine wpAny_bind (wpAny_typeNameOf_itemiter ty (wpAny_pure ?_))
  show wpAny _ _ (setField (.ref it) 2 .none >>= _) _ _ _
  refine wpAny_bind (wpAny_setField hit rfl (by simp) ?_)
  show wpAny _ _ (newExc (.type "StopIteration") [] >>= _) _ _ _
  refine wpAny_bind ?_
  simp only [newExc, newTuple]
  refine wpAny_bind (wpAny_newObj_type ?_ (by size_fits))
  refine wpAny_bind (m := firstArgMember _ _) (wpAny_of_eq (a := Value.none) (by first | rfl | (simp only [firstArgMember]; rfl)) ?_)
  refine wpAny_newObj_type ?_ (by size_fits)
  simp only [raiseNew]
  refine wpAny_bind (wpAny_handled ?_)
  rw [show A.in1.handled = none from hh]
  refine wpAny_bind (wpAny_pure (wpAny_throw ?_))
  refine wpAny_bind (wpAny_isInstance (T := "StopIteration") (b := true) ⟨_, Heap.get?_push_size _ rfl, rfl⟩ isSubtype_stop ?_)
  exact wpAny_pure (hQ _ (((Heap.SameBut.update ..).extBut.push _).push _))
end
end PySem
namespace Sh
open Sd37 (Bytes Bad Sentence)
def splitC : List Nat → List (List Nat)
  | [] => [[]]
  | c :: r => if c = 44 then [] :: splitC r else match splitC r with
    | [] => [[c]]
    | f :: fs => (c :: f) :: fs
theorem splitC_comma (r : List Nat) : splitC (44 :: r) = [] :: splitC r := by simp [splitC]
theorem splitC_other {c : Nat} (h : c ≠ 44) {r f : List Nat} {fs : List (List Nat)} (e : splitC r = f :: fs) : splitC (c :: r) = (c :: f) :: fs := by
  simp [splitC, h, e]
theorem splitC_cons : ∀ b : List Nat, ∃ f fs, splitC b = f :: fs
  | [] => ⟨[], [], rfl⟩
  | c :: r => by
    obtain ⟨f, fs, e⟩ := splitC_cons r
    by_cases h : c = 44
    · subst h; exact ⟨[], f :: fs, by rw [splitC_comma, e]⟩
    · exact ⟨c :: f, fs, splitC_other h e⟩
theorem splitC_ne (b : List Nat) : splitC b ≠ [] := by
  obtain ⟨f, fs, e⟩ := splitC_cons b
  rw [e]; simp
def joinC : List (List Nat) → List Nat
  | [] => []
  | [f] => f
  | f :: g :: r => f ++ 44 :: joinC (g :: r)
theorem joinC_cons {f : List Nat} {fs : List (List Nat)} (h : fs ≠ []) : joinC (f :: fs) = f ++ 44 :: joinC fs := by
  cases fs with
  | nil => exact absurd rfl h
  | cons g r => rfl
theorem joinC_push (c : Nat) (f : List Nat) : ∀ fs, joinC ((c :: f) :: fs) = c :: joinC (f :: fs)
  | [] => rfl
  | _ :: _ => rfl
theorem joinC_splitC : ∀ b : List Nat, joinC (splitC b) = b
  | [] => rfl
  | c :: r => by
    obtain ⟨f, fs, e⟩ := splitC_cons r
    have ih := joinC_splitC r
    by_cases h : c = 44
    · subst h
      rw [splitC_comma, joinC_cons (splitC_ne r), ih]; rfl
    · rw [splitC_other h e, joinC_push, ← e, ih]
theorem splitC_nocomma : ∀ (b : List Nat) (f : List Nat), f ∈ splitC b → 44 ∉ f
  | [], f, h => by
    have : f = [] := by simpa [splitC] using h
    subst this; simp
  | c :: r, f, h => by
    obtain ⟨g, gs, e⟩ := splitC_cons r
    have ih := splitC_nocomma r
    by_cases hc : c = 44
    · subst hc
      rw [splitC_comma] at h
      rcases List.mem_cons.mp h with rfl | h
      · simp
      · exact ih f h
    · rw [splitC_other hc e] at h
      rw [e] at ih
      rcases List.mem_cons.mp h with rfl | h
      · intro q
        rcases List.mem_cons.mp q with q | q
        · exact hc q.symm
        · exact ih g List.mem_cons_self q
      · exact ih f (List.mem_cons_of_mem _ h)
def addC (fs : List (List Nat)) (c : Nat) : List (List Nat) := if c = 44 then fs ++ [[]] else fs.dropLast ++ [fs.getLastD [] ++ [c]]
theorem getLastD_cons' (f g : List Nat) (r : List (List Nat)) : (f :: g :: r).getLastD [] = (g :: r).getLastD [] := by
  simp [List.getLastD]
theorem splitC_snoc : ∀ (p : List Nat) (c : Nat), splitC (p ++ [c]) = addC (splitC p) c
  | [], c => by
    by_cases h : c = 44
    · subst h; rfl
    · simp [splitC, addC, h]
  | x :: r, c => by
    have ih := splitC_snoc r c
    obtain ⟨f, fs, e⟩ := splitC_cons r
    by_cases hx : x = 44
    · subst hx
      rw [List.cons_append, splitC_comma, splitC_comma, ih, e]
      unfold addC
      by_cases h : c = 44
      · simp [h]
      · simp only [h, if_false]
        rw [getLastD_cons']; rfl
    · rw [List.cons_append, splitC_other hx e]
      unfold addC at ih ⊢
      by_cases h : c = 44
      · rw [if_pos h] at ih ⊢
        rw [e] at ih
        exact splitC_other hx (by rw [ih]; rfl)
      · rw [if_neg h] at ih ⊢
        rw [e] at ih
        cases fs with
        | nil =>
          exact splitC_other hx (f := f ++ [c]) (fs := []) (by rw [ih]; rfl)
        | cons g gs =>
          rw [getLastD_cons'] at ih ⊢
          exact splitC_other hx (f := f) (by rw [ih]; rfl)
theorem takeWhile_free : ∀ {f : List Nat}, 44 ∉ f → (f.takeWhile fun x => x != 44) = f
  | [], _ => rfl
  | c :: r, h => by
    have h1 : (c != 44) = true := by
      have : c ≠ 44 := fun e => h (by simp [e])
      simpa using this
    rw [List.takeWhile_cons, if_pos h1, takeWhile_free fun q => h (List.mem_cons_of_mem _ q)]
theorem takeWhile_app : ∀ {f : List Nat} (r : List Nat), 44 ∉ f → ((f ++ 44 :: r).takeWhile fun x => x != 44) = f
  | [], r, _ => by simp
  | c :: g, r, h => by
    have h1 : (c != 44) = true := by
      have : c ≠ 44 := fun e => h (by simp [e])
      simpa using this
    rw [List.cons_append, List.takeWhile_cons, if_pos h1, takeWhile_app r fun q => h (List.mem_cons_of_mem _ q)]
theorem fields_free {k : Nat} {f : List Nat} (h : 44 ∉ f) : Sd37.fields 44 k f = [f] := by
  cases k with
  | zero => rfl
  | succ k => simp only [Sd37.fields, takeWhile_free h]; simp
theorem fields_app {k : Nat} {f r : List Nat} (h : 44 ∉ f) : Sd37.fields 44 (k + 1) (f ++ 44 :: r) = f :: Sd37.fields 44 k r := by
  simp only [Sd37.fields, takeWhile_app r h]
  rw [if_neg (by simp)]
  congr 2
  rw [List.drop_append]
  simp
theorem fields_eq : ∀ (k : Nat) (fs : List (List Nat)), fs ≠ [] → (∀ f ∈ fs, 44 ∉ f) → fs.length ≤ k + 1 → Sd37.fields 44 k (joinC fs) = fs
  | _, [], h, _, _ => absurd rfl h
  | k, [f], _, h, _ => fields_free (h f List.mem_cons_self)
  | 0, f :: g :: r, _, _, hl => by simp at hl
  | k + 1, f :: g :: r, _, h, hl => by
    rw [joinC_cons (by simp), fields_app (h f List.mem_cons_self), fields_eq k (g :: r) (by simp) (fun x hx => h x (List.mem_cons_of_mem _ hx)) (by simp at hl ⊢; omega)]
theorem splitC_length : ∀ b : List Nat, (splitC b).length ≤ b.length + 1
  | [] => Nat.le_refl _
  | c :: r => by
    have ih := splitC_length r
    obtain ⟨f, fs, e⟩ := splitC_cons r
    by_cases h : c = 44
    · subst h; rw [splitC_comma]; simp; omega
    · rw [splitC_other h e]; rw [e] at ih; simp at ih ⊢; omega
theorem fields_split (b : List Nat) : Sd37.fields 44 (b.length + 1) b = splitC b := by
  have h := fields_eq (b.length + 1) (splitC b) (splitC_ne b) (splitC_nocomma b) (Nat.le_succ_of_le (splitC_length b))
  rw [joinC_splitC] at h
  exact h
def ending (b : List Nat) : List Nat := if b.drop (b.length - 2) = [13, 10] then b.take (b.length - 2) else if b.drop (b.length - 1) = [10] ∨ b.drop (b.length - 1) = [13] then b.take (b.length - 1) else b
def ending' (b : List Nat) : List Nat :=
  let b := if b.getLast? = some 10 then b.dropLast else b
  if b.getLast? = some 13 then b.dropLast else b
theorem last_cases (b : List Nat) : b = [] ∨ ∃ p c, b = p ++ [c] := by
  rcases List.eq_nil_or_concat b with h | ⟨p, c, h⟩
  · exact .inl h
  · exact .inr ⟨p, c, by simpa using h⟩
theorem ending_eq (b : List Nat) : ending b = ending' b := by
  rcases last_cases b with rfl | ⟨p, c, rfl⟩
  · rfl
  · have d1 : (p ++ [c]).drop ((p ++ [c]).length - 1) = [c] := by simp
    have t1 : (p ++ [c]).take ((p ++ [c]).length - 1) = p := by simp
    unfold ending ending'
    rw [d1, t1]
    rcases last_cases p with rfl | ⟨q, a, rfl⟩
    · by_cases h10 : c = 10
      · subst h10; rfl
      · by_cases h13 : c = 13
        · subst h13; rfl
        · simp [h10, h13]
    · have d2 : (q ++ [a] ++ [c]).drop ((q ++ [a] ++ [c]).length - 2) = [a, c] := by simp
      have t2 : (q ++ [a] ++ [c]).take ((q ++ [a] ++ [c]).length - 2) = q := by simp
      rw [d2, t2]
      by_cases h10 : c = 10
      · subst h10
        by_cases ha : a = 13
        · subst ha; simp
        · simp [ha]
      · by_cases h13 : c = 13
        · subst h13; simp
        · simp [h10, h13]
end Sh
namespace Sh
open Sd37 (Bytes Bad Sentence)
def HeadOk (f : List Nat) : Prop := f.length = 6 ∧ f.getD 0 0 = 33 ∧ (65 ≤ f.getD 1 0 ∧ f.getD 1 0 ≤ 90) ∧ (65 ≤ f.getD 2 0 ∧ f.getD 2 0 ≤ 90) ∧ (f.drop 3 = [86, 68, 77] ∨ f.drop 3 = [86, 68, 79])
def DigOk (f : List Nat) (lo hi : Nat) : Prop := f.length = 1 ∧ 48 + lo ≤ f.getD 0 0 ∧ f.getD 0 0 ≤ 48 + hi
def GroupOk (f : List Nat) (parts : Nat) : Prop := (f ≠ [] ∨ 1 < parts) → DigOk f 0 9
def ChanOk (f : List Nat) : Prop := f = [] ∨ f = [65] ∨ f = [66] ∨ f = [49] ∨ f = [50]
def Pay (c : Nat) : Prop := (48 ≤ c ∧ c ≤ 87) ∨ (96 ≤ c ∧ c ≤ 119)
def PayOk (f : List Nat) : Prop := f ≠ [] ∧ ∀ c ∈ f, Pay c
def TailOk (f : List Nat) : Prop := f.length = 4 ∧ f.getD 1 0 = 42
def Hex (c : Nat) : Prop := (48 ≤ c ∧ c ≤ 57) ∨ (65 ≤ c ∧ c ≤ 70)
def hexV (c : Nat) : Nat := if c ≤ 57 then c - 48 else c - 55
def HexOk (f : List Nat) : Prop := Hex (f.getD 2 0) ∧ Hex (f.getD 3 0)
instance (f) : Decidable (HeadOk f) := by unfold HeadOk; infer_instance
instance (f lo hi) : Decidable (DigOk f lo hi) := by unfold DigOk; infer_instance
instance (f p) : Decidable (GroupOk f p) := by unfold GroupOk; infer_instance
instance (f) : Decidable (ChanOk f) := by unfold ChanOk; infer_instance
instance (c) : Decidable (Pay c) := by unfold Pay; infer_instance
instance (f) : Decidable (PayOk f) := by unfold PayOk; infer_instance
instance (f) : Decidable (TailOk f) := by unfold TailOk; infer_instance
instance (c) : Decidable (Hex c) := by unfold Hex; infer_instance
instance (f) : Decidable (HexOk f) := by unfold HexOk; infer_instance
def sumOf (line : List Nat) : Nat := Sd37.xor ((line.drop 1).take (line.length - 4))
def readF (line h t w s c l e : List Nat) : Except Bad Sentence :=
  if ¬ HeadOk h then .error .form else
  if ¬ DigOk t 1 9 then .error .form else
  if ¬ DigOk w 1 (t.getD 0 0 - 48) then .error .form else
  if ¬ GroupOk s (t.getD 0 0 - 48) then .error .form else
  if ¬ ChanOk c then .error .form else
  if ¬ PayOk l then .error .form else
  if ¬ TailOk e then .error .form else
  if ¬ DigOk (e.take 1) 0 (if w.getD 0 0 - 48 = t.getD 0 0 - 48 then 5 else 0) then .error .form else
  if ¬ HexOk e then .error .form else
  if hexV (e.getD 2 0) * 16 + hexV (e.getD 3 0) ≠ sumOf line then .error .sum else
  .ok ⟨(h.drop 1).take 2, h.drop 3 == Sd37.ascii "VDO", t.getD 0 0 - 48, w.getD 0 0 - 48, s.head?.map fun d => d - 48, c, l, e.getD 0 0 - 48⟩
def readB (line : List Nat) : Except Bad Sentence :=
  if 82 < line.length ∨ (splitC line).length ≠ 7 then .error .form else
  readF line ((splitC line).getD 0 []) ((splitC line).getD 1 []) ((splitC line).getD 2 []) ((splitC line).getD 3 []) ((splitC line).getD 4 []) ((splitC line).getD 5 []) ((splitC line).getD 6 [])
def readS (row : List Nat) : Except Bad Sentence := readB (ending row)
def AllOk (h t w s c l e : List Nat) : Prop := HeadOk h ∧ DigOk t 1 9 ∧ DigOk w 1 (t.getD 0 0 - 48) ∧ GroupOk s (t.getD 0 0 - 48) ∧ ChanOk c ∧ PayOk l ∧ TailOk e ∧ DigOk (e.take 1) 0 (if w.getD 0 0 - 48 = t.getD 0 0 - 48 then 5 else 0) ∧ HexOk e
instance (h t w s c l e) : Decidable (AllOk h t w s c l e) := by unfold AllOk; infer_instance
theorem drop_last2 (Z : List Nat) (x y : Nat) : (Z ++ [x, y]).drop ((Z ++ [x, y]).length - 2) = [x, y] := by simp
theorem getD_last3 (Z : List Nat) (m x y : Nat) : (Z ++ [m, x, y]).getD ((Z ++ [m, x, y]).length - 3) 0 = m := by simp [List.getD]
theorem readF_not {line h t w s c l e : List Nat} (n : ¬ AllOk h t w s c l e) : readF line h t w s c l e = .error .form := by
  unfold readF
  by_cases a1 : HeadOk h
  · rw [if_neg (by simpa using a1)]
    by_cases a2 : DigOk t 1 9
    · rw [if_neg (by simpa using a2)]
      by_cases a3 : DigOk w 1 (t.getD 0 0 - 48)
      · rw [if_neg (by simpa using a3)]
        by_cases a4 : GroupOk s (t.getD 0 0 - 48)
        · rw [if_neg (by simpa using a4)]
          by_cases a5 : ChanOk c
          · rw [if_neg (by simpa using a5)]
            by_cases a6 : PayOk l
            · rw [if_neg (by simpa using a6)]
              by_cases a7 : TailOk e
              · rw [if_neg (by simpa using a7)]
                by_cases a8 : DigOk (e.take 1) 0 (if w.getD 0 0 - 48 = t.getD 0 0 - 48 then 5 else 0)
                · rw [if_neg (by simpa using a8)]
                  by_cases a9 : HexOk e
                  · exact absurd ⟨a1, a2, a3, a4, a5, a6, a7, a8, a9⟩ n
                  · rw [if_pos a9]
                · rw [if_pos a8]
              · rw [if_pos a7]
            · rw [if_pos a6]
          · rw [if_pos a5]
        · rw [if_pos a4]
      · rw [if_pos a3]
    · rw [if_pos a2]
  · rw [if_pos a1]
theorem readF_all {line h t w s c l e : List Nat} (a : AllOk h t w s c l e) : readF line h t w s c l e =
    if hexV (e.getD 2 0) * 16 + hexV (e.getD 3 0) ≠ sumOf line then .error .sum else
    .ok ⟨(h.drop 1).take 2, h.drop 3 == Sd37.ascii "VDO", t.getD 0 0 - 48, w.getD 0 0 - 48, s.head?.map fun d => d - 48, c, l, e.getD 0 0 - 48⟩ := by
  obtain ⟨a1, a2, a3, a4, a5, a6, a7, a8, a9⟩ := a
  unfold readF
  rw [if_neg (not_not_intro a1), if_neg (not_not_intro a2), if_neg (not_not_intro a3), if_neg (not_not_intro a4), if_neg (not_not_intro a5), if_neg (not_not_intro a6), if_neg (not_not_intro a7), if_neg (not_not_intro a8), if_neg (not_not_intro a9)]
def inner (b : List Nat) (f : List (List Nat)) : Except Bad Sentence :=
  match f with
    | [h, t, w, s, c, l, e] =>
      if h.length ≠ 5 ∨ ((h.take 2).all fun c => decide (65 ≤ c) && decide (c ≤ 90)) = false ∨ (h.drop 2 ≠ Sd37.ascii "VDM" ∧ h.drop 2 ≠ Sd37.ascii "VDO") then .error .form
      else (match t, w, s, c, e with
        | [t], [w], s, c, [e] =>
          if Sd37.digit t = false ∨ Sd37.digit w = false ∨ t = 48 ∨ w = 48 ∨ t < w ∨ 1 < s.length ∨ s.all Sd37.digit = false ∨ 1 < c.length ∨ (c.all fun x => x == 65 || (x == 66 || (x == 49 || x == 50))) = false ∨ l.isEmpty = true ∨ l.all Sd37.armoured = false ∨ e < 48 ∨ 53 < e ∨ (49 < t ∧ s.isEmpty = true) ∨ (w < t ∧ e ≠ 48) then .error .form
          else if b.drop (b.length - 2) ≠ [Sd37.hexDigit (sumOf b / 16), Sd37.hexDigit (sumOf b % 16)] then .error .sum
          else .ok ⟨h.take 2, h.drop 2 == Sd37.ascii "VDO", t - 48, w - 48, s.head?.map fun d => d - 48, c, l, e - 48⟩
        | _, _, _, _, _ => .error .form)
    | _ => .error .form
def Guard (b : List Nat) : Prop := b.length < 4 ∨ 82 < b.length ∨ b.getD 0 0 ≠ 33 ∨ b.getD (b.length - 3) 0 ≠ 42 ∨ (b.any fun c => decide (c < 32) || decide (126 < c)) = true ∨ ((b.drop (b.length - 2)).all fun c => Sd37.digit c || (decide (65 ≤ c) && decide (c ≤ 70))) = false
instance (b) : Decidable (Guard b) := by unfold Guard; infer_instance
def sentB (b : List Nat) : Except Bad Sentence := if Guard b then .error .form else inner b (Sd37.fields 44 (((b.drop 1).take (b.length - 4)).length + 1) ((b.drop 1).take (b.length - 4)))
theorem sentence_eq (row : List Nat) : Sd37.sentence row = sentB (ending row) := by
  rw [ending_eq]
  rfl
theorem ascii_VDM : Sd37.ascii "VDM" = [86, 68, 77] := by decide
theorem ascii_VDO : Sd37.ascii "VDO" = [86, 68, 79] := by decide
theorem digit_iff {c : Nat} : Sd37.digit c = true ↔ 48 ≤ c ∧ c ≤ 57 := by simp [Sd37.digit]
theorem armoured_iff {c : Nat} : Sd37.armoured c = true ↔ Pay c := by simp [Sd37.armoured, Pay]
theorem hexB_iff {c : Nat} : (Sd37.digit c || (decide (65 ≤ c) && decide (c ≤ 70))) = true ↔ Hex c := by simp [Sd37.digit, Hex]
theorem hexDigit_iff {x a b : Nat} (ha : Hex a) (hb : Hex b) (hx : x < 256) : [a, b] = [Sd37.hexDigit (x / 16), Sd37.hexDigit (x % 16)] ↔ hexV a * 16 + hexV b = x := by
  have h1 : x / 16 < 16 := by omega
  have h2 : x % 16 < 16 := by omega
  unfold Hex at ha hb
  simp only [List.cons.injEq, and_true, Sd37.hexDigit, hexV]
  constructor
  · rintro ⟨e1, e2⟩
    split at e1 <;> split at e2 <;> split <;> split <;> omega
  · intro e
    split at e <;> split at e <;> (constructor <;> split <;> omega)
theorem xor_lt : ∀ (l : List Nat) (a : Nat), a < 128 → (∀ c ∈ l, c < 128) → l.foldl (fun s c => s ^^^ c) a < 128
  | [], a, h, _ => h
  | c :: r, a, h, hc => xor_lt r (a ^^^ c) (Nat.xor_lt_two_pow (n := 7) h (hc c List.mem_cons_self)) fun x hx => hc x (List.mem_cons_of_mem _ hx)
theorem split_ends {body : List Nat} {x y : Nat} {h t w s c l e : List Nat} (hx : x ≠ 44) (hy : y ≠ 44) (hs : splitC body = [h, t, w, s, c, l, e]) : splitC (33 :: (body ++ [42, x, y])) = [33 :: h, t, w, s, c, l, e ++ [42, x, y]] := by
  have e1 : splitC (body ++ [42, x, y]) = [h, t, w, s, c, l, e ++ [42, x, y]] := by
    have q : body ++ [42, x, y] = ((body ++ [42]) ++ [x]) ++ [y] := by simp
    rw [q, splitC_snoc, splitC_snoc, splitC_snoc, hs]
    simp [addC, hx, hy]
  exact splitC_other (by decide) e1
theorem addC_length {fs : List (List Nat)} {c : Nat} (h : fs ≠ []) (hc : c ≠ 44) : (addC fs c).length = fs.length := by
  unfold addC
  rw [if_neg hc]
  cases fs with
  | nil => exact absurd rfl h
  | cons f r => simp
theorem addC_ne {fs : List (List Nat)} {c : Nat} : addC fs c ≠ [] := by
  unfold addC
  split <;> simp
theorem split_ends_len {body : List Nat} {x y : Nat} (hx : x ≠ 44) (hy : y ≠ 44) : (splitC (33 :: (body ++ [42, x, y]))).length = (splitC body).length := by
  have q : body ++ [42, x, y] = ((body ++ [42]) ++ [x]) ++ [y] := by simp
  obtain ⟨f, fs, e⟩ := splitC_cons (body ++ [42, x, y])
  rw [splitC_other (by decide) e]
  have := congrArg List.length e
  rw [q, splitC_snoc, splitC_snoc, splitC_snoc, addC_length addC_ne hy, addC_length addC_ne hx, addC_length (splitC_ne _) (by decide)] at this
  rw [this]; rfl
theorem guard_form {b : List Nat} (g : ¬ Guard b) : ∃ body x y, b = 33 :: (body ++ [42, x, y]) ∧ Hex x ∧ Hex y ∧ b.length ≤ 82 ∧ (∀ c ∈ b, c < 128) ∧ (b.drop 1).take (b.length - 4) = body := by
  unfold Guard at g
  simp only [not_or, Decidable.not_not, Nat.not_lt] at g
  obtain ⟨g1, g2, g3, g4, g5, g6⟩ := g
  cases b with
  | nil => simp at g1
  | cons z r =>
    have hz : z = 33 := by simpa using g3
    subst hz
    rcases last_cases r with rfl | ⟨r1, y, rfl⟩
    · simp at g1
    rcases last_cases r1 with rfl | ⟨r2, x, rfl⟩
    · simp at g1
    rcases last_cases r2 with rfl | ⟨body, m, rfl⟩
    · simp at g1
    have hm : m = 42 := by
      have : (33 :: (body ++ [m] ++ [x] ++ [y])).getD ((33 :: (body ++ [m] ++ [x] ++ [y])).length - 3) 0 = m := by
        simp [List.getD]
      rw [this] at g4; exact g4
    subst hm
    have hd : (33 :: (body ++ [42] ++ [x] ++ [y])).drop ((33 :: (body ++ [42] ++ [x] ++ [y])).length - 2) = [x, y] := by
      have : 33 :: (body ++ [42] ++ [x] ++ [y]) = (33 :: (body ++ [42])) ++ [x, y] := by simp
      rw [this, List.length_append]
      simp
    rw [hd] at g6
    have g6' : Hex x ∧ Hex y := by
      have : ([x, y].all fun c => Sd37.digit c || (decide (65 ≤ c) && decide (c ≤ 70))) = true := by
        cases q : ([x, y].all fun c => Sd37.digit c || (decide (65 ≤ c) && decide (c ≤ 70))) with
        | true => rfl
        | false => exact absurd q g6
      simp only [List.all_cons, List.all_nil, Bool.and_true, Bool.and_eq_true] at this
      exact ⟨hexB_iff.mp (by simpa using this.1), hexB_iff.mp (by simpa using this.2)⟩
    refine ⟨body, x, y, by simp, g6'.1, g6'.2, g2, fun c hc => ?_, ?_⟩
    · by_cases h126 : 126 < c
      · exact absurd (List.any_eq_true.mpr ⟨c, hc, by simp [h126]⟩) g5
      · omega
    · have : (33 :: (body ++ [42] ++ [x] ++ [y])).drop 1 = body ++ [42, x, y] := by simp
      rw [this]
      simp
theorem hex_ne {c : Nat} (h : Hex c) : c ≠ 44 := by unfold Hex at h; omega
theorem len1 {l : List Nat} (h : l.length = 1) : ∃ a, l = [a] := by
  match l, h with
  | [a], _ => exact ⟨a, rfl⟩
theorem inner_ok {b : List Nat} {h t w s c l e : List Nat} {x y : Nat} (hx : Hex x) (hy : Hex y) (hd : b.drop (b.length - 2) = [x, y]) (hs : sumOf b < 256) :
    inner b [h, t, w, s, c, l, e] = if AllOk (33 :: h) t w s c l (e ++ [42, x, y]) then
      (if hexV x * 16 + hexV y ≠ sumOf b then .error .sum else .ok ⟨h.take 2, h.drop 2 == Sd37.ascii "VDO", t.getD 0 0 - 48, w.getD 0 0 - 48, s.head?.map fun d => d - 48, c, l, e.getD 0 0 - 48⟩)
      else .error .form := by
  unfold inner
  dsimp only
  by_cases a1 : HeadOk (33 :: h)
  · have c1 : ¬ (h.length ≠ 5 ∨ ((h.take 2).all fun c => decide (65 ≤ c) && decide (c ≤ 90)) = false ∨ (h.drop 2 ≠ Sd37.ascii "VDM" ∧ h.drop 2 ≠ Sd37.ascii "VDO")) := by
      obtain ⟨k1, k2, k3, k4, k5⟩ := a1
      rw [ascii_VDM, ascii_VDO]
      match h, k1 with
      | [p0, p1, p2, p3, p4], _ =>
        simp at k3 k4 k5
        simp [k3, k4]
        intro q
        rcases k5 with k5 | k5
        · exact absurd k5.2.2 (q k5.1 k5.2.1)
        · exact k5
    rw [if_neg c1]
    by_cases one : t.length = 1 ∧ w.length = 1 ∧ e.length = 1
    · obtain ⟨o1, o2, o3⟩ := one
      obtain ⟨t0, rfl⟩ := len1 o1
      obtain ⟨w0, rfl⟩ := len1 o2
      obtain ⟨e0, rfl⟩ := len1 o3
      dsimp only
      rw [hd]
      by_cases a2 : AllOk (33 :: h) [t0] [w0] s c l ([e0] ++ [42, x, y])
      · rw [if_pos a2]
        obtain ⟨_, b1, b2, b3, b4, b5, b6, b7, b8⟩ := a2
        obtain ⟨_, b1, b1'⟩ := b1
        obtain ⟨_, b2, b2'⟩ := b2
        obtain ⟨_, b7, b7'⟩ := b7
        simp at b1 b1' b2 b2' b7 b7'
        have cc : ¬ (Sd37.digit t0 = false ∨ Sd37.digit w0 = false ∨ t0 = 48 ∨ w0 = 48 ∨ t0 < w0 ∨ 1 < s.length ∨ s.all Sd37.digit = false ∨ 1 < c.length ∨ (c.all fun x => x == 65 || (x == 66 || (x == 49 || x == 50))) = false ∨ l.isEmpty = true ∨ l.all Sd37.armoured = false ∨ e0 < 48 ∨ 53 < e0 ∨ (49 < t0 ∧ s.isEmpty = true) ∨ (w0 < t0 ∧ e0 ≠ 48)) := by
          have d1 : Sd37.digit t0 = true := digit_iff.mpr (by omega)
          have d2 : Sd37.digit w0 = true := digit_iff.mpr (by omega)
          have s1 : ¬ 1 < s.length ∧ s.all Sd37.digit = true ∧ ¬ (49 < t0 ∧ s.isEmpty = true) := by
            cases s with
            | nil =>
              refine ⟨by simp, rfl, fun q => ?_⟩
              have := b3 (.inr (by simp; omega))
              exact absurd this.1 (by simp)
            | cons s0 sr =>
              obtain ⟨z1, z2, z3⟩ := b3 (.inl (by simp))
              obtain ⟨s0', z⟩ := len1 z1
              rw [z] at z2 z3
              simp at z2 z3
              rw [z]
              refine ⟨by simp, ?_, by simp⟩
              simp only [List.all_cons, List.all_nil, Bool.and_true]
              exact digit_iff.mpr ⟨z2, z3⟩
          have c1 : ¬ 1 < c.length ∧ (c.all fun x => x == 65 || (x == 66 || (x == 49 || x == 50))) = true := by
            rcases b4 with rfl | rfl | rfl | rfl | rfl <;> simp
          have l1 : l.isEmpty = false ∧ l.all Sd37.armoured = true := by
            refine ⟨by simpa using b5.1, List.all_eq_true.mpr fun z hz => armoured_iff.mpr (b5.2 z hz)⟩
          rw [d1, d2, s1.2.1, c1.2, l1.1, l1.2]
          simp only [Bool.true_eq_false, Bool.false_eq_true, false_or]
          rintro (q | q | q | q | q | q | q | q | q)
          · omega
          · omega
          · omega
          · exact s1.1 q
          · exact c1.1 q
          · omega
          · split at b7' <;> omega
          · exact s1.2.2 q
          · split at b7' <;> omega
        rw [if_neg cc]
        by_cases hsum : hexV x * 16 + hexV y = sumOf b
        · rw [if_neg (fun q => q ((hexDigit_iff hx hy hs).mpr hsum)), if_neg (fun q => q hsum)]
          rfl
        · rw [if_pos (fun q => hsum ((hexDigit_iff hx hy hs).mp q)), if_pos hsum]
      · rw [if_neg a2, if_pos]
        apply Decidable.byContradiction
        intro cc
        simp only [not_or, Nat.not_lt, Bool.not_eq_false] at cc
        obtain ⟨d1, d2, d3, d4, d5, d6, d7, d8, d9, d10, d11, d12, d13, d14, d15⟩ := cc
        have d1 := digit_iff.mp d1
        have d2 := digit_iff.mp d2
        refine a2 ⟨a1, ⟨rfl, ?_, ?_⟩, ⟨rfl, ?_, ?_⟩, fun q => ?_, ?_, ?_, ⟨by simp, by simp⟩, ⟨by simp, ?_, ?_⟩, ?_⟩
        · simp; omega
        · simp; omega
        · simp; omega
        · simp; omega
        · cases s with
          | nil =>
            rcases q with q | q
            · exact absurd rfl q
            · simp at q
              exact absurd ⟨by omega, rfl⟩ d14
          | cons s0 sr =>
            have : sr = [] := by
              simp at d6
              exact d6
            subst this
            simp only [List.all_cons, List.all_nil, Bool.and_true] at d7
            have := digit_iff.mp d7
            exact ⟨rfl, by simp; omega, by simp; omega⟩
        · match c, d8, d9 with
          | [], _, _ => exact .inl rfl
          | [c0], _, d9 =>
            simp only [List.all_cons, List.all_nil, Bool.and_true, Bool.or_eq_true, beq_iff_eq] at d9
            rcases d9 with q | q | q | q <;> subst q <;> simp [ChanOk]
        · refine ⟨by simpa using d10, fun z hz => armoured_iff.mp (List.all_eq_true.mp d11 z hz)⟩
        · simp; omega
        · simp
          split
          · omega
          · rename_i q
            have : w0 < t0 := by omega
            have : e0 = 48 := by
              apply Decidable.byContradiction
              intro ne
              exact d15 ⟨this, ne⟩
            omega
        · exact ⟨by simpa using hx, by simpa using hy⟩
    · rw [if_neg]
      · split
        · exact absurd ⟨rfl, rfl, rfl⟩ one
        · rfl
      · rintro ⟨_, b1, b2, _, _, _, b6, _, _⟩
        have : e.length = 1 := by
          have := b6.1
          simp at this
          exact this
        exact one ⟨b1.1, b2.1, this⟩
  · have c1 : (h.length ≠ 5 ∨ ((h.take 2).all fun c => decide (65 ≤ c) && decide (c ≤ 90)) = false ∨ (h.drop 2 ≠ Sd37.ascii "VDM" ∧ h.drop 2 ≠ Sd37.ascii "VDO")) := by
      apply Decidable.byContradiction
      intro q
      simp only [not_or, Decidable.not_not] at q
      obtain ⟨q1, q2, q3⟩ := q
      have q3 : h.drop 2 = Sd37.ascii "VDM" ∨ h.drop 2 = Sd37.ascii "VDO" := by
        by_cases z : h.drop 2 = Sd37.ascii "VDM"
        · exact .inl z
        · exact .inr (Decidable.byContradiction fun z2 => q3 ⟨z, z2⟩)
      match h, q1 with
      | [p0, p1, p2, p3, p4], _ =>
        rw [ascii_VDM, ascii_VDO] at q3
        simp at q2 q3
        apply a1
        refine ⟨rfl, rfl, ?_, ?_, ?_⟩
        · simp; omega
        · simp; omega
        · simp; omega
    rw [if_pos c1, if_neg]
    exact fun q => a1 q.1
theorem sentB_eq (b : List Nat) : sentB b = readB b := by
  unfold sentB readB
  by_cases g : Guard b
  · rw [if_pos g]
    by_cases g2 : 82 < b.length ∨ (splitC b).length ≠ 7
    · rw [if_pos g2]
    · rw [if_neg g2]
      simp only [not_or, Decidable.not_not, Nat.not_lt] at g2
      obtain ⟨g82, g7⟩ := g2
      have hj := joinC_splitC b
      have nc := splitC_nocomma b
      match q : splitC b, g7 with
      | [h, t, w, s, c, l, e], _ =>
        rw [q] at hj nc
        refine (readF_not fun a => ?_).symm
        simp only [List.getD_cons_zero, List.getD_cons_succ] at a
        obtain ⟨⟨k1, k2, k3, k4, k5⟩, b1, b2, b3, b4, b5, b6, b7, b8⟩ := a
        obtain ⟨t0, rfl⟩ := len1 b1.1
        obtain ⟨w0, rfl⟩ := len1 b2.1
        match h, k1 with
        | [p, p0, p1, p2, p3, p4], _ =>
          match e, b6.1 with
          | [e0, m, x, y], _ =>
            have hm : m = 42 := by simpa using b6.2
            have hp : p = 33 := by simpa using k2
            subst hm hp
            simp at k3 k4 k5
            obtain ⟨hx, hy⟩ := b8
            simp at hx hy
            have hs : s = [] ∨ ∃ s0, s = [s0] ∧ 48 ≤ s0 ∧ s0 ≤ 57 := by
              cases s with
              | nil => exact .inl rfl
              | cons s0 sr =>
                obtain ⟨z1, z2, z3⟩ := b3 (.inl (by simp))
                obtain ⟨s0', z⟩ := len1 z1
                rw [z] at z2 z3
                simp at z2 z3
                exact .inr ⟨s0', z, z2, z3⟩
            have hb : b = 33 :: (([p0, p1, p2, p3, p4] ++ 44 :: t0 :: 44 :: w0 :: 44 :: (s ++ 44 :: (c ++ 44 :: (l ++ 44 :: [e0])))) ++ [42, x, y]) := by
              rw [← hj]
              simp [joinC]
            have small : ∀ z ∈ b, 32 ≤ z ∧ z ≤ 126 := by
              rw [hb]
              obtain ⟨_, b1, b1'⟩ := b1
              obtain ⟨_, b2, b2'⟩ := b2
              obtain ⟨_, b7, b7'⟩ := b7
              simp at b1 b1' b2 b2' b7 b7'
              unfold Hex at hx hy
              intro z hz
              simp only [List.mem_cons, List.mem_append, List.not_mem_nil, or_false] at hz
              have he5 : e0 ≤ 53 := by
                split at b7' <;> omega
              have hss : z ∈ s → 48 ≤ z ∧ z ≤ 57 := by
                intro hz
                rcases hs with rfl | ⟨s0, rfl, h1, h2⟩
                · simp at hz
                · have : z = s0 := by simpa using hz
                  omega
              have hcc : z ∈ c → 48 ≤ z ∧ z ≤ 66 := by
                intro hz
                rcases b4 with rfl | rfl | rfl | rfl | rfl <;> simp at hz <;> omega
              have hll : z ∈ l → 48 ≤ z ∧ z ≤ 119 := by
                intro hz
                have := b5.2 z hz
                unfold Pay at this
                omega
              rcases hz with hz | hz
              · omega
              · rcases hz with hz | hz
                · rcases hz with hz | hz
                  · omega
                  · rcases hz with hz | hz | hz | hz | hz | hz
                    · omega
                    · omega
                    · omega
                    · omega
                    · omega
                    · rcases hz with hz | hz
                      · have := hss hz; omega
                      · rcases hz with hz | hz
                        · omega
                        · rcases hz with hz | hz
                          · have := hcc hz; omega
                          · rcases hz with hz | hz
                            · omega
                            · rcases hz with hz | hz
                              · have := hll hz; omega
                              · omega
                · omega
            rcases g with g | g | g | g | g | g
            · rw [hb] at g
              simp at g
              omega
            · omega
            · rw [hb] at g
              simp at g
            · apply g
              rw [hb]
              rw [show ∀ (Z : List Nat), 33 :: (Z ++ [42, x, y]) = (33 :: Z) ++ [42, x, y] from fun _ => rfl]
              exact getD_last3 _ _ _ _
            · obtain ⟨z, hz, hq⟩ := List.any_eq_true.mp g
              have := small z hz
              simp at hq
              omega
            · rw [hb, show ∀ (Z : List Nat), 33 :: (Z ++ [42, x, y]) = (33 :: (Z ++ [42])) ++ [x, y] from fun _ => by simp] at g
              rw [drop_last2] at g
              simp only [List.all_cons, List.all_nil, hexB_iff.mpr hx, hexB_iff.mpr hy, Bool.and_true] at g
              exact absurd g (by decide)
  · rw [if_neg g]
    obtain ⟨body, x, y, hb, hx, hy, h82, h128, hbody⟩ := guard_form g
    rw [hbody, fields_split]
    have hdr : b.drop (b.length - 2) = [x, y] := by
      rw [hb, show ∀ (Z : List Nat), 33 :: (Z ++ [42, x, y]) = (33 :: (Z ++ [42])) ++ [x, y] from fun _ => by simp]
      simp
    have hsum : sumOf b < 256 := by
      have : sumOf b < 128 := by
        unfold sumOf Sd37.xor
        rw [hbody]
        exact xor_lt body 0 (by decide) fun z hz => h128 z (by rw [hb]; simp [hz])
      omega
    by_cases h7 : (splitC body).length = 7
    · match q : splitC body, h7 with
      | [h, t, w, s, c, l, e], _ =>
        have hs := split_ends (hex_ne hx) (hex_ne hy) q
        rw [← hb] at hs
        rw [inner_ok hx hy hdr hsum, hs]
        have n82 : ¬ (82 < b.length ∨ [33 :: h, t, w, s, c, l, e ++ [42, x, y]].length ≠ 7) := by simp; omega
        rw [if_neg n82]
        simp only [List.getD_cons_zero, List.getD_cons_succ]
        by_cases a : AllOk (33 :: h) t w s c l (e ++ [42, x, y])
        · rw [if_pos a, readF_all a]
          have e1 : e.length = 1 := by
            have := a.2.2.2.2.2.2.1.1
            simp at this
            exact this
          obtain ⟨e0, rfl⟩ := len1 e1
          rfl
        · rw [if_neg a, readF_not a]
    · have : (splitC b).length ≠ 7 := by
        rw [hb, split_ends_len (hex_ne hx) (hex_ne hy)]
        exact h7
      rw [if_pos (.inr this)]
      unfold inner
      split
      · rename_i heq
        rw [heq] at h7
        exact absurd rfl h7
      · rfl
theorem readS_eq (row : List Nat) : Sd37.sentence row = readS row := by
  rw [sentence_eq, sentB_eq]
  rfl
end Sh
namespace Sh
open Sd37 (Told Val un sn textAt unless_ name_)
def tellNum (t : Told) (w : String) (z u : Nat) (largest : Option Nat) : Option Told :=
  if z = u then some t else if (∃ m, largest = some m ∧ m < z) then none else some (t ++ [(w, .num z)])
def tellText (t : Told) (w : String) (x : List Nat) : Told := if x = [] then t else t ++ [(w, .text x)]
theorem tellText_eq (t : Told) (w : String) (x : List Nat) : tellText t w x = t ++ name_ w x := by
  unfold tellText name_
  cases x <;> simp
def absI (z : Int) : Int := if z < 0 then -z else z
def mPlace (b : List Bool) (t : Told) (a : Nat) : Option Told :=
  if sn b a 28 = 108600000 ∧ sn b (a + 28) 27 = 54600000 then some t
  else if 108000000 < absI (sn b a 28) ∨ 54000000 < absI (sn b (a + 28) 27) then none
  else some ((t ++ [("x", .num (sn b a 28))]) ++ [("y", .num (sn b (a + 28) 27))])
def mWay (b : List Bool) (t : Told) (a c : Nat) : Option Told :=
  (tellNum t "speed" (un b a 10) 1023 none).bind fun t => (tellNum t "course" (un b c 12) 3600 (some 3600)).bind fun t => tellNum t "heading" (un b (c + 12) 9) 511 (some 359)
def mSizes (b : List Bool) (t : Told) (a : Nat) : Option Told :=
  (tellNum t "bow" (un b a 9) 0 none).bind fun t => (tellNum t "stern" (un b (a + 9) 9) 0 none).bind fun t => (tellNum t "port" (un b (a + 18) 6) 0 none).bind fun t => tellNum t "starboard" (un b (a + 24) 6) 0 none
def mDate (b : List Bool) (t : Told) (a : Nat) : Option Told :=
  (tellNum t "month" (un b a 4) 0 (some 12)).bind fun t => (tellNum t "day" (un b (a + 4) 5) 0 none).bind fun t => (tellNum t "hour" (un b (a + 9) 5) 24 (some 24)).bind fun t => tellNum t "minute" (un b (a + 14) 6) 60 (some 60)
def mTurn (b : List Bool) (t : Told) (a : Nat) : Told := if sn b a 8 = -128 then t else t ++ [("turn", .num (sn b a 8))]
def mK1 (b : List Bool) : Option Told := if b.length ≠ 168 then none else
  (tellNum [] "status" (un b 38 4) 15 none).bind fun t => (mPlace b (mTurn b t 42) 61).bind fun t => mWay b t 50 116
def mK4 (b : List Bool) : Option Told := if b.length ≠ 168 then none else
  (tellNum [] "year" (un b 38 14) 0 none).bind fun t => (mDate b t 52).bind fun t => (tellNum t "second" (un b 72 6) 60 (some 60)).bind fun t => mPlace b t 79
def mK5 (b : List Bool) : Option Told := if b.length ≠ 424 ∧ b.length ≠ 422 then none else
  (tellNum [] "imo" (un b 40 30) 0 none).bind fun t => (tellNum (tellText (tellText t "call" (textAt b 70 7)) "name" (textAt b 112 20)) "kind" (un b 232 8) 0 none).bind fun t =>
  (mSizes b t 240).bind fun t => (mDate b t 274).bind fun t => (tellNum t "draught" (un b 294 8) 0 none).bind fun t => some (tellText t "to" (textAt b 302 20))
def mK18 (b : List Bool) : Option Told := if b.length ≠ 168 then none else (mPlace b [] 57).bind fun t => mWay b t 46 112
def mK24 (b : List Bool) : Option Told :=
  if un b 38 2 = 0 then (if b.length ≠ 160 ∧ b.length ≠ 168 then none else some (tellText [] "name" (textAt b 40 20)))
  else if un b 38 2 = 1 then (if b.length ≠ 168 then none else (tellNum [] "kind" (un b 40 8) 0 none).bind fun t => mSizes b (tellText t "call" (textAt b 90 7)) 132)
  else none
def mKind (b : List Bool) : Option Told :=
  if un b 0 6 = 1 ∨ un b 0 6 = 2 ∨ un b 0 6 = 3 then mK1 b else if un b 0 6 = 4 then mK4 b else if un b 0 6 = 5 then mK5 b else if un b 0 6 = 18 then mK18 b else if un b 0 6 = 24 then mK24 b else none
def mMsg (b : List Bool) : Option Told := if b.length < 40 then none else if 999999999 < un b 8 30 then none else mKind b
theorem tellNum_all (t : Told) (w : String) (z u : Nat) : tellNum t w z u none = some (t ++ unless_ u w z) := by
  unfold tellNum unless_
  by_cases h : z = u
  · subst h; simp
  · have : ¬ (z : Int) = (u : Int) := by omega
    simp [h, this]
theorem tellNum_to (t : Told) (w : String) (z u m : Nat) : tellNum t w z u (some m) = if z ≠ u ∧ m < z then none else some (t ++ unless_ u w z) := by
  unfold tellNum unless_
  by_cases h : z = u
  · subst h; simp
  · have : ¬ (z : Int) = (u : Int) := by omega
    by_cases h2 : m < z
    · simp [h, h2]
    · simp [h, h2, this]
theorem mPlace_eq (b : List Bool) (t : Told) (a : Nat) : mPlace b t a = (Sd37.place b a).map fun p => t ++ p := by
  unfold mPlace Sd37.place absI
  generalize sn b a 28 = x
  generalize sn b (a + 28) 27 = y
  dsimp only
  by_cases h : x = 108600000 ∧ y = 54600000
  · rw [if_pos h, if_pos h]; simp
  · rw [if_neg h, if_neg h]
    by_cases h2 : x < -108000000 ∨ 108000000 < x ∨ y < -54000000 ∨ 54000000 < y
    · rw [if_pos h2, if_pos]
      · rfl
      · split <;> split <;> omega
    · rw [if_neg h2, if_neg]
      · simp
      · split <;> split <;> omega
theorem mTurn_eq (b : List Bool) (t : Told) (a : Nat) : mTurn b t a = t ++ unless_ (-128) "turn" (sn b a 8) := by
  unfold mTurn unless_
  split <;> simp
theorem mWay_eq (b : List Bool) (t : Told) (a c : Nat) : mWay b t a c = (Sd37.way b a c).map fun p => t ++ p := by
  unfold mWay Sd37.way
  rw [tellNum_all]
  simp only [Option.bind_some, tellNum_to]
  generalize un b c 12 = k
  generalize un b (c + 12) 9 = h
  by_cases h1 : 3600 < k
  · rw [if_pos ⟨by omega, h1⟩, if_pos (.inl h1)]; rfl
  · rw [if_neg (fun q => h1 q.2), Option.bind_some]
    by_cases h2 : 359 < h ∧ h ≠ 511
    · rw [if_pos ⟨h2.2, h2.1⟩, if_pos (.inr h2)]; rfl
    · rw [if_neg (fun q => h2 ⟨q.2, q.1⟩), if_neg (fun q => q.elim h1 h2)]
      simp
theorem mSizes_eq (b : List Bool) (t : Told) (a : Nat) : mSizes b t a = some (t ++ Sd37.sizes b a) := by
  unfold mSizes Sd37.sizes
  simp only [tellNum_all, Option.bind_some]
  simp
theorem mDate_eq (b : List Bool) (t : Told) (a : Nat) : mDate b t a = if 12 < un b a 4 ∨ 24 < un b (a + 9) 5 ∨ 60 < un b (a + 14) 6 then none else
    some (t ++ (unless_ 0 "month" (un b a 4) ++ (unless_ 0 "day" (un b (a + 4) 5) ++ (unless_ 24 "hour" (un b (a + 9) 5) ++ unless_ 60 "minute" (un b (a + 14) 6))))) := by
  unfold mDate
  simp only [tellNum_all, tellNum_to]
  generalize un b a 4 = m
  generalize un b (a + 4) 5 = d
  generalize un b (a + 9) 5 = h
  generalize un b (a + 14) 6 = n
  by_cases h1 : 12 < m
  · rw [if_pos ⟨by omega, h1⟩, if_pos (.inl h1)]; rfl
  · rw [if_neg (fun q => h1 q.2), Option.bind_some, Option.bind_some]
    by_cases h2 : 24 < h
    · rw [if_pos ⟨by omega, h2⟩, if_pos (.inr (.inl h2))]; rfl
    · rw [if_neg (fun q => h2 q.2), Option.bind_some]
      by_cases h3 : 60 < n
      · rw [if_pos ⟨by omega, h3⟩, if_pos (.inr (.inr h3))]
      · rw [if_neg (fun q => h3 q.2), if_neg (fun q => q.elim h1 (fun q => q.elim h2 h3))]
        simp
theorem mKind_eq (b : List Bool) : mKind b = Sd37.told b := by
  unfold mKind Sd37.told
  dsimp only
  by_cases k1 : un b 0 6 = 1 ∨ un b 0 6 = 2 ∨ un b 0 6 = 3
  · rw [if_pos k1, if_pos k1]
    unfold mK1
    split
    · rfl
    · simp only [tellNum_all, Option.bind_some, mTurn_eq, mPlace_eq, mWay_eq]
      cases Sd37.place b 61 with
      | none => rfl
      | some p =>
        cases Sd37.way b 50 116 with
        | none => rfl
        | some w => simp
  · rw [if_neg k1, if_neg k1]
    by_cases k4 : un b 0 6 = 4
    · rw [if_pos k4, if_pos k4]
      unfold mK4
      split
      · rfl
      · simp only [tellNum_all, Option.bind_some, mDate_eq, tellNum_to, mPlace_eq]
        by_cases h1 : 12 < un b 52 4 ∨ 24 < un b (52 + 9) 5 ∨ 60 < un b (52 + 14) 6
        · rw [if_pos h1, if_pos (by rcases h1 with q | q | q <;> simp_all)]; rfl
        · rw [if_neg h1, Option.bind_some]
          by_cases h2 : 60 < un b 72 6
          · rw [if_pos ⟨by omega, h2⟩, if_pos (.inr (.inr (.inr h2)))]; rfl
          · rw [if_neg (fun q => h2 q.2), if_neg (by
              rintro (q | q | q | q)
              · exact h1 (.inl q)
              · exact h1 (.inr (.inl q))
              · exact h1 (.inr (.inr q))
              · exact h2 q), Option.bind_some]
            cases Sd37.place b 79 with
            | none => rfl
            | some p => simp
    · rw [if_neg k4, if_neg k4]
      by_cases k5 : un b 0 6 = 5
      · rw [if_pos k5, if_pos k5]
        unfold mK5
        split
        · rfl
        · simp only [tellNum_all, Option.bind_some, mDate_eq, mSizes_eq, tellText_eq]
          by_cases h1 : 12 < un b 274 4 ∨ 24 < un b (274 + 9) 5 ∨ 60 < un b (274 + 14) 6
          · rw [if_pos h1, if_pos h1]; rfl
          · rw [if_neg h1, if_neg h1]
            simp
      · rw [if_neg k5, if_neg k5]
        by_cases k18 : un b 0 6 = 18
        · rw [if_pos k18, if_pos k18]
          unfold mK18
          split
          · rfl
          · simp only [mPlace_eq, mWay_eq]
            cases Sd37.place b 57 with
            | none => rfl
            | some p =>
              cases Sd37.way b 46 112 with
              | none => rfl
              | some w => simp
        · rw [if_neg k18, if_neg k18]
          by_cases k24 : un b 0 6 = 24
          · rw [if_pos k24, if_pos k24]
            unfold mK24
            split
            · split
              · rfl
              · simp [tellText_eq]
            · split
              · split
                · rfl
                · simp [tellNum_all, tellText_eq, mSizes_eq]
              · rfl
          · rw [if_neg k24, if_neg k24]
def b2i (b : Bool) : Int := if b = true then 1 else 0
def fB (v : Int) (l : List Bool) : Int := l.foldl (fun v b => v * 2 + b2i b) v
theorem fB_snoc (v : Int) (l : List Bool) (b : Bool) : fB v (l ++ [b]) = fB v l * 2 + b2i b := by simp [fB]
theorem un_fold : ∀ (l : List Bool) (n : Nat), fB (n : Int) l = ((l.foldl (fun v x => 2 * v + if x = true then 1 else 0) n : Nat) : Int)
  | [], n => rfl
  | b :: r, n => by
    have : (n : Int) * 2 + b2i b = ((2 * n + if b = true then 1 else 0 : Nat) : Int) := by
      cases b <;> simp [b2i] <;> omega
    unfold fB
    rw [List.foldl_cons, List.foldl_cons, this]
    exact un_fold r _
theorem un_fB (b : List Bool) (a n : Nat) : fB 0 ((b.drop a).take n) = ((un b a n : Nat) : Int) := un_fold _ 0
theorem fB_add : ∀ (l : List Bool) (v w : Int), fB (v + w) l = v * 2 ^ l.length + fB w l
  | [], v, w => by simp [fB]
  | b :: r, v, w => by
    unfold fB
    rw [List.foldl_cons, List.foldl_cons]
    have := fB_add r (v * 2) (w * 2 + b2i b)
    unfold fB at this
    rw [show (v + w) * 2 + b2i b = v * 2 + (w * 2 + b2i b) by rw [Int.add_mul]; omega, this, List.length_cons, Int.pow_succ]
    congr 1
    rw [Int.mul_assoc, Int.mul_comm 2]
theorem fB_nonneg : ∀ (l : List Bool) (v : Int), 0 ≤ v → 0 ≤ fB v l
  | [], v, h => h
  | b :: r, v, h => by
    unfold fB
    rw [List.foldl_cons]
    exact fB_nonneg r _ (by cases b <;> simp [b2i] <;> omega)
theorem fB_lt : ∀ (l : List Bool) (v : Int), fB v l < (v + 1) * 2 ^ l.length
  | [], v => by simp [fB]; omega
  | b :: r, v => by
    have := fB_lt r (v * 2 + b2i b)
    unfold fB at this ⊢
    rw [List.foldl_cons]
    refine Int.lt_of_lt_of_le this ?_
    rw [List.length_cons, Int.pow_succ, Int.mul_comm (2 ^ r.length) 2, ← Int.mul_assoc]
    refine Int.mul_le_mul_of_nonneg_right ?_ (Int.le_of_lt (Int.pow_pos (by decide)))
    cases b <;> simp [b2i] <;> omega
theorem un_lt (b : List Bool) (a n : Nat) : un b a n < 2 ^ n := by
  have h := fB_lt ((b.drop a).take n) 0
  rw [un_fB, Int.zero_add, Int.one_mul] at h
  have hl : ((b.drop a).take n).length ≤ n := List.length_take_le _ _
  have : (2 : Int) ^ ((b.drop a).take n).length ≤ 2 ^ n := by
    have := Nat.pow_le_pow_right (n := 2) (by decide) hl
    have := Int.ofNat_le.mpr this
    simpa using this
  have q : ((un b a n : Nat) : Int) < ((2 ^ n : Nat) : Int) := by
    rw [Int.natCast_pow]
    exact Int.lt_of_lt_of_le h this
  exact Int.ofNat_lt.mp q
theorem sn_fB {b : List Bool} {a n : Nat} {x : Bool} (hx : b[a]? = some x) (hl : a + (n + 1) ≤ b.length) : fB (-(b2i x)) ((b.drop (a + 1)).take n) = sn b a (n + 1) := by
  have ha : a < b.length := by omega
  have hd : (b.drop a).take (n + 1) = x :: ((b.drop (a + 1)).take n) := by
    rw [List.drop_eq_getElem_cons ha, List.take_succ_cons]
    congr 1
    have := List.getElem?_eq_getElem ha
    rw [hx] at this
    exact (Option.some.inj this).symm
  have hlen : ((b.drop (a + 1)).take n).length = n := by rw [List.length_take, List.length_drop]; omega
  have hun := un_fB b a (n + 1)
  rw [hd] at hun
  generalize (b.drop (a + 1)).take n = r at hun hlen ⊢
  have e0 : fB 0 (x :: r) = b2i x * 2 ^ n + fB 0 r := by
    have := fB_add r (b2i x) 0
    rw [hlen] at this
    unfold fB at this ⊢
    rw [List.foldl_cons]
    simpa using this
  have e1 : fB (-(b2i x)) r = -(b2i x) * 2 ^ n + fB 0 r := by
    have := fB_add r (-(b2i x)) 0
    rw [hlen] at this
    simpa using this
  have hr0 := fB_nonneg r 0 (Int.le_refl _)
  have hr1 := fB_lt r 0
  rw [hlen, Int.zero_add, Int.one_mul] at hr1
  unfold sn
  dsimp only
  rw [Nat.add_sub_cancel, e1]
  have p0 : (0 : Int) < 2 ^ n := Int.pow_pos (by decide)
  have p1 : ((2 ^ n : Nat) : Int) = (2 : Int) ^ n := by rw [Int.natCast_pow]; rfl
  have p2 : (2 : Int) ^ (n + 1) = 2 ^ n * 2 := Int.pow_succ ..
  cases x with
  | false =>
    have : b2i false = 0 := rfl
    rw [this] at e0 ⊢
    rw [Int.zero_mul, Int.zero_add] at e0
    have hlt : un b a (n + 1) < 2 ^ n := by
      apply Int.ofNat_lt.mp
      rw [p1, ← hun, e0]; exact hr1
    rw [if_pos hlt, ← hun, e0]
    simp
  | true =>
    have : b2i true = 1 := rfl
    rw [this] at e0 ⊢
    rw [Int.one_mul] at e0
    have hge : ¬ un b a (n + 1) < 2 ^ n := by
      intro q
      have := Int.ofNat_lt.mpr q
      rw [p1, ← hun, e0] at this
      omega
    rw [if_neg hge, ← hun, e0, p2]
    rw [Int.neg_mul, Int.one_mul]
    omega
end Sh
namespace Sh
open Sd37 (Told Val Ship Wait St Sentence find joined words decimal ascii put oldest fits)
def render : Val → List Nat
  | .num z => decimal z
  | .text b => 34 :: (b ++ [34])
def lineOf (id : Nat) (g : String → Option (List Nat)) : List Nat :=
  decimal id ++ ((words.flatMap fun w => match g w with | none => [] | some v => 32 :: (ascii w ++ (61 :: v))) ++ [10])
def Joined (k : Told) : Prop := ∃ g : String → Option Val, k = words.filterMap fun w => (g w).map fun v => (w, v)
theorem joined_eq (o n : Told) : joined o n = words.filterMap fun w => ((find n w).or (find o w)).map fun v => (w, v) := by
  unfold joined
  congr 1
  funext w
  cases e1 : find n w <;> cases e2 : find o w <;> rfl
theorem joined_Joined (o n : Told) : Joined (joined o n) := ⟨_, joined_eq o n⟩
theorem find_cons (p : String × Val) (t : Told) (w : String) : find (p :: t) w = if p.1 = w then some p.2 else find t w := by
  unfold find
  rw [List.find?_cons]
  by_cases h : p.1 = w
  · rw [if_pos h, show (p.1 == w) = true by simpa using h]; rfl
  · rw [if_neg h, show (p.1 == w) = false by simpa using h]
theorem find_filterMap (g : String → Option Val) (w : String) : ∀ l : List String, find (l.filterMap fun w => (g w).map fun v => (w, v)) w = if w ∈ l then g w else none
  | [] => by simp [find]
  | x :: r => by
    have ih := find_filterMap g w r
    rw [List.filterMap_cons]
    cases hx : g x with
    | none =>
      simp only [Option.map_none]
      rw [ih]
      by_cases e : w = x
      · subst e; simp [hx]
      · simp [e]
    | some v =>
      simp only [Option.map_some]
      rw [find_cons, ih]
      by_cases e : x = w
      · subst e; simp [hx]
      · have e' : ¬ w = x := fun z => e z.symm
        simp [e, e']
theorem find_Joined {g : String → Option Val} {k : Told} (hk : k = words.filterMap fun w => (g w).map fun v => (w, v)) {w : String} (hw : w ∈ words) : find k w = g w := by
  rw [hk, find_filterMap, if_pos hw]
theorem find_joined {o n : Told} {w : String} (hw : w ∈ words) : find (joined o n) w = (find n w).or (find o w) := by
  exact find_Joined (g := fun w => (find n w).or (find o w)) (joined_eq o n) hw
theorem flatMap_filterMap {g : String → Option Val} (f : String × Val → List Nat) : ∀ l : List String, (l.filterMap fun w => (g w).map fun v => (w, v)).flatMap f = l.flatMap fun w => match g w with | none => [] | some v => f (w, v)
  | [] => rfl
  | x :: r => by
    rw [List.filterMap_cons, List.flatMap_cons, ← flatMap_filterMap f r]
    cases g x <;> rfl
theorem flatMap_congr' {f h : String → List Nat} : ∀ {l : List String}, (∀ w ∈ l, f w = h w) → l.flatMap f = l.flatMap h
  | [], _ => rfl
  | x :: r, q => by
    rw [List.flatMap_cons, List.flatMap_cons, q x List.mem_cons_self, flatMap_congr' fun w hw => q w (List.mem_cons_of_mem _ hw)]
theorem line_eq {k : Told} (hk : Joined k) (id : Nat) : Sd37.line id k = lineOf id fun w => (find k w).map render := by
  obtain ⟨g, e⟩ := hk
  have q : ∀ w ∈ words, find k w = g w := fun w hw => find_Joined e hw
  unfold Sd37.line lineOf
  congr 2
  rw [e, flatMap_filterMap, ← e]
  refine flatMap_congr' fun w hw => ?_
  dsimp only
  rw [q w hw]
  cases g w with
  | none => rfl
  | some v => cases v <;> rfl
theorem lineOf_congr {id : Nat} {g h : String → Option (List Nat)} (q : ∀ w ∈ words, g w = h w) : lineOf id g = lineOf id h := by
  unfold lineOf
  congr 2
  exact flatMap_congr' fun w hw => by rw [q w hw]
theorem flatMap_len {f : String → List Nat} {c : Nat} : ∀ {l : List String}, (∀ w ∈ l, (f w).length ≤ w.length + c) → (l.flatMap f).length ≤ (l.map (·.length)).sum + c * l.length
  | [], _ => Nat.le_refl _
  | x :: r, q => by
    have ih := flatMap_len fun w hw => q w (List.mem_cons_of_mem _ hw)
    have := q x List.mem_cons_self
    rw [List.flatMap_cons, List.length_append, List.map_cons, List.sum_cons, List.length_cons, Nat.mul_succ]
    omega
theorem ascii_length (w : String) : (ascii w).length = w.length := by
  unfold ascii
  rw [List.length_map]
  exact String.length_toList
theorem words_sum : (words.map (·.length)).sum = 103 := by decide
theorem words_length : words.length = 23 := by decide
theorem lineOf_len {id : Nat} {g : String → Option (List Nat)} (hid : (decimal id).length ≤ 10) (h : ∀ w ∈ words, ∀ v, g w = some v → v.length ≤ 22) : (lineOf id g).length ≤ 666 := by
  unfold lineOf
  have q := flatMap_len (f := fun w => match g w with | none => [] | some v => 32 :: (ascii w ++ (61 :: v))) (c := 24) (l := words) fun w hw => by
    cases e : g w with
    | none => simp
    | some v =>
      have := h w hw v e
      simp [ascii_length]
      omega
  rw [words_sum, words_length] at q
  simp only [List.length_append, List.length_cons, List.length_nil]
  omega
theorem toDigits_len : ∀ (k n : Nat), n < 10 ^ (k + 1) → (Nat.toDigits 10 n).length ≤ k + 1
  | 0, n, h => by
    have h : n < 10 := by simpa using h
    rw [Nat.toDigits_of_lt_base h]
    exact Nat.le_refl _
  | k + 1, n, h => by
    by_cases q : n < 10
    · rw [Nat.toDigits_of_lt_base q]
      simp
    · have e := Nat.toDigits_append_toDigits (b := 10) (n := n / 10) (d := n % 10) (by decide) (by omega) (by omega)
      have e2 : 10 * (n / 10) + n % 10 = n := by omega
      rw [e2] at e
      rw [← e, List.length_append, Nat.toDigits_of_lt_base (by omega : n % 10 < 10)]
      have := toDigits_len k (n / 10) (by rw [Nat.pow_succ] at h; omega)
      simp
      omega
theorem decimal_len {z : Int} {k : Nat} (h : z.natAbs < 10 ^ (k + 1)) : (decimal z).length ≤ k + 2 := by
  unfold decimal
  have := toDigits_len k z.natAbs h
  split <;> simp <;> omega
abbrev Sorted (l : List Ship) : Prop := l.Pairwise fun a b => a.id < b.id
theorem mem_put {x y : Ship} : ∀ {l : List Ship}, y ∈ put x l → y = x ∨ y ∈ l
  | [], h => by simpa [put] using h
  | z :: r, h => by
    unfold put at h
    split at h
    · rcases List.mem_cons.mp h with h | h
      · exact .inl h
      · exact .inr h
    · split at h
      · rcases List.mem_cons.mp h with h | h
        · exact .inl h
        · exact .inr (List.mem_cons_of_mem _ h)
      · rcases List.mem_cons.mp h with h | h
        · exact .inr (by rw [h]; exact List.mem_cons_self)
        · rcases mem_put h with h | h
          · exact .inl h
          · exact .inr (List.mem_cons_of_mem _ h)
theorem put_sorted {x : Ship} : ∀ {l : List Ship}, Sorted l → Sorted (put x l)
  | [], _ => by simp [put, Sorted]
  | z :: r, h => by
    have h1 := List.pairwise_cons.mp h
    unfold put
    split
    · rename_i q
      refine List.pairwise_cons.mpr ⟨fun y hy => ?_, h⟩
      rcases List.mem_cons.mp hy with e | hy
      · rw [e]; exact q
      · exact Nat.lt_trans q (h1.1 y hy)
    · split
      · rename_i q
        exact List.pairwise_cons.mpr ⟨fun y hy => by rw [q]; exact h1.1 y hy, h1.2⟩
      · rename_i q1 q2
        refine List.pairwise_cons.mpr ⟨fun y hy => ?_, put_sorted h1.2⟩
        rcases mem_put hy with e | hy
        · rw [e]; omega
        · exact h1.1 y hy
theorem put_new {x : Ship} : ∀ {l : List Ship}, (∀ y ∈ l, y.id ≠ x.id) → (put x l).Perm (x :: l)
  | [], _ => by simp [put]
  | z :: r, h => by
    unfold put
    split
    · exact List.Perm.refl _
    · rw [if_neg (fun e => h z List.mem_cons_self e.symm)]
      exact ((put_new fun y hy => h y (List.mem_cons_of_mem _ hy)).cons z).trans (List.Perm.swap x z r)
theorem put_old {x : Ship} : ∀ {l : List Ship}, Sorted l → (∃ y ∈ l, y.id = x.id) → put x l = l.map fun y => if y.id = x.id then x else y
  | [], _, h => by obtain ⟨_, hy, _⟩ := h; exact nomatch hy
  | z :: r, hs, h => by
    have h1 := List.pairwise_cons.mp hs
    unfold put
    by_cases q1 : x.id < z.id
    · obtain ⟨y, hy, e⟩ := h
      rcases List.mem_cons.mp hy with e2 | hy
      · rw [e2] at e; omega
      · have := h1.1 y hy; omega
    · rw [if_neg q1]
      by_cases q2 : x.id = z.id
      · rw [if_pos q2, List.map_cons, if_pos q2.symm]
        congr 1
        have : ∀ y ∈ r, (if y.id = x.id then x else y) = y := fun y hy => if_neg (by have := h1.1 y hy; omega)
        rw [List.map_congr_left this]
        simp
      · rw [if_neg q2, List.map_cons, if_neg (fun e => q2 e.symm), put_old h1.2]
        obtain ⟨y, hy, e⟩ := h
        rcases List.mem_cons.mp hy with e2 | hy
        · rw [e2] at e; exact absurd e.symm q2
        · exact ⟨y, hy, e⟩
def Older (a b : Ship) : Prop := a.at_ < b.at_ ∨ (a.at_ = b.at_ ∧ a.id ≤ b.id)
theorem oldest_spec : ∀ {l : List Ship}, Sorted l → match oldest l with
    | none => l = []
    | some o => o ∈ l ∧ ∀ y ∈ l, Older o y
  | [], _ => rfl
  | x :: r, h => by
    have h1 := List.pairwise_cons.mp h
    have ih := oldest_spec h1.2
    unfold oldest
    cases e : oldest r with
    | none =>
      rw [e] at ih
      dsimp only at ih ⊢
      subst ih
      refine ⟨List.mem_cons_self, fun y hy => ?_⟩
      have : y = x := by simpa using hy
      rw [this]
      exact .inr ⟨rfl, Nat.le_refl _⟩
    | some y =>
      rw [e] at ih
      dsimp only at ih ⊢
      by_cases q : y.at_ < x.at_
      · rw [if_pos q]
        refine ⟨List.mem_cons_of_mem _ ih.1, fun z hz => ?_⟩
        rcases List.mem_cons.mp hz with rfl | hz
        · exact .inl q
        · exact ih.2 z hz
      · rw [if_neg q]
        refine ⟨List.mem_cons_self, fun z hz => ?_⟩
        rcases List.mem_cons.mp hz with rfl | hz
        · exact .inr ⟨rfl, Nat.le_refl _⟩
        · have := h1.1 z hz
          rcases ih.2 z hz with a | ⟨a, _⟩
          · exact .inl (by omega)
          · by_cases w : x.at_ < z.at_
            · exact .inl w
            · exact .inr ⟨by omega, by omega⟩
theorem sorted_ids {l : List Ship} (h : Sorted l) : (l.map (·.id)).Nodup := by
  unfold List.Nodup
  rw [List.pairwise_map]
  exact h.imp fun q => Nat.ne_of_lt q
theorem id_unique : ∀ {l : List Ship}, (l.map (·.id)).Nodup → ∀ {a b : Ship}, a ∈ l → b ∈ l → a.id = b.id → a = b
  | [], _, _, _, h, _, _ => nomatch h
  | x :: r, hn, a, b, ha, hb, e => by
    rw [List.map_cons, List.nodup_cons] at hn
    rcases List.mem_cons.mp ha with ea | ha <;> rcases List.mem_cons.mp hb with eb | hb
    · rw [ea, eb]
    · rw [ea] at e
      exact absurd (List.mem_map.mpr ⟨b, hb, e.symm⟩) hn.1
    · rw [eb] at e
      exact absurd (List.mem_map.mpr ⟨a, ha, e⟩) hn.1
    · exact id_unique hn.2 ha hb e
theorem older_one {l : List Ship} (hn : (l.map (·.id)).Nodup) {a b : Ship} (ha : a ∈ l) (hb : b ∈ l) (h1 : Older a b) (h2 : Older b a) : a = b :=
  id_unique hn ha hb (by unfold Older at h1 h2; omega)
structure Fleet (es ships : List Ship) : Prop where
  perm : es.Perm ships
  sorted : Sorted ships
  few : ships.length ≤ 256
theorem Fleet.len {es ships : List Ship} (f : Fleet es ships) : es.length = ships.length := f.perm.length_eq
theorem find_id {l : List Ship} (id : Nat) : (l.find? fun x => x.id == id) = none ↔ ∀ y ∈ l, y.id ≠ id := by
  rw [List.find?_eq_none]
  simp
theorem find_some {l : List Ship} {id : Nat} {x : Ship} (h : (l.find? fun x => x.id == id) = some x) : x ∈ l ∧ x.id = id :=
  ⟨List.mem_of_find?_eq_some h, by simpa using List.find?_some h⟩
theorem Fleet.again {es ships : List Ship} (f : Fleet es ships) {x y : Ship} (hx : x ∈ ships) (e : y.id = x.id) : Fleet (es.map fun z => if z.id = y.id then y else z) (put y ships) where
  perm := by
    rw [put_old f.sorted ⟨x, hx, e.symm⟩]
    exact f.perm.map _
  sorted := put_sorted f.sorted
  few := by
    rw [put_old f.sorted ⟨x, hx, e.symm⟩, List.length_map]
    exact f.few
theorem Fleet.fresh {es ships : List Ship} (f : Fleet es ships) {y : Ship} (hy : ∀ z ∈ ships, z.id ≠ y.id) (hl : ships.length < 256) : Fleet (es ++ [y]) (put y ships) where
  perm := by
    refine List.Perm.trans ?_ (put_new hy).symm
    refine List.Perm.trans List.perm_append_comm ?_
    exact f.perm.cons y
  sorted := put_sorted f.sorted
  few := by
    rw [(put_new hy).length_eq, List.length_cons]
    exact hl
theorem Fleet.room {es ships : List Ship} (f : Fleet es ships) {o : Ship} (ho : o ∈ ships) : Fleet (es.filter fun x => x.id != o.id) (ships.filter fun x => x.id != o.id) ∧ (ships.filter fun x => x.id != o.id).length < ships.length := by
  have hlt : (ships.filter fun x => x.id != o.id).length < ships.length := by
    refine Nat.lt_of_le_of_ne (List.length_filter_le _ _) fun e => ?_
    have := List.length_filter_eq_length_iff.mp e o ho
    simp at this
  exact ⟨⟨f.perm.filter _, f.sorted.filter _, Nat.le_trans (Nat.le_of_lt hlt) f.few⟩, hlt⟩
abbrev WK := Bool × Nat × List Nat
def keyW (w : Wait) : WK := (w.own, w.seq, w.channel)
def keyS (x : Sentence) : WK := (x.own, x.seq.getD 0, x.channel)
theorem fits_iff {x : Sentence} {w : Wait} (h : x.seq.isSome = true) : fits x w = true ↔ keyW w = keyS x := by
  unfold fits keyW keyS
  cases e : x.seq with
  | none => rw [e] at h; cases h
  | some d => simp
theorem begin_waits {x : Sentence} (h : x.seq.isSome = true) {ws : List Wait} (hl : ws.length ≤ 8) :
    (if Sd37.WAITS ≤ (ws.filter fun w => !fits x w).length then (ws.filter fun w => !fits x w).drop 1 else (ws.filter fun w => !fits x w)) =
    if keyS x ∈ ws.map keyW then ws.filter fun w => decide (keyW w ≠ keyS x) else if ws.length = 8 then ws.drop 1 else ws := by
  have e : (ws.filter fun w => !fits x w) = ws.filter fun w => decide (keyW w ≠ keyS x) := by
    congr 1
    funext w
    have := fits_iff (w := w) h
    by_cases q : keyW w = keyS x
    · rw [this.mpr q]; simp [q]
    · have : fits x w = false := by
        cases z : fits x w with
        | false => rfl
        | true => exact absurd (this.mp z) q
      simp [this, q]
  rw [e]
  unfold Sd37.WAITS
  by_cases q : keyS x ∈ ws.map keyW
  · rw [if_pos q, if_neg]
    obtain ⟨w, hw, ew⟩ := List.mem_map.mp q
    have : (ws.filter fun w => decide (keyW w ≠ keyS x)).length < ws.length := by
      refine Nat.lt_of_le_of_ne (List.length_filter_le _ _) fun z => ?_
      have := List.length_filter_eq_length_iff.mp z w hw
      simp [ew] at this
    omega
  · have : (ws.filter fun w => decide (keyW w ≠ keyS x)) = ws := by
      rw [List.filter_eq_self]
      intro w hw
      have : keyW w ≠ keyS x := fun z => q (List.mem_map.mpr ⟨w, hw, z⟩)
      simpa using this
    rw [this, if_neg q]
    by_cases z : ws.length = 8
    · rw [if_pos z, if_pos (by omega)]
    · rw [if_neg z, if_neg (by omega)]
end Sh
namespace Sh
open Sd37 (Told Val Ship Wait St Sentence un textAt bitsOf sixOf cut)
theorem readS_ok {row : List Nat} {x : Sentence} (h : readS row = .ok x) : 1 ≤ x.which ∧ x.which ≤ x.total ∧ x.total ≤ 9 ∧ (x.which < x.total → x.fill = 0) ∧ x.fill ≤ 5 ∧ x.load ≠ [] ∧ (1 < x.total → x.seq.isSome = true) ∧ x.load.length ≤ 82 := by
  unfold readS readB at h
  split at h
  · cases h
  · rename_i g
    simp only [not_or, Decidable.not_not, Nat.not_lt] at g
    obtain ⟨g82, g7⟩ := g
    have hj := joinC_splitC (ending row)
    match q : splitC (ending row), g7 with
    | [hd, t, w, s, c, l, e], _ =>
      rw [q] at h hj
      simp only [List.getD_cons_zero, List.getD_cons_succ] at h
      by_cases a : AllOk hd t w s c l e
      · rw [readF_all a] at h
        split at h
        · cases h
        · cases h
          obtain ⟨_, b1, b2, b3, _, b5, _, b7, _⟩ := a
          obtain ⟨b1l, b1, b1'⟩ := b1
          obtain ⟨b2l, b2, b2'⟩ := b2
          obtain ⟨b7l, b7, b7'⟩ := b7
          have e0 : (e.take 1).getD 0 0 = e.getD 0 0 := by
            cases e with
            | nil => rfl
            | cons a r => rfl
          rw [e0] at b7 b7'
          dsimp only
          refine ⟨by omega, by omega, by omega, fun z => ?_, ?_, b5.1, fun z => ?_, ?_⟩
          · rw [if_neg (by omega)] at b7'
            omega
          · split at b7' <;> omega
          · have := b3 (.inr z)
            cases s with
            | nil => exact absurd this.1 (by simp)
            | cons a r => rfl
          · have : (ending row).length ≤ 82 := g82
            rw [← hj] at this
            simp [joinC] at this
            omega
      · rw [readF_not a] at h
        cases h
theorem testBit_b2i (v k : Nat) : b2i (v.testBit k) = ((v / 2 ^ k % 2 : Nat) : Int) := by
  rw [Nat.testBit_eq_decide_div_mod_eq]
  unfold b2i
  have : v / 2 ^ k % 2 = 0 ∨ v / 2 ^ k % 2 = 1 := by omega
  rcases this with e | e <;> rw [e] <;> rfl
def six (c : Nat) : List Bool := (List.range 6).map fun i => (sixOf c).testBit (5 - i)
theorem bitsOf_cons (c : Nat) (l : List Nat) : bitsOf (c :: l) = six c ++ bitsOf l := rfl
theorem bitsOf_app (a b : List Nat) : bitsOf (a ++ b) = bitsOf a ++ bitsOf b := by simp [bitsOf]
theorem six_bits (c : Nat) : (six c).map b2i = [((sixOf c / 32 % 2 : Nat) : Int), ((sixOf c / 16 % 2 : Nat) : Int), ((sixOf c / 8 % 2 : Nat) : Int), ((sixOf c / 4 % 2 : Nat) : Int), ((sixOf c / 2 % 2 : Nat) : Int), ((sixOf c / 1 % 2 : Nat) : Int)] := by
  have e : six c = [(sixOf c).testBit 5, (sixOf c).testBit 4, (sixOf c).testBit 3, (sixOf c).testBit 2, (sixOf c).testBit 1, (sixOf c).testBit 0] := rfl
  rw [e]
  simp only [List.map_cons, List.map_nil, testBit_b2i]
theorem six_length (c : Nat) : (six c).length = 6 := by simp [six]
theorem bitsOf_length : ∀ l : List Nat, (bitsOf l).length = 6 * l.length
  | [] => rfl
  | c :: r => by rw [bitsOf_cons, List.length_append, six_length, bitsOf_length r, List.length_cons]; omega
theorem cut_app {a l : List Nat} {f : Nat} (h : f ≤ 6 * l.length) : cut (bitsOf (a ++ l)) f = bitsOf a ++ cut (bitsOf l) f := by
  unfold cut
  rw [bitsOf_app, List.length_append, List.take_append]
  have e1 : (bitsOf a).length + (bitsOf l).length - f - (bitsOf a).length = (bitsOf l).length - f := by
    rw [bitsOf_length l]
    omega
  rw [e1, List.take_of_length_le (by rw [bitsOf_length l]; omega)]
theorem cut_zero (b : List Bool) : cut b 0 = b := by simp [cut]
def conv (c : Nat) : Nat := if c < 32 then c + 64 else c
def codesAt (b : List Bool) (a n : Nat) : List Nat := (List.range n).map fun i => un b (a + 6 * i) 6
def strip (t : List Nat) : List Nat := (t.reverse.dropWhile fun c => c == 32).reverse
theorem textAt_eq (b : List Bool) (a n : Nat) : textAt b a n = strip (((codesAt b a n).takeWhile fun c => c != 0).map conv) := rfl
theorem strip_blank (t : List Nat) : strip (t ++ [32]) = strip t := by simp [strip]
theorem strip_other {t : List Nat} {c : Nat} (h : c ≠ 32) : strip (t ++ [c]) = t ++ [c] := by
  have : (c == 32) = false := by simpa using h
  simp [strip, this]
theorem codesAt_succ (b : List Bool) (a n : Nat) : codesAt b a (n + 1) = codesAt b a n ++ [un b (a + 6 * n) 6] := by simp [codesAt, List.range_succ]
theorem codesAt_prefix (b : List Bool) (a i k : Nat) : ∃ r, codesAt b a (i + 1 + k) = codesAt b a i ++ un b (a + 6 * i) 6 :: r := by
  induction k with
  | zero => exact ⟨[], by rw [Nat.add_zero, codesAt_succ]⟩
  | succ k ih =>
    obtain ⟨r, e⟩ := ih
    refine ⟨r ++ [un b (a + 6 * (i + 1 + k)) 6], ?_⟩
    rw [← Nat.add_assoc, codesAt_succ, e]
    simp
theorem takeWhile_all : ∀ {l : List Nat}, (∀ c ∈ l, c ≠ 0) → (l.takeWhile fun c => c != 0) = l
  | [], _ => rfl
  | c :: r, h => by
    rw [List.takeWhile_cons, if_pos (by simpa using h c List.mem_cons_self), takeWhile_all fun x hx => h x (List.mem_cons_of_mem _ hx)]
theorem takeWhile_stop {l r : List Nat} (h : ∀ c ∈ l, c ≠ 0) : ((l ++ 0 :: r).takeWhile fun c => c != 0) = l := by
  rw [List.takeWhile_append_of_pos (by intro c hc; simpa using h c hc)]
  simp
theorem text_stop {b : List Bool} {a n i : Nat} (hi : i < n) (h : ∀ c ∈ codesAt b a i, c ≠ 0) (h0 : un b (a + 6 * i) 6 = 0) : ((codesAt b a n).takeWhile fun c => c != 0) = codesAt b a i := by
  obtain ⟨r, e⟩ := codesAt_prefix b a i (n - (i + 1))
  rw [show i + 1 + (n - (i + 1)) = n by omega, h0] at e
  rw [e, takeWhile_stop h]
theorem strip_len (t : List Nat) : (strip t).length ≤ t.length := by
  unfold strip
  rw [List.length_reverse]
  have := (List.dropWhile_sublist (l := t.reverse) fun c => c == 32).length_le
  simpa using this
theorem textAt_len (b : List Bool) (a n : Nat) : (textAt b a n).length ≤ n := by
  rw [textAt_eq]
  refine Nat.le_trans (strip_len _) ?_
  rw [List.length_map]
  have := (List.takeWhile_sublist (l := codesAt b a n) fun c => c != 0).length_le
  simpa [codesAt] using this
def encC : List (List Int) → List Int
  | [[1, now, n, most], b] => [1, now, n, most, (b.length : Int)] ++ b
  | [[2, most]] => [2, most]
  | _ => []
def OkC (c : List (List Int)) : Prop := (∃ now n most b, c = [[1, now, n, most], b]) ∨ ∃ most, c = [[2, most]]
theorem call_enc {l : List Int} {c : List (List Int)} {t : List Int} (h : PyFlat.call PySd37.shape l = some (c, t)) : OkC c ∧ l = encC c ++ t := by
  cases l with
  | nil => cases h
  | cons p r =>
    unfold PyFlat.call PySd37.shape at h
    dsimp only at h
    by_cases h1 : p = 1
    · subst h1
      rw [if_pos rfl] at h
      dsimp only at h
      by_cases hl : r.length < 3
      · rw [if_pos hl] at h; cases h
      · rw [if_neg hl] at h
        match r, hl with
        | a :: b :: d :: q, _ =>
          simp only [List.drop_succ_cons, List.drop_zero, List.take_succ_cons, List.take_zero] at h
          unfold PyFlat.rows PyFlat.rows PyFlat.row at h
          cases q with
          | nil => cases h
          | cons n rr =>
            dsimp only at h
            by_cases hn : 0 ≤ n ∧ n.toNat ≤ rr.length
            · rw [if_pos hn] at h
              dsimp only at h
              cases h
              refine ⟨.inl ⟨a, b, d, rr.take n.toNat, rfl⟩, ?_⟩
              have : ((rr.take n.toNat).length : Int) = n := by
                rw [List.length_take]
                omega
              simp only [encC, this]
              simp
            · rw [if_neg hn] at h; cases h
    · rw [if_neg h1] at h
      by_cases h2 : p = 2
      · subst h2
        rw [if_pos rfl] at h
        dsimp only at h
        by_cases hl : r.length < 1
        · rw [if_pos hl] at h; cases h
        · rw [if_neg hl] at h
          match r, hl with
          | a :: q, _ =>
            simp only [List.drop_succ_cons, List.drop_zero, List.take_succ_cons, List.take_zero] at h
            unfold PyFlat.rows at h
            cases h
            exact ⟨.inr ⟨a, rfl⟩, rfl⟩
      · rw [if_neg h2] at h; cases h
theorem calls_enc : ∀ (f : Nat) (l : List Int) (cs : List (List (List Int))), PyFlat.calls PySd37.shape f l = some cs → (∀ c ∈ cs, OkC c) ∧ l = cs.flatMap encC
  | _, [], cs, h => by
    have : cs = [] := by
      unfold PyFlat.calls at h
      exact (Option.some.inj h).symm
    subst this
    exact ⟨(fun c hc => absurd hc (by simp)), rfl⟩
  | 0, _ :: _, cs, h => by cases h
  | f + 1, p :: r, cs, h => by
    unfold PyFlat.calls at h
    cases e : PyFlat.call PySd37.shape (p :: r) with
    | none => rw [e] at h; cases h
    | some x =>
      obtain ⟨c, t⟩ := x
      rw [e] at h
      dsimp only at h
      cases e2 : PyFlat.calls PySd37.shape f t with
      | none => rw [e2] at h; cases h
      | some ds =>
        rw [e2] at h
        cases h
        obtain ⟨k1, k2⟩ := call_enc e
        obtain ⟨k3, k4⟩ := calls_enc f t ds e2
        refine ⟨fun c' hc => ?_, ?_⟩
        · rcases List.mem_cons.mp hc with rfl | hc
          · exact k1
          · exact k3 c' hc
        · rw [k2, List.flatMap_cons, ← k4]
theorem whole_ok {c : List (List Int)} (h : OkC c) : PySd37.whole c = c := by
  rcases h with ⟨_, _, _, _, rfl⟩ | ⟨_, rfl⟩ <;> rfl
theorem answers_calls {l : List Int} (h : PySd37.answers_asked l = true) : ∃ cs : List (List (List Int)), cs.length ≤ 300 ∧ (∀ c ∈ cs, OkC c ∧ Sd37Neutral.asked1 c = true) ∧ l = cs.flatMap encC ∧
    PySd37.answers l = PyFlat.told (PyFlat.played Sd37Neutral.step Sd37Neutral.start cs) := by
  unfold PySd37.answers_asked at h
  unfold PySd37.answers
  unfold PySd37.calls at h ⊢
  cases e : PyFlat.calls PySd37.shape l.length l with
  | none => rw [e] at h; cases h
  | some cs =>
    rw [e] at h
    dsimp only at h ⊢
    obtain ⟨k1, k2⟩ := calls_enc _ _ _ e
    have hm : cs.map PySd37.whole = cs := by
      have : ∀ c ∈ cs, PySd37.whole c = c := fun c hc => whole_ok (k1 c hc)
      rw [List.map_congr_left this]
      simp
    rw [hm] at h ⊢
    simp only [Bool.and_eq_true] at h
    refine ⟨cs, by simpa [PyFlat.atMost] using h.1, fun c hc => ⟨k1 c hc, ?_⟩, k2, rfl⟩
    have := h.2
    unfold Sd37Neutral.asked at this
    exact List.all_eq_true.mp this c hc
end Sh
namespace Sh
open Sd37 (Told Val Ship Wait St Sentence find joined words decimal ascii put oldest fits bitsOf cut)
inductive Go where
  | misfit (ws : List Wait)
  | wait (ws : List Wait)
  | whole (ws : List Wait) (b : List Bool)
def newW (x : Sentence) (now : Nat) : Wait := ⟨x.own, x.seq.getD 0, x.channel, x.total, [x.load], now⟩
def beginW (ws : List Wait) (x : Sentence) (now : Nat) : List Wait :=
  (if keyS x ∈ ws.map keyW then ws.filter (fun w => decide (keyW w ≠ keyS x)) else if ws.length = 8 then ws.drop 1 else ws) ++ [newW x now]
def growW (x : Sentence) (w : Wait) : Wait := if keyW w = keyS x then { w with got := w.got ++ [x.load] } else w
def goW (ws : List Wait) (x : Sentence) : Go := match ws.find? (fun w => decide (keyW w = keyS x)) with
  | none => .misfit ws
  | some w => if w.total ≠ x.total ∨ w.got.length + 1 ≠ x.which then .misfit (ws.filter fun w => decide (keyW w ≠ keyS x))
    else if x.which < x.total then .wait (ws.map (growW x))
    else .whole (ws.filter fun w => decide (keyW w ≠ keyS x)) (cut (bitsOf (w.got.flatten ++ x.load)) x.fill)
def youngW (ws : List Wait) (now : Nat) : List Wait := ws.filter fun w => decide (now ≤ w.since + 60)
def takeW (now : Nat) (ws : List Wait) (x : Sentence) : Go :=
  if x.total = 1 then .whole (youngW ws now) (cut (bitsOf x.load) x.fill)
  else if x.which = 1 then .wait (beginW (youngW ws now) x now) else goW (youngW ws now) x
theorem fits_dec {x : Sentence} (h : x.seq.isSome = true) (w : Wait) : fits x w = decide (keyW w = keyS x) := by
  have := fits_iff (w := w) h
  by_cases q : keyW w = keyS x
  · rw [this.mpr q]; simp [q]
  · have : fits x w = false := by
      cases z : fits x w with
      | false => rfl
      | true => exact absurd (this.mp z) q
    simp [this, q]
theorem rest_eq {x : Sentence} (h : x.seq.isSome = true) (ws : List Wait) : (ws.filter fun w => !fits x w) = ws.filter fun w => decide (keyW w ≠ keyS x) := by
  congr 1
  funext w
  rw [fits_dec h]
  by_cases q : keyW w = keyS x <;> simp [q]
theorem taken_eq {x : Sentence} (s : St) (hs : x.total ≠ 1 → x.seq.isSome = true) (hl : s.waits.length ≤ 8) : Sd37.taken s x = match takeW s.now s.waits x with
    | .misfit ws => (.part, { s with waits := ws })
    | .wait ws => (.waits, { s with waits := ws })
    | .whole ws b => Sd37.message { s with waits := ws } b := by
  have hy : (s.waits.filter fun w => decide (s.now ≤ w.since + Sd37.LONG)) = youngW s.waits s.now := rfl
  have hyl : (youngW s.waits s.now).length ≤ 8 := Nat.le_trans (List.length_filter_le _ _) hl
  unfold Sd37.taken takeW
  simp only [hy]
  by_cases h1 : x.total = 1
  · rw [if_pos h1, if_pos h1]
  · rw [if_neg h1, if_neg h1]
    have hq := hs h1
    by_cases h2 : x.which = 1
    · rw [if_pos h2, if_pos h2]
      simp only []
      rw [begin_waits hq hyl]
      rfl
    · rw [if_neg h2, if_neg h2]
      have hf : (fun w => fits x w) = fun w => decide (keyW w = keyS x) := by funext w; exact fits_dec hq w
      unfold goW
      have e1 : (youngW s.waits s.now).find? (fits x) = (youngW s.waits s.now).find? (fun w => decide (keyW w = keyS x)) := by
        show (youngW s.waits s.now).find? (fun w => fits x w) = _
        rw [hf]
      rw [e1]
      cases e : (youngW s.waits s.now).find? (fun w => decide (keyW w = keyS x)) with
      | none => rfl
      | some w =>
        dsimp only
        by_cases h3 : w.total ≠ x.total ∨ w.got.length + 1 ≠ x.which
        · rw [if_pos h3, if_pos h3, rest_eq hq]
        · rw [if_neg h3, if_neg h3]
          by_cases h4 : x.which < x.total
          · rw [if_pos h4, if_pos h4]
            dsimp only
            congr 2
            apply List.map_congr_left
            intro v _
            unfold growW
            rw [fits_dec hq]
            by_cases q : keyW v = keyS x <;> simp [q]
          · rw [if_neg h4, if_neg h4, rest_eq hq]
def WaitOk (w : Wait) : Prop := w.got.length ≤ 9 ∧ ∀ l ∈ w.got, l.length ≤ 82
theorem flat_len : ∀ {g : List (List Nat)}, (∀ l ∈ g, l.length ≤ 82) → g.flatten.length ≤ 82 * g.length
  | [], _ => by simp
  | l :: r, h => by
    have := flat_len fun l' hl => h l' (List.mem_cons_of_mem _ hl)
    have := h l List.mem_cons_self
    simp only [List.flatten_cons, List.length_append, List.length_cons]
    omega
theorem WaitOk.len {w : Wait} (h : WaitOk w) : w.got.flatten.length ≤ 738 := by
  have := flat_len h.2
  have := h.1
  omega
end Sh
namespace Sh
open Sd37 (Told Val Ship Wait St Sentence find joined words decimal ascii put oldest fits bitsOf cut)
def setS (y z : Ship) : Ship := if z.id = y.id then y else z
def HadE (es : List Ship) (id : Nat) (es1 : List Ship) (known : Told) : Prop :=
  (∃ e ∈ es, e.id = id ∧ e.known = known ∧ es1 = es) ∨
  ((∀ e ∈ es, e.id ≠ id) ∧ known = [] ∧ ∃ base, es1 = base ++ [⟨id, 0, []⟩] ∧ ((es.length ≠ 256 ∧ base = es) ∨ (es.length = 256 ∧ ∃ o ∈ es, (∀ y ∈ es, Older o y) ∧ base = es.filter fun x => x.id != o.id)))
theorem set_none {y : Ship} : ∀ {l : List Ship}, (∀ e ∈ l, e.id ≠ y.id) → l.map (setS y) = l
  | [], _ => rfl
  | x :: r, h => by
    rw [List.map_cons, set_none fun e he => h e (List.mem_cons_of_mem _ he)]
    unfold setS
    rw [if_neg (h x List.mem_cons_self)]
theorem fleet_had {es es1 : List Ship} {st : St} {id : Nat} {known t : Told} (f : Fleet es st.ships) (h : HadE es id es1 known) : Fleet (es1.map (setS ⟨id, st.now, joined known t⟩)) (Sd37.heard st id t).ships := by
  unfold Sd37.heard
  rcases h with ⟨e, he, hid, hk, rfl⟩ | ⟨hno, hk, base, rfl, hb⟩
  · have hes : e ∈ st.ships := f.perm.mem_iff.mp he
    cases q : st.ships.find? (fun x => x.id == id) with
    | none => exact absurd hid ((find_id id).mp q e hes)
    | some x =>
      obtain ⟨hx, hxi⟩ := find_some q
      have : x = e := id_unique (sorted_ids f.sorted) hx hes (hxi.trans hid.symm)
      subst this
      subst hk
      exact f.again hx (y := ⟨id, st.now, joined x.known t⟩) hid.symm
  · subst hk
    have hno' : ∀ y ∈ st.ships, y.id ≠ id := fun y hy => hno y (f.perm.mem_iff.mpr hy)
    rw [(find_id id).mpr hno']
    dsimp only
    have hm : ∀ {l : List Ship}, (∀ e ∈ l, e.id ≠ id) → (l ++ [(⟨id, 0, []⟩ : Ship)]).map (setS ⟨id, st.now, joined [] t⟩) = l ++ [⟨id, st.now, joined [] t⟩] := fun {l} hl => by
      rw [List.map_append, set_none hl]
      simp [setS]
    have hlen := f.len
    have hfew := f.few
    rcases hb with ⟨hl, rfl⟩ | ⟨hl, o, ho, hold, rfl⟩
    · rw [hm hno]
      rw [if_neg (by unfold Sd37.SHIPS; omega)]
      exact f.fresh (y := ⟨id, st.now, joined [] t⟩) hno' (by omega)
    · have hos : o ∈ st.ships := f.perm.mem_iff.mp ho
      rw [if_pos (by unfold Sd37.SHIPS; omega)]
      have sp := oldest_spec f.sorted
      cases q : oldest st.ships with
      | none =>
        rw [q] at sp
        dsimp only at sp
        rw [sp] at hos
        exact nomatch hos
      | some o' =>
        rw [q] at sp
        dsimp only at sp ⊢
        have : o' = o := older_one (sorted_ids f.sorted) sp.1 hos (sp.2 o hos) (hold o' (f.perm.mem_iff.mpr sp.1))
        subst this
        obtain ⟨fr, hlt⟩ := f.room hos
        rw [hm fun e he => hno e (List.mem_filter.mp he).1]
        exact fr.fresh (y := ⟨id, st.now, joined [] t⟩) (fun z hz => hno' z (List.mem_filter.mp hz).1) (by omega)
end Sh
namespace L2
open PySem PySem.Spec PyProof.Rows
def Fly (h : Heap) (x T : Addr) (cls : Value) : Prop :=
  ∃ oe vs oT ts a0, h.get? x = some oe ∧ oe.cls = cls ∧ vs[0]? = some a0 ∧ oe.data = .fields vs ∧ vs[1]? = some (.ref T) ∧ T ≠ x ∧ h.get? T = some oT ∧ oT.data = .fields ts ∧ ts[3]? = some .none
theorem Fly.traced {h base : Heap} {x T : Addr} {cls : Value} (f : Fly h x T cls) (n : base.get? T = none) : ∃ a0, h.TracedW base x cls a0 := by
  obtain ⟨oe, vs, oT, ts, a0, h1, h2, h3, h4, h5, h6, h7, h8, h9⟩ := f
  exact ⟨a0, oe, vs, T, oT, ts, h1, ⟨h2, h3⟩, h4, h5, n, h6, h7, h8, h9⟩
theorem Fly.of {h base : Heap} {x : Addr} {cls a0 : Value} (t : h.TracedW base x cls a0) : ∃ T, Fly h x T cls ∧ base.get? T = none := by
  obtain ⟨oe, vs, T, oT, ts, h1, ⟨h2, h3⟩, h4, h5, n, h6, h7, h8, h9⟩ := t
  exact ⟨T, ⟨oe, vs, oT, ts, a0, h1, h2, h3, h4, h5, h6, h7, h8, h9⟩, n⟩
theorem Fly.rec1 {h : Heap} {x T : Addr} {cls : Value} (f : Fly h x T cls) : ∃ o vs, h.get? x = some o ∧ o.data = .fields vs := by
  obtain ⟨oe, vs, oT, ts, a0, h1, h2, h3, h4, _⟩ := f
  exact ⟨oe, vs, h1, h4⟩
theorem Fly.rec2 {h : Heap} {x T : Addr} {cls : Value} (f : Fly h x T cls) : ∃ o vs, h.get? T = some o ∧ o.data = .fields vs := by
  obtain ⟨oe, vs, oT, ts, a0, h1, h2, h3, h4, h5, h6, h7, h8, h9⟩ := f
  exact ⟨oT, ts, h7, h8⟩
def CX1 (P : Program) (w : World) : CXT := fun outer H s E e s' => ∃ (x T C : Addr) (H' : Hp), e = .ref x ∧ s'.os = s.os ∧ AllBare s'.gens ∧ Un (frs outer) [] H H' s.heap s'.heap ∧ HOk P w H' s'.heap ∧ Fly s'.heap x T (.ref C) ∧
  s.heap.get? x = none ∧ s.heap.get? T = none ∧ H' x = none ∧ H' T = none ∧ E (.ref C) none H'
theorem ObjOk.there {P : Program} {w : World} {H : Hp} {h : Heap} {a : Addr} {o : HO} (x : ObjOk P w H h a o) : ∃ ob, h.get? a = some ob := by
  cases o with
  | lst xs => obtain ⟨_, _, _, _, e⟩ := x; exact ⟨_, e⟩
  | tup xs => obtain ⟨_, _, _, ob, e, _⟩ := x; exact ⟨ob, e⟩
  | dK kvs => obtain ⟨_, _, _, _, o, _, _, e, _⟩ := x; exact ⟨_, e⟩
  | dT kvs => obtain ⟨_, _, _, _, o, _, _, e, _⟩ := x; exact ⟨_, e⟩
  | set S n => obtain ⟨o, _, _, _, e, _⟩ := x; exact ⟨_, e⟩
  | ins C dx fs => obtain ⟨_, _, _, e, _⟩ := x; exact ⟨_, e⟩
  | own y => exact x
  | xd fs => obtain ⟨_, ⟨o, _, _, e, _⟩, _⟩ := x; exact ⟨_, e⟩
  | rng lo hi => obtain ⟨_, _, _, e⟩ := x; exact ⟨_, e⟩
  | frz ob u => obtain ⟨e, _⟩ := x; exact ⟨_, e⟩
  | tbl ps => exact ⟨_, (show h.get? a = some _ from x)⟩
  | met f y => exact ⟨_, (show h.get? a = some _ from x)⟩
  | ext φ => obtain ⟨_, ⟨_, e⟩, _⟩ := x; exact ⟨_, e⟩
section
variable {X : Cx} {pins : List (Addr × Obj)} {σ : St} {H : Hp} {s : Shared}
theorem Inv.hid (I : Inv X pins σ H s) (more : List Addr) : s.heap.FunFrames (PySem.W.hideAll s.heap (more ++ frs X.stack)) X.stack :=
  PySem.W.funFrames_hide I.stack fun env he a ha => List.mem_append_right _ (List.mem_filterMap.mpr ⟨env, he, ha⟩)
theorem Inv.flown (I : Inv X pins σ H s) (hex : X.ex = []) {h' : Heap} {bad : List Addr} (hbad : ∀ b ∈ bad, X.s₀.heap.get? b = none ∧ H b = none)
    (k1 : ∀ b o, s.heap.get? b = some o → b ∉ frs X.stack → b ∉ bad → h'.get? b = some o) (k4 : ∀ b o, s.heap.get? b = some o → b ∈ frs X.stack → ∃ sl, h'.get? b = some { o with slots := sl }) :
    Un X.fs [] X.H₀ H X.s₀.heap h' ∧ HOk X.prog X.w H h' := by
  have sub : ∀ b, b ∈ frs X.stack → b = X.env.locals ∨ b ∈ X.fs := fun b hb => List.mem_cons.mp (I.stkSub b hb)
  have old : ∀ b o, X.s₀.heap.get? b = some o → b ≠ X.env.locals ∧ b ∉ bad := fun b o e =>
    ⟨Nat.ne_of_lt (Nat.lt_of_lt_of_le (Heap.lt_size e) I.ok.above), fun hb => by rw [(hbad b hb).1] at e; cases e⟩
  have nex : ∀ b : Addr, b ∉ X.ex := fun b => by rw [hex]; simp
  refine ⟨⟨fun b o e n hb _ => ?_, fun b o e n hb _ => ?_, fun b o e n _ => I.base.free b o e n (nex b), fun b o e _ => ?_, I.base.tups, I.base.frzs, I.base.tbls⟩, fun a o e => ?_⟩
  · refine k1 b o (I.base.keep b o e n hb (nex b)) (fun z => ?_) (old b o e).2
    rcases sub b z with q | q
    · exact (old b o e).1 q
    · exact hb q
  · obtain ⟨sl, e1⟩ := I.base.slot b o e n hb (nex b)
    by_cases z : b ∈ frs X.stack
    · obtain ⟨sl', e2⟩ := k4 b _ e1 z
      exact ⟨sl', e2⟩
    · exact ⟨sl, k1 b _ e1 z (old b o e).2⟩
  · obtain ⟨o', e1⟩ := I.base.there b o e (nex b)
    by_cases z : b ∈ frs X.stack
    · obtain ⟨sl, e2⟩ := k4 b o' e1 z
      exact ⟨_, e2⟩
    · exact ⟨o', k1 b o' e1 z (old b o e).2⟩
  · refine (I.hok a o e).stay (fun b u hb q => k1 b u q (fun z => ?_) fun z => ?_) (fun _ q => q) fun _ _ q => q
    · have n := I.stkFree b z
      rcases hb with rfl | hb
      · rw [n] at e; cases e
      · rw [n] at hb; cases hb
    · have n := (hbad b z).2
      rcases hb with rfl | hb
      · rw [n] at e; cases e
      · rw [n] at hb; cases hb
theorem Inv.goes (I : Inv X [] σ H s) (hex : X.ex = []) (hpn : X.pn = []) {h' : Heap} {bad : List Addr} (hbad : ∀ b ∈ bad, X.s₀.heap.get? b = none ∧ H b = none) (hrec : ∀ b ∈ bad, ∃ o vs, s.heap.get? b = some o ∧ o.data = .fields vs)
    (k1 : ∀ b o, s.heap.get? b = some o → b ∉ frs X.stack → b ∉ bad → h'.get? b = some o) (k4 : ∀ b o, s.heap.get? b = some o → b ∈ frs X.stack → ∃ sl, h'.get? b = some { o with slots := sl }) :
    Inv X [] σ H { s with heap := h' } := by
  obtain ⟨un, hok⟩ := I.flown hex hbad k1 k4
  have all : ∀ b o, s.heap.get? b = some o → (∀ vs, o.data ≠ .fields vs) → ∃ sl, h'.get? b = some { o with slots := sl } := fun b o e nf => by
    by_cases z : b ∈ frs X.stack
    · exact k4 b o e z
    · refine ⟨o.slots, k1 b o e z fun q => ?_⟩
      obtain ⟨o2, vs, e2, d2⟩ := hrec b q
      rw [e] at e2
      cases e2
      exact nf vs d2
  have cellK : ∀ c v, s.heap.IsCell c v → h'.IsCell c v := fun c v ⟨o, e, d⟩ => by
    obtain ⟨sl, e2⟩ := all c o e fun vs q => by rw [d] at q; cases q
    exact ⟨_, e2, d⟩
  refine ⟨I.ok, I.os, I.bare, by rw [hex]; exact un, ?_, fun x c e => ?_, I.free, I.freeC, fun p hp => ?_, hok, I.len⟩
  · obtain ⟨m, ⟨o, es, ep, e, d, r⟩, hl⟩ := I.loc
    obtain ⟨sl, e2⟩ := all _ o e fun vs q => by rw [d] at q; cases q
    refine ⟨m, ⟨_, es, ep, e2, d, r⟩, fun i x v a b c => ?_⟩
    obtain ⟨u, ru, l⟩ := hl i x v a b c
    refine ⟨u, ru, ?_⟩
    rcases l with l | ⟨k, c, q, z⟩
    · exact .inl l
    · exact .inr ⟨k, c, q, cellK c _ z⟩
  · obtain ⟨v, z⟩ := I.cell x c e
    exact ⟨v, cellK c v z⟩
  · rw [hpn] at hp
    exact absurd hp (by simp)
end
section
variable {P : Program} {w : World} {K : PySem.W.Frag} {mg : Str → Option Value} {base : Heap} {N : List Str} {qual : Str} {scope : Scope} {f : Addr} {cd : Value} {A : Around} {outer : List Env} {s₀ : Shared} {H₀ : Hp} {E : XK}
theorem left_ok {X : Cx} {pins : List (Addr × Obj)} {σ : St} {H : Hp} {s : Shared} (I : Inv X pins σ H s) (hst : X.stack = X.env :: X.outer) (hex : X.ex = []) {x C : Addr} {bad : List Addr} {h' : Heap} {B : Heap} {a0 : Value} {g : Array GenState}
    (hbad : ∀ b ∈ bad, X.s₀.heap.get? b = none ∧ H b = none) (hx : X.s₀.heap.get? x = none) (hHx : H x = none)
    (hB : ∀ b o, s.heap.get? b = some o → b ∉ frs X.stack → b ∉ bad → B.get? b = some o)
    (k1 : B.StaysIn h') (k2 : h'.FunFrames B X.stack) (k3 : h'.TracedW B x (.ref C) a0) (k4 : ∀ b o, s.heap.get? b = some o → b ∈ frs X.stack → ∃ sl, h'.get? b = some { o with slots := sl }) (hE : E (.ref C) none H)
    {s' : Shared} (hs1 : s'.os = s.os) (hs2 : AllBare s'.gens) (hs3 : s'.heap = h') : CX1 X.prog X.w X.outer X.H₀ X.s₀ E (.ref x) s' := by
  obtain ⟨T, fl, nT⟩ := Fly.of k3
  obtain ⟨un, hok⟩ := I.flown (h' := h') hex hbad (fun b o e z y => k1 b o (hB b o e z y)) k4
  have notIn : ∀ o, s.heap.get? T = some o → T ∈ bad := fun o e => by
    apply Decidable.byContradiction
    intro nb
    by_cases z : T ∈ frs X.stack
    · obtain ⟨_, o1, e1, nf⟩ := k2.mem z
      obtain ⟨o2, vs, e2, d2⟩ := fl.rec2
      rw [e1] at e2
      cases e2
      exact nf vs d2
    · rw [hB T o e z nb] at nT
      cases nT
  refine ⟨x, T, C, H, rfl, hs1.trans I.os, hs2, by rw [hs3]; exact un, by rw [hs3]; exact hok, by rw [hs3]; exact fl, hx, ?_, hHx, ?_, hE⟩
  · cases q : X.s₀.heap.get? T with
    | none => rfl
    | some o =>
      obtain ⟨o', e⟩ := I.base.there T o q (by rw [hex]; simp)
      have := (hbad T (notIn o' e)).1
      rw [q] at this
      exact this
  · cases q : H T with
    | none => rfl
    | some o =>
      obtain ⟨ob, e⟩ := (I.hok T o q).there
      have := (hbad T (notIn ob e)).2
      rw [q] at this
      exact this
theorem pass1 : Passes (CX1 P w) (cxOf (CX1 P w) P w K mg base N qual scope f cd A outer s₀ H₀ E) E := by
  intro pins σ H s e s' I hc
  obtain ⟨x, T, C, H', rfl, os, bare, un, hok, fl, nx, nT, hx, hT, hE⟩ := hc
  have J := I.call' (ch := []) os un hok bare (fun b hb => absurd hb (by simp))
  have fresh : ∀ b, s.heap.get? b = none → (cxOf (CX1 P w) P w K mg base N qual scope f cd A outer s₀ H₀ E).s₀.heap.get? b = none := fun b hb => by
    cases q : (cxOf (CX1 P w) P w K mg base N qual scope f cd A outer s₀ H₀ E).s₀.heap.get? b with
    | none => rfl
    | some o =>
      obtain ⟨o', e⟩ := I.base.there b o q (by simp [cxOf])
      rw [hb] at e
      cases e
  have hl := J.hid [x, T]
  have nB : ∀ b ∈ [x, T], (PySem.W.hideAll s'.heap ([x, T] ++ frs (envOfC qual scope s₀.heap.objs.size f cd :: outer))).get? b = none := fun b hb => PySem.W.hideAll_none _ (List.mem_append_left _ hb)
  obtain ⟨a0, tr⟩ := fl.traced (nB T (by simp))
  refine wpAny_leaving_nextW (base := PySem.W.hideAll s'.heap ([x, T] ++ frs (envOfC qual scope s₀.heap.objs.size f cd :: outer))) J.ok.frames hl rfl tr (fun b o q => PySem.W.of_hideAll _ q) (nB x (by simp)) fun h' hL => ?_
  obtain ⟨k1, k2, k3, k4⟩ := hL
  refine left_ok (g := s'.gens) (bad := [x, T]) (B := PySem.W.hideAll s'.heap ([x, T] ++ frs (envOfC qual scope s₀.heap.objs.size f cd :: outer))) (h' := h') J rfl rfl (fun b hb => ?_) (fresh x nx) hx (fun b o q z y => PySem.W.hideAll_get _ q fun m => (List.mem_append.mp m).elim y z) k1 k2 k3 (fun b o q z => ?_) hE rfl bare rfl
  · rcases List.mem_cons.mp hb with rfl | hb
    · exact ⟨fresh b nx, hx⟩
    · obtain rfl : b = T := by simpa using hb
      exact ⟨fresh b nT, hT⟩
  · obtain ⟨_, o1, e1, nf⟩ := hl.mem z
    rw [q] at e1
    cases e1
    exact k4 b o q nf
end
abbrev bmE : List Value := [.type "Exception", .type "BaseException", .type "object"]
structure Exc (K : PySem.W.Frag) (mg : Str → Option Value) (x : Str) (C : Addr) : Prop where
  bound : mg x = some (.ref C)
  ok : PySem.W.excIn K C bmE "Exception.__new__" = true
theorem exc_obj {K : PySem.W.Frag} {h : Heap} {C : Addr} {nid : String} (Y : K.In h) (q : PySem.W.excIn K C bmE nid = true) :
    ∃ bm N nm qn bs hd sn sub ab col dd k0 k1 k2 k3 k5 mN, h.get? C = some (excClassObj nm qn C N bs bm hd sn sub ab col dd k0 k1 k2 k3 k5 nid) ∧ h.Ns N mN ∧ mN "__init__" = none ∧ OwnTail h bmE bm ∧
      ∀ (D : Addr) (r : Bool), PySem.W.mroIn K C (.ref D) = some r → (Value.ref C :: bm).contains (.ref D) = r := by
  unfold PySem.W.excIn at q
  split at q
  · rename_i dd c sl ho
    split at q
    · rename_i C' bm k0 k1 k2 k3 n k5 hm hs
      simp only [Bool.and_eq_true, beq_iff_eq, Bool.not_eq_true'] at q
      obtain ⟨⟨⟨⟨⟨rfl, rfl⟩, del⟩, tl⟩, okN⟩, ni⟩ := q
      have mro : ∀ (D : Addr) (r : Bool), PySem.W.mroIn K C' (.ref D) = some r → (Value.ref C' :: bm).contains (.ref D) = r := fun D r z => by
        unfold PySem.W.mroIn PySem.W.clsIn at z
        rw [ho] at z
        simp only [Option.bind_some] at z
        rw [hm] at z
        simpa using z
      obtain ⟨nm, bs, mr, ns, qn, hd, sn, sub, ab, col, dl⟩ := c
      dsimp only at hm del okN ni
      subst hm del
      have hsl : sl = #[k0, k1, k2, k3, some (.builtin n), k5] := by
        obtain ⟨l⟩ := sl
        simp only at hs
        rw [hs]
      subst hsl
      exact ⟨bm, ns, nm, qn, bs, hd, sn, sub, ab, col, dd, k0, k1, k2, k3, k5, _, Y _ _ ho, .of_isNs (PySem.W.isNs_of_in Y okN), PySem.W.nsMap_none_of_in Y okN ni, PySem.W.tail_of_in Y tl, mro⟩
    · cases q
  · cases q
def tRaise (C : Addr) (E : XK) : TS := fun _ _ H => E (.ref C) none H
section
variable {P : Program} {w : World} {K : PySem.W.Frag} {mg : Str → Option Value} {base : Heap} {N : List Str} {qual : Str} {scope : Scope} {f : Addr} {cd : Value} {A : Around} {outer : List Env} {s₀ : Shared} {H₀ : Hp} {E : XK}
theorem ps_raise {x : Str} {C : Addr} {np cpos pos : Pos} (T : Exc K mg x C) (hg : Gl (cxOf (CX1 P w) P w K mg base N qual scope f cd A outer s₀ H₀ E) x) (hd : (x == ("__debug__" : Str)) = false := by decide) :
    PS (cxOf (CX1 P w) P w K mg base N qual scope f cd A outer s₀ H₀ E) (.Raise (some (.Call (.Name x np) [] [] cpos)) none pos) (tRaise C E) := by
  intro pins s σ H D I hE
  have hE : E (.ref C) none H := hE
  obtain ⟨bm, NN, nm, qn, bs, hdd, sn, sub, ab, col, dd, k0, k1, k2, k3, k5, mN, hC, hN, hni, tl, _⟩ := exc_obj I.kIn T.ok
  refine wpAny_Raise_call_subT (C := C) (nm := nm) (q := qn) (N := NN) (bs := bs) (bm := bm) (hdct := hdd) (sn := sn) (sub := sub) (ab := ab) (col := col) (dd := dd) (k0 := k0) (k1 := k1) (k2 := k2) (k3 := k3) (k5 := k5)
    PySem.F.excBase_Exception (mN := mN) (tl.hasType PySem.F.excBase_Exception.hasBase) (I.ok.hd rfl) rfl hni (ld_glob I hg T.bound ⟨rfl, ?_⟩ hd)
  refine evalArgs_empty ⟨rfl, Nat.zero_le _, hC, hN, tl, fun h' e hx => ?_⟩
  have hl := I.hid []
  have fresh : ∀ b, s.heap.get? b = none → (cxOf (CX1 P w) P w K mg base N qual scope f cd A outer s₀ H₀ E).s₀.heap.get? b = none := fun b hb => by
    cases q : (cxOf (CX1 P w) P w K mg base N qual scope f cd A outer s₀ H₀ E).s₀.heap.get? b with
    | none => rfl
    | some o =>
      obtain ⟨o', e⟩ := I.base.there b o q (by simp [cxOf])
      rw [hb] at e
      cases e
  have he : H e = none := by
    cases q : H e with
    | none => rfl
    | some o =>
      obtain ⟨ob, z⟩ := (I.hok e o q).there
      rw [hx.new] at z
      cases z
  obtain ⟨t, ht, htn, _⟩ := hx.there
  refine wpAny_leaving_firstW (a0 := .ref t) (base := PySem.W.hideAll s.heap ([] ++ frs (envOfC qual scope s₀.heap.objs.size f cd :: outer))) I.ok.frames (hl.of_keeps fun b o q _ => ⟨o, hx.keeps b o q, rfl⟩) rfl ht (fun b o q => hx.keeps b o (PySem.W.of_hideAll _ q)) ?_ rfl rfl rfl fun h'' hL => ?_
  · cases q : (PySem.W.hideAll s.heap ([] ++ frs (envOfC qual scope s₀.heap.objs.size f cd :: outer))).get? e with
    | none => rfl
    | some o =>
      have := PySem.W.of_hideAll _ q
      rw [hx.new] at this
      cases this
  · obtain ⟨k1, k2, k3, k4⟩ := hL
    refine left_ok (g := s.gens) (bad := []) (B := PySem.W.hideAll s.heap ([] ++ frs (envOfC qual scope s₀.heap.objs.size f cd :: outer))) (h' := h'') I rfl rfl (fun b hb => absurd hb (by simp)) (fresh e hx.new) he (fun b o q z y => PySem.W.hideAll_get _ q fun m => (List.mem_append.mp m).elim y z) k1 k2 k3 (fun b o q z => ?_) hE rfl I.bare rfl
    obtain ⟨_, o1, e1, nf⟩ := hl.mem z
    rw [q] at e1
    cases e1
    exact k4 b o (hx.keeps b o q) nf
end
end L2
namespace L2
open PySem PySem.Spec PyProof.Rows
theorem passE {X : Cx} {P : Program} {w : World} : Passes (CX1 P w) X E0 := fun _ _ _ _ _ _ _ h => by
  obtain ⟨_, _, _, _, _, _, _, _, _, _, _, _, _, _, h⟩ := h
  exact h.elim
def GI (mg : Str → Option Value) (x : Str) (i : Int) : Prop := ∃ t, mg x = some (.int i t)
def GS (mg : Str → Option Value) (x y : Str) : Prop := ∃ t, mg x = some (.str y t)
section
variable {X : Cx}
theorem pe_gi {x : Str} {i : Int} {pos : Pos} (h : GI X.mg x i) (hg : Gl X x := by rfl) (hd : (x == ("__debug__" : Str)) = false := by decide) : PE X (.Name x pos) (tC (.int i)) := by
  obtain ⟨t, e⟩ := h
  exact pe_glob (v := .int i) hg e ⟨t, rfl⟩ hd
theorem pe_gs {x y : Str} {pos : Pos} (h : GS X.mg x y) (hg : Gl X x := by rfl) (hd : (x == ("__debug__" : Str)) = false := by decide) : PE X (.Name x pos) (tC (.str y)) := by
  obtain ⟨t, e⟩ := h
  exact pe_glob (v := .str y) hg e ⟨t, rfl⟩ hd
theorem pe_gr {x : Str} {a : Addr} {pos : Pos} (h : X.mg x = some (.ref a)) (hg : Gl X x := by rfl) (hd : (x == ("__debug__" : Str)) = false := by decide) : PE X (.Name x pos) (tC (.ref a)) :=
  pe_glob (v := .ref a) hg h rfl hd
end
structure Fn (P : Program) (w : World) (K : PySem.W.Frag) (mg : Str → Option Value) (base : Heap) (x : Str) (k : Nat) (sp : Sp) : Prop where
  ex : ∃ (f : Addr) (fd : FuncData) (ps : List Str), mg x = some (.ref f) ∧ PySem.W.keepIn K (.ref f) = true ∧ Binds K fd ps [] ∧ FnOk P w K mg base (CX1 P w) k f fd ps sp
structure Mt (P : Program) (w : World) (K : PySem.W.Frag) (mg : Str → Option Value) (base : Heap) (C : Addr) (m : Str) (k : Nat) (dvs : List V) (sp : Sp) : Prop where
  cl : Cls K C
  ex : ∃ (f : Addr) (fd : FuncData) (ps : List Str) (ds : List Value), Meth K C m f ∧ Vals dvs ds ∧ Binds K fd ps ds ∧ FnOk P w K mg base (CX1 P w) k f fd ps sp
structure Mkr (P : Program) (w : World) (K : PySem.W.Frag) (mg : Str → Option Value) (base : Heap) (x : Str) (C : Addr) (k : Nat) (sp : Sp) : Prop where
  ex : ∃ (f : Addr) (fd : FuncData) (ps : List Str), mg x = some (.ref C) ∧ Mk K C f ∧ Binds K fd ps [] ∧ FnOk P w K mg base (CX1 P w) k f fd ps sp
section
variable {X : Cx} {x m : Str} {k : Nat} {sp : Sp} {E : XK} {p pos apos : Pos} {e o : Expr} {es : List Expr} {t : TA} {ta : TE} {C : Addr} {dvs : List V}
theorem pe_fn (F : Fn X.prog X.w X.K X.mg X.base x k sp) (hr : Room k X.A) (hx : Passes (CX1 X.prog X.w) X E) (ha : PA X (e :: es) t) (hg : Gl X x := by rfl) (hdb : (x == ("__debug__" : Str)) = false := by decide)
    (he : starEach (e :: es) X.env = (false, eval e X.env) :: starEach es X.env := by rfl) (hpl : (backTo pos (starEach es X.env)).any (·.1) = false := by rfl) : PE X (.Call (.Name x p) (e :: es) [] pos) (tCall sp [] E t) := by
  obtain ⟨f, fd, ps, h1, h2, h3, h4⟩ := F.ex
  exact pe_call h4 hr hg h1 h2 h3 .nil hx ha hdb he hpl
theorem pe_mt {pl : Sem Bool} (F : Mt X.prog X.w X.K X.mg X.base C m k dvs sp) (he : PE X o ta) (hr : Room k X.A) (hx : Passes (CX1 X.prog X.w) X E) (ha : PA X (e :: es) t)
    (hst : starEach (e :: es) X.env = (false, eval e X.env) :: starEach es X.env := by rfl) (hpl : (backTo pos (starEach es X.env)).any (·.1) = false := by rfl)
    (ht : eval (.Call (.Attribute o m apos) (e :: es) [] pos) X.env = (do
      let ov ← eval o X.env
      standAt apos.atName
      let (f, first) ← holding [ov] (getMethod ov m pl)
      callWith pos f first (backTo pos (starEach (e :: es) X.env)) (backToKw pos (keywordEach [] X.env))) := by rfl) : PE X (.Call (.Attribute o m apos) (e :: es) [] pos) (tMeth C m sp dvs E ta t) := by
  obtain ⟨f, fd, ps, ds, h1, h2, h3, h4⟩ := F.ex
  exact pe_meth he F.cl h1 h4 hr h3 h2 hx ha hst hpl ht
theorem pe_mt0 {pl : Sem Bool} (F : Mt X.prog X.w X.K X.mg X.base C m k dvs sp) (he : PE X o ta) (hr : Room k X.A) (hx : Passes (CX1 X.prog X.w) X E)
    (ht : eval (.Call (.Attribute o m apos) [] [] pos) X.env = (do
      let ov ← eval o X.env
      standAt apos.atName
      let (f, first) ← holding [ov] (getMethod ov m pl)
      callWith pos f first (backTo pos (starEach [] X.env)) (backToKw pos (keywordEach [] X.env))) := by rfl) : PE X (.Call (.Attribute o m apos) [] [] pos) (tMeth C m sp dvs E ta tNil) := by
  obtain ⟨f, fd, ps, ds, h1, h2, h3, h4⟩ := F.ex
  exact pe_meth0 he F.cl h1 h4 hr h3 h2 hx ht
theorem pe_mk (F : Mkr X.prog X.w X.K X.mg X.base x C k sp) (hr : Room (k + 1) X.A) (hx : Passes (CX1 X.prog X.w) X E) (ha : PA X (e :: es) t) (hg : Gl X x := by rfl) (hdb : (x == ("__debug__" : Str)) = false := by decide)
    (he : starEach (e :: es) X.env = (false, eval e X.env) :: starEach es X.env := by rfl) (hpl : (backTo pos (starEach es X.env)).any (·.1) = false := by rfl) : PE X (.Call (.Name x p) (e :: es) [] pos) (tMake C sp [] E t) := by
  obtain ⟨f, fd, ps, h1, h2, h3, h4⟩ := F.ex
  exact pe_make h2 h4 hr hg h1 h3 .nil hx ha hdb he hpl
theorem pe_mk0 (F : Mkr X.prog X.w X.K X.mg X.base x C k sp) (hr : Room (k + 1) X.A) (hx : Passes (CX1 X.prog X.w) X E) (hg : Gl X x := by rfl) (hdb : (x == ("__debug__" : Str)) = false := by decide) : PE X (.Call (.Name x p) [] [] pos) (tMake C sp [] E tNil) := by
  obtain ⟨f, fd, ps, h1, h2, h3, h4⟩ := F.ex
  exact pe_make0 h2 h4 hr hg h1 h3 .nil hx hdb
end
structure FunD (K : PySem.W.Frag) (x qual : Str) (st : Stmt) (dV : Value) (f : Addr) (fd : FuncData) : Prop where
  ex : ∃ (oc : Value) (od : Option Addr) (kV doc pm : Value) (an : Option Addr) (cdv ct : Value) (osl : Array (Option Value)),
    fd = PySem.W.fnOf x qual (defArgs st) (defBody st) (defScope st) dV kV doc pm an cdv ct ∧ K.lookup f = some ⟨oc, od, .func fd, osl⟩ ∧ PySem.W.codeIn K cdv qual = true
section
variable {P : Program} {w : World} {K : PySem.W.Frag} {mg : Str → Option Value} {base : Heap} {x qual : Str} {st : Stmt} {dV : Value} {f : Addr} {fd : FuncData} {N ps : List Str} {k : Nat} {sp : Sp}
theorem FunD.okx (F : FunD K x qual st dV f fd) (S : FnScope N ps (defScope st)) (len : ∀ vs H Q E, sp vs H Q E → vs.length = ps.length)
    (hbody : ∀ (cdv : Value) (A : Around) (outer : List Env) (s : Shared) (H : Hp) (vs : List V) (Q : VK) (E : XK), Room k (A.deeper (envOfC qual (defScope st) s.heap.objs.size f cdv)) → sp vs H Q E →
      ∃ t, PSs (cxOf (CX1 P w) P w K mg base N qual (defScope st) f cdv A outer s H E) (defBody st) t ∧ t { nx := fun _ H' => Q .non H', rt := Q } (start N vs) H) : FnOk P w K mg base (CX1 P w) (k + 1) f fd ps sp := by
  obtain ⟨oc, od, kV, doc, pm, an, cdv, ct, osl, rfl, lk, hcd⟩ := F.ex
  exact fn_of lk hcd S len fun A outer s H vs Q E hr hsp => hbody cdv A outer s H vs Q E hr hsp
theorem FunD.ok0 (F : FunD K x qual st dV f fd) (S : FnScope N ps (defScope st)) (len : ∀ vs H Q E, sp vs H Q E → vs.length = ps.length)
    (hbody : ∀ (cdv : Value) (A : Around) (outer : List Env) (s : Shared) (H : Hp) (vs : List V) (Q : VK) (E : XK), Room k (A.deeper (envOfC qual (defScope st) s.heap.objs.size f cdv)) → sp vs H Q E →
      ∃ t, PSs (cxOf (CX1 P w) P w K mg base N qual (defScope st) f cdv A outer s H E).nox (defBody st) t ∧ t { nx := fun _ H' => Q .non H', rt := Q } (start N vs) H) : FnOk P w K mg base (CX1 P w) (k + 1) f fd ps sp := by
  refine F.okx S len fun cdv A outer s H vs Q E hr hsp => ?_
  obtain ⟨t, h, q⟩ := hbody cdv A outer s H vs Q E hr hsp
  exact ⟨t, h.nox, q⟩
structure Df (K : PySem.W.Frag) (mg : Str → Option Value) (x : Str) (st : Stmt) (ps : List Str) : Prop where
  ex : ∃ (f : Addr) (fd : FuncData), mg x = some (.ref f) ∧ PySem.W.keepIn K (.ref f) = true ∧ FunD K x x st .none f fd ∧ Binds K fd ps []
structure Dm (K : PySem.W.Frag) (C : Addr) (m qual : Str) (st : Stmt) (ps : List Str) (dvs : List V) : Prop where
  ex : ∃ (f : Addr) (fd : FuncData) (dV : Value) (ds : List Value), Meth K C m f ∧ FunD K m qual st dV f fd ∧ Vals dvs ds ∧ Binds K fd ps ds
structure Dk (K : PySem.W.Frag) (mg : Str → Option Value) (x : Str) (C : Addr) (qual : Str) (st : Stmt) (ps : List Str) : Prop where
  ex : ∃ (f : Addr) (fd : FuncData), mg x = some (.ref C) ∧ Mk K C f ∧ FunD K "__init__" qual st .none f fd ∧ Binds K fd ps []
theorem Df.fn (D : Df K mg x st ps) (h : ∀ f fd, FunD K x x st .none f fd → FnOk P w K mg base (CX1 P w) k f fd ps sp) : Fn P w K mg base x k sp := by
  obtain ⟨f, fd, h1, h2, h3, h4⟩ := D.ex
  exact ⟨⟨f, fd, ps, h1, h2, h4, h f fd h3⟩⟩
theorem Dm.mt {C : Addr} {m : Str} {dvs : List V} (D : Dm K C m qual st ps dvs) (c : Cls K C) (h : ∀ f fd dV, FunD K m qual st dV f fd → FnOk P w K mg base (CX1 P w) k f fd ps sp) : Mt P w K mg base C m k dvs sp := by
  obtain ⟨f, fd, dV, ds, h1, h2, h3, h4⟩ := D.ex
  exact ⟨c, ⟨f, fd, ps, ds, h1, h3, h4, h f fd dV h2⟩⟩
theorem Dk.mkr {C : Addr} (D : Dk K mg x C qual st ps) (h : ∀ f fd, FunD K "__init__" qual st .none f fd → FnOk P w K mg base (CX1 P w) k f fd ps sp) : Mkr P w K mg base x C k sp := by
  obtain ⟨f, fd, h1, h2, h3, h4⟩ := D.ex
  exact ⟨⟨f, fd, ps, h1, h2, h4, h f fd h3⟩⟩
end
abbrev vI (l : List Nat) : List V := l.map fun (n : Nat) => V.int (n : Int)
theorem vI_len (l : List Nat) : (vI l).length = l.length := by simp
theorem vI_get {l : List Nat} {i n : Nat} (h : l[i]? = some n) : (vI l)[i]? = some (V.int (n : Int)) := by simp [h]
theorem vI_inj {a b : List Nat} (h : vI a = vI b) : a = b := by
  induction a generalizing b with
  | nil => cases b with
    | nil => rfl
    | cons y r => simp at h
  | cons x r ih =>
    cases b with
    | nil => simp at h
    | cons y q =>
      simp only [vI, List.map_cons, List.cons.injEq] at h
      obtain ⟨h1, h2⟩ := h
      have : x = y := by
        have e : (x : Int) = (y : Int) := by injection h1
        omega
      rw [this, ih h2]
abbrev dI (l : List Nat) : PyData := .list (l.map fun (n : Nat) => PyData.int (n : Int))
theorem dpAll_ints {K : PySem.W.Frag} {H : Hp} : ∀ l : List Nat, DpAll K H (vI l) (l.map fun (n : Nat) => PyData.int (n : Int))
  | [] => .nil
  | n :: r => .cons (.int _) (dpAll_ints r)
theorem dp_ints {K : PySem.W.Frag} {H : Hp} {a : Addr} {l : List Nat} (h : SqL K H a (vI l)) : Dp K H (.ref a) (dI l) := .lst h (dpAll_ints l)
end L2
namespace L2
open PySem PySem.Spec PyProof.Rows
theorem eqvAll_ints : ∀ a b : List Nat, PyData.eqvAll (a.map fun (n : Nat) => PyData.int (n : Int)) (b.map fun (n : Nat) => PyData.int (n : Int)) = decide (a = b)
  | [], [] => rfl
  | [], _ :: _ => rfl
  | _ :: _, [] => rfl
  | x :: r, y :: q => by
    have ih := eqvAll_ints r q
    simp only [List.map_cons, PyData.eqvAll, PyData.eqv, ih]
    by_cases e : x = y
    · subst e; simp
    · have : ((x : Int) == (y : Int)) = false := by
        rw [beq_eq_false_iff_ne]
        omega
      simp [this, e]
theorem eqv_dI (a b : List Nat) : PyData.eqv (dI a) (dI b) = decide (a = b) := by
  rw [← eqvAll_ints a b]
  rfl
theorem lay_ints : ∀ a : List Nat, PyData.canLayAll0 (a.map fun (n : Nat) => PyData.int (n : Int)) = true
  | [] => rfl
  | _ :: r => by simp only [List.map_cons, PyData.canLayAll0, PyData.canLay0, lay_ints r, Bool.and_self]
theorem depth_ints : ∀ a : List Nat, PyData.depthAll (a.map fun (n : Nat) => PyData.int (n : Int)) = 0
  | [] => rfl
  | _ :: r => by simp only [List.map_cons, PyData.depthAll, PyData.depth, depth_ints r, Nat.max_self]
theorem lay_dI (a : List Nat) : PyData.canLay0 (dI a) = true := lay_ints a
theorem depth_dI (a : List Nat) : PyData.depth (dI a) = 1 := by
  show PyData.depthAll _ + 1 = 1
  rw [depth_ints]
theorem shaped_dI (a : List Nat) : SeqAt.shaped (dI a) = true := by
  unfold SeqAt.shaped
  rw [lay_dI, depth_dI]
  rfl
theorem lay_dIs : ∀ a : List (List Nat), PyData.canLayAll0 (a.map dI) = true
  | [] => rfl
  | x :: r => by
    simp only [List.map_cons, PyData.canLayAll0, lay_dIs r, Bool.and_true]
    exact lay_dI x
theorem any_dI (ls : List (List Nat)) (l : List Nat) : ((ls.map dI).any fun y => PyData.eqv y (dI l)) = decide (l ∈ ls) := by
  induction ls with
  | nil => simp
  | cons x r ih =>
    rw [List.map_cons, List.any_cons, ih, eqv_dI]
    by_cases e : x = l
    · simp [e]
    · have e' : ¬ l = x := fun z => e z.symm
      simp [e, e']
section
variable {X : Cx}
def rEqI (K : PySem.W.Frag) (neg : Bool) : R2 := fun x y H Q => ∃ a b l m, x = .ref a ∧ y = .ref b ∧ SqL K H a (vI l) ∧ SqL K H b (vI m) ∧ Q (.bl (if neg then !decide (l = m) else decide (l = m))) H
theorem op_eqI (hu : X.A.units + 64 < cLine) : OpR X (compareOp .Eq) (rEqI X.K false) := by
  intro pins s σ H x y v u Q I rx ry h
  obtain ⟨a, b, l, m, rfl, rfl, h1, h2, q⟩ := h
  refine op_eqD hu pins s σ H _ _ v u Q I rx ry ⟨dI l, dI m, dp_ints h1, dp_ints h2, shaped_dI l, shaped_dI m, ?_⟩
  rw [eqv_dI]
  exact q
theorem op_neI (hu : X.A.units + 64 < cLine) : OpR X (compareOp .NotEq) (rEqI X.K true) := by
  intro pins s σ H x y v u Q I rx ry h
  obtain ⟨a, b, l, m, rfl, rfl, h1, h2, q⟩ := h
  refine op_neD hu pins s σ H _ _ v u Q I rx ry ⟨dI l, dI m, dp_ints h1, dp_ints h2, shaped_dI l, shaped_dI m, ?_⟩
  rw [eqv_dI]
  exact q
def ListsAt (K : PySem.W.Frag) (H : Hp) : List Addr → List (List Nat) → Prop := Paired fun r l => SqL K H r (vI l)
theorem dpAll_lists {K : PySem.W.Frag} {H : Hp} : ∀ {rs : List Addr} {ls : List (List Nat)}, ListsAt K H rs ls → DpAll K H (rs.map V.ref) (ls.map dI)
  | _, _, .nil => .nil
  | _, _, .cons h t => .cons (dp_ints h) (dpAll_lists t)
def rInI (K : PySem.W.Frag) (neg : Bool) : R2 := fun x y H Q => ∃ a p rs l ls, x = .ref a ∧ y = .ref p ∧ SqL K H a (vI l) ∧ (SqL K H p (rs.map V.ref) ∨ SqT K H p (rs.map V.ref)) ∧ ListsAt K H rs ls ∧ Q (.bl (if neg then !decide (l ∈ ls) else decide (l ∈ ls))) H
theorem room_in {A : Around} {ds : List PyData} {l : List Nat} (hu : A.units + 64 < cLine) : A.units + 1 + min (PyData.depthAll ds) (PyData.depth (dI l)) < cLine := by
  have h : min (PyData.depthAll ds) (PyData.depth (dI l)) ≤ PyData.depth (dI l) := Nat.min_le_right _ _
  rw [depth_dI] at h
  rw [depth_dI]
  omega
theorem op_inI (hu : X.A.units + 64 < cLine) : OpR X (compareOp .In) (rInI X.K false) := by
  intro pins s σ H x y v u Q I rx ry h
  obtain ⟨a, p, rs, l, ls, rfl, rfl, h1, h2, h3, q⟩ := h
  obtain ⟨as, r1⟩ := Dp.reads I (dI l) _ v (dp_ints h1) rx
  rcases h2 with h2 | h2
  · obtain ⟨bs, r2⟩ := Dp.reads I (.list (ls.map dI)) _ u (.lst h2 (dpAll_lists h3)) ry
    refine SeqAt.in_list_reads r2 r1 (lay_dIs ls) (lay_dI l) (room_in hu) ⟨.bl _, H, I, rfl, ?_⟩
    rw [any_dI]
    exact q
  · obtain ⟨bs, r2⟩ := Dp.reads I (.tuple (ls.map dI)) _ u (.tup h2 (dpAll_lists h3)) ry
    refine SeqAt.in_tuple_reads r2 r1 (lay_dIs ls) (lay_dI l) (room_in hu) ⟨.bl _, H, I, rfl, ?_⟩
    rw [any_dI]
    exact q
theorem op_ninI (hu : X.A.units + 64 < cLine) : OpR X (compareOp .NotIn) (rInI X.K true) := by
  intro pins s σ H x y v u Q I rx ry h
  obtain ⟨a, p, rs, l, ls, rfl, rfl, h1, h2, h3, q⟩ := h
  obtain ⟨as, r1⟩ := Dp.reads I (dI l) _ v (dp_ints h1) rx
  rcases h2 with h2 | h2
  · obtain ⟨bs, r2⟩ := Dp.reads I (.list (ls.map dI)) _ u (.lst h2 (dpAll_lists h3)) ry
    refine SeqAt.notIn_list_reads r2 r1 (lay_dIs ls) (lay_dI l) (room_in hu) ⟨.bl _, H, I, rfl, ?_⟩
    rw [any_dI]
    exact q
  · obtain ⟨bs, r2⟩ := Dp.reads I (.tuple (ls.map dI)) _ u (.tup h2 (dpAll_lists h3)) ry
    refine SeqAt.notIn_tuple_reads r2 r1 (lay_dIs ls) (lay_dI l) (room_in hu) ⟨.bl _, H, I, rfl, ?_⟩
    rw [any_dI]
    exact q
def tFmt (a b : Str) (te : TE) : TE := fun σ H Q => te σ H fun x H1 => ∃ y : Str, x = .str y ∧ y.length ≤ 1000 ∧ Q (.str (a ++ y ++ b)) H1
theorem pe_fmt {a b : Str} {e : Expr} {te : TE} {j1 j2 : Nat} {p1 p2 p3 p4 : Pos} (he : PE X e te) (ha : a.length ≤ 1000 := by decide) (hb : b.length ≤ 1000 := by decide) :
    PE X (.JoinedStr [.Constant (.str a) j1 p1, .FormattedValue e (-1) none p2, .Constant (.str b) j2 p3] p4) (tFmt a b te) := by
  intro pins s σ H Q I h
  have small : ∀ n : Nat, n ≤ 3000 → n ≤ sizeLine := fun n hn => by rw [sizeLine_eq]; omega
  have e0 : ∀ z : Str, (Str.empty ++ z) = z := fun z => TL.ext_tl (by rw [TL.tl_append]; rfl)
  refine JoinedStr_many (joinParts_cons ?_)
  refine Calls.Constant_str ?_
  dsimp only
  rw [e0]
  refine ⟨small _ (by omega), joinParts_cons ?_⟩
  refine FormattedValue_plain (thn (he pins _ σ H _ (I.tok _) h) fun v s1 ⟨x, H1, I1, rx, y, ex, hy, q⟩ => ?_)
  subst ex
  obtain ⟨t, rfl⟩ := rx
  refine formatField_str (fun t' tk => ?_) (small _ (by omega))
  have l1 : (a ++ y).length ≤ 2000 := by rw [strLen_append]; omega
  refine ⟨small _ (by omega), joinParts_cons ?_⟩
  refine Calls.Constant_str ?_
  have l2 : (a ++ y ++ b).length ≤ 3000 := by rw [strLen_append]; omega
  refine ⟨small _ l2, joinParts_nil ?_ (small _ l2)⟩
  exact ⟨.str (a ++ y ++ b), H1, (((I1.tok tk).tok _).tok _), ⟨_, rfl⟩, q⟩
theorem lc_str {x : Str} {g : TG} {tt : TT} {te : TE} {vs : List Nat} {σ : St} {H1 : Hp} {D : Addr} {Qd : Hp → Prop} (Pv : Nat → Hp → Prop) (h0 : Pv 0 (upd H1 D (.lst [])))
    (hs : ∀ i c H, (TL.tl x)[i]? = some c → Pv i H → g (.str ⟨#[c]⟩) (wipe σ vs) H fun σ2 H2 => wipe σ2 vs = wipe σ vs ∧ tt σ2 H2 fun b H3 =>
      if b = true then te σ2 H3 fun y H4 => ∃ acc, H4 D = some (.lst acc) ∧ acc.length < sizeLine ∧ Pv (i + 1) (upd H4 D (.lst (acc ++ [y]))) else Pv (i + 1) H3) (hd : ∀ H, Pv (TL.tl x).length H → Qd H) :
    ∃ W : Nat → Nat → Hp → Prop, (∃ m, W 0 m (upd H1 D (.lst []))) ∧ ∀ i m H, W i m H →
      ((Its x).stop i H ∧ Qd H) ∨ ((Its x).go i H ∧ ∃ Nx : Hp → Prop, (∀ H', Nx H' → ∃ m', m' < m ∧ W (i + 1) m' H') ∧ ∀ v H', (Its x).yld i H v H' → g v (wipe σ vs) H' fun σ2 H2 => wipe σ2 vs = wipe σ vs ∧ tt σ2 H2 fun b H3 =>
        if b = true then te σ2 H3 fun y H4 => ∃ acc, H4 D = some (.lst acc) ∧ acc.length < sizeLine ∧ Nx (upd H4 D (.lst (acc ++ [y]))) else Nx H3) := by
  refine ⟨fun i m H => m = (TL.tl x).length - i ∧ i ≤ (TL.tl x).length ∧ Pv i H, ⟨(TL.tl x).length, by simp, Nat.zero_le _, h0⟩, ?_⟩
  rintro i m H ⟨rfl, hi, p⟩
  by_cases hlt : i < (TL.tl x).length
  · have q : i < x.cps.size := by simpa [TL.tl] using hlt
    refine .inr ⟨q, Pv (i + 1), fun H' p' => ⟨(TL.tl x).length - (i + 1), by omega, rfl, hlt, p'⟩, fun v H' y => ?_⟩
    obtain ⟨e, c, hc, ev⟩ := y
    subst e ev
    exact hs i c _ (by rw [TL.tl, Array.getElem?_toList]; exact hc) p
  · have e : i = (TL.tl x).length := by omega
    subst e
    exact .inl ⟨by show x.cps.size ≤ _; simp [TL.tl], hd H p⟩
end
end L2
namespace L2
open PySem PySem.Spec PyProof.Rows
section
variable {prog : Program} {w : World} {A : Around} {E : Value → Shared → Prop} {s : Shared} {d : Addr} {ob : Obj} {es : Array DictEntry} {ep : Nat}
theorem meetsD_len (d : Addr) (hd : (d == sysModules) = false) :
    MeetsIn prog w (Builtin.«dict.__len__» ⟨[.ref d], []⟩) (fun _ R s => ∃ ob es ep, s.heap.get? d = some ob ∧ ob.data = .dict es ep ∧ R (.ok (.ret (.int es.size s.toks))) { s with toks := s.toks + 1 }) :=
  .of_wp fun A R s ⟨ob, es, ep, eo, dt, h⟩ => by
    show wpAny _ _ (dictSize d >>= _) _ _ _
    unfold dictSize
    refine wpAny_bind (wpAny_bind (wpAny_dictEntries eo dt (wpAny_pure ?_)))
    show wpAny _ _ (Builtin.Dict.pendingCount d >>= _) _ _ _
    refine wpAny_bind (wpAny_pendingCount_other hd ?_)
    refine wpAny_ret_mkInt ?_
    rw [Nat.add_zero]
    exact h
theorem lenD {Q : Value → Shared → Prop} (hd : (d == sysModules) = false) (eo : s.heap.get? d = some ob) (cx : ob.ExactDict) (dt : ob.data = .dict es ep) (hl : es.size ≤ sizeLine)
    (h : Q (.int es.size (s.toks + 1)) { s with toks := s.toks + 1 + 1 }) : wpAny (model prog w) A (call (.builtin "len") [.ref d]) Q E s := by
  have ty : s.TypeIs (.ref d) "dict" := ⟨ob, eo, cx.1⟩
  rw [sizeLine_eq] at hl
  refine Calls.call_function_entry kind_len plain_len entry_len (args_len1 _) ?_
  unfold Builtin.«len»
  refine wpAny_bind (m := oneArg "len" _) (wpAny_pure ?_)
  refine wpAny_bind (m := callSpecial? (.ref d) (Str.ofString "__len__")) (wpAny_callSpecial?_slot (name := Str.ofString "__len__") ty F.slot_dict_len
    (call_meetsIn F.slot_dict_len ty F.entry_dict_len (F.args_dict_len_1 _) (meetsD_len d hd) ⟨ob, es, ep, eo, dt, ?_⟩))
  show wpAny _ _ _ _ _ { s with toks := s.toks + 1 }
  refine wpAny_bind (wpAny_holding (wpAny_pure ?_))
  refine wpAny_bind (wpAny_letGo ?_)
  show wpAny _ _ (if ((es.size : Nat) : Int) < 0 then _ else _) _ _ _
  rw [if_neg (by omega)]
  show wpAny _ _ (if ((es.size : Nat) : Int) ≥ 2 ^ 63 then _ else _) _ _ _
  rw [if_neg (by omega)]
  exact wpAny_bind (wpAny_mkInt (wpAny_pure ⟨_, rfl, h⟩))
theorem walkD (hh : A.handled = none) (I d : Addr) (hne : I ≠ d) (es : Array DictEntry) (ep : Nat) : Walks prog w A I [I, d] [I] es.size (fun i v => ∃ en, es[i]? = some en ∧ v = en.key)
    (fun i h => h.IsKeyIter I d i es.size ep ∧ ∃ ob : Obj, h.get? d = some ob ∧ ob.data = .dict es ep) where
  sub := by simp
  frame := fun i h h' ⟨st, ob, eo, dt⟩ k => ⟨st.at fun o e => k I (by simp) o e, ob, k d (by simp) ob eo, dt⟩
  item := fun i s Q E hi ⟨st, ob, eo, dt⟩ hQ => by
    obtain ⟨en, hen⟩ : ∃ en, es[i]? = some en := ⟨es[i], by simp [hi]⟩
    refine next_key_item st eo dt rfl hen fun h' st' sb => hQ en.key h' s.toks ⟨en, hen, rfl⟩ ⟨st', ob, (sb.2 d (Ne.symm hne)).trans eo, dt⟩ fun b o hb e => (sb.2 b (by simpa using hb)).trans e
  done := fun s Q E ⟨st, ob, eo, dt⟩ hQ => next_key_end hh st eo dt rfl (Nat.le_refl _) fun h' eb => hQ h' s.toks fun b o hb e => eb b o (by simpa using hb) e
  self := fun i s Q E ⟨st, _⟩ hQ => by
    refine wpAny_pyIter_slot st.typeIs F.slot_dict_keyiterator_iter (wpAny_call_entry F.slot_dict_keyiterator_iter st.typeIs F.entry_dict_keyiterator_iter ?_ (F.args_dict_keyiterator_iter_1 _))
    show wpAny _ _ (ret (.ref I)) _ _ s
    exact wpAny_pure ⟨_, rfl, "dict_keyiterator", _, st.typeIs, F.slot_dict_keyiterator_next.lookup, hQ⟩
theorem srcD (lo : (d == sysModules) = false) (es : Array DictEntry) (ep : Nat) : PySem.W.KdlSrc prog w "dict" d d es.size (fun i v => ∃ en, es[i]? = some en ∧ v = en.key) (fun h => ∃ ob : Obj, h.get? d = some ob ∧ ob.ExactDict ∧ ob.data = .dict es ep) where
  type := fun _ ⟨ob, eo, cx, _⟩ => ⟨ob, eo, cx.1⟩
  there := fun _ ⟨_, eo, _⟩ => ⟨Heap.lt_size eo, Heap.lt_size eo⟩
  keep := fun _ _ ⟨ob, eo, r⟩ hk => ⟨ob, hk d (.inl rfl) ob eo, r⟩
  notList := by decide
  notTuple := by decide
  hint := fun _ _ _ _ ⟨ob, eo, cx, _⟩ hq => PySem.W.kdl_hint_dict ⟨ob, eo, cx.1⟩ hq
  iter := fun _ s hh ⟨ob, eo, cx, dt⟩ => ⟨_, _, (fun _ _ hq => iter_keys lo eo cx dt hq), walkD hh _ d (Nat.ne_of_gt (Heap.lt_size eo)) es ep,
    ⟨⟨_, Heap.get?_push_size _ rfl, rfl, rfl⟩, ob, Heap.get?_push_of_some _ eo, dt⟩⟩
end
theorem Inv.laidN {X : Cx} {pins : List (Addr × Obj)} {σ : St} {H : Hp} {s : Shared} {h' : Heap} {a : Addr} {o : HO} {t' : Nat} (I : Inv X pins σ H s) (k : ∀ b u, s.heap.get? b = some u → h'.get? b = some u) (hp : s.heap.get? a = none) (new : ObjOk X.prog X.w (upd H a o) h' a o) :
    H a = none ∧ Inv X pins σ (upd H a o) { s with heap := h', toks := t' } := by
  have hn : H a = none := by
    cases q : H a with
    | none => rfl
    | some u =>
      obtain ⟨ob, e⟩ := (I.hok a u q).there
      rw [hp] at e
      cases e
  have ne : ∀ b u, s.heap.get? b = some u → b ≠ a := fun b u q z => by rw [z, hp] at q; cases q
  refine ⟨hn, I.un ⟨fun b u q _ _ _ => k b u q, fun b u q _ _ _ => ⟨u.slots, k b u q⟩, fun b u q n _ => by rw [upd_ne (ne b u q)]; exact n, fun b u q _ => ⟨u, k b u q⟩, fun b xs q => by rw [upd_ne (ne_of_none q hn)]; exact q,
    fun b u xs q => by rw [upd_ne (ne_of_none q hn)]; exact q, fun b ps q => ⟨#[], by rw [upd_ne (ne_of_none q hn), q]; simp⟩⟩ fun b u e => ?_⟩
  by_cases hb : b = a
  · subst hb
    rw [upd_same] at e
    cases e
    exact new
  · rw [upd_ne hb] at e
    exact (I.hok b u e).stay (fun c v _ q => k c v q) (fun c q => by rw [upd_ne (ne_of_none q hn)]; exact q) fun c xs q => by rw [upd_ne (ne_of_none q hn)]; exact q
theorem vals_keys : ∀ ys : List (NK × Addr × Value), Vals ((ys.map (·.2.1)).map V.ref) (ys.map fun y => Value.ref y.2.1)
  | [] => .nil
  | _ :: r => .cons rfl (vals_keys r)
theorem intsAre_at : ∀ {us : List Value} {ns : List Int}, us.length = ns.length → (∀ (i : Nat) (u : Value), us[i]? = some u → ∃ n t, ns[i]? = some n ∧ u = Value.int n t) → IntsAre us ns
  | [], [], _, _ => .nil
  | [], _ :: _, h, _ => by simp at h
  | _ :: _, [], h, _ => by simp at h
  | u :: us, n :: ns, h, f => by
    obtain ⟨m, t, e, rfl⟩ := f 0 u rfl
    have : n = m := by simpa using e
    subst this
    exact .cons _ _ (intsAre_at (by simpa using h) fun i v hv => f (i + 1) v (by simpa using hv))
section
variable {X : Cx}
theorem call_lenT : CallR X (.builtin "len") (fun xs H Q => ∃ a kvs, xs = [V.ref a] ∧ H a = some (.dT kvs) ∧ Q (.int kvs.length) H) := by
  intro pins s σ H xs us Q I r h
  obtain ⟨a, kvs, rfl, ha, q⟩ := h
  obtain ⟨u, rfl, ru⟩ := vals1 r
  cases ru
  obtain ⟨z, hd, ys, rel, ob, es, ep, eo, cx, dt, he, _⟩ := dt_of I.hok ha
  have hs : es.size = kvs.length := by rw [size_of_entries he]; exact (Paired.length rel).symm
  refine lenD hd eo cx dt (by omega) ?_
  rw [hs]
  exact ⟨.int kvs.length, H, I.tok _, ⟨_, rfl⟩, q⟩
theorem call_listT (hc : X.calm = true) : CallR X (.type "list") (fun xs H Q => ∃ a kvs, xs = [V.ref a] ∧ H a = some (.dT kvs) ∧
    ∀ p rs, H p = none → Paired (fun (r : Addr) (kv : NK × V) => NTup H r kv.1) rs kvs → Q (.ref p) (upd H p (.lst (rs.map V.ref)))) := by
  intro pins s σ H xs us Q I r h
  obtain ⟨a, kvs, rfl, ha, q⟩ := h
  obtain ⟨u, rfl, ru⟩ := vals1 r
  cases ru
  obtain ⟨z, hd, ys, rel, ob, es, ep, eo, cx, dt, he, _⟩ := dt_of I.hok ha
  have hs : es.size = kvs.length := by rw [size_of_entries he]; exact (Paired.length rel).symm
  refine PySem.W.kdl_call (srcD hd es ep) (I.ok.hd hc) ⟨ob, eo, cx, dt⟩ (by omega) fun h' tk acc c' hk hS hacc => ?_
  have keys : ∀ (kvs : List (NK × V)) (ys : List (NK × Addr × Value)), KT H kvs ys → Paired (fun (r : Addr) (kv : NK × V) => NTup H r kv.1) (ys.map (·.2.1)) kvs := by
    intro kvs ys rel
    induction rel with
    | nil => exact .nil
    | cons x _ ih => exact .cons x.2.1 ih
  have eacc : acc.toList = ys.map fun y => Value.ref y.2.1 := by
    apply List.ext_getElem?
    intro i
    have hsz : acc.size = es.size := hacc.1
    by_cases hi : i < es.size
    · obtain ⟨v, hv⟩ : ∃ v, acc[i]? = some v := ⟨acc[i]'(by omega), by simp [hsz, hi]⟩
      obtain ⟨en, hen, rfl⟩ := hacc.2 i v hv
      have := entry_at he i
      rw [hen] at this
      rw [Array.getElem?_toList, hv, List.getElem?_map]
      cases hy : ys[i]? with
      | none => rw [hy] at this; cases this
      | some y =>
        rw [hy] at this
        cases this
        rfl
    · have h1 : acc[i]? = none := by simp; omega
      have h2 : ys.length = es.size := (size_of_entries he).symm
      rw [Array.getElem?_toList, h1, List.getElem?_map, List.getElem?_eq_none (by omega)]
      rfl
  have vals : Vals ((ys.map (·.2.1)).map V.ref) acc.toList := by
    rw [eacc]
    exact vals_keys ys
  have hl : ((ys.map (·.2.1)).map V.ref).length ≤ sizeLine := by
    rw [List.length_map, List.length_map]
    have := size_of_entries he
    omega
  have fr := I.hok.fresh (Nat.le_refl s.heap.objs.size)
  have hS' : h'.get? s.heap.objs.size = some { cls := .type "list", data := .seq acc.toList.toArray c' } := by simpa using hS
  refine ⟨.ref s.heap.objs.size, _, I.laid (t' := tk) hk (Nat.le_refl _) (show ObjOk X.prog X.w _ _ _ (.lst ((ys.map (·.2.1)).map V.ref)) from ⟨hl, acc.toList, c', vals, hS'⟩), rfl, q _ _ fr (keys kvs ys rel)⟩
end
theorem KT.drop {H : Hp} {kvs : List (NK × V)} {xs : List (NK × Addr × Value)} (r : KT H kvs xs) (k : NK) : KT H (dropK kvs k) (lessH xs k) := by
  induction r with
  | nil => exact .nil
  | @cons p q ps qs h t ih =>
    unfold dropK lessH at ih ⊢
    rw [List.filter_cons, List.filter_cons]
    by_cases e : p.1 = k
    · have e' : q.1 = k := h.1.symm.trans e
      rw [if_neg (by simp [e]), if_neg (by simp [e'])]
      exact ih
    · have e' : ¬ q.1 = k := fun z => e (h.1.trans z)
      rw [if_pos (by simp [e]), if_pos (by simp [e'])]
      exact .cons h ih
section
variable {X : Cx} {pins : List (Addr × Obj)} {σ : St} {H : Hp} {s : Shared} {a b : Addr} {A : Around} {E : Value → Shared → Prop}
theorem d_popT {kvs : List (NK × V)} {k : NK} {v : V} {Q : Value → Shared → Prop} (hu : A.units + 16 < cLine) (I : Inv X pins σ H s) (e : H a = some (.dT kvs)) (eb : NTup H b k) (l : valV kvs k = some v)
    (h : ∀ w' s', Inv X pins σ (upd H a (.dT (dropK kvs k))) s' → RelV v w' → Q w' s') : wpAny (model X.prog X.w) A (call (.builtin "dict.pop") [.ref a, .ref b]) Q E s := by
  obtain ⟨z, hd, xs, rel, dd⟩ := dt_of I.hok e
  obtain ⟨w', hw, rw'⟩ := RelO.some_of (v := v) (o := (atKey xs k).map (·.2)) (by rw [← l]; exact rel.val k)
  obtain ⟨p, hp, hp2⟩ := Option.map_eq_some_iff.mp hw
  have hz : xs.length ≤ sizeLine := by rw [← Paired.length rel]; exact z
  refine call_meetsIn PySem.F.slot_dict_pop dd.typeIs PySem.F.entry_dict_pop (PySem.F.args_dict_pop_2 _ _) (meetsH_pop (nestKind X.prog X.w) a b) ⟨nest_room hu, k, xs, p, key_of I.hok eb, dd, hz, hp, fun h' dd' hs => ?_⟩
  rw [hp2]
  refine h w' _ ?_ rw'
  obtain ⟨q, es, ep, hq, h2, h3, h4, _, h5⟩ := dd'
  refine d_write I (by rw [e]; exact True.intro) hs ⟨q, hq⟩ ⟨Nat.le_trans (dropK_le kvs k) z, hd, _, (rel.drop k).keeps fun c ys ec => ?_, q, es, ep, hq, h2, h3, h4, h5⟩
  rw [upd_ne (ne_of ec e (fun z => nomatch z))]
  exact ec
end
section
variable {X : Cx} {o e f : Expr} {apos cpos : Pos} {td ty : TE}
def tDPopT (td ty : TE) : TE := fun σ H Q => td σ H fun x H1 => ∃ a, x = .ref a ∧ IsD H1 a ∧ ty σ H1 fun y H2 => ∃ kvs k v b, H2 a = some (.dT kvs) ∧ y = .ref b ∧ NTup H2 b k ∧ valV kvs k = some v ∧ Q v (upd H2 a (.dT (dropK kvs k)))
theorem pe_dpopT (hu : X.A.units + 16 < cLine) (ho : PE X o td) (he : PE X e ty) (m : M1 X o "pop" apos e cpos) : PE X (.Call (.Attribute o "pop" apos) [e] [] cpos) (tDPopT td ty) := by
  intro pins s σ H Q I h
  refine wpAny_Call_method m.base m.few m.line PySem.F.plainAttrs_dict PySem.F.slot_dict_pop PySem.F.type_dict_pop (thn (ho pins s σ H _ I h) fun u s1 ⟨x, H1, I1, rx, a, ex, d, q1⟩ => ?_)
  subst ex
  obtain rfl : u = Value.ref a := rx
  obtain ⟨t1, t2, _⟩ := isD_at I1 d
  refine ⟨t1, t2, ?_⟩
  rw [m.trees]
  refine Calls.callWith_builtin rfl (Calls.evalArgs_plain (Calls.spliced_cons (thn (he pins s1 σ H1 _ I1 q1) fun iv s2 ⟨y, H2, I2, ry, kvs, k, v, b, ea, ey, eb, l, q2⟩ => Calls.spliced_nil ?_)))
  subst ey
  obtain rfl : iv = Value.ref b := ry
  exact d_popT hu I2 ea eb l fun w' s3 I3 rw' => ⟨v, _, I3, rw', q2⟩
def rUpd : V → List V → Hp → VK → Prop := fun x vs H Q => ∃ d b kvs more, x = .ref d ∧ vs = [.ref b] ∧ d ≠ b ∧ H d = some (.dK kvs) ∧ H b = some (.dK more) ∧ kvs.length + more.length ≤ sizeLine ∧ Q .non (upd H d (.dK (mergeK kvs more)))
theorem mt_update : MtR X "dict.update" rUpd := by
  intro pins s σ H x vs v us Q I rx rv h
  obtain ⟨d, b, kvs, more, rfl, rfl, ne, e1, e2, hl, q⟩ := h
  cases rx
  obtain ⟨u, rfl, ru⟩ := vals1 rv
  cases ru
  obtain ⟨z, hd, xs, rel, dd⟩ := dk_of I.hok e1
  obtain ⟨z2, hd2, ys, rel2, dd2⟩ := dk_of I.hok e2
  refine call_meetsIn PySem.F.slot_dict_update dd.typeIs PySem.F.entry_dict_update (PySem.F.args_dict_update_2 _ _) (meets_dict_update (mixKind X.prog X.w) d b ne hd2) ⟨xs, ys, dd, dd2, by rw [← rel.length, ← rel2.length]; exact hl, fun h' m1 m2 hs => ?_⟩
  have he : ∃ q, h'.get? d = some q := let ⟨q, _, _, hq, _⟩ := m1; ⟨q, hq⟩
  have hz : (mergeK kvs more).length ≤ sizeLine := Nat.le_trans (length_mergeK more kvs) hl
  exact ⟨.non, _, d_write (t' := s.toks) I (by rw [e1]; exact True.intro) hs he (dk_new hz hd (rel2.merge rel) m1), rfl, q⟩
theorem call_sortedD (hc : X.calm = true) : CallR X (.builtin "sorted") (fun xs H Q => ∃ (a : Addr) (ns : List Int) (kvs : List (Key × V)), xs = [V.ref a] ∧ H a = some (.dK kvs) ∧ kvs.map (·.1) = ns.map Sum.inl ∧
    ∀ (p : Addr) (ms : List Int), H p = none → ms.Perm ns → ms.Pairwise (· ≤ ·) → Q (.ref p) (upd H p (.lst (ms.map V.int)))) := by
  intro pins s σ H xs us Q I r h
  obtain ⟨a, ns, kvs, rfl, ha, hk, q⟩ := h
  obtain ⟨u, rfl, ru⟩ := vals1 r
  cases ru
  obtain ⟨z, hd, vs, rel, dd⟩ := dk_of I.hok ha
  obtain ⟨ep, hat⟩ := dd.dictAt
  have hl : kvs.length = vs.length := rel.length
  have hn : ns.length = kvs.length := by
    have := congrArg List.length hk
    simpa using this.symm
  refine Calls.call_function_entry kind_sorted plain_sorted entry_sorted (args_sorted1 _) ?_
  unfold Builtin.«sorted»
  refine wpAny_bind (m := checkCount "sorted" 1 1 _) (wpAny_pure ?_)
  refine wpAny_bind (PySem.W.kdu_collect (A := X.A.in1) (PySem.W.kdl_dict hd) (I.ok.hd hc) hat (by omega) fun h' tk acc kp hacc => ?_)
  have hlen : acc.toList.length = vs.length := by rw [Array.length_toList]; exact hacc.1
  have hI : IntsAre acc.toList ns := by
    refine intsAre_at (by omega) fun i v hv => ?_
    obtain ⟨k, x, e1, e2⟩ := hacc.2 i v (by rw [← Array.getElem?_toList]; exact hv)
    obtain ⟨pv, hp, hp1, _⟩ : ∃ p, kvs[i]? = some p ∧ p.1 = k ∧ True := by
      have hi : i < kvs.length := by rw [hl]; exact (List.getElem?_eq_some_iff.mp e1).1
      refine ⟨kvs[i], List.getElem?_eq_getElem hi, ?_, trivial⟩
      obtain ⟨b, hb, h1, _⟩ := paired_get rel (List.getElem?_eq_getElem hi)
      rw [e1] at hb
      cases hb
      exact h1
    have hm : (kvs.map (·.1))[i]? = some k := by rw [List.getElem?_map, hp]; simp [hp1]
    rw [hk, List.getElem?_map] at hm
    cases hq : ns[i]? with
    | none => rw [hq] at hm; cases hm
    | some n =>
      rw [hq] at hm
      have hkn : (Sum.inl n : Key) = k := by simpa using hm
      subst hkn
      obtain ⟨t, e⟩ := Value.isInt_shape (k := n) (v := v) e2
      exact ⟨n, t, rfl, e⟩
  refine wpAny_bind (wpAny_newList ?_ (by rw [hlen]; omega))
  have hoL : (h'.push (seqObj "list" acc.toList.toArray 0)).get? h'.objs.size = some (seqObj "list" acc.toList.toArray 0) := Heap.get?_push_size _ rfl
  show wpAny _ _ _ _ _ { s with heap := h'.push (seqObj "list" acc.toList.toArray 0), toks := tk }
  refine wpAny_bind (wpAny_holding (wpAny_call_entry slot_list_sort ⟨_, hoL, rfl⟩ entry_list_sort (list_sort_treeAny (s := { s with heap := h'.push (seqObj "list" acc.toList.toArray 0), toks := tk }) hoL hI (by rw [hlen]; omega) fun out ns' a1 a2 a3 => ⟨_, rfl, ?_⟩) (args_list_sort _)))
  refine wpAny_pure ⟨_, rfl, ?_⟩
  obtain ⟨e, he⟩ := sortedHeap_at (out := out) hoL
  have hp : s.heap.get? h'.objs.size = none := by
    cases w : s.heap.get? h'.objs.size with
    | none => rfl
    | some o => exact absurd (Heap.lt_size (kp _ o w)) (Nat.lt_irrefl _)
  have kept : ∀ b u, s.heap.get? b = some u → (sortedHeap (h'.push (seqObj "list" acc.toList.toArray 0)) h'.objs.size acc.toList out).get? b = some u := fun b u w => by
    have w1 := kp b u w
    have lt := Heap.lt_size w1
    rw [sortedHeap_old (Nat.ne_of_lt lt) (by rw [Heap.size_push]; exact Nat.lt_succ_of_lt lt)]
    exact Heap.get?_push_of_some _ w1
  have ol : (ns'.map V.int).length ≤ sizeLine := by
    rw [List.length_map, a2.length_eq]
    omega
  have he' : (sortedHeap (h'.push (seqObj "list" acc.toList.toArray 0)) h'.objs.size acc.toList out).get? h'.objs.size = some { cls := .type "list", data := .seq out.toList.toArray e } := by simpa [seqObj] using he
  obtain ⟨hn0, I2⟩ := I.laidN (t' := tk) kept hp (show ObjOk X.prog X.w (upd H h'.objs.size (.lst (ns'.map V.int))) _ _ (.lst (ns'.map V.int)) from ⟨ol, out.toList, e, vals_ints a1, he'⟩)
  exact ⟨.ref h'.objs.size, _, I2, rfl, q _ ns' hn0 a2 a3⟩
end
def lt2 (a b : Int × Int) : Bool := decide (a.1 < b.1) || (decide (a.1 = b.1) && decide (a.2 < b.2))
theorem lex2 (a b : Int × Int) : HT.lexLt [a.1, a.2] [b.1, b.2] = lt2 a b := by
  unfold lt2
  rw [HT.lexLt_cons, HT.lexLt_cons, HT.lexLt_nil_nil]
  by_cases h1 : a.1 = b.1
  · rw [if_pos h1]
    by_cases h2 : a.2 = b.2
    · rw [if_pos h2]
      simp [h1, h2]
    · rw [if_neg h2]
      simp [h1]
  · rw [if_neg h1]
    simp [h1]
theorem best2 {bt : Nat → Nat → Bool} (f : Nat → Int × Int) (hb : ∀ i j, bt i j = lt2 (f i) (f j)) : ∀ k, argBest bt k ≤ k ∧ ∀ j, j ≤ k → lt2 (f j) (f (argBest bt k)) = false
  | 0 => ⟨Nat.le_refl _, fun j hj => by
      obtain rfl : j = 0 := by omega
      simp [argBest, lt2]⟩
  | k + 1 => by
    obtain ⟨h1, h2⟩ := best2 f hb k
    unfold argBest
    by_cases q : bt (k + 1) (argBest bt k) = true
    · rw [if_pos q]
      refine ⟨Nat.le_refl _, fun j hj => ?_⟩
      rw [hb] at q
      by_cases hj' : j = k + 1
      · subst hj'
        simp [lt2]
      · have h3 := h2 j (by omega)
        revert q h3
        generalize f j = a
        generalize f (k + 1) = b
        generalize f (argBest bt k) = c
        unfold lt2
        simp only [Bool.or_eq_true, Bool.and_eq_true, decide_eq_true_eq, Bool.or_eq_false_iff, Bool.and_eq_false_iff, decide_eq_false_iff_not]
        intro q h3
        constructor
        · omega
        · by_cases z : a.1 = b.1
          · right; omega
          · left; exact z
    · rw [if_neg q]
      refine ⟨by omega, fun j hj => ?_⟩
      by_cases hj' : j = k + 1
      · subst hj'
        have : bt (k + 1) (argBest bt k) = false := by simpa using q
        rw [hb] at this
        exact this
      · exact h2 j (by omega)
section
variable {prog : Program} {w : World} {A : Around} {R : Result → Shared → Prop} {I : Addr} {fp wr : List Addr} {n : Nat} {P : Nat → Value → Prop} {St : Nat → Heap → Prop} {J : Heap → Prop}
theorem min_loopJ (W : Walks prog w A.in1 I fp wr n P St) (bt : Nat → Nat → Bool) (S : Addr) (hSf : S ∉ fp) (hJ : ∀ h h', J h → (∀ b o, b ∉ wr → b ≠ S → h.get? b = some o → h'.get? b = some o) → J h')
    (hcmp : ∀ i j vi vj (s : Shared) (Q : Value → Shared → Prop) (E : Value → Shared → Prop), J s.heap → P i vi → P j vj → Q (.bool (bt i j)) s → wpAny (model prog w) A.in1 (richCompare .Lt vi vj) Q E s) :
    ∀ (k j : Nat) (s : Shared) (vb : Value) (c : Nat), n - (j + 1) = k → j + 1 ≤ n → St (j + 1) s.heap → J s.heap → P (argBest bt j) vb →
    s.heap.get? S = some { cls := .type "list", dict := none, data := .seq #[vb, vb] c, slots := #[] } →
    (∀ v h' tk, P (argBest bt (n - 1)) v → (∀ b o, b ∉ wr → b ≠ S → s.heap.get? b = some o → h'.get? b = some o) → R (.ok (.ret v)) { s with heap := h', toks := tk }) →
    codeAny (model prog w) A (.builtin "min.loop" ⟨[.ref I, .none, .ref S], []⟩) R s := by
  have nw : S ∉ wr := fun h => hSf (W.sub _ h)
  have nm : (toString "min" ++ toString ".loop" : String) = "min.loop" := by decide
  intro k
  induction k with
  | zero =>
    intro j s vb c hk hj hst hj0 hPb hS hR
    have hin : j + 1 = n := by omega
    refine codeAny_builtin F.entry_min_loop ?_
    rw [Around.under_plainId F.plain_min_loop _]
    show wpAny _ A.in1 (seqItems? (.ref S) >>= _) _ _ _
    refine wpAny_bind (wpAny_seqItems hS rfl ?_)
    show wpAny _ A.in1 (tryCatch (pyNext (.ref I)) _ >>= _) _ _ _
    refine wpAny_bind (wpAny_tryCatch (W.done s _ _ (hin ▸ hst) fun h' tk kp => ?_))
    have hS' := kp S _ nw hS
    show wpAny _ A.in1 (updateSeq S (fun _ => #[]) >>= _) _ _ _
    refine wpAny_bind ?_
    refine wpAny_updateSeq hS' rfl (wpAny_bind (wpAny_letGo (wpAny_pure ?_)))
    exact hR vb _ tk (by rw [← hin]; exact hPb) fun b o hb1 hb2 e => (Heap.get?_update_other _ _ (Ne.symm hb2)).trans (kp b o hb1 e)
  | succ k ih =>
    intro j s vb c hk hj hst hj0 hPb hS hR
    have lt : j + 1 < n := by omega
    refine codeAny_builtin F.entry_min_loop ?_
    rw [Around.under_plainId F.plain_min_loop _]
    show wpAny _ A.in1 (seqItems? (.ref S) >>= _) _ _ _
    refine wpAny_bind (wpAny_seqItems hS rfl ?_)
    show wpAny _ A.in1 (tryCatch (pyNext (.ref I)) _ >>= _) _ _ _
    refine wpAny_bind (wpAny_tryCatch (W.item (j + 1) s _ _ lt hst fun v h' tk hP hst' kp => ?_))
    have hS' := kp S _ nw hS
    have j1 : J h' := hJ _ _ hj0 fun b o z1 _ e => kp b o z1 e
    show wpAny _ A.in1 (tryCatch (holding [v, v] (richCompare .Lt v vb >>= _)) _ >>= _) _ _ _
    refine wpAny_bind (wpAny_tryCatch (wpAny_holding (wpAny_bind (hcmp (j + 1) (argBest bt j) v vb _ _ _ j1 hP hPb ?_))))
    refine wpAny_bind (wpAny_holding (wpAny_truthy_bool ?_))
    refine wpAny_bind (wpAny_letGo (wpAny_pure ?_))
    cases hb : bt (j + 1) (argBest bt j) with
    | true =>
      simp only [if_true]
      refine wpAny_bind ?_
      refine wpAny_updateSeq hS' rfl (wpAny_bind (wpAny_letGo ?_))
      rw [nm]
      refine wpAny_pure ⟨plainId_quiet F.plain_min_loop _, ih (j + 1) _ v _ (by omega) lt (W.frame _ _ _ hst' fun b hbf o e => ?_) (hJ _ _ j1 fun b o _ z2 e => (Heap.get?_update_other _ _ (Ne.symm z2)).trans e)
        (by simp only [argBest, hb, if_true]; exact hP) (Heap.get?_update_self _ hS' rfl) fun v' h'' tk'' hP' kp'' => ?_⟩
      · exact (Heap.get?_update_other _ _ (fun h : S = b => hSf (by rw [h]; exact hbf))).trans e
      · exact hR v' h'' tk'' hP' fun b o z1 z2 e => kp'' b o z1 z2 ((Heap.get?_update_other _ _ (Ne.symm z2)).trans (kp b o z1 e))
    | false =>
      simp only [Bool.false_eq_true, if_false]
      refine wpAny_bind (wpAny_letGo ?_)
      rw [nm]
      refine wpAny_pure ⟨plainId_quiet F.plain_min_loop _, ih (j + 1) _ vb c (by omega) lt hst' j1 (by simp only [argBest, hb, Bool.false_eq_true, if_false]; exact hPb) hS' fun v' h'' tk'' hP' kp'' => ?_⟩
      exact hR v' h'' tk'' hP' fun b o z1 z2 e => kp'' b o z1 z2 (kp b o z1 e)
end
section
variable {X : Cx}
theorem call_min2L (hc : X.calm = true) (hu : X.A.units + 16 < cLine) : CallR X (.builtin "min") (fun xs H Q => ∃ (a : Addr) (ts : List Addr) (ps : List (Int × Int)), xs = [V.ref a] ∧ H a = some (.lst (ts.map V.ref)) ∧ ps ≠ [] ∧
    Paired (fun (t : Addr) (p : Int × Int) => H t = some (.tup [.int p.1, .int p.2])) ts ps ∧
    ∀ (t : Addr) (p : Int × Int), p ∈ ps → H t = some (.tup [.int p.1, .int p.2]) → (∀ q ∈ ps, lt2 q p = false) → Q (.ref t) H) := by
  intro pins s σ H xs us Q I r h
  obtain ⟨a, ts, ps, rfl, ha, hne, pr, q⟩ := h
  obtain ⟨u, rfl, ru⟩ := vals1 r
  cases ru
  have hh := I.ok.hd hc
  obtain ⟨its, rv, pl, hz⟩ := I.list (SqL.of ha)
  have hl := pl.isList
  have hlt : a < s.heap.objs.size := by obtain ⟨_, e, _⟩ := hl; exact Heap.lt_size e
  have eits : its = ts.map Value.ref := by
    clear hl pl pr q hne ha hz
    induction ts generalizing its with
    | nil => rw [List.map_nil] at rv; cases rv; rfl
    | cons t r ih =>
      rw [List.map_cons] at rv
      cases rv with
      | cons x y => rw [List.map_cons, ih _ y]; cases x; rfl
  have hlen : its.length = ps.length := by rw [eits, List.length_map]; exact Paired.length pr
  have hn : 0 < its.toArray.size := by
    rw [List.size_toArray, hlen]
    exact List.length_pos_iff.mpr hne
  let J : Heap → Prop := fun h => ∀ (i : Nat) (t : Addr) (p : Int × Int), ts[i]? = some t → ps[i]? = some p → ∃ vs, IntsAre vs [p.1, p.2] ∧ IsTup h t vs.toArray
  have j0 : J s.heap := fun i t p e1 e2 => by
    obtain ⟨p', e3, hH⟩ := paired_get pr e1
    rw [e2] at e3
    cases e3
    obtain ⟨_, vs, rv, tp⟩ := (show ObjOk X.prog X.w H s.heap t (.tup [.int p.1, .int p.2]) from I.hok t _ hH)
    exact ⟨vs, intsAre_of (ns := [p.1, p.2]) rv, tp⟩
  have nm : (toString "min" ++ toString ".loop" : String) = "min.loop" := by decide
  refine call_function_tree F.kind_min F.plain_min F.entry_min (F.args_min1 _) ?_
  show wpAny _ X.A.in1 (Builtin.Builtins.bindParams "min" ["key", "default"] 0 ⟨[], []⟩ >>= _) _ _ _
  refine wpAny_bind (wpAny_of_eq (show Builtin.Builtins.bindParams "min" ["key", "default"] 0 ⟨[], []⟩ = pure [none, none] from rfl) ?_)
  refine wpAny_bind (wpAny_pure ?_)
  refine wpAny_bind (wpAny_pyIter_list hl ?_)
  generalize hs2 : ({ s with heap := s.heap.push { cls := .type "list_iterator", data := .fields #[.ref a, .int 0 0] } } : Shared) = s2
  have k2 : ∀ b o, s.heap.get? b = some o → s2.heap.get? b = some o := fun b o e => by rw [← hs2]; exact Heap.get?_push_of_some _ e
  have z2 : s2.heap.objs.size = s.heap.objs.size + 1 := by rw [← hs2]; exact Heap.size_push _ _
  have st2 : s2.heap.IsListIter s.heap.objs.size a 0 ∧ s2.heap.IsList a its.toArray := by
    rw [← hs2]
    exact ⟨⟨_, Heap.get?_push_size _ rfl, rfl, rfl⟩, hl.push _⟩
  refine wpAny_bind (wpAny_newObj_type ?_)
  have W : Walks X.prog X.w X.A.in1 s.heap.objs.size [s.heap.objs.size, a] [s.heap.objs.size] its.toArray.size _ _ := Walks.list (prog := X.prog) (w := X.w) (A := X.A.in1) hh s.heap.objs.size a (Nat.ne_of_lt hlt) its.toArray
  have hSf : s2.heap.objs.size ∉ [s.heap.objs.size, a] := by
    simp only [List.mem_cons, List.not_mem_nil, or_false, not_or]
    rw [z2]
    exact ⟨Nat.succ_ne_self _, Nat.ne_of_gt (Nat.lt_succ_of_lt hlt)⟩
  rw [nm]
  have hJ : ∀ h h', J h → (∀ b o, b ∉ [s.heap.objs.size] → b ≠ s2.heap.objs.size → h.get? b = some o → h'.get? b = some o) → J h' := fun h h' jh kp i t p e1 e2 => by
    obtain ⟨vs, iv, ob, eo, r⟩ := jh i t p e1 e2
    have tl : t < s.heap.objs.size := by
      obtain ⟨_, _, tp⟩ := j0 i t p e1 e2
      exact tp.lt
    exact ⟨vs, iv, ob, kp t ob (by simpa using Nat.ne_of_lt tl) (by rw [z2]; exact Nat.ne_of_lt (Nat.lt_succ_of_lt tl)) eo, r⟩
  have psl : ps.length = ts.length := (Paired.length pr).symm
  have hcmp : ∀ i j vi vj (s' : Shared) (Q' : Value → Shared → Prop) (E' : Value → Shared → Prop), J s'.heap → its.toArray[i]? = some vi → its.toArray[j]? = some vj → Q' (.bool (lt2 (ps.getD i (0, 0)) (ps.getD j (0, 0)))) s' → wpAny (model X.prog X.w) X.A.in1 (richCompare .Lt vi vj) Q' E' s' := by
    intro i j vi vj s' Q' E' jh hi hj hq
    have get : ∀ (i : Nat) (v : Value), its.toArray[i]? = some v → ∃ t p, v = .ref t ∧ ts[i]? = some t ∧ ps[i]? = some p := fun i v hv => by
      have hv' : its[i]? = some v := by simpa using hv
      rw [eits, List.getElem?_map] at hv'
      cases ht : ts[i]? with
      | none => rw [ht] at hv'; cases hv'
      | some t =>
        rw [ht] at hv'
        have hi : i < ps.length := by rw [psl]; exact (List.getElem?_eq_some_iff.mp ht).1
        exact ⟨t, ps[i], (by simpa using hv'.symm), rfl, List.getElem?_eq_getElem hi⟩
    obtain ⟨t1, p1, rfl, a1, b1⟩ := get i vi hi
    obtain ⟨t2, p2, rfl, a2, b2⟩ := get j vj hj
    obtain ⟨v1, i1, tp1⟩ := jh i t1 p1 a1 b1
    obtain ⟨v2, i2, tp2⟩ := jh j t2 p2 a2 b2
    have g1 : ps.getD i (0, 0) = p1 := by simp [List.getD, b1]
    have g2 : ps.getD j (0, 0) = p2 := by simp [List.getD, b2]
    rw [g1, g2, ← lex2] at hq
    exact HT.lt_tupInts (A := X.A.in1) tp1 tp2 (by simpa using i1) (by simpa using i2) (by show X.A.units + 1 < cLine; omega) hq
  have j2 : J (s2.heap.push { cls := .type "list", data := .seq ([] : List Value).toArray }) := fun i t p e1 e2 => by
    obtain ⟨vs, iv, ob, eo, r⟩ := j0 i t p e1 e2
    exact ⟨vs, iv, ob, Heap.get?_push_of_some _ (k2 t ob eo), r⟩
  have hS3 : (s2.heap.push { cls := .type "list", data := .seq ([] : List Value).toArray }).get? s2.heap.objs.size = some { cls := .type "list", data := .seq ([] : List Value).toArray } := Heap.get?_push_size _ rfl
  have st3 := W.frame 0 s2.heap (s2.heap.push { cls := .type "list", data := .seq ([] : List Value).toArray }) st2 fun b _ o e => Heap.get?_push_of_some _ e
  have nw : s2.heap.objs.size ∉ [s.heap.objs.size] := by simpa using (Nat.ne_of_gt (by rw [z2]; exact Nat.lt_succ_self _))
  refine wpAny_pure ⟨plainId_quiet F.plain_min_loop _, codeAny_builtin F.entry_min_loop ?_⟩
  rw [Around.under_plainId F.plain_min_loop _]
  show wpAny _ X.A.in1 (seqItems? (.ref s2.heap.objs.size) >>= _) _ _ { s2 with heap := s2.heap.push { cls := .type "list", data := .seq ([] : List Value).toArray } }
  refine wpAny_bind (wpAny_seqItems hS3 rfl ?_)
  show wpAny _ X.A.in1 (tryCatch (pyNext (.ref s.heap.objs.size)) _ >>= _) _ _ _
  refine wpAny_bind (wpAny_tryCatch (W.item 0 _ _ _ hn st3 fun v h' tk hP hst' kp => ?_))
  have hS4 := kp s2.heap.objs.size _ nw hS3
  show wpAny _ X.A.in1 (updateSeq s2.heap.objs.size (fun _ => #[v, v]) >>= _) _ _ _
  refine wpAny_bind ?_
  refine wpAny_updateSeq hS4 rfl ?_
  rw [nm]
  have j4 : J h' := hJ _ _ j2 fun b o z1 _ e => kp b o z1 e
  refine wpAny_pure ⟨plainId_quiet F.plain_min_loop _, min_loopJ W (fun i j => lt2 (ps.getD i (0, 0)) (ps.getD j (0, 0))) s2.heap.objs.size hSf hJ hcmp _ 0 _ v _ rfl hn (W.frame _ _ _ hst' fun b hbf o e => ?_)
    (hJ _ _ j4 fun b o _ z2 e => (Heap.get?_update_other _ _ (Ne.symm z2)).trans e) hP (Heap.get?_update_self _ hS4 rfl) fun v' h'' tk'' hP' kp'' => ?_⟩
  · exact (Heap.get?_update_other _ _ (fun h : s2.heap.objs.size = b => hSf (by rw [h]; exact hbf))).trans e
  · obtain ⟨b1, b2⟩ := best2 (bt := fun i j => lt2 (ps.getD i (0, 0)) (ps.getD j (0, 0))) (fun i => ps.getD i (0, 0)) (fun _ _ => rfl) (its.toArray.size - 1)
    generalize argBest (fun i j => lt2 (ps.getD i (0, 0)) (ps.getD j (0, 0))) (its.toArray.size - 1) = m at hP' b1 b2
    have hP2 : its[m]? = some v' := by simpa using hP'
    rw [eits, List.getElem?_map] at hP2
    cases ht : ts[m]? with
    | none => rw [ht] at hP2; cases hP2
    | some t =>
      rw [ht] at hP2
      obtain rfl : Value.ref t = v' := by simpa using hP2
      obtain ⟨p, hp, hH⟩ := paired_get pr ht
      have old : ∀ b o, s.heap.get? b = some o → h''.get? b = some o := fun b o e => by
        have lt := Heap.lt_size e
        have n1 : b ∉ [s.heap.objs.size] := by simpa using Nat.ne_of_lt lt
        have n2 : b ≠ s2.heap.objs.size := by rw [z2]; exact Nat.ne_of_lt (Nat.lt_succ_of_lt lt)
        refine kp'' b o n1 n2 ?_
        exact (Heap.get?_update_other _ _ (Ne.symm n2)).trans (kp b o n1 (Heap.get?_push_of_some _ (k2 b o e)))
      have hfin : Inv X pins σ H { s with heap := h'', toks := tk'' } := I.kept old
      have es2 : ({ s2 with heap := h'', toks := tk'' } : Shared) = { s with heap := h'', toks := tk'' } := by rw [← hs2]
      refine ⟨.ref t, H, ?_, rfl, q t p (List.mem_of_getElem? hp) hH fun y hy => ?_⟩
      · rw [← es2] at hfin
        exact hfin
      · obtain ⟨j, hj⟩ := List.mem_iff_getElem?.mp hy
        have hjl : j < ps.length := (List.getElem?_eq_some_iff.mp hj).1
        have := b2 j (by rw [List.size_toArray, hlen]; omega)
        simpa [List.getD, hj, hp] using this
end
end L2
namespace L2
open PySem PySem.Spec PyProof.Rows
def ItiT (d : Addr) (o : Obj) (kvs : List (NK × V)) : It :=
  ⟨fun i H => H d = some (.frz o (.dT kvs)) ∧ i < kvs.length, fun i H x H' => ∃ T k v q, kvs[i]? = some (k, v) ∧ x = .ref T ∧ H T = none ∧ NTup H q k ∧ H' = upd H T (.tup [.ref q, v]), fun i H => H d = some (.frz o (.dT kvs)) ∧ kvs.length ≤ i⟩
section
variable {P : Program} {w : World} {K : PySem.W.Frag} {tg : Expr} {d : Addr} {o : Obj} {es : Array DictEntry} {ep : Nat}
theorem turn_itemsT {kvs : List (NK × V)} {elts : List Expr} {kk : Nat} {tpos : Pos} (it : Addr) (hod : o.data = .dict es ep) :
    Turn P w K (.Tuple elts kk tpos) (ItiT d o kvs) [it] it (fun i h => ∃ ok ov, IsItemIter h it d i kvs.length ep ok ov) where
  mem := by simp
  obj := fun i h st b hb => by
    have e : b = it := by simpa using hb
    subst e
    obtain ⟨ok, ov, e⟩ := st
    exact ⟨_, e, fun v z => nomatch z⟩
  keep := fun i h h' st k => let ⟨ok, ov, e⟩ := st; ⟨ok, ov, k it (by simp) _ e⟩
  item := by
    intro X hP hw hK hc i pins s σ H E I hf st hg
    subst hP hw hK
    obtain ⟨hd, hi⟩ := hg
    obtain ⟨hs, hgd, hx, es', ep', hdt, hsz, ent⟩ := I.frzT hd
    obtain ⟨rfl, rfl⟩ := dict_ep hod hdt
    obtain ⟨⟨k, v⟩, hkv⟩ : ∃ p, kvs[i]? = some p := ⟨kvs[i], List.getElem?_eq_getElem hi⟩
    obtain ⟨en, q, hen, hkey, hq, rv⟩ := ent i k v hkv
    obtain ⟨ok, ov, he⟩ := st
    rw [← hsz] at he
    have hlt : it < s.heap.objs.size := Heap.lt_size he
    refine nextD_item he hgd hdt hen fun h' ho hT hz hk => ?_
    refine ⟨_, rfl, wpAny_letOwnedTupleGo_items (s := { s with heap := h' }) ho fun h'' he' sb => ?_⟩
    have hT2 : h''.get? s.heap.objs.size = some { cls := .type "tuple", data := .seq #[en.key, en.val] } := (sb.2 _ (Nat.ne_of_gt hlt)).trans hT
    have new : ObjOk X.prog X.w (upd H s.heap.objs.size (.tup [.ref q, v])) h'' s.heap.objs.size (.tup [.ref q, v]) :=
      ⟨by show 2 ≤ sizeLine; decide, [en.key, en.val], .cons hkey (.cons rv .nil), ⟨_, hT2, rfl, _, rfl⟩⟩
    have I1 : Inv X pins σ (upd H s.heap.objs.size (.tup [.ref q, v])) { s with heap := h'' } :=
      I.turnedNew (t' := s.toks) (ch := [it]) (fun b ob hb e => (sb.2 b (by simpa using hb)).trans (hk b ob (by simpa using hb) e)) hf (Nat.le_refl _) new
    refine ⟨.ref s.heap.objs.size, _, I1, rfl, ⟨_, k, v, q, hkv, rfl, I.hok.fresh (Nat.le_refl _), hq, rfl⟩, ⟨en.key, en.val, ?_⟩, fun b hb => ?_⟩
    · rw [← hsz]; exact he'
    · have e : b = it := by simpa using hb
      rw [e, upd_ne (Nat.ne_of_lt hlt)]
      exact (hf it (by simp)).1
  done := by
    intro X hP hw hK hc i pins s σ H E I hf st hg
    subst hP hw hK
    obtain ⟨hd, hi⟩ := hg
    obtain ⟨f0, f1, f2, f3, f4, f5⟩ := hf it (by simp)
    obtain ⟨hs, hgd, hx, es', ep', hdt, hsz, ent⟩ := I.frzT hd
    obtain ⟨rfl, rfl⟩ := dict_ep hod hdt
    obtain ⟨ok, ov, he⟩ := st
    rw [← hsz] at he
    exact nextD_end (I.ok.hd hc) he hgd hdt (by omega) fun h' eb => ⟨rfl, I.turned (t' := s.toks) (fun b ob hb e => eb b ob hb e) f0 f1 f3 f4 f5⟩
  self := fun A i s Q E st h => let ⟨_, _, e⟩ := st; PySem.W.kcp_self e h
end
def iItemsT (td : TE) : TI := fun σ H R => td σ H fun x H1 => ∃ d o kvs, x = .ref d ∧ H1 d = some (.frz o (.dT kvs)) ∧ R (ItiT d o kvs) H1
section
variable {X : Cx} {tg e : Expr} {td : TE} {apos cpos : Pos}
theorem pi_itemsT {elts : List Expr} {kk : Nat} {tpos : Pos} (he : PE X e td) (hbase : attributeBase e "items" X.env (eval e X.env) = eval e X.env := by rfl) (hline : (apos.endLine == cpos.line) = true := by rfl) :
    PI X (.Tuple elts kk tpos) (.Call (.Attribute e "items" apos) [] [] cpos) (iItemsT td) := by
  intro pins s σ H R I h
  refine wpAny_Call_method (T := "dict") (id := "dict.items") hbase rfl hline F.plainAttrs_dict F.slot_dict_items F.type_dict_items (thn (he pins s σ H _ I h) fun u s1 ⟨x, H1, I1, rx, d, o, kvs, ex, hd, q⟩ => ?_)
  subst ex
  obtain rfl : u = Value.ref d := rx
  obtain ⟨hs, hgd, hx, es, ep, hdt, hsz, ent⟩ := I1.frzT hd
  obtain ⟨t1, t2, _⟩ := isD_at I1 (.inr ⟨kvs, .inr ⟨o, hd⟩⟩)
  refine ⟨t1, t2, ?_⟩
  have I2 : Inv X pins σ H1 { s1 with heap := s1.heap.push { cls := .type "dict_items", data := .fields #[.ref d] } } := I1.kept (t' := s1.toks) fun b ob q => Heap.get?_push_of_some _ q
  have fin : wpAny (model X.prog X.w) X.A (pyIter (.ref s1.heap.objs.size)) (PIE X pins σ (.Tuple elts kk tpos) R) X.xe { s1 with heap := s1.heap.push { cls := .type "dict_items", data := .fields #[.ref d] } } := by
    refine iterD_items (d := d) (v := s1.heap.objs.size) ⟨_, Heap.get?_push_size _ rfl, rfl, rfl⟩ (Heap.get?_push_of_some _ hgd) hdt (pi_one (tk := s1.toks) I2 _ (turn_itemsT _ hdt) ⟨.none, .none, ?_⟩ q)
    rw [← hsz]
    exact Heap.get?_push_size _ rfl
  show wpAny _ _ (callWith cpos (.builtin "dict.items") [.ref d] [] []) _ X.xe s1
  exact method_meetsIn F.slot_dict_items F.entry_dict_items rfl (PySem.evalArgs_none ⟨rfl, t1, F.args_dict_items_1 _, _, meetsD_items d hs, t1, fin⟩)
end
theorem for_itemsT {d : Addr} {o : Obj} {kvs : List (NK × V)} {g : TG} {tb : TS} {D : Ends} {σ : St} {H : Hp} (Pv : Nat → St → Hp → Prop) (h0 : Pv 0 σ H) (hl : ∀ i σ H, i ≤ kvs.length → Pv i σ H → H d = some (.frz o (.dT kvs)))
    (hs : ∀ i k v q T σ H, kvs[i]? = some (k, v) → Pv i σ H → H T = none → NTup H q k → g (.ref T) σ (upd H T (.tup [.ref q, v])) fun σ2 H2 => tb { D with nx := Pv (i + 1), ct := Pv (i + 1), bk := D.nx } σ2 H2) (hd : ∀ σ H, Pv kvs.length σ H → D.nx σ H) :
    ∃ W : Nat → Nat → St → Hp → Prop, (∃ m, W 0 m σ H) ∧ ∀ i m σ H, W i m σ H →
      ((ItiT d o kvs).stop i H ∧ D.nx σ H) ∨ ((ItiT d o kvs).go i H ∧ ∃ N : St → Hp → Prop, (∀ σ' H', N σ' H' → ∃ m', m' < m ∧ W (i + 1) m' σ' H') ∧ ∀ x H', (ItiT d o kvs).yld i H x H' → g x σ H' fun σ2 H2 => tb { D with nx := N, ct := N, bk := D.nx } σ2 H2) := by
  refine ⟨fun i m σ H => m = kvs.length - i ∧ i ≤ kvs.length ∧ Pv i σ H, ⟨kvs.length, by simp, Nat.zero_le _, h0⟩, ?_⟩
  rintro i m σ H ⟨rfl, hi, p⟩
  have q := hl i σ H hi p
  by_cases hlt : i < kvs.length
  · refine .inr ⟨⟨q, hlt⟩, Pv (i + 1), fun σ' H' p' => ⟨kvs.length - (i + 1), by omega, rfl, hlt, p'⟩, fun x H' y => ?_⟩
    obtain ⟨T, k, v, r, e1, e2, e3, e4, e5⟩ := y
    subst e2 e5
    exact hs i k v r T σ H e1 p e3 e4
  · have e : i = kvs.length := by omega
    subst e
    exact .inl ⟨⟨q, Nat.le_refl _⟩, hd σ H p⟩
theorem lc_items {d : Addr} {o : Obj} {kvs : List (Key × V)} {g : TG} {tt : TT} {te : TE} {vs : List Nat} {σ : St} {H1 : Hp} {D : Addr} {Qd : Hp → Prop} (Pv : Nat → Hp → Prop) (h0 : Pv 0 (upd H1 D (.lst []))) (hl : ∀ i H, i ≤ kvs.length → Pv i H → H d = some (.frz o (.dK kvs)))
    (hs : ∀ i k v T H, kvs[i]? = some (k, v) → Pv i H → H T = none → g (.ref T) (wipe σ vs) (upd H T (.tup [kV k, v])) fun σ2 H2 => wipe σ2 vs = wipe σ vs ∧ tt σ2 H2 fun b H3 =>
      if b = true then te σ2 H3 fun y H4 => ∃ acc, H4 D = some (.lst acc) ∧ acc.length < sizeLine ∧ Pv (i + 1) (upd H4 D (.lst (acc ++ [y]))) else Pv (i + 1) H3) (hd : ∀ H, Pv kvs.length H → Qd H) :
    ∃ W : Nat → Nat → Hp → Prop, (∃ m, W 0 m (upd H1 D (.lst []))) ∧ ∀ i m H, W i m H →
      ((Iti d o kvs).stop i H ∧ Qd H) ∨ ((Iti d o kvs).go i H ∧ ∃ Nx : Hp → Prop, (∀ H', Nx H' → ∃ m', m' < m ∧ W (i + 1) m' H') ∧ ∀ v H', (Iti d o kvs).yld i H v H' → g v (wipe σ vs) H' fun σ2 H2 => wipe σ2 vs = wipe σ vs ∧ tt σ2 H2 fun b H3 =>
        if b = true then te σ2 H3 fun y H4 => ∃ acc, H4 D = some (.lst acc) ∧ acc.length < sizeLine ∧ Nx (upd H4 D (.lst (acc ++ [y]))) else Nx H3) := by
  refine ⟨fun i m H => m = kvs.length - i ∧ i ≤ kvs.length ∧ Pv i H, ⟨kvs.length, by simp, Nat.zero_le _, h0⟩, ?_⟩
  rintro i m H ⟨rfl, hi, p⟩
  have q := hl i H hi p
  by_cases hlt : i < kvs.length
  · refine .inr ⟨⟨q, hlt⟩, Pv (i + 1), fun H' p' => ⟨kvs.length - (i + 1), by omega, rfl, hlt, p'⟩, fun x H' y => ?_⟩
    obtain ⟨T, k, v, e1, e2, e3, e5⟩ := y
    subst e2 e5
    exact hs i k v T H e1 p e3
  · have e : i = kvs.length := by omega
    subst e
    exact .inl ⟨⟨q, Nat.le_refl _⟩, hd H p⟩
theorem Inv.bare0 {X : Cx} {pins : List (Addr × Obj)} {σ : St} {H : Hp} {s : Shared} (I : Inv X pins σ H s) : Inv X [] σ H s := ⟨I.ok, I.os, I.bare, I.base, I.loc, I.cell, I.free, I.freeC, fun p hp => I.pin p (by rw [List.append_nil] at hp; exact List.mem_append_left _ hp), I.hok, I.len⟩
def Caught (X : Cx) (E : XK) : Value → Shared → Prop := fun e s' => ∃ σ H s, Inv X [] σ H s ∧ CX1 X.prog X.w X.stack H s E e s'
theorem passC {X : Cx} {E : XK} : Passes (CX1 X.prog X.w) (X.wish (Caught X E)) E := fun pins σ H s e s' I h => ⟨σ, H, s, I.unwish.bare0, h⟩
def PS0 (X : Cx) (st : Stmt) (t : TS) : Prop := ∀ (s : Shared) (σ : St) (H : Hp) (D : Ends), Inv X [] σ H s → t D σ H → wpAny (model X.prog X.w) X.A (exec st X.env) (SP X [] D) X.xe s
def PSs0 (X : Cx) (st : List Stmt) (t : TS) : Prop := ∀ (s : Shared) (σ : St) (H : Hp) (D : Ends), Inv X [] σ H s → t D σ H → wpAny (model X.prog X.w) X.A (execs st X.env) (SP X [] D) X.xe s
section
variable {X : Cx} {st : Stmt} {rest : List Stmt} {t u : TS}
theorem pss0_cons (h1 : PS X st t) (h2 : PSs0 X rest u) : PSs0 X (st :: rest) (tSeq t u) := by
  intro s σ H D I h
  refine wpAny_execs_cons (thn (h1 [] s σ H _ I h) fun f s1 q => ?_)
  cases f with
  | next => obtain ⟨σ', H', I', q⟩ := q; exact h2 s1 σ' H' D I' q
  | brk => exact q
  | cont => exact q
  | ret v => exact q
theorem pss0_one (h1 : PS0 X st t) : PSs0 X [st] t := by
  intro s σ H D I h
  refine wpAny_execs_cons (thn (h1 s σ H _ I h) fun f s1 q => ?_)
  cases f with
  | next => exact wpAny_execs_nil q
  | brk => exact q
  | cont => exact q
  | ret v => exact q
end
abbrev Cx.suite (X : Cx) (e : Value) : Cx := { X with A := X.A.mark (some e), calm := false }
theorem Inv.suite {X : Cx} {pins : List (Addr × Obj)} {σ : St} {H : Hp} {s : Shared} (I : Inv X pins σ H s) (e : Value) : Inv (X.suite e) pins σ H s :=
  ⟨⟨I.ok.mod, I.ok.kind, I.ok.glob, I.ok.blt, I.ok.above, I.ok.inj, I.ok.has, I.ok.cab, (fun z => nomatch z), I.ok.frames, I.ok.stk, I.ok.exf, I.ok.bs, I.ok.bsz, I.ok.noex, I.ok.exfs, I.ok.funs, I.ok.frf⟩, I.os, I.bare, I.base, I.loc, I.cell, I.free, I.freeC, I.pin, I.hok, I.len⟩
theorem Inv.unsuite {X : Cx} {pins : List (Addr × Obj)} {σ : St} {H : Hp} {s : Shared} {e : Value} (ok : X.Ok) (I : Inv (X.suite e) pins σ H s) : Inv X pins σ H s := ⟨ok, I.os, I.bare, I.base, I.loc, I.cell, I.free, I.freeC, I.pin, I.hok, I.len⟩
theorem SP.unsuite {X : Cx} {pins : List (Addr × Obj)} {D : Ends} {f : Flow} {s' : Shared} {e : Value} (ok : X.Ok) (h : SP (X.suite e) pins D f s') : SP X pins D f s' := by
  cases f with
  | next => obtain ⟨σ', H', I, q⟩ := h; exact ⟨σ', H', I.unsuite ok, q⟩
  | brk => obtain ⟨σ', H', I, q⟩ := h; exact ⟨σ', H', I.unsuite ok, q⟩
  | cont => obtain ⟨σ', H', I, q⟩ := h; exact ⟨σ', H', I.unsuite ok, q⟩
  | ret u => obtain ⟨v, σ', H', I, r, q⟩ := h; exact ⟨v, σ', H', I.unsuite ok, r, q⟩
inductive Hands (X : Cx) (C : Addr) (t : TS) : List ExceptHandler → Prop
  | here {x : Str} {np pos : Pos} {b : Stmt} {bs : List Stmt} {rest : List ExceptHandler} {D : Addr} (hg : Gl X x) (hm : X.mg x = some (.ref D)) (hx : PySem.W.exmOne X.K (.ref C) (.ref D) = some true) (hd : (x == ("__debug__" : Str)) = false) (hs : ∀ e, PSs (X.suite e).nox (b :: bs) t) :
      Hands X C t (.ExceptHandler (some (.Name x np)) none (b :: bs) pos :: rest)
  | there {x : Str} {np pos : Pos} {b : Stmt} {bs : List Stmt} {rest : List ExceptHandler} {D : Addr} (hg : Gl X x) (hm : X.mg x = some (.ref D)) (hx : PySem.W.exmOne X.K (.ref C) (.ref D) = some false) (hd : (x == ("__debug__" : Str)) = false) (h : Hands X C t rest) :
      Hands X C t (.ExceptHandler (some (.Name x np)) none (b :: bs) pos :: rest)
theorem lies {X : Cx} {σ : St} {H : Hp} {s s' : Shared} {E : XK} {e : Value} (I : Inv X [] σ H s) (hex : X.ex = []) (hst : X.stack = X.env :: X.outer) (hc : CX1 X.prog X.w X.stack H s E e s') :
    ∃ (x C : Addr) (H' : Hp) (B : Heap) (a0 : Value), e = .ref x ∧ E (.ref C) none H' ∧ Inv X [] σ H' s' ∧ Heap.FlyingW B X.stack x (.ref C) a0 s'.heap ∧
      ∀ h', B.StaysIn h' → s'.heap.UpToSlots h' → X.pn = [] → Inv X [] σ H' { s' with heap := h' } := by
  obtain ⟨x, T, C, H', rfl, os, bare, un, hok, fl, nx, nT, hx, hT, hE⟩ := hc
  have J := I.call' (ch := []) os un hok bare (fun b hb => absurd hb (by simp))
  have fresh : ∀ b, s.heap.get? b = none → X.s₀.heap.get? b = none := fun b hb => by
    cases q : X.s₀.heap.get? b with
    | none => rfl
    | some o =>
      obtain ⟨o', e⟩ := I.base.there b o q (by rw [hex]; simp)
      rw [hb] at e
      cases e
  have hl := J.hid [x, T]
  have nB : ∀ b ∈ [x, T], (PySem.W.hideAll s'.heap ([x, T] ++ frs X.stack)).get? b = none := fun b hb => PySem.W.hideAll_none _ (List.mem_append_left _ hb)
  obtain ⟨a0, tr⟩ := fl.traced (nB T (by simp))
  refine ⟨x, C, H', _, a0, rfl, hE, J, ⟨fun b o q => PySem.W.of_hideAll _ q, nB x (by simp), hl, tr⟩, fun h' k1 sm hpn => ?_⟩
  refine J.goes (bad := [x, T]) hex hpn (fun b hb => ?_) (fun b hb => ?_) (fun b o q z y => k1 b o (PySem.W.hideAll_get _ q fun m => (List.mem_append.mp m).elim y z)) fun b o q z => ?_
  · rcases List.mem_cons.mp hb with rfl | hb
    · exact ⟨fresh b nx, hx⟩
    · obtain rfl : b = T := by simpa using hb
      exact ⟨fresh b nT, hT⟩
  · rcases List.mem_cons.mp hb with rfl | hb
    · exact fl.rec1
    · obtain rfl : b = T := by simpa using hb
      exact fl.rec2
  · obtain ⟨_, o1, e1, nf⟩ := hl.mem z
    rw [q] at e1
    cases e1
    exact sm b o q nf
theorem hands_run {X : Cx} {C x : Addr} {t : TS} {hs : List ExceptHandler} {σ : St} {H : Hp} {s : Shared} {B : Heap} {a0 : Value} {D : Ends} (h : Hands X C t hs) (hfl : Heap.FlyingW B X.stack x (.ref C) a0 s.heap)
    (J : ∀ h', B.StaysIn h' → s.heap.UpToSlots h' → Inv X [] σ H { s with heap := h' }) (q : t D σ H) : wpAny (model X.prog X.w) X.A (handleBy (.ref x) X.env hs) (SP X [] D) X.xe s := by
  have I : Inv X [] σ H s := J s.heap hfl.1 (Heap.UpToSlots.refl _)
  obtain ⟨oe, heo, hec⟩ := hfl.there
  have LT : PySem.W.Looks (model X.prog X.w) s.heap (typeOf (.ref x)) (.ref C) := hec ▸ (PySem.W.Looks.ld heo).andThen .now
  induction h with
  | here hg hm hx hd hs =>
    refine wpAny_handleBy_cons (codeAny_handlers_test (ld_glob (X := X.suite (.ref x)) (I.suite _) hg hm ?_ hd)) (by intro z; cases z)
    refine (PySem.W.exm_one I.kIn LT hx).here ?_
    refine codeAny_handlers_suite (lands_againW hfl fun h6 hfl6 hsm6 => ?_)
    have I6 := J h6 hfl6.1 hsm6
    refine wpAny_mono (hs (.ref x) [] _ σ H D ((I6.suite (.ref x)).wish _) q) (fun f s2 z => SP.unsuite I.ok z.unwish) fun _ _ z => False.elim z
  | there hg hm hx hd h ih =>
    refine wpAny_handleBy_cons (codeAny_handlers_test (ld_glob (X := X.suite (.ref x)) (I.suite _) hg hm ?_ hd)) (by intro z; cases z)
    refine (PySem.W.exm_one I.kIn LT hx).here ?_
    exact ih
theorem ps0_try {X : Cx} {body : List Stmt} {h0 : ExceptHandler} {hs : List ExceptHandler} {pos : Pos} {E1 : Ends → St → XK} {t : XK → TS} (hex : X.ex = []) (hpn : X.pn = []) (hst : X.stack = X.env :: X.outer) (hfr : ∃ L, X.env.frame = some L)
    (hb : ∀ E1 : XK, PSs (X.wish (Caught X E1)) body (t E1))
    (hh : ∀ (D : Ends) (σ0 σ : St) (C : Addr) (H : Hp), E1 D σ0 (.ref C) none H → ∃ tc, Hands X C tc (h0 :: hs) ∧ tc D σ H) :
    PS0 X (.Try body (h0 :: hs) [] [] pos) (fun D σ H => t (E1 D σ) D σ H) := by
  intro s σ H D I h
  refine wpAny_Try_except (wpAny_mono (hb (E1 D σ) [] s σ H D (I.wish _) h) (fun f s1 q => ?_) fun e s1 q => ?_)
  · cases f with
    | next => exact wpAny_execs_nil q.unwish
    | brk => exact q.unwish
    | cont => exact q.unwish
    | ret v => exact q.unwish
  · obtain ⟨σ1, H1, s2, I1, hc⟩ := q
    obtain ⟨x, C, H', B, a0, rfl, hE, J, hfl, goes⟩ := lies I1 hex hst hc
    obtain ⟨tc, hd, q⟩ := hh D σ σ1 C H' hE
    obtain ⟨L, hL⟩ := hfr
    have hfl' : Heap.FlyingW B (X.env :: X.outer) x (.ref C) a0 s1.heap := by rw [← hst]; exact hfl
    refine wpAny_looks_onW (by rw [I.ok.frames, hst]) hL hfl' fun h4 hheld hsm4 => ?_
    refine wpAny_landsW hheld fun h5 hfl5 hsm5 => ?_
    have hfl5' : Heap.FlyingW B X.stack x (.ref C) a0 h5 := by rw [hst]; exact hfl5
    exact hands_run hd hfl5' (fun h' k sm => goes h' k ((hsm4.trans hsm5).trans sm) hpn) q
theorem fn_of0 {CX : CXT} {P : Program} {w : World} {K : PySem.W.Frag} {mg : Str → Option Value} {base : Heap} {k : Nat} {f : Addr} {name qual : Str} {params : Arguments} {body : List Stmt} {scope : Scope} {dV kV doc pm cdv ct oc : Value} {an od : Option Addr}
    {osl : Array (Option Value)} {N ps : List Str} {sp : Sp} (lk : K.lookup f = some ⟨oc, od, .func (PySem.W.fnOf name qual params body scope dV kV doc pm an cdv ct), osl⟩) (hcd : PySem.W.codeIn K cdv qual = true) (S : FnScope N ps scope)
    (len : ∀ vs H Q E, sp vs H Q E → vs.length = ps.length)
    (hbody : ∀ (A : Around) (outer : List Env) (s : Shared) (H : Hp) (vs : List V) (Q : VK) (E : XK), Room k (A.deeper (envOfC qual scope s.heap.objs.size f cdv)) → sp vs H Q E →
      ∃ t, PSs0 (cxOf CX P w K mg base N qual scope f cdv A outer s H E).nox body t ∧ t { nx := fun _ H' => Q .non H', rt := Q } (start N vs) H) :
    FnOk P w K mg base CX (k + 1) f (PySem.W.fnOf name qual params body scope dV kV doc pm an cdv ct) ps sp := by
  refine ⟨len, fun A outer s H args us vs Q E hr e0 hb r hsp => ?_⟩
  have hl := len _ _ _ _ hsp
  have KX : K.In s.heap := e0.mod.kin.keeps fun b o e => (e0.bs b o e).1
  have lim : s.heap.NoLimit := e0.mod.nolimit.keeps fun b o e => (e0.bs b o e).1
  have hkind : ∀ y ∈ ps.zip us, scope.names.lookup y.1 = some .local ∨ (scope.names.lookup y.1 = some .cell ∧ ((cellsFrom (s.heap.objs.size + 1) scope.names []).lookup y.1).isSome = true) := fun ⟨n, v⟩ hy => by
    rcases S.par n (List.of_mem_zip hy).1 with q | q
    · exact .inl q
    · exact .inr ⟨q, PySem.W.cellsFrom_some _ _ _ (.inl q)⟩
  refine codeAny_call_function hr.depth (KX _ _ lk) rfl S.co S.gen rfl (PySem.W.codeRec_of KX hcd) (hb _ _ _ _ ?_)
  refine wpAny_newFunctionEnv_cells S.kind hkind fun env he s1 x => ?_
  subst he
  refine ⟨lim.keeps x.toInCall.keep, codeAny_func ?_⟩
  obtain ⟨t, ht, hq⟩ := hbody A outer s H vs Q E (hr.deeper _) hsp
  have I : Inv (cxOf CX P w K mg base N qual scope f cdv A outer s H E) [] (start N vs) H s1 := inv_start S hr.hd e0 hl r x
  refine wpAny_mono (ht s1 (start N vs) H _ (I.wish _) hq) (fun fl s' hs => ?_) fun e s' hs => False.elim hs
  have hs := hs.unwish
  have fin : ∀ {σ' : St} {H' : Hp} {v : V} {u : Value}, Inv (cxOf CX P w K mg base N qual scope f cdv A outer s H E) [] σ' H' s' → RelV v u → Q v H' → CE outer P w H s Q u s' :=
    fun {σ' H' v u} J rv q => ⟨v, H', J.os, J.bare, J.base, J.hok, rv, q⟩
  cases fl with
  | ret u =>
    obtain ⟨v, σ', H', J, rv, q⟩ := hs
    exact fin J rv q
  | next =>
    obtain ⟨σ', H', J, q⟩ := hs
    exact fin (v := V.non) (u := Value.none) J rfl q
  | brk =>
    obtain ⟨_, _, _, q⟩ := hs
    exact False.elim q
  | cont =>
    obtain ⟨_, _, _, q⟩ := hs
    exact False.elim q
theorem FunD.ok00 {P : Program} {w : World} {K : PySem.W.Frag} {mg : Str → Option Value} {base : Heap} {x qual : Str} {st : Stmt} {dV : Value} {f : Addr} {fd : FuncData} {N ps : List Str} {k : Nat} {sp : Sp} (F : FunD K x qual st dV f fd) (S : FnScope N ps (defScope st)) (len : ∀ vs H Q E, sp vs H Q E → vs.length = ps.length)
    (hbody : ∀ (cdv : Value) (A : Around) (outer : List Env) (s : Shared) (H : Hp) (vs : List V) (Q : VK) (E : XK), Room k (A.deeper (envOfC qual (defScope st) s.heap.objs.size f cdv)) → sp vs H Q E →
      ∃ t, PSs0 (cxOf (CX1 P w) P w K mg base N qual (defScope st) f cdv A outer s H E).nox (defBody st) t ∧ t { nx := fun _ H' => Q .non H', rt := Q } (start N vs) H) : FnOk P w K mg base (CX1 P w) (k + 1) f fd ps sp := by
  obtain ⟨oc, od, kV, doc, pm, an, cdv, ct, osl, rfl, lk, hcd⟩ := F.ex
  exact fn_of0 lk hcd S len fun A outer s H vs Q E hr hsp => hbody cdv A outer s H vs Q E hr hsp
end L2
namespace Sr
open PySem L2 Sh
def top (i : Nat) : Stmt := PySem.Challenge.pw_shipradio_s01_answers.main.body.getD i (.Pass ⟨0, 0, 0, 0⟩)
structure Adr where
  cs : Addr
  cm : Addr
  cb : Addr
  cw : Addr
  ch : Addr
  cf : Addr
  xl : Addr
  xo : Addr
  xm : Addr
  xp : Addr
  tw : Addr
  ts : Addr
  tc : Addr
def GT (K : PySem.W.Frag) (mg : Str → Option Value) (x : Str) (a : Addr) (xs : List Str) : Prop := mg x = some (.ref a) ∧ ∀ H : Hp, SqT K H a (xs.map V.str)
structure Txt (K : PySem.W.Frag) (mg : Str → Option Value) (a : Adr) : Prop where
  len : mg "len" = none
  ord : mg "ord" = none
  str : mg "str" = none
  range : mg "range" = none
  all : mg "all" = none
  tuple : mg "tuple" = none
  list : mg "list" = none
  abs : mg "abs" = none
  max : mg "max" = none
  min : mg "min" = none
  sorted : mg "sorted" = none
  LINE_FEED : GI mg "LINE_FEED" 10
  QUOTE : GI mg "QUOTE" 34
  LONGEST_LINE : GI mg "LONGEST_LINE" 82
  FIELDS : GI mg "FIELDS" 7
  CARRIAGE_RETURN : GI mg "CARRIAGE_RETURN" 13
  COMMA : GI mg "COMMA" 44
  ZERO : GI mg "ZERO" 48
  BACK_QUOTE : GI mg "BACK_QUOTE" 96
  SIXTEEN_DIGITS : GS mg "SIXTEEN_DIGITS" "0123456789ABCDEF"
  LEAST_BITS : GI mg "LEAST_BITS" 40
  LARGEST_SHIP : GI mg "LARGEST_SHIP" 999999999
  LARGEST_X : GI mg "LARGEST_X" 108000000
  LARGEST_Y : GI mg "LARGEST_Y" 54000000
  UNKNOWN_X : GI mg "UNKNOWN_X" 108600000
  UNKNOWN_Y : GI mg "UNKNOWN_Y" 54600000
  BLANK : GI mg "BLANK" 32
  MOST_WAITING : GI mg "MOST_WAITING" 8
  LONGEST_WAIT : GI mg "LONGEST_WAIT" 60
  LINE_CALL : GI mg "LINE_CALL" 1
  MOST_BYTES : GI mg "MOST_BYTES" 1024
  LEAST_ROOM : GI mg "LEAST_ROOM" 512
  MOST_ROOM : GI mg "MOST_ROOM" 1048576
  MOST_SHIPS : GI mg "MOST_SHIPS" 256
  WORDS : GT K mg "WORDS" a.tw ["name", "call", "imo", "kind", "bow", "stern", "port", "starboard", "draught", "to", "status", "turn", "speed", "course", "heading", "x", "y", "year", "month", "day", "hour", "minute", "second"]
  SENTENCES : GT K mg "SENTENCES" a.ts ["VDM", "VDO"]
  CHANNELS : GT K mg "CHANNELS" a.tc ["", "A", "B", "1", "2"]
  xl : Exc K mg "NotALine" a.xl
  xo : Exc K mg "OtherSum" a.xo
  xm : Exc K mg "NoMessage" a.xm
  xp : Exc K mg "PartMisfit" a.xp
  cs : Cls K a.cs
  cm : Cls K a.cm
  cb : Cls K a.cb
  cw : Cls K a.cw
  ch : Cls K a.ch
  cf : Cls K a.cf
  s_key : NoAttr K a.cs "key"
  s_parts : NoAttr K a.cs "parts"
  s_which : NoAttr K a.cs "which"
  s_bits : NoAttr K a.cs "bits"
  m_bits : NoAttr K a.cm "bits"
  m_ship : NoAttr K a.cm "ship"
  m_told : NoAttr K a.cm "told"
  b_since : NoAttr K a.cb "since"
  b_parts : NoAttr K a.cb "parts"
  b_which : NoAttr K a.cb "which"
  b_bits : NoAttr K a.cb "bits"
  w_begun : NoAttr K a.cw "begun"
  h_heard : NoAttr K a.ch "heard"
  h_known : NoAttr K a.ch "known"
  f_time : NoAttr K a.cf "time"
  f_waiting : NoAttr K a.cf "waiting"
  f_ships : NoAttr K a.cf "ships"
  codes : Df K mg "codes" (top 4) ["text"]
  written_number : Df K mg "written_number" (top 5) ["number"]
  written_text : Df K mg "written_text" (top 6) ["letters"]
  ship_line : Df K mg "ship_line" (top 7) ["number", "known"]
  Sentence : Dk K mg "Sentence" a.cs "Sentence.__init__" (inClass (top 20) 0) ["self", "key", "parts", "which", "bits"]
  without_ending : Df K mg "without_ending" (top 21) ["row"]
  split_at_commas : Df K mg "split_at_commas" (top 22) ["line"]
  is_capital : Df K mg "is_capital" (top 23) ["code"]
  is_payload : Df K mg "is_payload" (top 24) ["code"]
  check_head : Df K mg "check_head" (top 25) ["field"]
  read_digit : Df K mg "read_digit" (top 26) ["field", "least", "largest"]
  check_group : Df K mg "check_group" (top 27) ["field", "parts"]
  check_channel : Df K mg "check_channel" (top 28) ["field"]
  check_payload : Df K mg "check_payload" (top 29) ["field"]
  check_tail : Df K mg "check_tail" (top 30) ["field"]
  read_sum : Df K mg "read_sum" (top 31) ["digits"]
  sum_of : Df K mg "sum_of" (top 32) ["line"]
  bits_of : Df K mg "bits_of" (top 33) ["payload", "uncounted"]
  read_sentence : Df K mg "read_sentence" (top 34) ["row"]
  Message : Dk K mg "Message" a.cm "Message.__init__" (inClass (top 44) 0) ["self", "bits"]
  unsigned : Dm K a.cm "unsigned" "Message.unsigned" (inClass (top 44) 1) ["self", "start", "width"] []
  signed : Dm K a.cm "signed" "Message.signed" (inClass (top 44) 2) ["self", "start", "width"] []
  letters : Dm K a.cm "letters" "Message.letters" (inClass (top 44) 3) ["self", "start", "length"] []
  tell : Dm K a.cm "tell" "Message.tell" (inClass (top 44) 4) ["self", "word", "number"] []
  tell_number : Dm K a.cm "tell_number" "Message.tell_number" (inClass (top 44) 5) ["self", "word", "start", "width", "unknown", "largest"] [.non]
  tell_number5 : Dm K a.cm "tell_number" "Message.tell_number" (inClass (top 44) 5) ["self", "word", "start", "width", "unknown", "largest"] []
  tell_text : Dm K a.cm "tell_text" "Message.tell_text" (inClass (top 44) 6) ["self", "word", "start", "length"] []
  check_length : Df K mg "check_length" (top 45) ["message", "lengths"]
  tell_place : Df K mg "tell_place" (top 46) ["message", "start"]
  tell_way : Df K mg "tell_way" (top 47) ["message", "speed_start", "course_start"]
  tell_sizes : Df K mg "tell_sizes" (top 48) ["message", "start"]
  tell_date : Df K mg "tell_date" (top 49) ["message", "start"]
  tell_turn : Df K mg "tell_turn" (top 50) ["message", "start"]
  tell_kinds_1_2_3 : Df K mg "tell_kinds_1_2_3" (top 51) ["message"]
  tell_kind_4 : Df K mg "tell_kind_4" (top 52) ["message"]
  tell_kind_5 : Df K mg "tell_kind_5" (top 53) ["message"]
  tell_kind_18 : Df K mg "tell_kind_18" (top 54) ["message"]
  tell_kind_24 : Df K mg "tell_kind_24" (top 55) ["message"]
  tell_by_kind : Df K mg "tell_by_kind" (top 56) ["message"]
  read_message : Df K mg "read_message" (top 57) ["bits"]
  Begun : Dk K mg "Begun" a.cb "Begun.__init__" (inClass (top 62) 0) ["self", "sentence", "time"]
  Waiting : Dk K mg "Waiting" a.cw "Waiting.__init__" (inClass (top 63) 0) ["self"]
  take : Dm K a.cw "take" "Waiting.take" (inClass (top 63) 1) ["self", "sentence", "time"] []
  forget : Dm K a.cw "forget" "Waiting.forget" (inClass (top 63) 2) ["self", "time"] []
  begin : Dm K a.cw "begin" "Waiting.begin" (inClass (top 63) 3) ["self", "sentence", "time"] []
  go_on : Dm K a.cw "go_on" "Waiting.go_on" (inClass (top 63) 4) ["self", "sentence"] []
  Ship : Dk K mg "Ship" a.ch "Ship.__init__" (inClass (top 70) 0) ["self"]
  Ships : Dk K mg "Ships" a.cf "Ships.__init__" (inClass (top 71) 0) ["self"]
  hear_line : Dm K a.cf "hear_line" "Ships.hear_line" (inClass (top 71) 1) ["self", "now", "count", "most", "row"] []
  take_line : Dm K a.cf "take_line" "Ships.take_line" (inClass (top 71) 2) ["self", "row"] []
  keep : Dm K a.cf "keep" "Ships.keep" (inClass (top 71) 3) ["self", "message"] []
  make_room : Dm K a.cf "make_room" "Ships.make_room" (inClass (top 71) 4) ["self"] []
  list_ships : Dm K a.cf "list_ships" "Ships.list_ships" (inClass (top 71) 5) ["self", "most"] []
  answers : Df K mg "answers" (top 72) ["calls"]
end Sr
namespace Sr
open PySem L2 Sh
def NewL (H : Hp) (Q : VK) (xs : List V) : Prop := ∀ p H', H p = none → Same H H' → H' p = some (.lst xs) → Q (.ref p) H'
def Ret (H : Hp) (Q : VK) (v : V) : Prop := ∀ H', Same H H' → Q v H'
def Chk (H : Hp) (Q : VK) (E : XK) (C : Addr) (ok : Prop) (v : V) : Prop := (ok → Ret H Q v) ∧ (¬ ok → ∀ H', Same H H' → E (.ref C) none H')
theorem same_upd {H : Hp} {p : Addr} {o : HO} (h : H p = none) : Same H (upd H p o) := fun b u e => by rw [upd_ne (ne_of_none e h)]; exact e
theorem same_upd' {H H1 : Hp} {p : Addr} {o : HO} (s : Same H H1) (h : H p = none) : Same H (upd H1 p o) := fun b u e => by rw [upd_ne (ne_of_none e h)]; exact s b u e
theorem new_of {H H' : Hp} {Q : VK} {xs ys : List V} {p : Addr} (k : NewL H Q xs) (e : ys = xs) (s : Same H H') (h : H' p = none) : Q (.ref p) (upd H' p (.lst ys)) := by
  subst e
  exact k p _ (s.free h) (same_upd' s (s.free h)) upd_same
theorem yes {σ : L2.St} {H : Hp} {R S : Hp → Prop} (h : R H) : tYes σ H fun b H3 => if b = true then R H3 else S H3 := (iteT (A := R H) (B := S H) h : if true = true then R H else S H)
theorem bOrd : bootBuiltins "ord" = some (.builtin "ord") := by decide +kernel
theorem bStr : bootBuiltins "str" = some (.type "str") := by decide +kernel
theorem bAll : bootBuiltins "all" = some (.builtin "all") := by decide +kernel
theorem bTup : bootBuiltins "tuple" = some (.type "tuple") := by decide +kernel
theorem bLis : bootBuiltins "list" = some (.type "list") := by decide +kernel
theorem bAbs : bootBuiltins "abs" = some (.builtin "abs") := by decide +kernel
theorem bMax : bootBuiltins "max" = some (.builtin "max") := by decide +kernel
theorem bMin : bootBuiltins "min" = some (.builtin "min") := by decide +kernel
theorem bSor : bootBuiltins "sorted" = some (.builtin "sorted") := by decide +kernel
theorem bLen : bootBuiltins "len" = some (.builtin "len") := by decide +kernel
theorem take_vI {l : List Nat} {i c : Nat} (h : l[i]? = some c) : vI (l.take i) ++ [V.int (c : Int)] = vI (l.take (i + 1)) := by
  rw [List.take_add_one, h]
  simp
theorem sl {n m : Nat} (h : n ≤ m) (hm : m ≤ 16777216 := by decide) : n ≤ sizeLine := by rw [sizeLine_eq]; omega
theorem sl' {n m : Nat} (h : n ≤ m) (hm : m < 16777216 := by decide) : n < sizeLine := by rw [sizeLine_eq]; omega
theorem tl_dec (z : Int) : TL.tl (Str.ofString (toString z)) = Sd37.decimal z := by
  rw [TL.tl_ofString]
  unfold Sd37.decimal
  cases z with
  | ofNat n =>
    have e : ¬ ((Int.ofNat n) < 0) := by simp
    rw [if_neg e]
    simp [toString, Int.repr, Nat.repr]
  | negSucc n =>
    have e : (Int.negSucc n) < 0 := Int.negSucc_lt_zero n
    rw [if_pos e]
    simp [toString, Int.repr, Nat.repr, Int.natAbs]
def spCodes : Sp := fun vs H Q _ => ∃ x : Str, vs = [.str x] ∧ (TL.tl x).length ≤ 1000 ∧ NewL H Q (vI (TL.tl x))
def spNumber : Sp := fun vs H Q _ => ∃ z : Int, vs = [.int z] ∧ z.natAbs < 2 ^ 64 ∧ NewL H Q (vI (Sd37.decimal z))
def spText : Sp := fun vs H Q _ => ∃ (p : Addr) (l : List Nat), vs = [.ref p] ∧ H p = some (.lst (vI l)) ∧ l.length ≤ 1000 ∧ NewL H Q (vI (34 :: (l ++ [34])))
section
variable {P : Program} {w : World} {K : PySem.W.Frag} {mg : Str → Option Value} {base : Heap} {a : Adr}
theorem sc4 : FnScope ["text", "letter"] ["text"] (defScope (top 4)) := ⟨rfl, rfl, rfl, by decide +kernel, rfl, by decide +kernel, by decide +kernel⟩
theorem fn_codes (T : Txt K mg a) : Fn P w K mg base "codes" 1 spCodes := T.codes.fn fun f fd F => by
  refine F.ok0 sc4 (fun vs H Q E h => ?_) (fun cdv A outer s H vs Q E hr h => ?_)
  · obtain ⟨x, rfl, _⟩ := h
    rfl
  · obtain ⟨x, rfl, hx, k⟩ := h
    refine ⟨_, pss_one (ps_ret (pe_lc (own := [("letter", 1)]) rfl sc4.nd (pi_str (pv 0)) (blkOk_by (by show blkC ["text", "letter"] (defScope (top 4)) _ _ = true; decide +kernel)) (fun s H C cl fp => pg_name (i := 1) sc4.nd rfl (Or.inl rfl)) (fun s H C cl fp => pts_nil) (fun s H C cl fp => pe_callB call_ord (by rfl) T.ord bOrd (pa_cons (pv 1) pa_nil)))), ?_⟩
    refine ⟨_, rfl, x, rfl, fun D hD => lc_str (fun i H' => Same H H' ∧ H' D = some (.lst (vI ((TL.tl x).take i)))) ⟨same_upd hD, upd_same⟩ ?_ ?_⟩
    · rintro i c H' hc ⟨h1, h2⟩
      refine ⟨rfl, yes ⟨_, rfl, _, rfl, rfl, _, h2, ?_, same_upd' h1 hD, ?_⟩⟩
      · exact small1000 (by rw [vI_len, List.length_take]; omega)
      · rw [upd_same]
        exact congrArg (fun q => some (HO.lst q)) (take_vI hc)
    · rintro H' ⟨h1, h2⟩
      exact k D H' hD h1 (by rw [h2, List.take_length])
theorem sc5 : FnScope ["number"] ["number"] (defScope (top 5)) := ⟨rfl, rfl, rfl, by decide +kernel, rfl, by decide +kernel, by decide +kernel⟩
theorem dec_len20 {z : Int} (h : z.natAbs < 2 ^ 64) : (Sd37.decimal z).length ≤ 21 := by
  have := decimal_len (z := z) (k := 19) (Nat.lt_of_lt_of_le h (by decide))
  omega
theorem fn_number (T : Txt K mg a) : Fn P w K mg base "written_number" 2 spNumber := T.written_number.fn fun f fd F => by
  refine F.ok0 sc5 (fun vs H Q E h => ?_) (fun cdv A outer s H vs Q E hr h => ?_)
  · obtain ⟨x, rfl, _⟩ := h
    rfl
  · obtain ⟨z, rfl, hz, k⟩ := h
    refine ⟨_, pss_one (ps_ret (pe_fn (fn_codes T) hr passE (pa_cons (pe_callTy call_str_int (by rfl) T.str bStr (pa_cons (pv 0) pa_nil)) pa_nil))), ?_⟩
    refine ⟨_, rfl, z, rfl, ?_, Str.ofString (toString z), rfl, ?_, ?_⟩
    · by_cases e : z.natAbs = 0
      · rw [e]; decide
      · exact Nat.lt_of_lt_of_le ((Nat.log2_lt e).mpr hz) (by decide)
    · rw [tl_dec]
      have := dec_len20 hz
      omega
    · rw [tl_dec]
      exact k
theorem sc6 : FnScope ["letters"] ["letters"] (defScope (top 6)) := ⟨rfl, rfl, rfl, by decide +kernel, rfl, by decide +kernel, by decide +kernel⟩
theorem fn_text (T : Txt K mg a) : Fn P w K mg base "written_text" 1 spText := T.written_text.fn fun f fd F => by
  refine F.ok0 sc6 (fun vs H Q E h => ?_) (fun cdv A outer s H vs Q E hr h => ?_)
  · obtain ⟨p, l, rfl, _⟩ := h
    rfl
  · obtain ⟨p, l, rfl, hp, hl, k⟩ := h
    refine ⟨_, pss_one (ps_ret (pe_op op_cat (pe_op op_cat (pe_lst (pa_cons (pe_gi T.QUOTE) pa_nil)) (pv 0)) (pe_lst (pa_cons (pe_gi T.QUOTE) pa_nil)))), ?_⟩
    refine ⟨(by decide), fun q1 h1 => ⟨_, rfl, q1, p, _, _, rfl, rfl, upd_same, same_upd h1 _ _ hp, ?_, fun q2 h2 => ⟨(by decide), fun q3 h3 => ?_⟩⟩⟩
    · simp only [vI_len, List.length_cons, List.length_nil]
      exact sl (m := 1001) (by omega)
    · have n23 : q2 ≠ q3 := ne_of_none upd_same h3
      refine ⟨q2, q3, _, _, rfl, rfl, (by rw [upd_ne n23, upd_same]), upd_same, ?_, fun q4 h4 => ?_⟩
      · simp only [vI_len, List.length_append, List.length_cons, List.length_nil]
        exact sl (m := 1002) (by omega)
      · exact new_of k (by simp) (((same_upd h1).trans (same_upd h2)).trans (same_upd h3)) h4
end
end Sr
namespace Sr
open PySem L2 Sh
def LookAt (H : Hp) (kvs : List (Key × V)) (x : Str) (o : Option (List Nat)) : Prop := match o with
  | none => valV kvs (Sum.inr x) = none
  | some l => ∃ p, valV kvs (Sum.inr x) = some (.ref p) ∧ H p = some (.lst (vI l)) ∧ l.length ≤ 22
def KnownAt (H : Hp) (d : Addr) (g : String → Option (List Nat)) (c : Nat) : Prop := ∃ kvs : List (Key × V), H d = some (.dK kvs) ∧ kvs.length ≤ c ∧ ∀ x : String, LookAt H kvs (Str.ofString x) (g x)
theorem LookAt.mono {H H' : Hp} {kvs : List (Key × V)} {x : Str} {o : Option (List Nat)} (h : LookAt H kvs x o) (s : ∀ p l, H p = some (.lst l) → H' p = some (.lst l)) : LookAt H' kvs x o := by
  cases o with
  | none => exact h
  | some l => obtain ⟨p, h1, h2, h3⟩ := h; exact ⟨p, h1, s _ _ h2, h3⟩
theorem KnownAt.mono {H H' : Hp} {d : Addr} {g : String → Option (List Nat)} {c : Nat} (h : KnownAt H d g c) (s : Same H H') : KnownAt H' d g c := by
  obtain ⟨kvs, h1, h2, h3⟩ := h
  exact ⟨kvs, s _ _ h1, h2, fun x => (h3 x).mono fun p l => s p _⟩
theorem KnownAt.len {H : Hp} {d : Addr} {g : String → Option (List Nat)} {c : Nat} (h : KnownAt H d g c) {x : String} {l : List Nat} (e : g x = some l) : l.length ≤ 22 := by
  obtain ⟨kvs, h1, h2, h3⟩ := h
  have q := h3 x
  rw [e] at q
  obtain ⟨_, _, _, z⟩ := q
  exact z
theorem KnownAt.same {H : Hp} {d : Addr} {g : String → Option (List Nat)} {c : Nat} (h : KnownAt H d g c) : KnownAt H d g c := h
def piece (g : String → Option (List Nat)) (x : String) : List Nat := match g x with | none => [] | some v => 32 :: (Sd37.ascii x ++ (61 :: v))
theorem lineOf_piece (id : Nat) (g : String → Option (List Nat)) : lineOf id g = (Sd37.decimal id ++ Sd37.words.flatMap (piece g)) ++ [10] := by
  unfold lineOf
  rw [List.append_assoc]
  rfl
theorem pre_len (id : Nat) (g : String → Option (List Nat)) (i : Nat) : (Sd37.decimal id ++ (Sd37.words.take i).flatMap (piece g)).length + 1 ≤ (lineOf id g).length := by
  rw [lineOf_piece]
  have e : Sd37.words.flatMap (piece g) = (Sd37.words.take i).flatMap (piece g) ++ (Sd37.words.drop i).flatMap (piece g) := by
    rw [← List.flatMap_append, List.take_append_drop]
  rw [e]
  simp only [List.length_append, List.length_cons, List.length_nil]
  omega
theorem take_piece {g : String → Option (List Nat)} {i : Nat} {x : String} (h : Sd37.words[i]? = some x) : (Sd37.words.take (i + 1)).flatMap (piece g) = (Sd37.words.take i).flatMap (piece g) ++ piece g x := by
  rw [List.take_add_one, h]
  simp
theorem tl_key (x : String) : TL.tl ((" " : Str) ++ Str.ofString x ++ ("=" : Str)) = 32 :: (Sd37.ascii x ++ [61]) := by
  rw [TL.tl_append, TL.tl_append, TL.tl_ofString, TL.tl_ofString, TL.tl_ofString]
  rfl
theorem DGetkv {H : Hp} {d : Addr} {kvs : List (Key × V)} {k : Key} {v : V} (e : H d = some (.dK kvs)) (h : valV kvs k = some v) : DGet H d (kV k) (some v) := h ▸ DGet.k e
theorem id_len {id : Nat} (h : id < 1000000000) : (Sd37.decimal (id : Int)).length ≤ 10 := decimal_len (k := 8) (by simpa using h)
theorem words_vs : (["name", "call", "imo", "kind", "bow", "stern", "port", "starboard", "draught", "to", "status", "turn", "speed", "course", "heading", "x", "y", "year", "month", "day", "hour", "minute", "second"] : List Str) = Sd37.words.map Str.ofString := rfl
theorem words_short : ∀ x ∈ Sd37.words, x.length ≤ 9 := by decide
def spLine : Sp := fun vs H Q _ => ∃ (id : Nat) (d : Addr) (g : String → Option (List Nat)) (c : Nat), vs = [.int id, .ref d] ∧ id < 1000000000 ∧ KnownAt H d g c ∧ NewL H Q (vI (lineOf id g))
section
variable {P : Program} {w : World} {K : PySem.W.Frag} {mg : Str → Option Value} {base : Heap} {a : Adr}
theorem sc7 : FnScope ["number", "known", "line", "word"] ["number", "known"] (defScope (top 7)) := ⟨rfl, rfl, rfl, by decide +kernel, rfl, by decide +kernel, by decide +kernel⟩
theorem fn_line (T : Txt K mg a) : Fn P w K mg base "ship_line" 3 spLine := T.ship_line.fn fun f fd F => by
  refine F.ok0 sc7 (fun vs H Q E h => ?_) (fun cdv A outer s H vs Q E hr h => ?_)
  · obtain ⟨_, _, _, _, rfl, _⟩ := h
    rfl
  · obtain ⟨id, d, g, c, rfl, hid, kn, k⟩ := h
    have hu := hu_of hr
    have all666 : (lineOf id g).length ≤ 666 := lineOf_len (id_len hid) fun x _ v e => kn.len e
    refine ⟨_, pss_cons (ps_set (i := 2) sc7.nd rfl (Or.inl rfl) (pe_fn (fn_number T) hr passE (pa_cons (pv 0) pa_nil)))
      (pss_cons (ps_for PassesOwn.never rfl (pi_tup (pe_gr T.WORDS.1)) (pg_name (i := 3) sc7.nd rfl (Or.inl rfl))
        (pss_one (ps_if (pt_cmp (pc_din hu (pv 3) (pv 1)))
          (pss_cons (ps_expr (pe_bm PySem.F.plainAttrs_list PySem.F.slot_list_extend PySem.F.type_list_extend mt_extend (pv 2) (pa_cons (pe_fn (fn_codes T) (hr.mono (by decide)) passE (pa_cons (pe_fmt (pv 3)) pa_nil)) pa_nil)))
            (pss_one (ps_expr (pe_bm PySem.F.plainAttrs_list PySem.F.slot_list_extend PySem.F.type_list_extend mt_extend (pv 2) (pa_cons (pe_dget hu (pv 1) (pv 3) (fun _ _ => rfl)) pa_nil)))))
          pss_nil)))
      (pss_cons (ps_expr (pe_bm PySem.F.plainAttrs_list PySem.F.slot_list_append PySem.F.type_list_append mt_append (pv 2) (pa_cons (pe_gi T.LINE_FEED) pa_nil)))
      (pss_one (ps_ret (pv 2))))), ?_⟩
    refine ⟨_, rfl, id, rfl, (by show (id : Int).natAbs < _; simp; omega), fun L H1 hL s1 h1 => ?_⟩
    refine ⟨a.tw, rfl, ⟨_, T.WORDS.2 _⟩, for_tup (K := K) (a := a.tw) (xs := (Sd37.words.map Str.ofString).map V.str)
      (fun i σ H2 => ∃ v : Option V, σ = [some (.int id), some (.ref d), some (.ref L), v] ∧ Same H H2 ∧ H2 L = some (.lst (vI (Sd37.decimal id ++ (Sd37.words.take i).flatMap (piece g)))))
      ⟨none, rfl, s1, by rw [h1]; simp⟩ (fun i σ H2 _ _ => by rw [← words_vs]; exact T.WORDS.2 _) ?_ ?_⟩
    · rintro i y σ H2 hi ⟨v, rfl, s2, h2⟩
      obtain ⟨x, hx, rfl⟩ : ∃ x, Sd37.words[i]? = some x ∧ y = V.str (Str.ofString x) := by
        rw [List.getElem?_map, List.getElem?_map] at hi
        cases e : Sd37.words[i]? with
        | none => rw [e] at hi; cases hi
        | some x => rw [e] at hi; exact ⟨x, rfl, (Option.some.inj hi).symm⟩
      have hl1 := pre_len id g i
      have hl2 := pre_len id g (i + 1)
      obtain ⟨kvs, hd0, hc, hk⟩ := kn.same
      have hd := s2 _ _ hd0
      have hkx := hk x
      have nLd : L ≠ d := ne_of h2 hd (by intro z; cases z)
      refine ⟨_, rfl, _, rfl, d, _, rfl, DGet.k (k := Sum.inr (Str.ofString x)) hd, _, rfl, ?_⟩
      cases e : g x with
      | none =>
        rw [e] at hkx
        have hkx : valV kvs (Sum.inr (Str.ofString x)) = none := hkx
        rw [hkx]
        refine iteF ⟨_, rfl, s2, ?_⟩
        rw [take_piece hx, h2]
        simp [piece, e]
      | some l =>
        rw [e] at hkx
        obtain ⟨p, hp1, hp0, hp3⟩ := hkx
        have hp2 := s2 _ _ hp0
        rw [hp1]
        have ep : piece g x = 32 :: (Sd37.ascii x ++ (61 :: l)) := by simp [piece, e]
        have et := take_piece (g := g) hx
        rw [et, ep] at hl2
        simp only [List.length_append, List.length_cons] at hl1 hl2
        have hx9 := words_short x (List.mem_of_getElem? hx)
        have hax : (Sd37.ascii x).length ≤ 9 := by rw [ascii_length]; exact hx9
        refine iteT ⟨_, rfl, .inl ⟨rfl, _, SqL.of h2⟩, _, rfl, _, rfl, ?_, _, rfl, ?_, fun q H3 hq s3 h3 => ?_⟩
        · show (Str.ofString x).length ≤ 1000
          have e2 : (Str.ofString x).length = (TL.tl (Str.ofString x)).length := by simp [TL.tl, Str.length]
          rw [e2, TL.tl_ofString, List.length_map]
          show x.length ≤ 1000
          omega
        · rw [tl_key]
          simp only [List.length_append, List.length_cons, List.length_nil]
          omega
        · have h2' := s3 _ _ h2
          have nqL : q ≠ L := fun z => by rw [z] at hq; rw [h2] at hq; cases hq
          refine ⟨L, q, _, _, rfl, rfl, h2', h3, ?_, ?_⟩
          · rw [tl_key]
            simp only [vI_len, List.length_append, List.length_cons, List.length_nil]
            exact sl (m := 700) (by omega)
          · have npL : p ≠ L := ne_of_none hp0 hL
            refine ⟨_, rfl, .inl ⟨rfl, _, SqL.of upd_same⟩, _, rfl, _, rfl, d, .ref p, rfl, DGetkv (k := Sum.inr (Str.ofString x)) (by rw [upd_ne nLd.symm]; exact s3 _ _ hd) hp1, ?_⟩
            · refine ⟨L, p, _, _, rfl, rfl, upd_same, (by rw [upd_ne npL]; exact s3 _ _ hp2), ?_, ?_⟩
              · rw [tl_key]
                simp only [vI_len, List.length_append, List.length_cons, List.length_nil]
                exact sl (m := 700) (by omega)
              · refine ⟨_, rfl, ?_, ?_⟩
                · exact fun b o e => by
                    have nb : b ≠ L := ne_of_none e hL
                    rw [upd_ne nb, upd_ne nb]
                    exact s3 _ _ (s2 _ _ e)
                · rw [upd_same, et, ep, tl_key]
                  simp
    · rintro σ H2 ⟨v, rfl, s2, h2⟩
      have hl := pre_len id g Sd37.words.length
      rw [List.length_map, List.length_map, List.take_length] at h2
      rw [List.take_length] at hl
      refine ⟨_, rfl, .inl ⟨rfl, _, SqL.of h2⟩, L, _, _, rfl, rfl, h2, ?_, _, rfl, ?_⟩
      · rw [vI_len]
        exact sl' (m := 700) (by omega)
      · refine k L _ hL (same_upd' s2 hL) ?_
        rw [upd_same, lineOf_piece]
        simp
end
end Sr
namespace Sr
open PySem L2 Sh
theorem iteI {k : Bool} {c A B : Prop} (e : k = true ↔ c) (h1 : c → A) (h2 : ¬ c → B) : if k = true then A else B := by
  by_cases h : k = true
  · rw [if_pos h]; exact h1 (e.mp h)
  · rw [if_neg h]; exact h2 fun z => h (e.mpr z)
theorem upd_at {H : Hp} {p q : Addr} {o u : HO} (h : H q = some o) (hn : H p = none) : upd H p u q = some o := (upd_ne (ne_of_none h hn)).trans h
theorem or_and_xor : ∀ n a b : Nat, a ≤ n → a ||| b = (a &&& b) + (a ^^^ b) := by
  intro n
  induction n with
  | zero => intro a b h; obtain rfl : a = 0 := by omega
            simp
  | succ n ih =>
    intro a b h
    by_cases h0 : a = 0
    · subst h0; simp
    · have e := ih (a / 2) (b / 2) (by omega)
      rw [← Nat.or_div_two, ← Nat.and_div_two, ← Nat.xor_div_two] at e
      have m1 := Nat.or_mod_two_eq_one (a := a) (b := b)
      have m2 := Nat.and_mod_two_eq_one (a := a) (b := b)
      have m3 := Nat.xor_mod_two_eq_one (a := a) (b := b)
      omega
theorem xor_nat (x y : Nat) : Builtin.bitXor (x : Int) (y : Int) = ((x ^^^ y : Nat) : Int) := by
  have e1 : Builtin.bitAnd (x : Int) (y : Int) = ((x &&& y : Nat) : Int) := by
    unfold Builtin.bitAnd
    have h1 : decide ((0 : Int) ≤ x) = true := by simp
    have h2 : decide ((0 : Int) ≤ y) = true := by simp
    rw [h1, h2]
    simp
  have e2 : Builtin.bitOr (x : Int) (y : Int) = ((x ||| y : Nat) : Int) := by
    unfold Builtin.bitOr Builtin.bitAnd
    have h1 : decide ((0 : Int) ≤ Builtin.bitNot (x : Int)) = false := by simp [Builtin.bitNot]; omega
    have h2 : decide ((0 : Int) ≤ Builtin.bitNot (y : Int)) = false := by simp [Builtin.bitNot]; omega
    have n1 : (Builtin.bitNot (Builtin.bitNot (x : Int))).toNat = x := by unfold Builtin.bitNot; omega
    have n2 : (Builtin.bitNot (Builtin.bitNot (y : Int))).toNat = y := by unfold Builtin.bitNot; omega
    rw [h1, h2]
    dsimp only
    rw [n1, n2]
    unfold Builtin.bitNot
    omega
  unfold Builtin.bitXor
  rw [e1, e2, or_and_xor x x y (Nat.le_refl _)]
  omega
theorem vI_drop (l : List Nat) (n : Nat) : (vI l).drop n = vI (l.drop n) := by simp [List.map_drop]
theorem vI_take (l : List Nat) (n : Nat) : (vI l).take n = vI (l.take n) := by simp [List.map_take]
theorem sIx_neg (n d k : Nat) (h : 0 < k) : HT.sIx n d (some (-(k : Int))) = n - k := by
  show (if (-(k : Int)) < 0 then ((-(k : Int)) + (n : Int)).toNat else _) = _
  rw [if_pos (by omega)]
  omega
theorem cut_last {xs : List V} (k : Nat) (h : 0 < k) : cutV xs (some (-(k : Int))) none = xs.drop (xs.length - k) := by
  unfold cutV
  rw [sIx_neg _ _ _ h, HT.sIx_none, List.take_of_length_le (by rw [List.length_drop]; exact Nat.le_refl _)]
theorem cut_but {xs : List V} (k : Nat) (h : 0 < k) : cutV xs none (some (-(k : Int))) = xs.take (xs.length - k) := by
  unfold cutV
  rw [sIx_neg _ _ _ h, HT.sIx_none, List.drop_zero, Nat.sub_zero]
theorem cut_from {xs : List V} (k : Nat) : cutV xs (some (k : Int)) none = xs.drop k := by
  unfold cutV
  rw [HT.sIx_nat, HT.sIx_none]
  by_cases h : k ≤ xs.length
  · rw [Nat.min_eq_left h, List.take_of_length_le (by rw [List.length_drop]; exact Nat.le_refl _)]
  · rw [Nat.min_eq_right (by omega), List.drop_of_length_le (Nat.le_refl _), List.drop_of_length_le (by omega)]
    simp
theorem cut_to {xs : List V} (k : Nat) : cutV xs none (some (k : Int)) = xs.take k := by
  unfold cutV
  rw [HT.sIx_nat, HT.sIx_none, List.drop_zero, Nat.sub_zero]
  by_cases h : k ≤ xs.length
  · rw [Nat.min_eq_left h]
  · rw [Nat.min_eq_right (by omega), List.take_of_length_le (Nat.le_refl _), List.take_of_length_le (by omega)]
theorem cut_mid {xs : List V} (i j : Nat) : cutV xs (some (i : Int)) (some (j : Int)) = (xs.drop i).take (j - i) := by
  unfold cutV
  rw [HT.sIx_nat, HT.sIx_nat]
  by_cases h : i ≤ xs.length
  · rw [Nat.min_eq_left h]
    by_cases h2 : j ≤ xs.length
    · rw [Nat.min_eq_left h2]
    · rw [Nat.min_eq_right (by omega), List.take_of_length_le (by rw [List.length_drop]; exact Nat.le_refl _), List.take_of_length_le (by rw [List.length_drop]; omega)]
  · rw [Nat.min_eq_right (show xs.length ≤ i by omega), List.drop_of_length_le (Nat.le_refl _), List.drop_of_length_le (by omega)]
    simp
theorem cut_13 {xs : List V} : cutV xs (some 1) (some (-3)) = (xs.drop 1).take (xs.length - 4) := by
  unfold cutV
  have e1 : HT.sIx xs.length 0 (some 1) = min 1 xs.length := HT.sIx_nat _ _ 1
  have e2 : HT.sIx xs.length xs.length (some (-3)) = xs.length - 3 := sIx_neg _ _ 3 (by decide)
  rw [e1, e2]
  by_cases h : 1 ≤ xs.length
  · rw [Nat.min_eq_left h]
    congr 1
  · obtain rfl : xs = [] := List.length_eq_zero_iff.mp (by omega)
    rfl
theorem at_vI {l : List Nat} {i c : Nat} {z : Int} (e : z = (i : Int)) (h : l[i]? = some c) : atI (vI l) z = some (V.int (c : Int)) := at_of e (vI_get h)
theorem getD_get {l : List Nat} {i : Nat} (h : i < l.length) : l[i]? = some (l.getD i 0) := by
  rw [List.getD, List.getElem?_eq_getElem h]; rfl
theorem flat_vI (l : List Nat) : (vI l).all flatV = true := by
  induction l with
  | nil => rfl
  | cons x r ih => rw [vI, List.map_cons, List.all_cons]; exact ih
theorem eqV_nat (x y : Nat) : eqV (V.int (x : Int)) (V.int (y : Int)) = decide (x = y) := by
  show ((x : Int) == (y : Int)) = _
  by_cases h : x = y
  · subst h; simp
  · rw [decide_eq_false h, beq_eq_false_iff_ne]; omega
theorem inV_vI (c : Nat) (l : List Nat) : inV (.int (c : Int)) (vI l) = decide (c ∈ l) := by
  induction l with
  | nil => rfl
  | cons x r ih =>
    show (eqV (V.int (x : Int)) (V.int (c : Int)) || inV (.int (c : Int)) (vI r)) = _
    rw [ih, eqV_nat]
    by_cases h : x = c
    · simp [h]
    · have h' : ¬ c = x := fun z => h z.symm
      simp [h, h']
def RowsAt (H : Hp) (rs : List Addr) (ls : List (List Nat)) : Prop := Paired (fun r l => H r = some (.lst (vI l))) rs ls
theorem RowsAt.lists {K : PySem.W.Frag} {H : Hp} {rs : List Addr} {ls : List (List Nat)} (h : RowsAt H rs ls) : ListsAt K H rs ls := Paired.mapP h fun _ _ z => SqL.of z
theorem RowsAt.same {H H' : Hp} {rs : List Addr} {ls : List (List Nat)} (h : RowsAt H rs ls) (s : Same H H') : RowsAt H' rs ls := Paired.mapP h fun _ _ z => s _ _ z
theorem Paired.snoc {α β : Type} {G : α → β → Prop} {as : List α} {bs : List β} {x : α} {y : β} (h : Paired G as bs) (g : G x y) : Paired G (as ++ [x]) (bs ++ [y]) := by
  induction h with
  | nil => exact .cons g .nil
  | cons z t ih => exact .cons z ih
theorem Paired.unsnoc {α β : Type} {G : α → β → Prop} : ∀ {as : List α} {bs : List β} {x : α}, Paired G (as ++ [x]) bs → ∃ bs' y, bs = bs' ++ [y] ∧ Paired G as bs' ∧ G x y
  | [], _, _, .cons g .nil => ⟨[], _, rfl, .nil, g⟩
  | _ :: as, _, _, .cons g t => by
    obtain ⟨bs', y, e, p, q⟩ := Paired.unsnoc t
    exact ⟨_ :: bs', y, by rw [e]; rfl, .cons g p, q⟩
theorem RowsAt.frame {H H' : Hp} {rs : List Addr} {ls : List (List Nat)} (h : RowsAt H rs ls) (s : ∀ r ∈ rs, ∀ o, H r = some o → H' r = some o) : RowsAt H' rs ls := by
  induction h with
  | nil => exact .nil
  | cons x t ih => exact .cons (s _ (by simp) _ x) (ih fun r hr => s r (by simp [hr]))
theorem lc_codes {K : PySem.W.Frag} {at_ : Addr} {xs : List Str} {σ : L2.St} {vs : List Nat} {i : Nat} {H : Hp} {D : Addr} {Qd : Hp → Prop} (tu : ∀ H, SqT K H at_ (xs.map V.str)) (short : ∀ x ∈ xs, (TL.tl x).length ≤ 1000) (few : xs.length ≤ 1000) (hD : H D = none)
    (hw : ∀ v, wipe ((wipe σ vs).set i (some v)) vs = wipe σ vs) (hi : ∀ v, ((wipe σ vs).set i (some v))[i]? = some (some v))
    (k : ∀ H' rs, Same H H' → H' D = some (.lst (rs.map V.ref)) → RowsAt H' rs (xs.map TL.tl) → Qd H') :
    ∃ W : Nat → Nat → Hp → Prop, (∃ m, W 0 m (upd H D (.lst []))) ∧ ∀ j m H, W j m H →
      ((Itt K at_).stop j H ∧ Qd H) ∨ ((Itt K at_).go j H ∧ ∃ Nx : Hp → Prop, (∀ H', Nx H' → ∃ m', m' < m ∧ W (j + 1) m' H') ∧ ∀ x H', (Itt K at_).yld j H x H' → gName i x (wipe σ vs) H' fun σ2 H2 => wipe σ2 vs = wipe σ vs ∧ tYes σ2 H2 fun b H3 =>
        if b = true then tCall spCodes [] E0 (tCons (tVar i) tNil) σ2 H3 fun y H4 => ∃ acc, H4 D = some (.lst acc) ∧ acc.length < sizeLine ∧ Nx (upd H4 D (.lst (acc ++ [y]))) else Nx H3) := by
  refine lc_tup (K := K) (a := at_) (xs := xs.map V.str) (fun j H' => ∃ rs : List Addr, Same H H' ∧ H' D = some (.lst (rs.map V.ref)) ∧ RowsAt H' rs ((xs.take j).map TL.tl) ∧ D ∉ rs) ⟨[], same_upd hD, upd_same, .nil, by simp⟩ (fun j H' _ _ => tu H') ?_ ?_
  · rintro j y H' hy ⟨rs, s1, h1, h2, h3⟩
    obtain ⟨x, hx, rfl⟩ : ∃ x, xs[j]? = some x ∧ y = V.str x := by
      rw [List.getElem?_map] at hy
      cases e : xs[j]? with
      | none => rw [e] at hy; cases hy
      | some x => rw [e] at hy; exact ⟨x, rfl, (Option.some.inj hy).symm⟩
    have hlen : rs.length = ((xs.take j).map TL.tl).length := Paired.length h2
    rw [List.length_map, List.length_take] at hlen
    refine ⟨hw _, yes ⟨_, hi _, x, rfl, short x (List.mem_of_getElem? hx), fun q H2 hq s2 h4 => ?_⟩⟩
    have nqD : q ≠ D := fun z => by rw [z, h1] at hq; cases hq
    refine ⟨rs.map V.ref, s2 _ _ h1, sl' (m := 1000) (by rw [List.length_map]; omega), rs ++ [q], same_upd' (s1.trans s2) hD, by rw [upd_same]; simp, ?_, by simp [h3, nqD.symm]⟩
    rw [List.take_add_one, hx, Option.toList_some, List.map_append]
    refine Paired.snoc ((h2.same s2).frame fun r hr o e => ?_) (by rw [upd_ne nqD]; exact h4)
    rw [upd_ne (fun z : r = D => h3 (z ▸ hr))]
    exact e
  · rintro H' ⟨rs, s1, h1, h2, h3⟩
    rw [List.length_map, List.take_length] at h2
    exact k H' rs s1 h1 h2
end Sr
namespace Sr
open PySem L2 Sh
theorem joinC_mem : ∀ {fs : List (List Nat)} {f : List Nat}, f ∈ fs → f.length ≤ (joinC fs).length
  | [g], f, h => by
    obtain rfl : f = g := by simpa using h
    simp [joinC]
  | g :: g' :: r, f, h => by
    rw [joinC_cons (by simp), List.length_append, List.length_cons]
    rcases List.mem_cons.mp h with e | e
    · rw [e]; omega
    · have := joinC_mem e
      omega
theorem splitC_mem {b f : List Nat} (h : f ∈ splitC b) : f.length ≤ b.length := by
  have := joinC_mem h
  rw [joinC_splitC] at this
  exact this
def spEnding : Sp := fun vs H Q _ => ∃ (p : Addr) (l : List Nat), vs = [.ref p] ∧ H p = some (.lst (vI l)) ∧ ∀ q H', Same H H' → H' q = some (.lst (vI (ending l))) → Q (.ref q) H'
def spSplit : Sp := fun vs H Q _ => ∃ (p : Addr) (l : List Nat), vs = [.ref p] ∧ H p = some (.lst (vI l)) ∧ l.length ≤ 2000 ∧ ∀ F rs H', Same H H' → H' F = some (.lst (rs.map V.ref)) → RowsAt H' rs (splitC l) → Q (.ref F) H'
def spCapital : Sp := fun vs H Q _ => ∃ c : Nat, vs = [.int c] ∧ ∀ b : Bool, (b = true ↔ 65 ≤ c ∧ c ≤ 90) → Q (.bl b) H
def spPay : Sp := fun vs H Q _ => ∃ c : Nat, vs = [.int c] ∧ ∀ b : Bool, (b = true ↔ Pay c) → Q (.bl b) H
section
variable {P : Program} {w : World} {K : PySem.W.Frag} {mg : Str → Option Value} {base : Heap} {a : Adr}
theorem sc21 : FnScope ["row"] ["row"] (defScope (top 21)) := ⟨rfl, rfl, rfl, by decide +kernel, rfl, by decide +kernel, by decide +kernel⟩
theorem fn_ending (T : Txt K mg a) : Fn P w K mg base "without_ending" 1 spEnding := T.without_ending.fn fun f fd F => by
  refine F.ok0 sc21 (fun vs H Q E h => ?_) (fun cdv A outer s H vs Q E hr h => ?_)
  · obtain ⟨_, _, rfl, _⟩ := h
    rfl
  · obtain ⟨p, l, rfl, hp, k⟩ := h
    have hu := hr.units
    refine ⟨_, pss_cons (ps_if (pt_cmpR (op_eqI hu) (pe_slice sl_list (pv 0) (po_some (pe_un un_neg pe_int)) po_none) (pe_lst (pa_cons (pe_gi T.CARRIAGE_RETURN) (pa_cons (pe_gi T.LINE_FEED) pa_nil))) (nomark _))
        (pss_one (ps_ret (pe_slice sl_list (pv 0) po_none (po_some (pe_un un_neg pe_int))))) pss_nil)
      (pss_cons (ps_if (pt_cmpR (op_inI hu) (pe_slice sl_list (pv 0) (po_some (pe_un un_neg pe_int)) po_none) (pe_tup (pa_cons (pe_lst (pa_cons (pe_gi T.LINE_FEED) pa_nil)) (pa_cons (pe_lst (pa_cons (pe_gi T.CARRIAGE_RETURN) pa_nil)) pa_nil))) rfl)
        (pss_one (ps_ret (pe_slice sl_list (pv 0) po_none (po_some (pe_un un_neg pe_int))))) pss_nil)
      (pss_one (ps_ret (pv 0)))), ?_⟩
    have c2 : cutV (vI l) (some (-2)) none = vI (l.drop (l.length - 2)) := (cut_last 2 (by decide)).trans (by rw [vI_len, vI_drop])
    have c1 : cutV (vI l) (some (-1)) none = vI (l.drop (l.length - 1)) := (cut_last 1 (by decide)).trans (by rw [vI_len, vI_drop])
    have d2 : cutV (vI l) none (some (-2)) = vI (l.take (l.length - 2)) := (cut_but 2 (by decide)).trans (by rw [vI_len, vI_take])
    have d1 : cutV (vI l) none (some (-1)) = vI (l.take (l.length - 1)) := (cut_but 1 (by decide)).trans (by rw [vI_len, vI_take])
    refine ⟨_, rfl, _, rfl, _, rfl, p, _, rfl, SqL.of hp, fun q1 h1 => ⟨(by show 2 ≤ sizeLine; decide), fun q2 h2 => ?_⟩⟩
    rw [c2] at h2 ⊢
    have s2 := (same_upd (o := .lst (vI (l.drop (l.length - 2)))) h1).trans (same_upd (o := .lst [.int 13, .int 10]) h2)
    refine ⟨q1, q2, _, [13, 10], rfl, rfl, SqL.of (upd_at upd_same h2), SqL.of upd_same, _, rfl, iteI (c := l.drop (l.length - 2) = [13, 10]) (by simp) (fun e => ?_) (fun e => ?_)⟩
    · refine ⟨_, rfl, _, rfl, _, rfl, p, _, rfl, SqL.of (s2 _ _ hp), fun q3 h3 => k q3 _ (s2.trans (same_upd h3)) ?_⟩
      rw [upd_same, d2, ending, if_pos e]
    · refine ⟨_, rfl, _, rfl, _, rfl, p, _, rfl, SqL.of (s2 _ _ hp), fun q3 h3 => ⟨(by show 1 ≤ sizeLine; decide), fun q4 h4 => ⟨(by show 1 ≤ sizeLine; decide), fun q5 h5 => ⟨(by show 2 ≤ sizeLine; decide), fun q6 h6 => ?_⟩⟩⟩⟩
      have s6 := fun o => (((s2.trans (same_upd h3)).trans (same_upd h4)).trans (same_upd h5)).trans (same_upd (o := o) h6)
      refine ⟨q3, q6, [q4, q5], l.drop (l.length - 1), [[10], [13]], rfl, rfl, SqL.of (upd_at (upd_at (upd_at (upd_same.trans (by rw [c1])) h4) h5) h6), .inr (SqT.of upd_same),
        .cons (SqL.of (upd_at (upd_at upd_same h5) h6)) (.cons (SqL.of (upd_at upd_same h6)) .nil), _, rfl, iteI (c := l.drop (l.length - 1) = [10] ∨ l.drop (l.length - 1) = [13]) (by simp) (fun e2 => ?_) (fun e2 => ?_)⟩
      · refine ⟨_, rfl, _, rfl, _, rfl, p, _, rfl, SqL.of (s6 _ _ _ hp), fun q7 h7 => k q7 _ ((s6 _).trans (same_upd h7)) ?_⟩
        rw [upd_same, d1, ending, if_neg e, if_pos e2]
      · refine ⟨_, rfl, k p _ (s6 _) ?_⟩
        rw [s6 _ _ _ hp, ending, if_neg e, if_neg e2]
theorem sc22 : FnScope ["line", "fields", "code"] ["line"] (defScope (top 22)) := ⟨rfl, rfl, rfl, by decide +kernel, rfl, by decide +kernel, by decide +kernel⟩
theorem fn_split (T : Txt K mg a) : Fn P w K mg base "split_at_commas" 1 spSplit := T.split_at_commas.fn fun f fd F => by
  refine F.ok0 sc22 (fun vs H Q E h => ?_) (fun cdv A outer s H vs Q E hr h => ?_)
  · obtain ⟨_, _, rfl, _⟩ := h
    rfl
  · obtain ⟨p, l, rfl, hp, hl, k⟩ := h
    refine ⟨_, pss_cons (ps_set (i := 1) sc22.nd rfl (Or.inl rfl) (pe_lst (pa_cons (pe_lst pa_nil) pa_nil)))
      (pss_cons (ps_for PassesOwn.never rfl (pi_list (pv 0)) (pg_name (i := 2) sc22.nd rfl (Or.inl rfl))
        (pss_one (ps_if (pt_cmpR op_eq (pv 2) (pe_gi T.COMMA) (nomark _))
          (pss_one (ps_expr (pe_bm PySem.F.plainAttrs_list PySem.F.slot_list_append PySem.F.type_list_append mt_append (pv 1) (pa_cons (pe_lst pa_nil) pa_nil))))
          (pss_one (ps_expr (pe_bm PySem.F.plainAttrs_list PySem.F.slot_list_append PySem.F.type_list_append mt_append (pe_ix ix_list (pv 1) (pe_un un_neg pe_int) (fun _ _ => rfl)) (pa_cons (pv 2) pa_nil)))))))
      (pss_one (ps_ret (pv 1)))), ?_⟩
    refine ⟨(by show 0 ≤ sizeLine; decide), fun r0 h0 => ⟨(by show 1 ≤ sizeLine; decide), fun F0 h1 => ?_⟩⟩
    have n0 : r0 ≠ F0 := ne_of_none upd_same h1
    have hF0 : H F0 = none := (same_upd h0).free h1
    refine ⟨_, rfl, p, rfl, ⟨_, SqL.of ((same_upd h0).trans (same_upd h1) _ _ hp)⟩, for_list (K := K) (a := p) (xs := vI l)
      (fun i σ H' => ∃ (v : Option V) (rs : List Addr), σ = [some (.ref p), some (.ref F0), v] ∧ Same H H' ∧ H' F0 = some (.lst (rs.map V.ref)) ∧ rs.Nodup ∧ F0 ∉ rs ∧ (∀ r ∈ rs, H r = none) ∧ RowsAt H' rs (splitC (l.take i)))
      ⟨none, [r0], rfl, (same_upd h0).trans (same_upd h1), upd_same, by simp, by simp [n0.symm], by simp [h0], .cons (upd_at upd_same h1) .nil⟩ (fun i σ H' _ ⟨_, _, _, s1, _⟩ => SqL.of (s1 _ _ hp)) ?_ ?_⟩
    · rintro i y σ H' hy ⟨v, rs, rfl, s1, hF, nd, nF, hn, hR⟩
      obtain ⟨c, hc, rfl⟩ : ∃ c, l[i]? = some c ∧ y = V.int (c : Int) := by
        rw [List.getElem?_map] at hy
        cases e : l[i]? with
        | none => rw [e] at hy; cases hy
        | some x => rw [e] at hy; exact ⟨x, rfl, (Option.some.inj hy).symm⟩
      have et : l.take (i + 1) = l.take i ++ [c] := by rw [List.take_add_one, hc]; rfl
      have hil : i < l.length := (List.getElem?_eq_some_iff.mp hc).1
      have hlen : rs.length ≤ i + 1 := by
        have := splitC_length (l.take i)
        have e2 : rs.length = (splitC (l.take i)).length := Paired.length hR
        rw [List.length_take] at this
        omega
      refine ⟨_, rfl, rfl, _, rfl, iteI (c := c = 44) (by simp; omega) (fun e => ?_) (fun e => ?_)⟩
      · refine ⟨_, rfl, .inl ⟨rfl, _, SqL.of hF⟩, (by show 0 ≤ sizeLine; decide), fun r1 hr1 => ?_⟩
        have hr1H := s1.free hr1
        have nr1 : r1 ∉ rs := fun z => by
          obtain ⟨j, hj⟩ := List.mem_iff_getElem?.mp z
          obtain ⟨b, hb, q⟩ := paired_get hR hj
          rw [q] at hr1
          cases hr1
        have nF1 : F0 ≠ r1 := ne_of_none hF hr1
        refine ⟨F0, _, _, rfl, rfl, upd_at hF hr1, sl' (m := 2001) (by rw [List.length_map]; omega), ⟨_, rs ++ [r1], rfl, ?_, ?_, ?_, ?_, ?_, ?_⟩⟩
        · exact same_upd' (same_upd' s1 hr1H) hF0
        · rw [upd_same]; simp
        · rw [List.nodup_append]
          refine ⟨nd, by simp, fun x hx y hy => ?_⟩
          obtain rfl : y = r1 := by simpa using hy
          exact fun z => nr1 (z ▸ hx)
        · simp [nF, nF1]
        · intro r hr
          rcases List.mem_append.mp hr with hr | hr
          · exact hn r hr
          · obtain rfl : r = r1 := by simpa using hr
            exact hr1H
        · rw [et, splitC_snoc, addC, if_pos e]
          refine Paired.snoc (hR.frame fun r hr o e => ?_) (by rw [upd_ne nF1.symm, upd_same]; rfl)
          rw [upd_ne (fun z : r = F0 => nF (z ▸ hr)), upd_ne (fun z : r = r1 => nr1 (z ▸ hr))]
          exact e
      · rcases List.eq_nil_or_concat rs with h | ⟨rs', r, h⟩
        · subst h
          have e2 : (0 : Nat) = (splitC (l.take i)).length := Paired.length hR
          exact absurd (List.length_eq_zero_iff.mp e2.symm) (splitC_ne _)
        · rw [List.concat_eq_append] at h
          subst h
          obtain ⟨ls', x, e2, p1, p2⟩ := Paired.unsnoc hR
          have nr : r ∉ rs' := fun z => by
            rw [List.nodup_append] at nd
            exact nd.2.2 r z r (by simp) rfl
          have hil2 : x.length ≤ 2000 := by
            have := splitC_mem (b := l.take i) (f := x) (by rw [e2]; simp)
            rw [List.length_take] at this
            omega
          refine ⟨_, rfl, _, rfl, F0, _, _, V.ref r, rfl, rfl, SqL.of hF, (by rw [List.map_append]; exact atI_last _ _), .inl ⟨rfl, _, SqL.of p2⟩, _, rfl, r, _, _, rfl, rfl, p2, sl' (m := 2000) (by rw [vI_len]; exact hil2), ?_⟩
          have nFr : F0 ≠ r := fun z => nF (by rw [z]; simp)
          refine ⟨_, rs' ++ [r], rfl, same_upd' s1 (hn r (by simp)), by rw [upd_ne nFr]; exact hF, nd, nF, hn, ?_⟩
          rw [et, splitC_snoc, addC, if_neg e, e2]
          have e3 : (ls' ++ [x]).dropLast = ls' := by simp
          have e4 : (ls' ++ [x]).getLastD [] = x := by simp
          rw [e3, e4]
          refine Paired.snoc (RowsAt.frame p1 fun r' hr' o e => ?_) (by rw [upd_same]; simp)
          rw [upd_ne (fun z : r' = r => nr (z ▸ hr'))]
          exact e
    · rintro σ H' ⟨v, rs, rfl, s1, hF, nd, nF, hn, hR⟩
      rw [vI_len, List.take_length] at hR
      exact ⟨_, rfl, k F0 rs H' s1 hF hR⟩
end
end Sr
namespace Sr
open PySem L2 Sh
def spCheck (C : Addr) (ok : List Nat → Prop) : Sp := fun vs H Q E => ∃ (p : Addr) (l : List Nat), vs = [.ref p] ∧ H p = some (.lst (vI l)) ∧ l.length ≤ 2000 ∧ Chk H Q E C (ok l) .non
def spDigit (C : Addr) : Sp := fun vs H Q E => ∃ (p : Addr) (l : List Nat) (lo hi : Nat), vs = [.ref p, .int lo, .int hi] ∧ H p = some (.lst (vI l)) ∧ Chk H Q E C (DigOk l lo hi) (.int ((l.getD 0 0 - 48 : Nat) : Int))
def spGroup (C : Addr) : Sp := fun vs H Q E => ∃ (p : Addr) (l : List Nat) (n : Nat), vs = [.ref p, .int n] ∧ H p = some (.lst (vI l)) ∧ Chk H Q E C (GroupOk l n) .non
theorem ordA : ((("A" : Str).cps.getD 0 0 : Nat) : Int) = 65 := by decide +kernel
theorem ordZ : ((("Z" : Str).cps.getD 0 0 : Nat) : Int) = 90 := by decide +kernel
theorem ordW : ((("W" : Str).cps.getD 0 0 : Nat) : Int) = 87 := by decide +kernel
theorem ordw : ((("w" : Str).cps.getD 0 0 : Nat) : Int) = 119 := by decide +kernel
theorem ordE : ((("!" : Str).cps.getD 0 0 : Nat) : Int) = 33 := by decide +kernel
theorem ordS : ((("*" : Str).cps.getD 0 0 : Nat) : Int) = 42 := by decide +kernel
section
variable {P : Program} {w : World} {K : PySem.W.Frag} {mg : Str → Option Value} {base : Heap} {a : Adr}
theorem sc23 : FnScope ["code"] ["code"] (defScope (top 23)) := ⟨rfl, rfl, rfl, by decide +kernel, rfl, by decide +kernel, by decide +kernel⟩
theorem fn_capital (T : Txt K mg a) : Fn P w K mg base "is_capital" 1 spCapital := T.is_capital.fn fun f fd F => by
  refine F.ok0 sc23 (fun vs H Q E h => ?_) (fun cdv A outer s H vs Q E hr h => ?_)
  · obtain ⟨_, rfl, _⟩ := h
    rfl
  · obtain ⟨c, rfl, k⟩ := h
    refine ⟨_, pss_one (ps_ret (pe_chain op_le op_le (pe_callB call_ord (by rfl) T.ord bOrd (pa_cons pe_str pa_nil)) (pv 0) (pe_callB call_ord (by rfl) T.ord bOrd (pa_cons pe_str pa_nil)))), ?_⟩
    refine ⟨_, rfl, rfl, _, rfl, _, _, rfl, rfl, _, rfl, ?_⟩
    rw [ordA]
    refine iteI (c := 65 ≤ c) (by simp; omega) (fun e => ⟨_, rfl, rfl, _, _, rfl, rfl, ?_⟩) (fun e => k _ (by simp; omega))
    rw [ordZ]
    exact k _ (by simp; omega)
theorem sc24 : FnScope ["code"] ["code"] (defScope (top 24)) := ⟨rfl, rfl, rfl, by decide +kernel, rfl, by decide +kernel, by decide +kernel⟩
theorem fn_pay (T : Txt K mg a) : Fn P w K mg base "is_payload" 1 spPay := T.is_payload.fn fun f fd F => by
  refine F.ok0 sc24 (fun vs H Q E h => ?_) (fun cdv A outer s H vs Q E hr h => ?_)
  · obtain ⟨_, rfl, _⟩ := h
    rfl
  · obtain ⟨c, rfl, k⟩ := h
    refine ⟨_, pss_one (ps_ret (pe_or (pe_chain op_le op_le (pe_gi T.ZERO) (pv 0) (pe_callB call_ord (by rfl) T.ord bOrd (pa_cons pe_str pa_nil)))
      (pe_one (pe_chain op_le op_le (pe_gi T.BACK_QUOTE) (pv 0) (pe_callB call_ord (by rfl) T.ord bOrd (pa_cons pe_str pa_nil)))))), ?_⟩
    have second : ¬ (48 ≤ c ∧ c ≤ 87) → tChain (rI0 fun i j => V.bl (decide (i ≤ j))) (rI0 fun i j => V.bl (decide (i ≤ j))) (tC (.int 96)) (tVar 0) (tCB (fun xs H Q => ∃ x, xs = [V.str x] ∧ x.length = 1 ∧ Q (V.int ((x.cps.getD 0 0 : Nat) : Int)) H) (tCons (tC (.str "w")) tNil)) (L2.start ["code"] [.int (c : Int)]) H Q := by
      intro n
      refine ⟨_, rfl, _, _, rfl, rfl, _, rfl, iteI (c := 96 ≤ c) (by simp; omega) (fun e => ⟨_, rfl, rfl, _, _, rfl, rfl, ?_⟩) (fun e => k _ (by simp [Pay]; omega))⟩
      rw [ordw]
      exact k _ (by simp [Pay]; omega)
    refine ⟨_, rfl, _, _, rfl, rfl, _, rfl, iteI (c := 48 ≤ c) (by simp; omega) (fun e => ⟨_, rfl, rfl, _, _, rfl, rfl, _, rfl, ?_⟩) (fun e => ⟨_, rfl, iteF (second (by omega))⟩)⟩
    rw [ordW]
    exact iteI (c := c ≤ 87) (by simp; omega) (fun e2 => k _ (by simp [Pay]; omega)) (fun e2 => second (by omega))
theorem sc26 : FnScope ["field", "least", "largest"] ["field", "least", "largest"] (defScope (top 26)) := ⟨rfl, rfl, rfl, by decide +kernel, rfl, by decide +kernel, by decide +kernel⟩
theorem fn_digit (T : Txt K mg a) : Fn P w K mg base "read_digit" 1 (spDigit a.xl) := T.read_digit.fn fun f fd F => by
  refine F.okx sc26 (fun vs H Q E h => ?_) (fun cdv A outer s H vs Q E hr h => ?_)
  · obtain ⟨_, _, _, _, rfl, _⟩ := h
    rfl
  · obtain ⟨p, l, lo, hi, rfl, hp, k1, k2⟩ := h
    refine ⟨_, pss_cons (ps_if (pw_or (pt_cmpR op_ne (pe_callB call_len_seq (by rfl) T.len bLen (pa_cons (pv 0) pa_nil)) pe_int (nomark _))
        (pw_or1 (pt_not (pt_chain op_le op_le (pe_op op_add (pe_gi T.ZERO) (pv 1)) (pe_ix ix_list (pv 0) pe_int (fun _ _ => rfl)) (pe_op op_add (pe_gi T.ZERO) (pv 2)))))).pt
        (pss_one (ps_raise T.xl (by rfl))) pss_nil)
      (pss_one (ps_ret (pe_op op_sub (pe_ix ix_list (pv 0) pe_int (fun _ _ => rfl)) (pe_gi T.ZERO)))), ?_⟩
    refine ⟨_, rfl, p, _, rfl, .inl (SqL.of hp), rfl, _, rfl, ?_⟩
    rw [vI_len]
    refine iteI (c := ¬ l.length = 1) (by simp; omega) (fun e => iteT (k2 (fun z => e z.1) _ (Same.refl _))) (fun e => ?_)
    have e : l.length = 1 := by omega
    have h0 := getD_get (l := l) (i := 0) (by omega)
    refine ⟨_, rfl, _, _, rfl, rfl, _, rfl, p, _, _, _, rfl, rfl, SqL.of hp, at_vI (i := 0) rfl h0, _, _, rfl, rfl, _, rfl, iteI (c := 48 + lo ≤ l.getD 0 0) (by simp; omega) (fun e2 => ?_) (fun e2 => ?_)⟩
    · refine ⟨_, rfl, _, _, rfl, rfl, _, _, rfl, rfl, _, rfl, iteI (c := ¬ l.getD 0 0 ≤ 48 + hi) (by simp; omega) (fun e3 => k2 (fun z => e3 z.2.2) _ (Same.refl _)) (fun e3 => ?_)⟩
      refine ⟨_, rfl, p, _, _, _, rfl, rfl, SqL.of hp, at_vI (i := 0) rfl h0, _, _, rfl, rfl, ?_⟩
      have q := k1 ⟨e, e2, by omega⟩ _ (Same.refl _)
      have e5 : ((l.getD 0 0 : Nat) : Int) - 48 = ((l.getD 0 0 - 48 : Nat) : Int) := by omega
      show Q (V.int (((l.getD 0 0 : Nat) : Int) - 48)) H
      rw [e5]
      exact q
    · exact ⟨_, rfl, iteT (k2 (fun z => e2 z.2.1) _ (Same.refl _))⟩
theorem sc25 : FnScope ["field", "sentence"] ["field"] (defScope (top 25)) := ⟨rfl, rfl, rfl, by decide +kernel, rfl, by decide +kernel, by decide +kernel⟩
theorem fn_head (T : Txt K mg a) : Fn P w K mg base "check_head" 2 (spCheck a.xl HeadOk) := T.check_head.fn fun f fd F => by
  refine F.okx sc25 (fun vs H Q E h => ?_) (fun cdv A outer s H vs Q E hr h => ?_)
  · obtain ⟨_, _, rfl, _⟩ := h
    rfl
  · obtain ⟨p, l, rfl, hp, hl, k1, k2⟩ := h
    have hu := hr.units
    refine ⟨_, pss_cons (ps_if (pw_or (pt_cmpR op_ne (pe_callB call_len_seq (by rfl) T.len bLen (pa_cons (pv 0) pa_nil)) pe_int (nomark _))
        (pw_or1 (pt_cmpR op_ne (pe_ix ix_list (pv 0) pe_int (fun _ _ => rfl)) (pe_callB call_ord (by rfl) T.ord bOrd (pa_cons pe_str pa_nil)) (nomark _)))).pt
        (pss_one (ps_raise T.xl (by rfl))) pss_nil)
      (pss_cons (ps_if (pw_or (pt_not (pt_val (pe_fn (fn_capital T) hr passE (pa_cons (pe_ix ix_list (pv 0) pe_int (fun _ _ => rfl)) pa_nil))))
        (pw_or1 (pt_not (pt_val (pe_fn (fn_capital T) hr passE (pa_cons (pe_ix ix_list (pv 0) pe_int (fun _ _ => rfl)) pa_nil)))))).pt
        (pss_one (ps_raise T.xl (by rfl))) pss_nil)
      (pss_one (ps_if (pt_cmpR (op_ninI hu) (pe_slice sl_list (pv 0) (po_some pe_int) po_none)
          (pe_lc (own := [("sentence", 1)]) rfl sc25.nd (pi_tup (pe_gr T.SENTENCES.1)) (blkOk_by (by show blkC ["field", "sentence"] (defScope (top 25)) _ _ = true; decide +kernel)) (fun s H C cl fp => pg_name (i := 1) sc25.nd rfl (Or.inl rfl)) (fun s H C cl fp => pts_nil) (fun s H C cl fp => pe_fn (fn_codes T) hr passE (pa_cons (pv 1) pa_nil))) rfl)
        (pss_one (ps_raise T.xl (by rfl))) pss_nil))), ?_⟩
    refine ⟨_, rfl, p, _, rfl, .inl (SqL.of hp), rfl, _, rfl, ?_⟩
    rw [vI_len]
    refine iteI (c := ¬ l.length = 6) (by simp; omega) (fun e => iteT (k2 (fun z => e z.1) _ (Same.refl _))) (fun e => ?_)
    have e : l.length = 6 := by omega
    have h0 := getD_get (l := l) (i := 0) (by omega)
    have h1 := getD_get (l := l) (i := 1) (by omega)
    have h2 := getD_get (l := l) (i := 2) (by omega)
    refine ⟨_, rfl, p, _, _, _, rfl, rfl, SqL.of hp, at_vI (i := 0) rfl h0, _, rfl, rfl, rfl, _, rfl, ?_⟩
    rw [ordE]
    refine iteI (c := ¬ l.getD 0 0 = 33) (by simp; omega) (fun e2 => k2 (fun z => e2 z.2.1) _ (Same.refl _)) (fun e2 => ?_)
    refine ⟨_, rfl, p, _, _, _, rfl, rfl, SqL.of hp, at_vI (i := 1) rfl h1, _, rfl, fun b1 hb1 => ⟨_, rfl, iteI (c := ¬ (65 ≤ l.getD 1 0 ∧ l.getD 1 0 ≤ 90)) (by rw [← hb1]; simp) (fun e3 => iteT (k2 (fun z => e3 z.2.2.1) _ (Same.refl _))) (fun e3 => ?_)⟩⟩
    refine ⟨_, rfl, p, _, _, _, rfl, rfl, SqL.of hp, at_vI (i := 2) rfl h2, _, rfl, fun b2 hb2 => ⟨_, rfl, iteI (c := ¬ (65 ≤ l.getD 2 0 ∧ l.getD 2 0 ≤ 90)) (by rw [← hb2]; simp) (fun e4 => k2 (fun z => e4 z.2.2.2.1) _ (Same.refl _)) (fun e4 => ?_)⟩⟩
    have c3 : cutV (vI l) (some 3) none = vI (l.drop 3) := (cut_from 3).trans (vI_drop _ _)
    refine ⟨_, rfl, _, rfl, p, _, rfl, SqL.of hp, fun q1 hq1 => ⟨a.ts, rfl, ⟨_, T.SENTENCES.2 _⟩, fun D hD => lc_codes (xs := ["VDM", "VDO"]) T.SENTENCES.2 (by decide +kernel) (by decide) hD (fun _ => rfl) (fun _ => rfl) fun H' rs s1 h3 h4 => ?_⟩⟩
    have sH := (same_upd hq1).trans s1
    refine ⟨q1, D, rs, l.drop 3, [[86, 68, 77], [86, 68, 79]], rfl, rfl, SqL.of (s1 _ _ (upd_same.trans (by rw [c3]))), .inl (SqL.of h3), RowsAt.lists h4, _, rfl,
      iteI (c := ¬ (l.drop 3 = [86, 68, 77] ∨ l.drop 3 = [86, 68, 79])) (by simp) (fun e5 => k2 (fun z => e5 z.2.2.2.2) _ sH) (fun e5 => ?_)⟩
    exact k1 ⟨e, by omega, Decidable.not_not.mp e3, Decidable.not_not.mp e4, Decidable.not_not.mp e5⟩ _ sH
end
end Sr
namespace Sr
open PySem L2 Sh
abbrev sixteen : List Nat := [48, 49, 50, 51, 52, 53, 54, 55, 56, 57, 65, 66, 67, 68, 69, 70]
theorem tl16 : TL.tl ("0123456789ABCDEF" : Str) = sixteen := by decide +kernel
theorem hex_mem {c : Nat} : c ∈ sixteen ↔ Hex c := by
  unfold Hex
  simp only [sixteen, List.mem_cons, List.not_mem_nil, or_false]
  omega
theorem hex_ix0 : ∀ c < 71, c ∈ sixteen → sixteen[hexV c]? = some c ∧ ∀ m < hexV c, sixteen[m]? ≠ some c := by decide +kernel
theorem hex_ix {c : Nat} (h : Hex c) : sixteen[hexV c]? = some c ∧ ∀ m < hexV c, sixteen[m]? ≠ some c :=
  hex_ix0 c (by unfold Hex at h; omega) (hex_mem.mpr h)
def spSum (C : Addr) : Sp := fun vs H Q E => ∃ (p : Addr) (x y : Nat), vs = [.ref p] ∧ H p = some (.lst (vI [x, y])) ∧ Chk H Q E C (Hex x ∧ Hex y) (.int ((hexV x * 16 + hexV y : Nat) : Int))
def spXor : Sp := fun vs H Q _ => ∃ (p : Addr) (l : List Nat), vs = [.ref p] ∧ H p = some (.lst (vI l)) ∧ Ret H Q (.int ((sumOf l : Nat) : Int))
abbrev vB (b : List Bool) : List V := b.map fun x => V.int (b2i x)
def spBits : Sp := fun vs H Q _ => ∃ (p : Addr) (l : List Nat) (f : Nat), vs = [.ref p, .int f] ∧ H p = some (.lst (vI l)) ∧ l.length ≤ 2000 ∧ (∀ c ∈ l, Pay c) ∧ f ≤ 6 * l.length ∧ NewL H Q (vB (Sd37.cut (Sd37.bitsOf l) f))
section
variable {P : Program} {w : World} {K : PySem.W.Frag} {mg : Str → Option Value} {base : Heap} {a : Adr}
theorem sc27 : FnScope ["field", "parts"] ["field", "parts"] (defScope (top 27)) := ⟨rfl, rfl, rfl, by decide +kernel, rfl, by decide +kernel, by decide +kernel⟩
theorem fn_group (T : Txt K mg a) : Fn P w K mg base "check_group" 2 (spGroup a.xl) := T.check_group.fn fun f fd F => by
  refine F.okx sc27 (fun vs H Q E h => ?_) (fun cdv A outer s H vs Q E hr h => ?_)
  · obtain ⟨_, _, _, rfl, _⟩ := h
    rfl
  · obtain ⟨p, l, n, rfl, hp, k1, k2⟩ := h
    have hu := hr.units
    refine ⟨_, pss_one (ps_if (pw_or (pt_cmpR (op_neI hu) (pv 0) (pe_lst pa_nil) (nomark _)) (pw_or1 (pt_cmpR op_gt (pv 1) pe_int (nomark _)))).pt
      (pss_one (ps_expr (pe_fn (fn_digit T) hr pass1 (pa_cons (pv 0) (pa_cons pe_int (pa_cons pe_int pa_nil)))))) pss_nil), ?_⟩
    refine ⟨_, rfl, (by show 0 ≤ sizeLine; decide), fun q hq => ?_⟩
    have sq := fun o => same_upd (o := o) hq
    have inner : (l ≠ [] ∨ 1 < n) → tDrop (tCall (spDigit a.xl) [] E (tCons (tVar 0) (tCons (tC (.int 0)) (tCons (tC (.int 9)) tNil)))) { nx := fun _ H' => Q .non H', rt := Q } (L2.start ["field", "parts"] [.ref p, .int (n : Int)]) (upd H q (.lst [])) := fun c =>
      ⟨_, rfl, p, l, 0, 9, rfl, sq _ _ _ hp, fun d H' s' => k1 (fun _ => d) _ ((sq _).trans s'), fun d H' s' => k2 (fun z => d (z c)) _ ((sq _).trans s')⟩
    refine ⟨p, q, l, [], rfl, rfl, SqL.of (sq _ _ _ hp), SqL.of upd_same, _, rfl, iteI (c := l ≠ []) (by simp) (fun e => iteT (inner (.inl e))) (fun e => ⟨_, rfl, _, _, rfl, rfl, _, rfl, iteI (c := 1 < n) (by simp; omega) (fun e2 => inner (.inr e2)) (fun e2 => ?_)⟩)⟩
    exact k1 (fun z => by rcases z with z | z; exact absurd z e; exact absurd z e2) _ (sq _)
theorem sc28 : FnScope ["field", "channel"] ["field"] (defScope (top 28)) := ⟨rfl, rfl, rfl, by decide +kernel, rfl, by decide +kernel, by decide +kernel⟩
theorem fn_channel (T : Txt K mg a) : Fn P w K mg base "check_channel" 2 (spCheck a.xl ChanOk) := T.check_channel.fn fun f fd F => by
  refine F.okx sc28 (fun vs H Q E h => ?_) (fun cdv A outer s H vs Q E hr h => ?_)
  · obtain ⟨_, _, rfl, _⟩ := h
    rfl
  · obtain ⟨p, l, rfl, hp, hl, k1, k2⟩ := h
    have hu := hr.units
    refine ⟨_, pss_one (ps_if (pt_cmpR (op_ninI hu) (pv 0)
          (pe_lc (own := [("channel", 1)]) rfl sc28.nd (pi_tup (pe_gr T.CHANNELS.1)) (blkOk_by (by show blkC ["field", "channel"] (defScope (top 28)) _ _ = true; decide +kernel)) (fun s H C cl fp => pg_name (i := 1) sc28.nd rfl (Or.inl rfl)) (fun s H C cl fp => pts_nil) (fun s H C cl fp => pe_fn (fn_codes T) hr passE (pa_cons (pv 1) pa_nil))) rfl)
        (pss_one (ps_raise T.xl (by rfl))) pss_nil), ?_⟩
    refine ⟨_, rfl, a.tc, rfl, ⟨_, T.CHANNELS.2 _⟩, fun D hD => lc_codes (xs := ["", "A", "B", "1", "2"]) T.CHANNELS.2 (by decide +kernel) (by decide) hD (fun _ => rfl) (fun _ => rfl) fun H' rs s1 h3 h4 => ?_⟩
    refine ⟨p, D, rs, l, [[], [65], [66], [49], [50]], rfl, rfl, SqL.of (s1 _ _ hp), .inl (SqL.of h3), RowsAt.lists h4, _, rfl,
      iteI (c := ¬ ChanOk l) (by simp [ChanOk]) (fun e5 => k2 e5 _ s1) (fun e5 => k1 (Classical.not_not.mp e5) _ s1)⟩
theorem sc29 : FnScope ["field", "code"] ["field"] (defScope (top 29)) := ⟨rfl, rfl, rfl, by decide +kernel, rfl, by decide +kernel, by decide +kernel⟩
theorem fn_payload (T : Txt K mg a) : Fn P w K mg base "check_payload" 2 (spCheck a.xl PayOk) := T.check_payload.fn fun f fd F => by
  refine F.okx sc29 (fun vs H Q E h => ?_) (fun cdv A outer s H vs Q E hr h => ?_)
  · obtain ⟨_, _, rfl, _⟩ := h
    rfl
  · obtain ⟨p, l, rfl, hp, hl, k1, k2⟩ := h
    have hu := hr.units
    refine ⟨_, pss_one (ps_if (pw_or (pt_cmpR (op_eqI hu) (pv 0) (pe_lst pa_nil) (nomark _)) (pw_or1 (pt_not (pt_val (pe_callB (cr_all rfl) (by rfl) T.all bAll (pa_cons
          (pe_lc (own := [("code", 1)]) rfl sc29.nd (pi_list (pv 0)) (blkOk_by (by show blkC ["field", "code"] (defScope (top 29)) _ _ = true; decide +kernel)) (fun s H C cl fp => pg_name (i := 1) sc29.nd rfl (Or.inl rfl)) (fun s H C cl fp => pts_nil) (fun s H C cl fp => pe_fn (fn_pay T) hr passE (pa_cons (pv 1) pa_nil))) pa_nil)))))).pt
        (pss_one (ps_raise T.xl (by rfl))) pss_nil), ?_⟩
    refine ⟨_, rfl, (by show 0 ≤ sizeLine; decide), fun q hq => ?_⟩
    have sq := fun o => same_upd (o := o) hq
    refine ⟨p, q, l, [], rfl, rfl, SqL.of (sq _ _ _ hp), SqL.of upd_same, _, rfl, iteI (c := l = []) (by simp) (fun e => iteT (k2 (fun z => z.1 e) _ (sq _))) (fun e => ?_)⟩
    refine ⟨_, rfl, p, rfl, ⟨_, SqL.of (sq _ _ _ hp)⟩, fun D hD => lc_list (K := K) (a := p) (xs := vI l) (fun i H' => ∃ bs : List Bool, Same H H' ∧ H' D = some (.lst (bs.map V.bl)) ∧ bs.length = i ∧ (bs.all (fun x => x) = true ↔ ∀ c ∈ l.take i, Pay c))
      ⟨[], (sq _).trans (same_upd hD), upd_same, rfl, by simp⟩ (fun i H' _ ⟨_, s1, _⟩ => SqL.of (s1 _ _ hp)) ?_ ?_⟩
    · rintro i y H' hy ⟨bs, s1, h1, h2, h3⟩
      obtain ⟨c, hc, rfl⟩ : ∃ c, l[i]? = some c ∧ y = V.int (c : Int) := by
        rw [List.getElem?_map] at hy
        cases e : l[i]? with
        | none => rw [e] at hy; cases hy
        | some x => rw [e] at hy; exact ⟨x, rfl, (Option.some.inj hy).symm⟩
      have hil : i < l.length := (List.getElem?_eq_some_iff.mp hc).1
      have hDH : H D = none := (sq _).free hD
      refine ⟨rfl, yes ⟨_, rfl, c, rfl, fun b hb => ⟨_, h1, sl' (m := 2000) (by rw [List.length_map]; omega), bs ++ [b], same_upd' s1 hDH, by rw [upd_same]; simp, by simp [h2], ?_⟩⟩⟩
      rw [List.take_add_one, hc, Option.toList_some, List.all_append]
      simp only [Bool.and_eq_true, h3, List.all_cons, List.all_nil, Bool.and_true, hb, List.mem_append, List.mem_singleton]
      constructor
      · rintro ⟨z1, z2⟩ x (z | z)
        · exact z1 x z
        · rw [z]; exact z2
      · intro z
        exact ⟨fun x hx => z x (.inl hx), z c (.inr rfl)⟩
    · rintro H' ⟨bs, s1, h1, h2, h3⟩
      rw [vI_len, List.take_length] at h3
      refine ⟨D, bs, rfl, SqL.of h1, _, rfl, iteI (c := ¬ ∀ c ∈ l, Pay c) (by rw [← h3]; simp) (fun e2 => k2 (fun z => e2 z.2) _ s1) (fun e2 => k1 ⟨e, Classical.not_not.mp e2⟩ _ s1)⟩
theorem sc30 : FnScope ["field"] ["field"] (defScope (top 30)) := ⟨rfl, rfl, rfl, by decide +kernel, rfl, by decide +kernel, by decide +kernel⟩
theorem fn_tail (T : Txt K mg a) : Fn P w K mg base "check_tail" 1 (spCheck a.xl TailOk) := T.check_tail.fn fun f fd F => by
  refine F.okx sc30 (fun vs H Q E h => ?_) (fun cdv A outer s H vs Q E hr h => ?_)
  · obtain ⟨_, _, rfl, _⟩ := h
    rfl
  · obtain ⟨p, l, rfl, hp, hl, k1, k2⟩ := h
    refine ⟨_, pss_one (ps_if (pw_or (pt_cmpR op_ne (pe_callB call_len_seq (by rfl) T.len bLen (pa_cons (pv 0) pa_nil)) pe_int (nomark _))
        (pw_or1 (pt_cmpR op_ne (pe_ix ix_list (pv 0) pe_int (fun _ _ => rfl)) (pe_callB call_ord (by rfl) T.ord bOrd (pa_cons pe_str pa_nil)) (nomark _)))).pt
        (pss_one (ps_raise T.xl (by rfl))) pss_nil), ?_⟩
    refine ⟨_, rfl, p, _, rfl, .inl (SqL.of hp), rfl, _, rfl, ?_⟩
    rw [vI_len]
    refine iteI (c := ¬ l.length = 4) (by simp; omega) (fun e => iteT (k2 (fun z => e z.1) _ (Same.refl _))) (fun e => ?_)
    have e : l.length = 4 := by omega
    have h1 := getD_get (l := l) (i := 1) (by omega)
    refine ⟨_, rfl, p, _, _, _, rfl, rfl, SqL.of hp, at_vI (i := 1) rfl h1, _, rfl, rfl, rfl, _, rfl, ?_⟩
    rw [ordS]
    exact iteI (c := ¬ l.getD 1 0 = 42) (by simp; omega) (fun e2 => k2 (fun z => e2 z.2) _ (Same.refl _)) (fun e2 => k1 ⟨e, by omega⟩ _ (Same.refl _))
theorem sc31 : FnScope ["digits", "sixteen"] ["digits"] (defScope (top 31)) := ⟨rfl, rfl, rfl, by decide +kernel, rfl, by decide +kernel, by decide +kernel⟩
theorem fn_sum (T : Txt K mg a) : Fn P w K mg base "read_sum" 2 (spSum a.xl) := T.read_sum.fn fun f fd F => by
  refine F.okx sc31 (fun vs H Q E h => ?_) (fun cdv A outer s H vs Q E hr h => ?_)
  · obtain ⟨_, _, _, rfl, _⟩ := h
    rfl
  · obtain ⟨p, x, y, rfl, hp, k1, k2⟩ := h
    refine ⟨_, pss_cons (ps_set (i := 1) sc31.nd rfl (Or.inl rfl) (pe_fn (fn_codes T) hr passE (pa_cons (pe_gs T.SIXTEEN_DIGITS) pa_nil)))
      (pss_cons (ps_if (pw_or (pt_cmpR op_notIn_seq (pe_ix ix_list (pv 0) pe_int (fun _ _ => rfl)) (pv 1) rfl) (pw_or1 (pt_cmpR op_notIn_seq (pe_ix ix_list (pv 0) pe_int (fun _ _ => rfl)) (pv 1) rfl))).pt
        (pss_one (ps_raise T.xl (by rfl))) pss_nil)
      (pss_one (ps_ret (pe_op op_add (pe_op op_mul (pe_bm PySem.F.plainAttrs_list PySem.F.slot_list_index PySem.F.type_list_index mt_index (pv 1) (pa_cons (pe_ix ix_list (pv 0) pe_int (fun _ _ => rfl)) pa_nil)) pe_int)
        (pe_bm PySem.F.plainAttrs_list PySem.F.slot_list_index PySem.F.type_list_index mt_index (pv 1) (pa_cons (pe_ix ix_list (pv 0) pe_int (fun _ _ => rfl)) pa_nil)))))), ?_⟩
    refine ⟨_, rfl, (by rw [tl16]; decide), fun q H1 hq s1 h1 => ?_⟩
    rw [tl16] at h1
    have hp1 := s1 _ _ hp
    have a0 : atI (vI [x, y]) 0 = some (V.int (x : Int)) := at_vI (i := 0) rfl rfl
    have a1 : atI (vI [x, y]) 1 = some (V.int (y : Int)) := at_vI (i := 1) rfl rfl
    refine ⟨_, rfl, p, _, _, _, rfl, rfl, SqL.of hp1, a0, _, rfl, q, _, rfl, .inl (SqL.of h1), rfl, flat_vI _, _, rfl, ?_⟩
    rw [inV_vI]
    refine iteI (c := ¬ Hex x) (by rw [← hex_mem]; simp) (fun e => iteT (k2 (fun z => e z.1) _ s1)) (fun e => ?_)
    refine ⟨_, rfl, p, _, _, _, rfl, rfl, SqL.of hp1, a1, _, rfl, q, _, rfl, .inl (SqL.of h1), rfl, flat_vI _, _, rfl, ?_⟩
    rw [inV_vI]
    refine iteI (c := ¬ Hex y) (by rw [← hex_mem]; simp) (fun e2 => k2 (fun z => e2 z.2) _ s1) (fun e2 => ?_)
    have hx : Hex x := Classical.not_not.mp e
    have hy : Hex y := Classical.not_not.mp e2
    have ix : ∀ c, Hex c → (vI sixteen)[hexV c]? = some (V.int (c : Int)) ∧ ∀ (m : Nat) (z' : V), m < hexV c → (vI sixteen)[m]? = some z' → eqV z' (V.int (c : Int)) = false := fun c hc => by
      obtain ⟨i1, i2⟩ := hex_ix hc
      refine ⟨vI_get i1, fun m z' hm hz => ?_⟩
      rw [List.getElem?_map] at hz
      cases e : sixteen[m]? with
      | none => rw [e] at hz; cases hz
      | some d =>
        rw [e] at hz
        obtain rfl : z' = V.int (d : Int) := (Option.some.inj hz).symm
        rw [eqV_nat]
        exact decide_eq_false fun q => i2 m hm (by rw [e, q])
    have ee : ∀ c : Nat, eqV (V.int (c : Int)) (V.int (c : Int)) = true := fun c => by rw [eqV_nat]; simp
    refine ⟨_, rfl, .inl ⟨rfl, _, SqL.of h1⟩, _, rfl, p, _, _, _, rfl, rfl, SqL.of hp1, a0, q, _, _, hexV x, _, rfl, rfl, SqL.of h1, rfl, flat_vI _, (ix x hx).1, ee x, (ix x hx).2, _, _, rfl, rfl, .inr ⟨by decide, by decide⟩,
      _, rfl, .inl ⟨rfl, _, SqL.of h1⟩, _, rfl, p, _, _, _, rfl, rfl, SqL.of hp1, a1, q, _, _, hexV y, _, rfl, rfl, SqL.of h1, rfl, flat_vI _, (ix y hy).1, ee y, (ix y hy).2, _, _, rfl, rfl, ?_⟩
    have z := k1 ⟨hx, hy⟩ _ s1
    show Q (V.int (((hexV x : Nat) : Int) * 16 + ((hexV y : Nat) : Int))) H1
    have e9 : ((hexV x * 16 + hexV y : Nat) : Int) = ((hexV x : Nat) : Int) * 16 + ((hexV y : Nat) : Int) := by omega
    rw [e9] at z
    exact z
end
end Sr
namespace L2
open PySem
theorem pe_weak {X : Cx} {e : Expr} {t t' : TE} (h : PE X e t) (q : ∀ σ H Q, t' σ H Q → t σ H Q) : PE X e t' := fun pins s σ H Q I z => h pins s σ H Q I (q σ H Q z)
theorem pt_weak {X : Cx} {e : Expr} {t t' : TT} (h : PT X e t) (q : ∀ σ H Q, t' σ H Q → t σ H Q) : PT X e t' := fun pins s σ H Q I z => h pins s σ H Q I (q σ H Q z)
theorem ps_weak {X : Cx} {e : Stmt} {t t' : TS} (h : PS X e t) (q : ∀ D σ H, t' D σ H → t D σ H) : PS X e t' := fun pins s σ H Q I z => h pins s σ H Q I (q Q σ H z)
end L2
namespace Sr
open PySem L2 Sh
theorem get_vI {l : List Nat} {i : Nat} {y : V} (h : (vI l)[i]? = some y) : ∃ c, l[i]? = some c ∧ y = V.int (c : Int) := by
  rw [List.getElem?_map] at h
  cases e : l[i]? with
  | none => rw [e] at h; cases h
  | some x => rw [e] at h; exact ⟨x, rfl, (Option.some.inj h).symm⟩
theorem xor_snoc (l : List Nat) (c : Nat) : Sd37.xor (l ++ [c]) = Sd37.xor l ^^^ c := by simp [Sd37.xor]
def tSix (i : Nat) : TE := fun σ H Q => ∃ c : Nat, σ[i]? = some (some (.int (c : Int))) ∧ Pay c ∧ Q (.int ((Sd37.sixOf c : Nat) : Int)) H
theorem six_vals (c : Nat) : vB (six c) = [V.int ((Sd37.sixOf c / 32 % 2 : Nat) : Int), V.int ((Sd37.sixOf c / 16 % 2 : Nat) : Int), V.int ((Sd37.sixOf c / 8 % 2 : Nat) : Int), V.int ((Sd37.sixOf c / 4 % 2 : Nat) : Int), V.int ((Sd37.sixOf c / 2 % 2 : Nat) : Int), V.int ((Sd37.sixOf c / 1 % 2 : Nat) : Int)] := by
  have e : vB (six c) = ((six c).map b2i).map V.int := by rw [List.map_map]; rfl
  rw [e, six_bits]
  rfl
abbrev places : List V := [.int 32, .int 16, .int 8, .int 4, .int 2, .int 1]
theorem place_at {c j : Nat} {y : V} (h : places[j]? = some y) : ∃ z : Int, y = .int z ∧ CDiv ((Sd37.sixOf c : Nat) : Int) z ∧ (vB (six c))[j]? = some (V.int (((Sd37.sixOf c : Nat) : Int) / z % 2)) := by
  rw [six_vals]
  match j, h with
  | 0, h => exact ⟨32, (Option.some.inj h).symm, ⟨by decide, by decide⟩, rfl⟩
  | 1, h => exact ⟨16, (Option.some.inj h).symm, ⟨by decide, by decide⟩, rfl⟩
  | 2, h => exact ⟨8, (Option.some.inj h).symm, ⟨by decide, by decide⟩, rfl⟩
  | 3, h => exact ⟨4, (Option.some.inj h).symm, ⟨by decide, by decide⟩, rfl⟩
  | 4, h => exact ⟨2, (Option.some.inj h).symm, ⟨by decide, by decide⟩, rfl⟩
  | 5, h => exact ⟨1, (Option.some.inj h).symm, ⟨by decide, by decide⟩, rfl⟩
  | j + 6, h => simp at h
theorem vB_len (b : List Bool) : (vB b).length = b.length := by simp
theorem vB_app (a b : List Bool) : vB (a ++ b) = vB a ++ vB b := by simp
section
variable {P : Program} {w : World} {K : PySem.W.Frag} {mg : Str → Option Value} {base : Heap} {a : Adr}
theorem sc32 : FnScope ["line", "total", "code"] ["line"] (defScope (top 32)) := ⟨rfl, rfl, rfl, by decide +kernel, rfl, by decide +kernel, by decide +kernel⟩
theorem fn_xor (T : Txt K mg a) : Fn P w K mg base "sum_of" 1 spXor := T.sum_of.fn fun f fd F => by
  refine F.ok0 sc32 (fun vs H Q E h => ?_) (fun cdv A outer s H vs Q E hr h => ?_)
  · obtain ⟨_, _, rfl, _⟩ := h
    rfl
  · obtain ⟨p, l, rfl, hp, k⟩ := h
    refine ⟨_, pss_cons (ps_set (i := 1) sc32.nd rfl (Or.inl rfl) pe_int)
      (pss_cons (ps_for PassesOwn.never rfl (pi_list (pe_slice sl_list (pv 0) (po_some pe_int) (po_some (pe_un un_neg pe_int)))) (pg_name (i := 2) sc32.nd rfl (Or.inl rfl))
        (pss_one (ps_set (i := 1) sc32.nd rfl (Or.inl rfl) (pe_op op_xor (pv 1) (pv 2)))))
      (pss_one (ps_ret (pv 1)))), ?_⟩
    have c2 : cutV (vI l) (some 1) (some (-3)) = vI ((l.drop 1).take (l.length - 4)) := cut_13.trans (by rw [vI_len, vI_drop, vI_take])
    refine ⟨_, rfl, _, rfl, _, rfl, _, rfl, p, _, rfl, SqL.of hp, fun q hq => ?_⟩
    rw [c2]
    refine ⟨q, rfl, ⟨_, SqL.of upd_same⟩, for_list (K := K) (a := q) (xs := vI ((l.drop 1).take (l.length - 4)))
      (fun i σ H' => ∃ v : Option V, σ = [some (.ref p), some (.int ((Sd37.xor (((l.drop 1).take (l.length - 4)).take i) : Nat) : Int)), v] ∧ Same H H' ∧ H' q = some (.lst (vI ((l.drop 1).take (l.length - 4)))))
      ⟨none, rfl, same_upd hq, upd_same⟩ (fun i σ H' _ ⟨_, _, _, h⟩ => SqL.of h) ?_ ?_⟩
    · rintro i y σ H' hy ⟨v, rfl, s1, h1⟩
      obtain ⟨c, hc, rfl⟩ := get_vI hy
      refine ⟨_, rfl, _, rfl, _, _, rfl, rfl, some (.int c), ?_, s1, h1⟩
      have ex : Builtin.bitXor ((Sd37.xor (((l.drop 1).take (l.length - 4)).take i) : Nat) : Int) (c : Int) = ((Sd37.xor (((l.drop 1).take (l.length - 4)).take (i + 1)) : Nat) : Int) := by
        rw [xor_nat, List.take_add_one, hc, Option.toList_some, xor_snoc]
      exact congrArg (fun z => [some (V.ref p), some (V.int z), some (V.int (c : Int))]) ex
    · rintro σ H' ⟨v, rfl, s1, h1⟩
      refine ⟨_, rfl, ?_⟩
      rw [vI_len, List.take_length]
      exact k _ s1
theorem sc33 : FnScope ["payload", "uncounted", "bits", "code", "value", "place"] ["payload", "uncounted"] (defScope (top 33)) := ⟨rfl, rfl, rfl, by decide +kernel, rfl, by decide +kernel, by decide +kernel⟩
theorem fn_bits (T : Txt K mg a) : Fn P w K mg base "bits_of" 1 spBits := T.bits_of.fn fun f fd F => by
  refine F.ok0 sc33 (fun vs H Q E h => ?_) (fun cdv A outer s H vs Q E hr h => ?_)
  · obtain ⟨_, _, _, rfl, _⟩ := h
    rfl
  · obtain ⟨p, l, u, rfl, hp, hl, hpay, hu, k⟩ := h
    refine ⟨_, pss_cons (ps_set (i := 2) sc33.nd rfl (Or.inl rfl) (pe_lst pa_nil))
      (pss_cons (ps_for PassesOwn.never rfl (pi_list (pv 0)) (pg_name (i := 3) sc33.nd rfl (Or.inl rfl))
        (pss_cons (ps_set (i := 4) sc33.nd rfl (Or.inl rfl) (pe_weak (t' := tSix 3) (pe_ifExp (pt_cmpR op_lt (pv 3) (pe_gi T.BACK_QUOTE) (nomark _)) (pe_op op_sub (pv 3) (pe_gi T.ZERO)) (pe_op op_sub (pe_op op_sub (pv 3) (pe_gi T.ZERO)) pe_int)) ?w))
        (pss_one (ps_for PassesOwn.never rfl (pi_tup (pe_tup (pa_cons pe_int (pa_cons pe_int (pa_cons pe_int (pa_cons pe_int (pa_cons pe_int (pa_cons pe_int pa_nil)))))))) (pg_name (i := 5) sc33.nd rfl (Or.inl rfl))
          (pss_one (ps_expr (pe_bm PySem.F.plainAttrs_list PySem.F.slot_list_append PySem.F.type_list_append mt_append (pv 2) (pa_cons (pe_op op_mod (pe_op op_fdiv (pv 4) (pv 5)) pe_int) pa_nil))))))))
      (pss_one (ps_ret (pe_slice sl_list (pv 2) po_none (po_some (pe_op op_sub (pe_callB call_len_seq (by rfl) T.len bLen (pa_cons (pv 2) pa_nil)) (pv 1))))))), ?_⟩
    case w =>
      rintro σ H' Q' ⟨c, h1, h2, h3⟩
      refine ⟨_, h1, _, _, rfl, rfl, _, rfl, iteI (c := c < 96) (by simp; omega) (fun e => ⟨_, h1, _, _, rfl, rfl, ?_⟩) (fun e => ⟨_, h1, _, _, rfl, rfl, _, _, rfl, rfl, ?_⟩)⟩
      · have e5 : (c : Int) - 48 = ((Sd37.sixOf c : Nat) : Int) := by unfold Sd37.sixOf Pay at *; rw [if_pos e]; omega
        show Q' (V.int ((c : Int) - 48)) H'
        rw [e5]; exact h3
      · have e5 : (c : Int) - 48 - 8 = ((Sd37.sixOf c : Nat) : Int) := by unfold Sd37.sixOf Pay at *; rw [if_neg e]; omega
        show Q' (V.int ((c : Int) - 48 - 8)) H'
        rw [e5]; exact h3
    refine ⟨(by show 0 ≤ sizeLine; decide), fun D hD => ?_⟩
    refine ⟨_, rfl, p, rfl, ⟨_, SqL.of (same_upd hD _ _ hp)⟩, for_list (K := K) (a := p) (xs := vI l)
      (fun i σ H' => ∃ v1 v2 v3 : Option V, σ = [some (.ref p), some (.int (u : Int)), some (.ref D), v1, v2, v3] ∧ Same H H' ∧ H' D = some (.lst (vB (Sd37.bitsOf (l.take i)))))
      ⟨none, none, none, rfl, same_upd hD, upd_same⟩ (fun i σ H' _ ⟨_, _, _, _, s1, _⟩ => SqL.of (s1 _ _ hp)) ?_ ?_⟩
    · rintro i y σ H' hy ⟨v1, v2, v3, rfl, s1, h1⟩
      obtain ⟨c, hc, rfl⟩ := get_vI hy
      have hil : i < l.length := (List.getElem?_eq_some_iff.mp hc).1
      refine ⟨c, rfl, hpay c (List.mem_of_getElem? hc), (by show 6 ≤ sizeLine; decide), fun t ht => ?_⟩
      have nDt : D ≠ t := ne_of_none h1 ht
      refine ⟨t, rfl, ⟨_, SqT.of upd_same⟩, for_tup (K := K) (a := t) (xs := places)
        (fun j σ H2 => ∃ v3 : Option V, σ = [some (.ref p), some (.int (u : Int)), some (.ref D), some (.int (c : Int)), some (.int ((Sd37.sixOf c : Nat) : Int)), v3] ∧ Same H H2 ∧ H2 t = some (.tup places) ∧ H2 D = some (.lst (vB (Sd37.bitsOf (l.take i)) ++ (vB (six c)).take j)))
        ⟨v3, rfl, same_upd' s1 (s1.free ht), upd_same, by rw [upd_ne nDt, h1]; simp⟩ (fun j σ H2 _ ⟨_, _, _, h, _⟩ => SqT.of h) ?_ ?_⟩
      · rintro j y σ H2 hj ⟨v3, rfl, s2, h2, h3⟩
        obtain ⟨z, rfl, hz, hb⟩ := place_at (c := c) hj
        have hlen : (vB (Sd37.bitsOf (l.take i)) ++ (vB (six c)).take j).length < sizeLine := by
          rw [List.length_append, vB_len, bitsOf_length, List.length_take, List.length_take, vB_len, six_length]
          exact sl' (m := 12006) (by omega)
        refine ⟨_, rfl, .inl ⟨rfl, _, SqL.of h3⟩, _, rfl, _, rfl, _, _, rfl, rfl, hz, _, _, rfl, rfl, (by show (0 : Int) < 2; decide), D, _, _, rfl, rfl, h3, hlen, _, rfl, same_upd' s2 hD, ?_, ?_⟩
        · rw [upd_ne nDt.symm]; exact h2
        · rw [upd_same, List.take_add_one, hb, Option.toList_some, List.append_assoc]
      · rintro σ H2 ⟨v3, rfl, s2, h2, h3⟩
        refine ⟨_, _, _, rfl, s2, ?_⟩
        have e6 : (vB (six c)).take places.length = vB (six c) := List.take_of_length_le (by rw [vB_len, six_length]; decide)
        have et : l.take (i + 1) = l.take i ++ [c] := by rw [List.take_add_one, hc]; rfl
        have e1 : Sd37.bitsOf [c] = six c := by rw [bitsOf_cons]; exact List.append_nil _
        rw [h3, e6, et, bitsOf_app, e1, vB_app]
    · rintro σ H' ⟨v1, v2, v3, rfl, s1, h1⟩
      rw [vI_len, List.take_length] at h1
      refine ⟨_, rfl, _, rfl, D, _, rfl, .inl (SqL.of h1), _, rfl, _, _, rfl, rfl, _, rfl, D, _, rfl, SqL.of h1, fun q hq => new_of k ?_ s1 hq⟩
      have e1 : (((vB (Sd37.bitsOf l)).length : Nat) : Int) - (u : Int) = (((Sd37.bitsOf l).length - u : Nat) : Int) := by
        rw [vB_len, bitsOf_length]; omega
      rw [e1, cut_to]
      unfold Sd37.cut
      exact List.map_take.symm
end
end Sr
namespace Sr
open PySem L2 Sh
theorem lkE {f : Str} {v : V} {r : List (Str × V)} : List.lookup f ((f, v) :: r) = some v := by simp [List.lookup]
theorem lkN {f g : Str} {v : V} {r : List (Str × V)} (h : ¬ f = g) : List.lookup f ((g, v) :: r) = List.lookup f r := by
  have hb : (f == g) = false := beq_eq_false_iff_ne.mpr h
  simp only [List.lookup, hb]
theorem lkNil {f : Str} : List.lookup f ([] : List (Str × V)) = none := rfl
theorem ptE {f : Str} {v x : V} {r : List (Str × V)} : putF f v ((f, x) :: r) = (f, v) :: r := by
  show (if f = f then _ else _) = _
  rw [if_pos rfl]
theorem ptN {f g : Str} {v x : V} {r : List (Str × V)} (h : ¬ g = f) : putF f v ((g, x) :: r) = (g, x) :: putF f v r := by
  show (if g = f then _ else _) = _
  rw [if_neg h]
theorem ptNil {f : Str} {v : V} : putF f v [] = [(f, v)] := rfl
theorem put1 {f g : Str} {v x : V} (h : ¬ g = f) : putF f v [(g, x)] = [(g, x), (f, v)] := by rw [ptN h, ptNil]
theorem put2 {f g1 g2 : Str} {v x1 x2 : V} (h1 : ¬ g1 = f) (h2 : ¬ g2 = f) : putF f v [(g1, x1), (g2, x2)] = [(g1, x1), (g2, x2), (f, v)] := by rw [ptN h1, put1 h2]
theorem put3 {f g1 g2 g3 : Str} {v x1 x2 x3 : V} (h1 : ¬ g1 = f) (h2 : ¬ g2 = f) (h3 : ¬ g3 = f) : putF f v [(g1, x1), (g2, x2), (g3, x3)] = [(g1, x1), (g2, x2), (g3, x3), (f, v)] := by rw [ptN h1, put2 h2 h3]
def fS (k p w b : V) : List (Str × V) := [("key", k), ("parts", p), ("which", w), ("bits", b)]
section
variable {k p w b : V}
theorem fS_key : (fS k p w b).lookup ("key" : Str) = some k := lkE
theorem fS_parts : (fS k p w b).lookup ("parts" : Str) = some p := (lkN (by decide +kernel)).trans lkE
theorem fS_which : (fS k p w b).lookup ("which" : Str) = some w := (lkN (by decide +kernel)).trans ((lkN (by decide +kernel)).trans lkE)
theorem fS_bits : (fS k p w b).lookup ("bits" : Str) = some b := (lkN (by decide +kernel)).trans ((lkN (by decide +kernel)).trans ((lkN (by decide +kernel)).trans lkE))
theorem fS_put : putF "bits" b (putF "which" w (putF "parts" p (putF "key" k []))) = fS k p w b := by
  rw [ptNil, put1 (by decide +kernel), put2 (by decide +kernel) (by decide +kernel), put3 (by decide +kernel) (by decide +kernel) (by decide +kernel)]
  rfl
end
abbrev kI (l : List Nat) : List Key := l.map fun (n : Nat) => Sum.inl (n : Int)
theorem kI_vI (l : List Nat) : (kI l).map kV = vI l := by simp [kV]
def ownL (b : Bool) : List Nat := if b = true then [86, 68, 79] else [86, 68, 77]
def seqL (o : Option Nat) : List Nat := match o with
  | none => []
  | some d => [48 + d]
def keyN (x : Sd37.Sentence) : NK := [kI (ownL x.own), kI (seqL x.seq), kI x.channel]
def SentAt (a : Adr) (H : Hp) (s : Addr) (x : Sd37.Sentence) : Prop := ∃ dx kb B, H s = some (.ins a.cs dx (fS (.ref kb) (.int (x.total : Int)) (.int (x.which : Int)) (.ref B))) ∧ NTup H kb (keyN x) ∧ H B = some (.lst (vB (Sd37.cut (Sd37.bitsOf x.load) x.fill)))
def spSent (a : Adr) : Sp := fun vs H Q _ => ∃ (x dx : Addr) (k p w b : V), vs = [.ref x, k, p, w, b] ∧ H x = some (.ins a.cs dx []) ∧ Q .non (upd H x (.ins a.cs dx (fS k p w b)))
def spRead (a : Adr) : Sp := fun vs H Q E => ∃ (p : Addr) (l : List Nat), vs = [.ref p] ∧ H p = some (.lst (vI l)) ∧ l.length ≤ 1024 ∧
  (readS l = .error .form → ∀ H', Same H H' → E (.ref a.xl) none H') ∧ (readS l = .error .sum → ∀ H', Same H H' → E (.ref a.xo) none H') ∧ (∀ x s H', readS l = .ok x → Same H H' → SentAt a H' s x → Q (.ref s) H')
def tSel (i j : Nat) : TE := fun σ H Q => ∃ x y : Nat, σ[i]? = some (some (.int (x : Int))) ∧ σ[j]? = some (some (.int (y : Int))) ∧ Q (.int ((if x = y then 5 else 0 : Nat) : Int)) H
theorem ending_len (l : List Nat) : (ending l).length ≤ l.length := by
  unfold ending
  split
  · rw [List.length_take]; omega
  · split
    · rw [List.length_take]; omega
    · exact Nat.le_refl _
theorem NTup.mk3 {H : Hp} {b r0 r1 r2 : Addr} {k0 k1 k2 : List Nat} (hb : H b = some (.tup [.ref r0, .ref r1, .ref r2])) (h0 : H r0 = some (.tup (vI k0))) (h1 : H r1 = some (.tup (vI k1))) (h2 : H r2 = some (.tup (vI k2))) : NTup H b [kI k0, kI k1, kI k2] :=
  ⟨[r0, r1, r2], hb, .cons (by rw [kI_vI]; exact h0) (.cons (by rw [kI_vI]; exact h1) (.cons (by rw [kI_vI]; exact h2) .nil))⟩
theorem own_drop {l : List Nat} (h : l.drop 3 = [86, 68, 77] ∨ l.drop 3 = [86, 68, 79]) : ownL (l.drop 3 == Sd37.ascii "VDO") = l.drop 3 := by
  rw [ascii_VDO]
  rcases h with h | h <;> rw [h] <;> rfl
theorem seq_head {s : List Nat} {n : Nat} (h : GroupOk s n) : seqL (s.head?.map fun d => d - 48) = s := by
  cases s with
  | nil => rfl
  | cons c r =>
    obtain ⟨h1, h2, h3⟩ := h (.inl (by simp))
    have hr : r = [] := by simpa using h1
    subst hr
    have h2 : 48 + 0 ≤ c := h2
    show [48 + (c - 48)] = [c]
    congr 1
    omega
section
variable {P : Program} {w : World} {K : PySem.W.Frag} {mg : Str → Option Value} {base : Heap} {a : Adr}
theorem sc20 : FnScope ["self", "key", "parts", "which", "bits"] ["self", "key", "parts", "which", "bits"] (defScope (inClass (top 20) 0)) := ⟨rfl, rfl, rfl, by decide +kernel, rfl, by decide +kernel, by decide +kernel⟩
theorem mk_sent (T : Txt K mg a) : Mkr P w K mg base "Sentence" a.cs 1 (spSent a) := T.Sentence.mkr fun f fd F => by
  refine F.ok0 sc20 (fun vs H Q E h => ?_) (fun cdv A outer s H vs Q E hr h => ?_)
  · obtain ⟨_, _, _, _, _, _, rfl, _⟩ := h
    rfl
  · obtain ⟨x, dx, k, p, w, b, rfl, hx, q⟩ := h
    refine ⟨_, pss_cons (ps_fld (pv 0) (pv 1) rfl) (pss_cons (ps_fld (pv 0) (pv 2) rfl) (pss_cons (ps_fld (pv 0) (pv 3) rfl) (pss_one (ps_fld (pv 0) (pv 4) rfl)))), ?_⟩
    refine ⟨_, rfl, _, rfl, x, a.cs, dx, _, rfl, hx, T.cs, T.s_key, (by show 0 < 1000; decide), _, rfl, _, rfl, x, a.cs, dx, _, rfl, upd_same, T.cs, T.s_parts, (by show 1 < 1000; decide),
      _, rfl, _, rfl, x, a.cs, dx, _, rfl, upd_same, T.cs, T.s_which, ?_, _, rfl, _, rfl, x, a.cs, dx, _, rfl, upd_same, T.cs, T.s_bits, ?_, ?_⟩
    · exact Nat.lt_of_le_of_lt (length_putF _ _ _) (by show 1 + 1 < 1000; decide)
    · exact Nat.lt_of_le_of_lt (length_putF _ _ _) (Nat.lt_of_le_of_lt (Nat.succ_le_succ (length_putF _ _ _)) (by show 1 + 1 + 1 < 1000; decide))
    · rw [upd_upd, upd_upd, upd_upd, fS_put]
      exact q
theorem sc34 : FnScope ["row", "line", "fields", "parts", "which", "uncounted", "key"] ["row"] (defScope (top 34)) := ⟨rfl, rfl, rfl, by decide +kernel, rfl, by decide +kernel, by decide +kernel⟩
theorem fn_sentence (T : Txt K mg a) : Fn P w K mg base "read_sentence" 3 (spRead a) := T.read_sentence.fn fun f fd F => by
  refine F.okx sc34 (fun vs H Q E h => ?_) (fun cdv A outer s H vs Q E hr h => ?_)
  · obtain ⟨_, _, rfl, _⟩ := h
    rfl
  · obtain ⟨p, l, rfl, hp, hl, kf, ks, ko⟩ := h
    have hr1 := hr.mono (show 1 ≤ 2 by decide)
    refine ⟨_, pss_cons (ps_set (i := 1) sc34.nd rfl (Or.inl rfl) (pe_fn (fn_ending T) hr1 passE (pa_cons (pv 0) pa_nil)))
      <| pss_cons (ps_set (i := 2) sc34.nd rfl (Or.inl rfl) (pe_fn (fn_split T) hr1 passE (pa_cons (pv 1) pa_nil)))
      <| pss_cons (ps_if (pw_or (pt_cmpR op_gt (pe_callB call_len_seq (by rfl) T.len bLen (pa_cons (pv 1) pa_nil)) (pe_gi T.LONGEST_LINE) (nomark _)) (pw_or1 (pt_cmpR op_ne (pe_callB call_len_seq (by rfl) T.len bLen (pa_cons (pv 2) pa_nil)) (pe_gi T.FIELDS) (nomark _)))).pt
        (pss_one (ps_raise T.xl (by rfl))) pss_nil)
      <| pss_cons (ps_expr (pe_fn (fn_head T) hr pass1 (pa_cons (pe_ix ix_list (pv 2) pe_int (fun _ _ => rfl)) pa_nil)))
      <| pss_cons (ps_set (i := 3) sc34.nd rfl (Or.inl rfl) (pe_fn (fn_digit T) hr1 pass1 (pa_cons (pe_ix ix_list (pv 2) pe_int (fun _ _ => rfl)) (pa_cons pe_int (pa_cons pe_int pa_nil)))))
      <| pss_cons (ps_set (i := 4) sc34.nd rfl (Or.inl rfl) (pe_fn (fn_digit T) hr1 pass1 (pa_cons (pe_ix ix_list (pv 2) pe_int (fun _ _ => rfl)) (pa_cons pe_int (pa_cons (pv 3) pa_nil)))))
      <| pss_cons (ps_expr (pe_fn (fn_group T) hr pass1 (pa_cons (pe_ix ix_list (pv 2) pe_int (fun _ _ => rfl)) (pa_cons (pv 3) pa_nil))))
      <| pss_cons (ps_expr (pe_fn (fn_channel T) hr pass1 (pa_cons (pe_ix ix_list (pv 2) pe_int (fun _ _ => rfl)) pa_nil)))
      <| pss_cons (ps_expr (pe_fn (fn_payload T) hr pass1 (pa_cons (pe_ix ix_list (pv 2) pe_int (fun _ _ => rfl)) pa_nil)))
      <| pss_cons (ps_expr (pe_fn (fn_tail T) hr1 pass1 (pa_cons (pe_ix ix_list (pv 2) pe_int (fun _ _ => rfl)) pa_nil)))
      <| pss_cons (ps_set (i := 5) sc34.nd rfl (Or.inl rfl) (pe_fn (fn_digit T) hr1 pass1 (pa_cons (pe_slice sl_list (pe_ix ix_list (pv 2) pe_int (fun _ _ => rfl)) po_none (po_some pe_int)) (pa_cons pe_int (pa_cons (pe_weak (t' := tSel 4 3) (pe_ifExp (pt_cmpR op_eq (pv 4) (pv 3) (nomark _)) pe_int pe_int) ?w) pa_nil)))))
      <| pss_cons (ps_if (pt_cmpR op_ne (pe_fn (fn_sum T) hr pass1 (pa_cons (pe_slice sl_list (pe_ix ix_list (pv 2) pe_int (fun _ _ => rfl)) (po_some pe_int) po_none) pa_nil)) (pe_fn (fn_xor T) hr1 passE (pa_cons (pv 1) pa_nil)) (nomark _))
        (pss_one (ps_raise T.xo (by rfl))) pss_nil)
      <| pss_cons (ps_set (i := 6) sc34.nd rfl (Or.inl rfl) (pe_tup (pa_cons (pe_callTy call_tuple_of (by rfl) T.tuple bTup (pa_cons (pe_slice sl_list (pe_ix ix_list (pv 2) pe_int (fun _ _ => rfl)) (po_some pe_int) po_none) pa_nil))
        (pa_cons (pe_callTy call_tuple_of (by rfl) T.tuple bTup (pa_cons (pe_ix ix_list (pv 2) pe_int (fun _ _ => rfl)) pa_nil)) (pa_cons (pe_callTy call_tuple_of (by rfl) T.tuple bTup (pa_cons (pe_ix ix_list (pv 2) pe_int (fun _ _ => rfl)) pa_nil)) pa_nil)))))
      <| pss_one (ps_ret (pe_mk (mk_sent T) hr passE (pa_cons (pv 6) (pa_cons (pv 3) (pa_cons (pv 4) (pa_cons (pe_fn (fn_bits T) hr1 passE (pa_cons (pe_ix ix_list (pv 2) pe_int (fun _ _ => rfl)) (pa_cons (pv 5) pa_nil))) pa_nil)))))), ?_⟩
    case w =>
      rintro σ H' Q' ⟨x, y, h1, h2, h3⟩
      refine ⟨_, h1, _, h2, rfl, _, rfl, iteI (c := x = y) (by simp; omega) (fun e => ?_) (fun e => ?_)⟩
      · rw [if_pos e] at h3; exact h3
      · rw [if_neg e] at h3; exact h3
    refine ⟨_, rfl, p, l, rfl, hp, fun L H1 s1 hL => ?_⟩
    have hel : (ending l).length ≤ 1024 := Nat.le_trans (ending_len l) hl
    refine ⟨_, rfl, L, ending l, rfl, hL, by omega, fun F0 rs H2 s2 hF hR => ?_⟩
    have hL2 := s2 _ _ hL
    have sH2 := s1.trans s2
    refine ⟨_, rfl, L, _, rfl, .inl (SqL.of hL2), _, _, rfl, rfl, _, rfl, ?_⟩
    rw [vI_len]
    refine iteI (c := 82 < (ending l).length) (by simp; omega) (fun e => iteT (kf (by unfold readS readB; rw [if_pos (.inl e)]) _ sH2)) (fun e82 => ?_)
    refine ⟨_, rfl, F0, _, rfl, .inl (SqL.of hF), rfl, _, rfl, ?_⟩
    have hlen : rs.length = (splitC (ending l)).length := Paired.length hR
    rw [List.length_map, hlen]
    refine iteI (c := (splitC (ending l)).length ≠ 7) (by simp; omega) (fun e => kf (by unfold readS readB; rw [if_pos (.inr e)]) _ sH2) (fun e7 => ?_)
    have e7 : (splitC (ending l)).length = 7 := by omega
    match hq : splitC (ending l), e7 with
    | [h, t, u, g, c, b, e], _ =>
    rw [hq] at hR
    have hmem : ∀ x ∈ [h, t, u, g, c, b, e], x.length ≤ 2000 := fun x hx => by
      have := splitC_mem (b := ending l) (f := x) (by rw [hq]; exact hx)
      omega
    have hb82 : b.length ≤ 82 := by
      have := splitC_mem (b := ending l) (f := b) (by rw [hq]; simp)
      omega
    have rd : readS l = readF (ending l) h t u g c b e := by
      unfold readS readB
      rw [if_neg (by rw [hq]; simp; omega), hq]
      rfl
    have bad : ¬ AllOk h t u g c b e → ∀ H', Same H H' → E (.ref a.xl) none H' := fun n => kf (by rw [rd, readF_not n])
    clear hlen
    cases hR with
    | @cons r0 _ _ _ q0 hR => cases hR with
    | @cons r1 _ _ _ q1 hR => cases hR with
    | @cons r2 _ _ _ q2 hR => cases hR with
    | @cons r3 _ _ _ q3 hR => cases hR with
    | @cons r4 _ _ _ q4 hR => cases hR with
    | @cons r5 _ _ _ q5 hR => cases hR with
    | @cons r6 _ _ _ q6 hR => cases hR with
    | nil =>
    refine ⟨_, rfl, F0, _, _, _, rfl, rfl, SqL.of hF, at_of (j := 0) rfl rfl, r0, h, rfl, q0, hmem h (by simp), fun o1 H3 s3 => ?_, fun n H3 s3 => bad (fun z => n z.1) _ (sH2.trans s3)⟩
    refine ⟨_, rfl, F0, _, _, _, rfl, rfl, SqL.of (s3 _ _ hF), at_of (j := 1) rfl rfl, r1, t, 1, 9, rfl, s3 _ _ q1, fun o2 H4 s4 => ?_, fun n H4 s4 => bad (fun z => n z.2.1) _ (sH2.trans (s3.trans s4))⟩
    have s4 := s3.trans s4
    refine ⟨_, rfl, F0, _, _, _, rfl, rfl, SqL.of (s4 _ _ hF), at_of (j := 2) rfl rfl, _, rfl, r2, u, 1, t.getD 0 0 - 48, rfl, s4 _ _ q2, fun o3 H5 s5 => ?_, fun n H5 s5 => bad (fun z => n z.2.2.1) _ (sH2.trans (s4.trans s5))⟩
    have s5 := s4.trans s5
    refine ⟨_, rfl, F0, _, _, _, rfl, rfl, SqL.of (s5 _ _ hF), at_of (j := 3) rfl rfl, _, rfl, r3, g, t.getD 0 0 - 48, rfl, s5 _ _ q3, fun o4 H6 s6 => ?_, fun n H6 s6 => bad (fun z => n z.2.2.2.1) _ (sH2.trans (s5.trans s6))⟩
    have s6 := s5.trans s6
    refine ⟨_, rfl, F0, _, _, _, rfl, rfl, SqL.of (s6 _ _ hF), at_of (j := 4) rfl rfl, r4, c, rfl, s6 _ _ q4, hmem c (by simp), fun o5 H7 s7 => ?_, fun n H7 s7 => bad (fun z => n z.2.2.2.2.1) _ (sH2.trans (s6.trans s7))⟩
    have s7 := s6.trans s7
    refine ⟨_, rfl, F0, _, _, _, rfl, rfl, SqL.of (s7 _ _ hF), at_of (j := 5) rfl rfl, r5, b, rfl, s7 _ _ q5, hmem b (by simp), fun o6 H8 s8 => ?_, fun n H8 s8 => bad (fun z => n z.2.2.2.2.2.1) _ (sH2.trans (s7.trans s8))⟩
    have s8 := s7.trans s8
    refine ⟨_, rfl, F0, _, _, _, rfl, rfl, SqL.of (s8 _ _ hF), at_of (j := 6) rfl rfl, r6, e, rfl, s8 _ _ q6, hmem e (by simp), fun o7 H9 s9 => ?_, fun n H9 s9 => bad (fun z => n z.2.2.2.2.2.2.1) _ (sH2.trans (s8.trans s9))⟩
    have s9 := s8.trans s9
    refine ⟨_, rfl, F0, _, _, _, rfl, rfl, SqL.of (s9 _ _ hF), at_of (j := 6) rfl rfl, _, rfl, r6, _, rfl, SqL.of (s9 _ _ q6), fun z1 n1 => ?_⟩
    have c1 : cutV (vI e) none (some 1) = vI (e.take 1) := (cut_to 1).trans (vI_take _ _)
    rw [c1] at *
    have s10 := s9.trans (same_upd (o := .lst (vI (e.take 1))) n1)
    refine ⟨u.getD 0 0 - 48, t.getD 0 0 - 48, rfl, rfl, z1, e.take 1, 0, _, rfl, upd_same, fun o8 H11 s11 => ?_, fun n H11 s11 => bad (fun z => n z.2.2.2.2.2.2.2.1) _ (sH2.trans (s10.trans s11))⟩
    have t11 := s10.trans s11
    obtain ⟨e0, e1, e2, e3, rfl⟩ : ∃ e0 e1 e2 e3, e = [e0, e1, e2, e3] := by
      obtain ⟨h4, _⟩ := o7
      match e, h4 with
      | [e0, e1, e2, e3], _ => exact ⟨_, _, _, _, rfl⟩
    refine ⟨_, rfl, F0, _, _, _, rfl, rfl, SqL.of (t11 _ _ hF), at_of (j := 6) rfl rfl, _, rfl, r6, _, rfl, SqL.of (t11 _ _ q6), fun z2 n2 => ?_⟩
    have c2 : cutV (vI [e0, e1, e2, e3]) (some 2) none = vI [e2, e3] := (cut_from 2).trans (vI_drop _ _)
    rw [c2] at *
    have s12 := t11.trans (same_upd (o := .lst (vI [e2, e3])) n2)
    refine ⟨z2, e2, e3, rfl, upd_same, fun o9 H13 s13 => ?_, fun n H13 s13 => bad (fun z => n z.2.2.2.2.2.2.2.2) _ (sH2.trans (s12.trans s13))⟩
    have s13 := s12.trans s13
    have all : AllOk h t u g c b [e0, e1, e2, e3] := ⟨o1, o2, o3, o4, o5, o6, o7, o8, o9⟩
    rw [readF_all all] at rd
    simp only [List.getD_cons_zero, List.getD_cons_succ] at rd
    refine ⟨_, rfl, L, _, rfl, s13 _ _ hL2, fun H14 s14 => ⟨rfl, _, rfl, ?_⟩⟩
    have s14 := s13.trans s14
    refine iteI (c := hexV e2 * 16 + hexV e3 ≠ sumOf (ending l)) (by simp; omega) (fun n => ks (by rw [rd, if_pos n]) _ (sH2.trans s14)) (fun n => ?_)
    rw [if_neg n] at rd
    refine ⟨_, rfl, F0, _, _, _, rfl, rfl, SqL.of (s14 _ _ hF), at_of (j := 0) rfl rfl, _, rfl, r0, _, rfl, SqL.of (s14 _ _ q0), fun z3 n3 => ?_⟩
    have c3 : cutV (vI h) (some 3) none = vI (h.drop 3) := (cut_from 3).trans (vI_drop _ _)
    rw [c3] at *
    have s15 := s14.trans (same_upd (o := .lst (vI (h.drop 3))) n3)
    refine ⟨z3, _, rfl, .inl ⟨SqL.of upd_same, fun k0 m0 => ?_⟩⟩
    have s16 := s15.trans (same_upd (o := .tup (vI (h.drop 3))) m0)
    refine ⟨_, rfl, F0, _, _, _, rfl, rfl, SqL.of (s16 _ _ hF), at_of (j := 3) rfl rfl, r3, _, rfl, .inl ⟨SqL.of (s16 _ _ q3), fun k1 m1 => ?_⟩⟩
    have s17 := s16.trans (same_upd (o := .tup (vI g)) m1)
    refine ⟨_, rfl, F0, _, _, _, rfl, rfl, SqL.of (s17 _ _ hF), at_of (j := 4) rfl rfl, r4, _, rfl, .inl ⟨SqL.of (s17 _ _ q4), fun k2 m2 => ?_⟩⟩
    have s18 := s17.trans (same_upd (o := .tup (vI c)) m2)
    refine ⟨(by show 3 ≤ sizeLine; decide), fun kb m3 => ?_⟩
    have s19 := s18.trans (same_upd (o := .tup [.ref k0, .ref k1, .ref k2]) m3)
    refine ⟨_, rfl, _, rfl, _, rfl, _, rfl, F0, _, _, _, rfl, rfl, SqL.of (s19 _ _ hF), at_of (j := 5) rfl rfl, _, rfl, r5, b, _, rfl, s19 _ _ q5, hmem b (by simp), o6.2, ?_, fun B H20 nB s20 hB => ?_⟩
    · have : b.length ≠ 0 := fun z => o6.1 (List.length_eq_zero_iff.mp z)
      have o8' : e0 ≤ 48 + (if u.getD 0 0 - 48 = t.getD 0 0 - 48 then 5 else 0) := o8.2.2
      show e0 - 48 ≤ _
      split at o8' <;> omega
    · intro x dx nx ndx nex
      refine ⟨x, dx, _, _, _, _, rfl, upd_same, rfl, ?_⟩
      rw [upd_upd]
      have s21 : Same H20 (upd (upd H20 dx (.own x)) x (.ins a.cs dx (fS (.ref kb) (.int ((t.getD 0 0 - 48 : Nat) : Int)) (.int ((u.getD 0 0 - 48 : Nat) : Int)) (.ref B)))) := fun d o z => by
        rw [upd_ne (ne_of_none z nx), upd_ne (ne_of_none z ndx)]
        exact z
      have sH := sH2.trans (s19.trans (s20.trans s21))
      refine ko _ x _ rd sH ⟨dx, kb, B, upd_same, ?_, s21 _ _ hB⟩
      have t3 := s20.trans s21
      show NTup _ kb [kI (ownL (h.drop 3 == Sd37.ascii "VDO")), kI (seqL (g.head?.map fun d => d - 48)), kI c]
      rw [own_drop o1.2.2.2.2, seq_head o4]
      exact NTup.mk3 (t3 _ _ upd_same) (t3 _ _ (upd_at (upd_at (upd_at upd_same m1) m2) m3)) (t3 _ _ (upd_at (upd_at upd_same m2) m3)) (t3 _ _ (upd_at upd_same m3))
end
end Sr
namespace Sr
open PySem L2 Sh
def Keep (D : Addr) (H H' : Hp) : Prop := ∀ b o, b ≠ D → H b = some o → H' b = some o
theorem Keep.refl {D : Addr} (H : Hp) : Keep D H H := fun _ _ _ h => h
theorem Keep.trans {D : Addr} {H H1 H2 : Hp} (x : Keep D H H1) (y : Keep D H1 H2) : Keep D H H2 := fun b o n h => y b o n (x b o n h)
theorem _root_.L2.Same.keep {D : Addr} {H H' : Hp} (s : Same H H') : Keep D H H' := fun b o _ h => s b o h
theorem Keep.upd {D : Addr} {H H' : Hp} {o : HO} (s : Keep D H H') : Keep D H (upd H' D o) := fun b u n h => by rw [upd_ne n]; exact s b u n h
theorem Keep.of {D : Addr} {H0 H H' : Hp} (s : Keep D H H') (h : H0 D = none) (s0 : Same H0 H) : Same H0 H' := fun b o e => s b o (ne_of_none e h) (s0 b o e)
def fM (b s t : V) : List (Str × V) := [("bits", b), ("ship", s), ("told", t)]
section
variable {b s t : V}
theorem fM_bits : (fM b s t).lookup ("bits" : Str) = some b := lkE
theorem fM_ship : (fM b s t).lookup ("ship" : Str) = some s := (lkN (by decide +kernel)).trans lkE
theorem fM_told : (fM b s t).lookup ("told" : Str) = some t := (lkN (by decide +kernel)).trans ((lkN (by decide +kernel)).trans lkE)
theorem fM_no {m : Str} (h1 : ¬ m = "bits") (h2 : ¬ m = "ship") (h3 : ¬ m = "told") : (fM b s t).lookup m = none := (lkN h1).trans ((lkN h2).trans ((lkN h3).trans lkNil))
theorem fM_put1 : putF "ship" s [(("bits" : Str), b)] = [(("bits" : Str), b), (("ship" : Str), s)] := put1 (by decide +kernel)
theorem fM_put2 : putF "told" t [(("bits" : Str), b), (("ship" : Str), s)] = fM b s t := put2 (by decide +kernel) (by decide +kernel)
end
theorem ofString_inj {x y : String} (h : Str.ofString x = Str.ofString y) : x = y := by
  have e : TL.tl (Str.ofString x) = TL.tl (Str.ofString y) := by rw [h]
  rw [TL.tl_ofString, TL.tl_ofString] at e
  apply String.toList_inj.mp
  revert e
  generalize x.toList = u
  generalize y.toList = v
  intro e
  induction u generalizing v with
  | nil => cases v with
    | nil => rfl
    | cons d r => simp at e
  | cons c q ih =>
    cases v with
    | nil => simp at e
    | cons d r =>
      simp only [List.map_cons, List.cons.injEq] at e
      rw [ih r e.2, Char.toNat_inj.mp e.1]
def told2 (t : Sd37.Told) : String → Option (List Nat) := fun x => (Sd37.find t x).map render
def ToldAt (H : Hp) (D : Addr) (t : Sd37.Told) (L : List String) : Prop := KnownAt H D (told2 t) L.length ∧ ∀ p ∈ t, p.1 ∈ L
theorem find_none : ∀ {t : Sd37.Told} {w : String}, (∀ p ∈ t, p.1 ≠ w) → Sd37.find t w = none
  | [], _, _ => rfl
  | p :: r, w, h => by
    rw [find_cons, if_neg (h p List.mem_cons_self)]
    exact find_none fun q hq => h q (List.mem_cons_of_mem _ hq)
theorem find_snoc : ∀ (t : Sd37.Told) (w : String) (v : Sd37.Val) (x : String), Sd37.find (t ++ [(w, v)]) x = (Sd37.find t x).or (if w = x then some v else none)
  | [], w, v, x => by
    rw [List.nil_append, find_cons]
    rfl
  | p :: r, w, v, x => by
    rw [List.cons_append, find_cons, find_cons, find_snoc r w v x]
    split
    · rfl
    · rfl
theorem ToldAt.put {H H' : Hp} {D q : Addr} {t : Sd37.Told} {L : List String} {w : String} {v : Sd37.Val} (h : ToldAt H D t L) (hw : w ∉ L) (k : Keep D H H') (hq : H' q = some (.lst (vI (render v)))) (hl : (render v).length ≤ 22) :
    ∃ kvs, H D = some (.dK kvs) ∧ kvs.length ≤ L.length ∧ (q ≠ D → ToldAt (upd H' D (.dK (putK kvs (Sum.inr (Str.ofString w)) (.ref q)))) D (t ++ [(w, v)]) (L ++ [w])) := by
  obtain ⟨⟨kvs, h1, h2, h3⟩, h4⟩ := h
  refine ⟨kvs, h1, h2, fun nq => ⟨⟨_, upd_same, ?_, fun x => ?_⟩, fun p hp => ?_⟩⟩
  · have := length_putK kvs (Sum.inr (Str.ofString w) : Key) (.ref q)
    rw [List.length_append, List.length_singleton]
    omega
  · have hn : Sd37.find t w = none := find_none fun p hp e => hw (e ▸ h4 p hp)
    unfold told2
    rw [find_snoc]
    by_cases e : w = x
    · subst e
      rw [hn, if_pos rfl]
      refine ⟨q, ?_, by rw [upd_ne nq]; exact hq, hl⟩
      rw [valV_put, if_pos rfl]
    · rw [if_neg e, Option.or_none]
      have hx := h3 x
      unfold told2 at hx
      have hv : valV (putK kvs (Sum.inr (Str.ofString w)) (.ref q)) (Sum.inr (Str.ofString x)) = valV kvs (Sum.inr (Str.ofString x)) := by
        rw [valV_put, if_neg]
        intro z
        injection z with z
        exact e (ofString_inj z).symm
      cases hf : (Sd37.find t x).map render with
      | none =>
        rw [hf] at hx
        exact hv.trans hx
      | some r =>
        rw [hf] at hx
        obtain ⟨p, e1, e2, e3⟩ := hx
        have np : p ≠ D := ne_of e2 h1 (by intro z; cases z)
        exact ⟨p, hv.trans e1, by rw [upd_ne np]; exact k _ _ np e2, e3⟩
  · rcases List.mem_append.mp hp with hp | hp
    · exact List.mem_append_left _ (h4 p hp)
    · have : p = (w, v) := by simpa using hp
      subst this
      exact List.mem_append_right _ (by simp)
theorem ToldAt.same {H H' : Hp} {D : Addr} {t : Sd37.Told} {L : List String} (h : ToldAt H D t L) (s : Same H H') : ToldAt H' D t L := ⟨h.1.mono s, h.2⟩
structure MsgI where
  m : Addr
  dx : Addr
  B : Addr
  D : Addr
  n : Nat
  bits : List Bool
structure MsgAt (a : Adr) (M : MsgI) (H : Hp) (t : Sd37.Told) (L : List String) : Prop where
  ob : H M.m = some (.ins a.cm M.dx (fM (.ref M.B) (.int (M.n : Int)) (.ref M.D)))
  bs : H M.B = some (.lst (vB M.bits))
  told : ToldAt H M.D t L
theorem MsgAt.same {a : Adr} {M : MsgI} {H H' : Hp} {t : Sd37.Told} {L : List String} (h : MsgAt a M H t L) (s : Same H H') : MsgAt a M H' t L := ⟨s _ _ h.ob, s _ _ h.bs, h.told.same s⟩
theorem MsgAt.nD {a : Adr} {M : MsgI} {H : Hp} {t : Sd37.Told} {L : List String} (h : MsgAt a M H t L) : M.m ≠ M.D ∧ M.B ≠ M.D := by
  obtain ⟨kvs, e, _⟩ := h.told.1
  exact ⟨ne_of h.ob e (by intro z; cases z), ne_of h.bs e (by intro z; cases z)⟩
def Tells (a : Adr) (M : MsgI) (H : Hp) (t : Sd37.Told) (L ws : List String) (r : Option Sd37.Told) (Q : VK) (E : XK) : Prop :=
  MsgAt a M H t L ∧ (∀ x ∈ ws, x ∉ L) ∧ L.length + ws.length ≤ 1000 ∧ (r = none → ∀ H', Keep M.D H H' → E (.ref a.xm) none H') ∧ (∀ t' H', r = some t' → Keep M.D H H' → MsgAt a M H' t' (L ++ ws) → Q .non H')
def spUn (a : Adr) : Sp := fun vs H Q _ => ∃ (m dx B : Addr) (fs : List (Str × V)) (bits : List Bool) (st wd : Nat), vs = [.ref m, .int st, .int wd] ∧ H m = some (.ins a.cm dx fs) ∧ fs.lookup ("bits" : Str) = some (.ref B) ∧ H B = some (.lst (vB bits)) ∧ Ret H Q (.int ((Sd37.un bits st wd : Nat) : Int))
def spSn (a : Adr) : Sp := fun vs H Q _ => ∃ (m dx B : Addr) (fs : List (Str × V)) (bits : List Bool) (st wd : Nat), vs = [.ref m, .int st, .int ((wd + 1 : Nat) : Int)] ∧ H m = some (.ins a.cm dx fs) ∧ fs.lookup ("bits" : Str) = some (.ref B) ∧ H B = some (.lst (vB bits)) ∧ st + (wd + 1) ≤ bits.length ∧ Ret H Q (.int (Sd37.sn bits st (wd + 1)))
theorem get_vB {l : List Bool} {i : Nat} {y : V} (h : (vB l)[i]? = some y) : ∃ c, l[i]? = some c ∧ y = V.int (b2i c) := by
  rw [List.getElem?_map] at h
  cases e : l[i]? with
  | none => rw [e] at h; cases h
  | some x => rw [e] at h; exact ⟨x, rfl, (Option.some.inj h).symm⟩
theorem vB_get {l : List Bool} {i : Nat} {c : Bool} (h : l[i]? = some c) : (vB l)[i]? = some (V.int (b2i c)) := by simp [h]
theorem vB_mid (b : List Bool) (i n : Nat) : ((vB b).drop i).take n = vB ((b.drop i).take n) := by simp [List.map_drop, List.map_take]
section
variable {P : Program} {w : World} {K : PySem.W.Frag} {mg : Str → Option Value} {base : Heap} {a : Adr}
theorem scUn : FnScope ["self", "start", "width", "value", "bit"] ["self", "start", "width"] (defScope (inClass (top 44) 1)) := ⟨rfl, rfl, rfl, by decide +kernel, rfl, by decide +kernel, by decide +kernel⟩
theorem mt_un (T : Txt K mg a) : Mt P w K mg base a.cm "unsigned" 1 [] (spUn a) := T.unsigned.mt T.cm fun f fd dV F => by
  refine F.ok0 scUn (fun vs H Q E h => ?_) (fun cdv A outer s H vs Q E hr h => ?_)
  · obtain ⟨_, _, _, _, _, _, _, rfl, _⟩ := h
    rfl
  · obtain ⟨m, dx, B, fs, bits, st, wd, rfl, hm, hb, hB, k⟩ := h
    refine ⟨_, pss_cons (ps_set (i := 3) scUn.nd rfl (Or.inl rfl) pe_int)
      (pss_cons (ps_for PassesOwn.never rfl (pi_list (pe_slice sl_list (pe_fld (pv 0) rfl) (po_some (pv 1)) (po_some (pe_op op_add (pv 1) (pv 2))))) (pg_name (i := 4) scUn.nd rfl (Or.inl rfl))
        (pss_one (ps_set (i := 3) scUn.nd rfl (Or.inl rfl) (pe_op op_add (pe_op op_mul (pv 3) pe_int) (pv 4)))))
      (pss_one (ps_ret (pv 3)))), ?_⟩
    have c2 : cutV (vB bits) (some (st : Int)) (some ((st : Int) + (wd : Int))) = vB ((bits.drop st).take wd) := by
      rw [← Int.natCast_add, cut_mid, Nat.add_sub_cancel_left, vB_mid]
    refine ⟨_, rfl, m, a.cm, dx, _, _, rfl, hm, T.cm, T.m_bits, hb, _, rfl, _, rfl, _, rfl, _, rfl, _, _, rfl, rfl, _, rfl, B, _, rfl, SqL.of hB, fun q hq => ?_⟩
    rw [c2]
    refine ⟨q, rfl, ⟨_, SqL.of upd_same⟩, for_list (K := K) (a := q) (xs := vB ((bits.drop st).take wd))
      (fun i σ H' => ∃ v : Option V, σ = [some (.ref m), some (.int (st : Int)), some (.int (wd : Int)), some (.int (fB 0 (((bits.drop st).take wd).take i))), v] ∧ Same H H' ∧ H' q = some (.lst (vB ((bits.drop st).take wd))))
      ⟨none, rfl, same_upd hq, upd_same⟩ (fun i σ H' _ ⟨_, _, _, h⟩ => SqL.of h) ?_ ?_⟩
    · rintro i y σ H' hy ⟨v, rfl, s1, h1⟩
      obtain ⟨c, hc, rfl⟩ := get_vB hy
      refine ⟨_, rfl, _, _, rfl, rfl, .inr ⟨by decide, by decide⟩, _, rfl, _, _, rfl, rfl, some (.int (b2i c)), ?_, s1, h1⟩
      rw [List.take_add_one, hc, Option.toList_some, fB_snoc]
      rfl
    · rintro σ H' ⟨v, rfl, s1, h1⟩
      refine ⟨_, rfl, ?_⟩
      rw [vB_len, List.take_length, un_fB]
      exact k _ s1
theorem scSn : FnScope ["self", "start", "width", "value", "bit"] ["self", "start", "width"] (defScope (inClass (top 44) 2)) := ⟨rfl, rfl, rfl, by decide +kernel, rfl, by decide +kernel, by decide +kernel⟩
theorem mt_sn (T : Txt K mg a) : Mt P w K mg base a.cm "signed" 1 [] (spSn a) := T.signed.mt T.cm fun f fd dV F => by
  refine F.ok0 scSn (fun vs H Q E h => ?_) (fun cdv A outer s H vs Q E hr h => ?_)
  · obtain ⟨_, _, _, _, _, _, _, rfl, _⟩ := h
    rfl
  · obtain ⟨m, dx, B, fs, bits, st, wd, rfl, hm, hb, hB, hl, k⟩ := h
    refine ⟨_, pss_cons (ps_set (i := 3) scSn.nd rfl (Or.inl rfl) (pe_un un_neg (pe_ix ix_list (pe_fld (pv 0) rfl) (pv 1) (fun _ _ => rfl))))
      (pss_cons (ps_for PassesOwn.never rfl (pi_list (pe_slice sl_list (pe_fld (pv 0) rfl) (po_some (pe_op op_add (pv 1) pe_int)) (po_some (pe_op op_add (pv 1) (pv 2))))) (pg_name (i := 4) scSn.nd rfl (Or.inl rfl))
        (pss_one (ps_set (i := 3) scSn.nd rfl (Or.inl rfl) (pe_op op_add (pe_op op_mul (pv 3) pe_int) (pv 4)))))
      (pss_one (ps_ret (pv 3)))), ?_⟩
    obtain ⟨x, hx⟩ : ∃ x, bits[st]? = some x := ⟨bits[st]'(by omega), List.getElem?_eq_getElem (by omega)⟩
    have c2 : cutV (vB bits) (some ((st : Int) + 1)) (some ((st : Int) + ((wd + 1 : Nat) : Int))) = vB ((bits.drop (st + 1)).take wd) := by
      have e1 : (st : Int) + 1 = ((st + 1 : Nat) : Int) := by omega
      rw [← Int.natCast_add, e1, cut_mid, show st + (wd + 1) - (st + 1) = wd by omega, vB_mid]
    refine ⟨_, rfl, m, a.cm, dx, _, _, rfl, hm, T.cm, T.m_bits, hb, _, rfl, B, _, _, _, rfl, rfl, SqL.of hB, at_of rfl (vB_get hx), _, rfl, ?_⟩
    refine ⟨_, rfl, m, a.cm, dx, _, _, rfl, hm, T.cm, T.m_bits, hb, _, rfl, _, _, rfl, rfl, _, rfl, _, rfl, _, rfl, _, _, rfl, rfl, _, rfl, B, _, rfl, SqL.of hB, fun q hq => ?_⟩
    rw [c2]
    refine ⟨q, rfl, ⟨_, SqL.of upd_same⟩, for_list (K := K) (a := q) (xs := vB ((bits.drop (st + 1)).take wd))
      (fun i σ H' => ∃ v : Option V, σ = [some (.ref m), some (.int (st : Int)), some (.int ((wd + 1 : Nat) : Int)), some (.int (fB (-(b2i x)) (((bits.drop (st + 1)).take wd).take i))), v] ∧ Same H H' ∧ H' q = some (.lst (vB ((bits.drop (st + 1)).take wd))))
      ⟨none, rfl, same_upd hq, upd_same⟩ (fun i σ H' _ ⟨_, _, _, h⟩ => SqL.of h) ?_ ?_⟩
    · rintro i y σ H' hy ⟨v, rfl, s1, h1⟩
      obtain ⟨c, hc, rfl⟩ := get_vB hy
      refine ⟨_, rfl, _, _, rfl, rfl, .inr ⟨by decide, by decide⟩, _, rfl, _, _, rfl, rfl, some (.int (b2i c)), ?_, s1, h1⟩
      rw [List.take_add_one, hc, Option.toList_some, fB_snoc]
      rfl
    · rintro σ H' ⟨v, rfl, s1, h1⟩
      refine ⟨_, rfl, ?_⟩
      rw [vB_len, List.take_length, sn_fB hx hl]
      exact k _ s1
end
end Sr
namespace Sr
open PySem L2 Sh
theorem rg6 {st n : Nat} (h : st ≤ 1000) (hn : n ≤ 20) : RgC (st : Int) ((st : Int) + 6 * (n : Int)) 6 n := by
  have e : Builtin.Range.rangeSize (st : Int) ((st : Int) + 6 * (n : Int)) 6 = (n : Int) := by
    unfold Builtin.Range.rangeSize
    rw [if_pos (by decide)]
    split <;> omega
  refine ⟨by decide, by decide, ?_, e⟩
  have fits : ∀ z : Int, -1000000 ≤ z → z ≤ 1000000 → Builtin.Range.rangeFitsLong z = true := fun z h1 h2 => by
    unfold Builtin.Range.rangeFitsLong
    rw [decide_eq_true (by omega), decide_eq_true (by omega)]
    rfl
  unfold Builtin.Range.small
  rw [e, fits (st : Int) (by omega) (by omega), fits ((st : Int) + 6 * (n : Int)) (by omega) (by omega), fits 6 (by decide) (by decide), fits (n : Int) (by omega) (by omega), if_pos (by decide), fits ((st : Int) + 6 * (n : Int) + (6 - 1)) (by omega) (by omega)]
  simp
theorem strip_stop {l : List Nat} (h : ¬ l.drop (l.length - 1) = [32]) : strip l = l := by
  rcases last_cases l with e | ⟨p, c, e⟩
  · subst e; rfl
  · subst e
    refine strip_other fun z => h ?_
    subst z
    simp
theorem strip_turn {l : List Nat} (h : l.drop (l.length - 1) = [32]) : ∃ p, l = p ++ [32] := by
  rcases last_cases l with e | ⟨p, c, e⟩
  · subst e; simp at h
  · subst e
    refine ⟨p, ?_⟩
    have : [c] = [32] := by simpa using h
    rw [this]
def tConv (i : Nat) : TE := fun σ H Q => ∃ c : Nat, σ[i]? = some (some (.int (c : Int))) ∧ Q (.int ((conv c : Nat) : Int)) H
def tLet1 (a : Adr) (M : MsgI) (st n : Nat) : TS := fun D σ H => ∃ L, σ = [some (.ref M.m), some (.int (st : Int)), some (.int (n : Int)), some (.ref L), none, none] ∧ H M.m = some (.ins a.cm M.dx (fM (.ref M.B) (.int (M.n : Int)) (.ref M.D))) ∧ H M.B = some (.lst (vB M.bits)) ∧ H L = some (.lst []) ∧ M.B ≠ L ∧ n ≤ 20 ∧ st ≤ 1000 ∧
  ∀ v4 v5 H', Keep L H H' → H' L = some (.lst (vI (((codesAt M.bits st n).takeWhile fun c => c != 0).map conv))) → D.nx [some (.ref M.m), some (.int (st : Int)), some (.int (n : Int)), some (.ref L), v4, v5] H'
def tWh : TS := fun D σ H => ∃ L x0 x1 x2 v4 v5 l, σ = [x0, x1, x2, some (.ref L), v4, v5] ∧ H L = some (.lst (vI l)) ∧ ∀ H', Keep L H H' → H' L = some (.lst (vI (strip l))) → D.nx σ H'
def spLet (a : Adr) : Sp := fun vs H Q _ => ∃ (M : MsgI) (st n : Nat), vs = [.ref M.m, .int st, .int n] ∧ H M.m = some (.ins a.cm M.dx (fM (.ref M.B) (.int (M.n : Int)) (.ref M.D))) ∧ H M.B = some (.lst (vB M.bits)) ∧ n ≤ 20 ∧ st ≤ 1000 ∧ NewL H Q (vI (Sd37.textAt M.bits st n))
def spTell (a : Adr) : Sp := fun vs H Q E => ∃ M t L w z, vs = [.ref M.m, .str (Str.ofString w), .int z] ∧ z.natAbs < 2 ^ 64 ∧ Tells a M H t L [w] (some (t ++ [(w, .num z)])) Q E
def lgV : Option Nat → V
  | none => .non
  | some m => .int (m : Int)
def spNum (a : Adr) : Sp := fun vs H Q E => ∃ M t L w st wd u lg, vs = [.ref M.m, .str (Str.ofString w), .int ((st : Nat) : Int), .int ((wd : Nat) : Int), .int ((u : Nat) : Int), lgV lg] ∧ wd ≤ 30 ∧ Tells a M H t L [w] (tellNum t w (Sd37.un M.bits st wd) u lg) Q E
def spTxt (a : Adr) : Sp := fun vs H Q E => ∃ M t L w st n, vs = [.ref M.m, .str (Str.ofString w), .int ((st : Nat) : Int), .int ((n : Nat) : Int)] ∧ n ≤ 20 ∧ st ≤ 1000 ∧ Tells a M H t L [w] (some (tellText t w (Sd37.textAt M.bits st n))) Q E
def spMk (a : Adr) : Sp := fun vs H Q _ => ∃ (x dx B : Addr) (bits : List Bool), vs = [.ref x, .ref B] ∧ H x = some (.ins a.cm dx []) ∧ H B = some (.lst (vB bits)) ∧ ∀ D H', H D = none → Keep x H H' → MsgAt a ⟨x, dx, B, D, Sd37.un bits 8 30, bits⟩ H' [] [] → Q .non H'
theorem MsgAt.more {a : Adr} {M : MsgI} {H : Hp} {t : Sd37.Told} {L : List String} (h : MsgAt a M H t L) (ws : List String) : MsgAt a M H t (L ++ ws) := by
  refine ⟨h.ob, h.bs, ?_, fun p hp => List.mem_append_left _ (h.told.2 p hp)⟩
  obtain ⟨kvs, h1, h2, h3⟩ := h.told.1
  exact ⟨kvs, h1, by rw [List.length_append]; omega, h3⟩
theorem MsgAt.put {a : Adr} {M : MsgI} {H H' : Hp} {q : Addr} {t : Sd37.Told} {L : List String} {w : String} {v : Sd37.Val} (h : MsgAt a M H t L) (hw : w ∉ L) (s : Same H H') (hq : H' q = some (.lst (vI (render v)))) (hl : (render v).length ≤ 22) :
    ∃ kvs, H' M.D = some (.dK kvs) ∧ kvs.length ≤ L.length ∧ MsgAt a M (upd H' M.D (.dK (putK kvs (Sum.inr (Str.ofString w)) (.ref q)))) (t ++ [(w, v)]) (L ++ [w]) := by
  obtain ⟨n1, n2⟩ := h.nD
  obtain ⟨kvs, hD, hlen, put⟩ := h.told.put hw s.keep hq hl
  have hD' := s _ _ hD
  exact ⟨kvs, hD', hlen, by rw [upd_ne n1]; exact s _ _ h.ob, by rw [upd_ne n2]; exact s _ _ h.bs, put (ne_of hq hD' (by intro z; cases z))⟩
section
variable {P : Program} {w : World} {K : PySem.W.Frag} {mg : Str → Option Value} {base : Heap} {a : Adr}
theorem scLet : FnScope ["self", "start", "length", "text", "at", "code"] ["self", "start", "length"] (defScope (inClass (top 44) 3)) := ⟨rfl, rfl, rfl, by decide +kernel, rfl, by decide +kernel, by decide +kernel⟩
theorem mt_let (T : Txt K mg a) : Mt P w K mg base a.cm "letters" 2 [] (spLet a) := T.letters.mt T.cm fun f fd dV F => by
  refine F.ok0 scLet (fun vs H Q E h => ?_) (fun cdv A outer s H vs Q E hr h => ?_)
  · obtain ⟨_, _, _, rfl, _⟩ := h
    rfl
  · obtain ⟨M, st, n, rfl, hm, hB, hn, hst, k⟩ := h
    have hu := hr.units
    refine ⟨_, pss_cons (ps_set (i := 3) scLet.nd rfl (Or.inl rfl) (pe_lst pa_nil))
      (pss_cons (ps_weak (t' := tLet1 a M st n) (ps_for PassesOwn.never rfl (pi_range3 (by rfl) T.range (pa_cons (pv 1) (pa_cons (pe_op op_add (pv 1) (pe_op op_mul pe_int (pv 2))) (pa_cons pe_int pa_nil)))) (pg_name (i := 4) scLet.nd rfl (Or.inl rfl))
        (pss_cons (ps_set (i := 5) scLet.nd rfl (Or.inl rfl) (pe_mt (mt_un T) (pv 0) hr passE (pa_cons (pv 4) (pa_cons pe_int pa_nil))))
        (pss_cons (ps_if (pt_cmpR op_eq (pv 5) pe_int (nomark _)) (pss_one ps_break) pss_nil)
        (pss_one (ps_expr (pe_bm PySem.F.plainAttrs_list PySem.F.slot_list_append PySem.F.type_list_append mt_append (pv 3) (pa_cons (pe_weak (t' := tConv 5) (pe_ifExp (pt_cmpR op_lt (pv 5) pe_int (nomark _)) (pe_op op_add (pv 5) pe_int) (pv 5)) ?c) pa_nil))))))) ?f)
      (pss_cons (ps_weak (t' := tWh) (ps_while PassesOwn.never (pt_cmpR (op_eqI hu) (pe_slice sl_list (pv 3) (po_some (pe_un un_neg pe_int)) po_none) (pe_lst (pa_cons (pe_gi T.BLANK) pa_nil)) (nomark _))
        (pss_one (ps_expr (pe_bm0 PySem.F.plainAttrs_list PySem.F.slot_list_pop PySem.F.type_list_pop mt_pop (pv 3))))) ?w)
      (pss_one (ps_ret (pv 3))))), ?_⟩
    case c =>
      rintro σ H' Q' ⟨c, h1, h3⟩
      refine ⟨_, h1, _, _, rfl, rfl, _, rfl, iteI (c := c < 32) (by simp <;> omega) (fun e => ⟨_, h1, _, _, rfl, rfl, ?_⟩) (fun e => ⟨_, h1, ?_⟩)⟩
      · unfold conv at h3
        rw [if_pos e] at h3
        exact h3
      · unfold conv at h3
        rw [if_neg e] at h3
        exact h3
    case f =>
      rintro D σ H' ⟨L, rfl, hm, hB, hL, nBL, hn, hst, q⟩
      refine ⟨_, rfl, _, rfl, _, rfl, _, _, rfl, rfl, .inl ⟨by decide, by decide⟩, _, _, rfl, rfl, (st : Int), _, 6, n, rfl, rg6 hst hn, for_rangeC
        (fun i σ H2 => ∃ v4 v5 : Option V, σ = [some (.ref M.m), some (.int (st : Int)), some (.int (n : Int)), some (.ref L), v4, v5] ∧ Keep L H' H2 ∧ H2 L = some (.lst (vI ((codesAt M.bits st i).map conv))) ∧ ∀ c ∈ codesAt M.bits st i, c ≠ 0)
        ⟨none, none, rfl, Keep.refl _, hL, fun c hc => by simp [codesAt] at hc⟩ ?_ ?_⟩
      · rintro i σ H2 hi ⟨v4, v5, rfl, kp, h2, h3⟩
        have nmL : M.m ≠ L := ne_of hm hL (by intro z; cases z)
        have hm2 := kp _ _ nmL hm
        have hB2 := kp _ _ nBL hB
        have ei : (st : Int) + ((i : Nat) : Int) * 6 = ((st + 6 * i : Nat) : Int) := by omega
        refine ⟨_, rfl, M.m, M.dx, _, rfl, hm2, fM_no (by decide +kernel) (by decide +kernel) (by decide +kernel), _, rfl, M.m, M.dx, M.B, _, M.bits, st + 6 * i, 6, by rw [ei]; rfl, hm2, fM_bits, hB2, fun H3 s3 => ?_⟩
        have hL3 := s3 _ _ h2
        refine ⟨_, rfl, rfl, _, rfl, iteI (c := Sd37.un M.bits (st + 6 * i) 6 = 0) (by simp <;> omega) (fun e => ?_) (fun e => ?_)⟩
        · refine q _ _ _ (kp.trans s3.keep) ?_
          rw [text_stop hi h3 e]
          exact hL3
        · refine ⟨_, rfl, .inl ⟨rfl, _, SqL.of hL3⟩, _, rfl, L, _, _, rfl, rfl, hL3, sl' (m := 100) ?_, ?_⟩
          · simp [codesAt] <;> omega
          · refine ⟨_, _, rfl, (kp.trans s3.keep).upd, ?_, fun c hc => ?_⟩
            · rw [upd_same, codesAt_succ]
              simp
            · rw [codesAt_succ] at hc
              rcases List.mem_append.mp hc with hc | hc
              · exact h3 c hc
              · have : c = Sd37.un M.bits (st + 6 * i) 6 := by simpa using hc
                rw [this]; exact e
      · rintro σ H2 ⟨v4, v5, rfl, kp, h2, h3⟩
        refine q _ _ _ kp ?_
        rw [takeWhile_all h3]
        exact h2
    case w =>
      rintro D σ H' ⟨L, x0, x1, x2, v4, v5, l, rfl, hL, q⟩
      refine ⟨fun m σ H2 => ∃ l', m = l'.length ∧ σ = [x0, x1, x2, some (.ref L), v4, v5] ∧ Keep L H' H2 ∧ H2 L = some (.lst (vI l')) ∧ strip l' = strip l, ⟨_, l, rfl, rfl, Keep.refl _, hL, rfl⟩, ?_⟩
      rintro m σ H2 ⟨l', rfl, rfl, kp, h2, h3⟩
      have c1 : cutV (vI l') (some (-1)) none = vI (l'.drop (l'.length - 1)) := (cut_last 1 (by decide)).trans (by rw [vI_len, vI_drop])
      refine ⟨_, rfl, _, rfl, _, rfl, L, _, rfl, SqL.of h2, fun q1 n1 => ⟨(by show 1 ≤ sizeLine; decide), fun q2 n2 => ?_⟩⟩
      rw [c1] at n2 ⊢
      have s2 := (same_upd (o := .lst (vI (l'.drop (l'.length - 1)))) n1).trans (same_upd (o := .lst [.int 32]) n2)
      refine ⟨q1, q2, _, [32], rfl, rfl, SqL.of (upd_at upd_same n2), SqL.of upd_same, _, rfl, iteI (c := l'.drop (l'.length - 1) = [32]) (by simp) (fun e => ?_) (fun e => ?_)⟩
      · obtain ⟨p, rfl⟩ := strip_turn e
        refine ⟨fun σ H3 => σ = [x0, x1, x2, some (.ref L), v4, v5] ∧ Keep L H' H3 ∧ H3 L = some (.lst (vI p)), ?_, ?_⟩
        · rintro σ H3 ⟨rfl, k3, h5⟩
          exact ⟨p.length, by simp, p, rfl, rfl, k3, h5, by rw [← h3, strip_blank]⟩
        · have hL2 := s2 _ _ h2
          refine ⟨_, rfl, .inl ⟨rfl, _, SqL.of hL2⟩, L, _, V.int 32, rfl, rfl, hL2, ?_, rfl, (kp.trans s2.keep).upd, ?_⟩
          · simp
          · rw [upd_same]
            simp
      · refine q _ (kp.trans s2.keep) ?_
        rw [← h3, strip_stop e]
        exact s2 _ _ h2
    refine ⟨(by show 0 ≤ sizeLine; decide), fun L hL => ?_⟩
    have nBL : M.B ≠ L := ne_of_none hB hL
    refine ⟨L, rfl, same_upd hL _ _ hm, same_upd hL _ _ hB, upd_same, nBL, hn, hst, fun v4 v5 H1 k1 h1 => ⟨L, _, _, _, _, _, _, rfl, h1, fun H2 k2 h2 => ⟨_, rfl, ?_⟩⟩⟩
    refine k L H2 hL ((k1.trans k2).of hL (same_upd hL)) ?_
    rw [h2, textAt_eq]
end
end Sr
namespace Sr
open PySem L2 Sh
theorem un_small {b : List Bool} {st wd : Nat} (h : wd ≤ 30) : ((Sd37.un b st wd : Nat) : Int).natAbs < 2 ^ 64 := by
  have h1 := un_lt b st wd
  have h2 : 2 ^ wd ≤ 2 ^ 30 := Nat.pow_le_pow_right (by decide) h
  have h3 : ((Sd37.un b st wd : Nat) : Int).natAbs = Sd37.un b st wd := by omega
  rw [h3]
  exact Nat.lt_of_lt_of_le h1 (Nat.le_trans h2 (by decide))
section
variable {P : Program} {w : World} {K : PySem.W.Frag} {mg : Str → Option Value} {base : Heap} {a : Adr}
theorem scTell : FnScope ["self", "word", "number"] ["self", "word", "number"] (defScope (inClass (top 44) 4)) := ⟨rfl, rfl, rfl, by decide +kernel, rfl, by decide +kernel, by decide +kernel⟩
theorem mt_tell (T : Txt K mg a) : Mt P w K mg base a.cm "tell" 3 [] (spTell a) := T.tell.mt T.cm fun f fd dV F => by
  refine F.ok0 scTell (fun vs H Q E h => ?_) (fun cdv A outer s H vs Q E hr h => ?_)
  · obtain ⟨_, _, _, _, _, rfl, _⟩ := h
    rfl
  · obtain ⟨M, t, L, w, z, rfl, hz, hM, hw, hl, _, q⟩ := h
    refine ⟨_, pss_one (ps_dput (hu_of hr) (pe_fld (pv 0) rfl) (pv 1) (pe_fn (fn_number T) hr passE (pa_cons (pv 2) pa_nil)) rfl), ?_⟩
    refine ⟨_, rfl, z, rfl, hz, fun p H1 np s1 hp => ?_⟩
    have h21 := dec_len20 hz
    obtain ⟨kvs, hD, hk, hM'⟩ := hM.put (w := w) (v := .num z) (hw w (by simp)) s1 hp (by show (Sd37.decimal z).length ≤ 22; omega)
    refine ⟨_, rfl, M.m, a.cm, M.dx, _, _, rfl, s1 _ _ hM.ob, T.cm, T.m_told, fM_told, _, rfl, M.D, _, rfl, DPut.k (k := Sum.inr (Str.ofString w)) hD (sl' (m := 1000) ?_), ?_⟩
    · rw [List.length_singleton] at hl; omega
    · exact q _ _ rfl s1.keep.upd hM'
theorem scNum : FnScope ["self", "word", "start", "width", "unknown", "largest", "number"] ["self", "word", "start", "width", "unknown", "largest"] (defScope (inClass (top 44) 5)) := ⟨rfl, rfl, rfl, by decide +kernel, rfl, by decide +kernel, by decide +kernel⟩
theorem ok_num (T : Txt K mg a) {f : Addr} {fd : FuncData} {dV : Value} (F : FunD K "tell_number" "Message.tell_number" (inClass (top 44) 5) dV f fd) : FnOk P w K mg base (CX1 P w) 4 f fd ["self", "word", "start", "width", "unknown", "largest"] (spNum a) := by
  refine F.okx scNum (fun vs H Q E h => ?_) (fun cdv A outer s H vs Q E hr h => ?_)
  · obtain ⟨_, _, _, _, _, _, _, _, rfl, _⟩ := h
    rfl
  · obtain ⟨M, t, L, w, st, wd, u, lg, rfl, hwd, hM, hw, hl, ke, q⟩ := h
    refine ⟨_, pss_cons (ps_set (i := 6) scNum.nd rfl (Or.inl rfl) (pe_mt (mt_un T) (pv 0) (hr.mono (by decide)) passE (pa_cons (pv 2) (pa_cons (pv 3) pa_nil))))
      (pss_cons (ps_if (pt_cmpR op_eq (pv 6) (pv 4) (nomark _)) (pss_one ps_retN) pss_nil)
      (pss_cons (ps_if (pw_and (pt_cmp (pc_notN (pv 5))) (pw_and1 (pt_cmpR op_gt (pv 6) (pv 5) (nomark _)))).pt (pss_one (ps_raise T.xm (by rfl))) pss_nil)
      (pss_one (ps_expr (pe_mt (mt_tell T) (pv 0) hr passE (pa_cons (pv 1) (pa_cons (pv 6) pa_nil))))))), ?_⟩
    refine ⟨_, rfl, M.m, M.dx, _, rfl, hM.ob, fM_no (by decide +kernel) (by decide +kernel) (by decide +kernel), _, rfl, _, rfl, M.m, M.dx, M.B, _, M.bits, st, wd, rfl, hM.ob, fM_bits, hM.bs, fun H1 s1 => ?_⟩
    have hM1 := hM.same s1
    refine ⟨_, rfl, _, rfl, rfl, _, rfl, iteI (c := Sd37.un M.bits st wd = u) (by simp <;> omega) (fun e => q t _ (by unfold tellNum; rw [if_pos e]) s1.keep (hM1.more _)) (fun e => ?_)⟩
    have tell : (¬ ∃ m, lg = some m ∧ m < Sd37.un M.bits st wd) → tMeth a.cm "tell" (spTell a) [] E0 (tVar 0) (tCons (tVar 1) (tCons (tVar 6) tNil)) [some (.ref M.m), some (.str (Str.ofString w)), some (.int (st : Int)), some (.int (wd : Int)), some (.int (u : Int)), some (lgV lg), some (.int ((Sd37.un M.bits st wd : Nat) : Int))] H1 fun _ H2 => Q .non H2 := fun n => by
      refine ⟨_, rfl, M.m, M.dx, _, rfl, hM1.ob, fM_no (by decide +kernel) (by decide +kernel) (by decide +kernel), _, rfl, _, rfl, M, t, L, w, _, rfl, un_small hwd, hM1, hw, hl, (fun z => nomatch z), fun t' H2 e2 k2 h2 => ?_⟩
      cases e2
      exact q _ _ (by unfold tellNum; rw [if_neg e, if_neg n]) (s1.keep.trans k2) h2
    cases lg with
    | none => exact ⟨_, rfl, _, rfl, iteF (iteF (tell fun ⟨m, z, _⟩ => nomatch z))⟩
    | some m =>
      refine ⟨_, rfl, _, rfl, iteT ⟨_, rfl, _, rfl, _, _, rfl, rfl, _, rfl, iteI (c := m < Sd37.un M.bits st wd) (by simp <;> omega) (fun e2 => ?_) (fun e2 => tell fun ⟨m', z, z2⟩ => by cases z; exact e2 z2)⟩⟩
      exact ke (by unfold tellNum; rw [if_neg e, if_pos ⟨m, rfl, e2⟩]) _ s1.keep
theorem mt_num (T : Txt K mg a) : Mt P w K mg base a.cm "tell_number" 4 [.non] (spNum a) := T.tell_number.mt T.cm fun f fd dV F => ok_num T F
theorem mt_num5 (T : Txt K mg a) : Mt P w K mg base a.cm "tell_number" 4 [] (spNum a) := T.tell_number5.mt T.cm fun f fd dV F => ok_num T F
theorem scTxt : FnScope ["self", "word", "start", "length", "text"] ["self", "word", "start", "length"] (defScope (inClass (top 44) 6)) := ⟨rfl, rfl, rfl, by decide +kernel, rfl, by decide +kernel, by decide +kernel⟩
theorem mt_txt (T : Txt K mg a) : Mt P w K mg base a.cm "tell_text" 3 [] (spTxt a) := T.tell_text.mt T.cm fun f fd dV F => by
  refine F.ok0 scTxt (fun vs H Q E h => ?_) (fun cdv A outer s H vs Q E hr h => ?_)
  · obtain ⟨_, _, _, _, _, _, rfl, _⟩ := h
    rfl
  · obtain ⟨M, t, L, w, st, n, rfl, hn, hst, hM, hw, hl, _, q⟩ := h
    refine ⟨_, pss_cons (ps_set (i := 4) scTxt.nd rfl (Or.inl rfl) (pe_mt (mt_let T) (pv 0) hr passE (pa_cons (pv 2) (pa_cons (pv 3) pa_nil))))
      (pss_one (ps_if (pt_cmpR (op_neI hr.units) (pv 4) (pe_lst pa_nil) (nomark _))
        (pss_one (ps_dput (hu_of hr) (pe_fld (pv 0) rfl) (pv 1) (pe_fn (fn_text T) (hr.mono (by decide)) passE (pa_cons (pv 4) pa_nil)) rfl)) pss_nil)), ?_⟩
    refine ⟨_, rfl, M.m, M.dx, _, rfl, hM.ob, fM_no (by decide +kernel) (by decide +kernel) (by decide +kernel), _, rfl, _, rfl, M, st, n, rfl, hM.ob, hM.bs, hn, hst, fun p H1 np s1 hp => ?_⟩
    refine ⟨_, rfl, (by show 0 ≤ sizeLine; decide), fun r hr0 => ?_⟩
    have s2 := s1.trans (same_upd (o := .lst []) hr0)
    have hp2 := upd_at (u := .lst []) hp hr0
    have h20 := textAt_len M.bits st n
    refine ⟨p, r, _, [], rfl, rfl, SqL.of hp2, SqL.of upd_same, _, rfl, iteI (c := Sd37.textAt M.bits st n ≠ []) (by simp) (fun e => ?_) (fun e => ?_)⟩
    · refine ⟨_, rfl, p, _, rfl, hp2, by omega, fun z H3 nz s3 hz => ?_⟩
      obtain ⟨kvs, hD, hk, hM'⟩ := hM.put (w := w) (v := .text (Sd37.textAt M.bits st n)) (hw w (by simp)) (s2.trans s3) hz (by simp [render]; omega)
      refine ⟨_, rfl, M.m, a.cm, M.dx, _, _, rfl, s3 _ _ (s2 _ _ hM.ob), T.cm, T.m_told, fM_told, _, rfl, M.D, _, rfl, DPut.k (k := Sum.inr (Str.ofString w)) hD (sl' (m := 1000) ?_), ?_⟩
      · rw [List.length_singleton] at hl; omega
      · exact q _ _ (by unfold tellText; rw [if_neg e]) (s2.trans s3).keep.upd hM'
    · have e : Sd37.textAt M.bits st n = [] := Classical.not_not.mp e
      exact q t _ (by unfold tellText; rw [if_pos e]) s2.keep ((hM.same s2).more _)
theorem scMk : FnScope ["self", "bits"] ["self", "bits"] (defScope (inClass (top 44) 0)) := ⟨rfl, rfl, rfl, by decide +kernel, rfl, by decide +kernel, by decide +kernel⟩
theorem mk_msg (T : Txt K mg a) : Mkr P w K mg base "Message" a.cm 2 (spMk a) := T.Message.mkr fun f fd F => by
  refine F.ok0 scMk (fun vs H Q E h => ?_) (fun cdv A outer s H vs Q E hr h => ?_)
  · obtain ⟨_, _, _, _, rfl, _⟩ := h
    rfl
  · obtain ⟨x, dx, B, bits, rfl, hx, hB, q⟩ := h
    refine ⟨_, pss_cons (ps_fld (pv 0) (pv 1) rfl) (pss_cons (ps_fld (pv 0) (pe_mt (mt_un T) (pv 0) hr passE (pa_cons pe_int (pa_cons pe_int pa_nil))) rfl) (pss_one (ps_fld (pv 0) pe_dnewK rfl))), ?_⟩
    have nB : B ≠ x := ne_of hB hx (by intro z; cases z)
    refine ⟨_, rfl, _, rfl, x, a.cm, dx, _, rfl, hx, T.cm, T.m_bits, (by show 0 < 1000; decide), _, rfl, x, dx, _, rfl, upd_same, (lkN (by decide +kernel)).trans lkNil, x, dx, B, _, bits, 8, 30, rfl, upd_same, lkE, (by rw [upd_ne nB]; exact hB), fun H2 s2 => ?_⟩
    have hx2 := s2 _ _ (upd_same (H := H) (a := x) (o := .ins a.cm dx (putF "bits" (.ref B) [])))
    refine ⟨_, rfl, x, a.cm, dx, _, rfl, hx2, T.cm, T.m_ship, (by show 1 < 1000; decide), fun D hD => ?_⟩
    have nDx : x ≠ D := ne_of_none upd_same hD
    have hD2 : H2 D = none := by rw [upd_ne nDx.symm] at hD; exact hD
    have hB2 : H2 B = some (.lst (vB bits)) := s2 _ _ (by rw [upd_ne nB]; exact hB)
    refine ⟨_, rfl, x, a.cm, dx, _, rfl, upd_at upd_same hD, T.cm, T.m_told, Nat.lt_of_le_of_lt (length_putF _ _ _) (by show 1 + 1 < 1000; decide), ?_⟩
    refine q D _ ?_ ?_ ⟨?_, ?_, ?_⟩
    · have := s2.free hD2
      rw [upd_ne nDx.symm] at this
      exact this
    · intro b o nb e
      have e1 : upd H x (.ins a.cm dx (putF "bits" (.ref B) [])) b = some o := by rw [upd_ne nb]; exact e
      have e2 := s2 _ _ e1
      rw [upd_ne nb, upd_ne (ne_of_none e2 hD2), upd_ne nb]
      exact e2
    · rw [upd_same]
      show some (HO.ins a.cm dx (putF "told" (.ref D) (putF "ship" _ [("bits", .ref B)]))) = _
      rw [fM_put1, fM_put2]
    · rw [upd_ne nB, upd_ne (ne_of_none hB2 hD2), upd_ne nB]
      exact hB2
    · refine ⟨⟨[], ?_, Nat.le_refl _, fun x => rfl⟩, fun p hp => absurd hp (by simp)⟩
      rw [upd_ne nDx.symm, upd_same]
end
end Sr
namespace Sr
open PySem L2 Sh
section
variable {a : Adr} {M : MsgI} {H : Hp} {t : Sd37.Told} {L ws ws' ws1 ws2 : List String} {r r1 : Option Sd37.Told} {f : Sd37.Told → Option Sd37.Told} {Q Q1 : VK} {E : XK}
theorem MsgAt.sub {L' : List String} (h : MsgAt a M H t L) (s : ∀ x ∈ L, x ∈ L') (l : L.length ≤ L'.length) : MsgAt a M H t L' := by
  refine ⟨h.ob, h.bs, ?_, fun p hp => s _ (h.told.2 p hp)⟩
  obtain ⟨kvs, h1, h2, h3⟩ := h.told.1
  exact ⟨kvs, h1, Nat.le_trans h2 l, h3⟩
theorem Tells.seq (h : Tells a M H t L (ws1 ++ ws2) (r1.bind f) Q E) (nd : (ws1 ++ ws2).Nodup) (k : ∀ t1 H1, Tells a M H1 t1 (L ++ ws1) ws2 (f t1) Q E → Q1 .non H1) : Tells a M H t L ws1 r1 Q1 E := by
  obtain ⟨hM, hf, hl, ke, kq⟩ := h
  rw [List.length_append] at hl
  refine ⟨hM, fun x hx => hf x (List.mem_append_left _ hx), by omega, fun e H' kp => ke (by rw [e]; rfl) H' kp, fun t1 H1 e kp hM1 => k t1 H1 ⟨hM1, fun x hx hx2 => ?_, by rw [List.length_append]; omega, fun e2 H' kp2 => ke (by rw [e]; exact e2) H' (kp.trans kp2), fun t' H' e2 kp2 hM2 => kq t' H' (by rw [e]; exact e2) (kp.trans kp2) (by rw [← List.append_assoc]; exact hM2)⟩⟩
  rcases List.mem_append.mp hx2 with hx2 | hx2
  · exact hf x (List.mem_append_right _ hx) hx2
  · exact (List.nodup_append.mp nd).2.2 x hx2 x hx rfl
theorem Tells.same {H' : Hp} (h : Tells a M H t L ws r Q E) (s : Same H H') : Tells a M H' t L ws r Q E := by
  obtain ⟨hM, hf, hl, ke, kq⟩ := h
  exact ⟨hM.same s, hf, hl, fun e H2 kp => ke e H2 (s.keep.trans kp), fun t' H2 e kp hM2 => kq t' H2 e (s.keep.trans kp) hM2⟩
theorem Tells.sub (h : Tells a M H t L ws r Q E) (s : ∀ x ∈ ws', x ∈ ws) (l : ws'.length ≤ ws.length) : Tells a M H t L ws' r Q E := by
  obtain ⟨hM, hf, hl, ke, kq⟩ := h
  refine ⟨hM, fun x hx => hf x (s x hx), by omega, ke, fun t' H2 e kp hM2 => kq t' H2 e kp (hM2.sub (fun x hx => ?_) (by rw [List.length_append, List.length_append]; omega))⟩
  rcases List.mem_append.mp hx with hx | hx
  · exact List.mem_append_left _ hx
  · exact List.mem_append_right _ (s x hx)
theorem Tells.fail (h : Tells a M H t L ws r Q E) (e : r = none) {H' : Hp} (s : Same H H') : E (.ref a.xm) none H' := h.2.2.2.1 e H' s.keep
end
def spLen (a : Adr) : Sp := fun vs H Q E => ∃ M t L tp ls, vs = [.ref M.m, .ref tp] ∧ MsgAt a M H t L ∧ H tp = some (.tup (vI ls)) ∧ Chk H Q E a.xm (M.bits.length ∈ ls) .non
def spPlace (a : Adr) : Sp := fun vs H Q E => ∃ M t L st, vs = [.ref M.m, .int ((st : Nat) : Int)] ∧ st + 55 ≤ M.bits.length ∧ Tells a M H t L ["x", "y"] (mPlace M.bits t st) Q E
def spWay (a : Adr) : Sp := fun vs H Q E => ∃ M t L st c, vs = [.ref M.m, .int ((st : Nat) : Int), .int ((c : Nat) : Int)] ∧ Tells a M H t L ["speed", "course", "heading"] (mWay M.bits t st c) Q E
def spSizes (a : Adr) : Sp := fun vs H Q E => ∃ M t L st, vs = [.ref M.m, .int ((st : Nat) : Int)] ∧ Tells a M H t L ["bow", "stern", "port", "starboard"] (mSizes M.bits t st) Q E
def spDate (a : Adr) : Sp := fun vs H Q E => ∃ M t L st, vs = [.ref M.m, .int ((st : Nat) : Int)] ∧ Tells a M H t L ["month", "day", "hour", "minute"] (mDate M.bits t st) Q E
def spTurn (a : Adr) : Sp := fun vs H Q E => ∃ M t L st, vs = [.ref M.m, .int ((st : Nat) : Int)] ∧ st + 8 ≤ M.bits.length ∧ Tells a M H t L ["turn"] (some (mTurn M.bits t st)) Q E
theorem absI_small {z : Int} {n : Nat} (h : ¬ (n : Int) < absI z) (hn : n < 2 ^ 63) : z.natAbs < 2 ^ 64 := by
  unfold absI at h
  split at h <;> omega
theorem sn8 (b : List Bool) (st : Nat) : (Sd37.sn b st 8).natAbs < 2 ^ 64 := by
  have := un_lt b st 8
  unfold Sd37.sn
  dsimp only
  split <;> omega
section
variable {P : Program} {w : World} {K : PySem.W.Frag} {mg : Str → Option Value} {base : Heap} {a : Adr}
theorem sc45 : FnScope ["message", "lengths"] ["message", "lengths"] (defScope (top 45)) := ⟨rfl, rfl, rfl, by decide +kernel, rfl, by decide +kernel, by decide +kernel⟩
theorem fn_len (T : Txt K mg a) : Fn P w K mg base "check_length" 1 (spLen a) := T.check_length.fn fun f fd F => by
  refine F.okx sc45 (fun vs H Q E h => ?_) (fun cdv A outer s H vs Q E hr h => ?_)
  · obtain ⟨_, _, _, _, _, rfl, _⟩ := h
    rfl
  · obtain ⟨M, t, L, tp, ls, rfl, hM, htp, k1, k2⟩ := h
    refine ⟨_, pss_one (ps_if (pt_cmpR op_notIn_seq (pe_callB call_len_seq (by rfl) T.len bLen (pa_cons (pe_fld (pv 0) rfl) pa_nil)) (pv 1) rfl) (pss_one (ps_raise T.xm (by rfl))) pss_nil), ?_⟩
    refine ⟨_, rfl, M.m, a.cm, M.dx, _, _, rfl, hM.ob, T.cm, T.m_bits, fM_bits, M.B, _, rfl, .inl (SqL.of hM.bs), _, rfl, tp, _, rfl, .inr (SqT.of htp), rfl, flat_vI _, _, rfl, ?_⟩
    rw [vB_len, inV_vI]
    exact iteI (c := ¬ M.bits.length ∈ ls) (by simp) (fun e => k2 e _ (Same.refl _)) (fun e => k1 (Classical.not_not.mp e) _ (Same.refl _))
theorem sc46 : FnScope ["message", "start", "x", "y"] ["message", "start"] (defScope (top 46)) := ⟨rfl, rfl, rfl, by decide +kernel, rfl, by decide +kernel, by decide +kernel⟩
theorem fn_place (T : Txt K mg a) : Fn P w K mg base "tell_place" 5 (spPlace a) := T.tell_place.fn fun f fd F => by
  refine F.okx sc46 (fun vs H Q E h => ?_) (fun cdv A outer s H vs Q E hr h => ?_)
  · obtain ⟨_, _, _, _, rfl, _⟩ := h
    rfl
  · obtain ⟨M, t, L, st, rfl, hst, h⟩ := h
    have hr3 := hr.mono (show 3 ≤ 4 by decide)
    have hr1 := hr.mono (show 1 ≤ 4 by decide)
    refine ⟨_, pss_cons (ps_set (i := 2) sc46.nd rfl (Or.inl rfl) (pe_mt (mt_sn T) (pv 0) hr1 passE (pa_cons (pv 1) (pa_cons pe_int pa_nil))))
      (pss_cons (ps_set (i := 3) sc46.nd rfl (Or.inl rfl) (pe_mt (mt_sn T) (pv 0) hr1 passE (pa_cons (pe_op op_add (pv 1) pe_int) (pa_cons pe_int pa_nil))))
      (pss_cons (ps_if (pw_and (pt_cmpR op_eq (pv 2) (pe_gi T.UNKNOWN_X) (nomark _)) (pw_and1 (pt_cmpR op_eq (pv 3) (pe_gi T.UNKNOWN_Y) (nomark _)))).pt (pss_one ps_retN) pss_nil)
      (pss_cons (ps_if (pw_or (pt_cmpR op_gt (pe_callB call_abs (by rfl) T.abs bAbs (pa_cons (pv 2) pa_nil)) (pe_gi T.LARGEST_X) (nomark _)) (pw_or1 (pt_cmpR op_gt (pe_callB call_abs (by rfl) T.abs bAbs (pa_cons (pv 3) pa_nil)) (pe_gi T.LARGEST_Y) (nomark _)))).pt
        (pss_one (ps_raise T.xm (by rfl))) pss_nil)
      (pss_cons (ps_expr (pe_mt (mt_tell T) (pv 0) hr3 passE (pa_cons pe_str (pa_cons (pv 2) pa_nil))))
      (pss_one (ps_expr (pe_mt (mt_tell T) (pv 0) hr3 passE (pa_cons pe_str (pa_cons (pv 3) pa_nil))))))))), ?_⟩
    refine ⟨_, rfl, M.m, M.dx, _, rfl, h.1.ob, fM_no (by decide +kernel) (by decide +kernel) (by decide +kernel), _, rfl, M.m, M.dx, M.B, _, M.bits, st, 27, rfl, h.1.ob, fM_bits, h.1.bs, by omega, fun H1 s1 => ?_⟩
    have h1 := h.same s1
    have e28 : (st : Int) + 28 = ((st + 28 : Nat) : Int) := by omega
    refine ⟨_, rfl, M.m, M.dx, _, rfl, h1.1.ob, fM_no (by decide +kernel) (by decide +kernel) (by decide +kernel), _, rfl, _, _, rfl, rfl, M.m, M.dx, M.B, _, M.bits, st + 28, 26, by rw [← e28]; rfl, h1.1.ob, fM_bits, h1.1.bs, by omega, fun H2 s2 => ?_⟩
    have h2 := h1.same s2
    clear h h1
    generalize ex : Sd37.sn M.bits st 28 = x at *
    generalize ey : Sd37.sn M.bits (st + 28) 27 = y at *
    have ex' : Sd37.sn M.bits st (27 + 1) = x := ex
    have ey' : Sd37.sn M.bits (st + 28) (26 + 1) = y := ey
    try rw [ex']
    try rw [ey']
    have rest : ¬ (x = 108600000 ∧ y = 54600000) → tSeq (tIfS (tOr (tTest (tOp (rI0 fun i j => V.bl (decide (j < i))) (tCB (fun xs H Q => ∃ i, xs = [V.int i] ∧ Q (V.int (if i < 0 then -i else i)) H) (tCons (tVar 2) tNil)) (tC (.int 108000000)))) (tTest (tOp (rI0 fun i j => V.bl (decide (j < i))) (tCB (fun xs H Q => ∃ i, xs = [V.int i] ∧ Q (V.int (if i < 0 then -i else i)) H) (tCons (tVar 3) tNil)) (tC (.int 54000000))))) (tRaise a.xm E) tNext)
        (tSeq (tDrop (tMeth a.cm "tell" (spTell a) [] E0 (tVar 0) (tCons (tC (.str "x")) (tCons (tVar 2) tNil)))) (tDrop (tMeth a.cm "tell" (spTell a) [] E0 (tVar 0) (tCons (tC (.str "y")) (tCons (tVar 3) tNil))))) { nx := fun _ H' => Q .non H', rt := Q } [some (.ref M.m), some (.int (st : Int)), some (.int x), some (.int y)] H2 := fun n => by
      have tells : ¬ 108000000 < absI x → ¬ 54000000 < absI y → tSeq (tDrop (tMeth a.cm "tell" (spTell a) [] E0 (tVar 0) (tCons (tC (.str "x")) (tCons (tVar 2) tNil)))) (tDrop (tMeth a.cm "tell" (spTell a) [] E0 (tVar 0) (tCons (tC (.str "y")) (tCons (tVar 3) tNil)))) { nx := fun _ H' => Q .non H', rt := Q } [some (.ref M.m), some (.int (st : Int)), some (.int x), some (.int y)] H2 := fun n1 n2 => by
        unfold mPlace at h2
        rw [ex, ey, if_neg n, if_neg (fun z => z.elim n1 n2)] at h2
        have h3 : Tells a M H2 t L (["x"] ++ ["y"]) ((some (t ++ [("x", Sd37.Val.num x)])).bind fun t => some (t ++ [("y", Sd37.Val.num y)])) Q E := h2
        refine ⟨_, rfl, M.m, M.dx, _, rfl, h3.1.ob, fM_no (by decide +kernel) (by decide +kernel) (by decide +kernel), _, rfl, M, t, L, "x", x, rfl, absI_small (n := 108000000) n1 (by decide), ?_⟩
        have h4 := h3.seq (Q1 := fun _ H5 => tDrop (tMeth a.cm "tell" (spTell a) [] E0 (tVar 0) (tCons (tC (.str "y")) (tCons (tVar 3) tNil))) { nx := fun _ H' => Q .non H', rt := Q } [some (.ref M.m), some (.int (st : Int)), some (.int x), some (.int y)] H5) (by decide) fun t1 H5 h5 => ?_
        · exact ⟨h4.1, h4.2.1, h4.2.2.1, (fun z => nomatch z), h4.2.2.2.2⟩
        · refine ⟨_, rfl, M.m, M.dx, _, rfl, h5.1.ob, fM_no (by decide +kernel) (by decide +kernel) (by decide +kernel), _, rfl, M, t1, L ++ ["x"], "y", y, rfl, absI_small (n := 54000000) n2 (by decide), ?_⟩
          exact ⟨h5.1, h5.2.1, h5.2.2.1, (fun z => nomatch z), h5.2.2.2.2⟩
      have bad : 108000000 < absI x ∨ 54000000 < absI y → E (.ref a.xm) none H2 := fun z => h2.fail (by unfold mPlace; rw [ex, ey, if_neg n, if_pos z]) (Same.refl _)
      refine ⟨_, rfl, x, rfl, _, _, rfl, rfl, _, rfl, iteI (c := 108000000 < absI x) (by simp [absI]) (fun e => iteT (bad (.inl e))) (fun e => ?_)⟩
      exact ⟨_, rfl, y, rfl, _, _, rfl, rfl, _, rfl, iteI (c := 54000000 < absI y) (by simp [absI]) (fun e2 => bad (.inr e2)) (fun e2 => tells e e2)⟩
    refine ⟨_, rfl, rfl, _, rfl, iteI (c := x = 108600000) (by simp) (fun e => ?_) (fun e => iteF (rest fun z => e z.1))⟩
    refine ⟨_, rfl, rfl, _, rfl, iteI (c := y = 54600000) (by simp) (fun e2 => ?_) (fun e2 => rest fun z => e2 z.2)⟩
    exact h2.2.2.2.2 t H2 (by unfold mPlace; rw [ex, ey, if_pos ⟨e, e2⟩]) (Keep.refl _) (h2.1.more _)
theorem sc47 : FnScope ["message", "speed_start", "course_start"] ["message", "speed_start", "course_start"] (defScope (top 47)) := ⟨rfl, rfl, rfl, by decide +kernel, rfl, by decide +kernel, by decide +kernel⟩
theorem fn_way (T : Txt K mg a) : Fn P w K mg base "tell_way" 5 (spWay a) := T.tell_way.fn fun f fd F => by
  refine F.okx sc47 (fun vs H Q E h => ?_) (fun cdv A outer s H vs Q E hr h => ?_)
  · obtain ⟨_, _, _, _, _, rfl, _⟩ := h
    rfl
  · obtain ⟨M, t, L, st, c, rfl, h⟩ := h
    refine ⟨_, pss_cons (ps_expr (pe_mt (mt_num T) (pv 0) hr pass1 (pa_cons pe_str (pa_cons (pv 1) (pa_cons pe_int (pa_cons pe_int pa_nil))))))
      (pss_cons (ps_expr (pe_mt (mt_num5 T) (pv 0) hr pass1 (pa_cons pe_str (pa_cons (pv 2) (pa_cons pe_int (pa_cons pe_int (pa_cons pe_int pa_nil)))))))
      (pss_one (ps_expr (pe_mt (mt_num5 T) (pv 0) hr pass1 (pa_cons pe_str (pa_cons (pe_op op_add (pv 2) pe_int) (pa_cons pe_int (pa_cons pe_int (pa_cons pe_int pa_nil))))))))), ?_⟩
    unfold mWay at h
    have no : ∀ {M : MsgI}, (fM (.ref M.B) (.int (M.n : Int)) (.ref M.D)).lookup ("tell_number" : Str) = none := fM_no (by decide +kernel) (by decide +kernel) (by decide +kernel)
    refine ⟨_, rfl, M.m, M.dx, _, rfl, h.1.ob, no, _, rfl, M, t, L, "speed", st, 10, 1023, none, rfl, by decide, h.seq (ws1 := ["speed"]) (ws2 := ["course", "heading"]) (by decide) fun t1 H1 h => ?_⟩
    refine ⟨_, rfl, M.m, M.dx, _, rfl, h.1.ob, no, _, rfl, M, t1, _, "course", c, 12, 3600, some 3600, rfl, by decide, h.seq (ws1 := ["course"]) (ws2 := ["heading"]) (by decide) fun t2 H2 h => ?_⟩
    have e12 : (c : Int) + 12 = ((c + 12 : Nat) : Int) := by omega
    exact ⟨_, rfl, M.m, M.dx, _, rfl, h.1.ob, no, _, rfl, _, _, rfl, rfl, M, t2, _, "heading", c + 12, 9, 511, some 359, by rw [← e12]; rfl, by decide, h⟩
theorem sc48 : FnScope ["message", "start"] ["message", "start"] (defScope (top 48)) := ⟨rfl, rfl, rfl, by decide +kernel, rfl, by decide +kernel, by decide +kernel⟩
theorem fn_sizes (T : Txt K mg a) : Fn P w K mg base "tell_sizes" 5 (spSizes a) := T.tell_sizes.fn fun f fd F => by
  refine F.okx sc48 (fun vs H Q E h => ?_) (fun cdv A outer s H vs Q E hr h => ?_)
  · obtain ⟨_, _, _, _, rfl, _⟩ := h
    rfl
  · obtain ⟨M, t, L, st, rfl, h⟩ := h
    refine ⟨_, pss_cons (ps_expr (pe_mt (mt_num T) (pv 0) hr pass1 (pa_cons pe_str (pa_cons (pv 1) (pa_cons pe_int (pa_cons pe_int pa_nil))))))
      (pss_cons (ps_expr (pe_mt (mt_num T) (pv 0) hr pass1 (pa_cons pe_str (pa_cons (pe_op op_add (pv 1) pe_int) (pa_cons pe_int (pa_cons pe_int pa_nil))))))
      (pss_cons (ps_expr (pe_mt (mt_num T) (pv 0) hr pass1 (pa_cons pe_str (pa_cons (pe_op op_add (pv 1) pe_int) (pa_cons pe_int (pa_cons pe_int pa_nil))))))
      (pss_one (ps_expr (pe_mt (mt_num T) (pv 0) hr pass1 (pa_cons pe_str (pa_cons (pe_op op_add (pv 1) pe_int) (pa_cons pe_int (pa_cons pe_int pa_nil))))))))), ?_⟩
    unfold mSizes at h
    have no : ∀ {M : MsgI}, (fM (.ref M.B) (.int (M.n : Int)) (.ref M.D)).lookup ("tell_number" : Str) = none := fM_no (by decide +kernel) (by decide +kernel) (by decide +kernel)
    have ea : ∀ k : Nat, (st : Int) + (k : Int) = ((st + k : Nat) : Int) := fun k => by omega
    refine ⟨_, rfl, M.m, M.dx, _, rfl, h.1.ob, no, _, rfl, M, t, L, "bow", st, 9, 0, none, rfl, by decide, h.seq (ws1 := ["bow"]) (ws2 := ["stern", "port", "starboard"]) (by decide) fun t1 H1 h => ?_⟩
    refine ⟨_, rfl, M.m, M.dx, _, rfl, h.1.ob, no, _, rfl, _, _, rfl, rfl, M, t1, _, "stern", st + 9, 9, 0, none, by rw [← ea 9]; rfl, by decide, h.seq (ws1 := ["stern"]) (ws2 := ["port", "starboard"]) (by decide) fun t2 H2 h => ?_⟩
    refine ⟨_, rfl, M.m, M.dx, _, rfl, h.1.ob, no, _, rfl, _, _, rfl, rfl, M, t2, _, "port", st + 18, 6, 0, none, by rw [← ea 18]; rfl, by decide, h.seq (ws1 := ["port"]) (ws2 := ["starboard"]) (by decide) fun t3 H3 h => ?_⟩
    exact ⟨_, rfl, M.m, M.dx, _, rfl, h.1.ob, no, _, rfl, _, _, rfl, rfl, M, t3, _, "starboard", st + 24, 6, 0, none, by rw [← ea 24]; rfl, by decide, h⟩
theorem sc49 : FnScope ["message", "start"] ["message", "start"] (defScope (top 49)) := ⟨rfl, rfl, rfl, by decide +kernel, rfl, by decide +kernel, by decide +kernel⟩
theorem fn_date (T : Txt K mg a) : Fn P w K mg base "tell_date" 5 (spDate a) := T.tell_date.fn fun f fd F => by
  refine F.okx sc49 (fun vs H Q E h => ?_) (fun cdv A outer s H vs Q E hr h => ?_)
  · obtain ⟨_, _, _, _, rfl, _⟩ := h
    rfl
  · obtain ⟨M, t, L, st, rfl, h⟩ := h
    refine ⟨_, pss_cons (ps_expr (pe_mt (mt_num5 T) (pv 0) hr pass1 (pa_cons pe_str (pa_cons (pv 1) (pa_cons pe_int (pa_cons pe_int (pa_cons pe_int pa_nil)))))))
      (pss_cons (ps_expr (pe_mt (mt_num T) (pv 0) hr pass1 (pa_cons pe_str (pa_cons (pe_op op_add (pv 1) pe_int) (pa_cons pe_int (pa_cons pe_int pa_nil))))))
      (pss_cons (ps_expr (pe_mt (mt_num5 T) (pv 0) hr pass1 (pa_cons pe_str (pa_cons (pe_op op_add (pv 1) pe_int) (pa_cons pe_int (pa_cons pe_int (pa_cons pe_int pa_nil)))))))
      (pss_one (ps_expr (pe_mt (mt_num5 T) (pv 0) hr pass1 (pa_cons pe_str (pa_cons (pe_op op_add (pv 1) pe_int) (pa_cons pe_int (pa_cons pe_int (pa_cons pe_int pa_nil)))))))))), ?_⟩
    unfold mDate at h
    have no : ∀ {M : MsgI}, (fM (.ref M.B) (.int (M.n : Int)) (.ref M.D)).lookup ("tell_number" : Str) = none := fM_no (by decide +kernel) (by decide +kernel) (by decide +kernel)
    have ea : ∀ k : Nat, (st : Int) + (k : Int) = ((st + k : Nat) : Int) := fun k => by omega
    refine ⟨_, rfl, M.m, M.dx, _, rfl, h.1.ob, no, _, rfl, M, t, L, "month", st, 4, 0, some 12, rfl, by decide, h.seq (ws1 := ["month"]) (ws2 := ["day", "hour", "minute"]) (by decide) fun t1 H1 h => ?_⟩
    refine ⟨_, rfl, M.m, M.dx, _, rfl, h.1.ob, no, _, rfl, _, _, rfl, rfl, M, t1, _, "day", st + 4, 5, 0, none, by rw [← ea 4]; rfl, by decide, h.seq (ws1 := ["day"]) (ws2 := ["hour", "minute"]) (by decide) fun t2 H2 h => ?_⟩
    refine ⟨_, rfl, M.m, M.dx, _, rfl, h.1.ob, no, _, rfl, _, _, rfl, rfl, M, t2, _, "hour", st + 9, 5, 24, some 24, by rw [← ea 9]; rfl, by decide, h.seq (ws1 := ["hour"]) (ws2 := ["minute"]) (by decide) fun t3 H3 h => ?_⟩
    exact ⟨_, rfl, M.m, M.dx, _, rfl, h.1.ob, no, _, rfl, _, _, rfl, rfl, M, t3, _, "minute", st + 14, 6, 60, some 60, by rw [← ea 14]; rfl, by decide, h⟩
theorem sc50 : FnScope ["message", "start", "turn"] ["message", "start"] (defScope (top 50)) := ⟨rfl, rfl, rfl, by decide +kernel, rfl, by decide +kernel, by decide +kernel⟩
theorem fn_turn (T : Txt K mg a) : Fn P w K mg base "tell_turn" 5 (spTurn a) := T.tell_turn.fn fun f fd F => by
  refine F.okx sc50 (fun vs H Q E h => ?_) (fun cdv A outer s H vs Q E hr h => ?_)
  · obtain ⟨_, _, _, _, rfl, _⟩ := h
    rfl
  · obtain ⟨M, t, L, st, rfl, hst, h⟩ := h
    refine ⟨_, pss_cons (ps_set (i := 2) sc50.nd rfl (Or.inl rfl) (pe_mt (mt_sn T) (pv 0) (hr.mono (by decide)) passE (pa_cons (pv 1) (pa_cons pe_int pa_nil))))
      (pss_one (ps_if (pt_cmpR op_ne (pv 2) (pe_un un_neg pe_int) (nomark _)) (pss_one (ps_expr (pe_mt (mt_tell T) (pv 0) (hr.mono (by decide)) passE (pa_cons pe_str (pa_cons (pv 2) pa_nil))))) pss_nil)), ?_⟩
    refine ⟨_, rfl, M.m, M.dx, _, rfl, h.1.ob, fM_no (by decide +kernel) (by decide +kernel) (by decide +kernel), _, rfl, M.m, M.dx, M.B, _, M.bits, st, 7, rfl, h.1.ob, fM_bits, h.1.bs, by omega, fun H1 s1 => ?_⟩
    have h1 := h.same s1
    refine ⟨_, rfl, _, rfl, rfl, _, rfl, iteI (c := ¬ Sd37.sn M.bits st 8 = -128) (by simp) (fun e => ?_) (fun e => ?_)⟩
    · unfold mTurn at h1
      rw [if_neg e] at h1
      refine ⟨_, rfl, M.m, M.dx, _, rfl, h1.1.ob, fM_no (by decide +kernel) (by decide +kernel) (by decide +kernel), _, rfl, M, t, L, "turn", _, rfl, sn8 _ _, h1.1, h1.2.1, h1.2.2.1, (fun z => nomatch z), h1.2.2.2.2⟩
    · have e := Decidable.not_not.mp e
      exact h1.2.2.2.2 t H1 (by unfold mTurn; rw [if_pos e]) (Keep.refl _) (h1.1.more _)
end
end Sr
namespace Sr
open PySem L2 Sh
def spKind (a : Adr) (g : List Bool → Option Sd37.Told) : Sp := fun vs H Q E => ∃ M, vs = [.ref M.m] ∧ Tells a M H [] [] Sd37.words (g M.bits) Q E
def spMsg (a : Adr) : Sp := fun vs H Q E => ∃ (B : Addr) (bits : List Bool), vs = [.ref B] ∧ H B = some (.lst (vB bits)) ∧ (mMsg bits = none → ∀ H', Same H H' → E (.ref a.xm) none H') ∧
  (∀ t M H', mMsg bits = some t → M.bits = bits → M.n = Sd37.un bits 8 30 → H M.m = none → H M.D = none → Same H H' → MsgAt a M H' t Sd37.words → Q (.ref M.m) H')
section
variable {P : Program} {w : World} {K : PySem.W.Frag} {mg : Str → Option Value} {base : Heap} {a : Adr}
theorem noNum {M : MsgI} : (fM (.ref M.B) (.int (M.n : Int)) (.ref M.D)).lookup ("tell_number" : Str) = none := fM_no (by decide +kernel) (by decide +kernel) (by decide +kernel)
theorem noTxt {M : MsgI} : (fM (.ref M.B) (.int (M.n : Int)) (.ref M.D)).lookup ("tell_text" : Str) = none := fM_no (by decide +kernel) (by decide +kernel) (by decide +kernel)
theorem noUn {M : MsgI} : (fM (.ref M.B) (.int (M.n : Int)) (.ref M.D)).lookup ("unsigned" : Str) = none := fM_no (by decide +kernel) (by decide +kernel) (by decide +kernel)
theorem sc51 : FnScope ["message"] ["message"] (defScope (top 51)) := ⟨rfl, rfl, rfl, by decide +kernel, rfl, by decide +kernel, by decide +kernel⟩
theorem fn_k1 (T : Txt K mg a) : Fn P w K mg base "tell_kinds_1_2_3" 6 (spKind a mK1) := T.tell_kinds_1_2_3.fn fun f fd F => by
  refine F.okx sc51 (fun vs H Q E h => ?_) (fun cdv A outer s H vs Q E hr h => ?_)
  · obtain ⟨_, rfl, _⟩ := h
    rfl
  · obtain ⟨M, rfl, h⟩ := h
    have hr4 := hr.mono (show 4 ≤ 5 by decide)
    refine ⟨_, pss_cons (ps_expr (pe_fn (fn_len T) (hr.mono (by decide)) pass1 (pa_cons (pv 0) (pa_cons (pe_tup (pa_cons pe_int pa_nil)) pa_nil))))
      (pss_cons (ps_expr (pe_mt (mt_num T) (pv 0) hr4 pass1 (pa_cons pe_str (pa_cons pe_int (pa_cons pe_int (pa_cons pe_int pa_nil))))))
      (pss_cons (ps_expr (pe_fn (fn_turn T) hr pass1 (pa_cons (pv 0) (pa_cons pe_int pa_nil))))
      (pss_cons (ps_expr (pe_fn (fn_place T) hr pass1 (pa_cons (pv 0) (pa_cons pe_int pa_nil))))
      (pss_one (ps_expr (pe_fn (fn_way T) hr pass1 (pa_cons (pv 0) (pa_cons pe_int (pa_cons pe_int pa_nil))))))))), ?_⟩
    refine ⟨_, rfl, (by show 1 ≤ sizeLine; decide), fun tp ntp => ?_⟩
    have s0 := same_upd (o := .tup [.int 168]) ntp
    refine ⟨M, [], [], tp, [168], rfl, h.1.same s0, upd_same, fun ok H1 s1 => ?_, fun n H1 s1 => h.fail (by unfold mK1; rw [if_pos (by simpa using n)]) (s0.trans s1)⟩
    have ok : M.bits.length = 168 := by simpa using ok
    have h := (h.same (s0.trans s1)).sub (ws' := ["status", "turn", "x", "y", "speed", "course", "heading"]) (by decide) (by decide)
    unfold mK1 at h
    rw [if_neg (not_not_intro ok)] at h
    refine ⟨_, rfl, M.m, M.dx, _, rfl, h.1.ob, noNum, M, _, _, "status", 38, 4, 15, none, rfl, by decide, h.seq (ws1 := ["status"]) (ws2 := ["turn", "x", "y", "speed", "course", "heading"]) (by decide) fun t1 H1 h => ?_⟩
    refine ⟨_, rfl, M, t1, _, 42, rfl, by omega, Tells.seq (r1 := some (mTurn M.bits t1 42)) (f := fun t => (mPlace M.bits t 61).bind fun t => mWay M.bits t 50 116) (ws1 := ["turn"]) (ws2 := ["x", "y", "speed", "course", "heading"]) h (by decide) fun t2 H2 h => ?_⟩
    refine ⟨_, rfl, M, t2, _, 61, rfl, by omega, h.seq (ws1 := ["x", "y"]) (ws2 := ["speed", "course", "heading"]) (by decide) fun t3 H3 h => ?_⟩
    exact ⟨_, rfl, M, t3, _, 50, 116, rfl, h⟩
theorem sc52 : FnScope ["message"] ["message"] (defScope (top 52)) := ⟨rfl, rfl, rfl, by decide +kernel, rfl, by decide +kernel, by decide +kernel⟩
theorem fn_k4 (T : Txt K mg a) : Fn P w K mg base "tell_kind_4" 6 (spKind a mK4) := T.tell_kind_4.fn fun f fd F => by
  refine F.okx sc52 (fun vs H Q E h => ?_) (fun cdv A outer s H vs Q E hr h => ?_)
  · obtain ⟨_, rfl, _⟩ := h
    rfl
  · obtain ⟨M, rfl, h⟩ := h
    have hr4 := hr.mono (show 4 ≤ 5 by decide)
    refine ⟨_, pss_cons (ps_expr (pe_fn (fn_len T) (hr.mono (by decide)) pass1 (pa_cons (pv 0) (pa_cons (pe_tup (pa_cons pe_int pa_nil)) pa_nil))))
      (pss_cons (ps_expr (pe_mt (mt_num T) (pv 0) hr4 pass1 (pa_cons pe_str (pa_cons pe_int (pa_cons pe_int (pa_cons pe_int pa_nil))))))
      (pss_cons (ps_expr (pe_fn (fn_date T) hr pass1 (pa_cons (pv 0) (pa_cons pe_int pa_nil))))
      (pss_cons (ps_expr (pe_mt (mt_num5 T) (pv 0) hr4 pass1 (pa_cons pe_str (pa_cons pe_int (pa_cons pe_int (pa_cons pe_int (pa_cons pe_int pa_nil)))))))
      (pss_one (ps_expr (pe_fn (fn_place T) hr pass1 (pa_cons (pv 0) (pa_cons pe_int pa_nil)))))))), ?_⟩
    refine ⟨_, rfl, (by show 1 ≤ sizeLine; decide), fun tp ntp => ?_⟩
    have s0 := same_upd (o := .tup [.int 168]) ntp
    refine ⟨M, [], [], tp, [168], rfl, h.1.same s0, upd_same, fun ok H1 s1 => ?_, fun n H1 s1 => h.fail (by unfold mK4; rw [if_pos (by simpa using n)]) (s0.trans s1)⟩
    have ok : M.bits.length = 168 := by simpa using ok
    have h := (h.same (s0.trans s1)).sub (ws' := ["year", "month", "day", "hour", "minute", "second", "x", "y"]) (by decide) (by decide)
    unfold mK4 at h
    rw [if_neg (not_not_intro ok)] at h
    refine ⟨_, rfl, M.m, M.dx, _, rfl, h.1.ob, noNum, M, _, _, "year", 38, 14, 0, none, rfl, by decide, h.seq (ws1 := ["year"]) (ws2 := ["month", "day", "hour", "minute", "second", "x", "y"]) (by decide) fun t1 H1 h => ?_⟩
    refine ⟨_, rfl, M, t1, _, 52, rfl, h.seq (ws1 := ["month", "day", "hour", "minute"]) (ws2 := ["second", "x", "y"]) (by decide) fun t2 H2 h => ?_⟩
    refine ⟨_, rfl, M.m, M.dx, _, rfl, h.1.ob, noNum, M, _, _, "second", 72, 6, 60, some 60, rfl, by decide, h.seq (ws1 := ["second"]) (ws2 := ["x", "y"]) (by decide) fun t3 H3 h => ?_⟩
    exact ⟨_, rfl, M, t3, _, 79, rfl, by omega, h⟩
theorem sc53 : FnScope ["message"] ["message"] (defScope (top 53)) := ⟨rfl, rfl, rfl, by decide +kernel, rfl, by decide +kernel, by decide +kernel⟩
theorem fn_k5 (T : Txt K mg a) : Fn P w K mg base "tell_kind_5" 6 (spKind a mK5) := T.tell_kind_5.fn fun f fd F => by
  refine F.okx sc53 (fun vs H Q E h => ?_) (fun cdv A outer s H vs Q E hr h => ?_)
  · obtain ⟨_, rfl, _⟩ := h
    rfl
  · obtain ⟨M, rfl, h⟩ := h
    have hr4 := hr.mono (show 4 ≤ 5 by decide)
    have hr3 := hr.mono (show 3 ≤ 5 by decide)
    refine ⟨_, pss_cons (ps_expr (pe_fn (fn_len T) (hr.mono (by decide)) pass1 (pa_cons (pv 0) (pa_cons (pe_tup (pa_cons pe_int (pa_cons pe_int pa_nil))) pa_nil))))
      (pss_cons (ps_expr (pe_mt (mt_num T) (pv 0) hr4 pass1 (pa_cons pe_str (pa_cons pe_int (pa_cons pe_int (pa_cons pe_int pa_nil))))))
      (pss_cons (ps_expr (pe_mt (mt_txt T) (pv 0) hr3 passE (pa_cons pe_str (pa_cons pe_int (pa_cons pe_int pa_nil)))))
      (pss_cons (ps_expr (pe_mt (mt_txt T) (pv 0) hr3 passE (pa_cons pe_str (pa_cons pe_int (pa_cons pe_int pa_nil)))))
      (pss_cons (ps_expr (pe_mt (mt_num T) (pv 0) hr4 pass1 (pa_cons pe_str (pa_cons pe_int (pa_cons pe_int (pa_cons pe_int pa_nil))))))
      (pss_cons (ps_expr (pe_fn (fn_sizes T) hr pass1 (pa_cons (pv 0) (pa_cons pe_int pa_nil))))
      (pss_cons (ps_expr (pe_fn (fn_date T) hr pass1 (pa_cons (pv 0) (pa_cons pe_int pa_nil))))
      (pss_cons (ps_expr (pe_mt (mt_num T) (pv 0) hr4 pass1 (pa_cons pe_str (pa_cons pe_int (pa_cons pe_int (pa_cons pe_int pa_nil))))))
      (pss_one (ps_expr (pe_mt (mt_txt T) (pv 0) hr3 passE (pa_cons pe_str (pa_cons pe_int (pa_cons pe_int pa_nil))))))))))))), ?_⟩
    refine ⟨_, rfl, (by show 2 ≤ sizeLine; decide), fun tp ntp => ?_⟩
    have s0 := same_upd (o := .tup [.int 424, .int 422]) ntp
    refine ⟨M, [], [], tp, [424, 422], rfl, h.1.same s0, upd_same, fun ok H1 s1 => ?_, fun n H1 s1 => h.fail (by unfold mK5; rw [if_pos (by simpa using n)]) (s0.trans s1)⟩
    have ok : M.bits.length = 424 ∨ M.bits.length = 422 := by simpa using ok
    have h := (h.same (s0.trans s1)).sub (ws' := ["imo", "call", "name", "kind", "bow", "stern", "port", "starboard", "month", "day", "hour", "minute", "draught", "to"]) (by decide) (by decide)
    unfold mK5 at h
    rw [if_neg (by omega)] at h
    have noE : ∀ {t L ws r Q E} {H : Hp}, Tells a M H t L ws (some r) Q E → Tells a M H t L ws (some r) Q E0 := fun h => ⟨h.1, h.2.1, h.2.2.1, (fun z => nomatch z), h.2.2.2.2⟩
    refine ⟨_, rfl, M.m, M.dx, _, rfl, h.1.ob, noNum, M, _, _, "imo", 40, 30, 0, none, rfl, by decide, h.seq (ws1 := ["imo"]) (ws2 := ["call", "name", "kind", "bow", "stern", "port", "starboard", "month", "day", "hour", "minute", "draught", "to"]) (by decide) fun t1 H1 h => ?_⟩
    refine ⟨_, rfl, M.m, M.dx, _, rfl, h.1.ob, noTxt, M, t1, _, "call", 70, 7, rfl, by decide, by decide, noE (Tells.seq (r1 := some (tellText t1 "call" (Sd37.textAt M.bits 70 7))) (f := fun t => (tellNum (tellText t "name" (Sd37.textAt M.bits 112 20)) "kind" (Sd37.un M.bits 232 8) 0 none).bind fun t =>
      (mSizes M.bits t 240).bind fun t => (mDate M.bits t 274).bind fun t => (tellNum t "draught" (Sd37.un M.bits 294 8) 0 none).bind fun t => some (tellText t "to" (Sd37.textAt M.bits 302 20))) (ws1 := ["call"]) (ws2 := ["name", "kind", "bow", "stern", "port", "starboard", "month", "day", "hour", "minute", "draught", "to"]) h (by decide) fun t2 H2 h => ?_)⟩
    refine ⟨_, rfl, M.m, M.dx, _, rfl, h.1.ob, noTxt, M, t2, _, "name", 112, 20, rfl, by decide, by decide, noE (Tells.seq (r1 := some (tellText t2 "name" (Sd37.textAt M.bits 112 20))) (f := fun t => (tellNum t "kind" (Sd37.un M.bits 232 8) 0 none).bind fun t =>
      (mSizes M.bits t 240).bind fun t => (mDate M.bits t 274).bind fun t => (tellNum t "draught" (Sd37.un M.bits 294 8) 0 none).bind fun t => some (tellText t "to" (Sd37.textAt M.bits 302 20))) (ws1 := ["name"]) (ws2 := ["kind", "bow", "stern", "port", "starboard", "month", "day", "hour", "minute", "draught", "to"]) h (by decide) fun t3 H3 h => ?_)⟩
    refine ⟨_, rfl, M.m, M.dx, _, rfl, h.1.ob, noNum, M, _, _, "kind", 232, 8, 0, none, rfl, by decide, h.seq (ws1 := ["kind"]) (ws2 := ["bow", "stern", "port", "starboard", "month", "day", "hour", "minute", "draught", "to"]) (by decide) fun t4 H4 h => ?_⟩
    refine ⟨_, rfl, M, t4, _, 240, rfl, h.seq (ws1 := ["bow", "stern", "port", "starboard"]) (ws2 := ["month", "day", "hour", "minute", "draught", "to"]) (by decide) fun t5 H5 h => ?_⟩
    refine ⟨_, rfl, M, t5, _, 274, rfl, h.seq (ws1 := ["month", "day", "hour", "minute"]) (ws2 := ["draught", "to"]) (by decide) fun t6 H6 h => ?_⟩
    refine ⟨_, rfl, M.m, M.dx, _, rfl, h.1.ob, noNum, M, _, _, "draught", 294, 8, 0, none, rfl, by decide, h.seq (ws1 := ["draught"]) (ws2 := ["to"]) (by decide) fun t7 H7 h => ?_⟩
    exact ⟨_, rfl, M.m, M.dx, _, rfl, h.1.ob, noTxt, M, t7, _, "to", 302, 20, rfl, by decide, by decide, noE h⟩
theorem sc54 : FnScope ["message"] ["message"] (defScope (top 54)) := ⟨rfl, rfl, rfl, by decide +kernel, rfl, by decide +kernel, by decide +kernel⟩
theorem fn_k18 (T : Txt K mg a) : Fn P w K mg base "tell_kind_18" 6 (spKind a mK18) := T.tell_kind_18.fn fun f fd F => by
  refine F.okx sc54 (fun vs H Q E h => ?_) (fun cdv A outer s H vs Q E hr h => ?_)
  · obtain ⟨_, rfl, _⟩ := h
    rfl
  · obtain ⟨M, rfl, h⟩ := h
    refine ⟨_, pss_cons (ps_expr (pe_fn (fn_len T) (hr.mono (by decide)) pass1 (pa_cons (pv 0) (pa_cons (pe_tup (pa_cons pe_int pa_nil)) pa_nil))))
      (pss_cons (ps_expr (pe_fn (fn_place T) hr pass1 (pa_cons (pv 0) (pa_cons pe_int pa_nil))))
      (pss_one (ps_expr (pe_fn (fn_way T) hr pass1 (pa_cons (pv 0) (pa_cons pe_int (pa_cons pe_int pa_nil))))))), ?_⟩
    refine ⟨_, rfl, (by show 1 ≤ sizeLine; decide), fun tp ntp => ?_⟩
    have s0 := same_upd (o := .tup [.int 168]) ntp
    refine ⟨M, [], [], tp, [168], rfl, h.1.same s0, upd_same, fun ok H1 s1 => ?_, fun n H1 s1 => h.fail (by unfold mK18; rw [if_pos (by simpa using n)]) (s0.trans s1)⟩
    have ok : M.bits.length = 168 := by simpa using ok
    have h := (h.same (s0.trans s1)).sub (ws' := ["x", "y", "speed", "course", "heading"]) (by decide) (by decide)
    unfold mK18 at h
    rw [if_neg (not_not_intro ok)] at h
    refine ⟨_, rfl, M, [], _, 57, rfl, by omega, h.seq (ws1 := ["x", "y"]) (ws2 := ["speed", "course", "heading"]) (by decide) fun t3 H3 h => ?_⟩
    exact ⟨_, rfl, M, t3, _, 46, 112, rfl, h⟩
theorem sc55 : FnScope ["message", "half"] ["message"] (defScope (top 55)) := ⟨rfl, rfl, rfl, by decide +kernel, rfl, by decide +kernel, by decide +kernel⟩
theorem fn_k24 (T : Txt K mg a) : Fn P w K mg base "tell_kind_24" 6 (spKind a mK24) := T.tell_kind_24.fn fun f fd F => by
  refine F.okx sc55 (fun vs H Q E h => ?_) (fun cdv A outer s H vs Q E hr h => ?_)
  · obtain ⟨_, rfl, _⟩ := h
    rfl
  · obtain ⟨M, rfl, h⟩ := h
    have hr4 := hr.mono (show 4 ≤ 5 by decide)
    have hr3 := hr.mono (show 3 ≤ 5 by decide)
    refine ⟨_, pss_cons (ps_set (i := 1) sc55.nd rfl (Or.inl rfl) (pe_mt (mt_un T) (pv 0) (hr.mono (by decide)) passE (pa_cons pe_int (pa_cons pe_int pa_nil))))
      (pss_one (ps_if (pt_cmpR op_eq (pv 1) pe_int (nomark _))
        (pss_cons (ps_expr (pe_fn (fn_len T) (hr.mono (by decide)) pass1 (pa_cons (pv 0) (pa_cons (pe_tup (pa_cons pe_int (pa_cons pe_int pa_nil))) pa_nil))))
          (pss_one (ps_expr (pe_mt (mt_txt T) (pv 0) hr3 passE (pa_cons pe_str (pa_cons pe_int (pa_cons pe_int pa_nil)))))))
        (pss_one (ps_if (pt_cmpR op_eq (pv 1) pe_int (nomark _))
          (pss_cons (ps_expr (pe_fn (fn_len T) (hr.mono (by decide)) pass1 (pa_cons (pv 0) (pa_cons (pe_tup (pa_cons pe_int pa_nil)) pa_nil))))
            (pss_cons (ps_expr (pe_mt (mt_num T) (pv 0) hr4 pass1 (pa_cons pe_str (pa_cons pe_int (pa_cons pe_int (pa_cons pe_int pa_nil))))))
            (pss_cons (ps_expr (pe_mt (mt_txt T) (pv 0) hr3 passE (pa_cons pe_str (pa_cons pe_int (pa_cons pe_int pa_nil)))))
            (pss_one (ps_expr (pe_fn (fn_sizes T) hr pass1 (pa_cons (pv 0) (pa_cons pe_int pa_nil))))))))
          (pss_one (ps_raise T.xm (by rfl))))))), ?_⟩
    have noE : ∀ {t L ws r Q E} {H : Hp}, Tells a M H t L ws (some r) Q E → Tells a M H t L ws (some r) Q E0 := fun h => ⟨h.1, h.2.1, h.2.2.1, (fun z => nomatch z), h.2.2.2.2⟩
    refine ⟨_, rfl, M.m, M.dx, _, rfl, h.1.ob, noUn, M.m, M.dx, M.B, _, M.bits, 38, 2, rfl, h.1.ob, fM_bits, h.1.bs, fun H1 s1 => ?_⟩
    have h := h.same s1
    refine ⟨_, rfl, rfl, _, rfl, iteI (c := Sd37.un M.bits 38 2 = 0) (by simp <;> omega) (fun e => ?_) (fun e => ⟨_, rfl, rfl, _, rfl, iteI (c := Sd37.un M.bits 38 2 = 1) (by simp <;> omega) (fun e2 => ?_) (fun e2 => h.fail (by unfold mK24; rw [if_neg e, if_neg e2]) (Same.refl _))⟩)⟩
    · refine ⟨_, rfl, (by show 2 ≤ sizeLine; decide), fun tp ntp => ?_⟩
      have s0 := same_upd (o := .tup [.int 160, .int 168]) ntp
      refine ⟨M, [], [], tp, [160, 168], rfl, h.1.same s0, upd_same, fun ok H1 s1 => ?_, fun n H1 s1 => h.fail (by unfold mK24; rw [if_pos e, if_pos (by simpa using n)]) (s0.trans s1)⟩
      have ok : M.bits.length = 160 ∨ M.bits.length = 168 := by simpa using ok
      have h := (h.same (s0.trans s1)).sub (ws' := ["name"]) (by decide) (by decide)
      unfold mK24 at h
      rw [if_pos e, if_neg (by omega)] at h
      exact ⟨_, rfl, M.m, M.dx, _, rfl, h.1.ob, noTxt, M, [], _, "name", 40, 20, rfl, by decide, by decide, noE h⟩
    · refine ⟨_, rfl, (by show 1 ≤ sizeLine; decide), fun tp ntp => ?_⟩
      have s0 := same_upd (o := .tup [.int 168]) ntp
      refine ⟨M, [], [], tp, [168], rfl, h.1.same s0, upd_same, fun ok H1 s1 => ?_, fun n H1 s1 => h.fail (by unfold mK24; rw [if_neg e, if_pos e2, if_pos (by simpa using n)]) (s0.trans s1)⟩
      have ok : M.bits.length = 168 := by simpa using ok
      have h := (h.same (s0.trans s1)).sub (ws' := ["kind", "call", "bow", "stern", "port", "starboard"]) (by decide) (by decide)
      unfold mK24 at h
      rw [if_neg e, if_pos e2, if_neg (not_not_intro ok)] at h
      refine ⟨_, rfl, M.m, M.dx, _, rfl, h.1.ob, noNum, M, _, _, "kind", 40, 8, 0, none, rfl, by decide, h.seq (ws1 := ["kind"]) (ws2 := ["call", "bow", "stern", "port", "starboard"]) (by decide) fun t1 H1 h => ?_⟩
      refine ⟨_, rfl, M.m, M.dx, _, rfl, h.1.ob, noTxt, M, t1, _, "call", 90, 7, rfl, by decide, by decide, noE (Tells.seq (r1 := some (tellText t1 "call" (Sd37.textAt M.bits 90 7))) (f := fun t => mSizes M.bits t 132) (ws1 := ["call"]) (ws2 := ["bow", "stern", "port", "starboard"]) h (by decide) fun t2 H2 h => ?_)⟩
      exact ⟨_, rfl, M, t2, _, 132, rfl, h⟩
theorem sc56 : FnScope ["message", "kind"] ["message"] (defScope (top 56)) := ⟨rfl, rfl, rfl, by decide +kernel, rfl, by decide +kernel, by decide +kernel⟩
theorem fn_kind (T : Txt K mg a) : Fn P w K mg base "tell_by_kind" 7 (spKind a mKind) := T.tell_by_kind.fn fun f fd F => by
  refine F.okx sc56 (fun vs H Q E h => ?_) (fun cdv A outer s H vs Q E hr h => ?_)
  · obtain ⟨_, rfl, _⟩ := h
    rfl
  · obtain ⟨M, rfl, h⟩ := h
    refine ⟨_, pss_cons (ps_set (i := 1) sc56.nd rfl (Or.inl rfl) (pe_mt (mt_un T) (pv 0) (hr.mono (by decide)) passE (pa_cons pe_int (pa_cons pe_int pa_nil))))
      (pss_one (ps_if (pt_cmpR op_in_seq (pv 1) (pe_tup (pa_cons pe_int (pa_cons pe_int (pa_cons pe_int pa_nil)))) rfl) (pss_one (ps_expr (pe_fn (fn_k1 T) hr pass1 (pa_cons (pv 0) pa_nil))))
        (pss_one (ps_if (pt_cmpR op_eq (pv 1) pe_int (nomark _)) (pss_one (ps_expr (pe_fn (fn_k4 T) hr pass1 (pa_cons (pv 0) pa_nil))))
          (pss_one (ps_if (pt_cmpR op_eq (pv 1) pe_int (nomark _)) (pss_one (ps_expr (pe_fn (fn_k5 T) hr pass1 (pa_cons (pv 0) pa_nil))))
            (pss_one (ps_if (pt_cmpR op_eq (pv 1) pe_int (nomark _)) (pss_one (ps_expr (pe_fn (fn_k18 T) hr pass1 (pa_cons (pv 0) pa_nil))))
              (pss_one (ps_if (pt_cmpR op_eq (pv 1) pe_int (nomark _)) (pss_one (ps_expr (pe_fn (fn_k24 T) hr pass1 (pa_cons (pv 0) pa_nil))))
                (pss_one (ps_raise T.xm (by rfl))))))))))))), ?_⟩
    refine ⟨_, rfl, M.m, M.dx, _, rfl, h.1.ob, noUn, M.m, M.dx, M.B, _, M.bits, 0, 6, rfl, h.1.ob, fM_bits, h.1.bs, fun H1 s1 => ?_⟩
    have h := h.same s1
    refine ⟨_, rfl, (by show 3 ≤ sizeLine; decide), fun tp ntp => ?_⟩
    have h := h.same (same_upd (o := .tup [.int 1, .int 2, .int 3]) ntp)
    refine ⟨tp, vI [1, 2, 3], rfl, .inr (SqT.of upd_same), rfl, rfl, _, rfl, ?_⟩
    have ei : (if false = true then !inV (V.int ((Sd37.un M.bits 0 6 : Nat) : Int)) (vI [1, 2, 3]) else inV (V.int ((Sd37.un M.bits 0 6 : Nat) : Int)) (vI [1, 2, 3])) = decide (Sd37.un M.bits 0 6 ∈ [1, 2, 3]) := inV_vI _ _
    unfold mKind at h
    refine iteI (c := Sd37.un M.bits 0 6 = 1 ∨ Sd37.un M.bits 0 6 = 2 ∨ Sd37.un M.bits 0 6 = 3) (by rw [ei]; simp) (fun e => ?_) (fun e => ?_)
    · rw [if_pos e] at h
      exact ⟨_, rfl, M, rfl, h⟩
    rw [if_neg e] at h
    refine ⟨_, rfl, rfl, _, rfl, iteI (c := Sd37.un M.bits 0 6 = 4) (by simp <;> omega) (fun e => ?_) (fun e => ?_)⟩
    · rw [if_pos e] at h
      exact ⟨_, rfl, M, rfl, h⟩
    rw [if_neg e] at h
    refine ⟨_, rfl, rfl, _, rfl, iteI (c := Sd37.un M.bits 0 6 = 5) (by simp <;> omega) (fun e => ?_) (fun e => ?_)⟩
    · rw [if_pos e] at h
      exact ⟨_, rfl, M, rfl, h⟩
    rw [if_neg e] at h
    refine ⟨_, rfl, rfl, _, rfl, iteI (c := Sd37.un M.bits 0 6 = 18) (by simp <;> omega) (fun e => ?_) (fun e => ?_)⟩
    · rw [if_pos e] at h
      exact ⟨_, rfl, M, rfl, h⟩
    rw [if_neg e] at h
    refine ⟨_, rfl, rfl, _, rfl, iteI (c := Sd37.un M.bits 0 6 = 24) (by simp <;> omega) (fun e => ?_) (fun e => ?_)⟩
    · rw [if_pos e] at h
      exact ⟨_, rfl, M, rfl, h⟩
    rw [if_neg e] at h
    exact h.fail rfl (Same.refl _)
theorem sc57 : FnScope ["bits", "message"] ["bits"] (defScope (top 57)) := ⟨rfl, rfl, rfl, by decide +kernel, rfl, by decide +kernel, by decide +kernel⟩
theorem fn_msg (T : Txt K mg a) : Fn P w K mg base "read_message" 8 (spMsg a) := T.read_message.fn fun f fd F => by
  refine F.okx sc57 (fun vs H Q E h => ?_) (fun cdv A outer s H vs Q E hr h => ?_)
  · obtain ⟨_, _, rfl, _⟩ := h
    rfl
  · obtain ⟨B, bits, rfl, hB, ke, kq⟩ := h
    refine ⟨_, pss_cons (ps_if (pt_cmpR op_lt (pe_callB call_len_seq (by rfl) T.len bLen (pa_cons (pv 0) pa_nil)) (pe_gi T.LEAST_BITS) (nomark _)) (pss_one (ps_raise T.xm (by rfl))) pss_nil)
      (pss_cons (ps_set (i := 1) sc57.nd rfl (Or.inl rfl) (pe_mk (mk_msg T) (hr.mono (by decide)) passE (pa_cons (pv 0) pa_nil)))
      (pss_cons (ps_if (pt_cmpR op_gt (pe_fld (pv 1) rfl) (pe_gi T.LARGEST_SHIP) (nomark _)) (pss_one (ps_raise T.xm (by rfl))) pss_nil)
      (pss_cons (ps_expr (pe_fn (fn_kind T) hr pass1 (pa_cons (pv 1) pa_nil)))
      (pss_one (ps_ret (pv 1)))))), ?_⟩
    refine ⟨_, rfl, B, _, rfl, .inl (SqL.of hB), _, _, rfl, rfl, _, rfl, ?_⟩
    rw [vB_len]
    refine iteI (c := bits.length < 40) (by simp <;> omega) (fun e => ke (by unfold mMsg; rw [if_pos e]) _ (Same.refl _)) (fun e => ?_)
    refine ⟨_, rfl, fun x dx nx ndx nex => ⟨x, dx, B, bits, rfl, upd_same, ?_, fun D H1 nD kp hM => ⟨rfl, ?_⟩⟩⟩
    · rw [upd_ne (ne_of_none hB nx), upd_ne (ne_of_none hB ndx)]
      exact hB
    have s0 : Same H (upd (upd H dx (.own x)) x (.ins a.cm dx [])) := fun b o z => by
      rw [upd_ne (ne_of_none z nx), upd_ne (ne_of_none z ndx)]
      exact z
    have s1 : Same H H1 := kp.of nx s0
    have nD0 : H D = none := s0.free nD
    refine ⟨_, rfl, x, a.cm, dx, _, _, rfl, hM.ob, T.cm, T.m_ship, fM_ship, _, _, rfl, rfl, _, rfl, iteI (c := 999999999 < Sd37.un bits 8 30) (by simp <;> omega) (fun e2 => ke (by unfold mMsg; rw [if_neg e, if_pos e2]) _ s1) (fun e2 => ?_)⟩
    refine ⟨_, rfl, ⟨x, dx, B, D, Sd37.un bits 8 30, bits⟩, rfl, hM, (fun y _ z => nomatch z), by decide, fun e3 H2 k2 => ke (by unfold mMsg; rw [if_neg e, if_neg e2]; exact e3) _ (k2.of nD0 s1), fun t H2 e3 k2 h2 => ⟨_, rfl, ?_⟩⟩
    exact kq t ⟨x, dx, B, D, Sd37.un bits 8 30, bits⟩ H2 (by unfold mMsg; rw [if_neg e, if_neg e2]; exact e3) rfl rfl nx nD0 (k2.of nD0 s1) h2
end
end Sr
namespace Sr
open PySem L2 Sh
def fG (s p w b : V) : List (Str × V) := [("since", s), ("parts", p), ("which", w), ("bits", b)]
def fW (g : V) : List (Str × V) := [("begun", g)]
section
variable {s p w b x : V}
theorem fG_since : (fG s p w b).lookup ("since" : Str) = some s := lkE
theorem fG_parts : (fG s p w b).lookup ("parts" : Str) = some p := (lkN (by decide +kernel)).trans lkE
theorem fG_which : (fG s p w b).lookup ("which" : Str) = some w := (lkN (by decide +kernel)).trans ((lkN (by decide +kernel)).trans lkE)
theorem fG_bits : (fG s p w b).lookup ("bits" : Str) = some b := (lkN (by decide +kernel)).trans ((lkN (by decide +kernel)).trans ((lkN (by decide +kernel)).trans lkE))
theorem fG_put : putF "bits" b (putF "which" w (putF "parts" p (putF "since" s []))) = fG s p w b := by
  rw [ptNil, put1 (by decide +kernel), put2 (by decide +kernel) (by decide +kernel), put3 (by decide +kernel) (by decide +kernel) (by decide +kernel)]
  rfl
theorem fG_which' : putF "which" x (fG s p w b) = fG s p x b := by
  unfold fG
  rw [ptN (by decide +kernel), ptN (by decide +kernel), ptE]
theorem fG_bits' : putF "bits" x (fG s p w b) = fG s p w x := by
  unfold fG
  rw [ptN (by decide +kernel), ptN (by decide +kernel), ptN (by decide +kernel), ptE]
theorem fW_begun {g : V} : (fW g).lookup ("begun" : Str) = some g := lkE
theorem fW_put {g : V} : putF "begun" x (fW g) = fW x := ptE
theorem fW_no {g : V} {m : Str} (h : ¬ m = "begun") : (fW g).lookup m = none := (lkN h).trans lkNil
end
def keyNW (w : Sd37.Wait) : NK := [kI (ownL w.own), kI [48 + w.seq], kI w.channel]
theorem kI_inj {a b : List Nat} (h : kI a = kI b) : a = b := by
  have : (kI a).map kV = (kI b).map kV := by rw [h]
  rw [kI_vI, kI_vI] at this
  exact vI_inj this
theorem ownL_inj {a b : Bool} (h : ownL a = ownL b) : a = b := by
  cases a <;> cases b <;> first | rfl | (revert h; decide)
theorem keyNW_inj {v w : Sd37.Wait} (h : keyNW v = keyNW w) : keyW v = keyW w := by
  unfold keyNW at h
  simp only [List.cons.injEq, and_true] at h
  obtain ⟨h1, h2, h3⟩ := h
  have h2 := kI_inj h2
  have h2 : v.seq = w.seq := by
    have : 48 + v.seq = 48 + w.seq := by simpa using h2
    omega
  unfold keyW
  rw [ownL_inj (kI_inj h1), h2, kI_inj h3]
theorem keyNW_of {v w : Sd37.Wait} (h : keyW v = keyW w) : keyNW v = keyNW w := by
  unfold keyW at h
  simp only [Prod.mk.injEq] at h
  obtain ⟨h1, h2, h3⟩ := h
  unfold keyNW
  rw [h1, h2, h3]
theorem keyN_new {x : Sd37.Sentence} {n : Nat} (h : x.seq.isSome = true) : keyN x = keyNW (newW x n) := by
  unfold keyN keyNW newW
  cases e : x.seq with
  | none => rw [e] at h; cases h
  | some d => rfl
theorem keyS_new {x : Sd37.Sentence} {n : Nat} : keyW (newW x n) = keyS x := rfl
theorem keyN_iff {x : Sd37.Sentence} (h : x.seq.isSome = true) {w : Sd37.Wait} : keyNW w = keyN x ↔ keyW w = keyS x := by
  rw [keyN_new (n := 0) h, ← keyS_new (x := x) (n := 0)]
  exact ⟨keyNW_inj, keyNW_of⟩
abbrev WZ := Sd37.Wait × Addr
def wkv (zs : List WZ) : List (NK × V) := zs.map fun z => (keyNW z.1, V.ref z.2)
theorem wkv_len (zs : List WZ) : (wkv zs).length = zs.length := by simp [wkv]
theorem wkv_get {zs : List WZ} {i : Nat} {k : NK} {v : V} (h : (wkv zs)[i]? = some (k, v)) : ∃ z, zs[i]? = some z ∧ k = keyNW z.1 ∧ v = V.ref z.2 := by
  unfold wkv at h
  rw [List.getElem?_map] at h
  cases e : zs[i]? with
  | none => rw [e] at h; cases h
  | some z => rw [e] at h; cases h; exact ⟨z, rfl, rfl, rfl⟩
theorem valV_wkv {x : Sd37.Sentence} (h : x.seq.isSome = true) : ∀ zs : List WZ, valV (wkv zs) (keyN x) = (zs.find? fun z => decide (keyW z.1 = keyS x)).map fun z => V.ref z.2
  | [] => rfl
  | z :: r => by
    show valV ((keyNW z.1, V.ref z.2) :: wkv r) (keyN x) = _
    by_cases e : keyW z.1 = keyS x
    · rw [valV_pos ((keyN_iff h).mpr e), List.find?_cons, decide_eq_true e]
      rfl
    · rw [valV_neg (fun q => e ((keyN_iff h).mp q)), List.find?_cons, decide_eq_false e]
      exact valV_wkv h r
theorem dropK_wkv {x : Sd37.Sentence} (h : x.seq.isSome = true) (zs : List WZ) : dropK (wkv zs) (keyN x) = wkv (zs.filter fun z => decide (keyW z.1 ≠ keyS x)) := by
  unfold dropK wkv
  rw [List.filter_map]
  congr 1
  congr 1
  funext z
  show decide (keyNW z.1 ≠ keyN x) = decide (keyW z.1 ≠ keyS x)
  by_cases e : keyW z.1 = keyS x
  · simp [e, (keyN_iff h).mpr e]
  · have : ¬ keyNW z.1 = keyN x := fun q => e ((keyN_iff h).mp q)
    simp [e, this]
theorem dropK_head {z : WZ} {r : List WZ} (h : ((z :: r).map fun z => keyW z.1).Nodup) : dropK (wkv (z :: r)) (keyNW z.1) = wkv r := by
  have hn := (List.nodup_cons.mp h).1
  show dropK ((keyNW z.1, V.ref z.2) :: wkv r) (keyNW z.1) = _
  rw [dropK_pos rfl, dropK_no]
  intro m
  obtain ⟨p, hp, e⟩ := List.mem_map.mp m
  obtain ⟨y, hy, rfl⟩ := List.mem_map.mp hp
  exact hn (List.mem_map.mpr ⟨y, hy, keyNW_inj e⟩)
theorem putK_new {κ : Type} [DecidableEq κ] {kvs : List (κ × V)} {k : κ} {v : V} (h : valV kvs k = none) : putK kvs k v = kvs ++ [(k, v)] := by
  unfold putK
  rw [valV_any, h, if_neg (by simp)]
theorem wkv_none {zs : List WZ} {w : Sd37.Wait} (h : ∀ z ∈ zs, keyW z.1 ≠ keyW w) : valV (wkv zs) (keyNW w) = none := by
  induction zs with
  | nil => rfl
  | cons z r ih =>
    show valV ((keyNW z.1, V.ref z.2) :: wkv r) _ = _
    rw [valV_neg (fun q => h z List.mem_cons_self (keyNW_inj q))]
    exact ih fun y hy => h y (List.mem_cons_of_mem _ hy)
def BegunAt (a : Adr) (H : Hp) (b : Addr) (w : Sd37.Wait) : Prop := ∃ dx B, H b = some (.ins a.cb dx (fG (.int (w.since : Int)) (.int (w.total : Int)) (.int (w.got.length : Int)) (.ref B))) ∧ H B = some (.lst (vB (Sd37.bitsOf w.got.flatten)))
theorem BegunAt.keeps {a : Adr} {H H' : Hp} {b : Addr} {w : Sd37.Wait} (h : BegunAt a H b w) (k1 : ∀ o, H b = some o → H' b = some o) (k2 : ∀ c xs, H c = some (.lst xs) → H' c = some (.lst xs)) : BegunAt a H' b w := by
  obtain ⟨dx, B, h1, h2⟩ := h
  exact ⟨dx, B, k1 _ h1, k2 _ _ h2⟩
structure Zs (a : Adr) (H : Hp) (zs : List WZ) : Prop where
  at_ : ∀ z ∈ zs, BegunAt a H z.2 z.1
  nd : (zs.map (·.2)).Nodup
  keys : (zs.map fun z => keyW z.1).Nodup
  few : zs.length ≤ 8
  ok : ∀ z ∈ zs, WaitOk z.1
theorem Zs.sub {a : Adr} {H : Hp} {zs ys : List WZ} (h : Zs a H zs) (s : ys.Sublist zs) : Zs a H ys :=
  ⟨fun z hz => h.at_ z (s.mem hz), h.nd.sublist (s.map _), h.keys.sublist (s.map _), Nat.le_trans s.length_le h.few, fun z hz => h.ok z (s.mem hz)⟩
theorem Zs.keeps {a : Adr} {H H' : Hp} {zs : List WZ} (h : Zs a H zs) (k1 : ∀ z ∈ zs, ∀ o, H z.2 = some o → H' z.2 = some o) (k2 : ∀ c xs, H c = some (.lst xs) → H' c = some (.lst xs)) : Zs a H' zs :=
  ⟨fun z hz => (h.at_ z hz).keeps (k1 z hz) k2, h.nd, h.keys, h.few, h.ok⟩
theorem Zs.same {a : Adr} {H H' : Hp} {zs : List WZ} (h : Zs a H zs) (s : Same H H') : Zs a H' zs := h.keeps (fun z _ o e => s _ _ e) fun c xs e => s _ _ e
def WaitAt (a : Adr) (H : Hp) (W : Addr) (ws : List Sd37.Wait) : Prop := ∃ dx G zs, zs.map (·.1) = ws ∧ H W = some (.ins a.cw dx (fW (.ref G))) ∧ H G = some (.dT (wkv zs)) ∧ Zs a H zs
theorem WaitAt.same {a : Adr} {H H' : Hp} {W : Addr} {ws : List Sd37.Wait} (h : WaitAt a H W ws) (s : Same H H') : WaitAt a H' W ws := by
  obtain ⟨dx, G, zs, e, h1, h2, h3⟩ := h
  exact ⟨dx, G, zs, e, s _ _ h1, s _ _ h2, h3.same s⟩
def wObj (a : Adr) : HO → Prop
  | .dT _ => True
  | .ins C _ _ => C = a.cw ∨ C = a.cb
  | _ => False
def KeepW (a : Adr) (H H' : Hp) : Prop := ∀ b o, ¬ wObj a o → H b = some o → H' b = some o
theorem KeepW.refl {a : Adr} (H : Hp) : KeepW a H H := fun _ _ _ h => h
theorem KeepW.trans {a : Adr} {H H1 H2 : Hp} (x : KeepW a H H1) (y : KeepW a H1 H2) : KeepW a H H2 := fun b o n h => y b o n (x b o n h)
theorem _root_.L2.Same.keepW {a : Adr} {H H' : Hp} (s : Same H H') : KeepW a H H' := fun b o _ h => s b o h
theorem KeepW.upd {a : Adr} {H H' : Hp} {p : Addr} {o u : HO} (s : KeepW a H H') (h : H' p = some u) (w : wObj a u) : KeepW a H (upd H' p o) := fun b v n e => by
  have e2 := s b v n e
  rw [upd_ne (fun z => by rw [z, h] at e2; cases e2; exact n w)]
  exact e2
theorem KeepW.lst {a : Adr} {H H' : Hp} (s : KeepW a H H') : ∀ c xs, H c = some (.lst xs) → H' c = some (.lst xs) := fun c xs e => s c _ (fun z => z) e
theorem KeepW.ntup {a : Adr} {H H' : Hp} (s : KeepW a H H') {b : Addr} {k : NK} (h : NTup H b k) : NTup H' b k := h.keeps fun c ys e => s c _ (fun z => z) e
structure Dif (a : Adr) : Prop where
  nd : [a.cs, a.cm, a.cb, a.cw, a.ch, a.cf].Nodup
theorem Dif.bw {a : Adr} (d : Dif a) : a.cb ≠ a.cw := by
  have n := d.nd
  simp only [List.nodup_cons, List.mem_cons, not_or] at n
  exact n.2.2.1.1
theorem Dif.sb {a : Adr} (d : Dif a) : a.cs ≠ a.cb := by
  have n := d.nd
  simp only [List.nodup_cons, List.mem_cons, not_or] at n
  exact n.1.2.1
theorem ins_ne {C C' dx dx' : Addr} {fs fs' : List (Str × V)} (h : C ≠ C') : HO.ins C dx fs ≠ HO.ins C' dx' fs' := by
  intro z
  cases z
  exact h rfl
theorem KeepW.sent {a : Adr} (d : Dif a) {H H' : Hp} (s : KeepW a H H') {p : Addr} {x : Sd37.Sentence} (h : SentAt a H p x) : SentAt a H' p x := by
  obtain ⟨dx, kb, B, h1, h2, h3⟩ := h
  refine ⟨dx, kb, B, s _ _ (fun z => ?_) h1, s.ntup h2, s.lst _ _ h3⟩
  have n := d.nd
  simp only [List.nodup_cons, List.mem_cons, not_or] at n
  rcases z with z | z
  · exact n.1.2.2.1 z
  · exact n.1.2.1 z
def spBeg (a : Adr) : Sp := fun vs H Q _ => ∃ (x dx s : Addr) (X : Sd37.Sentence) (t : Nat), vs = [.ref x, .ref s, .int (t : Int)] ∧ H x = some (.ins a.cb dx []) ∧ SentAt a H s X ∧ a.cs ≠ a.cb ∧
  ∀ B, H B = some (.lst (vB (Sd37.cut (Sd37.bitsOf X.load) X.fill))) → Q .non (upd H x (.ins a.cb dx (fG (.int (t : Int)) (.int (X.total : Int)) (.int (X.which : Int)) (.ref B))))
def spW0 (a : Adr) : Sp := fun vs H Q _ => ∃ (x dx : Addr), vs = [.ref x] ∧ H x = some (.ins a.cw dx []) ∧ ∀ G, H G = none → Q .non (upd (upd H G (.dT [])) x (.ins a.cw dx (fW (.ref G))))
def spForget (a : Adr) : Sp := fun vs H Q _ => ∃ (W : Addr) (ws : List Sd37.Wait) (t : Nat), vs = [.ref W, .int (t : Int)] ∧ WaitAt a H W ws ∧ ∀ H', KeepW a H H' → WaitAt a H' W (youngW ws t) → Q .non H'
section
variable {P : Program} {w : World} {K : PySem.W.Frag} {mg : Str → Option Value} {base : Heap} {a : Adr}
theorem scBeg : FnScope ["self", "sentence", "time"] ["self", "sentence", "time"] (defScope (inClass (top 62) 0)) := ⟨rfl, rfl, rfl, by decide +kernel, rfl, by decide +kernel, by decide +kernel⟩
theorem mk_beg (T : Txt K mg a) : Mkr P w K mg base "Begun" a.cb 1 (spBeg a) := T.Begun.mkr fun f fd F => by
  refine F.ok0 scBeg (fun vs H Q E h => ?_) (fun cdv A outer s H vs Q E hr h => ?_)
  · obtain ⟨_, _, _, _, _, rfl, _⟩ := h
    rfl
  · obtain ⟨x, dx, s, X, t, rfl, hx, ⟨dx', kb, B, h1, h2, h3⟩, nc, q⟩ := h
    have nsx : s ≠ x := ne_of h1 hx (ins_ne nc)
    refine ⟨_, pss_cons (ps_fld (pv 0) (pv 2) rfl) (pss_cons (ps_fld (pv 0) (pe_fld (pv 1) rfl) rfl) (pss_cons (ps_fld (pv 0) (pe_fld (pv 1) rfl) rfl) (pss_one (ps_fld (pv 0) (pe_fld (pv 1) rfl) rfl)))), ?_⟩
    refine ⟨_, rfl, _, rfl, x, a.cb, dx, _, rfl, hx, T.cb, T.b_since, (by show 0 < 1000; decide),
      _, rfl, s, a.cs, dx', _, _, rfl, (by rw [upd_ne nsx]; exact h1), T.cs, T.s_parts, fS_parts, _, rfl, x, a.cb, dx, _, rfl, upd_same, T.cb, T.b_parts, (by show 1 < 1000; decide),
      _, rfl, s, a.cs, dx', _, _, rfl, (by rw [upd_ne nsx, upd_ne nsx]; exact h1), T.cs, T.s_which, fS_which, _, rfl, x, a.cb, dx, _, rfl, upd_same, T.cb, T.b_which, ?_,
      _, rfl, s, a.cs, dx', _, _, rfl, (by rw [upd_ne nsx, upd_ne nsx, upd_ne nsx]; exact h1), T.cs, T.s_bits, fS_bits, _, rfl, x, a.cb, dx, _, rfl, upd_same, T.cb, T.b_bits, ?_, ?_⟩
    · exact Nat.lt_of_le_of_lt (length_putF _ _ _) (by show 1 + 1 < 1000; decide)
    · exact Nat.lt_of_le_of_lt (length_putF _ _ _) (Nat.lt_of_le_of_lt (Nat.succ_le_succ (length_putF _ _ _)) (by show 1 + 1 + 1 < 1000; decide))
    · rw [upd_upd, upd_upd, upd_upd, fG_put]
      exact q B h3
theorem scW0 : FnScope ["self"] ["self"] (defScope (inClass (top 63) 0)) := ⟨rfl, rfl, rfl, by decide +kernel, rfl, by decide +kernel, by decide +kernel⟩
theorem mk_wait (T : Txt K mg a) : Mkr P w K mg base "Waiting" a.cw 1 (spW0 a) := T.Waiting.mkr fun f fd F => by
  refine F.ok0 scW0 (fun vs H Q E h => ?_) (fun cdv A outer s H vs Q E hr h => ?_)
  · obtain ⟨_, _, rfl, _⟩ := h
    rfl
  · obtain ⟨x, dx, rfl, hx, q⟩ := h
    refine ⟨_, pss_one (ps_fld (pv 0) pe_dnewT rfl), fun G hG => ?_⟩
    exact ⟨_, rfl, x, a.cw, dx, _, rfl, upd_at hx hG, T.cw, T.w_begun, (by show 0 < 1000; decide), q G hG⟩
theorem scForget : FnScope ["self", "time", "young", "key", "begun"] ["self", "time"] (defScope (inClass (top 63) 2)) := ⟨rfl, rfl, rfl, by decide +kernel, rfl, by decide +kernel, by decide +kernel⟩
theorem mt_forget (T : Txt K mg a) (d : Dif a) : Mt P w K mg base a.cw "forget" 1 [] (spForget a) := T.forget.mt T.cw fun f fd dV F => by
  refine F.ok0 scForget (fun vs H Q E h => ?_) (fun cdv A outer s H vs Q E hr h => ?_)
  · obtain ⟨_, _, _, rfl, _⟩ := h
    rfl
  · obtain ⟨W, ws, t, rfl, ⟨dx, G, zs, rfl, hW, hG, hz⟩, q⟩ := h
    refine ⟨_, pss_cons (ps_set (i := 2) scForget.nd rfl (Or.inl rfl) pe_dnewT)
      (pss_cons (ps_lock (ps_for PassesOwn.never rfl (pi_itemsT (pe_fld (pv 0) rfl)) (pg_tup rfl (pgs_cons (pg_name (i := 3) scForget.nd rfl (Or.inl rfl)) (pgs_cons (pg_name (i := 4) scForget.nd rfl (Or.inl rfl)) pgs_nil)))
        (pss_one (ps_if (pt_cmpR op_le (pe_op op_sub (pv 1) (pe_fld (pv 4) rfl)) (pe_gi T.LONGEST_WAIT) (nomark _)) (pss_one (ps_dput (hu_of hr) (pv 2) (pv 3) (pv 4) rfl)) pss_nil))))
      (pss_one (ps_fld (pv 0) (pv 2) rfl))), fun Y hY => ?_⟩
    have nGY : G ≠ Y := ne_of_none hG hY
    have nWY : W ≠ Y := ne_of_none hW hY
    have nWG : W ≠ G := ne_of hW hG (by intro z; cases z)
    refine ⟨G, _, upd_at hG hY, trivial, fun od => ?_⟩
    let keepE : Hp → Prop := fun H' => ∀ b o, b ≠ Y → b ≠ G → H b = some o → H' b = some o
    have young : ∀ z : WZ, (decide (((t : Int) - (z.1.since : Int)) ≤ 60) = true) ↔ decide (t ≤ z.1.since + 60) = true := fun z => by simp; omega
    refine ⟨_, rfl, W, a.cw, dx, _, _, rfl, (by rw [upd_ne nWG, upd_ne nWY]; exact hW), T.cw, T.w_begun, fW_begun, G, od, _, rfl, upd_same, for_itemsT (d := G) (o := od) (kvs := wkv zs)
      (fun i σ H' => ∃ v3 v4 : Option V, σ = [some (.ref W), some (.int (t : Int)), some (.ref Y), v3, v4] ∧ H' G = some (.frz od (.dT (wkv zs))) ∧ keepE H' ∧ H' Y = some (.dT (wkv ((zs.take i).filter fun z => decide (t ≤ z.1.since + 60)))))
      ⟨none, none, rfl, upd_same, fun b o n1 n2 e => by rw [upd_ne n2, upd_ne n1]; exact e, by rw [upd_ne nGY.symm, upd_same]; rfl⟩ (fun i σ H' _ ⟨_, _, _, h, _⟩ => h) ?_ ?_⟩
    · rintro i k v r Tp σ H' hkv ⟨v3, v4, rfl, h1, h2, h3⟩ nT hr'
      obtain ⟨z, hzi, rfl, rfl⟩ := wkv_get hkv
      have hmem := List.mem_of_getElem? hzi
      obtain ⟨dxb, B, hb1, hb2⟩ := hz.at_ z hmem
      have nzY : z.2 ≠ Y := ne_of_none hb1 hY
      have nzG : z.2 ≠ G := ne_of hb1 hG (by intro q; cases q)
      have hb1' := h2 _ _ nzY nzG hb1
      refine ⟨Tp, _, rfl, SqT.of upd_same, rfl, _, _, rfl, _, _, rfl, rfl, ?_⟩
      refine ⟨_, rfl, _, rfl, z.2, a.cb, dxb, _, _, rfl, upd_at hb1' nT, T.cb, T.b_since, fG_since, _, _, rfl, rfl, _, _, rfl, rfl, _, rfl, ?_⟩
      have et : zs.take (i + 1) = zs.take i ++ [z] := by rw [List.take_add_one, hzi]; rfl
      have k2 : keepE (upd H' Tp (.tup [.ref r, .ref z.2])) := fun b o n1 n2 e => upd_at (h2 b o n1 n2 e) nT
      refine iteI (c := t ≤ z.1.since + 60) (by simp <;> omega) (fun e => ?_) (fun e => ?_)
      · have hno : valV (wkv ((zs.take i).filter fun z => decide (t ≤ z.1.since + 60))) (keyNW z.1) = none := by
          refine wkv_none fun y hy q => ?_
          have hy' := (List.mem_filter.mp hy).1
          obtain ⟨j, hj⟩ := List.mem_iff_getElem?.mp hy'
          have hji : j < i := by
            have := (List.getElem?_eq_some_iff.mp hj).1
            rw [List.length_take] at this
            omega
          rw [List.getElem?_take_of_lt hji] at hj
          have := nd_ix hz.keys (i := j) (j := i) (x := keyW z.1) (by rw [List.getElem?_map, hj]; simp [q]) (by rw [List.getElem?_map, hzi]; rfl)
          omega
        refine ⟨_, rfl, _, rfl, _, rfl, Y, _, rfl, DPut.t (k := keyNW z.1) (upd_at h3 nT) (hr'.keeps fun c ys ec => upd_at ec nT) (sl' (m := 8) ?_), _, _, rfl, ?_, ?_, ?_⟩
        · rw [wkv_len]
          have := List.length_filter_le (fun z : WZ => decide (t ≤ z.1.since + 60)) (zs.take i)
          rw [List.length_take] at this
          have := hz.few
          omega
        · rw [upd_ne nGY]; exact upd_at h1 nT
        · intro b o n1 n2 e2
          rw [upd_ne n1]
          exact k2 b o n1 n2 e2
        · rw [upd_same, putK_new hno, et, List.filter_append]
          simp [wkv, e]
      · refine ⟨_, _, rfl, upd_at h1 nT, k2, ?_⟩
        rw [upd_at h3 nT, et, List.filter_append]
        simp [e]
    · rintro σ H' ⟨v3, v4, rfl, h1, h2, h3⟩
      refine ⟨h1, ?_⟩
      rw [wkv_len, List.take_length] at h3
      have hW' := h2 W _ nWY nWG hW
      refine ⟨_, rfl, _, rfl, W, a.cw, dx, _, rfl, (by rw [upd_ne nWG]; exact hW'), T.cw, T.w_begun, (by show 1 < 1000; decide), ?_⟩
      refine q _ (fun b o n e => ?_) ⟨dx, Y, zs.filter fun z => decide (t ≤ z.1.since + 60), ?_, ?_, ?_, (hz.sub List.filter_sublist).keeps (fun z hm o e => ?_) fun c xs e => ?_⟩
      · have nb1 : b ≠ W := fun z => by rw [z, hW] at e; cases e; exact n (.inl rfl)
        have nb2 : b ≠ G := fun z => by rw [z, hG] at e; cases e; exact n trivial
        rw [upd_ne nb1, upd_ne nb2]
        exact h2 b o (ne_of_none e hY) nb2 e
      · unfold youngW
        rw [List.filter_map]
        rfl
      · rw [upd_same, fW_put]
      · rw [upd_ne nWY.symm, upd_ne nGY.symm]
        exact h3
      · have nb1 : z.2 ≠ W := fun y => by
          obtain ⟨_, _, hb, _⟩ := hz.at_ z (List.mem_filter.mp hm).1
          exact ne_of hb hW (ins_ne d.bw) y
        have nb2 : z.2 ≠ G := fun y => by rw [y, hG] at e; cases e; obtain ⟨_, _, hb, _⟩ := hz.at_ z (List.mem_filter.mp hm).1; rw [y, hG] at hb; cases hb
        rw [upd_ne nb1, upd_ne nb2]
        exact h2 _ o (ne_of_none e hY) nb2 e
      · have nb1 : c ≠ W := ne_of e hW (by intro z; cases z)
        have nb2 : c ≠ G := ne_of e hG (by intro z; cases z)
        rw [upd_ne nb1, upd_ne nb2]
        exact h2 _ _ (ne_of_none e hY) nb2 e
end
end Sr
namespace Sr
open PySem L2 Sh
def roomZ (k : WK) (zs : List WZ) : List WZ := if k ∈ zs.map (fun z => keyW z.1) then zs.filter (fun z => decide (keyW z.1 ≠ k)) else if zs.length = 8 then zs.drop 1 else zs
theorem roomZ_sub (k : WK) (zs : List WZ) : (roomZ k zs).Sublist zs := by
  unfold roomZ
  split
  · exact List.filter_sublist
  · split
    · exact List.drop_sublist _ _
    · exact List.Sublist.refl _
theorem roomZ_no {k : WK} {zs : List WZ} : ∀ z ∈ roomZ k zs, keyW z.1 ≠ k := by
  intro z hz
  by_cases h : k ∈ zs.map (fun z => keyW z.1)
  · unfold roomZ at hz
    rw [if_pos h] at hz
    simpa using (List.mem_filter.mp hz).2
  · intro e
    exact h (List.mem_map.mpr ⟨z, (roomZ_sub k zs).mem hz, e⟩)
theorem roomZ_len {k : WK} {zs : List WZ} (h : zs.length ≤ 8) : (roomZ k zs).length ≤ 7 := by
  unfold roomZ
  split
  · rename_i q
    obtain ⟨z, hz, e⟩ := List.mem_map.mp q
    have : (zs.filter fun z => decide (keyW z.1 ≠ k)).length < zs.length := by
      refine Nat.lt_of_le_of_ne (List.length_filter_le _ _) fun y => ?_
      have := List.length_filter_eq_length_iff.mp y z hz
      simp [e] at this
    omega
  · split
    · rw [List.length_drop]; omega
    · omega
theorem roomZ_ws (x : Sd37.Sentence) (t : Nat) (zs : List WZ) : (roomZ (keyS x) zs).map (·.1) ++ [newW x t] = beginW (zs.map (·.1)) x t := by
  unfold beginW roomZ
  congr 1
  rw [List.map_map]
  show _ = if keyS x ∈ zs.map (fun z => keyW z.1) then _ else _
  split
  · rw [List.filter_map]; rfl
  · rw [List.length_map]
    split
    · rw [List.map_drop]
    · rfl
theorem has_key {x : Sd37.Sentence} (h : x.seq.isSome = true) (zs : List WZ) : (valV (wkv zs) (keyN x)).isSome = true ↔ keyS x ∈ zs.map (fun z => keyW z.1) := by
  rw [valV_wkv h, Option.isSome_map, List.find?_isSome]
  constructor
  · rintro ⟨z, hz, e⟩
    exact List.mem_map.mpr ⟨z, hz, by simpa using e⟩
  · intro q
    obtain ⟨z, hz, e⟩ := List.mem_map.mp q
    exact ⟨z, hz, by simpa using e⟩
theorem Keep.toW {a : Adr} {G : Addr} {H H' : Hp} {o : HO} (k : Keep G H H') (h : H G = some o) (w : wObj a o) : KeepW a H H' := fun b u n e => k b u (fun z => by rw [z, h] at e; cases e; exact n w) e
def tRoom (a : Adr) : TS := fun D σ H => ∃ W dx G zs s X x2, σ = [some (.ref W), some (.ref s), x2] ∧ H W = some (.ins a.cw dx (fW (.ref G))) ∧ H G = some (.dT (wkv zs)) ∧ (zs.map fun z => keyW z.1).Nodup ∧ SentAt a H s X ∧ X.seq.isSome = true ∧ ∀ H', Keep G H H' → H' G = some (.dT (wkv (roomZ (keyS X) zs))) → D.nx σ H'
structure XOk (x : Sd37.Sentence) : Prop where
  w1 : 1 ≤ x.which
  wt : x.which ≤ x.total
  t9 : x.total ≤ 9
  f0 : x.which < x.total → x.fill = 0
  f5 : x.fill ≤ 5
  ne : x.load ≠ []
  sq : 1 < x.total → x.seq.isSome = true
  ln : x.load.length ≤ 82
theorem readS_XOk {row : List Nat} {x : Sd37.Sentence} (h : readS row = .ok x) : XOk x := by
  obtain ⟨a, b, c, d, e, f, g, i⟩ := readS_ok h
  exact ⟨a, b, c, d, e, f, g, i⟩
def spBegin (a : Adr) : Sp := fun vs H Q _ => ∃ (W s : Addr) (ws : List Sd37.Wait) (X : Sd37.Sentence) (t : Nat), vs = [.ref W, .ref s, .int (t : Int)] ∧ WaitAt a H W ws ∧ SentAt a H s X ∧ XOk X ∧ X.which = 1 ∧ 1 < X.total ∧ ∀ H', KeepW a H H' → WaitAt a H' W (beginW ws X t) → Q .non H'
def GoEnds (a : Adr) (H : Hp) (W : Addr) (g : Go) (Q : VK) (E : XK) : Prop := match g with
  | .misfit ws => ∀ H', KeepW a H H' → WaitAt a H' W ws → E (.ref a.xp) none H'
  | .wait ws => ∀ H', KeepW a H H' → WaitAt a H' W ws → Q .non H'
  | .whole ws b => ∀ B H', KeepW a H H' → WaitAt a H' W ws → H' B = some (.lst (vB b)) → Q (.ref B) H'
def spGo (a : Adr) : Sp := fun vs H Q E => ∃ (W s : Addr) (ws : List Sd37.Wait) (X : Sd37.Sentence), vs = [.ref W, .ref s] ∧ WaitAt a H W ws ∧ SentAt a H s X ∧ XOk X ∧ 1 < X.which ∧ GoEnds a H W (goW ws X) Q E
def spTake (a : Adr) : Sp := fun vs H Q E => ∃ (W s : Addr) (ws : List Sd37.Wait) (X : Sd37.Sentence) (t : Nat), vs = [.ref W, .ref s, .int (t : Int)] ∧ WaitAt a H W ws ∧ SentAt a H s X ∧ XOk X ∧ GoEnds a H W (takeW t ws X) Q E
theorem DGettv {H : Hp} {d b : Addr} {kvs : List (NK × V)} {k : NK} {v : V} (e : H d = some (.dT kvs)) (eb : NTup H b k) (h : valV kvs k = some v) : DGet H d (.ref b) (some v) := h ▸ DGet.t e eb
section
variable {P : Program} {w : World} {K : PySem.W.Frag} {mg : Str → Option Value} {base : Heap} {a : Adr}
theorem scBegin : FnScope ["self", "sentence", "time"] ["self", "sentence", "time"] (defScope (inClass (top 63) 3)) := ⟨rfl, rfl, rfl, by decide +kernel, rfl, by decide +kernel, by decide +kernel⟩
theorem mt_begin (T : Txt K mg a) (d : Dif a) : Mt P w K mg base a.cw "begin" 3 [] (spBegin a) := T.begin.mt T.cw fun f fd dV F => by
  refine F.ok0 scBegin (fun vs H Q E h => ?_) (fun cdv A outer s H vs Q E hr h => ?_)
  · obtain ⟨_, _, _, _, _, rfl, _⟩ := h
    rfl
  · obtain ⟨W, s, ws, X, t, rfl, ⟨dx, G, zs, rfl, hW, hG, hz⟩, hS, xo, hw1, ht, q⟩ := h
    have hu := hu_of hr
    have hq := xo.sq ht
    refine ⟨_, pss_cons (ps_weak (t' := tRoom a) (ps_if (pt_cmp (pc_din hu (pe_fld (pv 1) rfl) (pe_fld (pv 0) rfl)))
        (pss_one (ps_expr (pe_dpopT hu (pe_fld (pv 0) rfl) (pe_fld (pv 1) rfl) ⟨rfl, rfl, rfl, rfl⟩)))
        (pss_one (ps_if (pt_cmpR op_eq (pe_callB call_lenT (by rfl) T.len bLen (pa_cons (pe_fld (pv 0) rfl) pa_nil)) (pe_gi T.MOST_WAITING) (nomark _))
          (pss_one (ps_expr (pe_dpopT hu (pe_fld (pv 0) rfl) (pe_ix ix_list (pe_callTy (call_listT rfl) (by rfl) T.list bLis (pa_cons (pe_fld (pv 0) rfl) pa_nil)) pe_int (fun _ _ => rfl)) ⟨rfl, rfl, rfl, rfl⟩))) pss_nil))) ?w)
      <| pss_one (ps_dput hu (pe_fld (pv 0) rfl) (pe_fld (pv 1) rfl) (pe_mk (mk_beg T) hr passE (pa_cons (pv 1) (pa_cons (pv 2) pa_nil))) rfl), ?_⟩
    case w =>
      rintro D σ H' ⟨W, dx, G, zs, s, X, x2, rfl, hW, hG, hk, hS, hq, q⟩
      obtain ⟨dxs, kb, B, hs, hkb, hB⟩ := hS
      refine ⟨_, rfl, s, a.cs, dxs, _, _, rfl, hs, T.cs, T.s_key, fS_key, _, rfl, W, a.cw, dx, _, _, rfl, hW, T.cw, T.w_begun, fW_begun, G, _, rfl, DGet.t hG hkb, _, rfl, iteI (has_key hq zs) (fun e => ?_) (fun e => ?_)⟩
      · obtain ⟨v, hv⟩ := Option.isSome_iff_exists.mp ((has_key hq zs).mpr e)
        refine ⟨_, rfl, W, a.cw, dx, _, _, rfl, hW, T.cw, T.w_begun, fW_begun, G, rfl, .inr ⟨_, .inl hG⟩, _, rfl, s, a.cs, dxs, _, _, rfl, hs, T.cs, T.s_key, fS_key, _, _, v, kb, hG, rfl, hkb, hv, q _ (Keep.refl _).upd ?_⟩
        rw [upd_same, dropK_wkv hq, roomZ, if_pos e]
      · refine ⟨_, rfl, W, a.cw, dx, _, _, rfl, hW, T.cw, T.w_begun, fW_begun, G, _, rfl, hG, rfl, _, rfl, ?_⟩
        rw [wkv_len]
        refine iteI (c := zs.length = 8) (by simp <;> omega) (fun e8 => ?_) (fun e8 => ?_)
        · obtain ⟨z, r, rfl⟩ : ∃ z r, zs = z :: r := by
            cases zs with
            | nil => simp at e8
            | cons z r => exact ⟨z, r, rfl⟩
          refine ⟨_, rfl, W, a.cw, dx, _, _, rfl, hW, T.cw, T.w_begun, fW_begun, G, rfl, .inr ⟨_, .inl hG⟩, _, rfl, W, a.cw, dx, _, _, rfl, hW, T.cw, T.w_begun, fW_begun, G, _, rfl, hG, fun p rs np hp => ?_⟩
          cases hp with
          | @cons r0 _ rr _ h0 hp =>
            have nGp : G ≠ p := ne_of_none hG np
            refine ⟨p, _, _, _, rfl, rfl, SqL.of upd_same, at_of (j := 0) rfl rfl, _, keyNW z.1, .ref z.2, r0, upd_at hG np, rfl, h0.keeps fun c ys ec => upd_at ec np, valV_pos rfl, q _ (same_upd np).keep.upd ?_⟩
            rw [upd_same, dropK_head hk, roomZ, if_neg e, if_pos e8]
            rfl
        · refine q _ (Keep.refl _) ?_
          rw [hG, roomZ, if_neg e, if_neg e8]
    refine ⟨W, dx, G, zs, s, X, _, rfl, hW, hG, hz.keys, hS, hq, fun H1 k1 hG1 => ?_⟩
    have nWG : W ≠ G := ne_of hW hG (by intro z; cases z)
    have hW1 := k1 _ _ nWG hW
    have kw1 : KeepW a H H1 := k1.toW hG trivial
    have hS1 := kw1.sent d hS
    refine ⟨_, rfl, _, rfl, fun x dxb nx ndx nex => ?_⟩
    have s1 : Same H1 (upd (upd H1 dxb (.own x)) x (.ins a.cb dxb [])) := fun b o e => by rw [upd_ne (ne_of_none e nx), upd_ne (ne_of_none e ndx)]; exact e
    have hS2 : SentAt a (upd (upd H1 dxb (.own x)) x (.ins a.cb dxb [])) s X := s1.keepW.sent d hS1
    refine ⟨x, dxb, s, X, t, rfl, upd_same, hS2, d.sb, fun B hB => ⟨rfl, ?_⟩⟩
    rw [upd_upd]
    have s2 : ∀ fs, Same H1 (upd (upd H1 dxb (.own x)) x (.ins a.cb dxb fs)) := fun fs b o e => by rw [upd_ne (ne_of_none e nx), upd_ne (ne_of_none e ndx)]; exact e
    obtain ⟨dxs, kb, B', hs, hkb, hB'⟩ := hS1
    have nGx : G ≠ x := ne_of_none hG1 nx
    refine ⟨_, rfl, W, a.cw, dx, _, _, rfl, s2 _ _ _ hW1, T.cw, T.w_begun, fW_begun, _, rfl, s, a.cs, dxs, _, _, rfl, s2 _ _ _ hs, T.cs, T.s_key, fS_key, G, _, rfl, DPut.t (s2 _ _ _ hG1) (hkb.keeps fun c ys ec => s2 _ _ _ ec) (sl' (m := 8) ?_), ?_⟩
    · rw [wkv_len]
      exact Nat.le_trans (roomZ_len hz.few) (by decide)
    have hno : valV (wkv (roomZ (keyS X) zs)) (keyN X) = none := by rw [keyN_new (n := t) hq]; exact wkv_none fun z hm e => roomZ_no z hm e
    have hsub := roomZ_sub (keyS X) zs
    have hz1 : Zs a H1 (roomZ (keyS X) zs) := (hz.sub hsub).keeps (fun z hm o e => k1 _ _ (fun y => by
      obtain ⟨_, _, hb, _⟩ := hz.at_ z (hsub.mem hm)
      rw [y, hG] at hb
      cases hb) e) fun c xs e => kw1.lst _ _ e
    refine q _ (fun b o n e => ?_) ⟨dx, G, roomZ (keyS X) zs ++ [(newW X t, x)], ?_, ?_, ?_, ?_⟩
    · rw [upd_ne (fun z => by rw [z, hG] at e; cases e; exact n trivial)]
      exact s2 _ _ _ (kw1 b o n e)
    · rw [List.map_append]; exact roomZ_ws X t zs
    · rw [upd_ne nWG]; exact s2 _ _ _ hW1
    · rw [upd_same, putK_new hno, keyN_new (n := t) hq]
      simp [wkv]
    · have noG : ∀ c xs, H1 c = some (.lst xs) → c ≠ G := fun c xs e => ne_of e hG1 (by intro z; cases z)
      have hxs : ∀ z ∈ roomZ (keyS X) zs, z.2 ≠ x := fun z hm e => by
        obtain ⟨_, _, hb, _⟩ := hz1.at_ z hm
        rw [e, nx] at hb
        cases hb
      have hz2 : Zs a (upd (upd (upd H1 dxb (.own x)) x (.ins a.cb dxb (fG (.int (t : Int)) (.int (X.total : Int)) (.int (X.which : Int)) (.ref B)))) G (.dT (putK (wkv (roomZ (keyS X) zs)) (keyN X) (.ref x)))) (roomZ (keyS X) zs) :=
        hz1.keeps (fun z hm o e => by
          have : z.2 ≠ G := fun y => by
            obtain ⟨_, _, hb, _⟩ := hz1.at_ z hm
            rw [y, hG1] at hb
            cases hb
          rw [upd_ne this]; exact s2 _ _ _ e) fun c xs e => by rw [upd_ne (noG _ _ e)]; exact s2 _ _ _ e
      refine ⟨fun z hm => ?_, ?_, ?_, ?_, fun z hm => ?_⟩
      · rcases List.mem_append.mp hm with hm | hm
        · exact hz2.at_ z hm
        · obtain rfl : z = (newW X t, x) := by simpa using hm
          refine ⟨dxb, B, ?_, ?_⟩
          · rw [upd_ne nGx.symm, upd_same]
            show some (HO.ins a.cb dxb (fG _ _ (.int (X.which : Int)) _)) = some (HO.ins a.cb dxb (fG _ _ (.int (1 : Int)) _))
            rw [hw1]
            rfl
          · have hBG : B ≠ G := fun y => by
              rw [y, s1 _ _ hG1] at hB
              cases hB
            have hBx : B ≠ x := fun y => by
              rw [y, upd_same] at hB
              cases hB
            rw [upd_ne hBG, upd_ne hBx]
            rw [upd_ne hBx] at hB
            rw [hB, xo.f0 (by omega), cut_zero]
            show some (HO.lst (vB (Sd37.bitsOf X.load))) = some (HO.lst (vB (Sd37.bitsOf [X.load].flatten)))
            simp
      · rw [List.map_append, List.nodup_append]
        refine ⟨hz1.nd, by simp, fun b hb c hc => ?_⟩
        obtain ⟨z, hm, rfl⟩ := List.mem_map.mp hb
        obtain rfl : c = x := by simpa using hc
        exact hxs z hm
      · rw [List.map_append, List.nodup_append]
        refine ⟨hz1.keys, by simp, fun b hb c hc => ?_⟩
        obtain ⟨z, hm, rfl⟩ := List.mem_map.mp hb
        obtain rfl : c = keyW (newW X t) := by simpa using hc
        exact roomZ_no z hm
      · have := roomZ_len (k := keyS X) hz.few
        simp
        omega
      · rcases List.mem_append.mp hm with hm | hm
        · exact hz1.ok z hm
        · obtain rfl : z = (newW X t, x) := by simpa using hm
          refine ⟨by show 1 ≤ 9; decide, fun l hl => ?_⟩
          obtain rfl : l = X.load := by simpa [newW] using hl
          exact xo.ln
end
end Sr
namespace Sr
open PySem L2 Sh
theorem find_ws {x : Sd37.Sentence} (zs : List WZ) : (zs.map (·.1)).find? (fun w => decide (keyW w = keyS x)) = (zs.find? fun z => decide (keyW z.1 = keyS x)).map (·.1) := by
  rw [List.find?_map]
  rfl
theorem filter_ws {x : Sd37.Sentence} (zs : List WZ) : (zs.map (·.1)).filter (fun w => decide (keyW w ≠ keyS x)) = (zs.filter fun z => decide (keyW z.1 ≠ keyS x)).map (·.1) := by
  rw [List.filter_map]
  rfl
theorem one_key {zs : List WZ} (h : (zs.map fun z => keyW z.1).Nodup) {y z : WZ} (hy : y ∈ zs) (hz : z ∈ zs) (e : keyW y.1 = keyW z.1) : y = z := by
  obtain ⟨i, hi⟩ := List.mem_iff_getElem?.mp hy
  obtain ⟨j, hj⟩ := List.mem_iff_getElem?.mp hz
  have := nd_ix h (i := i) (j := j) (x := keyW z.1) (by rw [List.getElem?_map, hi]; simp [e]) (by rw [List.getElem?_map, hj]; rfl)
  subst this
  rw [hi] at hj
  exact Option.some.inj hj
theorem one_addr {zs : List WZ} (h : (zs.map (·.2)).Nodup) {y z : WZ} (hy : y ∈ zs) (hz : z ∈ zs) (e : y.2 = z.2) : y = z := by
  obtain ⟨i, hi⟩ := List.mem_iff_getElem?.mp hy
  obtain ⟨j, hj⟩ := List.mem_iff_getElem?.mp hz
  have := nd_ix h (i := i) (j := j) (x := z.2) (by rw [List.getElem?_map, hi]; simp [e]) (by rw [List.getElem?_map, hj]; rfl)
  subst this
  rw [hi] at hj
  exact Option.some.inj hj
theorem keyW_grow (x : Sd37.Sentence) (w : Sd37.Wait) : keyW (growW x w) = keyW w := by
  unfold growW
  split <;> rfl
section
variable {P : Program} {w : World} {K : PySem.W.Frag} {mg : Str → Option Value} {base : Heap} {a : Adr}
theorem scGo : FnScope ["self", "sentence", "begun"] ["self", "sentence"] (defScope (inClass (top 63) 4)) := ⟨rfl, rfl, rfl, by decide +kernel, rfl, by decide +kernel, by decide +kernel⟩
theorem mt_go (T : Txt K mg a) (d : Dif a) : Mt P w K mg base a.cw "go_on" 1 [] (spGo a) := T.go_on.mt T.cw fun f fd dV F => by
  refine F.okx scGo (fun vs H Q E h => ?_) (fun cdv A outer s H vs Q E hr h => ?_)
  · obtain ⟨_, _, _, _, rfl, _⟩ := h
    rfl
  · obtain ⟨W, s, ws, X, rfl, ⟨dx, G, zs, rfl, hW, hG, hz⟩, ⟨dxs, kb, B, hs, hkb, hB⟩, xo, hw1, q⟩ := h
    have hu := hu_of hr
    have hq := xo.sq (Nat.lt_of_lt_of_le hw1 xo.wt)
    refine ⟨_, pss_cons (ps_if (pt_cmp (pc_dnotin hu (pe_fld (pv 1) rfl) (pe_fld (pv 0) rfl))) (pss_one (ps_raise T.xp (by rfl))) pss_nil)
      <| pss_cons (ps_set (i := 2) scGo.nd rfl (Or.inl rfl) (pe_dget hu (pe_fld (pv 0) rfl) (pe_fld (pv 1) rfl) (fun _ _ => rfl)))
      <| pss_cons (ps_if (pw_or (pt_cmpR op_ne (pe_fld (pv 1) rfl) (pe_fld (pv 2) rfl) (nomark _)) (pw_or1 (pt_cmpR op_ne (pe_fld (pv 1) rfl) (pe_op op_add (pe_fld (pv 2) rfl) pe_int) (nomark _)))).pt
          (pss_cons (ps_expr (pe_dpopT hu (pe_fld (pv 0) rfl) (pe_fld (pv 1) rfl) ⟨rfl, rfl, rfl, rfl⟩)) (pss_one (ps_raise T.xp (by rfl)))) pss_nil)
      <| pss_cons (ps_fld (pv 2) (pe_fld (pv 1) rfl) rfl)
      <| pss_cons (ps_fld (pv 2) (pe_op op_cat (pe_fld (pv 2) rfl) (pe_fld (pv 1) rfl)) rfl)
      <| pss_cons (ps_if (pt_cmpR op_lt (pe_fld (pv 2) rfl) (pe_fld (pv 2) rfl) (nomark _)) (pss_one (ps_ret pe_non)) pss_nil)
      <| pss_cons (ps_expr (pe_dpopT hu (pe_fld (pv 0) rfl) (pe_fld (pv 1) rfl) ⟨rfl, rfl, rfl, rfl⟩))
      <| pss_one (ps_ret (pe_fld (pv 2) rfl)), ?_⟩
    unfold goW at q
    rw [find_ws] at q
    have hv := valV_wkv hq zs
    refine ⟨_, rfl, s, a.cs, dxs, _, _, rfl, hs, T.cs, T.s_key, fS_key, _, rfl, W, a.cw, dx, _, _, rfl, hW, T.cw, T.w_begun, fW_begun, G, _, rfl, DGet.t hG hkb, _, rfl, ?_⟩
    cases e : zs.find? (fun z => decide (keyW z.1 = keyS X)) with
    | none =>
      rw [e] at hv q
      have hv : valV (wkv zs) (keyN X) = none := hv
      rw [hv]
      exact iteT (q H (KeepW.refl _) ⟨dx, G, zs, rfl, hW, hG, hz⟩)
    | some z =>
      rw [e] at hv q
      have hv : valV (wkv zs) (keyN X) = some (.ref z.2) := hv
      rw [hv]
      have hm : z ∈ zs := List.mem_of_find?_eq_some e
      have hkz : keyW z.1 = keyS X := by simpa using List.find?_some e
      obtain ⟨dxb, Bz, hb, hBz⟩ := hz.at_ z hm
      have nzG : z.2 ≠ G := ne_of hb hG (by intro y; cases y)
      have nzW : z.2 ≠ W := ne_of hb hW (ins_ne d.bw)
      have nzs : s ≠ z.2 := ne_of hs hb (ins_ne d.sb)
      have nWG : W ≠ G := ne_of hW hG (by intro y; cases y)
      have nsG : s ≠ G := ne_of hs hG (by intro y; cases y)
      refine iteF ⟨_, rfl, W, a.cw, dx, _, _, rfl, hW, T.cw, T.w_begun, fW_begun, _, rfl, s, a.cs, dxs, _, _, rfl, hs, T.cs, T.s_key, fS_key, G, _, rfl, DGettv hG hkb hv, ?_⟩
      have sub : ∀ H' : Hp, (∀ y ∈ zs, y ≠ z → ∀ o, H y.2 = some o → H' y.2 = some o) → (∀ c xs, H c = some (.lst xs) → H' c = some (.lst xs)) → H' W = some (.ins a.cw dx (fW (.ref G))) → H' G = some (.dT (dropK (wkv zs) (keyN X))) → WaitAt a H' W ((zs.map (·.1)).filter fun w => decide (keyW w ≠ keyS X)) := fun H' k1 k2 h1 h2 => by
        rw [dropK_wkv hq] at h2
        refine ⟨dx, G, _, (filter_ws zs).symm, h1, h2, (hz.sub List.filter_sublist).keeps (fun y hy o => k1 y (List.mem_filter.mp hy).1 (fun z2 => ?_) o) k2⟩
        have := (List.mem_filter.mp hy).2
        rw [z2] at this
        simp [hkz] at this
      have bad : (z.1.total ≠ X.total ∨ z.1.got.length + 1 ≠ X.which) → tSeq (tDrop (tDPopT (tFld K (tVar 0) "begun") (tFld K (tVar 1) "key"))) (tRaise a.xp E) { nx := fun _ H' => Q .non H', rt := Q } [some (.ref W), some (.ref s), some (.ref z.2)] H := fun c => by
        dsimp only [Option.map_some] at q
        rw [if_pos c] at q
        refine ⟨_, rfl, W, a.cw, dx, _, _, rfl, hW, T.cw, T.w_begun, fW_begun, G, rfl, .inr ⟨_, .inl hG⟩, _, rfl, s, a.cs, dxs, _, _, rfl, hs, T.cs, T.s_key, fS_key, _, _, _, kb, hG, rfl, hkb, hv, ?_⟩
        refine q _ ((KeepW.refl _).upd hG trivial) (sub _ (fun y hy _ o ey => ?_) (fun c xs ec => ?_) (by rw [upd_ne nWG]; exact hW) upd_same)
        · rw [upd_ne (fun y2 => by rw [y2, hG] at ey; obtain ⟨_, _, hb2, _⟩ := hz.at_ y hy; rw [y2, hG] at hb2; cases hb2)]; exact ey
        · rw [upd_ne (ne_of ec hG (by intro y; cases y))]; exact ec
      refine ⟨_, rfl, s, a.cs, dxs, _, _, rfl, hs, T.cs, T.s_parts, fS_parts, _, rfl, z.2, a.cb, dxb, _, _, rfl, hb, T.cb, T.b_parts, fG_parts, rfl, _, rfl, iteI (c := ¬ X.total = z.1.total) (by simp <;> omega) (fun c => iteT (bad (.inl fun y => c y.symm))) (fun c1 => ?_)⟩
      have c1 := Decidable.not_not.mp c1
      refine ⟨_, rfl, s, a.cs, dxs, _, _, rfl, hs, T.cs, T.s_which, fS_which, _, rfl, z.2, a.cb, dxb, _, _, rfl, hb, T.cb, T.b_which, fG_which, _, _, rfl, rfl, rfl, _, rfl, iteI (c := ¬ X.which = z.1.got.length + 1) (by simp <;> omega) (fun c => bad (.inr fun y => c y.symm)) (fun c2 => ?_)⟩
      have c2 := Decidable.not_not.mp c2
      clear bad
      dsimp only [Option.map_some] at q
      rw [if_neg (by omega)] at q
      have hokz := hz.ok z hm
      have hlen : (Sd37.bitsOf z.1.got.flatten).length ≤ 4428 := by
        rw [bitsOf_length]
        have := hokz.len
        omega
      have hlen2 : (Sd37.cut (Sd37.bitsOf X.load) X.fill).length ≤ 492 := by
        unfold Sd37.cut
        rw [List.length_take, bitsOf_length]
        have := xo.ln
        omega
      have nBz : B ≠ z.2 := ne_of hB hb (by intro y; cases y)
      have nBzz : Bz ≠ z.2 := ne_of hBz hb (by intro y; cases y)
      refine ⟨_, rfl, s, a.cs, dxs, _, _, rfl, hs, T.cs, T.s_which, fS_which, _, rfl, z.2, a.cb, dxb, _, rfl, hb, T.cb, T.b_which, (by show 4 < 1000; decide), ?_⟩
      rw [fG_which']
      refine ⟨_, rfl, z.2, a.cb, dxb, _, _, rfl, upd_same, T.cb, T.b_bits, fG_bits, _, rfl, s, a.cs, dxs, _, _, rfl, (by rw [upd_ne nzs]; exact hs), T.cs, T.s_bits, fS_bits, Bz, B, _, _, rfl, rfl, (by rw [upd_ne nBzz]; exact hBz), (by rw [upd_ne nBz]; exact hB), ?_, fun p np => ?_⟩
      · rw [vB_len, vB_len]
        exact sl (m := 5000) (by omega)
      have nzp : z.2 ≠ p := ne_of_none upd_same np
      have np' : H p = none := by rw [upd_ne nzp.symm] at np; exact np
      refine ⟨_, rfl, z.2, a.cb, dxb, _, rfl, upd_at upd_same np, T.cb, T.b_bits, (by show 4 < 1000; decide), ?_⟩
      rw [fG_bits']
      generalize hH3 : upd (upd (upd H z.2 (.ins a.cb dxb (fG (.int (z.1.since : Int)) (.int (z.1.total : Int)) (.int (X.which : Int)) (.ref Bz)))) p (.lst (vB (Sd37.bitsOf z.1.got.flatten) ++ vB (Sd37.cut (Sd37.bitsOf X.load) X.fill)))) z.2 (.ins a.cb dxb (fG (.int (z.1.since : Int)) (.int (z.1.total : Int)) (.int (X.which : Int)) (.ref p))) = H3
      have hz3 : H3 z.2 = some (.ins a.cb dxb (fG (.int (z.1.since : Int)) (.int (z.1.total : Int)) (.int (X.which : Int)) (.ref p))) := by rw [← hH3, upd_same]
      have hp3 : H3 p = some (.lst (vB (Sd37.bitsOf z.1.got.flatten ++ Sd37.cut (Sd37.bitsOf X.load) X.fill))) := by rw [← hH3, upd_ne nzp.symm, upd_same, vB_app]
      have k3 : ∀ b o, b ≠ z.2 → H b = some o → H3 b = some o := fun b o n e => by rw [← hH3, upd_ne n, upd_ne (ne_of_none e np'), upd_ne n]; exact e
      clear hH3
      have kw3 : KeepW a H H3 := fun b o n e => k3 b o (fun y => by rw [y, hb] at e; cases e; exact n (.inr rfl)) e
      have hl3 : ∀ c xs, H c = some (.lst xs) → H3 c = some (.lst xs) := fun c xs e => k3 _ _ (ne_of e hb (by intro y; cases y)) e
      have hW3 := k3 _ _ nzW.symm hW
      have hG3 := k3 _ _ nzG.symm hG
      have hs3 := k3 _ _ nzs hs
      have hkb3 : NTup H3 kb (keyN X) := kw3.ntup hkb
      have ec : Sd37.bitsOf z.1.got.flatten ++ Sd37.cut (Sd37.bitsOf X.load) X.fill = Sd37.cut (Sd37.bitsOf (z.1.got.flatten ++ X.load)) X.fill := by
        refine (cut_app ?_).symm
        have : X.load.length ≠ 0 := fun y => xo.ne (List.length_eq_zero_iff.mp y)
        have := xo.f5
        omega
      rw [ec] at hp3
      refine ⟨_, rfl, z.2, a.cb, dxb, _, _, rfl, hz3, T.cb, T.b_which, fG_which, _, rfl, z.2, a.cb, dxb, _, _, rfl, hz3, T.cb, T.b_parts, fG_parts, _, _, rfl, rfl, _, rfl, iteI (c := X.which < X.total) (by simp <;> omega) (fun c => ?_) (fun c => ?_)⟩
      · rw [if_pos c] at q
        refine q H3 kw3 ⟨dx, G, zs.map fun y => (growW X y.1, y.2), by rw [List.map_map, List.map_map]; rfl, hW3, ?_, ?_, ?_, ?_, ?_, ?_⟩
        · rw [hG3]
          congr 2
          unfold wkv
          rw [List.map_map]
          apply List.map_congr_left
          intro y _
          show (keyNW y.1, V.ref y.2) = (keyNW (growW X y.1), V.ref y.2)
          rw [keyNW_of (keyW_grow X y.1)]
        · intro y' hy'
          obtain ⟨y, hy, rfl⟩ := List.mem_map.mp hy'
          by_cases ey : y = z
          · subst ey
            have eg : growW X y.1 = { y.1 with got := y.1.got ++ [X.load] } := by unfold growW; rw [if_pos hkz]
            show BegunAt a H3 y.2 (growW X y.1)
            rw [eg]
            refine ⟨dxb, p, ?_, ?_⟩
            · rw [hz3, c2]
              simp
            · rw [hp3, xo.f0 c, cut_zero]
              simp
          · have nk : ¬ keyW y.1 = keyS X := fun e2 => ey (one_key hz.keys hy hm (e2.trans hkz.symm))
            have eg : growW X y.1 = y.1 := by unfold growW; rw [if_neg nk]
            show BegunAt a H3 y.2 (growW X y.1)
            rw [eg]
            exact (hz.at_ y hy).keeps (fun o e2 => k3 _ _ (fun e3 => ey (one_addr hz.nd hy hm e3)) e2) hl3
        · rw [List.map_map]; exact hz.nd
        · rw [List.map_map]
          have : ((fun z : WZ => keyW z.1) ∘ fun y : WZ => (growW X y.1, y.2)) = fun z => keyW z.1 := by
            funext y
            exact keyW_grow X y.1
          rw [this]
          exact hz.keys
        · rw [List.length_map]; exact hz.few
        · intro y' hy'
          obtain ⟨y, hy, rfl⟩ := List.mem_map.mp hy'
          show WaitOk (growW X y.1)
          have hoky := hz.ok y hy
          unfold growW
          split
          · rename_i e2
            have ey : y = z := one_key hz.keys hy hm (e2.trans hkz.symm)
            subst ey
            refine ⟨?_, fun l hl => ?_⟩
            · show (y.1.got ++ [X.load]).length ≤ 9
              rw [List.length_append, List.length_singleton]
              have := xo.t9
              omega
            · rcases List.mem_append.mp hl with hl | hl
              · exact hoky.2 l hl
              · obtain rfl : l = X.load := by simpa using hl
                exact xo.ln
          · exact hoky
      · rw [if_neg c] at q
        refine ⟨_, rfl, W, a.cw, dx, _, _, rfl, hW3, T.cw, T.w_begun, fW_begun, G, rfl, .inr ⟨_, .inl hG3⟩, _, rfl, s, a.cs, dxs, _, _, rfl, hs3, T.cs, T.s_key, fS_key, _, _, _, kb, hG3, rfl, hkb3, hv, ?_⟩
        refine ⟨_, rfl, z.2, a.cb, dxb, _, _, rfl, (by rw [upd_ne nzG]; exact hz3), T.cb, T.b_bits, fG_bits, ?_⟩
        have npG : p ≠ G := ne_of hp3 hG3 (by intro y; cases y)
        refine q p _ (kw3.upd hG3 trivial) (sub _ (fun y hy ny o ey => ?_) (fun c xs ec => ?_) (by rw [upd_ne nWG]; exact hW3) upd_same) (by rw [upd_ne npG]; exact hp3)
        · have nyz : y.2 ≠ z.2 := fun e3 => ny (one_addr hz.nd hy hm e3)
          rw [upd_ne (fun y2 => by obtain ⟨_, _, hb2, _⟩ := hz.at_ y hy; rw [y2, hG] at hb2; cases hb2)]
          exact k3 _ _ nyz ey
        · rw [upd_ne (ne_of ec hG (by intro y; cases y))]; exact hl3 _ _ ec
theorem scTake : FnScope ["self", "sentence", "time"] ["self", "sentence", "time"] (defScope (inClass (top 63) 1)) := ⟨rfl, rfl, rfl, by decide +kernel, rfl, by decide +kernel, by decide +kernel⟩
theorem GoEnds.keep {H H' : Hp} {W : Addr} {g : Go} {Q : VK} {E : XK} (h : GoEnds a H W g Q E) (k : KeepW a H H') : GoEnds a H' W g Q E := by
  cases g with
  | misfit ws => exact fun H2 k2 h2 => h H2 (k.trans k2) h2
  | wait ws => exact fun H2 k2 h2 => h H2 (k.trans k2) h2
  | whole ws b => exact fun B H2 k2 h2 => h B H2 (k.trans k2) h2
theorem mt_take (T : Txt K mg a) (d : Dif a) : Mt P w K mg base a.cw "take" 4 [] (spTake a) := T.take.mt T.cw fun f fd dV F => by
  refine F.okx scTake (fun vs H Q E h => ?_) (fun cdv A outer s H vs Q E hr h => ?_)
  · obtain ⟨_, _, _, _, _, rfl, _⟩ := h
    rfl
  · obtain ⟨W, s, ws, X, t, rfl, hW, hS, xo, q⟩ := h
    have hr1 := hr.mono (show 1 ≤ 3 by decide)
    refine ⟨_, pss_cons (ps_expr (pe_mt (mt_forget T d) (pv 0) hr1 passE (pa_cons (pv 2) pa_nil)))
      <| pss_cons (ps_if (pt_cmpR op_eq (pe_fld (pv 1) rfl) pe_int (nomark _)) (pss_one (ps_ret (pe_fld (pv 1) rfl))) pss_nil)
      <| pss_cons (ps_if (pt_cmpR op_eq (pe_fld (pv 1) rfl) pe_int (nomark _)) (pss_cons (ps_expr (pe_mt (mt_begin T d) (pv 0) hr passE (pa_cons (pv 1) (pa_cons (pv 2) pa_nil)))) (pss_one (ps_ret pe_non))) pss_nil)
      <| pss_one (ps_ret (pe_mt (mt_go T d) (pv 0) hr1 pass1 (pa_cons (pv 1) pa_nil))), ?_⟩
    obtain ⟨dx, G, zs, ez, hW0, hG0, hz0⟩ := id hW
    refine ⟨_, rfl, W, dx, _, rfl, hW0, fW_no (by decide +kernel), _, rfl, W, ws, t, rfl, hW, fun H1 k1 hW1 => ?_⟩
    have hS1 := k1.sent d hS
    have q1 := q.keep k1
    unfold takeW at q1
    obtain ⟨dxs, kb, B, hs, hkb, hB⟩ := id hS1
    obtain ⟨dx1, G1, zs1, ez1, hW1', hG1, hz1⟩ := id hW1
    refine ⟨_, rfl, s, a.cs, dxs, _, _, rfl, hs, T.cs, T.s_parts, fS_parts, rfl, _, rfl, iteI (c := X.total = 1) (by simp <;> omega) (fun e => ?_) (fun e => ?_)⟩
    · rw [if_pos e] at q1
      exact ⟨_, rfl, s, a.cs, dxs, _, _, rfl, hs, T.cs, T.s_bits, fS_bits, q1 B H1 (KeepW.refl _) hW1 hB⟩
    · rw [if_neg e] at q1
      have hw := xo.w1
      have hwt := xo.wt
      refine ⟨_, rfl, s, a.cs, dxs, _, _, rfl, hs, T.cs, T.s_which, fS_which, rfl, _, rfl, iteI (c := X.which = 1) (by simp <;> omega) (fun e2 => ?_) (fun e2 => ?_)⟩
      · rw [if_pos e2] at q1
        exact ⟨_, rfl, W, dx1, _, rfl, hW1', fW_no (by decide +kernel), _, rfl, _, rfl, W, s, _, X, t, rfl, hW1, hS1, xo, e2, by omega, fun H2 k2 h2 => q1 H2 k2 h2⟩
      · rw [if_neg e2] at q1
        exact ⟨_, rfl, W, dx1, _, rfl, hW1', fW_no (by decide +kernel), _, rfl, W, s, _, X, rfl, hW1, hS1, xo, by omega, q1⟩
end
end Sr
namespace L2
open PySem
def rUpd2 : V → List V → Hp → VK → Prop := fun x vs H Q => ∃ d b kvs more, x = .ref d ∧ vs = [.ref b] ∧ d ≠ b ∧ H d = some (.dK kvs) ∧ H b = some (.dK more) ∧ kvs.length + more.length ≤ sizeLine ∧ ((more.map (·.1)).Nodup → Q .non (upd H d (.dK (mergeK kvs more))))
theorem mt_update2 {X : Cx} : MtR X "dict.update" rUpd2 := by
  intro pins s σ H x vs v us Q I rx rv h
  obtain ⟨d, b, kvs, more, rfl, rfl, ne, e1, e2, hl, q⟩ := h
  refine mt_update pins s σ H _ _ v us Q I rx rv ⟨d, b, kvs, more, rfl, rfl, ne, e1, e2, hl, q ?_⟩
  obtain ⟨_, _, ys, rel2, dd2⟩ := dk_of I.hok e2
  obtain ⟨_, _, _, _, _, _, _, _, nd⟩ := dd2
  rw [rel2.keys]
  exact nd
theorem pe_lcL {X : Cx} {elt tg iter : Expr} {ifs : List Expr} {scope : Scope} {own : List (Str × Nat)} {pos : Pos} {wi : TI} {g : TG} {tt : TT} {te : TE} (hc : X.calm = true) (hN : X.N.Nodup) (hi : PI X tg iter wi) (ok : BlkOk X.N X.env.scope scope own)
    (hg : ∀ (s : Shared) (H : Hp) (C : Addr) (cl : List (Str × Addr)) (fp : List Addr), PG (X.blk s H scope (compEnvC scope cl C X.env) fp) tg g) (ht : ∀ (s : Shared) (H : Hp) (C : Addr) (cl : List (Str × Addr)) (fp : List Addr), PTs (X.blk s H scope (compEnvC scope cl C X.env) fp) ifs tt)
    (he : ∀ (s : Shared) (H : Hp) (C : Addr) (cl : List (Str × Addr)) (fp : List Addr), PE (X.blk s H scope (compEnvC scope cl C X.env) fp) elt te) (hs : ∀ x, foldedSetIterable iter X.env x = pure x := by intro _; rfl) :
    PE X (.ListComp elt [⟨tg, iter, ifs, 0⟩] scope pos) (tLockE (tLc wi g tt te (own.map (·.2)))) := pe_lock (pe_lc hc hN hi ok hg ht he hs)
theorem valV_merge : ∀ (more kvs : List (Key × V)) (k : Key), (more.map (·.1)).Nodup → valV (mergeK kvs more) k = (valV more k).or (valV kvs k)
  | [], _, _, _ => rfl
  | p :: r, kvs, k, h => by
    rw [List.map_cons, List.nodup_cons] at h
    show valV (mergeK (putK kvs p.1 p.2) r) k = _
    rw [valV_merge r _ k h.2, valV_put]
    by_cases e : p.1 = k
    · subst e
      have hn : valV r p.1 = none := by
        cases q : valV r p.1 with
        | none => rfl
        | some v =>
          unfold valV at q
          obtain ⟨y, hy, _⟩ := Option.map_eq_some_iff.mp q
          exact absurd (List.mem_map.mpr ⟨y, List.mem_of_find?_eq_some hy, by simpa using List.find?_some hy⟩) h.1
      rw [hn, if_pos rfl, valV_pos rfl]
      rfl
    · rw [if_neg (fun z => e z.symm), valV_neg e]
end L2
namespace Sr
open PySem L2 Sh
theorem Paired.mapPM {α β : Type} {F G : α → β → Prop} {as : List α} {bs : List β} (h : Paired F as bs) (f : ∀ a b, a ∈ as → F a b → G a b) : Paired G as bs := by
  induction h with
  | nil => exact .nil
  | cons x t ih => exact .cons (f _ _ List.mem_cons_self x) (ih fun a b ha => f a b (List.mem_cons_of_mem _ ha))
def fH (h k : V) : List (Str × V) := [("heard", h), ("known", k)]
def fF (t w s : V) : List (Str × V) := [("time", t), ("waiting", w), ("ships", s)]
section
variable {h k t w s x : V}
theorem fH_heard : (fH h k).lookup ("heard" : Str) = some h := lkE
theorem fH_known : (fH h k).lookup ("known" : Str) = some k := (lkN (by decide +kernel)).trans lkE
theorem fH_put : putF "known" k (putF "heard" h []) = fH h k := by
  rw [ptNil]
  exact put1 (by decide +kernel)
theorem fH_heard' : putF "heard" x (fH h k) = fH x k := ptE
theorem fF_time : (fF t w s).lookup ("time" : Str) = some t := lkE
theorem fF_waiting : (fF t w s).lookup ("waiting" : Str) = some w := (lkN (by decide +kernel)).trans lkE
theorem fF_ships : (fF t w s).lookup ("ships" : Str) = some s := (lkN (by decide +kernel)).trans ((lkN (by decide +kernel)).trans lkE)
theorem fF_no {m : Str} (h1 : ¬ m = "time") (h2 : ¬ m = "waiting") (h3 : ¬ m = "ships") : (fF t w s).lookup m = none := (lkN h1).trans ((lkN h2).trans ((lkN h3).trans lkNil))
theorem fF_put : putF "ships" s (putF "waiting" w (putF "time" t [])) = fF t w s := by
  rw [ptNil, put1 (by decide +kernel)]
  exact put2 (by decide +kernel) (by decide +kernel)
theorem fF_time' : putF "time" x (fF t w s) = fF x w s := ptE
end
structure FE where
  s : Sd37.Ship
  p : Addr
  k : Addr
def skv (es : List FE) : List (Key × V) := es.map fun e => (Sum.inl (e.s.id : Int), V.ref e.p)
def ShipAt (a : Adr) (H : Hp) (e : FE) (c : Nat) : Prop := ∃ dx, H e.p = some (.ins a.ch dx (fH (.int (e.s.at_ : Int)) (.ref e.k))) ∧ KnownAt H e.k (told2 e.s.known) c
structure Es (a : Adr) (H : Hp) (S : Addr) (es : List FE) (c : Nat) : Prop where
  dict : H S = some (.dK (skv es))
  at_ : ∀ e ∈ es, ShipAt a H e c
  ndp : (es.map (·.p)).Nodup
  ndk : (es.map (·.k)).Nodup
  sk : ∀ e ∈ es, e.k ≠ S
  ids : (es.map (·.s.id)).Nodup
  few : es.length ≤ 256
  ok : ∀ e ∈ es, Joined e.s.known ∧ e.s.id < 1000000000
theorem skv_len (es : List FE) : (skv es).length = es.length := by simp [skv]
theorem valV_skv (id : Nat) : ∀ es : List FE, valV (skv es) (Sum.inl (id : Int)) = (es.find? fun e => decide (e.s.id = id)).map fun e => V.ref e.p
  | [] => rfl
  | e :: r => by
    show valV ((Sum.inl (e.s.id : Int), V.ref e.p) :: skv r) (Sum.inl (id : Int)) = _
    by_cases h : e.s.id = id
    · rw [valV_pos (by show (Sum.inl (e.s.id : Int) : Key) = _; rw [h]), List.find?_cons, decide_eq_true h]
      rfl
    · rw [valV_neg (fun q => h (by injection q with q; exact Int.ofNat.inj q)), List.find?_cons, decide_eq_false h]
      exact valV_skv id r
theorem dropK_skv (id : Nat) (es : List FE) : dropK (skv es) (Sum.inl (id : Int)) = skv (es.filter fun e => decide (e.s.id ≠ id)) := by
  unfold dropK skv
  rw [List.filter_map]
  congr 1
  congr 1
  funext e
  show decide ((Sum.inl (e.s.id : Int) : Key) ≠ Sum.inl (id : Int)) = decide (e.s.id ≠ id)
  by_cases h : e.s.id = id
  · simp [h]
  · have : ¬ ((Sum.inl (e.s.id : Int) : Key) = Sum.inl (id : Int)) := fun q => h (by injection q with q; exact Int.ofNat.inj q)
    simp [h, this]
theorem KnownAt.keeps {H H' : Hp} {d : Addr} {g : String → Option (List Nat)} {c : Nat} (h : KnownAt H d g c) (k1 : ∀ o, H d = some o → H' d = some o) (k2 : ∀ p l, H p = some (.lst l) → H' p = some (.lst l)) : KnownAt H' d g c := by
  obtain ⟨kvs, h1, h2, h3⟩ := h
  exact ⟨kvs, k1 _ h1, h2, fun x => (h3 x).mono k2⟩
theorem KnownAt.up {H : Hp} {d : Addr} {g : String → Option (List Nat)} {c c' : Nat} (h : KnownAt H d g c) (l : c ≤ c') : KnownAt H d g c' := by
  obtain ⟨kvs, h1, h2, h3⟩ := h
  exact ⟨kvs, h1, Nat.le_trans h2 l, h3⟩
theorem KnownAt.dK {H : Hp} {d : Addr} {g : String → Option (List Nat)} {c : Nat} (h : KnownAt H d g c) : ∃ kvs, H d = some (.dK kvs) := let ⟨kvs, h1, _⟩ := h; ⟨kvs, h1⟩
theorem ShipAt.keeps {a : Adr} {H H' : Hp} {e : FE} {c : Nat} (h : ShipAt a H e c) (k1 : ∀ o, H e.p = some o → H' e.p = some o) (k2 : ∀ o, H e.k = some o → H' e.k = some o) (k3 : ∀ p l, H p = some (.lst l) → H' p = some (.lst l)) : ShipAt a H' e c := by
  obtain ⟨dx, h1, h2⟩ := h
  exact ⟨dx, k1 _ h1, h2.keeps k2 k3⟩
theorem Es.same {a : Adr} {H H' : Hp} {S : Addr} {es : List FE} {c : Nat} (h : Es a H S es c) (s : Same H H') : Es a H' S es c :=
  ⟨s _ _ h.dict, fun e he => (h.at_ e he).keeps (fun o => s _ o) (fun o => s _ o) fun p l => s _ _, h.ndp, h.ndk, h.sk, h.ids, h.few, h.ok⟩
theorem Es.up {a : Adr} {H : Hp} {S : Addr} {es : List FE} {c c' : Nat} (h : Es a H S es c) (l : c ≤ c') : Es a H S es c' :=
  ⟨h.dict, fun e he => let ⟨dx, h1, h2⟩ := h.at_ e he; ⟨dx, h1, h2.up l⟩, h.ndp, h.ndk, h.sk, h.ids, h.few, h.ok⟩
theorem Es.pS {a : Adr} {H : Hp} {S : Addr} {es : List FE} {c : Nat} (h : Es a H S es c) {e : FE} (he : e ∈ es) : e.p ≠ S := by
  obtain ⟨dx, h1, _⟩ := h.at_ e he
  exact ne_of h1 h.dict (by intro z; cases z)
theorem Es.pk {a : Adr} {H : Hp} {S : Addr} {es : List FE} {c : Nat} (h : Es a H S es c) {e f : FE} (he : e ∈ es) (hf : f ∈ es) : e.p ≠ f.k := by
  obtain ⟨dx, h1, _⟩ := h.at_ e he
  obtain ⟨_, _, h2⟩ := h.at_ f hf
  obtain ⟨kvs, h2⟩ := h2.dK
  exact ne_of h1 h2 (by intro z; cases z)
def KeepP (S : Addr) (es : List FE) (H H' : Hp) : Prop := ∀ b o, H b = some o → b ≠ S → (∀ e ∈ es, b ≠ e.p ∧ b ≠ e.k) → H' b = some o
def fObj (a : Adr) : HO → Prop
  | .dK _ => True
  | .ins C _ _ => C = a.ch
  | _ => False
def KeepF (a : Adr) (H H' : Hp) : Prop := ∀ b o, ¬ fObj a o → H b = some o → H' b = some o
theorem KeepP.toF {a : Adr} {S : Addr} {es : List FE} {H H' : Hp} {c : Nat} (k : KeepP S es H H') (h : Es a H S es c) : KeepF a H H' := fun b o n e => by
  refine k b o e (fun z => by rw [z, h.dict] at e; cases e; exact n trivial) fun f hf => ?_
  obtain ⟨dx, h1, h2⟩ := h.at_ f hf
  obtain ⟨kvs, h2⟩ := h2.dK
  exact ⟨fun z => by rw [z, h1] at e; cases e; exact n rfl, fun z => by rw [z, h2] at e; cases e; exact n trivial⟩
theorem find_out {o n : Sd37.Told} {x : String} (h : x ∉ Sd37.words) : Sd37.find (Sd37.joined o n) x = none := by
  rw [joined_eq, find_filterMap (fun w => (Sd37.find n w).or (Sd37.find o w)), if_neg h]
theorem told2_joined {o n : Sd37.Told} (ho : Joined o) (hn : ∀ p ∈ n, p.1 ∈ Sd37.words) (x : String) : told2 (Sd37.joined o n) x = (told2 n x).or (told2 o x) := by
  unfold told2
  by_cases h : x ∈ Sd37.words
  · rw [find_joined h]
    cases Sd37.find n x <;> rfl
  · obtain ⟨g, e⟩ := ho
    rw [find_out h, find_none (w := x) fun p hp z => h (by rw [← z]; exact hn p hp)]
    have : Sd37.find o x = none := by rw [e, find_filterMap, if_neg h]
    rw [this]
    rfl
theorem KnownAt.merge {H : Hp} {k D : Addr} {old t : Sd37.Told} {c : Nat} (h : KnownAt H k (told2 old) c) (ht : ToldAt H D t Sd37.words) (ho : Joined old) :
    ∃ kvs more, H k = some (.dK kvs) ∧ H D = some (.dK more) ∧ kvs.length ≤ c ∧ more.length ≤ 23 ∧ ((more.map (·.1)).Nodup → KnownAt (upd H k (.dK (mergeK kvs more))) k (told2 (Sd37.joined old t)) (c + 23)) := by
  obtain ⟨kvs, h1, h2, h3⟩ := h
  obtain ⟨⟨more, g1, g2, g3⟩, g4⟩ := ht
  refine ⟨kvs, more, h1, g1, h2, g2, fun nd => ⟨_, upd_same, ?_, fun x => ?_⟩⟩
  · have := length_mergeK more kvs
    have g2 : more.length ≤ 23 := g2
    omega
  · have hx := h3 x
    have gx := g3 x
    have hv := valV_merge more kvs (Sum.inr (Str.ofString x)) nd
    rw [told2_joined ho g4]
    have up : ∀ {p : Addr} {l : List V}, H p = some (.lst l) → upd H k (.dK (mergeK kvs more)) p = some (.lst l) := fun e => by rw [upd_ne (ne_of e h1 (by intro z; cases z))]; exact e
    cases e : told2 t x with
    | some l =>
      rw [e] at gx
      obtain ⟨p, p1, p2, p3⟩ := gx
      exact ⟨p, by rw [hv, p1]; rfl, up p2, p3⟩
    | none =>
      rw [e] at gx
      have gx : valV more (Sum.inr (Str.ofString x)) = none := gx
      rw [gx] at hv
      cases e2 : told2 old x with
      | some l =>
        rw [e2] at hx
        obtain ⟨p, p1, p2, p3⟩ := hx
        exact ⟨p, by rw [hv, p1]; rfl, up p2, p3⟩
      | none =>
        rw [e2] at hx
        exact hv.trans hx
def spShip0 (a : Adr) : Sp := fun vs H Q _ => ∃ (x dx : Addr), vs = [.ref x] ∧ H x = some (.ins a.ch dx []) ∧ ∀ k, H k = none → Q .non (upd (upd H k (.dK [])) x (.ins a.ch dx (fH (.int 0) (.ref k))))
def spRoom (a : Adr) : Sp := fun vs H Q _ => ∃ (F dx : Addr) (t w : V) (S : Addr) (es : List FE) (c : Nat), vs = [.ref F] ∧ H F = some (.ins a.cf dx (fF t w (.ref S))) ∧ Es a H S es c ∧
  (es.length ≠ 256 → Ret H Q .non) ∧ (es.length = 256 → ∀ o H', o ∈ es → (∀ y ∈ es, Older o.s y.s) → Keep S H H' → Es a H' S (es.filter fun e => decide (e.s.id ≠ o.s.id)) c → Q .non H')
theorem one_id {es : List FE} (h : (es.map (·.s.id)).Nodup) {y z : FE} (hy : y ∈ es) (hz : z ∈ es) (e : y.s.id = z.s.id) : y = z := by
  obtain ⟨i, hi⟩ := List.mem_iff_getElem?.mp hy
  obtain ⟨j, hj⟩ := List.mem_iff_getElem?.mp hz
  have := nd_ix h (i := i) (j := j) (x := z.s.id) (by rw [List.getElem?_map, hi]; simp [e]) (by rw [List.getElem?_map, hj]; rfl)
  subst this
  rw [hi] at hj
  exact Option.some.inj hj
theorem Es.sub {a : Adr} {H H' : Hp} {S : Addr} {es ys : List FE} {c : Nat} (h : Es a H S es c) (s : ys.Sublist es) (k : Keep S H H') (hd : H' S = some (.dK (skv ys))) : Es a H' S ys c :=
  ⟨hd, fun e he => (h.at_ e (s.mem he)).keeps (fun o z => k _ _ (h.pS (s.mem he)) z) (fun o z => k _ _ (h.sk e (s.mem he)) z) fun p l z => k _ _ (ne_of z h.dict (by intro y; cases y)) z,
    h.ndp.sublist (s.map _), h.ndk.sublist (s.map _), fun e he => h.sk e (s.mem he), h.ids.sublist (s.map _), Nat.le_trans s.length_le h.few, fun e he => h.ok e (s.mem he)⟩
section
variable {P : Program} {w : World} {K : PySem.W.Frag} {mg : Str → Option Value} {base : Heap} {a : Adr}
theorem scShip : FnScope ["self"] ["self"] (defScope (inClass (top 70) 0)) := ⟨rfl, rfl, rfl, by decide +kernel, rfl, by decide +kernel, by decide +kernel⟩
theorem mk_ship (T : Txt K mg a) : Mkr P w K mg base "Ship" a.ch 1 (spShip0 a) := T.Ship.mkr fun f fd F => by
  refine F.ok0 scShip (fun vs H Q E h => ?_) (fun cdv A outer s H vs Q E hr h => ?_)
  · obtain ⟨_, _, rfl, _⟩ := h
    rfl
  · obtain ⟨x, dx, rfl, hx, q⟩ := h
    refine ⟨_, pss_cons (ps_fld (pv 0) pe_int rfl) (pss_one (ps_fld (pv 0) pe_dnewK rfl)), ?_⟩
    refine ⟨_, rfl, x, a.ch, dx, _, rfl, hx, T.ch, T.h_heard, (by show 0 < 1000; decide), fun k hk => ?_⟩
    have nkx : k ≠ x := fun z => by rw [z, upd_same] at hk; cases hk
    have hk' : H k = none := by rw [upd_ne nkx] at hk; exact hk
    refine ⟨_, rfl, x, a.ch, dx, _, rfl, upd_at upd_same hk, T.ch, T.h_known, (by show 1 < 1000; decide), ?_⟩
    have e : upd (upd (upd H x (.ins a.ch dx (putF "heard" (.int 0) []))) k (.dK [])) x (.ins a.ch dx (putF "known" (.ref k) (putF "heard" (.int 0) []))) = upd (upd H k (.dK [])) x (.ins a.ch dx (fH (.int 0) (.ref k))) := by
      rw [fH_put]
      funext b
      unfold upd
      split
      · rfl
      · split <;> rfl
    show Q .non (upd (upd (upd H x (.ins a.ch dx (putF "heard" (.int 0) []))) k (.dK [])) x (.ins a.ch dx (putF "known" (.ref k) (putF "heard" (.int 0) []))))
    rw [e]
    exact q k hk'
theorem scRoom : FnScope ["self", "oldest", "number", "ship"] ["self"] (defScope (inClass (top 71) 4)) := ⟨rfl, rfl, rfl, by decide +kernel, rfl, by decide +kernel, by decide +kernel⟩
theorem mt_room (T : Txt K mg a) : Mt P w K mg base a.cf "make_room" 1 [] (spRoom a) := T.make_room.mt T.cf fun f fd dV F => by
  refine F.ok0 scRoom (fun vs H Q E h => ?_) (fun cdv A outer s H vs Q E hr h => ?_)
  · obtain ⟨_, _, _, _, _, _, _, rfl, _⟩ := h
    rfl
  · obtain ⟨F, dx, t, w, S, es, c, rfl, hF, he, q1, q2⟩ := h
    have hu := hu_of hr
    refine ⟨_, pss_one (ps_if (pt_cmpR op_eq (pe_callB call_lenD (by rfl) T.len bLen (pa_cons (pe_fld (pv 0) rfl) pa_nil)) (pe_gi T.MOST_SHIPS) (nomark _))
      (pss_cons (ps_set (i := 1) scRoom.nd rfl (Or.inl rfl) (pe_callB (call_min2L rfl hu) (by rfl) T.min bMin (pa_cons
          (pe_lcL (g := gTup K 2 (gCons (gName 2) (gCons (gName 3) gNil))) (te := tTup (tCons (tFld K (tVar 3) "heard") (tCons (tVar 2) tNil))) (own := [("number", 2), ("ship", 3)]) rfl scRoom.nd (pi_items (pe_fld (pv 0) rfl)) (blkOk_by (by show blkC ["self", "oldest", "number", "ship"] (defScope (inClass (top 71) 4)) _ _ = true; decide +kernel))
            (fun s H C cl fp => pg_tup rfl (pgs_cons (pg_name (i := 2) scRoom.nd rfl (Or.inl rfl)) (pgs_cons (pg_name (i := 3) scRoom.nd rfl (Or.inl rfl)) pgs_nil)))
            (fun s H C cl fp => pts_nil) (fun s H C cl fp => pe_tup (pa_cons (pe_fld (pv 3) rfl) (pa_cons (pv 2) pa_nil)))) pa_nil)))
        (pss_one (ps_expr (pe_dpop1 (pe_fld (pv 0) rfl) (pe_ix ix_tup (pv 1) pe_int (fun _ _ => rfl)) ⟨rfl, rfl, rfl, rfl⟩)))) pss_nil), ?_⟩
    refine ⟨_, rfl, F, a.cf, dx, _, _, rfl, hF, T.cf, T.f_ships, fF_ships, S, _, rfl, he.dict, rfl, _, rfl, ?_⟩
    rw [skv_len]
    refine iteI (c := es.length = 256) (by simp <;> omega) (fun e => ?_) (fun e => q1 e _ (Same.refl _))
    have q := q2 e
    have nFS : F ≠ S := ne_of hF he.dict (by intro z; cases z)
    refine ⟨S, _, he.dict, trivial, fun od => ?_⟩
    refine ⟨_, rfl, F, a.cf, dx, _, _, rfl, (by rw [upd_ne nFS]; exact hF), T.cf, T.f_ships, fF_ships, S, od, _, rfl, upd_same, fun D hD => ?_⟩
    have nDS : D ≠ S := fun z => by rw [z, upd_same] at hD; cases hD
    have hDH : H D = none := by rw [upd_ne nDS] at hD; exact hD
    refine lc_items (d := S) (o := od) (kvs := skv es) (fun i H' => ∃ ts : List Addr, H' S = some (.frz od (.dK (skv es))) ∧ Keep S H H' ∧ H' D = some (.lst (ts.map V.ref)) ∧ D ∉ ts ∧
        Paired (fun (t : Addr) (p : Int × Int) => H' t = some (.tup [.int p.1, .int p.2])) ts ((es.take i).map fun e => ((e.s.at_ : Int), (e.s.id : Int))))
      ⟨[], by rw [upd_ne nDS.symm, upd_same], fun b o n z => by rw [upd_ne (ne_of_none z hDH), upd_ne n]; exact z, upd_same, by simp, .nil⟩ (fun i H' _ ⟨_, h, _⟩ => h) ?_ ?_
    · rintro i k v Tp H' hkv ⟨ts, h1, h2, h3, h4, h5⟩ nT
      obtain ⟨y, hy, rfl, rfl⟩ : ∃ y, es[i]? = some y ∧ k = Sum.inl (y.s.id : Int) ∧ v = V.ref y.p := by
        unfold skv at hkv
        rw [List.getElem?_map] at hkv
        cases e2 : es[i]? with
        | none => rw [e2] at hkv; cases hkv
        | some y => rw [e2] at hkv; cases hkv; exact ⟨y, rfl, rfl, rfl⟩
      have hm := List.mem_of_getElem? hy
      obtain ⟨dxp, hp, _⟩ := he.at_ y hm
      have hp' := h2 _ _ (he.pS hm) hp
      refine ⟨Tp, _, rfl, SqT.of upd_same, rfl, _, _, rfl, _, _, rfl, rfl, rfl, yes ⟨_, rfl, y.p, a.ch, dxp, _, _, rfl, upd_at hp' nT, T.ch, T.h_heard, fH_heard, _, rfl, (by show 2 ≤ sizeLine; decide), fun t nt => ?_⟩⟩
      have hlen : ts.length = ((es.take i).map fun e => ((e.s.at_ : Int), (e.s.id : Int))).length := Paired.length h5
      rw [List.length_map, List.length_take] at hlen
      have nDt : D ≠ t := ne_of_none (upd_at h3 nT) nt
      have nDT : D ≠ Tp := ne_of_none h3 nT
      refine ⟨_, upd_at (upd_at h3 nT) nt, sl' (m := 256) (by rw [List.length_map]; omega), ts ++ [t], ?_, fun b o n z => ?_, ?_, ?_, ?_⟩
      · rw [upd_ne nDS.symm]; exact upd_at (upd_at h1 nT) nt
      · rw [upd_ne (ne_of_none z hDH)]; exact upd_at (upd_at (h2 b o n z) nT) nt
      · rw [upd_same]; simp
      · simp [h4, nDt]
      · rw [List.take_add_one, hy, Option.toList_some, List.map_append]
        refine Paired.snoc (Paired.mapPM h5 fun r p hr z => ?_) ?_
        · rw [upd_ne (fun z2 : r = D => h4 (z2 ▸ hr))]
          exact upd_at (upd_at z nT) nt
        · rw [upd_ne nDt.symm, upd_same]
          rfl
    · rintro H' ⟨ts, h1, h2, h3, h4, h5⟩
      rw [skv_len, List.take_length] at h5
      refine ⟨h1, ?_⟩
      have up : ∀ {b : Addr} {o : HO}, b ≠ S → H' b = some o → upd H' S (.dK (skv es)) b = some o := fun n z => by rw [upd_ne n]; exact z
      have nt : ∀ {t : Addr} {xs : List V}, H' t = some (.tup xs) → t ≠ S := fun z => ne_of z h1 (by intro y; cases y)
      refine ⟨D, ts, es.map fun e => ((e.s.at_ : Int), (e.s.id : Int)), rfl, up nDS h3, fun z => ?_, Paired.mapP h5 fun r p z => up (nt z) z, fun t p hp ht hmin => ?_⟩
      · have : (es.map fun e => ((e.s.at_ : Int), (e.s.id : Int))).length = 0 := by rw [z]; rfl
        rw [List.length_map] at this
        omega
      obtain ⟨o, ho, rfl⟩ := List.mem_map.mp hp
      have k0 : Keep S H (upd H' S (.dK (skv es))) := h2.upd
      have hF' := k0 _ _ nFS hF
      have hfind : valV (skv es) (Sum.inl (o.s.id : Int)) = some (.ref o.p) := by
        rw [valV_skv]
        cases e2 : es.find? (fun e => decide (e.s.id = o.s.id)) with
        | none =>
          have := List.find?_eq_none.mp e2 o ho
          simp at this
        | some y =>
          have hy := List.mem_of_find?_eq_some e2
          have : y = o := one_id he.ids hy ho (by simpa using List.find?_some e2)
          rw [this]
          rfl
      refine ⟨_, rfl, F, a.cf, dx, _, _, rfl, hF', T.cf, T.f_ships, fF_ships, S, rfl, .inl ⟨_, .inl upd_same⟩, _, rfl, t, _, _, _, rfl, rfl, SqT.of ht, at_of (j := 1) rfl rfl, _, Sum.inl (o.s.id : Int), _, upd_same, rfl, hfind, ?_⟩
      refine q o _ ho (fun y hy => ?_) k0.upd (he.sub List.filter_sublist k0.upd ?_)
      · have := hmin _ (List.mem_map.mpr ⟨y, hy, rfl⟩)
        unfold lt2 at this
        simp only [Bool.or_eq_false_iff, Bool.and_eq_false_iff, decide_eq_false_iff_not] at this
        unfold Older
        omega
      · rw [upd_same, dropK_skv]
end
end Sr
namespace Sr
open PySem L2 Sh
def spKeep (a : Adr) : Sp := fun vs H Q _ => ∃ (F dx : Addr) (now : Nat) (wv : V) (S : Addr) (es : List FE) (c : Nat) (M : MsgI) (t : Sd37.Told), vs = [.ref F, .ref M.m] ∧ H F = some (.ins a.cf dx (fF (.int (now : Int)) wv (.ref S))) ∧ Es a H S es c ∧ c ≤ 100000 ∧ MsgAt a M H t Sd37.words ∧ M.n < 1000000000 ∧
  M.D ≠ S ∧ (∀ e ∈ es, M.D ≠ e.k) ∧ a.cf ≠ a.ch ∧ a.cm ≠ a.ch ∧
  ∀ (es' : List FE) (es1 : List Sd37.Ship) (known : Sd37.Told) (H' : Hp), KeepP S es H H' → Es a H' S es' (c + 23) → HadE (es.map (·.s)) M.n es1 known → es'.map (·.s) = es1.map (setS ⟨M.n, now, Sd37.joined known t⟩) → Q .non H'
def tHave (a : Adr) : TS := fun D σ H => ∃ (F dx : Addr) (now : Nat) (wv : V) (S : Addr) (es : List FE) (c : Nat) (M : MsgI), σ = [some (.ref F), some (.ref M.m), none] ∧ H F = some (.ins a.cf dx (fF (.int (now : Int)) wv (.ref S))) ∧ Es a H S es c ∧ H M.m = some (.ins a.cm M.dx (fM (.ref M.B) (.int (M.n : Int)) (.ref M.D))) ∧ M.n < 1000000000 ∧
  ∀ (es1 : List FE) (e : FE) (H' : Hp), Keep S H H' → Es a H' S es1 c → e ∈ es1 → e.s.id = M.n → HadE (es.map (·.s)) M.n (es1.map (·.s)) e.s.known → (∀ y ∈ es1, y ∈ es ∨ (H y.p = none ∧ H y.k = none)) → D.nx σ H'
theorem filter_bne (es : List FE) (o : FE) : (es.filter fun e => decide (e.s.id ≠ o.s.id)).map (·.s) = (es.map (·.s)).filter fun x => x.id != o.s.id := by
  rw [List.filter_map]
  congr 1
  congr 1
  funext e
  show decide (e.s.id ≠ o.s.id) = (e.s.id != o.s.id)
  by_cases h : e.s.id = o.s.id <;> simp [h]
theorem Es.add {a : Adr} {H H1 H' : Hp} {S : Addr} {es : List FE} {c n : Nat} {x k dx : Addr} (h : Es a H1 S es c) (hl : es.length < 256) (hn : ∀ e ∈ es, e.s.id ≠ n) (hn9 : n < 1000000000) (nx : H1 x = none) (nk : H1 k = none) (s : Keep S H1 H')
    (hx : H' x = some (.ins a.ch dx (fH (.int 0) (.ref k)))) (hk : H' k = some (.dK [])) (nkS : k ≠ S) (hS : H' S = some (.dK (skv (es ++ [⟨⟨n, 0, []⟩, x, k⟩])))) : Es a H' S (es ++ [⟨⟨n, 0, []⟩, x, k⟩]) c := by
  have old : ∀ e ∈ es, e.p ≠ x ∧ e.k ≠ k := fun e he => by
    obtain ⟨dx, h1, h2⟩ := h.at_ e he
    obtain ⟨kvs, h2⟩ := h2.dK
    exact ⟨ne_of_none h1 nx, ne_of_none h2 nk⟩
  refine ⟨hS, fun e he => ?_, ?_, ?_, fun e he => ?_, ?_, ?_, fun e he => ?_⟩
  · rcases List.mem_append.mp he with he | he
    · exact (h.at_ e he).keeps (fun o z => s _ _ (h.pS he) z) (fun o z => s _ _ (h.sk e he) z) fun p l z => s _ _ (ne_of z h.dict (by intro y; cases y)) z
    · obtain rfl : e = ⟨⟨n, 0, []⟩, x, k⟩ := by simpa using he
      exact ⟨dx, hx, [], hk, Nat.zero_le _, fun x => rfl⟩
  · rw [List.map_append, List.nodup_append]
    refine ⟨h.ndp, by simp, fun b hb c hc => ?_⟩
    obtain ⟨e, he, rfl⟩ := List.mem_map.mp hb
    obtain rfl : c = x := by simpa using hc
    exact (old e he).1
  · rw [List.map_append, List.nodup_append]
    refine ⟨h.ndk, by simp, fun b hb c hc => ?_⟩
    obtain ⟨e, he, rfl⟩ := List.mem_map.mp hb
    obtain rfl : c = k := by simpa using hc
    exact (old e he).2
  · rcases List.mem_append.mp he with he | he
    · exact h.sk e he
    · obtain rfl : e = ⟨⟨n, 0, []⟩, x, k⟩ := by simpa using he
      exact nkS
  · rw [List.map_append, List.nodup_append]
    refine ⟨h.ids, by simp, fun b hb c hc => ?_⟩
    obtain ⟨e, he, rfl⟩ := List.mem_map.mp hb
    obtain rfl : c = n := by simpa using hc
    exact hn e he
  · simp; omega
  · rcases List.mem_append.mp he with he | he
    · exact h.ok e he
    · obtain rfl : e = ⟨⟨n, 0, []⟩, x, k⟩ := by simpa using he
      exact ⟨⟨fun _ => none, by simp⟩, hn9⟩
theorem Es.set {a : Adr} {H H' : Hp} {S : Addr} {es : List FE} {c now : Nat} {e : FE} {kn : Sd37.Told} {dx : Addr} (h : Es a H S es c) (he : e ∈ es) (hkn : Joined kn) (s : ∀ b o, H b = some o → b ≠ e.p → b ≠ e.k → H' b = some o)
    (hp : H' e.p = some (.ins a.ch dx (fH (.int (now : Int)) (.ref e.k)))) (hk : KnownAt H' e.k (told2 kn) (c + 23)) :
    Es a H' S (es.map fun y => if y.s.id = e.s.id then ⟨⟨e.s.id, now, kn⟩, y.p, y.k⟩ else y) (c + 23) := by
  have hS : H' S = some (.dK (skv es)) := s _ _ h.dict (h.pS he).symm (h.sk e he).symm
  have lst : ∀ p l, H p = some (.lst l) → H' p = some (.lst l) := fun p l z => by
    obtain ⟨dx, h1, h2⟩ := h.at_ e he
    obtain ⟨kvs, h2⟩ := h2.dK
    exact s _ _ z (ne_of z h1 (by intro y; cases y)) (ne_of z h2 (by intro y; cases y))
  have same : ∀ {β : Type} (g : FE → β) (_ : ∀ y : FE, g (if y.s.id = e.s.id then ⟨⟨e.s.id, now, kn⟩, y.p, y.k⟩ else y) = g y), (es.map fun y => if y.s.id = e.s.id then ⟨⟨e.s.id, now, kn⟩, y.p, y.k⟩ else y).map g = es.map g := fun g hg => by
    rw [List.map_map]
    exact List.map_congr_left fun y _ => hg y
  refine ⟨?_, fun y' hy' => ?_, ?_, ?_, fun y' hy' => ?_, ?_, ?_, fun y' hy' => ?_⟩
  · rw [hS]
    congr 2
    unfold skv
    exact (same _ fun y => by split <;> rename_i q <;> simp [q]).symm
  · obtain ⟨y, hy, rfl⟩ := List.mem_map.mp hy'
    by_cases q : y.s.id = e.s.id
    · rw [if_pos q]
      have : y = e := one_id h.ids hy he q
      subst this
      exact ⟨dx, hp, hk⟩
    · rw [if_neg q]
      have np : y.p ≠ e.p := fun z => q (by
        obtain ⟨i, hi⟩ := List.mem_iff_getElem?.mp hy
        obtain ⟨j, hj⟩ := List.mem_iff_getElem?.mp he
        have := nd_ix h.ndp (i := i) (j := j) (x := e.p) (by rw [List.getElem?_map, hi]; simp [z]) (by rw [List.getElem?_map, hj]; rfl)
        subst this
        rw [hi] at hj
        rw [Option.some.inj hj])
      have nk : y.k ≠ e.k := fun z => q (by
        obtain ⟨i, hi⟩ := List.mem_iff_getElem?.mp hy
        obtain ⟨j, hj⟩ := List.mem_iff_getElem?.mp he
        have := nd_ix h.ndk (i := i) (j := j) (x := e.k) (by rw [List.getElem?_map, hi]; simp [z]) (by rw [List.getElem?_map, hj]; rfl)
        subst this
        rw [hi] at hj
        rw [Option.some.inj hj])
      obtain ⟨dy, h1, h2⟩ := (h.at_ y hy).keeps (H' := H') (fun o z => s _ _ z np (h.pk hy he)) (fun o z => s _ _ z (h.pk he hy).symm nk) lst
      exact ⟨dy, h1, h2.up (by omega)⟩
  · rw [same (·.p) fun y => by split <;> rfl]; exact h.ndp
  · rw [same (·.k) fun y => by split <;> rfl]; exact h.ndk
  · obtain ⟨y, hy, rfl⟩ := List.mem_map.mp hy'
    have : (if y.s.id = e.s.id then (⟨⟨e.s.id, now, kn⟩, y.p, y.k⟩ : FE) else y).k = y.k := by split <;> rfl
    rw [this]
    exact h.sk y hy
  · rw [same (·.s.id) fun y => by split <;> rename_i q <;> simp [q]]; exact h.ids
  · rw [List.length_map]; exact h.few
  · obtain ⟨y, hy, rfl⟩ := List.mem_map.mp hy'
    split
    · exact ⟨hkn, (h.ok e he).2⟩
    · exact h.ok y hy
section
variable {P : Program} {w : World} {K : PySem.W.Frag} {mg : Str → Option Value} {base : Heap} {a : Adr}
theorem scKeep : FnScope ["self", "message", "ship"] ["self", "message"] (defScope (inClass (top 71) 3)) := ⟨rfl, rfl, rfl, by decide +kernel, rfl, by decide +kernel, by decide +kernel⟩
theorem mt_keep (T : Txt K mg a) : Mt P w K mg base a.cf "keep" 3 [] (spKeep a) := T.keep.mt T.cf fun f fd dV F => by
  refine F.ok0 scKeep (fun vs H Q E h => ?_) (fun cdv A outer s H vs Q E hr h => ?_)
  · obtain ⟨_, _, _, _, _, _, _, _, _, rfl, _⟩ := h
    rfl
  · obtain ⟨F, dx, now, wv, S, es, c, M, t, rfl, hF, he, hc, hM, hn9, nDS, nDk, ncf, ncm, q⟩ := h
    have hu := hu_of hr
    refine ⟨_, pss_cons (ps_weak (t' := tHave a) (ps_if (pt_cmp (pc_dnotin hu (pe_fld (pv 1) rfl) (pe_fld (pv 0) rfl)))
        (pss_cons (ps_expr (pe_mt0 (mt_room T) (pv 0) (hr.mono (by decide)) passE)) (pss_one (ps_dput hu (pe_fld (pv 0) rfl) (pe_fld (pv 1) rfl) (pe_mk0 (mk_ship T) hr passE) rfl))) pss_nil) ?w)
      <| pss_cons (ps_set (i := 2) scKeep.nd rfl (Or.inl rfl) (pe_dget hu (pe_fld (pv 0) rfl) (pe_fld (pv 1) rfl) (fun _ _ => rfl)))
      <| pss_cons (ps_fld (pv 2) (pe_fld (pv 0) rfl) rfl)
      <| pss_one (ps_expr (pe_bm PySem.F.plainAttrs_dict PySem.F.slot_dict_update PySem.F.type_dict_update mt_update2 (pe_fld (pv 2) rfl) (pa_cons (pe_fld (pv 1) rfl) pa_nil))), ?_⟩
    case w =>
      rintro D σ H' ⟨F, dx, now, wv, S, es, c, M, rfl, hF, he, hm, hn9, q⟩
      refine ⟨_, rfl, M.m, a.cm, M.dx, _, _, rfl, hm, T.cm, T.m_ship, fM_ship, _, rfl, F, a.cf, dx, _, _, rfl, hF, T.cf, T.f_ships, fF_ships, S, _, rfl, DGet.k (k := Sum.inl (M.n : Int)) he.dict, _, rfl, ?_⟩
      rw [valV_skv]
      cases e : es.find? (fun e => decide (e.s.id = M.n)) with
      | some y =>
        have hy := List.mem_of_find?_eq_some e
        have hid : y.s.id = M.n := by simpa using List.find?_some e
        exact iteF (q es y H' (Keep.refl _) he hy hid (.inl ⟨y.s, List.mem_map.mpr ⟨y, hy, rfl⟩, hid, rfl, rfl⟩) fun z hz => .inl hz)
      | none =>
        have hno : ∀ e ∈ es, e.s.id ≠ M.n := fun y hy => by simpa using List.find?_eq_none.mp e y hy
        have hno' : ∀ e ∈ es.map (·.s), e.id ≠ M.n := fun y hy => by obtain ⟨z, hz, rfl⟩ := List.mem_map.mp hy; exact hno z hz
        have add : ∀ (es0 : List FE) (H1 : Hp), Keep S H' H1 → Es a H1 S es0 c → es0.length < 256 → es0.Sublist es → ((es.map (·.s)).length ≠ 256 ∧ es0.map (·.s) = es.map (·.s) ∨ (es.map (·.s)).length = 256 ∧ ∃ o ∈ es.map (·.s), (∀ y ∈ es.map (·.s), Older o y) ∧ es0.map (·.s) = (es.map (·.s)).filter fun x => x.id != o.id) →
            sDPut (tFld K (tVar 0) "ships") (tFld K (tVar 1) "ship") (tMake a.ch (spShip0 a) [] E0 tNil) D [some (.ref F), some (.ref M.m), none] H1 := fun es0 H1 k1 h1 hl sub hb => by
          have nFS : F ≠ S := ne_of hF he.dict (by intro z; cases z)
          have nmS : M.m ≠ S := ne_of hm he.dict (by intro z; cases z)
          have hF1 := k1 _ _ nFS hF
          have hm1 := k1 _ _ nmS hm
          intro x dxx nx ndx nex
          refine ⟨x, dxx, rfl, upd_same, fun k nk => ⟨rfl, ?_⟩⟩
          have nkx : k ≠ x := fun z => by rw [z, upd_same] at nk; cases nk
          have nkd : k ≠ dxx := fun z => by rw [upd_ne nkx, z, upd_same] at nk; cases nk
          have nk1 : H1 k = none := by rw [upd_ne nkx, upd_ne nkd] at nk; exact nk
          have s2 : ∀ fs, Same H1 (upd (upd (upd (upd H1 dxx (.own x)) x (.ins a.ch dxx [])) k (.dK [])) x (.ins a.ch dxx fs)) := fun fs b o z => by
            rw [upd_ne (ne_of_none z nx), upd_ne (ne_of_none z nk1), upd_ne (ne_of_none z nx), upd_ne (ne_of_none z ndx)]
            exact z
          have nSx : S ≠ x := ne_of_none h1.dict nx
          have nSk : S ≠ k := ne_of_none h1.dict nk1
          have hno0 : ∀ e ∈ es0, e.s.id ≠ M.n := fun y hy => hno y (sub.mem hy)
          have hv : valV (skv es0) (Sum.inl (M.n : Int)) = none := by
            rw [valV_skv]
            cases e2 : es0.find? (fun e => decide (e.s.id = M.n)) with
            | none => rfl
            | some y => exact absurd (by simpa using List.find?_some e2) (hno0 y (List.mem_of_find?_eq_some e2))
          refine ⟨_, rfl, F, a.cf, dx, _, _, rfl, s2 _ _ _ hF1, T.cf, T.f_ships, fF_ships, _, rfl, M.m, a.cm, M.dx, _, _, rfl, s2 _ _ _ hm1, T.cm, T.m_ship, fM_ship, S, _, rfl, DPut.k (k := Sum.inl (M.n : Int)) (s2 _ _ _ h1.dict) (sl' (m := 256) (by rw [skv_len]; omega)), ?_⟩
          have kS : Keep S H1 (upd (upd (upd (upd (upd H1 dxx (.own x)) x (.ins a.ch dxx [])) k (.dK [])) x (.ins a.ch dxx (fH (.int 0) (.ref k)))) S (.dK (putK (skv es0) (Sum.inl (M.n : Int)) (.ref x)))) := (s2 _).keep.upd
          refine q (es0 ++ [⟨⟨M.n, 0, []⟩, x, k⟩]) ⟨⟨M.n, 0, []⟩, x, k⟩ _ (k1.trans kS) (h1.add (H := H1) (dx := dxx) hl hno0 hn9 nx nk1 kS (by rw [upd_ne nSx.symm, upd_same]) (by rw [upd_ne nSk.symm, upd_ne nkx, upd_same]) nSk.symm ?_) (by simp) rfl (.inr ⟨hno', rfl, es0.map (·.s), by simp, hb⟩) fun y hy => ?_
          · rw [upd_same, putK_new hv]
            simp [skv]
          · have none_of : ∀ b, H1 b = none → b ≠ S → H' b = none := fun b z n => by
              cases e3 : H' b with
              | none => rfl
              | some o => rw [k1 b o n e3] at z; cases z
            rcases List.mem_append.mp hy with hy | hy
            · exact .inl (sub.mem hy)
            · obtain rfl : y = ⟨⟨M.n, 0, []⟩, x, k⟩ := by simpa using hy
              exact .inr ⟨none_of x nx nSx.symm, none_of k nk1 nSk.symm⟩
        refine iteT ⟨_, rfl, F, dx, _, rfl, hF, fF_no (by decide +kernel) (by decide +kernel) (by decide +kernel), F, dx, _, _, S, es, c, rfl, hF, he, fun hl H1 s1 => ?_, fun hl o H1 ho hold k1 h1 => ?_⟩
        · exact add es H1 s1.keep (he.same s1) (by have := he.few; omega) (List.Sublist.refl _) (.inl ⟨by rw [List.length_map]; exact hl, rfl⟩)
        · refine add _ H1 k1 h1 ?_ List.filter_sublist (.inr ⟨by rw [List.length_map]; exact hl, o.s, List.mem_map.mpr ⟨o, ho, rfl⟩, fun y hy => ?_, filter_bne es o⟩)
          · have : (es.filter fun e => decide (e.s.id ≠ o.s.id)).length < es.length := by
              refine Nat.lt_of_le_of_ne (List.length_filter_le _ _) fun z => ?_
              have := List.length_filter_eq_length_iff.mp z o ho
              simp at this
            omega
          · obtain ⟨z, hz, rfl⟩ := List.mem_map.mp hy
            exact hold z hz
    refine ⟨F, dx, now, wv, S, es, c, M, rfl, hF, he, hM.ob, hn9, fun es1 e H1 k1 h1 hm1 hid had new => ?_⟩
    have nFS : F ≠ S := ne_of hF he.dict (by intro z; cases z)
    have nmS : M.m ≠ S := ne_of hM.ob he.dict (by intro z; cases z)
    have hF1 := k1 _ _ nFS hF
    have hob1 := k1 _ _ nmS hM.ob
    have hT1 : ToldAt H1 M.D t Sd37.words := by
      refine ⟨hM.told.1.keeps (fun o z => k1 _ _ nDS z) fun p l z => k1 _ _ (ne_of z he.dict (by intro y; cases y)) z, hM.told.2⟩
    obtain ⟨dxe, hp, hk⟩ := h1.at_ e hm1
    have hv : valV (skv es1) (Sum.inl (M.n : Int)) = some (.ref e.p) := by
      rw [valV_skv]
      cases e2 : es1.find? (fun e => decide (e.s.id = M.n)) with
      | none =>
        have := List.find?_eq_none.mp e2 e hm1
        simp [hid] at this
      | some y =>
        have hy := List.mem_of_find?_eq_some e2
        have : y = e := one_id h1.ids hy hm1 ((by simpa using List.find?_some e2 : y.s.id = M.n).trans hid.symm)
        rw [this]
        rfl
    refine ⟨_, rfl, F, a.cf, dx, _, _, rfl, hF1, T.cf, T.f_ships, fF_ships, _, rfl, M.m, a.cm, M.dx, _, _, rfl, hob1, T.cm, T.m_ship, fM_ship, S, _, rfl, DGetkv (k := Sum.inl (M.n : Int)) h1.dict hv, ?_⟩
    refine ⟨_, rfl, F, a.cf, dx, _, _, rfl, hF1, T.cf, T.f_time, fF_time, _, rfl, e.p, a.ch, dxe, _, rfl, hp, T.ch, T.h_heard, (by show 2 < 1000; decide), ?_⟩
    rw [fH_heard']
    have nDe : M.D ≠ e.k := by
      rcases new e hm1 with z | ⟨_, z⟩
      · exact nDk e z
      · obtain ⟨kvs, hd⟩ := hM.told.1.dK
        exact ne_of_none hd z
    have npk : e.p ≠ e.k := h1.pk hm1 hm1
    have npD : M.D ≠ e.p := by
      obtain ⟨kvs, hd⟩ := hT1.1.dK
      exact ne_of hd hp (by intro z; cases z)
    have npm : M.m ≠ e.p := ne_of hob1 hp (ins_ne ncm)
    generalize hH2 : upd H1 e.p (.ins a.ch dxe (fH (.int (now : Int)) (.ref e.k))) = H2
    have k2 : ∀ b o, H1 b = some o → b ≠ e.p → H2 b = some o := fun b o z n => by rw [← hH2, upd_ne n]; exact z
    have hp2 : H2 e.p = some (.ins a.ch dxe (fH (.int (now : Int)) (.ref e.k))) := by rw [← hH2, upd_same]
    clear hH2
    have lst2 : ∀ p l, H1 p = some (.lst l) → H2 p = some (.lst l) := fun p l z => k2 _ _ z (ne_of z hp (by intro y; cases y))
    have hk2 : KnownAt H2 e.k (told2 e.s.known) c := hk.keeps (fun o z => k2 _ _ z npk.symm) lst2
    have hT2 : ToldAt H2 M.D t Sd37.words := ⟨hT1.1.keeps (fun o z => k2 _ _ z npD) lst2, hT1.2⟩
    obtain ⟨kvs, more, d1, d2, l1, l2, mg⟩ := hk2.merge hT2 (h1.ok e hm1).1
    refine ⟨_, rfl, e.p, a.ch, dxe, _, _, rfl, hp2, T.ch, T.h_known, fH_known, .inr (.inr (.inl ⟨rfl, .inl ⟨_, d1⟩⟩)), _, rfl, M.m, a.cm, M.dx, _, _, rfl, k2 _ _ hob1 npm, T.cm, T.m_told, fM_told, e.k, M.D, kvs, more, rfl, rfl, nDe.symm, d1, d2, sl (m := 200000) (by omega), fun nd => ?_⟩
    have hk3 := mg nd
    have fin : Es a (upd H2 e.k (.dK (mergeK kvs more))) S (es1.map fun y => if y.s.id = e.s.id then ⟨⟨e.s.id, now, Sd37.joined e.s.known t⟩, y.p, y.k⟩ else y) (c + 23) :=
      h1.set hm1 (joined_Joined _ _) (fun b o z n1 n2 => by rw [upd_ne n2]; exact k2 _ _ z n1) (dx := dxe) (by rw [upd_ne npk]; exact hp2) hk3
    refine q _ (es1.map (·.s)) e.s.known _ (fun b o z n1 n2 => ?_) fin had ?_
    · have z1 := k1 _ _ n1 z
      have nb : b ≠ e.p ∧ b ≠ e.k := by
        rcases new e hm1 with y | ⟨y1, y2⟩
        · exact n2 e y
        · exact ⟨ne_of_none z y1, ne_of_none z y2⟩
      rw [upd_ne nb.2]
      exact k2 _ _ z1 nb.1
    · rw [List.map_map, List.map_map]
      apply List.map_congr_left
      intro y _
      show (if y.s.id = e.s.id then (⟨⟨e.s.id, now, Sd37.joined e.s.known t⟩, y.p, y.k⟩ : FE) else y).s = setS ⟨M.n, now, Sd37.joined e.s.known t⟩ y.s
      unfold setS
      rw [← hid]
      by_cases z : y.s.id = e.s.id
      · rw [if_pos z, if_pos z]
      · rw [if_neg z, if_neg z]
end
end Sr
namespace Sr
open PySem L2 Sh
def StateAt (a : Adr) (H : Hp) (F : Addr) (st : Sd37.St) (c : Nat) : Prop := ∃ dx W S es, H F = some (.ins a.cf dx (fF (.int (st.now : Int)) (.ref W) (.ref S))) ∧ WaitAt a H W st.waits ∧ Es a H S es c ∧ Fleet (es.map (·.s)) st.ships
theorem StateAt.same {a : Adr} {H H' : Hp} {F : Addr} {st : Sd37.St} {c : Nat} (h : StateAt a H F st c) (s : Same H H') : StateAt a H' F st c := by
  obtain ⟨dx, W, S, es, h1, h2, h3, h4⟩ := h
  exact ⟨dx, W, S, es, s _ _ h1, h2.same s, h3.same s, h4⟩
theorem StateAt.up {a : Adr} {H : Hp} {F : Addr} {st : Sd37.St} {c c' : Nat} (h : StateAt a H F st c) (l : c ≤ c') : StateAt a H F st c' := by
  obtain ⟨dx, W, S, es, h1, h2, h3, h4⟩ := h
  exact ⟨dx, W, S, es, h1, h2, h3.up l, h4⟩
def lObj : HO → Prop
  | .lst _ => True
  | .tup _ => True
  | .frz _ _ => True
  | _ => False
def KeepL (H H' : Hp) : Prop := ∀ b o, lObj o → H b = some o → H' b = some o
theorem KeepL.trans {H H1 H2 : Hp} (x : KeepL H H1) (y : KeepL H1 H2) : KeepL H H2 := fun b o n h => y b o n (x b o n h)
theorem _root_.L2.Same.keepL {H H' : Hp} (s : Same H H') : KeepL H H' := fun b o _ h => s b o h
theorem KeepW.keepL {a : Adr} {H H' : Hp} (s : KeepW a H H') : KeepL H H' := fun b o l h => s b o (fun z => by cases o <;> first | exact l.elim | exact z.elim) h
theorem KeepF.keepL {a : Adr} {H H' : Hp} (s : KeepF a H H') : KeepL H H' := fun b o l h => s b o (fun z => by cases o <;> first | exact l.elim | exact z.elim) h
theorem Dif.all {a : Adr} (d : Dif a) : a.cf ≠ a.cw ∧ a.cf ≠ a.cb ∧ a.cf ≠ a.ch ∧ a.ch ≠ a.cw ∧ a.ch ≠ a.cb ∧ a.cm ≠ a.ch ∧ a.cw ≠ a.ch ∧ a.cb ≠ a.ch := by
  have n := d.nd
  simp only [List.nodup_cons, List.mem_cons, not_or] at n
  obtain ⟨n1, n2, n3, n4, n5, n6⟩ := n
  exact ⟨fun z => n4.2.1 z.symm, fun z => n3.2.2.1 z.symm, fun z => n5.1 z.symm, fun z => n4.1 z.symm, fun z => n3.2.1 z.symm, n2.2.2.1, n4.1, n3.2.1⟩
theorem Es.keepW {a : Adr} (d : Dif a) {H H' : Hp} {S : Addr} {es : List FE} {c : Nat} (h : Es a H S es c) (k : KeepW a H H') : Es a H' S es c :=
  ⟨k _ _ (fun z => z) h.dict, fun e he => by
    obtain ⟨dx, h1, h2⟩ := h.at_ e he
    obtain ⟨_, _, _, n1, n2, _⟩ := d.all
    refine ⟨dx, k _ _ (fun z => z.elim n1 n2) h1, h2.keeps (fun o z => ?_) fun p l z => k _ _ (fun y => y) z⟩
    obtain ⟨kvs, h3⟩ := h2.dK
    have : o = .dK kvs := by rw [h3] at z; exact (Option.some.inj z).symm
    subst this
    exact k _ _ (fun y => y) z, h.ndp, h.ndk, h.sk, h.ids, h.few, h.ok⟩
theorem WaitAt.keepF {a : Adr} (d : Dif a) {H H' : Hp} {W : Addr} {ws : List Sd37.Wait} (h : WaitAt a H W ws) (k : KeepF a H H') : WaitAt a H' W ws := by
  obtain ⟨dx, G, zs, e, h1, h2, h3⟩ := h
  obtain ⟨_, _, _, _, _, _, n1, n2⟩ := d.all
  refine ⟨dx, G, zs, e, k _ _ (fun z => n1 z) h1, k _ _ (fun z => z) h2, h3.keeps (fun z hz o eo => ?_) fun c xs z => k _ _ (fun y => y) z⟩
  obtain ⟨dxb, B, hb, _⟩ := h3.at_ z hz
  rw [hb] at eo
  rw [← eo]
  exact k _ _ (fun y => n2 y) hb
theorem message_eq (s : Sd37.St) (b : List Bool) : Sd37.message s b = match mMsg b with
    | none => (.message, s)
    | some t => (.told (Sd37.un b 8 30) (Sd37.joined [] t), Sd37.heard s (Sd37.un b 8 30) t) := by
  unfold Sd37.message mMsg
  rw [mKind_eq]
  dsimp only
  by_cases h1 : b.length < 40
  · rw [if_pos (.inl h1), if_pos h1]
  · rw [if_neg h1]
    by_cases h2 : 999999999 < Sd37.un b 8 30
    · rw [if_pos (.inr h2), if_pos h2]
    · rw [if_neg (fun z => z.elim h1 h2), if_neg h2]
      cases Sd37.told b <;> rfl
def cameT (st : Sd37.St) (row : List Nat) : Sd37.Out × Sd37.St := match readS row with
  | .error .form => (.form, st)
  | .error .sum => (.sum, st)
  | .ok x => Sd37.taken st x
theorem came_eq (s : Sd37.St) (now : Nat) (b : List Nat) : Sd37.came s now b = cameT { s with now := max s.now now } b := by
  unfold Sd37.came cameT
  rw [readS_eq]
  dsimp only
  cases readS b with
  | error e => cases e <;> rfl
  | ok x => rfl
def outV : Sd37.Out → List Int
  | .told id t => ((Sd37.line id t).length : Int) :: Sd37Neutral.ints (Sd37.line id t)
  | .waits => [0]
  | .form => [-2]
  | .sum => [-3]
  | .part => [-4]
  | .message => [-5]
def excOf (a : Adr) : Sd37.Out → Option Addr
  | .form => some a.xl
  | .sum => some a.xo
  | .part => some a.xp
  | .message => some a.xm
  | _ => none
def TLEnds (a : Adr) (H : Hp) (F : Addr) (c : Nat) (r : Sd37.Out × Sd37.St) (Q : VK) (E : XK) : Prop := match excOf a r.1 with
  | some C => ∀ H', KeepL H H' → StateAt a H' F r.2 (c + 23) → E (.ref C) none H'
  | none => ∀ p H', KeepL H H' → StateAt a H' F r.2 (c + 23) → H' p = some (.lst ((outV r.1).map V.int)) → (outV r.1).length ≤ 667 → Q (.ref p) H'
def spTL (a : Adr) : Sp := fun vs H Q E => ∃ (F R : Addr) (row : List Nat) (st : Sd37.St) (c : Nat), vs = [.ref F, .ref R] ∧ H R = some (.lst (vI row)) ∧ row.length ≤ 1024 ∧ StateAt a H F st c ∧ c ≤ 100000 ∧ TLEnds a H F c (cameT st row) Q E
def spF0 (a : Adr) : Sp := fun vs H Q _ => ∃ (x dx : Addr), vs = [.ref x] ∧ H x = some (.ins a.cf dx []) ∧ ∀ H', Keep x H H' → StateAt a H' x Sd37.blank 0 → Q .non H'
theorem vI_ints (l : List Nat) : vI l = (Sd37Neutral.ints l).map V.int := by simp [Sd37Neutral.ints]
theorem heard_rest (s : Sd37.St) (id : Nat) (t : Sd37.Told) : (Sd37.heard s id t).waits = s.waits ∧ (Sd37.heard s id t).now = s.now := by
  unfold Sd37.heard
  cases s.ships.find? (fun x => x.id == id) <;> exact ⟨rfl, rfl⟩
theorem line_joined (id : Nat) (t : Sd37.Told) : Sd37.line id (Sd37.joined [] t) = lineOf id (told2 t) := by
  rw [line_eq (joined_Joined [] t)]
  refine lineOf_congr fun w hw => ?_
  rw [find_joined hw]
  unfold told2
  cases Sd37.find t w <;> rfl
section
variable {P : Program} {w : World} {K : PySem.W.Frag} {mg : Str → Option Value} {base : Heap} {a : Adr}
theorem scF0 : FnScope ["self"] ["self"] (defScope (inClass (top 71) 0)) := ⟨rfl, rfl, rfl, by decide +kernel, rfl, by decide +kernel, by decide +kernel⟩
theorem mk_ships (T : Txt K mg a) : Mkr P w K mg base "Ships" a.cf 3 (spF0 a) := T.Ships.mkr fun f fd F => by
  refine F.ok0 scF0 (fun vs H Q E h => ?_) (fun cdv A outer s H vs Q E hr h => ?_)
  · obtain ⟨_, _, rfl, _⟩ := h
    rfl
  · obtain ⟨x, dx, rfl, hx, q⟩ := h
    refine ⟨_, pss_cons (ps_fld (pv 0) pe_int rfl) (pss_cons (ps_fld (pv 0) (pe_mk0 (mk_wait T) hr passE) rfl) (pss_one (ps_fld (pv 0) pe_dnewK rfl))), ?_⟩
    refine ⟨_, rfl, x, a.cf, dx, _, rfl, hx, T.cf, T.f_time, (by show 0 < 1000; decide), fun y dy ny ndy ney => ⟨y, dy, rfl, upd_same, fun G nG => ⟨rfl, ?_⟩⟩⟩
    have nyx : x ≠ y := ne_of_none upd_same ny
    have ndx : x ≠ dy := ne_of_none upd_same ndy
    have nGy : G ≠ y := fun z => by rw [z, upd_same] at nG; cases nG
    have nGd : G ≠ dy := fun z => by rw [upd_ne nGy, z, upd_same] at nG; cases nG
    have nGx : x ≠ G := fun z => by rw [upd_ne nGy, upd_ne nGd, ← z, upd_same] at nG; cases nG
    generalize hH3 : upd (upd (upd (upd (upd H x (.ins a.cf dx (putF "time" (.int 0) []))) dy (.own y)) y (.ins a.cw dy [])) G (.dT [])) y (.ins a.cw dy (fW (.ref G))) = H3
    have e1 : H3 x = some (.ins a.cf dx (putF "time" (.int 0) [])) := by rw [← hH3, upd_ne nyx, upd_ne nGx, upd_ne nyx, upd_ne ndx, upd_same]
    have e2 : H3 y = some (.ins a.cw dy (fW (.ref G))) := by rw [← hH3, upd_same]
    have e3 : H3 G = some (.dT []) := by rw [← hH3, upd_ne nGy, upd_same]
    have k3 : ∀ b o, b ≠ x → H b = some o → H3 b = some o := fun b o n e => by
      have nb : b ≠ y := fun z => by rw [upd_ne nyx.symm, ← z, e] at ny; cases ny
      have nbd : b ≠ dy := fun z => by rw [upd_ne ndx.symm, ← z, e] at ndy; cases ndy
      have nbG : b ≠ G := fun z => by rw [upd_ne nGy, upd_ne nGd, upd_ne nGx.symm, ← z, e] at nG; cases nG
      rw [← hH3, upd_ne nb, upd_ne nbG, upd_ne nb, upd_ne nbd, upd_ne n]
      exact e
    clear hH3
    refine ⟨_, rfl, x, a.cf, dx, _, rfl, e1, T.cf, T.f_waiting, (by show 1 < 1000; decide), fun S nS => ?_⟩
    have nSx : x ≠ S := ne_of_none upd_same nS
    have nS3 : H3 S = none := by rw [upd_ne nSx.symm] at nS; exact nS
    refine ⟨_, rfl, x, a.cf, dx, _, rfl, upd_at upd_same nS, T.cf, T.f_ships, Nat.lt_of_le_of_lt (length_putF _ _ _) (by show 1 + 1 < 1000; decide), ?_⟩
    show Q .non (upd (upd (upd H3 x _) S (.dK [])) x (.ins a.cf dx (putF "ships" (.ref S) (putF "waiting" (.ref y) (putF "time" (.int 0) [])))))
    rw [fF_put]
    refine q _ (fun b o n e => ?_) ⟨dx, y, S, [], upd_same, ⟨dy, G, [], rfl, ?_, ?_, ⟨(fun z hz => nomatch hz), List.nodup_nil, List.nodup_nil, by decide, (fun z hz => nomatch hz)⟩⟩, ⟨?_, (fun z hz => nomatch hz), List.nodup_nil, List.nodup_nil, (fun z hz => nomatch hz), List.nodup_nil, by decide, (fun z hz => nomatch hz)⟩, ⟨List.Perm.refl _, List.Pairwise.nil, by decide⟩⟩
    · have e3' := k3 b o n e
      rw [upd_ne n, upd_ne (ne_of_none e3' nS3), upd_ne n]
      exact e3'
    · rw [upd_ne nyx.symm, upd_ne (ne_of_none e2 nS3), upd_ne nyx.symm]; exact e2
    · rw [upd_ne nGx.symm, upd_ne (ne_of_none e3 nS3), upd_ne nGx.symm]; exact e3
    · rw [upd_ne nSx.symm, upd_same]; rfl
theorem scTL : FnScope ["self", "row", "bits", "message", "line"] ["self", "row"] (defScope (inClass (top 71) 2)) := ⟨rfl, rfl, rfl, by decide +kernel, rfl, by decide +kernel, by decide +kernel⟩
theorem mt_tl (T : Txt K mg a) (d : Dif a) : Mt P w K mg base a.cf "take_line" 9 [] (spTL a) := T.take_line.mt T.cf fun f fd dV Fd => by
  refine Fd.okx scTL (fun vs H Q E h => ?_) (fun cdv A outer s H vs Q E hr h => ?_)
  · obtain ⟨_, _, _, _, _, rfl, _⟩ := h
    rfl
  · obtain ⟨F, R, row, st, c, rfl, hR, hrow, hst, hc, q⟩ := h
    have hr4 := hr.mono (show 4 ≤ 8 by decide)
    have hr3 := hr.mono (show 3 ≤ 8 by decide)
    refine ⟨_, pss_cons (ps_set (i := 2) scTL.nd rfl (Or.inl rfl) (pe_mt (mt_take T d) (pe_fld (pv 0) rfl) hr4 pass1 (pa_cons (pe_fn (fn_sentence T) hr3 pass1 (pa_cons (pv 1) pa_nil)) (pa_cons (pe_fld (pv 0) rfl) pa_nil))))
      <| pss_cons (ps_if (pt_cmp (pc_isN (pv 2))) (pss_one (ps_ret (pe_lst (pa_cons pe_int pa_nil)))) pss_nil)
      <| pss_cons (ps_set (i := 3) scTL.nd rfl (Or.inl rfl) (pe_fn (fn_msg T) hr pass1 (pa_cons (pv 2) pa_nil)))
      <| pss_cons (ps_expr (pe_mt (mt_keep T) (pv 0) hr3 passE (pa_cons (pv 3) pa_nil)))
      <| pss_cons (ps_set (i := 4) scTL.nd rfl (Or.inl rfl) (pe_fn (fn_line T) hr3 passE (pa_cons (pe_fld (pv 3) rfl) (pa_cons (pe_fld (pv 3) rfl) pa_nil))))
      <| pss_one (ps_ret (pe_op op_cat (pe_lst (pa_cons (pe_callB call_len_seq (by rfl) T.len bLen (pa_cons (pv 4) pa_nil)) pa_nil)) (pv 4))), ?_⟩
    obtain ⟨nfw, nfb, nfh, nhw, nhb, nmh, nwh, nbh⟩ := d.all
    obtain ⟨dx, W, S, es, hF, hW, he, hfl⟩ := id hst
    obtain ⟨dxw, G, zs, hzs, hW0, hG0, hz0⟩ := id hW
    refine ⟨_, rfl, F, a.cf, dx, _, _, rfl, hF, T.cf, T.f_waiting, fF_waiting, W, dxw, _, rfl, hW0, fW_no (by decide +kernel), _, rfl, R, row, rfl, hR, hrow, fun e H1 s1 => ?_, fun e H1 s1 => ?_, fun X sn H1 e s1 hS => ?_⟩
    · unfold cameT at q
      rw [e] at q
      exact q H1 s1.keepL ((hst.same s1).up (by omega))
    · unfold cameT at q
      rw [e] at q
      exact q H1 s1.keepL ((hst.same s1).up (by omega))
    unfold cameT at q
    rw [e] at q
    dsimp only at q
    have xo := readS_XOk e
    have hW8 : st.waits.length ≤ 8 := by rw [← hzs, List.length_map]; exact hz0.few
    rw [taken_eq st (fun n => xo.sq (by have := xo.w1; have := xo.wt; omega)) hW8] at q
    refine ⟨_, rfl, F, a.cf, dx, _, _, rfl, s1 _ _ hF, T.cf, T.f_time, fF_time, W, sn, st.waits, X, st.now, rfl, hW.same s1, hS, xo, ?_⟩
    have after : ∀ H2 ws, KeepW a H1 H2 → WaitAt a H2 W ws → KeepL H H2 ∧ StateAt a H2 F { st with waits := ws } c ∧ H2 F = some (.ins a.cf dx (fF (.int (st.now : Int)) (.ref W) (.ref S))) ∧ Es a H2 S es c := fun H2 ws k2 h2 => by
      have hF2 : H2 F = some (.ins a.cf dx (fF (.int (st.now : Int)) (.ref W) (.ref S))) := k2 _ _ (fun z => z.elim nfw nfb) (s1 _ _ hF)
      have he2 := (he.same s1).keepW d k2
      exact ⟨s1.keepL.trans k2.keepL, ⟨dx, W, S, es, hF2, h2, he2, hfl⟩, hF2, he2⟩
    cases hg : takeW st.now st.waits X with
    | misfit ws =>
      rw [hg] at q
      intro H2 k2 h2
      obtain ⟨kl, hs2, _, _⟩ := after H2 ws k2 h2
      exact q H2 kl (hs2.up (by omega))
    | wait ws =>
      rw [hg] at q
      intro H2 k2 h2
      obtain ⟨kl, hs2, _, _⟩ := after H2 ws k2 h2
      refine ⟨_, rfl, _, rfl, iteT ⟨(by show 1 ≤ sizeLine; decide), fun p np => ?_⟩⟩
      exact q p _ (kl.trans (same_upd np).keepL) ((hs2.same (same_upd np)).up (by omega)) upd_same (by show 1 ≤ 667; decide)
    | whole ws b =>
      rw [hg] at q
      intro B H2 k2 h2 hB
      obtain ⟨kl, hs2, hF2, he2⟩ := after H2 ws k2 h2
      dsimp only at q
      rw [message_eq] at q
      refine ⟨_, rfl, _, rfl, iteF ⟨_, rfl, B, b, rfl, hB, fun e3 H3 s3 => ?_, fun t M H3 e3 hMb hMn nm nD s3 hM => ?_⟩⟩
      · rw [e3] at q
        exact q H3 (kl.trans s3.keepL) ((hs2.same s3).up (by omega))
      rw [e3] at q
      dsimp only at q
      have hF3 := s3 _ _ hF2
      have he3 := he2.same s3
      have hn9 : M.n < 1000000000 := by
        rw [hMn]
        unfold mMsg at e3
        split at e3
        · cases e3
        · split at e3
          · cases e3
          · omega
      have nDS : M.D ≠ S := fun z => by rw [z, he2.dict] at nD; cases nD
      have nDk : ∀ e ∈ es, M.D ≠ e.k := fun y hy z => by
        obtain ⟨_, _, h5⟩ := he2.at_ y hy
        obtain ⟨kvs, h5⟩ := h5.dK
        rw [z, h5] at nD
        cases nD
      refine ⟨_, rfl, F, dx, _, rfl, hF3, fF_no (by decide +kernel) (by decide +kernel) (by decide +kernel), _, rfl, F, dx, st.now, _, S, es, c, M, t, rfl, hF3, he3, hc, hM, hn9, nDS, nDk, nfh, nmh, fun es' es1 known H4 k4 h4 had hes' => ?_⟩
      have kf4 := k4.toF he3
      have hF4 : H4 F = some (.ins a.cf dx (fF (.int (st.now : Int)) (.ref W) (.ref S))) := kf4 _ _ (fun z => nfh z) hF3
      have hW4 : WaitAt a H4 W ws := (h2.same s3).keepF d kf4
      have hob4 : H4 M.m = some (.ins a.cm M.dx (fM (.ref M.B) (.int (M.n : Int)) (.ref M.D))) := kf4 _ _ (fun z => nmh z) hM.ob
      have nDp : ∀ e ∈ es, M.D ≠ e.p := fun y hy z2 => by
        obtain ⟨_, h5, _⟩ := he3.at_ y hy
        obtain ⟨kvs, h6⟩ := hM.told.1.dK
        rw [z2, h5] at h6
        cases h6
      have hT4 : KnownAt H4 M.D (told2 t) 23 := hM.told.1.keeps (fun o z => k4 _ _ z nDS fun y hy => ⟨nDp y hy, nDk y hy⟩) fun p l z => kf4 _ _ (fun y => y) z
      have hst4 : StateAt a H4 F (Sd37.heard { st with waits := ws } M.n t) (c + 23) := by
        obtain ⟨w1, w2⟩ := heard_rest { st with waits := ws } M.n t
        refine ⟨dx, W, S, es', by rw [w2]; exact hF4, by rw [w1]; exact hW4, h4, ?_⟩
        rw [hes']
        exact fleet_had (st := { st with waits := ws }) hfl had
      rw [← hMn] at q
      refine ⟨_, rfl, M.m, a.cm, M.dx, _, _, rfl, hob4, T.cm, T.m_ship, fM_ship, _, rfl, M.m, a.cm, M.dx, _, _, rfl, hob4, T.cm, T.m_told, fM_told, M.n, M.D, told2 t, 23, rfl, hn9, hT4, fun L H5 nL s5 hL => ?_⟩
      have hl666 : (lineOf M.n (told2 t)).length ≤ 666 := lineOf_len (id_len hn9) fun x _ v z => hT4.len z
      refine ⟨_, rfl, L, _, rfl, .inl (SqL.of hL), (by show 1 ≤ sizeLine; decide), fun p1 n1 => ⟨_, rfl, p1, L, _, _, rfl, rfl, upd_same, upd_at hL n1, ?_, fun p n2 => ?_⟩⟩
      · simp only [vI_len, List.length_cons, List.length_nil]
        exact sl (m := 700) (by omega)
      have s6 := fun o => (s5.trans (same_upd (o := .lst [.int (((vI (lineOf M.n (told2 t))).length : Nat) : Int)]) n1)).trans (same_upd (o := o) n2)
      refine q p _ (((kl.trans s3.keepL).trans kf4.keepL).trans (s6 _).keepL) (hst4.same (s6 _)) ?_ (by
        show (((Sd37.line M.n (Sd37.joined [] t)).length : Int) :: Sd37Neutral.ints (Sd37.line M.n (Sd37.joined [] t))).length ≤ 667
        rw [line_joined]
        simp [Sd37Neutral.ints]
        omega)
      rw [upd_same]
      show some (HO.lst ([V.int (((vI (lineOf M.n (told2 t))).length : Nat) : Int)] ++ vI (lineOf M.n (told2 t)))) = some (HO.lst ((outV (.told M.n (Sd37.joined [] t))).map V.int))
      show _ = some (HO.lst ((((Sd37.line M.n (Sd37.joined [] t)).length : Int) :: Sd37Neutral.ints (Sd37.line M.n (Sd37.joined [] t))).map V.int))
      rw [line_joined, vI_len, vI_ints]
      rfl
end
end Sr
namespace Sr
open PySem L2 Sh
structure Mis (K : PySem.W.Frag) (a : Adr) : Prop where
  ll : PySem.W.exmOne K (.ref a.xl) (.ref a.xl) = some true
  ol : PySem.W.exmOne K (.ref a.xo) (.ref a.xl) = some false
  oo : PySem.W.exmOne K (.ref a.xo) (.ref a.xo) = some true
  pl : PySem.W.exmOne K (.ref a.xp) (.ref a.xl) = some false
  po : PySem.W.exmOne K (.ref a.xp) (.ref a.xo) = some false
  pp : PySem.W.exmOne K (.ref a.xp) (.ref a.xp) = some true
  ml : PySem.W.exmOne K (.ref a.xm) (.ref a.xl) = some false
  mo : PySem.W.exmOne K (.ref a.xm) (.ref a.xo) = some false
  mp : PySem.W.exmOne K (.ref a.xm) (.ref a.xp) = some false
  mm : PySem.W.exmOne K (.ref a.xm) (.ref a.xm) = some true
def KeepT (a : Adr) (H H' : Hp) : Prop := ∀ b o, (∀ dx fs, o ≠ .ins a.cf dx fs) → H b = some o → H' b = some o
theorem WaitAt.keepT {a : Adr} (d : Dif a) {H H' : Hp} {W : Addr} {ws : List Sd37.Wait} (h : WaitAt a H W ws) (k : KeepT a H H') : WaitAt a H' W ws := by
  obtain ⟨dx, G, zs, e, h1, h2, h3⟩ := h
  obtain ⟨n1, n2, _⟩ := d.all
  refine ⟨dx, G, zs, e, k _ _ (fun _ _ => ins_ne n1.symm) h1, k _ _ (fun _ _ z => nomatch z) h2, h3.keeps (fun z hz o eo => ?_) fun c xs z => k _ _ (fun _ _ z => nomatch z) z⟩
  obtain ⟨dxb, B, hb, _⟩ := h3.at_ z hz
  rw [hb] at eo
  rw [← eo]
  exact k _ _ (fun _ _ => ins_ne n2.symm) hb
theorem Es.keepT {a : Adr} (d : Dif a) {H H' : Hp} {S : Addr} {es : List FE} {c : Nat} (h : Es a H S es c) (k : KeepT a H H') : Es a H' S es c :=
  ⟨k _ _ (fun _ _ z => nomatch z) h.dict, fun e he => by
    obtain ⟨dx, h1, h2⟩ := h.at_ e he
    obtain ⟨_, _, n1, _⟩ := d.all
    refine ⟨dx, k _ _ (fun _ _ => ins_ne n1.symm) h1, h2.keeps (fun o z => ?_) fun p l z => k _ _ (fun _ _ z => nomatch z) z⟩
    obtain ⟨kvs, h3⟩ := h2.dK
    rw [h3] at z
    rw [← z]
    exact k _ _ (fun _ _ z => nomatch z) h3, h.ndp, h.ndk, h.sk, h.ids, h.few, h.ok⟩
def tOut (lo hi : Int) (i : Nat) : TT := fun σ H Q => ∃ z, σ[i]? = some (some (.int z)) ∧ Q (decide (¬ (lo ≤ z ∧ z ≤ hi))) H
theorem out_weak {lo hi : Int} {i : Nat} {σ : L2.St} {H : Hp} {Q : Bool → Hp → Prop} (h : tOut lo hi i σ H Q) : tNot (tTest (tChain (rI0 fun i j => V.bl (decide (i ≤ j))) (rI0 fun i j => V.bl (decide (i ≤ j))) (tC (.int lo)) (tVar i) (tC (.int hi)))) σ H Q := by
  obtain ⟨z, h1, h2⟩ := h
  refine ⟨_, h1, _, _, rfl, rfl, _, rfl, iteI (c := lo ≤ z) (by simp) (fun e => ⟨_, _, rfl, rfl, _, rfl, ?_⟩) (fun e => ⟨_, rfl, ?_⟩)⟩
  · have : decide (¬ (lo ≤ z ∧ z ≤ hi)) = !decide (z ≤ hi) := by by_cases y : z ≤ hi <;> simp [e, y] <;> omega
    rw [this] at h2
    exact h2
  · have : decide (¬ (lo ≤ z ∧ z ≤ hi)) = !false := by simp [e]
    rw [this] at h2
    exact h2
def hearS (st : Sd37.St) (now : Nat) (count most : Int) (row : List Nat) : Sd37.St × List Int :=
  if ¬ (0 ≤ count ∧ count ≤ 1024) ∨ ¬ (512 ≤ most ∧ most ≤ 1048576) then (st, [-1]) else ((cameT { st with now := max st.now now } row).2, outV (cameT { st with now := max st.now now } row).1)
def spHear (a : Adr) : Sp := fun vs H Q _ => ∃ (F R : Addr) (row : List Nat) (st : Sd37.St) (c now : Nat) (count most : Int), vs = [.ref F, .int (now : Int), .int count, .int most, .ref R] ∧ H R = some (.lst (vI row)) ∧ row.length ≤ 1024 ∧ StateAt a H F st c ∧ c ≤ 100000 ∧
  ∀ p H', KeepL H H' → StateAt a H' F (hearS st now count most row).1 (c + 23) → H' p = some (.lst ((hearS st now count most row).2.map V.int)) → (hearS st now count most row).2.length ≤ 667 → Q (.ref p) H'
def hands4 (a : Adr) : List (Addr × Int) := [(a.xl, 2), (a.xo, 3), (a.xp, 4), (a.xm, 5)]
def eHear (a : Adr) : Ends → L2.St → XK := fun D _ c _ H => ∃ q ∈ hands4 a, c = .ref q.1 ∧ ∀ p, H p = none → D.rt (.ref p) (upd H p (.lst [.int (-q.2)]))
section
variable {P : Program} {w : World} {K : PySem.W.Frag} {mg : Str → Option Value} {base : Heap} {a : Adr}
theorem scHear : FnScope ["self", "now", "count", "most", "row"] ["self", "now", "count", "most", "row"] (defScope (inClass (top 71) 1)) := ⟨rfl, rfl, rfl, by decide +kernel, rfl, by decide +kernel, by decide +kernel⟩
theorem mt_hear (T : Txt K mg a) (d : Dif a) (N : Mis K a) : Mt P w K mg base a.cf "hear_line" 10 [] (spHear a) := T.hear_line.mt T.cf fun f fd dV Fd => by
  refine Fd.ok00 scHear (fun vs H Q E h => ?_) (fun cdv A outer s H vs Q E hr h => ?_)
  · obtain ⟨_, _, _, _, _, _, _, _, rfl, _⟩ := h
    rfl
  · obtain ⟨F, R, row, st, c, now, count, most, rfl, hR, hrow, hst, hc, q⟩ := h
    refine ⟨_, pss0_cons (ps_if (pw_or (pt_weak (t' := tOut 0 1024 2) (pt_not (pt_chain op_le op_le pe_int (pv 2) (pe_gi T.MOST_BYTES))) (fun _ _ _ z => out_weak z)) (pw_or1 (pt_weak (t' := tOut 512 1048576 3) (pt_not (pt_chain op_le op_le (pe_gi T.LEAST_ROOM) (pv 3) (pe_gi T.MOST_ROOM))) (fun _ _ _ z => out_weak z)))).pt
        (pss_one (ps_ret (pe_lst (pa_cons (pe_un un_neg pe_int) pa_nil)))) pss_nil)
      <| pss0_cons (ps_fld (pv 0) (pe_callB (call_max2 rfl) (by rfl) T.max bMax (pa_cons (pe_fld (pv 0) rfl) (pa_cons (pv 1) pa_nil))) rfl)
      <| pss0_one (ps0_try (E1 := eHear a) (t := fun E => tRet (tMeth a.cf "take_line" (spTL a) [] E (tVar 0) (tCons (tVar 4) tNil))) rfl rfl rfl ⟨_, rfl⟩
        (fun E1 => pss_one (ps_ret (pe_mt (mt_tl T d) (pv 0) hr passC (pa_cons (pv 4) pa_nil)))) ?hh), ?_⟩
    case hh =>
      rintro D σ0 σ C H' ⟨⟨C', v⟩, hm, e, q⟩
      cases e
      have ret : ∀ k : Int, v = k → tRet (tLst (tCons (tUn (rU fun i => V.int (-i)) (tC (.int k))) tNil)) D σ H' := fun k e => by
        subst e
        exact ⟨_, rfl, (by show 1 ≤ sizeLine; decide), fun p np => q p np⟩
      simp only [hands4, List.mem_cons, Prod.mk.injEq, List.not_mem_nil, or_false] at hm
      rcases hm with ⟨rfl, e⟩ | ⟨rfl, e⟩ | ⟨rfl, e⟩ | ⟨rfl, e⟩
      · exact ⟨_, .here (by rfl) T.xl.bound N.ll (by decide) (fun _ => pss_one (ps_ret (pe_lst (pa_cons (pe_un un_neg pe_int) pa_nil)))), ret 2 e⟩
      · exact ⟨_, .there (by rfl) T.xl.bound N.ol (by decide) (.here (by rfl) T.xo.bound N.oo (by decide) (fun _ => pss_one (ps_ret (pe_lst (pa_cons (pe_un un_neg pe_int) pa_nil))))), ret 3 e⟩
      · exact ⟨_, .there (by rfl) T.xl.bound N.pl (by decide) (.there (by rfl) T.xo.bound N.po (by decide) (.here (by rfl) T.xp.bound N.pp (by decide) (fun _ => pss_one (ps_ret (pe_lst (pa_cons (pe_un un_neg pe_int) pa_nil)))))), ret 4 e⟩
      · exact ⟨_, .there (by rfl) T.xl.bound N.ml (by decide) (.there (by rfl) T.xo.bound N.mo (by decide) (.there (by rfl) T.xp.bound N.mp (by decide) (.here (by rfl) T.xm.bound N.mm (by decide) (fun _ => pss_one (ps_ret (pe_lst (pa_cons (pe_un un_neg pe_int) pa_nil))))))), ret 5 e⟩
    obtain ⟨dx, W, S, es, hF, hW, he, hfl⟩ := id hst
    have bad : (¬ (0 ≤ count ∧ count ≤ 1024) ∨ ¬ (512 ≤ most ∧ most ≤ 1048576)) → tRet (tLst (tCons (tUn (rU fun i => V.int (-i)) (tC (.int 1))) tNil)) { nx := fun _ H' => Q .non H', rt := Q } (L2.start ["self", "now", "count", "most", "row"] [.ref F, .int (now : Int), .int count, .int most, .ref R]) H := fun e => by
      refine ⟨_, rfl, (by show 1 ≤ sizeLine; decide), fun p np => ?_⟩
      unfold hearS at q
      rw [if_pos e] at q
      exact q p _ (same_upd np).keepL ((hst.same (same_upd np)).up (by omega)) upd_same (by show 1 ≤ 667; decide)
    refine ⟨_, rfl, iteI (c := ¬ (0 ≤ count ∧ count ≤ 1024)) decide_eq_true_iff (fun e => iteT (bad (.inl e))) (fun e1 => ⟨_, rfl, iteI (c := ¬ (512 ≤ most ∧ most ≤ 1048576)) decide_eq_true_iff (fun e => bad (.inr e)) (fun e2 => ?_)⟩)⟩
    clear bad
    unfold hearS at q
    rw [if_neg (fun z => z.elim e1 e2)] at q
    refine ⟨_, rfl, F, a.cf, dx, _, _, rfl, hF, T.cf, T.f_time, fF_time, _, rfl, _, _, rfl, _, rfl, F, a.cf, dx, _, rfl, hF, T.cf, T.f_time, (by show 3 < 1000; decide), ?_⟩
    rw [fF_time']
    have em : (if ((now : Nat) : Int) > ((st.now : Nat) : Int) then ((now : Nat) : Int) else ((st.now : Nat) : Int)) = ((max st.now now : Nat) : Int) := by
      by_cases z : st.now < now
      · rw [if_pos (by omega), Nat.max_eq_right (by omega)]
      · rw [if_neg (by omega), Nat.max_eq_left (by omega)]
    rw [em]
    generalize hH1 : upd H F (.ins a.cf dx (fF (.int ((max st.now now : Nat) : Int)) (.ref W) (.ref S))) = H1
    have hF1 : H1 F = some (.ins a.cf dx (fF (.int ((max st.now now : Nat) : Int)) (.ref W) (.ref S))) := by rw [← hH1, upd_same]
    have k1 : KeepT a H H1 := fun b o n z => by rw [← hH1, upd_ne (fun y => by rw [y, hF] at z; cases z; exact n _ _ rfl)]; exact z
    have kl1 : KeepL H H1 := fun b o l z => k1 b o (fun _ _ y => by subst y; exact l) z
    clear hH1
    have hst1 : StateAt a H1 F { st with now := max st.now now } c := ⟨dx, W, S, es, hF1, hW.keepT d k1, he.keepT d k1, hfl⟩
    refine ⟨_, rfl, F, dx, _, rfl, hF1, fF_no (by decide +kernel) (by decide +kernel) (by decide +kernel), _, rfl, F, R, row, _, c, rfl, kl1 _ _ trivial hR, hrow, hst1, hc, ?_⟩
    generalize cameT { st with now := max st.now now } row = r at q
    obtain ⟨o, u⟩ := r
    have exc : ∀ (C : Addr) (v : Int), (C, v) ∈ hands4 a → outV o = [-v] → ∀ H', KeepL H1 H' → StateAt a H' F u (c + 23) → eHear a { nx := fun _ H' => Q .non H', rt := Q } (L2.start ["self", "now", "count", "most", "row"] [.ref F, .int (now : Int), .int count, .int most, .ref R]) (.ref C) none H' := fun C v hm ho H' k h2 =>
      ⟨(C, v), hm, rfl, fun p np => q p _ ((kl1.trans k).trans (same_upd np).keepL) (h2.same (same_upd np)) (by rw [upd_same]; show _ = some (HO.lst ((outV o).map V.int)); rw [ho]; rfl) (by show (outV o).length ≤ 667; rw [ho]; show 1 ≤ 667; decide)⟩
    cases o with
    | told id t => exact fun p H' k h2 h3 h4 => q p H' (kl1.trans k) h2 h3 h4
    | waits => exact fun p H' k h2 h3 h4 => q p H' (kl1.trans k) h2 h3 h4
    | form => exact exc a.xl 2 (by simp [hands4]) rfl
    | sum => exact exc a.xo 3 (by simp [hands4]) rfl
    | part => exact exc a.xp 4 (by simp [hands4]) rfl
    | message => exact exc a.xm 5 (by simp [hands4]) rfl
end
end Sr
namespace Sr
open PySem L2 Sh
def lineS (x : Sd37.Ship) : List Nat := lineOf x.id (told2 x.known)
def listS (st : Sd37.St) (most : Int) : List Int := if ¬ (0 ≤ most ∧ most ≤ 1048576) then [-1] else
  if most < ((st.ships.flatMap fun x => Sd37.line x.id x.known).length : Int) then [-6] else ((st.ships.flatMap fun x => Sd37.line x.id x.known).length : Int) :: Sd37Neutral.ints (st.ships.flatMap fun x => Sd37.line x.id x.known)
def spList (a : Adr) : Sp := fun vs H Q _ => ∃ (F : Addr) (st : Sd37.St) (c : Nat) (most : Int), vs = [.ref F, .int most] ∧ StateAt a H F st c ∧ ∀ p H', Same H H' → H' p = some (.lst ((listS st most).map V.int)) → Q (.ref p) H'
theorem flatMap_len_le {f : Sd37.Ship → List Nat} {k : Nat} : ∀ {l : List Sd37.Ship}, (∀ x ∈ l, (f x).length ≤ k) → (l.flatMap f).length ≤ k * l.length
  | [], _ => by simp
  | x :: r, h => by
    have h1 := flatMap_len_le fun y hy => h y (List.mem_cons_of_mem _ hy)
    have h2 := h x List.mem_cons_self
    rw [List.flatMap_cons, List.length_append, List.length_cons, Nat.mul_succ]
    omega
theorem Es.line {a : Adr} {H : Hp} {S : Addr} {es : List FE} {c : Nat} (h : Es a H S es c) {e : FE} (he : e ∈ es) : (lineS e.s).length ≤ 666 := by
  obtain ⟨dx, _, hk⟩ := h.at_ e he
  exact lineOf_len (id_len (h.ok e he).2) fun x _ v z => hk.len z
theorem Es.lines {a : Adr} {H : Hp} {S : Addr} {es : List FE} {c : Nat} (h : Es a H S es c) {ships : List Sd37.Ship} (f : Fleet (es.map (·.s)) ships) : (ships.flatMap fun x => Sd37.line x.id x.known) = ships.flatMap lineS ∧ ∀ x ∈ ships, ∃ e ∈ es, e.s = x := by
  have mem : ∀ x ∈ ships, ∃ e ∈ es, e.s = x := fun x hx => by
    obtain ⟨e, he, z⟩ := List.mem_map.mp (f.perm.mem_iff.mpr hx)
    exact ⟨e, he, z⟩
  refine ⟨?_, mem⟩
  have : ∀ (l : List Sd37.Ship), (∀ x ∈ l, x ∈ ships) → (l.flatMap fun x => Sd37.line x.id x.known) = l.flatMap lineS := fun l => by
    induction l with
    | nil => intro _; rfl
    | cons x r ih =>
      intro hl
      rw [List.flatMap_cons, List.flatMap_cons, ih fun y hy => hl y (List.mem_cons_of_mem _ hy)]
      obtain ⟨e, he, z⟩ := mem x (hl x List.mem_cons_self)
      subst z
      rw [line_eq (h.ok e he).1]
      rfl
  exact this ships fun x hx => hx
section
variable {P : Program} {w : World} {K : PySem.W.Frag} {mg : Str → Option Value} {base : Heap} {a : Adr}
theorem scList : FnScope ["self", "most", "lines", "number"] ["self", "most"] (defScope (inClass (top 71) 5)) := ⟨rfl, rfl, rfl, by decide +kernel, rfl, by decide +kernel, by decide +kernel⟩
theorem mt_list (T : Txt K mg a) : Mt P w K mg base a.cf "list_ships" 4 [] (spList a) := T.list_ships.mt T.cf fun f fd dV Fd => by
  refine Fd.ok0 scList (fun vs H Q E h => ?_) (fun cdv A outer s H vs Q E hr h => ?_)
  · obtain ⟨_, _, _, _, rfl, _⟩ := h
    rfl
  · obtain ⟨F, st, c, most, rfl, hst, q⟩ := h
    have hu := hu_of hr
    refine ⟨_, pss_cons (ps_if (pt_weak (t' := tOut 0 1048576 1) (pt_not (pt_chain op_le op_le pe_int (pv 1) (pe_gi T.MOST_ROOM))) (fun _ _ _ z => out_weak z)) (pss_one (ps_ret (pe_lst (pa_cons (pe_un un_neg pe_int) pa_nil)))) pss_nil)
      <| pss_cons (ps_set (i := 2) scList.nd rfl (Or.inl rfl) (pe_lst pa_nil))
      <| pss_cons (ps_for PassesOwn.never rfl (pi_list (pe_callB (call_sortedD rfl) (by rfl) T.sorted bSor (pa_cons (pe_fld (pv 0) rfl) pa_nil))) (pg_name (i := 3) scList.nd rfl (Or.inl rfl))
          (pss_one (ps_expr (pe_bm PySem.F.plainAttrs_list PySem.F.slot_list_extend PySem.F.type_list_extend mt_extend (pv 2) (pa_cons (pe_fn (fn_line T) hr passE (pa_cons (pv 3) (pa_cons (pe_fld (pe_dget hu (pe_fld (pv 0) rfl) (pv 3) (fun _ _ => rfl)) rfl) pa_nil))) pa_nil)))))
      <| pss_cons (ps_if (pt_cmpR op_gt (pe_callB call_len_seq (by rfl) T.len bLen (pa_cons (pv 2) pa_nil)) (pv 1) (nomark _)) (pss_one (ps_ret (pe_lst (pa_cons (pe_un un_neg pe_int) pa_nil)))) pss_nil)
      <| pss_one (ps_ret (pe_op op_cat (pe_lst (pa_cons (pe_callB call_len_seq (by rfl) T.len bLen (pa_cons (pv 2) pa_nil)) pa_nil)) (pv 2))), ?_⟩
    obtain ⟨dx, W, S, es, hF, hW, he, hfl⟩ := id hst
    obtain ⟨hlines, hmem⟩ := he.lines hfl
    unfold listS at q
    rw [hlines] at q
    refine ⟨_, rfl, iteI (c := ¬ (0 ≤ most ∧ most ≤ 1048576)) decide_eq_true_iff (fun e => ?_) (fun e => ?_)⟩
    · rw [if_pos e] at q
      exact ⟨_, rfl, (by show 1 ≤ sizeLine; decide), fun p np => q p _ (same_upd np) upd_same⟩
    rw [if_neg e] at q
    refine ⟨(by show 0 ≤ sizeLine; decide), fun L hL => ?_⟩
    have s0 := same_upd (o := .lst []) hL
    refine ⟨_, rfl, F, a.cf, dx, _, _, rfl, s0 _ _ hF, T.cf, T.f_ships, fF_ships, S, es.map (fun e => (e.s.id : Int)), skv es, rfl, s0 _ _ he.dict, (by simp [skv]), fun p ms np perm pw => ?_⟩
    have ems : ms = st.ships.map fun x => (x.id : Int) := by
      refine List.Perm.eq_of_pairwise (le := (· ≤ ·)) (fun x y _ _ h1 h2 => Int.le_antisymm h1 h2) pw ?_ (perm.trans ?_)
      · rw [List.pairwise_map]
        exact hfl.sorted.imp fun z => by omega
      · have := hfl.perm.map fun x : Sd37.Ship => (x.id : Int)
        rw [List.map_map] at this
        exact this
    subst ems
    have hp0 : H p = none := s0.free np
    have nLp : L ≠ p := ne_of_none upd_same np
    have hll : ∀ i, ((st.ships.take i).flatMap lineS).length ≤ 170496 := fun i => by
      have h1 := flatMap_len_le (f := lineS) (k := 666) (l := st.ships.take i) fun x hx => by
        obtain ⟨e, he', z⟩ := hmem x (List.mem_of_mem_take hx)
        rw [← z]
        exact he.line he'
      have h2 := hfl.few
      rw [List.length_take] at h1
      omega
    refine ⟨p, rfl, ⟨_, SqL.of upd_same⟩, for_list (K := K) (a := p) (xs := (st.ships.map fun x => (x.id : Int)).map V.int)
      (fun i σ H' => ∃ v : Option V, σ = [some (.ref F), some (.int most), some (.ref L), v] ∧ Same H H' ∧ H' p = some (.lst ((st.ships.map fun x => (x.id : Int)).map V.int)) ∧ H' L = some (.lst (vI ((st.ships.take i).flatMap lineS))))
      ⟨none, rfl, s0.trans (same_upd np), upd_same, upd_at upd_same np⟩ (fun i σ H' _ ⟨_, _, _, h, _⟩ => SqL.of h) ?_ ?_⟩
    · rintro i y σ H' hy ⟨v, rfl, s1, h1, h2⟩
      obtain ⟨x, hx, rfl⟩ : ∃ x, st.ships[i]? = some x ∧ y = V.int (x.id : Int) := by
        rw [List.getElem?_map, List.getElem?_map] at hy
        cases e2 : st.ships[i]? with
        | none => rw [e2] at hy; cases hy
        | some x => rw [e2] at hy; exact ⟨x, rfl, (Option.some.inj hy).symm⟩
      obtain ⟨e2, he2, rfl⟩ := hmem x (List.mem_of_getElem? hx)
      obtain ⟨dxe, hpe, hke⟩ := he.at_ e2 he2
      have hv : valV (skv es) (Sum.inl (e2.s.id : Int)) = some (.ref e2.p) := by
        rw [valV_skv]
        cases e3 : es.find? (fun e => decide (e.s.id = e2.s.id)) with
        | none =>
          have := List.find?_eq_none.mp e3 e2 he2
          simp at this
        | some y =>
          have : y = e2 := one_id he.ids (List.mem_of_find?_eq_some e3) he2 (by simpa using List.find?_some e3)
          rw [this]
          rfl
      have et : st.ships.take (i + 1) = st.ships.take i ++ [e2.s] := by rw [List.take_add_one, hx]; rfl
      refine ⟨_, rfl, .inl ⟨rfl, _, SqL.of h2⟩, _, rfl, _, rfl, F, a.cf, dx, _, _, rfl, s1 _ _ hF, T.cf, T.f_ships, fF_ships, _, rfl, S, _, rfl, DGetkv (k := Sum.inl (e2.s.id : Int)) (s1 _ _ he.dict) hv, e2.p, a.ch, dxe, _, _, rfl, s1 _ _ hpe, T.ch, T.h_known, fH_known,
        e2.s.id, e2.k, told2 e2.s.known, c, rfl, (he.ok e2 he2).2, hke.mono s1, fun r H3 nr s3 h3 => ?_⟩
      have h2' := s3 _ _ h2
      have nLr : L ≠ r := fun z => by rw [z] at h2; rw [h2] at nr; cases nr
      refine ⟨L, r, _, _, rfl, rfl, h2', h3, ?_, _, rfl, ?_, ?_, ?_⟩
      · have := hll (i + 1)
        rw [et, List.flatMap_append, List.length_append, List.flatMap_cons, List.flatMap_nil, List.append_nil] at this
        have this : ((st.ships.take i).flatMap lineS).length + (lineOf e2.s.id (told2 e2.s.known)).length ≤ 170496 := this
        rw [vI_len, vI_len]
        exact sl (m := 170496) this
      · exact fun b o z => by
          rw [upd_ne (ne_of_none z hL)]
          exact s3 _ _ (s1 _ _ z)
      · rw [upd_ne nLp.symm]; exact s3 _ _ h1
      · rw [upd_same, et, List.flatMap_append]
        simp [lineS]
    · rintro σ H' ⟨v, rfl, s1, h1, h2⟩
      rw [List.length_map, List.length_map, List.take_length] at h2
      have hl := hll st.ships.length
      rw [List.take_length] at hl
      refine ⟨_, rfl, L, _, rfl, .inl (SqL.of h2), _, rfl, _, _, rfl, rfl, _, rfl, ?_⟩
      rw [vI_len]
      refine iteI (c := most < ((st.ships.flatMap lineS).length : Int)) decide_eq_true_iff (fun e2 => ?_) (fun e2 => ?_)
      · rw [if_pos e2] at q
        exact ⟨_, rfl, (by show 1 ≤ sizeLine; decide), fun r nr => q r _ (s1.trans (same_upd nr)) upd_same⟩
      · rw [if_neg e2] at q
        refine ⟨_, rfl, L, _, rfl, .inl (SqL.of h2), (by show 1 ≤ sizeLine; decide), fun p1 n1 => ⟨_, rfl, p1, L, _, _, rfl, rfl, upd_same, upd_at h2 n1, ?_, fun p2 n2 => ?_⟩⟩
        · simp only [vI_len, List.length_cons, List.length_nil]
          exact sl (m := 170497) (by omega)
        refine q p2 _ ((s1.trans (same_upd n1)).trans (same_upd n2)) ?_
        rw [upd_same, vI_len, vI_ints]
        rfl
end
end Sr
namespace Sr
open PySem L2 Sh
theorem step_list (st : Sd37.St) (most : Int) : Sd37Neutral.step st [[2, most]] = (st, listS st most) := by
  show ((Sd37.step st (.list most)).1, (Sd37.step st (.list most)).2.1 :: Sd37Neutral.ints (Sd37.step st (.list most)).2.2) = _
  unfold Sd37.step listS Sd37.ROOM
  dsimp only
  by_cases h : most < 0 ∨ 1048576 < most
  · rw [if_pos h, if_pos (show ¬ (0 ≤ most ∧ most ≤ 1048576) by omega)]
    rfl
  · rw [if_neg h, if_neg (show ¬ ¬ (0 ≤ most ∧ most ≤ 1048576) by omega)]
    by_cases h2 : most < ((st.ships.flatMap fun x => Sd37.line x.id x.known).length : Int)
    · rw [if_pos h2, if_pos h2]
      rfl
    · rw [if_neg h2, if_neg h2]
theorem step_line (st : Sd37.St) (now n most : Int) (b : List Int) : Sd37Neutral.step st [[1, now, n, most], b] = hearS st now.toNat n most (Sd37Neutral.nats b) := by
  show ((Sd37.step st (.line (if 0 ≤ n ∧ n ≤ 1024 then some (Sd37Neutral.nats b) else none) now.toNat most)).1, (Sd37.step st (.line (if 0 ≤ n ∧ n ≤ 1024 then some (Sd37Neutral.nats b) else none) now.toNat most)).2.1 :: Sd37Neutral.ints (Sd37.step st (.line (if 0 ≤ n ∧ n ≤ 1024 then some (Sd37Neutral.nats b) else none) now.toNat most)).2.2) = _
  unfold hearS
  by_cases h : 0 ≤ n ∧ n ≤ 1024
  · rw [if_pos h]
    unfold Sd37.step Sd37.ROOM
    dsimp only
    by_cases h2 : most < 512 ∨ 1048576 < most
    · rw [if_pos h2, if_pos (.inr (by omega))]
      rfl
    · rw [if_neg h2, if_neg (fun z => z.elim (fun y => y h) fun y => y (by omega)), came_eq]
      generalize cameT { st with now := max st.now now.toNat } (Sd37Neutral.nats b) = r
      obtain ⟨o, u⟩ := r
      cases o <;> rfl
  · rw [if_neg h, if_pos (.inl h)]
    rfl
theorem put_len (x : Sd37.Ship) : ∀ l : List Sd37.Ship, (Sd37.put x l).length ≤ l.length + 1
  | [] => by simp [Sd37.put]
  | y :: r => by
    unfold Sd37.put
    split
    · simp
    · split
      · simp
      · have := put_len x r
        simp
        omega
theorem heard_len (s : Sd37.St) (id : Nat) (t : Sd37.Told) : (Sd37.heard s id t).ships.length ≤ s.ships.length + 1 := by
  unfold Sd37.heard
  cases s.ships.find? (fun x => x.id == id) with
  | some x => exact put_len _ _
  | none =>
    dsimp only
    refine Nat.le_trans (put_len _ _) ?_
    split
    · cases Sd37.oldest s.ships with
      | some o =>
        dsimp only
        have := List.length_filter_le (fun x : Sd37.Ship => x.id != o.id) s.ships
        omega
      | none => exact Nat.le_refl _
    · exact Nat.le_refl _
theorem message_len (s : Sd37.St) (b : List Bool) : (Sd37.message s b).2.ships.length ≤ s.ships.length + 1 := by
  rw [message_eq]
  cases mMsg b with
  | none => exact Nat.le_succ _
  | some t => exact heard_len _ _ _
theorem taken_len (s : Sd37.St) (x : Sd37.Sentence) : (Sd37.taken s x).2.ships.length ≤ s.ships.length + 1 := by
  unfold Sd37.taken
  dsimp only
  split
  · exact message_len _ _
  · split
    · exact Nat.le_succ _
    · split
      · exact Nat.le_succ _
      · split
        · exact Nat.le_succ _
        · split
          · exact Nat.le_succ _
          · exact message_len _ _
theorem hear_len (st : Sd37.St) (now : Nat) (n most : Int) (row : List Nat) : (hearS st now n most row).1.ships.length ≤ st.ships.length + 1 := by
  unfold hearS
  split
  · exact Nat.le_succ _
  · dsimp only
    unfold cameT
    cases readS row with
    | error e => cases e <;> exact Nat.le_succ _
    | ok x => exact taken_len _ _
abbrev Call := List (List Int)
def playS (s : Sd37.St) (cs : List Call) : Sd37.St := cs.foldl (fun s c => (Sd37Neutral.step s c).1) s
def toldS (s : Sd37.St) (cs : List Call) : List Int := PyFlat.told (PyFlat.played Sd37Neutral.step s cs)
theorem played_snoc (s : Sd37.St) (cs : List Call) (c : Call) : PyFlat.played Sd37Neutral.step s (cs ++ [c]) = PyFlat.played Sd37Neutral.step s cs ++ [(Sd37Neutral.step (playS s cs) c).2] := by
  induction cs generalizing s with
  | nil => rfl
  | cons x r ih =>
    show (Sd37Neutral.step s x).2 :: PyFlat.played Sd37Neutral.step (Sd37Neutral.step s x).1 (r ++ [c]) = _
    rw [ih]
    rfl
theorem toldS_snoc (s : Sd37.St) (cs : List Call) (c : Call) : toldS s (cs ++ [c]) = toldS s cs ++ (((Sd37Neutral.step (playS s cs) c).2.length : Int) :: (Sd37Neutral.step (playS s cs) c).2) := by
  unfold toldS PyFlat.told
  rw [played_snoc, List.flatMap_append]
  simp
theorem playS_snoc (s : Sd37.St) (cs : List Call) (c : Call) : playS s (cs ++ [c]) = (Sd37Neutral.step (playS s cs) c).1 := by simp [playS]
theorem prod300 : ∀ a < 301, a * (300 - a) ≤ 22500 := by decide
theorem bound300 {a b t : Nat} (h : a + b ≤ 300) (ht : t ≤ a * 669 + b * (2 + 666 * a)) : t ≤ 15200000 := by
  have h1 := prod300 a (by omega)
  have h2 : a * b ≤ a * (300 - a) := Nat.mul_le_mul_left _ (by omega)
  have h3 : b * (2 + 666 * a) = 2 * b + 666 * (a * b) := by
    rw [Nat.mul_add, Nat.mul_comm b 2, Nat.mul_comm a b, Nat.mul_left_comm]
  omega
theorem enc_len {c : Call} (h : OkC c) : 0 < (encC c).length := by
  rcases h with ⟨now, n, most, b, rfl⟩ | ⟨most, rfl⟩ <;> simp [encC]
theorem sql_keepL {K : PySem.W.Frag} {H H' : Hp} {a : Addr} {xs : List V} (k : KeepL H H') (h : SqL K H a xs) : SqL K H' a xs := by
  rcases h with (h | ⟨o, h⟩) | h
  · exact .inl (.inl (k _ _ trivial h))
  · exact .inl (.inr ⟨o, k _ _ trivial h⟩)
  · exact .inr h
theorem nats_ints {b : List Int} (h : b.all (fun z => Sd37Neutral.natural z 8) = true) : vI (Sd37Neutral.nats b) = b.map V.int := by
  unfold Sd37Neutral.nats
  rw [vI, List.map_map]
  apply List.map_congr_left
  intro z hz
  have := List.all_eq_true.mp h z hz
  unfold Sd37Neutral.natural at this
  simp only [Bool.and_eq_true, decide_eq_true_eq] at this
  show V.int ((z.toNat : Nat) : Int) = V.int z
  congr 1
  omega
def bnd (cl : Call) (n : Nat) : Nat := match cl with
  | [[_, _]] => 1 + 666 * n
  | _ => 667
def KeepN (H H' : Hp) : Prop := ∀ b o, (∀ x u, o ≠ .frz x u) → H b = some o → H' b = some o
theorem KnownAt.keepN {H H' : Hp} {d : Addr} {g : String → Option (List Nat)} {c : Nat} (h : KnownAt H d g c) (k : KeepN H H') : KnownAt H' d g c := by
  obtain ⟨kvs, h1, h2, h3⟩ := h
  exact ⟨kvs, k _ _ (fun _ _ z => nomatch z) h1, h2, fun x => (h3 x).mono fun p l z => k _ _ (fun _ _ z => nomatch z) z⟩
theorem StateAt.keepN {a : Adr} {H H' : Hp} {F : Addr} {st : Sd37.St} {c : Nat} (h : StateAt a H F st c) (k : KeepN H H') : StateAt a H' F st c := by
  obtain ⟨dx, W, S, es, h1, ⟨dxw, G, zs, e, w1, w2, w3⟩, h3, h4⟩ := h
  refine ⟨dx, W, S, es, k _ _ (fun _ _ z => nomatch z) h1, ⟨dxw, G, zs, e, k _ _ (fun _ _ z => nomatch z) w1, k _ _ (fun _ _ z => nomatch z) w2, ⟨fun z hz => ?_, w3.nd, w3.keys, w3.few, w3.ok⟩⟩, ⟨k _ _ (fun _ _ z => nomatch z) h3.dict, fun y hy => ?_, h3.ndp, h3.ndk, h3.sk, h3.ids, h3.few, h3.ok⟩, h4⟩
  · obtain ⟨dxb, B, b1, b2⟩ := w3.at_ z hz
    exact ⟨dxb, B, k _ _ (fun _ _ z => nomatch z) b1, k _ _ (fun _ _ z => nomatch z) b2⟩
  · obtain ⟨dxe, e1, e2⟩ := h3.at_ y hy
    exact ⟨dxe, k _ _ (fun _ _ z => nomatch z) e1, e2.keepN k⟩
theorem keepN_upd {H : Hp} {p : Addr} {x : Obj} {u o : HO} (h : H p = some (.frz x u)) : KeepN H (upd H p o) := fun b v n e => by
  rw [upd_ne (fun z => by rw [z, h] at e; cases e; exact n _ _ rfl)]
  exact e
def tStep (a : Adr) (K : PySem.W.Frag) : TS := fun D σ H => ∃ (Ca F An : Addr) (pre post : List Int) (cl : Call) (st : Sd37.St) (c : Nat) (L : List V) (v4 v5 : Option V), σ = [some (.ref Ca), some (.ref F), some (.ref An), some (.int (pre.length : Int)), v4, v5] ∧ H An = some (.lst L) ∧ SqL K H Ca ((pre ++ (encC cl ++ post)).map V.int) ∧
  (∀ o, SqL K (upd H An o) Ca ((pre ++ (encC cl ++ post)).map V.int)) ∧ OkC cl ∧ Sd37Neutral.asked1 cl = true ∧ (∀ od, StateAt a (upd H An (.frz od (.lst L))) F st c) ∧ c ≤ 100000 ∧
  ∀ od p H2, KeepL (upd H An (.frz od (.lst L))) H2 → StateAt a H2 F (Sd37Neutral.step st cl).1 (c + 23) → H2 p = some (.lst ((Sd37Neutral.step st cl).2.map V.int)) → (Sd37Neutral.step st cl).2.length ≤ bnd cl st.ships.length →
    D.nx [some (.ref Ca), some (.ref F), some (.ref An), some (.int (pre.length : Int)), some (.int ((pre.length + (encC cl).length : Nat) : Int)), some (.ref p)] (upd H2 An (.lst L))
def spAns (K : PySem.W.Frag) : Sp := fun vs H Q _ => ∃ (Ca : Addr) (ns : List Int), vs = [.ref Ca] ∧ SqL K H Ca (ns.map V.int) ∧ PySd37.answers_asked ns = true ∧ ∀ p H', H' p = some (.lst ((PySd37.answers ns).map V.int)) → Q (.ref p) H'
theorem at_pre {pre post : List Int} {i : Nat} {x : Int} {z : Int} (e : z = ((pre.length + i : Nat) : Int)) (h : post[i]? = some x) : atI ((pre ++ post).map V.int) z = some (V.int x) := by
  refine at_of e ?_
  rw [List.getElem?_map, List.getElem?_append_right (by omega), Nat.add_sub_cancel_left, h]
  rfl
section
variable {P : Program} {w : World} {K : PySem.W.Frag} {mg : Str → Option Value} {base : Heap} {a : Adr}
theorem scAns : FnScope ["calls", "ships", "answered", "at", "end", "answer"] ["calls"] (defScope (top 72)) := ⟨rfl, rfl, rfl, by decide +kernel, rfl, by decide +kernel, by decide +kernel⟩
theorem ok_answers (T : Txt K mg a) (d : Dif a) (N : Mis K a) {f : Addr} {fd : FuncData} (Fd : FunD K "answers" "answers" (top 72) .none f fd) : FnOk P w K mg base (CX1 P w) 11 f fd ["calls"] (spAns K) := by
  refine Fd.ok0 scAns (fun vs H Q E h => ?_) (fun cdv A outer s H vs Q E hr h => ?_)
  · obtain ⟨_, _, rfl, _⟩ := h
    rfl
  · obtain ⟨Ca, ns, rfl, hCa, hask, q⟩ := h
    obtain ⟨cs, hlen, hcs, hns, hans⟩ := answers_calls hask
    rw [hans] at q
    have hr4 := hr.mono (show 4 ≤ 10 by decide)
    refine ⟨_, pss_cons (ps_set (i := 1) scAns.nd rfl (Or.inl rfl) (pe_mk0 (mk_ships T) hr4 passE))
      <| pss_cons (ps_set (i := 2) scAns.nd rfl (Or.inl rfl) (pe_lst pa_nil))
      <| pss_cons (ps_set (i := 3) scAns.nd rfl (Or.inl rfl) pe_int)
      <| pss_cons (ps_while PassesOwn.never (pt_cmpR op_lt (pv 3) (pe_callB call_len_seq (by rfl) T.len bLen (pa_cons (pv 0) pa_nil)) (nomark _))
          (pss_cons (ps_weak (t' := tStep a K) (ps_if (pt_cmpR op_eq (pe_ix ix_list (pv 0) (pv 3) (fun _ _ => rfl)) (pe_gi T.LINE_CALL) (nomark _))
              (pss_cons (ps_set (i := 4) scAns.nd rfl (Or.inl rfl) (pe_op op_add (pe_op op_add (pv 3) pe_int) (pe_ix ix_list (pv 0) (pe_op op_add (pv 3) pe_int) (fun _ _ => rfl))))
                (pss_one (ps_set (i := 5) scAns.nd rfl (Or.inl rfl) (pe_lock (pe_mt (mt_hear T d N) (pv 1) hr passE (pa_cons (pe_ix ix_list (pv 0) (pe_op op_add (pv 3) pe_int) (fun _ _ => rfl)) (pa_cons (pe_ix ix_list (pv 0) (pe_op op_add (pv 3) pe_int) (fun _ _ => rfl)) (pa_cons (pe_ix ix_list (pv 0) (pe_op op_add (pv 3) pe_int) (fun _ _ => rfl))
                  (pa_cons (pe_slice sl_list (pv 0) (po_some (pe_op op_add (pv 3) pe_int)) (po_some (pv 4))) pa_nil)))))))))
              (pss_cons (ps_set (i := 4) scAns.nd rfl (Or.inl rfl) (pe_op op_add (pv 3) pe_int))
                (pss_one (ps_set (i := 5) scAns.nd rfl (Or.inl rfl) (pe_lock (pe_mt (mt_list T) (pv 1) hr4 passE (pa_cons (pe_ix ix_list (pv 0) (pe_op op_add (pv 3) pe_int) (fun _ _ => rfl)) pa_nil))))))) ?st)
          <| pss_cons (ps_expr (pe_bm PySem.F.plainAttrs_list PySem.F.slot_list_append PySem.F.type_list_append mt_append (pv 2) (pa_cons (pe_callB call_len_seq (by rfl) T.len bLen (pa_cons (pv 5) pa_nil)) pa_nil)))
          <| pss_cons (ps_expr (pe_bm PySem.F.plainAttrs_list PySem.F.slot_list_extend PySem.F.type_list_extend mt_extend (pv 2) (pa_cons (pv 5) pa_nil)))
          <| pss_one (ps_set (i := 3) scAns.nd rfl (Or.inl rfl) (pv 4))))
      <| pss_one (ps_ret (pv 2)), ?_⟩
    case st =>
      rintro D σ H' ⟨Ca, F, An, pre, post, cl, st, c, L, v4, v5, rfl, hAn, hCa, hCaU, hok, hask, hst, hc, q⟩
      have e0 : (pre.length : Int) = ((pre.length + 0 : Nat) : Int) := rfl
      rcases hok with ⟨now, n, most, b, rfl⟩ | ⟨most, rfl⟩
      · rw [step_line] at q
        have en : encC [[1, now, n, most], b] = [1, now, n, most, (b.length : Int)] ++ b := rfl
        rw [en] at hCa hCaU q
        have ge : ∀ (i : Nat) (x : Int), ([1, now, n, most, (b.length : Int)] ++ b ++ post)[i]? = some x → ∀ z : Int, z = ((pre.length + i : Nat) : Int) → atI ((pre ++ ([1, now, n, most, (b.length : Int)] ++ b ++ post)).map V.int) z = some (V.int x) := fun i x h z hz => at_pre hz h
        unfold Sd37Neutral.asked1 at hask
        simp only [Bool.and_eq_true] at hask
        obtain ⟨a1, a2, a3, a4, a5⟩ := hask
        unfold Sd37Neutral.natural at a1
        unfold Sd37Neutral.long at a5
        simp only [Bool.and_eq_true, decide_eq_true_eq] at a1 a5
        have hnow : ((now.toNat : Nat) : Int) = now := by omega
        have hbl : b.length ≤ 1024 := by
          split at a5 <;> omega
        refine ⟨_, rfl, _, rfl, Ca, _, _, V.int 1, rfl, rfl, hCa, ge 0 1 rfl _ e0, rfl, _, rfl, iteT ?_⟩
        refine ⟨_, rfl, _, _, rfl, rfl, _, rfl, _, rfl, _, _, rfl, rfl, Ca, _, _, _, rfl, rfl, hCa, ge 4 (b.length : Int) rfl _ (by omega), _, _, rfl, rfl, ?_⟩
        refine ⟨An, _, hAn, trivial, fun od => ?_⟩
        have hCa1 := hCaU (.frz od (.lst L))
        have hst1 := hst od
        obtain ⟨dx, W, S, es, hF, _⟩ := id hst1
        refine ⟨_, rfl, F, dx, _, rfl, hF, fF_no (by decide +kernel) (by decide +kernel) (by decide +kernel), _, rfl, _, rfl, _, _, rfl, rfl, Ca, _, _, _, rfl, rfl, hCa1, ge 1 now rfl _ (by omega), _, rfl, _, rfl, _, _, rfl, rfl, Ca, _, _, _, rfl, rfl, hCa1, ge 2 n rfl _ (by omega), _, rfl, _, rfl, _, _, rfl, rfl, Ca, _, _, _, rfl, rfl, hCa1, ge 3 most rfl _ (by omega),
          _, rfl, _, rfl, _, _, rfl, rfl, _, rfl, _, rfl, _, rfl, Ca, _, rfl, hCa1, fun R nR => ?_⟩
        have ecut : cutV ((pre ++ ([1, now, n, most, (b.length : Int)] ++ b ++ post)).map V.int) (some ((pre.length : Int) + 5)) (some ((pre.length : Int) + 5 + (b.length : Int))) = vI (Sd37Neutral.nats b) := by
          have z1 : (pre.length : Int) + 5 = ((pre.length + 5 : Nat) : Int) := by omega
          have z2 : (pre.length : Int) + 5 + (b.length : Int) = ((pre.length + 5 + b.length : Nat) : Int) := by omega
          rw [z2, z1, cut_mid, nats_ints a4, ← List.map_drop, ← List.map_take]
          congr 1
          have z3 : pre ++ ([1, now, n, most, (b.length : Int)] ++ b ++ post) = (pre ++ [1, now, n, most, (b.length : Int)]) ++ (b ++ post) := by simp
          rw [z3, List.drop_left' (by simp), show pre.length + 5 + b.length - (pre.length + 5) = b.length by omega, List.take_left' rfl]
        refine ⟨F, R, Sd37Neutral.nats b, st, c, now.toNat, n, most, by rw [hnow]; rfl, ?_, by simpa [Sd37Neutral.nats] using hbl, hst1.same (same_upd nR), hc, fun p H2 k2 h2 h3 h4 => ?_⟩
        · rw [upd_same]
          exact congrArg (fun q => some (HO.lst q)) ecut
        · have kl2 := (same_upd nR).keepL.trans k2
          refine ⟨kl2 An (.frz od (.lst L)) trivial upd_same, ?_⟩
          have := q od p H2 kl2 h2 h3 h4
          have z4 : ((pre.length + ([1, now, n, most, (b.length : Int)] ++ b).length : Nat) : Int) = (pre.length : Int) + 5 + (b.length : Int) := by
            simp only [List.length_append, List.length_cons, List.length_nil]
            omega
          rw [z4] at this
          exact this
      · rw [step_list] at q
        have en : encC [[2, most]] = [2, most] := rfl
        rw [en] at hCa hCaU q
        refine ⟨_, rfl, _, rfl, Ca, _, _, V.int 2, rfl, rfl, hCa, at_pre e0 rfl, rfl, _, rfl, iteF ?_⟩
        refine ⟨_, rfl, _, _, rfl, rfl, ?_⟩
        refine ⟨An, _, hAn, trivial, fun od => ?_⟩
        have hCa1 := hCaU (.frz od (.lst L))
        have hst1 := hst od
        obtain ⟨dx, W, S, es, hF, _, he, hfl⟩ := id hst1
        refine ⟨_, rfl, F, dx, _, rfl, hF, fF_no (by decide +kernel) (by decide +kernel) (by decide +kernel), _, rfl, _, rfl, _, _, rfl, rfl, Ca, _, _, _, rfl, rfl, hCa1, at_pre (i := 1) (x := most) (by omega) rfl, F, st, c, most, rfl, hst1, fun p H2 s2 h2 => ?_⟩
        refine ⟨s2 An (.frz od (.lst L)) upd_same, ?_⟩
        refine q od p H2 s2.keepL ((hst1.same s2).up (by omega)) h2 ?_
        show _ ≤ 1 + 666 * st.ships.length
        obtain ⟨hl1, hl2⟩ := he.lines hfl
        have hl3 := flatMap_len_le (f := lineS) (k := 666) (l := st.ships) fun x hx => by
          obtain ⟨e, he', z⟩ := hl2 x hx
          rw [← z]
          exact he.line he'
        show (listS st most).length ≤ _
        unfold listS
        rw [hl1]
        split
        · simp
        · split
          · simp
          · simp [Sd37Neutral.ints] at hl3 ⊢
            omega
    intro F dx nF ndx nex
    refine ⟨F, dx, rfl, upd_same, fun H1 k1 h1 => ⟨rfl, ?_⟩⟩
    have s1 : Same H H1 := k1.of nF fun b o e => by rw [upd_ne (ne_of_none e nF), upd_ne (ne_of_none e ndx)]; exact e
    refine ⟨(by show 0 ≤ sizeLine; decide), fun An nAn => ?_⟩
    have s2 := s1.trans (same_upd (o := .lst []) nAn)
    have keepCa : ∀ (H2 : Hp) (o : HO), SqL K H2 Ca (ns.map V.int) → SqL K (upd H2 An o) Ca (ns.map V.int) := by
      rcases hCa with (z | ⟨x, z⟩) | z
      · have n : Ca ≠ An := ne_of_none (s1 _ _ z) nAn
        intro H2 o y
        rcases y with (y | ⟨x, y⟩) | y
        · exact .inl (.inl (by rw [upd_ne n]; exact y))
        · exact .inl (.inr ⟨x, by rw [upd_ne n]; exact y⟩)
        · exact .inr y
      · have n : Ca ≠ An := ne_of_none (s1 _ _ z) nAn
        intro H2 o y
        rcases y with (y | ⟨x, y⟩) | y
        · exact .inl (.inl (by rw [upd_ne n]; exact y))
        · exact .inl (.inr ⟨x, by rw [upd_ne n]; exact y⟩)
        · exact .inr y
      · exact fun H2 o _ => .inr z
    refine ⟨fun m σ H' => ∃ (done rest : List Call) (v4 v5 : Option V) (nl ni : Nat), m = rest.length ∧ cs = done ++ rest ∧ σ = [some (.ref Ca), some (.ref F), some (.ref An), some (.int ((done.flatMap encC).length : Int)), v4, v5] ∧ SqL K H' Ca (ns.map V.int) ∧
        (∀ od u, StateAt a (upd H' An (.frz od u)) F (playS Sd37Neutral.start done) (23 * done.length)) ∧ H' An = some (.lst ((toldS Sd37Neutral.start done).map V.int)) ∧ nl + ni = done.length ∧ (playS Sd37Neutral.start done).ships.length ≤ nl ∧ (toldS Sd37Neutral.start done).length ≤ nl * 669 + ni * (2 + 666 * nl),
      ⟨_, [], cs, none, none, 0, 0, rfl, rfl, rfl, s2.seq hCa, fun od u => ?_, upd_same, rfl, Nat.le_refl _, Nat.le_refl _⟩, ?_⟩
    · rw [upd_upd]
      exact h1.same (same_upd nAn)
    rintro m σ H' ⟨done, rest, v4, v5, nl, ni, rfl, hsplit, rfl, hCa', hst, hAn, hnn, hsh, htl⟩
    have hdl : done.length + rest.length ≤ 300 := by
      have := hlen
      rw [hsplit, List.length_append] at this
      exact this
    refine ⟨_, rfl, _, rfl, Ca, _, rfl, .inl hCa', _, _, rfl, rfl, _, rfl, ?_⟩
    rw [List.length_map]
    cases rest with
    | nil =>
      rw [List.append_nil] at hsplit
      subst hsplit
      rw [← hns]
      refine iteI (c := False) (by simp) (fun z => z.elim) (fun _ => ⟨_, rfl, q An H' hAn⟩)
    | cons cl rest =>
      have hcl := hcs cl (by rw [hsplit]; simp)
      have hns2 : ns = done.flatMap encC ++ (encC cl ++ rest.flatMap encC) := by rw [hns, hsplit]; simp
      have hpos := enc_len hcl.1
      refine iteI (c := True) (by rw [hns2]; simp; omega) (fun _ => ?_) (fun z => absurd trivial z)
      refine ⟨_, fun σ' H2 z => z, ?_⟩
      refine ⟨Ca, F, An, done.flatMap encC, rest.flatMap encC, cl, playS Sd37Neutral.start done, 23 * done.length, _, v4, v5, rfl, hAn, by rw [← hns2]; exact hCa', fun o => by rw [← hns2]; exact keepCa _ _ hCa', hcl.1, hcl.2, fun od => hst od _, by omega, fun od p H2 k2 h2 h3 h4 => ?_⟩
      have hAn2 : H2 An = some (.frz od (.lst ((toldS Sd37Neutral.start done).map V.int))) := k2 An _ trivial upd_same
      have npA : p ≠ An := ne_of h3 hAn2 (by intro z; cases z)
      have htot : (toldS Sd37Neutral.start done).length ≤ 15200000 := bound300 (a := nl) (b := ni) (by omega) htl
      have hb : ∃ nl' ni', nl' + ni' = (done ++ [cl]).length ∧ (playS Sd37Neutral.start (done ++ [cl])).ships.length ≤ nl' ∧ (toldS Sd37Neutral.start done).length + 1 + (Sd37Neutral.step (playS Sd37Neutral.start done) cl).2.length ≤ nl' * 669 + ni' * (2 + 666 * nl') := by
        rcases hcl.1 with ⟨now, n, most, b, rfl⟩ | ⟨most, rfl⟩
        · refine ⟨nl + 1, ni, by simp; omega, ?_, ?_⟩
          · rw [playS_snoc, step_line]
            have := hear_len (playS Sd37Neutral.start done) now.toNat n most (Sd37Neutral.nats b)
            omega
          · have h4 : (Sd37Neutral.step (playS Sd37Neutral.start done) [[1, now, n, most], b]).2.length ≤ 667 := h4
            have : ni * (2 + 666 * nl) ≤ ni * (2 + 666 * (nl + 1)) := Nat.mul_le_mul_left _ (by omega)
            omega
        · refine ⟨nl, ni + 1, by simp; omega, ?_, ?_⟩
          · rw [playS_snoc, step_list]
            exact hsh
          · have h4 : (Sd37Neutral.step (playS Sd37Neutral.start done) [[2, most]]).2.length ≤ 1 + 666 * (playS Sd37Neutral.start done).ships.length := h4
            have e1 : (ni + 1) * (2 + 666 * nl) = ni * (2 + 666 * nl) + (2 + 666 * nl) := Nat.succ_mul _ _
            omega
      obtain ⟨nl', ni', b1, b2, b3⟩ := hb
      have htot2 := bound300 (a := nl') (b := ni') (by rw [b1]; simp at hdl ⊢; omega) b3
      refine ⟨_, rfl, .inl ⟨rfl, _, SqL.of upd_same⟩, _, rfl, p, _, rfl, .inl (SqL.of (by rw [upd_ne npA]; exact h3)), An, _, _, rfl, rfl, upd_same, sl' (m := 15200000) (by rw [List.length_map]; exact htot), ?_⟩
      rw [List.length_map, upd_upd]
      refine ⟨_, rfl, .inl ⟨rfl, _, SqL.of upd_same⟩, _, rfl, An, p, _, _, rfl, rfl, upd_same, (by rw [upd_ne npA]; exact h3), ?_, ?_⟩
      · rw [List.length_append, List.length_map, List.length_map, List.length_singleton]
        exact sl (m := 15200000) htot2
      rw [upd_upd]
      have hCa2 : SqL K H2 Ca (ns.map V.int) := sql_keepL k2 (keepCa _ _ hCa')
      refine ⟨_, rfl, rest.length, Nat.lt_succ_self _, done ++ [cl], rest, some (.int (((done.flatMap encC).length + (encC cl).length : Nat) : Int)), some (.ref p), nl', ni', rfl, by rw [hsplit]; simp, ?_, keepCa _ _ hCa2, fun od' u' => ?_, ?_, b1, b2, ?_⟩
      · have z : (((done ++ [cl]).flatMap encC).length : Int) = (((done.flatMap encC).length + (encC cl).length : Nat) : Int) := by rw [List.flatMap_append]; simp
        rw [z]
        rfl
      · rw [upd_upd, playS_snoc]
        have := h2.keepN (keepN_upd (o := .frz od' u') hAn2)
        rw [List.length_append, List.length_singleton, Nat.mul_add]
        exact this
      · rw [upd_same, toldS_snoc]
        simp
      · rw [toldS_snoc, List.length_append, List.length_cons]
        omega
end
end Sr
namespace L2
open PySem PySem.Spec PyProof.Rows PySem.W
theorem spec_call {P : Program} {w : World} {K : PySem.W.Frag} {mg mb : Str → Option Value} {CX : CXT} {k : Nat} {fa a : Addr} {fd : FuncData} {x : Str} {sp : Sp} {s₁ : Shared} {vs : List Value} {ns ans : List Int}
    (KX : K.In s₁.heap) (hns : s₁.heap.Ns mainGlobals mg) (hb : s₁.heap.Ns builtinsNs mb) (hbb : ∀ x : Str, x ≠ "__name__" → mb x = bootBuiltins x) (hlim : s₁.heap.NoLimit) (hg : s₁.gens = #[])
    (ha : s₁.heap.get? a = some { cls := .type "list", data := .seq vs.toArray }) (hi : IntsAre vs ns) (hl : ns.length ≤ sizeLine) (hr : Room k callerA)
    (F : ∀ base : Heap, K.In base → base.Ns mainGlobals mg → FnOk P w K mg base CX k fa fd [x] sp) (hbind : Binds K fd [x] [])
    (hsp : ∀ H : Hp, Only H → SqL K H a (ns.map V.int) → sp [.ref a] H (fun v H' => ∃ p, v = .ref p ∧ H' p = some (.lst (ans.map V.int))) fun _ _ _ => False)
    (hCX : ∀ H e s', CX [] H s₁ (fun _ _ _ => False) e s' → False) :
    codeAny (model P w) callerA (.call (.ref fa) ⟨[.ref a], []⟩) (fun r s' => (∃ (p : Addr) (its : List Value) (n : Nat), r = .ok (.ret (.ref p)) ∧ s'.heap.get? p = some { cls := .type "list", data := .seq its.toArray n } ∧ Vals (ans.map V.int) its) ∧ OldK s₁.heap s'.heap ∧ s'.os = s₁.os ∧ AllBare s'.gens) s₁ := by
  have rv := vals_ints hi
  have lenV := hi.length
  have core : ∀ H : Hp, Only H → SqL K H a (ns.map V.int) → HOk P w H s₁.heap → (∀ b, H b ≠ none → b = a) → (H a ≠ none → K.lookup a = none) →
      codeAny (model P w) callerA (.call (.ref fa) ⟨[.ref a], []⟩) (fun r s' => (∃ (p : Addr) (its : List Value) (n : Nat), r = .ok (.ret (.ref p)) ∧ s'.heap.get? p = some { cls := .type "list", data := .seq its.toArray n } ∧ Vals (ans.map V.int) its) ∧ OldK s₁.heap s'.heap ∧ s'.os = s₁.os ∧ AllBare s'.gens) s₁ := by
    intro H hO hS hok hA hK
    have base_of : ∀ {b : Addr} {o : Obj}, s₁.heap.get? b = some o → H b = none → (hidT s₁.heap H).get? b = some o := fun e n => hidT_get e n
    have noA : ∀ {b : Addr} {o : Obj} {es : Array DictEntry} {ep : Nat}, s₁.heap.get? b = some o → o.data = .dict es ep → H b = none := fun {b o es ep} e d => by
      cases q : H b with
      | none => rfl
      | some u =>
        have e' : b = a := hA b (by rw [q]; simp)
        subst e'
        rw [ha] at e; cases e
        have d' : Data.seq vs.toArray _ = Data.dict es ep := d
        cases d'
    have nsK : ∀ {b : Addr} {m : Str → Option Value}, s₁.heap.Ns b m → (hidT s₁.heap H).Ns b m := fun {b m} ⟨o, es, ep, e, d, r⟩ => ⟨o, es, ep, base_of e (noA e d), d, r⟩
    have hKb : K.In (hidT s₁.heap H) := fun b o e => base_of (KX b o e) (by
      cases q : H b with
      | none => rfl
      | some u =>
        have e' : b = a := hA b (by rw [q]; simp)
        subst e'
        rw [hK (by rw [q]; simp)] at e; cases e)
    have hM : Mod K mg (hidT s₁.heap H) := ⟨hKb, nsK hns, ⟨mb, nsK hb, hbb⟩, let ⟨mc, h1, h2⟩ := hlim; ⟨mc, nsK h1, h2⟩⟩
    have e0 : Env0 P w K mg (hidT s₁.heap H) callerA [] s₁ H := ⟨rfl, hM, fun b o e => of_hidT e, Nat.le_of_eq (hidT_size _ _), trivial, fun b hb => absurd (show b ∈ ([] : List Addr) from hb) (by simp), hok, .of_eq hg⟩
    refine codeAny_mono ((F _ hKb (nsK hns)).run callerA [] s₁ H ⟨[.ref a], []⟩ [.ref a] [.ref a] _ _ hr e0 (hbind s₁ [.ref a] KX rfl) (.cons rfl .nil) (hsp H hO hS)) fun r s' h => ?_
    cases r with
    | error e => exact (hCX H e s' h).elim
    | ok fl =>
      cases fl with
      | next => exact False.elim h
      | brk => exact False.elim h
      | cont => exact False.elim h
      | ret u =>
        obtain ⟨v, H', os, bare, un, hok', r', q⟩ := h
        obtain ⟨p, rfl, hp⟩ := q
        obtain rfl : u = Value.ref p := r'
        obtain ⟨_, its, n, rv', hpo⟩ := hok' p _ hp
        refine ⟨⟨p, its, n, rfl, hpo, rv'⟩, OldK.of_keep fun b o e => ?_, os, bare⟩
        cases q : H b with
        | none => exact un.keep b o e q (by intro z; exact absurd (show b ∈ ([] : List Addr) from z) (by simp)) (by simp)
        | some u =>
          rcases hO b with z | ⟨ob, xs, z⟩
          · rw [q] at z; cases z
          · have z2 := un.frzs b ob _ z
            obtain ⟨e1, _⟩ := hok b _ z
            obtain ⟨e2, _⟩ := hok' b _ z2
            rw [e] at e1; cases e1
            exact e2
  cases hk : K.lookup a with
  | some o =>
    have e := KX a o hk
    rw [ha] at e
    cases e
    refine core (fun _ => none) (fun _ => .inl rfl) (.inr ⟨_, vs.toArray, _, hk, rfl, rfl, rfl, by rw [List.size_toArray, lenV]; exact hl, by simpa using rv⟩) (fun b u z => by have z' : (none : Option HO) = some u := z; cases z') (fun b z => absurd rfl z) fun z => absurd rfl z
  | none =>
    refine core (fun b => if b = a then some (.frz { cls := .type "list", data := .seq vs.toArray } (.lst (ns.map V.int))) else none) (fun b => ?_) (.inl (.inr ⟨{ cls := .type "list", data := .seq vs.toArray }, if_pos rfl⟩)) (fun b u z => ?_) (fun b z => ?_) fun _ => hk
    · by_cases hb : b = a
      · exact .inr ⟨_, _, if_pos hb⟩
      · exact .inl (if_neg hb)
    · by_cases hb : b = a
      · have z' := (if_pos hb).symm.trans z
        cases z'
        subst hb
        exact ⟨ha, by rw [List.length_map]; exact hl, vs, _, rv, ha⟩
      · have z' := (if_neg hb).symm.trans z
        cases z'
    · by_cases hb : b = a
      · exact hb
      · exact absurd (if_neg hb) z
theorem reads_ints {R : WRecords} {cl : Str → Option Addr} {h : Heap} : ∀ {ns : List Int} {its : List Value}, Vals (ns.map V.int) its → ReadsAllW R cl h its (ns.map WData.int) []
  | [], _, r => by cases r; exact .nil
  | n :: ns, _, r => by
    cases r with
    | cons q t =>
      obtain ⟨tk, rfl⟩ := q
      exact .cons (.int n tk) (reads_ints t)
end L2
namespace Sr
open PySem L2 Sh PySem.W PyProof.Rows
theorem walk_ship {q : Program} {loose : List Str} {XP : (Str → Option Value) → Heap → Prop} {YP : World → Heap → Prop} {d : DefRec} {K : Params → PySem.W.Frag} (hdf : d.params.defaults = [])
    (hY : ∀ (w : World) (h : Heap), YP w h → (K w.params).In h)
    (F : ∀ (w : World) (mg : Str → Option Value) (fa : Addr) (h : Heap), (K w.params).In h → h.Ns mainGlobals mg → mg d.name = some (.ref fa) →
      ∃ fd : FuncData, Binds (K w.params) fd ["calls"] [] ∧ ∀ base : Heap, (K w.params).In base → base.Ns mainGlobals mg → FnOk PySem.Challenge.rw_shipradio_s01_answers.prog w (K w.params) mg base (CX1 PySem.Challenge.rw_shipradio_s01_answers.prog w) 11 fa fd ["calls"] (spAns (K w.params))) :
    WalkOS q loose XP YP PySem.Challenge.rw_shipradio_s01_answers d [] (fun f vs => PySem.call f vs) := by
  intro w s₀ s₁ mg mb G Y fa o pm cd doc dV kV ho hd hcd hD hmg hg args vals as hpre hlay hrd hwl hlo
  obtain rfl : dV = .none := Dflts.none hD hdf
  obtain rfl : kV = .none := Dflts.noKw hD
  have hsh : WShape.hasAll [] args [.list .int] = true := os_shapes args hpre
  obtain ⟨da, r, rfl, h1, h2⟩ := hasAllW_cons hsh
  obtain rfl := hasAllW_nil h2
  obtain ⟨xs, rfl, h3⟩ := hasW_list h1
  obtain ⟨ns, rfl⟩ := items_int h3
  have e1 : WData.list (ns.map WData.int) = ofPy (PyData.list (ns.map PyData.int)) := by
    rw [← ofPys_ints]
    rfl
  have hsome : (Codec.decAll [.list 0 30000 (.int (-2147483648) 4294967295)] [ofPy (PyData.list (ns.map PyData.int))]).isSome = true := by
    rw [← e1]
    exact os_pre_isSome hpre
  obtain ⟨osDec, osLeast, osMost, osItems⟩ := os_dec_ints hsome
  have hpre' : PySem.Challenge.rw_shipradio_s01_answers.pre [ofPy (PyData.list (ns.map PyData.int))] = true := by rw [← e1]; exact hpre
  have hask : PySd37.answers_asked ns = true := os_pre_asked (r := PySem.Challenge.rw_shipradio_s01_answers) hpre' osDec
  have hpost : PySem.Challenge.rw_shipradio_s01_answers.post [.list (ns.map WData.int)] (.list ((PySd37.answers ns).map WData.int)) = true := by
    rw [e1]
    refine os_post (r := PySem.Challenge.rw_shipradio_s01_answers) osDec ?_
    exact same_self _
  have KX := hY w _ Y
  obtain ⟨fd, hb, hF⟩ := F w mg fa _ KX G.T.g hmg
  have hobj : ∃ (a : Addr) (vs : List Value), vals = [Value.ref a] ∧ s₁.heap.get? a = some { cls := .type "list", data := .seq vs.toArray } ∧ IntsAre vs ns := by
    cases hwl with
    | cons w1 w2 =>
      cases w2
      cases w1 with
      | list ho hall => exact ⟨_, _, rfl, ho, Att.ints_of_wellAll ns _ hall⟩
  obtain ⟨a, vs, rfl, ha, hints⟩ := hobj
  refine enter_call (codeAny_mono (spec_call (x := "calls") (sp := spAns (K w.params)) (CX := CX1 PySem.Challenge.rw_shipradio_s01_answers.prog w) (k := 11) (ans := PySd37.answers ns) KX G.T.g G.T.b G.T.builtins G.T.nolimit hg ha hints (sl (m := 30000) osMost) ⟨rfl, by decide, by decide⟩ hF hb
    (fun H hO hS => ⟨a, ns, rfl, hS, hask, fun p H' hp => ⟨p, rfl, hp⟩⟩) fun H e s' h => by
      obtain ⟨_, _, _, _, _, _, _, _, _, _, _, _, _, _, h⟩ := h
      exact h.elim) fun r s' hq => ?_)
  obtain ⟨⟨p, its, n, rfl, hp, hv⟩, h2, h3, h4⟩ := hq
  exact ⟨.inl ⟨.ref p, .list ((PySd37.answers ns).map WData.int), [p], rfl, fun _ => rfl, .list hp rfl rfl (by simpa using reads_ints hv), hpost, fun z => absurd z Bool.false_ne_true⟩, h2, h3, h4⟩
end Sr
namespace Sr
open PySem L2 Sh
def strsOk : List Str → Array Value → Bool := fun xs its => (xs.length == its.toList.length) && (xs.zip its.toList).all fun z => match z.2 with
  | .str y _ => z.1 == y
  | _ => false
theorem strs_vals : ∀ {xs : List Str} {us : List Value}, xs.length = us.length → (∀ z ∈ xs.zip us, (match z.2 with | .str y _ => z.1 == y | _ => false) = true) → Vals (xs.map V.str) us
  | [], [], _, _ => .nil
  | [], _ :: _, h, _ => by simp at h
  | _ :: _, [], h, _ => by simp at h
  | x :: xs, u :: us, h, f => by
    have h0 := f (x, u) (by simp)
    refine .cons ?_ (strs_vals (by simpa using h) fun z hz => f z (by simp [hz]))
    cases u with
    | str y t =>
      have : x = y := by simpa using h0
      subst this
      exact ⟨t, rfl⟩
    | _ => cases h0
theorem gt_mk {K : PySem.W.Frag} {mg : Str → Option Value} {x : Str} {a : Addr} {xs : List Str} {od : Option Addr} {its : Array Value} {n : Nat} {sl : Array (Option Value)} (h : mg x = some (.ref a)) (l : K.lookup a = some ⟨.type "tuple", od, .seq its n, sl⟩) (v : strsOk xs its = true)
    (few : xs.length ≤ 100 := by decide) : GT K mg x a xs := by
  unfold strsOk at v
  simp only [Bool.and_eq_true, beq_iff_eq] at v
  obtain ⟨v1, v2⟩ := v
  refine ⟨h, fun H => .inr ⟨_, its, n, l, rfl, rfl, ?_, strs_vals v1 (List.all_eq_true.mp v2)⟩⟩
  have : its.size = xs.length := by rw [v1]; simp
  rw [this]
  exact Sr.sl few
section
variable {K : PySem.W.Frag} {mg : Str → Option Value} {h : Heap} {x m qual : Str} {st : Stmt} {ps : List Str} {f C Td : Addr} {oc kV doc pm cdv ct : Value} {od an odT : Option Addr} {osl slT : Array (Option Value)} {nT : Nat}
theorem df_mk (X : K.In h) (G : h.Ns mainGlobals mg) (e1 : PySem.W.nsIn K mainGlobals x = some (some (.ref f))) (e2 : K.lookup f = some ⟨oc, od, .func (PySem.W.fnOf x x (defArgs st) (defBody st) (defScope st) .none kV doc pm an cdv ct), osl⟩) (e3 : PySem.W.codeIn K cdv x = true) (e4 : PySem.W.keepIn K (.ref f) = true)
    (hb : ∀ (kV doc pm : Value) (an : Option Addr) (cdv ct : Value) (us : List Value), us.length = ps.length → bindArgs (PySem.W.fnOf x x (defArgs st) (defBody st) (defScope st) .none kV doc pm an cdv ct) ⟨us, []⟩ = pure (ps.zip us)) : Df K mg x st ps :=
  ⟨⟨f, _, PySem.W.mg_of X G e1, e4, ⟨⟨oc, od, kV, doc, pm, an, cdv, ct, osl, rfl, e2, e3⟩⟩, .all (hb kV doc pm an cdv ct)⟩⟩
theorem dk_mk (n : mg x = some (.ref C)) (mk : PySem.W.makesIn K C = true) (e1 : PySem.W.findIn K (.ref C) "__init__" = some (some (.ref f))) (g : PySem.W.isFn K (.ref f) = true) (kp : PySem.W.keepIn K (.ref C) = true)
    (e2 : K.lookup f = some ⟨oc, od, .func (PySem.W.fnOf "__init__" qual (defArgs st) (defBody st) (defScope st) .none kV doc pm an cdv ct), osl⟩) (e3 : PySem.W.codeIn K cdv qual = true)
    (hb : ∀ (kV doc pm : Value) (an : Option Addr) (cdv ct : Value) (us : List Value), us.length = ps.length → bindArgs (PySem.W.fnOf "__init__" qual (defArgs st) (defBody st) (defScope st) .none kV doc pm an cdv ct) ⟨us, []⟩ = pure (ps.zip us)) : Dk K mg x C qual st ps :=
  ⟨⟨f, _, n, ⟨mk, e1, g, kp⟩, ⟨⟨oc, od, kV, doc, pm, an, cdv, ct, osl, rfl, e2, e3⟩⟩, .all (hb kV doc pm an cdv ct)⟩⟩
theorem dm_mk (e1 : PySem.W.findIn K (.ref C) m = some (some (.ref f))) (g : PySem.W.isFn K (.ref f) = true) (kp : PySem.W.keepIn K (.ref f) = true)
    (e2 : K.lookup f = some ⟨oc, od, .func (PySem.W.fnOf m qual (defArgs st) (defBody st) (defScope st) .none kV doc pm an cdv ct), osl⟩) (e3 : PySem.W.codeIn K cdv qual = true)
    (hb : ∀ (kV doc pm : Value) (an : Option Addr) (cdv ct : Value) (us : List Value), us.length = ps.length → bindArgs (PySem.W.fnOf m qual (defArgs st) (defBody st) (defScope st) .none kV doc pm an cdv ct) ⟨us, []⟩ = pure (ps.zip us)) : Dm K C m qual st ps [] :=
  ⟨⟨f, _, .none, [], ⟨e1, g, kp⟩, ⟨⟨oc, od, kV, doc, pm, an, cdv, ct, osl, rfl, e2, e3⟩⟩, .nil, .all (hb kV doc pm an cdv ct)⟩⟩
abbrev stN : Stmt := inClass (top 44) 5
theorem dm_mk4 (e1 : PySem.W.findIn K (.ref C) "tell_number" = some (some (.ref f))) (g : PySem.W.isFn K (.ref f) = true) (kp : PySem.W.keepIn K (.ref f) = true)
    (e2 : K.lookup f = some ⟨oc, od, .func (PySem.W.fnOf "tell_number" "Message.tell_number" (defArgs stN) (defBody stN) (defScope stN) (.ref Td) kV doc pm an cdv ct), osl⟩) (e3 : PySem.W.codeIn K cdv "Message.tell_number" = true)
    (td : K.lookup Td = some ⟨.type "tuple", odT, .seq #[.none] nT, slT⟩) : Dm K C "tell_number" "Message.tell_number" stN ["self", "word", "start", "width", "unknown", "largest"] [.non] :=
  ⟨⟨f, _, .ref Td, [.none], ⟨e1, g, kp⟩, ⟨⟨oc, od, kV, doc, pm, an, cdv, ct, osl, rfl, e2, e3⟩⟩, .cons rfl .nil, fun s us hK hl => by
    have hl5 : us.length = 5 := by simpa using hl
    match us, hl5 with
    | [_, _, _, _, _], _ => exact BindsTo.of_defaults (T := Td) rfl (hK _ _ td) rfl rfl rfl⟩⟩
theorem dm_mk5 (e1 : PySem.W.findIn K (.ref C) "tell_number" = some (some (.ref f))) (g : PySem.W.isFn K (.ref f) = true) (kp : PySem.W.keepIn K (.ref f) = true)
    (e2 : K.lookup f = some ⟨oc, od, .func (PySem.W.fnOf "tell_number" "Message.tell_number" (defArgs stN) (defBody stN) (defScope stN) (.ref Td) kV doc pm an cdv ct), osl⟩) (e3 : PySem.W.codeIn K cdv "Message.tell_number" = true)
    (td : K.lookup Td = some ⟨.type "tuple", odT, .seq #[.none] nT, slT⟩) : Dm K C "tell_number" "Message.tell_number" stN ["self", "word", "start", "width", "unknown", "largest"] [] :=
  ⟨⟨f, _, .ref Td, [], ⟨e1, g, kp⟩, ⟨⟨oc, od, kV, doc, pm, an, cdv, ct, osl, rfl, e2, e3⟩⟩, .nil, fun s us hK hl => by
    have hl6 : us.length = 6 := by simpa using hl
    match us, hl6 with
    | [_, _, _, _, _, _], _ => exact BindsTo.of_defaults (T := Td) rfl (hK _ _ td) rfl rfl rfl⟩⟩
end
set_option maxHeartbeats 0 in
theorem all_mk {K : PySem.W.Frag} {h : Heap} {mg : Str → Option Value} (X : K.In h) (G : h.Ns mainGlobals mg)
    {cs cm cb cw ch cf xl xo xm xp tw ts tc : Addr}
    {t_12 : Tok}
    {t_13 : Tok}
    {t_14 : Tok}
    {t_15 : Tok}
    {t_16 : Tok}
    {t_17 : Tok}
    {t_18 : Tok}
    {t_19 : Tok}
    {t_20 : Tok} {y_20 : Str}
    {t_21 : Tok}
    {t_22 : Tok}
    {t_23 : Tok}
    {t_24 : Tok}
    {t_25 : Tok}
    {t_26 : Tok}
    {t_27 : Tok}
    {t_28 : Tok}
    {t_29 : Tok}
    {t_30 : Tok}
    {t_31 : Tok}
    {t_32 : Tok}
    {t_33 : Tok}
    {t_34 : Tok}
    {od_tw : Option Addr} {its_tw : Array Value} {nn_tw : Nat} {sl_tw : Array (Option Value)}
    {od_ts : Option Addr} {its_ts : Array Value} {nn_ts : Nat} {sl_ts : Array (Option Value)}
    {od_tc : Option Addr} {its_tc : Array Value} {nn_tc : Nat} {sl_tc : Array (Option Value)}
    {f_65 : Addr} {oc_65 kV_65 doc_65 pm_65 cd_65 ct_65 : Value} {od_65 an_65 : Option Addr} {sl_65 : Array (Option Value)}
    {f_66 : Addr} {oc_66 kV_66 doc_66 pm_66 cd_66 ct_66 : Value} {od_66 an_66 : Option Addr} {sl_66 : Array (Option Value)}
    {f_67 : Addr} {oc_67 kV_67 doc_67 pm_67 cd_67 ct_67 : Value} {od_67 an_67 : Option Addr} {sl_67 : Array (Option Value)}
    {f_68 : Addr} {oc_68 kV_68 doc_68 pm_68 cd_68 ct_68 : Value} {od_68 an_68 : Option Addr} {sl_68 : Array (Option Value)}
    {f_69 : Addr} {oc_69 kV_69 doc_69 pm_69 cd_69 ct_69 : Value} {od_69 an_69 : Option Addr} {sl_69 : Array (Option Value)}
    {f_70 : Addr} {oc_70 kV_70 doc_70 pm_70 cd_70 ct_70 : Value} {od_70 an_70 : Option Addr} {sl_70 : Array (Option Value)}
    {f_71 : Addr} {oc_71 kV_71 doc_71 pm_71 cd_71 ct_71 : Value} {od_71 an_71 : Option Addr} {sl_71 : Array (Option Value)}
    {f_72 : Addr} {oc_72 kV_72 doc_72 pm_72 cd_72 ct_72 : Value} {od_72 an_72 : Option Addr} {sl_72 : Array (Option Value)}
    {f_73 : Addr} {oc_73 kV_73 doc_73 pm_73 cd_73 ct_73 : Value} {od_73 an_73 : Option Addr} {sl_73 : Array (Option Value)}
    {f_74 : Addr} {oc_74 kV_74 doc_74 pm_74 cd_74 ct_74 : Value} {od_74 an_74 : Option Addr} {sl_74 : Array (Option Value)}
    {f_75 : Addr} {oc_75 kV_75 doc_75 pm_75 cd_75 ct_75 : Value} {od_75 an_75 : Option Addr} {sl_75 : Array (Option Value)}
    {f_76 : Addr} {oc_76 kV_76 doc_76 pm_76 cd_76 ct_76 : Value} {od_76 an_76 : Option Addr} {sl_76 : Array (Option Value)}
    {f_77 : Addr} {oc_77 kV_77 doc_77 pm_77 cd_77 ct_77 : Value} {od_77 an_77 : Option Addr} {sl_77 : Array (Option Value)}
    {f_78 : Addr} {oc_78 kV_78 doc_78 pm_78 cd_78 ct_78 : Value} {od_78 an_78 : Option Addr} {sl_78 : Array (Option Value)}
    {f_79 : Addr} {oc_79 kV_79 doc_79 pm_79 cd_79 ct_79 : Value} {od_79 an_79 : Option Addr} {sl_79 : Array (Option Value)}
    {f_80 : Addr} {oc_80 kV_80 doc_80 pm_80 cd_80 ct_80 : Value} {od_80 an_80 : Option Addr} {sl_80 : Array (Option Value)}
    {f_81 : Addr} {oc_81 kV_81 doc_81 pm_81 cd_81 ct_81 : Value} {od_81 an_81 : Option Addr} {sl_81 : Array (Option Value)}
    {f_82 : Addr} {oc_82 kV_82 doc_82 pm_82 cd_82 ct_82 : Value} {od_82 an_82 : Option Addr} {sl_82 : Array (Option Value)}
    {f_83 : Addr} {oc_83 kV_83 doc_83 pm_83 cd_83 ct_83 : Value} {od_83 an_83 : Option Addr} {sl_83 : Array (Option Value)}
    {f_84 : Addr} {oc_84 kV_84 doc_84 pm_84 cd_84 ct_84 : Value} {od_84 an_84 : Option Addr} {sl_84 : Array (Option Value)}
    {f_85 : Addr} {oc_85 kV_85 doc_85 pm_85 cd_85 ct_85 : Value} {od_85 an_85 : Option Addr} {sl_85 : Array (Option Value)}
    {f_86 : Addr} {oc_86 kV_86 doc_86 pm_86 cd_86 ct_86 : Value} {od_86 an_86 : Option Addr} {sl_86 : Array (Option Value)}
    {f_87 : Addr} {oc_87 kV_87 doc_87 pm_87 cd_87 ct_87 : Value} {od_87 an_87 : Option Addr} {sl_87 : Array (Option Value)}
    {f_88 : Addr} {oc_88 kV_88 doc_88 pm_88 cd_88 ct_88 : Value} {od_88 an_88 : Option Addr} {sl_88 : Array (Option Value)}
    {Td : Addr} {odT : Option Addr} {nT : Nat} {slT : Array (Option Value)}
    {f_89 : Addr} {oc_89 kV_89 doc_89 pm_89 cd_89 ct_89 : Value} {od_89 an_89 : Option Addr} {sl_89 : Array (Option Value)}
    {f_91 : Addr} {oc_91 kV_91 doc_91 pm_91 cd_91 ct_91 : Value} {od_91 an_91 : Option Addr} {sl_91 : Array (Option Value)}
    {f_92 : Addr} {oc_92 kV_92 doc_92 pm_92 cd_92 ct_92 : Value} {od_92 an_92 : Option Addr} {sl_92 : Array (Option Value)}
    {f_93 : Addr} {oc_93 kV_93 doc_93 pm_93 cd_93 ct_93 : Value} {od_93 an_93 : Option Addr} {sl_93 : Array (Option Value)}
    {f_94 : Addr} {oc_94 kV_94 doc_94 pm_94 cd_94 ct_94 : Value} {od_94 an_94 : Option Addr} {sl_94 : Array (Option Value)}
    {f_95 : Addr} {oc_95 kV_95 doc_95 pm_95 cd_95 ct_95 : Value} {od_95 an_95 : Option Addr} {sl_95 : Array (Option Value)}
    {f_96 : Addr} {oc_96 kV_96 doc_96 pm_96 cd_96 ct_96 : Value} {od_96 an_96 : Option Addr} {sl_96 : Array (Option Value)}
    {f_97 : Addr} {oc_97 kV_97 doc_97 pm_97 cd_97 ct_97 : Value} {od_97 an_97 : Option Addr} {sl_97 : Array (Option Value)}
    {f_98 : Addr} {oc_98 kV_98 doc_98 pm_98 cd_98 ct_98 : Value} {od_98 an_98 : Option Addr} {sl_98 : Array (Option Value)}
    {f_99 : Addr} {oc_99 kV_99 doc_99 pm_99 cd_99 ct_99 : Value} {od_99 an_99 : Option Addr} {sl_99 : Array (Option Value)}
    {f_100 : Addr} {oc_100 kV_100 doc_100 pm_100 cd_100 ct_100 : Value} {od_100 an_100 : Option Addr} {sl_100 : Array (Option Value)}
    {f_101 : Addr} {oc_101 kV_101 doc_101 pm_101 cd_101 ct_101 : Value} {od_101 an_101 : Option Addr} {sl_101 : Array (Option Value)}
    {f_102 : Addr} {oc_102 kV_102 doc_102 pm_102 cd_102 ct_102 : Value} {od_102 an_102 : Option Addr} {sl_102 : Array (Option Value)}
    {f_103 : Addr} {oc_103 kV_103 doc_103 pm_103 cd_103 ct_103 : Value} {od_103 an_103 : Option Addr} {sl_103 : Array (Option Value)}
    {f_104 : Addr} {oc_104 kV_104 doc_104 pm_104 cd_104 ct_104 : Value} {od_104 an_104 : Option Addr} {sl_104 : Array (Option Value)}
    {f_105 : Addr} {oc_105 kV_105 doc_105 pm_105 cd_105 ct_105 : Value} {od_105 an_105 : Option Addr} {sl_105 : Array (Option Value)}
    {f_106 : Addr} {oc_106 kV_106 doc_106 pm_106 cd_106 ct_106 : Value} {od_106 an_106 : Option Addr} {sl_106 : Array (Option Value)}
    {f_107 : Addr} {oc_107 kV_107 doc_107 pm_107 cd_107 ct_107 : Value} {od_107 an_107 : Option Addr} {sl_107 : Array (Option Value)}
    {f_108 : Addr} {oc_108 kV_108 doc_108 pm_108 cd_108 ct_108 : Value} {od_108 an_108 : Option Addr} {sl_108 : Array (Option Value)}
    {f_109 : Addr} {oc_109 kV_109 doc_109 pm_109 cd_109 ct_109 : Value} {od_109 an_109 : Option Addr} {sl_109 : Array (Option Value)}
    {f_110 : Addr} {oc_110 kV_110 doc_110 pm_110 cd_110 ct_110 : Value} {od_110 an_110 : Option Addr} {sl_110 : Array (Option Value)}
    {f_111 : Addr} {oc_111 kV_111 doc_111 pm_111 cd_111 ct_111 : Value} {od_111 an_111 : Option Addr} {sl_111 : Array (Option Value)}
    {f_112 : Addr} {oc_112 kV_112 doc_112 pm_112 cd_112 ct_112 : Value} {od_112 an_112 : Option Addr} {sl_112 : Array (Option Value)}
    {f_113 : Addr} {oc_113 kV_113 doc_113 pm_113 cd_113 ct_113 : Value} {od_113 an_113 : Option Addr} {sl_113 : Array (Option Value)}
    {f_114 : Addr} {oc_114 kV_114 doc_114 pm_114 cd_114 ct_114 : Value} {od_114 an_114 : Option Addr} {sl_114 : Array (Option Value)}
    {f_115 : Addr} {oc_115 kV_115 doc_115 pm_115 cd_115 ct_115 : Value} {od_115 an_115 : Option Addr} {sl_115 : Array (Option Value)}
    {f_116 : Addr} {oc_116 kV_116 doc_116 pm_116 cd_116 ct_116 : Value} {od_116 an_116 : Option Addr} {sl_116 : Array (Option Value)}
    {f_117 : Addr} {oc_117 kV_117 doc_117 pm_117 cd_117 ct_117 : Value} {od_117 an_117 : Option Addr} {sl_117 : Array (Option Value)}
    {f_118 : Addr} {oc_118 kV_118 doc_118 pm_118 cd_118 ct_118 : Value} {od_118 an_118 : Option Addr} {sl_118 : Array (Option Value)}
    (n_cs : PySem.W.nsIn K mainGlobals "Sentence" = some (some (.ref cs)))
    (n_cm : PySem.W.nsIn K mainGlobals "Message" = some (some (.ref cm)))
    (n_cb : PySem.W.nsIn K mainGlobals "Begun" = some (some (.ref cb)))
    (n_cw : PySem.W.nsIn K mainGlobals "Waiting" = some (some (.ref cw)))
    (n_ch : PySem.W.nsIn K mainGlobals "Ship" = some (some (.ref ch)))
    (n_cf : PySem.W.nsIn K mainGlobals "Ships" = some (some (.ref cf)))
    (n_xl : PySem.W.nsIn K mainGlobals "NotALine" = some (some (.ref xl)))
    (n_xo : PySem.W.nsIn K mainGlobals "OtherSum" = some (some (.ref xo)))
    (n_xm : PySem.W.nsIn K mainGlobals "NoMessage" = some (some (.ref xm)))
    (n_xp : PySem.W.nsIn K mainGlobals "PartMisfit" = some (some (.ref xp)))
    (n_tw : PySem.W.nsIn K mainGlobals "WORDS" = some (some (.ref tw)))
    (n_ts : PySem.W.nsIn K mainGlobals "SENTENCES" = some (some (.ref ts)))
    (n_tc : PySem.W.nsIn K mainGlobals "CHANNELS" = some (some (.ref tc)))
    (b_1 : PySem.W.nsIn K mainGlobals "len" = some none)
    (b_2 : PySem.W.nsIn K mainGlobals "ord" = some none)
    (b_3 : PySem.W.nsIn K mainGlobals "str" = some none)
    (b_4 : PySem.W.nsIn K mainGlobals "range" = some none)
    (b_5 : PySem.W.nsIn K mainGlobals "all" = some none)
    (b_6 : PySem.W.nsIn K mainGlobals "tuple" = some none)
    (b_7 : PySem.W.nsIn K mainGlobals "list" = some none)
    (b_8 : PySem.W.nsIn K mainGlobals "abs" = some none)
    (b_9 : PySem.W.nsIn K mainGlobals "max" = some none)
    (b_10 : PySem.W.nsIn K mainGlobals "min" = some none)
    (b_11 : PySem.W.nsIn K mainGlobals "sorted" = some none)
    (i_12 : PySem.W.nsIn K mainGlobals "LINE_FEED" = some (some (.int 10 t_12)))
    (i_13 : PySem.W.nsIn K mainGlobals "QUOTE" = some (some (.int 34 t_13)))
    (i_14 : PySem.W.nsIn K mainGlobals "LONGEST_LINE" = some (some (.int 82 t_14)))
    (i_15 : PySem.W.nsIn K mainGlobals "FIELDS" = some (some (.int 7 t_15)))
    (i_16 : PySem.W.nsIn K mainGlobals "CARRIAGE_RETURN" = some (some (.int 13 t_16)))
    (i_17 : PySem.W.nsIn K mainGlobals "COMMA" = some (some (.int 44 t_17)))
    (i_18 : PySem.W.nsIn K mainGlobals "ZERO" = some (some (.int 48 t_18)))
    (i_19 : PySem.W.nsIn K mainGlobals "BACK_QUOTE" = some (some (.int 96 t_19)))
    (s_20 : PySem.W.nsIn K mainGlobals "SIXTEEN_DIGITS" = some (some (.str y_20 t_20)))
    (y1_20 : y_20 = "0123456789ABCDEF")
    (i_21 : PySem.W.nsIn K mainGlobals "LEAST_BITS" = some (some (.int 40 t_21)))
    (i_22 : PySem.W.nsIn K mainGlobals "LARGEST_SHIP" = some (some (.int 999999999 t_22)))
    (i_23 : PySem.W.nsIn K mainGlobals "LARGEST_X" = some (some (.int 108000000 t_23)))
    (i_24 : PySem.W.nsIn K mainGlobals "LARGEST_Y" = some (some (.int 54000000 t_24)))
    (i_25 : PySem.W.nsIn K mainGlobals "UNKNOWN_X" = some (some (.int 108600000 t_25)))
    (i_26 : PySem.W.nsIn K mainGlobals "UNKNOWN_Y" = some (some (.int 54600000 t_26)))
    (i_27 : PySem.W.nsIn K mainGlobals "BLANK" = some (some (.int 32 t_27)))
    (i_28 : PySem.W.nsIn K mainGlobals "MOST_WAITING" = some (some (.int 8 t_28)))
    (i_29 : PySem.W.nsIn K mainGlobals "LONGEST_WAIT" = some (some (.int 60 t_29)))
    (i_30 : PySem.W.nsIn K mainGlobals "LINE_CALL" = some (some (.int 1 t_30)))
    (i_31 : PySem.W.nsIn K mainGlobals "MOST_BYTES" = some (some (.int 1024 t_31)))
    (i_32 : PySem.W.nsIn K mainGlobals "LEAST_ROOM" = some (some (.int 512 t_32)))
    (i_33 : PySem.W.nsIn K mainGlobals "MOST_ROOM" = some (some (.int 1048576 t_33)))
    (i_34 : PySem.W.nsIn K mainGlobals "MOST_SHIPS" = some (some (.int 256 t_34)))
    (l_tw : K.lookup tw = some ⟨.type "tuple", od_tw, .seq its_tw nn_tw, sl_tw⟩)
    (v_tw : strsOk ["name", "call", "imo", "kind", "bow", "stern", "port", "starboard", "draught", "to", "status", "turn", "speed", "course", "heading", "x", "y", "year", "month", "day", "hour", "minute", "second"] its_tw = true)
    (l_ts : K.lookup ts = some ⟨.type "tuple", od_ts, .seq its_ts nn_ts, sl_ts⟩)
    (v_ts : strsOk ["VDM", "VDO"] its_ts = true)
    (l_tc : K.lookup tc = some ⟨.type "tuple", od_tc, .seq its_tc nn_tc, sl_tc⟩)
    (v_tc : strsOk ["", "A", "B", "1", "2"] its_tc = true)
    (e_xl : PySem.W.excIn K xl bmE "Exception.__new__" = true)
    (e_xo : PySem.W.excIn K xo bmE "Exception.__new__" = true)
    (e_xm : PySem.W.excIn K xm bmE "Exception.__new__" = true)
    (e_xp : PySem.W.excIn K xp bmE "Exception.__new__" = true)
    (pg_cs : PySem.W.plainGet K cs Str.empty = true)
    (hd_cs : PySem.W.hasDictIn K cs = true)
    (po_cs : PySem.W.plainOver K cs = true)
    (sa_cs : PySem.W.findIn K (.ref cs) "__setattr__" = some (some (.builtin "object.__setattr__")))
    (pg_cm : PySem.W.plainGet K cm Str.empty = true)
    (hd_cm : PySem.W.hasDictIn K cm = true)
    (po_cm : PySem.W.plainOver K cm = true)
    (sa_cm : PySem.W.findIn K (.ref cm) "__setattr__" = some (some (.builtin "object.__setattr__")))
    (pg_cb : PySem.W.plainGet K cb Str.empty = true)
    (hd_cb : PySem.W.hasDictIn K cb = true)
    (po_cb : PySem.W.plainOver K cb = true)
    (sa_cb : PySem.W.findIn K (.ref cb) "__setattr__" = some (some (.builtin "object.__setattr__")))
    (pg_cw : PySem.W.plainGet K cw Str.empty = true)
    (hd_cw : PySem.W.hasDictIn K cw = true)
    (po_cw : PySem.W.plainOver K cw = true)
    (sa_cw : PySem.W.findIn K (.ref cw) "__setattr__" = some (some (.builtin "object.__setattr__")))
    (pg_ch : PySem.W.plainGet K ch Str.empty = true)
    (hd_ch : PySem.W.hasDictIn K ch = true)
    (po_ch : PySem.W.plainOver K ch = true)
    (sa_ch : PySem.W.findIn K (.ref ch) "__setattr__" = some (some (.builtin "object.__setattr__")))
    (pg_cf : PySem.W.plainGet K cf Str.empty = true)
    (hd_cf : PySem.W.hasDictIn K cf = true)
    (po_cf : PySem.W.plainOver K cf = true)
    (sa_cf : PySem.W.findIn K (.ref cf) "__setattr__" = some (some (.builtin "object.__setattr__")))
    (na_48 : PySem.W.findIn K (.ref cs) "key" = some none)
    (na_49 : PySem.W.findIn K (.ref cs) "parts" = some none)
    (na_50 : PySem.W.findIn K (.ref cs) "which" = some none)
    (na_51 : PySem.W.findIn K (.ref cs) "bits" = some none)
    (na_52 : PySem.W.findIn K (.ref cm) "bits" = some none)
    (na_53 : PySem.W.findIn K (.ref cm) "ship" = some none)
    (na_54 : PySem.W.findIn K (.ref cm) "told" = some none)
    (na_55 : PySem.W.findIn K (.ref cb) "since" = some none)
    (na_56 : PySem.W.findIn K (.ref cb) "parts" = some none)
    (na_57 : PySem.W.findIn K (.ref cb) "which" = some none)
    (na_58 : PySem.W.findIn K (.ref cb) "bits" = some none)
    (na_59 : PySem.W.findIn K (.ref cw) "begun" = some none)
    (na_60 : PySem.W.findIn K (.ref ch) "heard" = some none)
    (na_61 : PySem.W.findIn K (.ref ch) "known" = some none)
    (na_62 : PySem.W.findIn K (.ref cf) "time" = some none)
    (na_63 : PySem.W.findIn K (.ref cf) "waiting" = some none)
    (na_64 : PySem.W.findIn K (.ref cf) "ships" = some none)
    (a_65 : PySem.W.nsIn K mainGlobals "codes" = some (some (.ref f_65)))
    (l_65 : K.lookup f_65 = some ⟨oc_65, od_65, .func (PySem.W.fnOf "codes" "codes" (defArgs (top 4)) (defBody (top 4)) (defScope (top 4)) .none kV_65 doc_65 pm_65 an_65 cd_65 ct_65), sl_65⟩)
    (c_65 : PySem.W.codeIn K cd_65 "codes" = true)
    (k_65 : PySem.W.keepIn K (.ref f_65) = true)
    (a_66 : PySem.W.nsIn K mainGlobals "written_number" = some (some (.ref f_66)))
    (l_66 : K.lookup f_66 = some ⟨oc_66, od_66, .func (PySem.W.fnOf "written_number" "written_number" (defArgs (top 5)) (defBody (top 5)) (defScope (top 5)) .none kV_66 doc_66 pm_66 an_66 cd_66 ct_66), sl_66⟩)
    (c_66 : PySem.W.codeIn K cd_66 "written_number" = true)
    (k_66 : PySem.W.keepIn K (.ref f_66) = true)
    (a_67 : PySem.W.nsIn K mainGlobals "written_text" = some (some (.ref f_67)))
    (l_67 : K.lookup f_67 = some ⟨oc_67, od_67, .func (PySem.W.fnOf "written_text" "written_text" (defArgs (top 6)) (defBody (top 6)) (defScope (top 6)) .none kV_67 doc_67 pm_67 an_67 cd_67 ct_67), sl_67⟩)
    (c_67 : PySem.W.codeIn K cd_67 "written_text" = true)
    (k_67 : PySem.W.keepIn K (.ref f_67) = true)
    (a_68 : PySem.W.nsIn K mainGlobals "ship_line" = some (some (.ref f_68)))
    (l_68 : K.lookup f_68 = some ⟨oc_68, od_68, .func (PySem.W.fnOf "ship_line" "ship_line" (defArgs (top 7)) (defBody (top 7)) (defScope (top 7)) .none kV_68 doc_68 pm_68 an_68 cd_68 ct_68), sl_68⟩)
    (c_68 : PySem.W.codeIn K cd_68 "ship_line" = true)
    (k_68 : PySem.W.keepIn K (.ref f_68) = true)
    (m_69 : PySem.W.makesIn K cs = true)
    (a_69 : PySem.W.findIn K (.ref cs) "__init__" = some (some (.ref f_69)))
    (g_69 : PySem.W.isFn K (.ref f_69) = true)
    (k_69 : PySem.W.keepIn K (.ref cs) = true)
    (l_69 : K.lookup f_69 = some ⟨oc_69, od_69, .func (PySem.W.fnOf "__init__" "Sentence.__init__" (defArgs (inClass (top 20) 0)) (defBody (inClass (top 20) 0)) (defScope (inClass (top 20) 0)) .none kV_69 doc_69 pm_69 an_69 cd_69 ct_69), sl_69⟩)
    (c_69 : PySem.W.codeIn K cd_69 "Sentence.__init__" = true)
    (a_70 : PySem.W.nsIn K mainGlobals "without_ending" = some (some (.ref f_70)))
    (l_70 : K.lookup f_70 = some ⟨oc_70, od_70, .func (PySem.W.fnOf "without_ending" "without_ending" (defArgs (top 21)) (defBody (top 21)) (defScope (top 21)) .none kV_70 doc_70 pm_70 an_70 cd_70 ct_70), sl_70⟩)
    (c_70 : PySem.W.codeIn K cd_70 "without_ending" = true)
    (k_70 : PySem.W.keepIn K (.ref f_70) = true)
    (a_71 : PySem.W.nsIn K mainGlobals "split_at_commas" = some (some (.ref f_71)))
    (l_71 : K.lookup f_71 = some ⟨oc_71, od_71, .func (PySem.W.fnOf "split_at_commas" "split_at_commas" (defArgs (top 22)) (defBody (top 22)) (defScope (top 22)) .none kV_71 doc_71 pm_71 an_71 cd_71 ct_71), sl_71⟩)
    (c_71 : PySem.W.codeIn K cd_71 "split_at_commas" = true)
    (k_71 : PySem.W.keepIn K (.ref f_71) = true)
    (a_72 : PySem.W.nsIn K mainGlobals "is_capital" = some (some (.ref f_72)))
    (l_72 : K.lookup f_72 = some ⟨oc_72, od_72, .func (PySem.W.fnOf "is_capital" "is_capital" (defArgs (top 23)) (defBody (top 23)) (defScope (top 23)) .none kV_72 doc_72 pm_72 an_72 cd_72 ct_72), sl_72⟩)
    (c_72 : PySem.W.codeIn K cd_72 "is_capital" = true)
    (k_72 : PySem.W.keepIn K (.ref f_72) = true)
    (a_73 : PySem.W.nsIn K mainGlobals "is_payload" = some (some (.ref f_73)))
    (l_73 : K.lookup f_73 = some ⟨oc_73, od_73, .func (PySem.W.fnOf "is_payload" "is_payload" (defArgs (top 24)) (defBody (top 24)) (defScope (top 24)) .none kV_73 doc_73 pm_73 an_73 cd_73 ct_73), sl_73⟩)
    (c_73 : PySem.W.codeIn K cd_73 "is_payload" = true)
    (k_73 : PySem.W.keepIn K (.ref f_73) = true)
    (a_74 : PySem.W.nsIn K mainGlobals "check_head" = some (some (.ref f_74)))
    (l_74 : K.lookup f_74 = some ⟨oc_74, od_74, .func (PySem.W.fnOf "check_head" "check_head" (defArgs (top 25)) (defBody (top 25)) (defScope (top 25)) .none kV_74 doc_74 pm_74 an_74 cd_74 ct_74), sl_74⟩)
    (c_74 : PySem.W.codeIn K cd_74 "check_head" = true)
    (k_74 : PySem.W.keepIn K (.ref f_74) = true)
    (a_75 : PySem.W.nsIn K mainGlobals "read_digit" = some (some (.ref f_75)))
    (l_75 : K.lookup f_75 = some ⟨oc_75, od_75, .func (PySem.W.fnOf "read_digit" "read_digit" (defArgs (top 26)) (defBody (top 26)) (defScope (top 26)) .none kV_75 doc_75 pm_75 an_75 cd_75 ct_75), sl_75⟩)
    (c_75 : PySem.W.codeIn K cd_75 "read_digit" = true)
    (k_75 : PySem.W.keepIn K (.ref f_75) = true)
    (a_76 : PySem.W.nsIn K mainGlobals "check_group" = some (some (.ref f_76)))
    (l_76 : K.lookup f_76 = some ⟨oc_76, od_76, .func (PySem.W.fnOf "check_group" "check_group" (defArgs (top 27)) (defBody (top 27)) (defScope (top 27)) .none kV_76 doc_76 pm_76 an_76 cd_76 ct_76), sl_76⟩)
    (c_76 : PySem.W.codeIn K cd_76 "check_group" = true)
    (k_76 : PySem.W.keepIn K (.ref f_76) = true)
    (a_77 : PySem.W.nsIn K mainGlobals "check_channel" = some (some (.ref f_77)))
    (l_77 : K.lookup f_77 = some ⟨oc_77, od_77, .func (PySem.W.fnOf "check_channel" "check_channel" (defArgs (top 28)) (defBody (top 28)) (defScope (top 28)) .none kV_77 doc_77 pm_77 an_77 cd_77 ct_77), sl_77⟩)
    (c_77 : PySem.W.codeIn K cd_77 "check_channel" = true)
    (k_77 : PySem.W.keepIn K (.ref f_77) = true)
    (a_78 : PySem.W.nsIn K mainGlobals "check_payload" = some (some (.ref f_78)))
    (l_78 : K.lookup f_78 = some ⟨oc_78, od_78, .func (PySem.W.fnOf "check_payload" "check_payload" (defArgs (top 29)) (defBody (top 29)) (defScope (top 29)) .none kV_78 doc_78 pm_78 an_78 cd_78 ct_78), sl_78⟩)
    (c_78 : PySem.W.codeIn K cd_78 "check_payload" = true)
    (k_78 : PySem.W.keepIn K (.ref f_78) = true)
    (a_79 : PySem.W.nsIn K mainGlobals "check_tail" = some (some (.ref f_79)))
    (l_79 : K.lookup f_79 = some ⟨oc_79, od_79, .func (PySem.W.fnOf "check_tail" "check_tail" (defArgs (top 30)) (defBody (top 30)) (defScope (top 30)) .none kV_79 doc_79 pm_79 an_79 cd_79 ct_79), sl_79⟩)
    (c_79 : PySem.W.codeIn K cd_79 "check_tail" = true)
    (k_79 : PySem.W.keepIn K (.ref f_79) = true)
    (a_80 : PySem.W.nsIn K mainGlobals "read_sum" = some (some (.ref f_80)))
    (l_80 : K.lookup f_80 = some ⟨oc_80, od_80, .func (PySem.W.fnOf "read_sum" "read_sum" (defArgs (top 31)) (defBody (top 31)) (defScope (top 31)) .none kV_80 doc_80 pm_80 an_80 cd_80 ct_80), sl_80⟩)
    (c_80 : PySem.W.codeIn K cd_80 "read_sum" = true)
    (k_80 : PySem.W.keepIn K (.ref f_80) = true)
    (a_81 : PySem.W.nsIn K mainGlobals "sum_of" = some (some (.ref f_81)))
    (l_81 : K.lookup f_81 = some ⟨oc_81, od_81, .func (PySem.W.fnOf "sum_of" "sum_of" (defArgs (top 32)) (defBody (top 32)) (defScope (top 32)) .none kV_81 doc_81 pm_81 an_81 cd_81 ct_81), sl_81⟩)
    (c_81 : PySem.W.codeIn K cd_81 "sum_of" = true)
    (k_81 : PySem.W.keepIn K (.ref f_81) = true)
    (a_82 : PySem.W.nsIn K mainGlobals "bits_of" = some (some (.ref f_82)))
    (l_82 : K.lookup f_82 = some ⟨oc_82, od_82, .func (PySem.W.fnOf "bits_of" "bits_of" (defArgs (top 33)) (defBody (top 33)) (defScope (top 33)) .none kV_82 doc_82 pm_82 an_82 cd_82 ct_82), sl_82⟩)
    (c_82 : PySem.W.codeIn K cd_82 "bits_of" = true)
    (k_82 : PySem.W.keepIn K (.ref f_82) = true)
    (a_83 : PySem.W.nsIn K mainGlobals "read_sentence" = some (some (.ref f_83)))
    (l_83 : K.lookup f_83 = some ⟨oc_83, od_83, .func (PySem.W.fnOf "read_sentence" "read_sentence" (defArgs (top 34)) (defBody (top 34)) (defScope (top 34)) .none kV_83 doc_83 pm_83 an_83 cd_83 ct_83), sl_83⟩)
    (c_83 : PySem.W.codeIn K cd_83 "read_sentence" = true)
    (k_83 : PySem.W.keepIn K (.ref f_83) = true)
    (m_84 : PySem.W.makesIn K cm = true)
    (a_84 : PySem.W.findIn K (.ref cm) "__init__" = some (some (.ref f_84)))
    (g_84 : PySem.W.isFn K (.ref f_84) = true)
    (k_84 : PySem.W.keepIn K (.ref cm) = true)
    (l_84 : K.lookup f_84 = some ⟨oc_84, od_84, .func (PySem.W.fnOf "__init__" "Message.__init__" (defArgs (inClass (top 44) 0)) (defBody (inClass (top 44) 0)) (defScope (inClass (top 44) 0)) .none kV_84 doc_84 pm_84 an_84 cd_84 ct_84), sl_84⟩)
    (c_84 : PySem.W.codeIn K cd_84 "Message.__init__" = true)
    (a_85 : PySem.W.findIn K (.ref cm) "unsigned" = some (some (.ref f_85)))
    (g_85 : PySem.W.isFn K (.ref f_85) = true)
    (k_85 : PySem.W.keepIn K (.ref f_85) = true)
    (l_85 : K.lookup f_85 = some ⟨oc_85, od_85, .func (PySem.W.fnOf "unsigned" "Message.unsigned" (defArgs (inClass (top 44) 1)) (defBody (inClass (top 44) 1)) (defScope (inClass (top 44) 1)) .none kV_85 doc_85 pm_85 an_85 cd_85 ct_85), sl_85⟩)
    (c_85 : PySem.W.codeIn K cd_85 "Message.unsigned" = true)
    (a_86 : PySem.W.findIn K (.ref cm) "signed" = some (some (.ref f_86)))
    (g_86 : PySem.W.isFn K (.ref f_86) = true)
    (k_86 : PySem.W.keepIn K (.ref f_86) = true)
    (l_86 : K.lookup f_86 = some ⟨oc_86, od_86, .func (PySem.W.fnOf "signed" "Message.signed" (defArgs (inClass (top 44) 2)) (defBody (inClass (top 44) 2)) (defScope (inClass (top 44) 2)) .none kV_86 doc_86 pm_86 an_86 cd_86 ct_86), sl_86⟩)
    (c_86 : PySem.W.codeIn K cd_86 "Message.signed" = true)
    (a_87 : PySem.W.findIn K (.ref cm) "letters" = some (some (.ref f_87)))
    (g_87 : PySem.W.isFn K (.ref f_87) = true)
    (k_87 : PySem.W.keepIn K (.ref f_87) = true)
    (l_87 : K.lookup f_87 = some ⟨oc_87, od_87, .func (PySem.W.fnOf "letters" "Message.letters" (defArgs (inClass (top 44) 3)) (defBody (inClass (top 44) 3)) (defScope (inClass (top 44) 3)) .none kV_87 doc_87 pm_87 an_87 cd_87 ct_87), sl_87⟩)
    (c_87 : PySem.W.codeIn K cd_87 "Message.letters" = true)
    (a_88 : PySem.W.findIn K (.ref cm) "tell" = some (some (.ref f_88)))
    (g_88 : PySem.W.isFn K (.ref f_88) = true)
    (k_88 : PySem.W.keepIn K (.ref f_88) = true)
    (l_88 : K.lookup f_88 = some ⟨oc_88, od_88, .func (PySem.W.fnOf "tell" "Message.tell" (defArgs (inClass (top 44) 4)) (defBody (inClass (top 44) 4)) (defScope (inClass (top 44) 4)) .none kV_88 doc_88 pm_88 an_88 cd_88 ct_88), sl_88⟩)
    (c_88 : PySem.W.codeIn K cd_88 "Message.tell" = true)
    (a_89 : PySem.W.findIn K (.ref cm) "tell_number" = some (some (.ref f_89)))
    (g_89 : PySem.W.isFn K (.ref f_89) = true)
    (k_89 : PySem.W.keepIn K (.ref f_89) = true)
    (l_89 : K.lookup f_89 = some ⟨oc_89, od_89, .func (PySem.W.fnOf "tell_number" "Message.tell_number" (defArgs (inClass (top 44) 5)) (defBody (inClass (top 44) 5)) (defScope (inClass (top 44) 5)) (.ref Td) kV_89 doc_89 pm_89 an_89 cd_89 ct_89), sl_89⟩)
    (c_89 : PySem.W.codeIn K cd_89 "Message.tell_number" = true)
    (td_89 : K.lookup Td = some ⟨.type "tuple", odT, .seq #[.none] nT, slT⟩)
    (a_91 : PySem.W.findIn K (.ref cm) "tell_text" = some (some (.ref f_91)))
    (g_91 : PySem.W.isFn K (.ref f_91) = true)
    (k_91 : PySem.W.keepIn K (.ref f_91) = true)
    (l_91 : K.lookup f_91 = some ⟨oc_91, od_91, .func (PySem.W.fnOf "tell_text" "Message.tell_text" (defArgs (inClass (top 44) 6)) (defBody (inClass (top 44) 6)) (defScope (inClass (top 44) 6)) .none kV_91 doc_91 pm_91 an_91 cd_91 ct_91), sl_91⟩)
    (c_91 : PySem.W.codeIn K cd_91 "Message.tell_text" = true)
    (a_92 : PySem.W.nsIn K mainGlobals "check_length" = some (some (.ref f_92)))
    (l_92 : K.lookup f_92 = some ⟨oc_92, od_92, .func (PySem.W.fnOf "check_length" "check_length" (defArgs (top 45)) (defBody (top 45)) (defScope (top 45)) .none kV_92 doc_92 pm_92 an_92 cd_92 ct_92), sl_92⟩)
    (c_92 : PySem.W.codeIn K cd_92 "check_length" = true)
    (k_92 : PySem.W.keepIn K (.ref f_92) = true)
    (a_93 : PySem.W.nsIn K mainGlobals "tell_place" = some (some (.ref f_93)))
    (l_93 : K.lookup f_93 = some ⟨oc_93, od_93, .func (PySem.W.fnOf "tell_place" "tell_place" (defArgs (top 46)) (defBody (top 46)) (defScope (top 46)) .none kV_93 doc_93 pm_93 an_93 cd_93 ct_93), sl_93⟩)
    (c_93 : PySem.W.codeIn K cd_93 "tell_place" = true)
    (k_93 : PySem.W.keepIn K (.ref f_93) = true)
    (a_94 : PySem.W.nsIn K mainGlobals "tell_way" = some (some (.ref f_94)))
    (l_94 : K.lookup f_94 = some ⟨oc_94, od_94, .func (PySem.W.fnOf "tell_way" "tell_way" (defArgs (top 47)) (defBody (top 47)) (defScope (top 47)) .none kV_94 doc_94 pm_94 an_94 cd_94 ct_94), sl_94⟩)
    (c_94 : PySem.W.codeIn K cd_94 "tell_way" = true)
    (k_94 : PySem.W.keepIn K (.ref f_94) = true)
    (a_95 : PySem.W.nsIn K mainGlobals "tell_sizes" = some (some (.ref f_95)))
    (l_95 : K.lookup f_95 = some ⟨oc_95, od_95, .func (PySem.W.fnOf "tell_sizes" "tell_sizes" (defArgs (top 48)) (defBody (top 48)) (defScope (top 48)) .none kV_95 doc_95 pm_95 an_95 cd_95 ct_95), sl_95⟩)
    (c_95 : PySem.W.codeIn K cd_95 "tell_sizes" = true)
    (k_95 : PySem.W.keepIn K (.ref f_95) = true)
    (a_96 : PySem.W.nsIn K mainGlobals "tell_date" = some (some (.ref f_96)))
    (l_96 : K.lookup f_96 = some ⟨oc_96, od_96, .func (PySem.W.fnOf "tell_date" "tell_date" (defArgs (top 49)) (defBody (top 49)) (defScope (top 49)) .none kV_96 doc_96 pm_96 an_96 cd_96 ct_96), sl_96⟩)
    (c_96 : PySem.W.codeIn K cd_96 "tell_date" = true)
    (k_96 : PySem.W.keepIn K (.ref f_96) = true)
    (a_97 : PySem.W.nsIn K mainGlobals "tell_turn" = some (some (.ref f_97)))
    (l_97 : K.lookup f_97 = some ⟨oc_97, od_97, .func (PySem.W.fnOf "tell_turn" "tell_turn" (defArgs (top 50)) (defBody (top 50)) (defScope (top 50)) .none kV_97 doc_97 pm_97 an_97 cd_97 ct_97), sl_97⟩)
    (c_97 : PySem.W.codeIn K cd_97 "tell_turn" = true)
    (k_97 : PySem.W.keepIn K (.ref f_97) = true)
    (a_98 : PySem.W.nsIn K mainGlobals "tell_kinds_1_2_3" = some (some (.ref f_98)))
    (l_98 : K.lookup f_98 = some ⟨oc_98, od_98, .func (PySem.W.fnOf "tell_kinds_1_2_3" "tell_kinds_1_2_3" (defArgs (top 51)) (defBody (top 51)) (defScope (top 51)) .none kV_98 doc_98 pm_98 an_98 cd_98 ct_98), sl_98⟩)
    (c_98 : PySem.W.codeIn K cd_98 "tell_kinds_1_2_3" = true)
    (k_98 : PySem.W.keepIn K (.ref f_98) = true)
    (a_99 : PySem.W.nsIn K mainGlobals "tell_kind_4" = some (some (.ref f_99)))
    (l_99 : K.lookup f_99 = some ⟨oc_99, od_99, .func (PySem.W.fnOf "tell_kind_4" "tell_kind_4" (defArgs (top 52)) (defBody (top 52)) (defScope (top 52)) .none kV_99 doc_99 pm_99 an_99 cd_99 ct_99), sl_99⟩)
    (c_99 : PySem.W.codeIn K cd_99 "tell_kind_4" = true)
    (k_99 : PySem.W.keepIn K (.ref f_99) = true)
    (a_100 : PySem.W.nsIn K mainGlobals "tell_kind_5" = some (some (.ref f_100)))
    (l_100 : K.lookup f_100 = some ⟨oc_100, od_100, .func (PySem.W.fnOf "tell_kind_5" "tell_kind_5" (defArgs (top 53)) (defBody (top 53)) (defScope (top 53)) .none kV_100 doc_100 pm_100 an_100 cd_100 ct_100), sl_100⟩)
    (c_100 : PySem.W.codeIn K cd_100 "tell_kind_5" = true)
    (k_100 : PySem.W.keepIn K (.ref f_100) = true)
    (a_101 : PySem.W.nsIn K mainGlobals "tell_kind_18" = some (some (.ref f_101)))
    (l_101 : K.lookup f_101 = some ⟨oc_101, od_101, .func (PySem.W.fnOf "tell_kind_18" "tell_kind_18" (defArgs (top 54)) (defBody (top 54)) (defScope (top 54)) .none kV_101 doc_101 pm_101 an_101 cd_101 ct_101), sl_101⟩)
    (c_101 : PySem.W.codeIn K cd_101 "tell_kind_18" = true)
    (k_101 : PySem.W.keepIn K (.ref f_101) = true)
    (a_102 : PySem.W.nsIn K mainGlobals "tell_kind_24" = some (some (.ref f_102)))
    (l_102 : K.lookup f_102 = some ⟨oc_102, od_102, .func (PySem.W.fnOf "tell_kind_24" "tell_kind_24" (defArgs (top 55)) (defBody (top 55)) (defScope (top 55)) .none kV_102 doc_102 pm_102 an_102 cd_102 ct_102), sl_102⟩)
    (c_102 : PySem.W.codeIn K cd_102 "tell_kind_24" = true)
    (k_102 : PySem.W.keepIn K (.ref f_102) = true)
    (a_103 : PySem.W.nsIn K mainGlobals "tell_by_kind" = some (some (.ref f_103)))
    (l_103 : K.lookup f_103 = some ⟨oc_103, od_103, .func (PySem.W.fnOf "tell_by_kind" "tell_by_kind" (defArgs (top 56)) (defBody (top 56)) (defScope (top 56)) .none kV_103 doc_103 pm_103 an_103 cd_103 ct_103), sl_103⟩)
    (c_103 : PySem.W.codeIn K cd_103 "tell_by_kind" = true)
    (k_103 : PySem.W.keepIn K (.ref f_103) = true)
    (a_104 : PySem.W.nsIn K mainGlobals "read_message" = some (some (.ref f_104)))
    (l_104 : K.lookup f_104 = some ⟨oc_104, od_104, .func (PySem.W.fnOf "read_message" "read_message" (defArgs (top 57)) (defBody (top 57)) (defScope (top 57)) .none kV_104 doc_104 pm_104 an_104 cd_104 ct_104), sl_104⟩)
    (c_104 : PySem.W.codeIn K cd_104 "read_message" = true)
    (k_104 : PySem.W.keepIn K (.ref f_104) = true)
    (m_105 : PySem.W.makesIn K cb = true)
    (a_105 : PySem.W.findIn K (.ref cb) "__init__" = some (some (.ref f_105)))
    (g_105 : PySem.W.isFn K (.ref f_105) = true)
    (k_105 : PySem.W.keepIn K (.ref cb) = true)
    (l_105 : K.lookup f_105 = some ⟨oc_105, od_105, .func (PySem.W.fnOf "__init__" "Begun.__init__" (defArgs (inClass (top 62) 0)) (defBody (inClass (top 62) 0)) (defScope (inClass (top 62) 0)) .none kV_105 doc_105 pm_105 an_105 cd_105 ct_105), sl_105⟩)
    (c_105 : PySem.W.codeIn K cd_105 "Begun.__init__" = true)
    (m_106 : PySem.W.makesIn K cw = true)
    (a_106 : PySem.W.findIn K (.ref cw) "__init__" = some (some (.ref f_106)))
    (g_106 : PySem.W.isFn K (.ref f_106) = true)
    (k_106 : PySem.W.keepIn K (.ref cw) = true)
    (l_106 : K.lookup f_106 = some ⟨oc_106, od_106, .func (PySem.W.fnOf "__init__" "Waiting.__init__" (defArgs (inClass (top 63) 0)) (defBody (inClass (top 63) 0)) (defScope (inClass (top 63) 0)) .none kV_106 doc_106 pm_106 an_106 cd_106 ct_106), sl_106⟩)
    (c_106 : PySem.W.codeIn K cd_106 "Waiting.__init__" = true)
    (a_107 : PySem.W.findIn K (.ref cw) "take" = some (some (.ref f_107)))
    (g_107 : PySem.W.isFn K (.ref f_107) = true)
    (k_107 : PySem.W.keepIn K (.ref f_107) = true)
    (l_107 : K.lookup f_107 = some ⟨oc_107, od_107, .func (PySem.W.fnOf "take" "Waiting.take" (defArgs (inClass (top 63) 1)) (defBody (inClass (top 63) 1)) (defScope (inClass (top 63) 1)) .none kV_107 doc_107 pm_107 an_107 cd_107 ct_107), sl_107⟩)
    (c_107 : PySem.W.codeIn K cd_107 "Waiting.take" = true)
    (a_108 : PySem.W.findIn K (.ref cw) "forget" = some (some (.ref f_108)))
    (g_108 : PySem.W.isFn K (.ref f_108) = true)
    (k_108 : PySem.W.keepIn K (.ref f_108) = true)
    (l_108 : K.lookup f_108 = some ⟨oc_108, od_108, .func (PySem.W.fnOf "forget" "Waiting.forget" (defArgs (inClass (top 63) 2)) (defBody (inClass (top 63) 2)) (defScope (inClass (top 63) 2)) .none kV_108 doc_108 pm_108 an_108 cd_108 ct_108), sl_108⟩)
    (c_108 : PySem.W.codeIn K cd_108 "Waiting.forget" = true)
    (a_109 : PySem.W.findIn K (.ref cw) "begin" = some (some (.ref f_109)))
    (g_109 : PySem.W.isFn K (.ref f_109) = true)
    (k_109 : PySem.W.keepIn K (.ref f_109) = true)
    (l_109 : K.lookup f_109 = some ⟨oc_109, od_109, .func (PySem.W.fnOf "begin" "Waiting.begin" (defArgs (inClass (top 63) 3)) (defBody (inClass (top 63) 3)) (defScope (inClass (top 63) 3)) .none kV_109 doc_109 pm_109 an_109 cd_109 ct_109), sl_109⟩)
    (c_109 : PySem.W.codeIn K cd_109 "Waiting.begin" = true)
    (a_110 : PySem.W.findIn K (.ref cw) "go_on" = some (some (.ref f_110)))
    (g_110 : PySem.W.isFn K (.ref f_110) = true)
    (k_110 : PySem.W.keepIn K (.ref f_110) = true)
    (l_110 : K.lookup f_110 = some ⟨oc_110, od_110, .func (PySem.W.fnOf "go_on" "Waiting.go_on" (defArgs (inClass (top 63) 4)) (defBody (inClass (top 63) 4)) (defScope (inClass (top 63) 4)) .none kV_110 doc_110 pm_110 an_110 cd_110 ct_110), sl_110⟩)
    (c_110 : PySem.W.codeIn K cd_110 "Waiting.go_on" = true)
    (m_111 : PySem.W.makesIn K ch = true)
    (a_111 : PySem.W.findIn K (.ref ch) "__init__" = some (some (.ref f_111)))
    (g_111 : PySem.W.isFn K (.ref f_111) = true)
    (k_111 : PySem.W.keepIn K (.ref ch) = true)
    (l_111 : K.lookup f_111 = some ⟨oc_111, od_111, .func (PySem.W.fnOf "__init__" "Ship.__init__" (defArgs (inClass (top 70) 0)) (defBody (inClass (top 70) 0)) (defScope (inClass (top 70) 0)) .none kV_111 doc_111 pm_111 an_111 cd_111 ct_111), sl_111⟩)
    (c_111 : PySem.W.codeIn K cd_111 "Ship.__init__" = true)
    (m_112 : PySem.W.makesIn K cf = true)
    (a_112 : PySem.W.findIn K (.ref cf) "__init__" = some (some (.ref f_112)))
    (g_112 : PySem.W.isFn K (.ref f_112) = true)
    (k_112 : PySem.W.keepIn K (.ref cf) = true)
    (l_112 : K.lookup f_112 = some ⟨oc_112, od_112, .func (PySem.W.fnOf "__init__" "Ships.__init__" (defArgs (inClass (top 71) 0)) (defBody (inClass (top 71) 0)) (defScope (inClass (top 71) 0)) .none kV_112 doc_112 pm_112 an_112 cd_112 ct_112), sl_112⟩)
    (c_112 : PySem.W.codeIn K cd_112 "Ships.__init__" = true)
    (a_113 : PySem.W.findIn K (.ref cf) "hear_line" = some (some (.ref f_113)))
    (g_113 : PySem.W.isFn K (.ref f_113) = true)
    (k_113 : PySem.W.keepIn K (.ref f_113) = true)
    (l_113 : K.lookup f_113 = some ⟨oc_113, od_113, .func (PySem.W.fnOf "hear_line" "Ships.hear_line" (defArgs (inClass (top 71) 1)) (defBody (inClass (top 71) 1)) (defScope (inClass (top 71) 1)) .none kV_113 doc_113 pm_113 an_113 cd_113 ct_113), sl_113⟩)
    (c_113 : PySem.W.codeIn K cd_113 "Ships.hear_line" = true)
    (a_114 : PySem.W.findIn K (.ref cf) "take_line" = some (some (.ref f_114)))
    (g_114 : PySem.W.isFn K (.ref f_114) = true)
    (k_114 : PySem.W.keepIn K (.ref f_114) = true)
    (l_114 : K.lookup f_114 = some ⟨oc_114, od_114, .func (PySem.W.fnOf "take_line" "Ships.take_line" (defArgs (inClass (top 71) 2)) (defBody (inClass (top 71) 2)) (defScope (inClass (top 71) 2)) .none kV_114 doc_114 pm_114 an_114 cd_114 ct_114), sl_114⟩)
    (c_114 : PySem.W.codeIn K cd_114 "Ships.take_line" = true)
    (a_115 : PySem.W.findIn K (.ref cf) "keep" = some (some (.ref f_115)))
    (g_115 : PySem.W.isFn K (.ref f_115) = true)
    (k_115 : PySem.W.keepIn K (.ref f_115) = true)
    (l_115 : K.lookup f_115 = some ⟨oc_115, od_115, .func (PySem.W.fnOf "keep" "Ships.keep" (defArgs (inClass (top 71) 3)) (defBody (inClass (top 71) 3)) (defScope (inClass (top 71) 3)) .none kV_115 doc_115 pm_115 an_115 cd_115 ct_115), sl_115⟩)
    (c_115 : PySem.W.codeIn K cd_115 "Ships.keep" = true)
    (a_116 : PySem.W.findIn K (.ref cf) "make_room" = some (some (.ref f_116)))
    (g_116 : PySem.W.isFn K (.ref f_116) = true)
    (k_116 : PySem.W.keepIn K (.ref f_116) = true)
    (l_116 : K.lookup f_116 = some ⟨oc_116, od_116, .func (PySem.W.fnOf "make_room" "Ships.make_room" (defArgs (inClass (top 71) 4)) (defBody (inClass (top 71) 4)) (defScope (inClass (top 71) 4)) .none kV_116 doc_116 pm_116 an_116 cd_116 ct_116), sl_116⟩)
    (c_116 : PySem.W.codeIn K cd_116 "Ships.make_room" = true)
    (a_117 : PySem.W.findIn K (.ref cf) "list_ships" = some (some (.ref f_117)))
    (g_117 : PySem.W.isFn K (.ref f_117) = true)
    (k_117 : PySem.W.keepIn K (.ref f_117) = true)
    (l_117 : K.lookup f_117 = some ⟨oc_117, od_117, .func (PySem.W.fnOf "list_ships" "Ships.list_ships" (defArgs (inClass (top 71) 5)) (defBody (inClass (top 71) 5)) (defScope (inClass (top 71) 5)) .none kV_117 doc_117 pm_117 an_117 cd_117 ct_117), sl_117⟩)
    (c_117 : PySem.W.codeIn K cd_117 "Ships.list_ships" = true)
    (a_118 : PySem.W.nsIn K mainGlobals "answers" = some (some (.ref f_118)))
    (l_118 : K.lookup f_118 = some ⟨oc_118, od_118, .func (PySem.W.fnOf "answers" "answers" (defArgs (top 72)) (defBody (top 72)) (defScope (top 72)) .none kV_118 doc_118 pm_118 an_118 cd_118 ct_118), sl_118⟩)
    (c_118 : PySem.W.codeIn K cd_118 "answers" = true)
    (k_118 : PySem.W.keepIn K (.ref f_118) = true)
    (dif : [cs, cm, cb, cw, ch, cf].Nodup)
    (mis_ll : PySem.W.exmOne K (.ref xl) (.ref xl) = some true)
    (mis_ol : PySem.W.exmOne K (.ref xo) (.ref xl) = some false)
    (mis_oo : PySem.W.exmOne K (.ref xo) (.ref xo) = some true)
    (mis_pl : PySem.W.exmOne K (.ref xp) (.ref xl) = some false)
    (mis_po : PySem.W.exmOne K (.ref xp) (.ref xo) = some false)
    (mis_pp : PySem.W.exmOne K (.ref xp) (.ref xp) = some true)
    (mis_ml : PySem.W.exmOne K (.ref xm) (.ref xl) = some false)
    (mis_mo : PySem.W.exmOne K (.ref xm) (.ref xo) = some false)
    (mis_mp : PySem.W.exmOne K (.ref xm) (.ref xp) = some false)
    (mis_mm : PySem.W.exmOne K (.ref xm) (.ref xm) = some true) :
    ∃ a : Adr, Txt K mg a ∧ Dif a ∧ Mis K a :=
  ⟨⟨cs, cm, cb, cw, ch, cf, xl, xo, xm, xp, tw, ts, tc⟩, {
    len := PySem.W.mg_none_of X G b_1,
    ord := PySem.W.mg_none_of X G b_2,
    str := PySem.W.mg_none_of X G b_3,
    range := PySem.W.mg_none_of X G b_4,
    all := PySem.W.mg_none_of X G b_5,
    tuple := PySem.W.mg_none_of X G b_6,
    list := PySem.W.mg_none_of X G b_7,
    abs := PySem.W.mg_none_of X G b_8,
    max := PySem.W.mg_none_of X G b_9,
    min := PySem.W.mg_none_of X G b_10,
    sorted := PySem.W.mg_none_of X G b_11,
    LINE_FEED := ⟨_, PySem.W.mg_of X G i_12⟩,
    QUOTE := ⟨_, PySem.W.mg_of X G i_13⟩,
    LONGEST_LINE := ⟨_, PySem.W.mg_of X G i_14⟩,
    FIELDS := ⟨_, PySem.W.mg_of X G i_15⟩,
    CARRIAGE_RETURN := ⟨_, PySem.W.mg_of X G i_16⟩,
    COMMA := ⟨_, PySem.W.mg_of X G i_17⟩,
    ZERO := ⟨_, PySem.W.mg_of X G i_18⟩,
    BACK_QUOTE := ⟨_, PySem.W.mg_of X G i_19⟩,
    SIXTEEN_DIGITS := ⟨_, y1_20 ▸ PySem.W.mg_of X G s_20⟩,
    LEAST_BITS := ⟨_, PySem.W.mg_of X G i_21⟩,
    LARGEST_SHIP := ⟨_, PySem.W.mg_of X G i_22⟩,
    LARGEST_X := ⟨_, PySem.W.mg_of X G i_23⟩,
    LARGEST_Y := ⟨_, PySem.W.mg_of X G i_24⟩,
    UNKNOWN_X := ⟨_, PySem.W.mg_of X G i_25⟩,
    UNKNOWN_Y := ⟨_, PySem.W.mg_of X G i_26⟩,
    BLANK := ⟨_, PySem.W.mg_of X G i_27⟩,
    MOST_WAITING := ⟨_, PySem.W.mg_of X G i_28⟩,
    LONGEST_WAIT := ⟨_, PySem.W.mg_of X G i_29⟩,
    LINE_CALL := ⟨_, PySem.W.mg_of X G i_30⟩,
    MOST_BYTES := ⟨_, PySem.W.mg_of X G i_31⟩,
    LEAST_ROOM := ⟨_, PySem.W.mg_of X G i_32⟩,
    MOST_ROOM := ⟨_, PySem.W.mg_of X G i_33⟩,
    MOST_SHIPS := ⟨_, PySem.W.mg_of X G i_34⟩,
    WORDS := gt_mk (PySem.W.mg_of X G n_tw) l_tw v_tw,
    SENTENCES := gt_mk (PySem.W.mg_of X G n_ts) l_ts v_ts,
    CHANNELS := gt_mk (PySem.W.mg_of X G n_tc) l_tc v_tc,
    xl := ⟨PySem.W.mg_of X G n_xl, e_xl⟩,
    xo := ⟨PySem.W.mg_of X G n_xo, e_xo⟩,
    xm := ⟨PySem.W.mg_of X G n_xm, e_xm⟩,
    xp := ⟨PySem.W.mg_of X G n_xp, e_xp⟩,
    cs := ⟨pg_cs, hd_cs, po_cs, sa_cs⟩,
    cm := ⟨pg_cm, hd_cm, po_cm, sa_cm⟩,
    cb := ⟨pg_cb, hd_cb, po_cb, sa_cb⟩,
    cw := ⟨pg_cw, hd_cw, po_cw, sa_cw⟩,
    ch := ⟨pg_ch, hd_ch, po_ch, sa_ch⟩,
    cf := ⟨pg_cf, hd_cf, po_cf, sa_cf⟩,
    s_key := na_48,
    s_parts := na_49,
    s_which := na_50,
    s_bits := na_51,
    m_bits := na_52,
    m_ship := na_53,
    m_told := na_54,
    b_since := na_55,
    b_parts := na_56,
    b_which := na_57,
    b_bits := na_58,
    w_begun := na_59,
    h_heard := na_60,
    h_known := na_61,
    f_time := na_62,
    f_waiting := na_63,
    f_ships := na_64,
    codes := df_mk X G a_65 l_65 c_65 k_65 (fun _ _ _ _ _ _ us hl => match us, hl with | [_], _ => rfl),
    written_number := df_mk X G a_66 l_66 c_66 k_66 (fun _ _ _ _ _ _ us hl => match us, hl with | [_], _ => rfl),
    written_text := df_mk X G a_67 l_67 c_67 k_67 (fun _ _ _ _ _ _ us hl => match us, hl with | [_], _ => rfl),
    ship_line := df_mk X G a_68 l_68 c_68 k_68 (fun _ _ _ _ _ _ us hl => match us, hl with | [_, _], _ => rfl),
    Sentence := dk_mk (PySem.W.mg_of X G n_cs) m_69 a_69 g_69 k_69 l_69 c_69 (fun _ _ _ _ _ _ us hl => match us, hl with | [_, _, _, _, _], _ => rfl),
    without_ending := df_mk X G a_70 l_70 c_70 k_70 (fun _ _ _ _ _ _ us hl => match us, hl with | [_], _ => rfl),
    split_at_commas := df_mk X G a_71 l_71 c_71 k_71 (fun _ _ _ _ _ _ us hl => match us, hl with | [_], _ => rfl),
    is_capital := df_mk X G a_72 l_72 c_72 k_72 (fun _ _ _ _ _ _ us hl => match us, hl with | [_], _ => rfl),
    is_payload := df_mk X G a_73 l_73 c_73 k_73 (fun _ _ _ _ _ _ us hl => match us, hl with | [_], _ => rfl),
    check_head := df_mk X G a_74 l_74 c_74 k_74 (fun _ _ _ _ _ _ us hl => match us, hl with | [_], _ => rfl),
    read_digit := df_mk X G a_75 l_75 c_75 k_75 (fun _ _ _ _ _ _ us hl => match us, hl with | [_, _, _], _ => rfl),
    check_group := df_mk X G a_76 l_76 c_76 k_76 (fun _ _ _ _ _ _ us hl => match us, hl with | [_, _], _ => rfl),
    check_channel := df_mk X G a_77 l_77 c_77 k_77 (fun _ _ _ _ _ _ us hl => match us, hl with | [_], _ => rfl),
    check_payload := df_mk X G a_78 l_78 c_78 k_78 (fun _ _ _ _ _ _ us hl => match us, hl with | [_], _ => rfl),
    check_tail := df_mk X G a_79 l_79 c_79 k_79 (fun _ _ _ _ _ _ us hl => match us, hl with | [_], _ => rfl),
    read_sum := df_mk X G a_80 l_80 c_80 k_80 (fun _ _ _ _ _ _ us hl => match us, hl with | [_], _ => rfl),
    sum_of := df_mk X G a_81 l_81 c_81 k_81 (fun _ _ _ _ _ _ us hl => match us, hl with | [_], _ => rfl),
    bits_of := df_mk X G a_82 l_82 c_82 k_82 (fun _ _ _ _ _ _ us hl => match us, hl with | [_, _], _ => rfl),
    read_sentence := df_mk X G a_83 l_83 c_83 k_83 (fun _ _ _ _ _ _ us hl => match us, hl with | [_], _ => rfl),
    Message := dk_mk (PySem.W.mg_of X G n_cm) m_84 a_84 g_84 k_84 l_84 c_84 (fun _ _ _ _ _ _ us hl => match us, hl with | [_, _], _ => rfl),
    unsigned := dm_mk a_85 g_85 k_85 l_85 c_85 (fun _ _ _ _ _ _ us hl => match us, hl with | [_, _, _], _ => rfl),
    signed := dm_mk a_86 g_86 k_86 l_86 c_86 (fun _ _ _ _ _ _ us hl => match us, hl with | [_, _, _], _ => rfl),
    letters := dm_mk a_87 g_87 k_87 l_87 c_87 (fun _ _ _ _ _ _ us hl => match us, hl with | [_, _, _], _ => rfl),
    tell := dm_mk a_88 g_88 k_88 l_88 c_88 (fun _ _ _ _ _ _ us hl => match us, hl with | [_, _, _], _ => rfl),
    tell_number := dm_mk4 a_89 g_89 k_89 l_89 c_89 td_89,
    tell_number5 := dm_mk5 a_89 g_89 k_89 l_89 c_89 td_89,
    tell_text := dm_mk a_91 g_91 k_91 l_91 c_91 (fun _ _ _ _ _ _ us hl => match us, hl with | [_, _, _, _], _ => rfl),
    check_length := df_mk X G a_92 l_92 c_92 k_92 (fun _ _ _ _ _ _ us hl => match us, hl with | [_, _], _ => rfl),
    tell_place := df_mk X G a_93 l_93 c_93 k_93 (fun _ _ _ _ _ _ us hl => match us, hl with | [_, _], _ => rfl),
    tell_way := df_mk X G a_94 l_94 c_94 k_94 (fun _ _ _ _ _ _ us hl => match us, hl with | [_, _, _], _ => rfl),
    tell_sizes := df_mk X G a_95 l_95 c_95 k_95 (fun _ _ _ _ _ _ us hl => match us, hl with | [_, _], _ => rfl),
    tell_date := df_mk X G a_96 l_96 c_96 k_96 (fun _ _ _ _ _ _ us hl => match us, hl with | [_, _], _ => rfl),
    tell_turn := df_mk X G a_97 l_97 c_97 k_97 (fun _ _ _ _ _ _ us hl => match us, hl with | [_, _], _ => rfl),
    tell_kinds_1_2_3 := df_mk X G a_98 l_98 c_98 k_98 (fun _ _ _ _ _ _ us hl => match us, hl with | [_], _ => rfl),
    tell_kind_4 := df_mk X G a_99 l_99 c_99 k_99 (fun _ _ _ _ _ _ us hl => match us, hl with | [_], _ => rfl),
    tell_kind_5 := df_mk X G a_100 l_100 c_100 k_100 (fun _ _ _ _ _ _ us hl => match us, hl with | [_], _ => rfl),
    tell_kind_18 := df_mk X G a_101 l_101 c_101 k_101 (fun _ _ _ _ _ _ us hl => match us, hl with | [_], _ => rfl),
    tell_kind_24 := df_mk X G a_102 l_102 c_102 k_102 (fun _ _ _ _ _ _ us hl => match us, hl with | [_], _ => rfl),
    tell_by_kind := df_mk X G a_103 l_103 c_103 k_103 (fun _ _ _ _ _ _ us hl => match us, hl with | [_], _ => rfl),
    read_message := df_mk X G a_104 l_104 c_104 k_104 (fun _ _ _ _ _ _ us hl => match us, hl with | [_], _ => rfl),
    Begun := dk_mk (PySem.W.mg_of X G n_cb) m_105 a_105 g_105 k_105 l_105 c_105 (fun _ _ _ _ _ _ us hl => match us, hl with | [_, _, _], _ => rfl),
    Waiting := dk_mk (PySem.W.mg_of X G n_cw) m_106 a_106 g_106 k_106 l_106 c_106 (fun _ _ _ _ _ _ us hl => match us, hl with | [_], _ => rfl),
    take := dm_mk a_107 g_107 k_107 l_107 c_107 (fun _ _ _ _ _ _ us hl => match us, hl with | [_, _, _], _ => rfl),
    forget := dm_mk a_108 g_108 k_108 l_108 c_108 (fun _ _ _ _ _ _ us hl => match us, hl with | [_, _], _ => rfl),
    begin := dm_mk a_109 g_109 k_109 l_109 c_109 (fun _ _ _ _ _ _ us hl => match us, hl with | [_, _, _], _ => rfl),
    go_on := dm_mk a_110 g_110 k_110 l_110 c_110 (fun _ _ _ _ _ _ us hl => match us, hl with | [_, _], _ => rfl),
    Ship := dk_mk (PySem.W.mg_of X G n_ch) m_111 a_111 g_111 k_111 l_111 c_111 (fun _ _ _ _ _ _ us hl => match us, hl with | [_], _ => rfl),
    Ships := dk_mk (PySem.W.mg_of X G n_cf) m_112 a_112 g_112 k_112 l_112 c_112 (fun _ _ _ _ _ _ us hl => match us, hl with | [_], _ => rfl),
    hear_line := dm_mk a_113 g_113 k_113 l_113 c_113 (fun _ _ _ _ _ _ us hl => match us, hl with | [_, _, _, _, _], _ => rfl),
    take_line := dm_mk a_114 g_114 k_114 l_114 c_114 (fun _ _ _ _ _ _ us hl => match us, hl with | [_, _], _ => rfl),
    keep := dm_mk a_115 g_115 k_115 l_115 c_115 (fun _ _ _ _ _ _ us hl => match us, hl with | [_, _], _ => rfl),
    make_room := dm_mk a_116 g_116 k_116 l_116 c_116 (fun _ _ _ _ _ _ us hl => match us, hl with | [_], _ => rfl),
    list_ships := dm_mk a_117 g_117 k_117 l_117 c_117 (fun _ _ _ _ _ _ us hl => match us, hl with | [_, _], _ => rfl),
    answers := df_mk X G a_118 l_118 c_118 k_118 (fun _ _ _ _ _ _ us hl => match us, hl with | [_], _ => rfl) },
    ⟨dif⟩, ⟨mis_ll, mis_ol, mis_oo, mis_pl, mis_po, mis_pp, mis_ml, mis_mo, mis_mp, mis_mm⟩⟩
end Sr
namespace PySem.W.Fast
def tw7888355069663063018:=0
def tw4355204572699846976:=0
def tw642349462630430587:=0
def tw11925630831909333307:=0
def tw10755705354708456001:=0
def tw12844586424883943159:=0
def tw4332486509216275108:=0
def tw14095591743680761928:=0
def tw1522267294170827547:=0
def tw10209051642435630006:=0
def tw8061165493638132905:=0
def tw4253026056916398519:=0
def tw5612266827245723458:=0
def tw9824878111982428280:=0
def tw1444873043392940663:=0
def tw5577587971553687698:=0
def tw10566570124636936803:=0
def tw238544351817000109:=0
def tw15627228822656744384:=0
def tw16592138125110291770:=0
def tw10871226125936108655:=0
def tw14221298391287156639:=0
def tw7386489383773070482:=0
def tw18398646345179672885:=0
def tw18087633479379936465:=0
def tw14839371080056872245:=0
def tw13570653707684131471:=0
def tw18352093256916883479:=0
def tw8083288679605370202:=0
def tw14155480951713666954:=0
def tw17834706159935962192:=0
def tw15661372413150591858:=0
def tw642346902364531638:=0
def tw13545023902727222894:=0
def tw17855570811795995030:=0
def tw5312096097812066451:=0
def tw16062908169936039152:=0
def tw12459982323881657123:=0
def tw9478795356518010261:=0
def tw12690494326856416378:=0
def tw15208043897515524917:=0
def tw6079957899780460465:=0
def tw8797989073476397407:=0
def tw16778550995278325056:=0
def tw1594816392471384184:=0
def tw2733009629562232026:=0
def tw7983580106742801371:=0
def tw1901014745722161725:=0
def tw7105100813552113982:=0
def tw12907443004404625015:=0
def tw4371604618402863372:=0
def tw8518374904241004293:=0
def tw7394439413109451486:=0
def tw4688501926199938108:=0
def tw13068255951290195218:=0
def tw7031222287565459721:=0
def tw777418985553807378:=0
def tw2950802147910312416:=0
def tw15771313017278198211:=0
def tw3882750945280246660:=0
def tw5451845557440454619:=0
def tw1128647746977885124:=0
def tw7212366810950905527:=0
def tw18135959420148585797:=0
def tw3910943569000246297:=0
def tw8754485896499110661:=0
def tw5502905468699841214:=0
def tw11523928000769693366:=0
def tw903662519189273912:=0
def tw3893134089405493362:=0
def tw11906994347172957893:=0
def tw14242905265130308242:=0
def tw15508648332673987280:=0
def tw1263879245057426409:=0
def tw18085293837838891043:=0
def tw398791085876570664:=0
def tw283978673971900217:=0
def tw15464876404403442706:=0
def tw11894432442839735086:=0
def tw11832701554024639217:=0
def tw16916718713857877930:=0
def tw1667845102739288081:=0
def tw4968007720210845995:=0
def tw3544277615264934132:=0
def tw822068294085857777:=0
def tw784984717370781079:=0
def tw2572042680050133940:=0
def tw4843708042265203300:=0
def tw4419698328536232700:=0
def tw4812345908362081738:=0
def tw14882448764694970033:=0
def tw14582825837756653204:=0
def tw9177495699314238601:=0
def tw979715881876696875:=0
def tw10659830836114481920:=0
def tw7143251450200224081:=0
def tw9801780617656401035:=0
def tw2741467519344301281:=0
def tw11060307803850754515:=0
def tw2973793411933595843:=0
def tw10304313915311513383:=0
def tw5535141282530985257:=0
def tw4012914298709517199:=0
def tw11918202040536567912:=0
def tw9404659063529331001:=0
def tw7353089652825535117:=0
def tw5677076222753107460:=0
def tw8316441865240982243:=0
def tw9462143190008622244:=0
def tw3797223924079449996:=0
def tw5712202196105964435:=0
def tw11709788134890979135:=0
def tw9429842758240417182:=0
def tw15853807938705920410:=0
def tw9945798455364252780:=0
def tw14201987156031993115:=0
def tw11699986540173913720:=0
def tw15714306762598639548:=0
def tw10958457816980831111:=0
def tw3027764743190436127:=0
def tw15181032749079065749:=0
def tw15688594849400132871:=0
def tw16426064913936268186:=0
def tw3091940200574141210:=0
def tw10419065293208394719:=0
def tw7066785853718249634:=0
def tw1588979575464904610:=0
def tw18241155681244195095:=0
def tw978625580281151047:=0
def tw15098832148664386017:=0
def tw17337345495421957125:=0
def tw5870995436715977286:=0
def tw1886900639861181912:=0
def tw15139970473115827376:=0
def tw805382408012471722:=0
def tw16648456799136956039:=0
def tw18254598238643785397:=0
def tw611063782755034585:=0
def tw4321812454371042524:=0
def tw12322381011610725030:=0
def tw11701370005401040761:=0
def tw9123640827189587568:=0
def tw15311952597555029495:=0
def tw18037590228054807105:=0
def tw3318008148314372439:=0
def tw4593696726504480175:=0
def tw10675686667801048413:=0
def tw4501362247445085289:=0
def tw4895762426604298590:=0
def tw1593810326295984398:=0
def tw15602525760662126292:=0
def tw14049848168457554419:=0
def tw17940745820745829851:=0
def tw2721472515691884241:=0
def tw16892529317695714026:=0
def tw4755554144709493132:=0
def tw1977930034880090535:=0
def tw7014956509216621549:=0
def tw10451998224947883617:=0
def tw3549151626242612564:=0
def tw12423828676784184732:=0
def tw11840710951122885404:=0
def tw9207888994985890386:=0
def tw17308157444158147115:=0
def tw17261560770580949049:=0
def tw7711792145893665357:=0
def tw10309709054489210376:=0
def tw9209388963886813282:=0
def tw12833933008040440315:=0
def tw4349982228463727349:=0
def tw5763804972835409643:=0
def tw484379097747538939:=0
def tw5592033311600268519:=0
def tw17325162087168461020:=0
def tw15332890968372721702:=0
def tw12009706181809362547:=0
def tw5322164063047852687:=0
def tw9406818486339546517:=0
def tw16152263942169278469:=0
def tw13057289420239587707:=0
def tw13261376930139863412:=0
def tw29402810418362565:=0
def tw15461002345447067463:=0
def tw15228973975119119029:=0
def tw12662751329065302273:=0
def tw3072285357978459281:=0
def tw4218653559093790581:=0
def tw11617788520594038015:=0
def tw4539294470367189946:=0
def tw11994579528632981861:=0
def tw504892423153843795:=0
def tw15188736023210770253:=0
def tw17564167742498199247:=0
def tw9999326953614390850:=0
def tw8188979919072198441:=0
def tw2914615944761029487:=0
def tw4270612025998743591:=0
def tw6492353663312305670:=0
def tw18213930891091092914:=0
def tw157785374256028081:=0
def tw17071745129631889219:=0
def tw8977901722308983910:=0
def tw17678912120032383947:=0
def tw6761738979896046619:=0
def tw3144218225387710470:=0
def tw2437247384746625047:=0
def tw1856164962218063165:=0
def tw4550574482909212143:=0
def tw7609374106582206656:=0
def tw13411932594661206620:=0
def tw5830262348296658954:=0
def tw14399763138752059596:=0
def tw7255650559158719927:=0
def tw13901260209555187154:=0
def tw11998648950789184113:=0
def tw12007760848514868395:=0
def tw6378636045401614500:=0
def tw14940509205524977481:=0
def tw11714694294393481446:=0
def tw8899252815856954575:=0
def tw9051683532927437256:=0
def tw442372715220431769:=0
def tw16254498640768714875:=0
def tw8381966261188395059:=0
def tw1172654813717177112:=0
def tw4871357639851772528:=0
def tw184925664833145548:=0
def tw16841112889506938852:=0
def tw8654505383568212610:=0
def tw7316761830575748967:=0
def tw3157955269287596122:=0
def tw11109791996407232099:=0
def tw16492727018201783730:=0
def tw6360089121011191244:=0
def tw4019404828939517580:=0
def tw3736593453608728230:=0
def tw327169067692592869:=0
def tw494545155747883492:=0
def tw7415504761265673586:=0
def tw13597024080816105691:=0
def tw1111639636147823797:=0
def tw245933815356685396:=0
def tw2915543091975746956:=0
def tw3808858933953120142:=0
def tw17012305353652720382:=0
def tw9327631525866084844:=0
def tw1979994788399612004:=0
def tw3588965073324480326:=0
def tw6847359582347896155:=0
def tw13130719770959605693:=0
def tw10816044734162527045:=0
def tw11618265933062924255:=0
def tw14180329088600866782:=0
def tw2384905028235943069:=0
def tw6763088337950026138:=0
def tw16455851714486150102:=0
def tw6721166261351919284:=0
def tw7995259735456685253:=0
def tw15977833901161988161:=0
def tw2606742458172655116:=0
def tw9642754520272076199:=0
def tw9761016718406386759:=0
def tw3493235030471880215:=0
def tw13058324459162937230:=0
def tw17256122235933107437:=0
def tw17813298388581165015:=0
def tw2947905639094942821:=0
def tw1693042157503839137:=0
def tw17044164776241605795:=0
def tw16309132596808089602:=0
def tw12106610592401955858:=0
def tw2112902827486602343:=0
def tw8752457673113753427:=0
def tw10750426174768683941:=0
def tw4810824638720292270:=0
def tw2348810719320635843:=0
def tw11601594749206967435:=0
def tw16394219783843286273:=0
def tw8879889610575764670:=0
def tw2039509660438345603:=0
def tw15787840264508430599:=0
def tw11302118633147968:=0
def tw7799078978586092474:=0
def tw7814789295087269299:=0
def tw11703462189395160795:=0
def tw7498244886222873064:=0
def tw16492645319943305586:=0
def tw10488729246664296018:=0
def tw14370597413859977351:=0
def tw12355490366371435949:=0
def tw5094819825795285767:=0
def tw4777801800847780301:=0
def tw3701598609746533400:=0
def tw865686067334001086:=0
def tw14200513727560983500:=0
def tw2811411529278335721:=0
def tw7551864251080230417:=0
def tw18004765923843752718:=0
def tw13264656406462623451:=0
def tw16620889301545995570:=0
def tw11593831116059168208:=0
def tw15794883954314110546:=0
def tw3921283135440279836:=0
def tw18014455418678066655:=0
def tw18126573891851670497:=0
def tw8434723989918119098:=0
def tw1804451784418880022:=0
def tw4823703155092771817:=0
def tw6813250936623259813:=0
def tw717079813297981131:=0
def tw2463872738278493250:=0
def tw5189605454987218508:=0
def tw370484508556026047:=0
def tw14516410790290186546:=0
def tw10687801802485533154:=0
def tw7638404327864141453:=0
def tw13739606708668981804:=0
def tw13091008319171016812:=0
def tw3063926775950603302:=0
def tw10658469052117463200:=0
def tw16852964362469502635:=0
def tw9770995692988561154:=0
def tw1538558768842894859:=0
def tw12022172085408018889:=0
def tw3854668045445594483:=0
def tw17325211444754489389:=0
def tw5397130212720103999:=0
def tw6635007668669347142:=0
def tw2698113300381820447:=0
def tw12522575778086572874:=0
def tw6023993361980973211:=0
def tw16282004220264995963:=0
def tw6337808562179582574:=0
def tw10351169470940041529:=0
def tw16380493746400271773:=0
def tw5015122301226690824:=0
def tw15164405879713042302:=0
def tw5740190189116414769:=0
def tw13445078414494316334:=0
def tw17166457509698319814:=0
def tw16976547467890511422:=0
def tw2871391779544481290:=0
def tw18198476333382740421:=0
def tw9235468861991116522:=0
def tw15856223362998560330:=0
def tw9870601698086649850:=0
def tw6416669348348331188:=0
def tw14743305245317010613:=0
def tw1668373980094644914:=0
def tw4349510372695596143:=0
def tw15763251112461910057:=0
def tw6074160906274519493:=0
def tw1168789672257445538:=0
def tw7261766228505349309:=0
def tw5589594329420609535:=0
def tw8389639282523846706:=0
def tw7063994039312466096:=0
def tw8471909806293972738:=0
def tw15903681556147506575:=0
def tw10053660402972302442:=0
def tw5116547824704644986:=0
def tw683675618452877215:=0
def tw4655542450364729519:=0
def tw7276329392815570353:=0
def tw7993671341097382148:=0
def tw14209811253414164626:=0
def tw6028363883792415204:=0
def tw8717700368141984294:=0
def tw11323587136784996571:=0
def tw14386707900173271384:=0
def tw11420409759216179139:=0
def tw9619298429368262676:=0
def tw2483056325702858391:=0
def tw7453179668402094118:=0
def tw14151758307480499638:=0
def tw13142018931999260688:=0
def tw14234002695417921377:=0
def tw6020523174121820002:=0
def tw6867923011008108099:=0
def tw10935643036907070622:=0
def tw3364787177500120003:=0
def tw12991931985400726054:=0
def tw6101472424976244552:=0
def tw7474707942821234359:=0
def tw17807143346217663054:=0
def tw1196427302943043576:=0
def tw8193420012001168995:=0
def tw10007625113062241600:=0
def tw6897634916628824979:=0
def tw11290872335353939642:=0
def tw7022681801958500619:=0
def tw2897837719873244974:=0
def tw17048581705145707327:=0
def tw2094052791474159595:=0
def tw12384444563409520302:=0
def tw13965773129966433596:=0
def tw13830886355711894345:=0
def tw6823239132627299803:=0
def tw15461438305171281809:=0
def tw16759176481073870076:=0
def tw15046774727981246246:=0
def tw3838117838078521680:=0
def tw3021261553982364647:=0
def tw87918252160002171:=0
def tw62454658073874457:=0
def tw4679641196977337242:=0
def tw7849940306942020442:=0
def tw283466617737657773:=0
def tw6939291135947497335:=0
def tw11314685348998831053:=0
def tw15532107303850346258:=0
def tw7290416215006286414:=0
def tw9175435380969081308:=0
def tw2142090376716556202:=0
def tw10683136252634891538:=0
def tw13567497999920680465:=0
def tw5479279758300315980:=0
def tw4105361831750400418:=0
def tw17291137053545541890:=0
def tw3876748683906189573:=0
def tw3952043603761890731:=0
def tw8251943227475051617:=0
def tw6701180646824560214:=0
def tw2079612890992381116:=0
def tw8631389232168466027:=0
def tw6188236697751412811:=0
def tw12308972194678641064:=0
def tw17907804886448519649:=0
def tw2325059079977508323:=0
def tw9811220322037168759:=0
def tw16820117365125866175:=0
def tw17054927045202252839:=0
def tw15748989852747468355:=0
def tw16567115393624922874:=0
def tw552483984276765450:=0
def tw10793169025497637554:=0
def tw16288181348876969014:=0
def tw16826474589280177374:=0
def tw2691088969054423712:=0
def tw7522671152224270469:=0
def tw16715519465597044492:=0
def tw6440046185376952262:=0
def tw281190600118986309:=0
def tw4708188300569973552:=0
def tw10551705270042067407:=0
def tw7141044025565933796:=0
def tw12043678556302096990:=0
def tw8148748230217879861:=0
def tw11685300672538203212:=0
def tw647750796692175507:=0
def tw3899729471267797701:=0
def tw1409384528757939728:=0
def tw2736865962764107201:=0
def tw1574037438628250151:=0
def tw2104453968277354911:=0
def tw7493940977955887157:=0
def tw8056340260811221028:=0
def tw14126475243286647319:=0
def tw16071107594911876717:=0
def tw17361325480705752171:=0
def tw9333023415149351236:=0
def tw10426560431123083452:=0
def tw18422599177569200027:=0
def tw9421318937865154214:=0
def tw12851732457004452680:=0
def tw1951573014278140244:=0
def tw13760151150614348701:=0
def tw6669207772995014476:=0
def tw4257876106867200810:=0
def tw17908664131807853114:=0
def tw10924570396007458470:=0
def tw2596994320425574669:=0
def tw1727974993075667644:=0
def tw5167912755069493543:=0
def tw8477082965385212995:=0
def tw10372197333870513171:=0
def tw290554554268564710:=0
def tw9752839340508714075:=0
def tw10869893860122216747:=0
def tw3116043586477286506:=0
def tw15610059469949955446:=0
def tw8267895348485447761:=0
def tw1309088728088512276:=0
def tw15416852874083584854:=0
def tw11267753344540965682:=0
def tw2853077382724507884:=0
def tw6245720934120403275:=0
def tw15155174711769703975:=0
def tw12298650596071113239:=0
def tw1323153887775767676:=0
def tw2344001808625297818:=0
def tw4614985536774720153:=0
end PySem.W.Fast
open PySem PySem.W PyProof.Rows
set_option maxRecDepth 100000 in
set_option maxHeartbeats 0 in
theorem PySem.Challenge.cw_shipradio_s01_answers_holds : PySem.Challenge.rw_shipradio_s01_answers.Holds := by
  w_on; k_headS; (case hw => exact ⟨[.list []], by decide +kernel, by decide +kernel⟩)
  k_fillS
  refine Sr.walk_ship rfl (fun w h Y => PySem.W.kIn_of Y) ?F
  case F =>
    intro w mg fa h KX G hmg
    have T : ∃ a : Sr.Adr, Sr.Txt (L2.KOf KX) mg a ∧ Sr.Dif a ∧ Sr.Mis (L2.KOf KX) a := by
      dsimp only [L2.KOf]
      refine' Sr.all_mk KX G ?n_cs ?n_cm ?n_cb ?n_cw ?n_ch ?n_cf ?n_xl ?n_xo ?n_xm ?n_xp ?n_tw ?n_ts ?n_tc ?b_1 ?b_2 ?b_3 ?b_4 ?b_5 ?b_6 ?b_7 ?b_8 ?b_9 ?b_10 ?b_11 ?i_12 ?i_13 ?i_14 ?i_15 ?i_16 ?i_17 ?i_18 ?i_19 ?s_20 ?y1_20 ?i_21 ?i_22 ?i_23 ?i_24 ?i_25 ?i_26 ?i_27 ?i_28 ?i_29 ?i_30 ?i_31 ?i_32 ?i_33 ?i_34 ?l_tw ?v_tw ?l_ts ?v_ts ?l_tc ?v_tc ?e_xl ?e_xo ?e_xm ?e_xp ?pg_cs ?hd_cs ?po_cs ?sa_cs ?pg_cm ?hd_cm ?po_cm ?sa_cm ?pg_cb ?hd_cb ?po_cb ?sa_cb ?pg_cw ?hd_cw ?po_cw ?sa_cw ?pg_ch ?hd_ch ?po_ch ?sa_ch ?pg_cf ?hd_cf ?po_cf ?sa_cf ?na_48 ?na_49 ?na_50 ?na_51 ?na_52 ?na_53 ?na_54 ?na_55 ?na_56 ?na_57 ?na_58 ?na_59 ?na_60 ?na_61 ?na_62 ?na_63 ?na_64 ?a_65 ?l_65 ?c_65 ?k_65 ?a_66 ?l_66 ?c_66 ?k_66 ?a_67 ?l_67 ?c_67 ?k_67 ?a_68 ?l_68 ?c_68 ?k_68 ?m_69 ?a_69 ?g_69 ?k_69 ?l_69 ?c_69 ?a_70 ?l_70 ?c_70 ?k_70 ?a_71 ?l_71 ?c_71 ?k_71 ?a_72 ?l_72 ?c_72 ?k_72 ?a_73 ?l_73 ?c_73 ?k_73 ?a_74 ?l_74 ?c_74 ?k_74 ?a_75 ?l_75 ?c_75 ?k_75 ?a_76 ?l_76 ?c_76 ?k_76 ?a_77 ?l_77 ?c_77 ?k_77 ?a_78 ?l_78 ?c_78 ?k_78 ?a_79 ?l_79 ?c_79 ?k_79 ?a_80 ?l_80 ?c_80 ?k_80 ?a_81 ?l_81 ?c_81 ?k_81 ?a_82 ?l_82 ?c_82 ?k_82 ?a_83 ?l_83 ?c_83 ?k_83 ?m_84 ?a_84 ?g_84 ?k_84 ?l_84 ?c_84 ?a_85 ?g_85 ?k_85 ?l_85 ?c_85 ?a_86 ?g_86 ?k_86 ?l_86 ?c_86 ?a_87 ?g_87 ?k_87 ?l_87 ?c_87 ?a_88 ?g_88 ?k_88 ?l_88 ?c_88 ?a_89 ?g_89 ?k_89 ?l_89 ?c_89 ?td_89 ?a_91 ?g_91 ?k_91 ?l_91 ?c_91 ?a_92 ?l_92 ?c_92 ?k_92 ?a_93 ?l_93 ?c_93 ?k_93 ?a_94 ?l_94 ?c_94 ?k_94 ?a_95 ?l_95 ?c_95 ?k_95 ?a_96 ?l_96 ?c_96 ?k_96 ?a_97 ?l_97 ?c_97 ?k_97 ?a_98 ?l_98 ?c_98 ?k_98 ?a_99 ?l_99 ?c_99 ?k_99 ?a_100 ?l_100 ?c_100 ?k_100 ?a_101 ?l_101 ?c_101 ?k_101 ?a_102 ?l_102 ?c_102 ?k_102 ?a_103 ?l_103 ?c_103 ?k_103 ?a_104 ?l_104 ?c_104 ?k_104 ?m_105 ?a_105 ?g_105 ?k_105 ?l_105 ?c_105 ?m_106 ?a_106 ?g_106 ?k_106 ?l_106 ?c_106 ?a_107 ?g_107 ?k_107 ?l_107 ?c_107 ?a_108 ?g_108 ?k_108 ?l_108 ?c_108 ?a_109 ?g_109 ?k_109 ?l_109 ?c_109 ?a_110 ?g_110 ?k_110 ?l_110 ?c_110 ?m_111 ?a_111 ?g_111 ?k_111 ?l_111 ?c_111 ?m_112 ?a_112 ?g_112 ?k_112 ?l_112 ?c_112 ?a_113 ?g_113 ?k_113 ?l_113 ?c_113 ?a_114 ?g_114 ?k_114 ?l_114 ?c_114 ?a_115 ?g_115 ?k_115 ?l_115 ?c_115 ?a_116 ?g_116 ?k_116 ?l_116 ?c_116 ?a_117 ?g_117 ?k_117 ?l_117 ?c_117 ?a_118 ?l_118 ?c_118 ?k_118 ?dif ?mis_ll ?mis_ol ?mis_oo ?mis_pl ?mis_po ?mis_pp ?mis_ml ?mis_mo ?mis_mp ?mis_mm
      (case n_cs => k_is)
      (case n_cm => k_is)
      (case n_cb => k_is)
      (case n_cw => k_is)
      (case n_ch => k_is)
      (case n_cf => k_is)
      (case n_xl => k_is)
      (case n_xo => k_is)
      (case n_xm => k_is)
      (case n_xp => k_is)
      (case n_tw => k_is)
      (case n_ts => k_is)
      (case n_tc => k_is)
      (case b_1 => k_is)
      (case b_2 => k_is)
      (case b_3 => k_is)
      (case b_4 => k_is)
      (case b_5 => k_is)
      (case b_6 => k_is)
      (case b_7 => k_is)
      (case b_8 => k_is)
      (case b_9 => k_is)
      (case b_10 => k_is)
      (case b_11 => k_is)
      (case i_12 => k_is)
      (case i_13 => k_is)
      (case i_14 => k_is)
      (case i_15 => k_is)
      (case i_16 => k_is)
      (case i_17 => k_is)
      (case i_18 => k_is)
      (case i_19 => k_is)
      (case s_20 => k_is)
      (case y1_20 => decide +kernel)
      (case i_21 => k_is)
      (case i_22 => k_is)
      (case i_23 => k_is)
      (case i_24 => k_is)
      (case i_25 => k_is)
      (case i_26 => k_is)
      (case i_27 => k_is)
      (case i_28 => k_is)
      (case i_29 => k_is)
      (case i_30 => k_is)
      (case i_31 => k_is)
      (case i_32 => k_is)
      (case i_33 => k_is)
      (case i_34 => k_is)
      (case l_tw => k_is)
      (case v_tw => decide +kernel)
      (case l_ts => k_is)
      (case v_ts => decide +kernel)
      (case l_tc => k_is)
      (case v_tc => decide +kernel)
      (case e_xl => kernel_rfl)
      (case e_xo => kernel_rfl)
      (case e_xm => kernel_rfl)
      (case e_xp => kernel_rfl)
      (case pg_cs => k_is)
      (case hd_cs => k_is)
      (case po_cs => k_is)
      (case sa_cs => k_is)
      (case pg_cm => k_is)
      (case hd_cm => k_is)
      (case po_cm => k_is)
      (case sa_cm => k_is)
      (case pg_cb => k_is)
      (case hd_cb => k_is)
      (case po_cb => k_is)
      (case sa_cb => k_is)
      (case pg_cw => k_is)
      (case hd_cw => k_is)
      (case po_cw => k_is)
      (case sa_cw => k_is)
      (case pg_ch => k_is)
      (case hd_ch => k_is)
      (case po_ch => k_is)
      (case sa_ch => k_is)
      (case pg_cf => k_is)
      (case hd_cf => k_is)
      (case po_cf => k_is)
      (case sa_cf => k_is)
      (case na_48 => k_is)
      (case na_49 => k_is)
      (case na_50 => k_is)
      (case na_51 => k_is)
      (case na_52 => k_is)
      (case na_53 => k_is)
      (case na_54 => k_is)
      (case na_55 => k_is)
      (case na_56 => k_is)
      (case na_57 => k_is)
      (case na_58 => k_is)
      (case na_59 => k_is)
      (case na_60 => k_is)
      (case na_61 => k_is)
      (case na_62 => k_is)
      (case na_63 => k_is)
      (case na_64 => k_is)
      (case a_65 => k_is)
      (case l_65 => k_is)
      (case c_65 => k_is)
      (case k_65 => k_is)
      (case a_66 => k_is)
      (case l_66 => k_is)
      (case c_66 => k_is)
      (case k_66 => k_is)
      (case a_67 => k_is)
      (case l_67 => k_is)
      (case c_67 => k_is)
      (case k_67 => k_is)
      (case a_68 => k_is)
      (case l_68 => k_is)
      (case c_68 => k_is)
      (case k_68 => k_is)
      (case m_69 => k_is)
      (case a_69 => k_is)
      (case g_69 => k_is)
      (case k_69 => k_is)
      (case l_69 => k_is)
      (case c_69 => k_is)
      (case a_70 => k_is)
      (case l_70 => k_is)
      (case c_70 => k_is)
      (case k_70 => k_is)
      (case a_71 => k_is)
      (case l_71 => k_is)
      (case c_71 => k_is)
      (case k_71 => k_is)
      (case a_72 => k_is)
      (case l_72 => k_is)
      (case c_72 => k_is)
      (case k_72 => k_is)
      (case a_73 => k_is)
      (case l_73 => k_is)
      (case c_73 => k_is)
      (case k_73 => k_is)
      (case a_74 => k_is)
      (case l_74 => k_is)
      (case c_74 => k_is)
      (case k_74 => k_is)
      (case a_75 => k_is)
      (case l_75 => k_is)
      (case c_75 => k_is)
      (case k_75 => k_is)
      (case a_76 => k_is)
      (case l_76 => k_is)
      (case c_76 => k_is)
      (case k_76 => k_is)
      (case a_77 => k_is)
      (case l_77 => k_is)
      (case c_77 => k_is)
      (case k_77 => k_is)
      (case a_78 => k_is)
      (case l_78 => k_is)
      (case c_78 => k_is)
      (case k_78 => k_is)
      (case a_79 => k_is)
      (case l_79 => k_is)
      (case c_79 => k_is)
      (case k_79 => k_is)
      (case a_80 => k_is)
      (case l_80 => k_is)
      (case c_80 => k_is)
      (case k_80 => k_is)
      (case a_81 => k_is)
      (case l_81 => k_is)
      (case c_81 => k_is)
      (case k_81 => k_is)
      (case a_82 => k_is)
      (case l_82 => k_is)
      (case c_82 => k_is)
      (case k_82 => k_is)
      (case a_83 => k_is)
      (case l_83 => k_is)
      (case c_83 => k_is)
      (case k_83 => k_is)
      (case m_84 => k_is)
      (case a_84 => k_is)
      (case g_84 => k_is)
      (case k_84 => k_is)
      (case l_84 => k_is)
      (case c_84 => k_is)
      (case a_85 => k_is)
      (case g_85 => k_is)
      (case k_85 => k_is)
      (case l_85 => k_is)
      (case c_85 => k_is)
      (case a_86 => k_is)
      (case g_86 => k_is)
      (case k_86 => k_is)
      (case l_86 => k_is)
      (case c_86 => k_is)
      (case a_87 => k_is)
      (case g_87 => k_is)
      (case k_87 => k_is)
      (case l_87 => k_is)
      (case c_87 => k_is)
      (case a_88 => k_is)
      (case g_88 => k_is)
      (case k_88 => k_is)
      (case l_88 => k_is)
      (case c_88 => k_is)
      (case a_89 => k_is)
      (case g_89 => k_is)
      (case k_89 => k_is)
      (case l_89 => k_is)
      (case c_89 => k_is)
      (case td_89 => k_is)
      (case a_91 => k_is)
      (case g_91 => k_is)
      (case k_91 => k_is)
      (case l_91 => k_is)
      (case c_91 => k_is)
      (case a_92 => k_is)
      (case l_92 => k_is)
      (case c_92 => k_is)
      (case k_92 => k_is)
      (case a_93 => k_is)
      (case l_93 => k_is)
      (case c_93 => k_is)
      (case k_93 => k_is)
      (case a_94 => k_is)
      (case l_94 => k_is)
      (case c_94 => k_is)
      (case k_94 => k_is)
      (case a_95 => k_is)
      (case l_95 => k_is)
      (case c_95 => k_is)
      (case k_95 => k_is)
      (case a_96 => k_is)
      (case l_96 => k_is)
      (case c_96 => k_is)
      (case k_96 => k_is)
      (case a_97 => k_is)
      (case l_97 => k_is)
      (case c_97 => k_is)
      (case k_97 => k_is)
      (case a_98 => k_is)
      (case l_98 => k_is)
      (case c_98 => k_is)
      (case k_98 => k_is)
      (case a_99 => k_is)
      (case l_99 => k_is)
      (case c_99 => k_is)
      (case k_99 => k_is)
      (case a_100 => k_is)
      (case l_100 => k_is)
      (case c_100 => k_is)
      (case k_100 => k_is)
      (case a_101 => k_is)
      (case l_101 => k_is)
      (case c_101 => k_is)
      (case k_101 => k_is)
      (case a_102 => k_is)
      (case l_102 => k_is)
      (case c_102 => k_is)
      (case k_102 => k_is)
      (case a_103 => k_is)
      (case l_103 => k_is)
      (case c_103 => k_is)
      (case k_103 => k_is)
      (case a_104 => k_is)
      (case l_104 => k_is)
      (case c_104 => k_is)
      (case k_104 => k_is)
      (case m_105 => k_is)
      (case a_105 => k_is)
      (case g_105 => k_is)
      (case k_105 => k_is)
      (case l_105 => k_is)
      (case c_105 => k_is)
      (case m_106 => k_is)
      (case a_106 => k_is)
      (case g_106 => k_is)
      (case k_106 => k_is)
      (case l_106 => k_is)
      (case c_106 => k_is)
      (case a_107 => k_is)
      (case g_107 => k_is)
      (case k_107 => k_is)
      (case l_107 => k_is)
      (case c_107 => k_is)
      (case a_108 => k_is)
      (case g_108 => k_is)
      (case k_108 => k_is)
      (case l_108 => k_is)
      (case c_108 => k_is)
      (case a_109 => k_is)
      (case g_109 => k_is)
      (case k_109 => k_is)
      (case l_109 => k_is)
      (case c_109 => k_is)
      (case a_110 => k_is)
      (case g_110 => k_is)
      (case k_110 => k_is)
      (case l_110 => k_is)
      (case c_110 => k_is)
      (case m_111 => k_is)
      (case a_111 => k_is)
      (case g_111 => k_is)
      (case k_111 => k_is)
      (case l_111 => k_is)
      (case c_111 => k_is)
      (case m_112 => k_is)
      (case a_112 => k_is)
      (case g_112 => k_is)
      (case k_112 => k_is)
      (case l_112 => k_is)
      (case c_112 => k_is)
      (case a_113 => k_is)
      (case g_113 => k_is)
      (case k_113 => k_is)
      (case l_113 => k_is)
      (case c_113 => k_is)
      (case a_114 => k_is)
      (case g_114 => k_is)
      (case k_114 => k_is)
      (case l_114 => k_is)
      (case c_114 => k_is)
      (case a_115 => k_is)
      (case g_115 => k_is)
      (case k_115 => k_is)
      (case l_115 => k_is)
      (case c_115 => k_is)
      (case a_116 => k_is)
      (case g_116 => k_is)
      (case k_116 => k_is)
      (case l_116 => k_is)
      (case c_116 => k_is)
      (case a_117 => k_is)
      (case g_117 => k_is)
      (case k_117 => k_is)
      (case l_117 => k_is)
      (case c_117 => k_is)
      (case a_118 => k_is)
      (case l_118 => k_is)
      (case c_118 => k_is)
      (case k_118 => k_is)
      (case dif => decide)
      (case mis_ll => kernel_rfl)
      (case mis_ol => kernel_rfl)
      (case mis_oo => kernel_rfl)
      (case mis_pl => kernel_rfl)
      (case mis_po => kernel_rfl)
      (case mis_pp => kernel_rfl)
      (case mis_ml => kernel_rfl)
      (case mis_mo => kernel_rfl)
      (case mis_mp => kernel_rfl)
      (case mis_mm => kernel_rfl)
    obtain ⟨a, T, d, N⟩ := T
    obtain ⟨f, fd, h1, h2, h3, h4⟩ := T.answers.ex
    have e0 := hmg.symm.trans h1
    cases e0
    exact ⟨fd, h4, fun base kb nb => Sr.ok_answers T d N h3⟩
#print axioms PySem.Challenge.cw_shipradio_s01_answers_holds
